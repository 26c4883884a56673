import PyProof.Rows.All
import Wide.All
import OpenK.AllK
import Wide.FinOn
import Lean
import PyProof.EqAt
import PyProof.EqKinds
import PyProof.TupleCall
import PySem.Challenge.RW_wishstrike_k05_stands_and_wishes_refused
abbrev H0:=@decide_eq_false
abbrev JW:=@decide_eq_true
abbrev J2:=@if_pos
abbrev J9:=@if_neg
abbrev Li:=@of_decide_eq_true
abbrev Lv:=@beq_iff_eq
abbrev LR:=@or_false
abbrev LZ:=@congrArg
abbrev L3:=@if_false
abbrev L7:=@if_true
abbrev Ms:=@beq_eq_false_iff_ne
abbrev M8:=@decide_eq_true_eq
abbrev Nk:=@decide_eq_decide
abbrev PN:=@decide_eq_true_iff
abbrev Qs:=@beq_self_eq_true
open Array renaming length_toList→Kh,getElem?_toList→LP,getElem?_eq_getElem→Mg,getElem?_eq_some_iff→M6,mem_toList_iff→Na,getD→Nx,getD_eq_getD_getElem?→NU,size_setIfInBounds→Oo,getInternal_eq_getElem→Pp,getElem?_setIfInBounds→Pq,replicate→QU,filterMap→QV,toList_filterMap→Q6,toList→Si,foldl_toList→Sz,forIn_toList→SH,size_append→S9,mem_filter→TL,size_map→Um
open Bool renaming false_ne_true→Kl,and_eq_true→Ko,false_eq_true→K7,eq_iff_iff→Lm,true_and→Lp,false_and→Ls,or_eq_true→LC,and_false→Mb,not_eq_true→OV,and_true→U3,not_true→U4
open Classical renaming byContradiction→Oa
open False renaming elim→LB
open ForInStep renaming yield→Nr
open Iff renaming rfl→SV
open Int renaming toNat_natCast→Lc,emod_lt_of_pos→Mx,emod_nonneg→MZ,eq_ofNat_of_zero_le→Nm,le_refl→Ra,ediv_one→Vu,mul_one→VQ
open Lean renaming mkIdent→VN
open List renaming getElem?_eq_getElem→JZ,length_map→J0,mem_cons→J1,getElem?_eq_some_iff→J5,size_toArray→J8,range→J_,mem_singleton→Ka,replicate→Kb,getD_eq_getElem?_getD→Kd,mem_cons_of_mem→Kk,length_cons→Km,mem_cons_self→Ks,getElem?_map→Kv,not_mem_nil→Kw,map_cons→Kx,getElem?_append_left→Ky,mem_append→Kz,getElem?_append_right→KH,mem_append_right→KJ,filterMap_cons→KO,length_take→KS,mem_of_getElem?→K0,lookup_cons→K4,length_append→K5,mem_map→La,mem_range→Lb,pairwise_cons→Lr,getElem?_eq_none→Lw,all_cons→Lz,length_replicate→LO,nodup_cons→LU,getElem?_replicate→LW,mem_append_left→LY,mem_iff_getElem→L4,getElem_mem→L5,map_map→L6,take_of_length_le→L_,getElem?_toArray→Mi,length_set→Mr,all_eq_true→Mv,nodup_nil→Mz,pairwise_iff_getElem→MA,mem_of_mem_drop→MF,mem_of_mem_take→MG,replicate_succ→ML,getElem?_set_self→MR,Perm→MU,length_singleton→MX,mem_iff_getElem?→MY,getElem?_set_ne→M_,take_length→Nj,any_cons→Nn,getElem?_take→NA,drop_of_length_le→NG,eq_nil_of_length_eq_zero→NH,length_range→NL,take_append_drop→NP,append_nil→N9,mem_filterMap→Oe,all_map→Ol,getElem?_cons_zero→OC,eraseIdx_cons_succ→OD,getElem?_cons_succ→OE,reverse_cons→OH,getElem?_set→OL,nodup_append→OM,findIdx?→OO,length_drop→OS,any_eq_true→OU,filterMap_append→O3,mem_filter→O5,pairwise_append→O9,map_append→O_,length_nil→Pc,length_reverse→Pg,getElem?_range→Ph,map_congr_left→Pj,getElem?_drop→PB,findIdx?_cons→PF,length_eraseIdx_of_lt→P5,perm_ext_iff_of_nodup→P6,take_add_one→P8,append_assoc→P_,drop_eq_getElem_cons→Qg,nodup_range→Qy,of_mem_zip→QN,forIn_cons→QS,foldl_cons→QT,range_succ_eq_map→Q3,length_pos_of_mem→Q8,drop_eq_nil_of_le→Q_,getElem_toArray→RN,filterMap_map→So,find?_eq_none→Sy,any_map→SJ,any_eq_false→SX,ext_getElem?→Td,length→Tp,lookup→Ts,zipIdx_cons→Tx,any_toArray→TB,getElem_map→TN,zipIdx_nil→TZ,range_succ→T1,foldl→T4,forIn_nil→Uj,take_left→Ux,map_take→UZ,map_nil→Vv
open List.Pairwise renaming nil→NJ,filter→We,and→WO,map→WR
open List.Perm renaming append_left→Rt,of_eq→T6,cons→Ul
open Nat renaming le_refl→J3,ne_of_lt→Kf,lt_of_lt_of_le→Kt,le_trans→Lj,lt_irrefl→LK,le_of_lt→LM,zero_le→L9,ne_of_gt→MC,le_of_eq→Ni,le_add_right→NX,le_succ→N5,zero_add→Ot,mod_lt→Oz,lt_succ_of_lt→OI,min_eq_right→OY,min_eq_left→Pd,le_of_not_lt→Qt,lt_of_not_le→Qx,eq_zero_of_not_pos→Q9,lt_of_succ_lt_succ→Rc,add_left_cancel→R7,lt_of_lt_of_eq→Sw,min_self→Sx,sub_self→SA,lt_trichotomy→Tf,lt_succ_self→Tw,strongRecOn→Ub,not_lt_zero→Ud,lt_or_ge→VH
open Ne renaming symm→LN
open Option renaming map_eq_some_iff→LG,bind_eq_some_iff→MK,isSome_iff_exists→Nh,bind_some→OX,getD_none→Qp,map→Wf
open Option.some renaming inj→KA
open Or renaming inl→Qu,inr→Qv
open Prod renaming snd→Qz
open Prod.mk renaming inj→NF
open PyProof.Rows renaming slot_tuple_getitem→KP,IntsAre→K8,callWith_type1→K9,envOfC→Mj,callWith_builtin1→ME,seqObj→Nz,AllBare→Ov,entry_tuple_getitem→Pf,slicePart_none→Pm,IsTup→Pr,args_tuple_getitem→Px,subscriptTail_builtinR→QZ,Subscript_→RF,tupleItemsOf_→RU,subscriptTail→RX,Call_→SR,boot_range→TU,entry_list_sort→Ua,list_sort_tree→Ut,slot_list_sort→Uu,args_list_sort→Uv,test_link→UA,tail_any→Vw,isBoolOf→VM
open PyProof.Rows.F renaming plain_set_update_loop→LX,entry_set_update_loop→Nl
open PyProof.Rows.IsTup renaming new→QO
open PySem renaming wpAny_bind→ar,wpAny_pure→tx,Shared→JU,wpAny_ite_false→JX,wpAny→JY,model→J6,starEach→J7,Expr→Ke,bootBuiltins→Kj,Program→Kn,World→Kq,wpAny_setState_of→Kr,compareOp→Ku,eval→KC,Around→KD,wpAny_holding→KG,intKind→KI,wpAny_newObj_type→KN,wpAny_callSpecial?_slot→KQ,wpAny_field→KR,mainGlobals→KY,IsTupleKey→K2,wpAny_call_entry→K3,wpAny_typeOf→Lf,wpAny_ite_true→Lh,FuncData→Lk,wpAny_isInstance→Lo,wpAny_truthy_bool→Lq,mem_of_lookup→Lu,backTo→Ly,wpAny_seqItems→LA,SetTable→LF,wpAny_Call_Name_kw→LV,wpAny_loadPart_at→Md,wpAny_mono→Me,IsPair→Mf,codeAny_builtin→Mh,wpAny_setField_rec→Ml,codeAny_call_builtin→Mo,binaryOp→Mp,rawInt→Mw,wpAny_of_eq→MB,isInstance→MH,attributeBase→MI,Keyword→MN,assignEach→MS,Spec→M9,wpAny_call→Nb,sliceBounds→Nf,NameKind→Ng,pyNext→Nq,wpAny_pyIter_tuple→Nu,keywordEach→NC,wpAny_pyIter_list→NK,codeAny→NM,wpAny_setField→NO,wpAny_isSame_ref_self→NT,wpAny_rule→NW,wpAny_askSetting→NZ,behindInMarks→N1,holding→N3,sizeLine_eq→N4,wpAny_execs_nil→N7,wpAny_passesOwn→N8,codeAny_mono→Og,IsPart→Oi,noteFrame→Oj,wpAny_eqBool_tuple→Oq,intItems→Ou,call→Oy,wpAny_runValue→OA,foldedSetIterable→OF,wpAny_sequenceKey→OG,bindArgs→OR,backToKw→OT,hashInt→OZ,swapsWith→O0,getItem→O1,letOwnedTupleGo→O6,wpAny_updateSeq_pair→O7,codeAny_of_tree→Pa,checkCount→Pb,GenState→Pk,firstArgMember→Po,shownTypeOf→Pt,lastMarks→Pw,wpAny_standAt→PQ,wpAny_onRaise→PU,wpAny_attempt→PV,plainId_quiet→PY,typeNameOfCut→P0,ofAClassStatement→Qa,Draws→Qd,setEntries→Qe,BindsTo→Qj,callerA→Qk,wpAny_execs_cons→Ql,assign→Qm,pyIter→Qn,noFill_tuple_add→Qo,setAdd→QA,checkBuiltinCall→QC,wpAny_forIn_list→QF,wpAny_specialOf→QQ,numAt→QW,wpAny_letGo→Q0,wpAny_Call_method_late→Q5,Result→Rg,wpAny_listPart→Rh,relabel→Rj,setAddHashedIn→Rk,byScan→Rm,hashByValue_scannable→Rn,weight_type_call_type→Rp,builtinLookup_eq_fast→Rq,wpAny_eqIsQuiet_tuple→Ru,wpAny_Name→Ry,wpAny_loadName_local→Rz,bindL→RC,bindC→RD,field→RH,setsByText→RJ,noKeywords→RK,strPairs→RM,seq_tuple_add→RQ,evalPart_none→RV,wpAny_update'→R0,wpAny_newList→R3,strLen_append→R5,Paired→Se,isTrue→Sg,wpAny_Constant_int→Sh,concat_meets→Sn,seqIndex_neg→Ss,typeOf→Sv,setAddHashed→SD,pickOrder→SG,wpAny_pyHash_tuple→SI,Drawn→SK,Model→SM,spliced→SN,setItem→SO,standAt→SQ,leaving→SS,OsState→SU,wpAny_Assign_Name→SW,slot_list_getitem→S8,slot_list_setitem→S_,wpAny_pyIter_enum→Ta,wpAny_pyIter_slot→Th,searchCouldBeSeen→Ti,wpAny_storeSet_of→Tj,seqIndex_of→Tq,excClassObj→Tt,seqSlot_of→TC,wpAny_pyIter_zip→TF,check_set_init_1→TK,sysModules→TQ,builtinsNs→TR,CmpOp→TV,typeIs_int→TX,call_meets→TY,typeLookup_type→T9,isSubtype_stop→Uk,setUsed→Uo,isSubtype_type→Up,entryFor_alias→Uq,setNext→Ur,wpAny_fieldsOf→Us,carriedByValue→Uw,refuseLoop_ref→Uz,cellsFrom→UB,seqIndex?→UC,seqItems?→UD,Fin→UE,putSet_of→UG,setFlight→UH,onTheHeap→UI,Within→Vf,relayAll→VB,entryFor→VD,slotArgs→VE
open PySem.Around renaming under_plainId→Nd,under→Sk,under_plain→SE
open PySem.Builtin.Frozenset renaming updateFrom→MQ,isAnySet→M5,newClass→PZ,sizeOf→VF,slot0→VO
open PySem.Builtin.Int renaming intBinary→V2
open PySem.Builtin.List renaming listSubscript?→Py,listLengthHint→PJ,listExtendWith→PK,listAllItems→Qc,listTooLong→Qq,listSameRef→Qr,listItems→VT
open PySem.Builtin.Range renaming rangeSize→QH
open PySem.Builtin.Slice renaming slicePlaces→LH,sliceApplied→M0,sliceAdjust→N_,sliceFields→Qb,slicePartIndex→Ui
open PySem.Builtin.SmallTypes renaming nextOf→Lg,ownedTupleIsFree→Mn,ownedTupleHandOut→Om
open PySem.Builtin.Tuple renaming tupleExact→Ll,tupleItemsOf→M3,tupleIsExact→N2,tupleTooMany→UX,tupleHashOf→Ve
open PySem.Calls renaming evalArgs_plain→Nc,callWith_builtin→ND,Name_function_global→N0,Constant_str→Od,spliced_cons→Of,call_function_entry→Qf,loadGlobal_global→QG
open PySem.Code renaming quiet_builtin→MV,builtin→QB,isFrame→Sl,frames→VS
open PySem.Data renaming cell→QM,fields→To,seq→Vx
open PySem.Data.seq renaming inj→VG
open PySem.EntryCells renaming newEntry→R_
open PySem.EqMixed renaming eq_bool_str→U8,eq_str_bool→U9,ne_bool_str→Vc,ne_str_bool→Vd,eq_int_str→Vj,eq_str_int→Vm,ne_int_str→Vq,ne_str_int→Vs
open PySem.EqNone renaming eq_none_none→U5,eq_none_bool→U6,eq_bool_none→U7,ne_none_none→U_,ne_none_bool→Va,ne_bool_none→Vb,eq_none_int→Vg,eq_none_str→Vh,eq_int_none→Vi,eq_str_none→Vk,ne_none_int→Vn,ne_none_str→Vo,ne_int_none→Vp,ne_str_none→Vr
open PySem.Expr renaming Call→Mc
open PySem.F renaming called_set→LD,slot_tuple_iterator_next→M4,excBase_ValueError→M7,args_tuple_add_2→Oh,entry_tuple_add→OB,slot_tuple_add→ON,slot_zip_next→O8,args_tuple_iterator_next_1→Pn,entry_tuple_iterator_next→PD,sub_tuple_frozenset→PH,typeOf_object_class→PM,sub_list_frozenset→P4,slot_tuple_mul→Qw,plainAttrs_list→QI,attr_ValueError→QJ,slot_list_index→QK,sub_tuple_set→Ro,entry_bexc_ga→Rv,sub_list_set→RL,args_zip_next_1→Tc,slot_tuple_rmul→Te,entry_type_call→Tg,entry_zip_next→Tz,typeCall_set_1→TH,entry_set_init→TJ,slot_int_rmul→T3,plain_set_new→T8,slot_set_iter→T_
open PySem.Heap renaming get?_push_of_some→C0,lt_size→J4,get?_push_size→Kc,SameBut→K_,get?_update_self→Ln,get?_update_other→L8,size_push→MO,get?_none_of_le→NV,IsTuple→QE,ExtBut→Q4,IsList→Q7,get?_update_ne→Sa,get?_push_at→Tn,MadeExcOf→Uy
open PySem.Heap.DictOf renaming new→WZ
open PySem.Heap.IsSliceOf renaming new→Sr
open PySem.Heap.SameBut renaming update→LJ,refl→WN
open PySem.IsL renaming isList→Tv
open PySem.IsRange renaming new→VR
open PySem.Manifest renaming sig_set_iterator→Oc,signature?→R9
open PySem.NameKind renaming free→LL,cell→PR
open PySem.Obj renaming mapSeq→MT,data_mapFields→Nt,putSet→Ny,mapFields→OQ,isFreed_of_fields→O2,cls_mapFields→Tb
open PySem.Paired renaming length→UK
open PySem.PyData renaming bool→Rb
open PySem.SeqAt renaming EqAt→Ox,notIn_tupleAt→R6,notIn_listAt→Su,list_indexAt→VL
open PySem.SeqAt.EqAt renaming of_in1→OJ,of_refs→PC,same→QP,int_str→Sb,str_int→Sd
open PySem.SeqAt.RcNeAt renaming lists_lengths→UU,tuples→Ww,lists→WD
open PySem.SetTable renaming bits→Ki,turns→KL,runEnd→KW,leap→K1,Probe→Ld,sizeAbove→Le,insertAt→Lx,below→Ma,fresh→MP,grown→NQ,advance→NY,sameMemory→N6,layClean→OK,tooFull→OW,fill→PX,slot→RY,fits→RZ,probeStart→R8,gaveWay→TM,relaid→T7,laid→UY,has→Vz,put→VC
open PySem.SetTable.below renaming go→P9
open PySem.SetTable.layClean renaming free→KZ
open PySem.SetTable.probe renaming go→KU
open PySem.Shared renaming TypeIs→Mu,heap→VU
open PySem.Spec renaming countIn→VJ
open PySem.Str renaming ofString→K6,empty→Sj
open PySem.StrLaws renaming seqIndex_nonneg→Ug
open PySem.Value renaming ref→Kg,isInt→Mm,int→Mq,none→Mt,builtin→MJ,bool→Np,isInt_shape→NI,str→Pu,type→Rw,scannable→Uc,isStrOf→UJ,float→VP
open PySem.Value.ref renaming inj→OP
open PySem.Value.type renaming inj→NR
open PySem.W renaming Frag→JV,kia_one→LS,fnOf→MD,keepIn→MM,looks_findIn→MW,findIn→NB,findIn→Ow,hideAll→O4,hideAll_get→Pe,codeIn→Pl,methodObj→P7,instObj→QL,OpenLaw→QR,subIn→QX,cellsFrom_some→QY,lookIn→Rf,hideAll_none→Rx,excIn→R4,of_hideAll→Sf,callWith_K→Sm,specialIn→SY,kitx_list→S0,kitx_dict→S7,plainGet→Tu,typeIn→Ue,kitOne→Uh,WalkO→US,mg_of→U2,isFn→Vt,nsIn→VI
open PySem.W.KFB renaming if_not→Pz,if_so→WL
open PySem.W.Looks renaming ld→WV
open PySem.W.WData renaming int→WC
open PySem.W.WShape renaming has→V6
open PySem.Walks renaming tuple→Tr,list→T2
open String renaming ofList→R1
open Sum renaming inl→Qh,inr→Qi
open True renaming intro→Kp
set_option compiler.extract_closed false
noncomputable section
local macro_rules | `(command| def $i $s:optDeclSig $v:declVal)=>`(command| noncomputable def $i $s $v:declVal)
set_option Elab.async false
set_option linter.all false
set_option maxRecDepth 100000
namespace L2
open PySem PySem.Spec PyProof.Rows
abbrev Key:=Sum Int Str
def BA:Key→Value→Bool
 | .inl k,v=>Mm k v
 | .inr x,v=>UJ x v
def Jc (w:Kq):Key→Int
 | .inl k=>OZ k
 | .inr x=>hashStr w x
theorem cM:∀ {k:Key} {v:Value},BA k v=true→(∃ i t,k=Qh i∧v=Mq i t)∨(∃ x t,k=Qi x∧v=Pu x t)
 | .inl i,v,h=>by
  obtain ⟨t,e⟩:=NI (k:=i) (v:=v) h
  exact .inl ⟨i,t,rfl,e⟩
 | .inr x,v,h=>by
  obtain ⟨t,e⟩:=Value.isStrOf_shape (x:=x) (v:=v) h
  exact .inr ⟨x,t,rfl,e⟩
theorem EF (a b:Int):decide ((Qh a:Key)=Qh b)=(a == b):=by
 by_cases e:a=b
 ·subst e;simp
 ·have h:¬(Qh a:Key)=Qh b:=fun q=>e (Sum.inl.inj q)
  rw [H0 h]
  exact (Ms.mpr e).symm
theorem DE (a b:Str):decide ((Qi a:Key)=Qi b)=decide (a=b):=by
 by_cases e:a=b
 ·subst e;simp
 ·have h:¬(Qi a:Key)=Qi b:=fun q=>e (Sum.inr.inj q)
  rw [H0 h,H0 e]
theorem D_ (a:Int) (b:Str):decide ((Qh a:Key)=Qi b)=false:=H0 (fun q=>nomatch q)
theorem Dz (a:Str) (b:Int):decide ((Qi a:Key)=Qh b)=false:=H0 (fun q=>nomatch q)
def mC (prog:Kn) (w:Kq):PySem.KeyKind prog w Key where
 is:=BA
 hash:=Jc w
 inj:=fun v a b ha hb=>by
  rcases cM ha with ⟨i,t,rfl,rfl⟩ | ⟨x,t,rfl,rfl⟩
  ·rcases cM hb with ⟨j,u,rfl,e⟩ | ⟨y,u,rfl,e⟩
   ·injection e with e1 _;rw [e1]
   ·exact nomatch e
  ·rcases cM hb with ⟨j,u,rfl,e⟩ | ⟨y,u,rfl,e⟩
   ·exact nomatch e
   ·injection e with e1 _;rw [e1]
 byValue:=fun k v h=>by
  rcases cM h with ⟨i,t,rfl,rfl⟩ | ⟨x,t,rfl,rfl⟩<;>rfl
 pyHash:=fun hv h=>by
  rcases cM hv with ⟨i,t,rfl,rfl⟩ | ⟨x,t,rfl,rfl⟩
  ·exact wpAny_pyHash_int h
  ·exact wpAny_pyHash_str h
 eqBool:=fun hu hv h=>by
  rcases cM hu with ⟨i,t,rfl,rfl⟩ | ⟨x,t,rfl,rfl⟩
  ·rcases cM hv with ⟨j,u,rfl,rfl⟩ | ⟨y,u,rfl,rfl⟩
   ·rw [EF] at h;exact wpAny_eqBool_int h
   ·rw [D_] at h;exact Sb i t y u _ _ _ _ h
  ·rcases cM hv with ⟨j,u,rfl,rfl⟩ | ⟨y,u,rfl,rfl⟩
   ·rw [Dz] at h;exact Sd x t j u _ _ _ _ h
   ·rw [DE] at h;exact wpAny_eqBool_str h
 «strs»:=fun k x t v h=>by
  rcases cM h with ⟨i,u,rfl,e⟩ | ⟨y,u,rfl,e⟩
  ·exact nomatch e
  ·injection e with e1 _
   subst e1
   cases v<;>rfl
inductive V where
 | non | bl (b:Bool) | int (i:Int) | str (x:Str) | byt (b:Array UInt8) | flt (b:UInt64) | ref (a:Addr) | ty (n:String)
 deriving DecidableEq
def RelV:V→Value→Prop
 | .non,u=>u=Mt
 | .bl b,u=>u=Np b
 | .int i,u=>∃ t,u=Mq i t
 | .str x,u=>∃ t,u=Pu x t
 | .byt b,u=>∃ t,u=Value.bytes b t
 | .flt b,u=>∃ t,u=VP b t
 | .ref a,u=>u=Kg a
 | .ty n,u=>u=Rw n
abbrev Vals:List V→List Value→Prop:=Se RelV
theorem Vals.length {xs:List V} {us:List Value} (r:Vals xs us):xs.length=us.length:=UK r
theorem Vals.get:∀ {xs:List V} {us:List Value} {i:Nat} {x:V},Vals xs us→xs[i]?=some x→∃ u,us[i]?=some u∧RelV x u
 | _,_,_,_,.nil,e=>by simp at e
 | _,_,0,_,.cons r _,e=>by simp at e;subst e;exact ⟨_,rfl,r⟩
 | _,_,i+1,x,.cons _ t,e=>by
  obtain ⟨u,h1,h2⟩:=Vals.get (i:=i) (x:=x) t (by simpa using e)
  exact ⟨u,by simpa using h1,h2⟩
theorem Vals.set {x:V} {u:Value} (r:RelV x u):∀ {xs:List V} {us:List Value} (i:Nat),Vals xs us→Vals (xs.set i x) (us.set i u)
 | _,_,_,.nil=>.nil
 | _,_,0,.cons _ t=>.cons r t
 | _,_,i+1,.cons q t=>.cons q (Vals.set r i t)
theorem Vals.append:∀ {xs ys:List V} {us ws:List Value},Vals xs us→Vals ys ws→Vals (xs++ys) (us++ws)
 | _,_,_,_,.nil,s=>s
 | _,_,_,_,.cons r t,s=>.cons r (Vals.append t s)
theorem Vals.take:∀ {xs:List V} {us:List Value} (n:Nat),Vals xs us→Vals (xs.take n) (us.take n)
 | _,_,0,_=>.nil
 | _,_,_+1,.nil=>.nil
 | _,_,n+1,.cons r t=>.cons r (Vals.take n t)
theorem Vals.drop:∀ {xs:List V} {us:List Value} (n:Nat),Vals xs us→Vals (xs.drop n) (us.drop n)
 | _,_,0,r=>r
 | _,_,_+1,.nil=>.nil
 | _,_,n+1,.cons _ t=>Vals.drop n t
def va:Option V→Option Value→Prop
 | some v,some u=>RelV v u
 | none,none=>True
 | _,_=>False
def KV {κ:Type}:List (κ×V)→List (κ×Value)→Prop:=Se fun (p:κ×V) (q:κ×Value)=>p.1=q.1∧RelV p.2 q.2
def kV:Key→V
 | .inl i=>.int i
 | .inr x=>.str x
inductive HO where
 | lst (xs:List V)
 | tup (xs:List V)
 | dK (kvs:List (Key×V)) | dT (kvs:List (List Key×V))
 | set (S:Int→Bool) (n:Nat)
 | ins (C dx:Addr) (fs:List (Str×V))
 | own (x:Addr)
 | xd (fs:List (Str×V))
 | met (f x:Addr)
 | rng (lo hi:Int)
 | frz (o:Obj) (u:HO)
 | tbl (ps:Array Value)
 | ext (φ:Heap→Prop)
abbrev Hp:=Addr→Option HO
def upd (H:Hp) (a:Addr) (o:HO):Hp:=fun b=>if b=a then some o else H b
theorem b9 {H:Hp} {a:Addr} {o:HO}:upd H a o a=some o:=by unfold upd;rw [J2 rfl]
theorem aS {H:Hp} {a b:Addr} {o:HO} (h:b≠a):upd H a o b=H b:=by unfold upd;rw [J9 h]
theorem C9 {H:Hp} {a:Addr} {o u:HO}:upd (upd H a o) a u=upd H a u:=by
 funext b;unfold upd;split<;>rfl
theorem bz {H:Hp} {a b:Addr} {o:HO} (h:H a=some o) (h':H b=none):a≠b:=by
 intro e;subst e;rw [h] at h';cases h'
section
variable (P:Kn) (w:Kq)
def b_ (H:Hp) (h:Heap) (a:Addr):HO→Prop
 | .lst xs=>xs.length≤sizeLine∧∃ (its:List Value) (n:Nat),Vals xs its∧h.get? a=some { cls:=.type "list",data:=.seq its.toArray n }
 | .tup xs=>xs.length≤sizeLine∧∃ its:List Value,Vals xs its∧Pr h a its.toArray
 | .dK kvs=>kvs.length≤sizeLine∧(a == TQ)=false∧∃ vs,KV kvs vs∧h.DictOf (mC P w) a vs
 | .dT kvs=>kvs.length≤sizeLine∧(a == TQ)=false∧∃ xs:List (List Key×Addr×Value),
   Se (fun (p:List Key×V) (q:List Key×Addr×Value)=>p.1=q.1∧H q.2.1=some (.tup (p.1.map kV))∧RelV p.2 q.2.2) kvs xs ∧
   ∃ o es ep,h.get? a=some o∧o.ExactDict∧o.data=.dict es ep∧es.toList=xs.map (entryOfKey (tupleKind (mC P w)))∧(xs.map (·.1)).Nodup
 | .set S n=>h.SetOf (KI P w) a S n
 | .ins C dx fs=>H dx=some (.own a)∧fs.length≤1000∧dx≠a∧h.get? a=some (QL C dx) ∧
   ∃ mA,h.Ns1 dx mA∧(∀ f,va (fs.lookup f) (mA f))∧Vf mA (fs.map (·.1))
 | .own _=>∃ o,h.get? a=some o
 | .xd fs=>∃ mA,h.Ns1 a mA∧∀ f,va (fs.lookup f) (mA f)
 | .rng lo hi=>∃ t u v,h.get? a=some { cls:=.type "range",data:=.fields #[.int lo t,.int hi u,.int 1 v] }
 | .frz o u=>h.get? a=some o∧b_ H h a u
 | .tbl ps=>h.get? a=some { cls:=.none,data:=.fields ps }
 | .met f x=>h.get? a=some (P7 (.ref f) (.ref x))
 | .ext φ=>φ h∧(∃ o,h.get? a=some o)∧∀ h1 h2:Heap,φ h1→(∀ o,h1.get? a=some o→h2.get? a=some o)→φ h2
def HOk (H:Hp) (h:Heap):Prop:=∀ a o,H a=some o→b_ P w H h a o
end
section
variable {P:Kn} {w:Kq} {H H':Hp} {h h':Heap} {a:Addr} {o:HO}
theorem b_.lt (x:b_ P w H h a o):a < h.objs.size:=by
 cases o with
 | lst xs=>obtain ⟨_,_,_,_,e⟩:=x;exact J4 e
 | tup xs=>obtain ⟨_,_,_,p⟩:=x;exact p.lt
 | dK kvs=>obtain ⟨_,_,_,_,o,_,_,e,_⟩:=x;exact J4 e
 | dT kvs=>obtain ⟨_,_,_,_,o,_,_,e,_⟩:=x;exact J4 e
 | set S n=>obtain ⟨o,_,_,_,e,_⟩:=x;exact J4 e
 | ins C dx fs=>obtain ⟨_,_,_,e,_⟩:=x;exact J4 e
 | own y=>obtain ⟨_,e⟩:=x;exact J4 e
 | xd fs=>obtain ⟨_,⟨_,_,_,e,_⟩,_⟩:=x;exact J4 e
 | rng lo hi=>obtain ⟨_,_,_,e⟩:=x;exact J4 e
 | frz ob u=>obtain ⟨e,_⟩:=x;exact J4 e
 | tbl ps=>exact J4 (show h.get? a=some _ from x)
 | met f y=>exact J4 (show h.get? a=some _ from x)
 | ext φ=>obtain ⟨_,⟨_,e⟩,_⟩:=x;exact J4 e
theorem Paired.Ft {α β:Type} {F G:α→β→Prop}:∀ {l₁:List α} {l₂:List β},Se F l₁ l₂→(∀ a b,F a b→G a b)→Se G l₁ l₂
 | _,_,.nil,_=>.nil
 | _,_,.cons r t,f=>.cons (f _ _ r) (Paired.Ft t f)
theorem b_.iW (x:b_ P w H h a o) (k:∀ b u,(b=a∨H b=some (.own a))→h.get? b=some u→h'.get? b=some u)
  (ho:∀ b,H b=some (.own a)→H' b=some (.own a)) (ht:∀ b xs,H b=some (.tup xs)→H' b=some (.tup xs)):b_ P w H' h' a o:=by
 induction o with
 | lst xs=>obtain ⟨z,its,n,r,e⟩:=x;exact ⟨z,its,n,r,k _ _ (.inl rfl) e⟩
 | tup xs=>obtain ⟨z,its,r,ob,e,c⟩:=x;exact ⟨z,its,r,ob,k _ _ (.inl rfl) e,c⟩
 | dK kvs=>obtain ⟨z,y,vs,r,ob,es,ep,e,c⟩:=x;exact ⟨z,y,vs,r,ob,es,ep,k _ _ (.inl rfl) e,c⟩
 | dT kvs=>
  obtain ⟨z,y,xs,r,ob,es,ep,e,c⟩:=x
  exact ⟨z,y,xs,Paired.Ft r fun p q z=>⟨z.1,ht _ _ z.2.1,z.2.2⟩,ob,es,ep,k _ _ (.inl rfl) e,c⟩
 | set S n=>obtain ⟨ob,es,ep,t,e,c⟩:=x;exact ⟨ob,es,ep,t,k _ _ (.inl rfl) e,c⟩
 | ins C dx fs=>
  obtain ⟨d,z,ne,e,mA,⟨od,es,ep,e2,c⟩,r⟩:=x
  exact ⟨ho _ d,z,ne,k _ _ (.inl rfl) e,mA,⟨od,es,ep,k _ _ (.inr d) e2,c⟩,r⟩
 | own y=>obtain ⟨ob,e⟩:=x;exact ⟨ob,k _ _ (.inl rfl) e⟩
 | xd fs=>obtain ⟨mA,⟨od,es,ep,e,c⟩,r⟩:=x;exact ⟨mA,⟨od,es,ep,k _ _ (.inl rfl) e,c⟩,r⟩
 | rng lo hi=>obtain ⟨t,u,v,e⟩:=x;exact ⟨t,u,v,k _ _ (.inl rfl) e⟩
 | frz ob u ih=>obtain ⟨e,q⟩:=x;exact ⟨k _ _ (.inl rfl) e,ih q⟩
 | tbl ps=>
  have e:h.get? a=some { cls:=.none,data:=.fields ps }:=x
  show h'.get? a=some { cls:=.none,data:=.fields ps }
  exact k a _ (.inl rfl) e
 | met f y=>
  have e:h.get? a=some (P7 (.ref f) (.ref y)):=x
  show h'.get? a=some (P7 (.ref f) (.ref y))
  exact k a _ (.inl rfl) e
 | ext φ=>obtain ⟨p,⟨o,e⟩,st⟩:=x;exact ⟨st _ _ p fun o q=>k _ _ (.inl rfl) q,⟨o,k _ _ (.inl rfl) e⟩,st⟩
theorem HOk.lt (x:HOk P w H h) (e:H a=some o):a < h.objs.size:=(x a o e).lt
theorem HOk.fresh (x:HOk P w H h) (e:h.objs.size≤a):H a=none:=by
 cases q:H a with
 | none=>rfl
 | some u=>exact absurd (Kt (x.lt q) e) (LK _)
theorem HOk.kept (x:HOk P w H h) (k:∀ b u,h.get? b=some u→h'.get? b=some u):HOk P w H h':=fun a o e=>
 (x a o e).iW (fun b u _ q=>k b u q) (fun _ q=>q) fun _ _ q=>q
theorem HOk.laid (x:HOk P w H h) (k:∀ b u,h.get? b=some u→h'.get? b=some u) (hp:h.objs.size≤a) (new:b_ P w (upd H a o) h' a o):HOk P w (upd H a o) h':=fun b u e=>by
 have hn:=x.fresh hp
 by_cases hb:b=a
 ·subst hb;rw [b9] at e;cases e;exact new
 ·rw [aS hb] at e
  exact (x b u e).iW (fun c v _ q=>k c v q) (fun c q=>by rw [aS (bz q hn)];exact q) fun c xs q=>by rw [aS (bz q hn)];exact q
end
def Rd (H:Hp) (a:Addr) (u:HO):Prop:=H a=some u∨∃ o,H a=some (.frz o u)
theorem Rd.ok {P:Kn} {w:Kq} {H:Hp} {h:Heap} {a:Addr} {u:HO} (r:Rd H a u) (x:HOk P w H h):b_ P w H h a u:=by
 rcases r with r | ⟨o,r⟩
 ·exact x a u r
 ·obtain ⟨_,q⟩:=x a _ r
  exact q
def Mut:Option HO→Prop
 | some (.lst _)=>True
 | some (.dK _)=>True
 | some (.dT _)=>True
 | some (.set _ _)=>True
 | some (.ins _ _ _)=>True
 | some (.ext _)=>True
 | _=>False
section
variable {P:Kn} {w:Kq} {H:Hp} {h h':Heap} {x e:Addr} {o':HO}
theorem HOk.write (ok:HOk P w H h) (mu:Mut (H x)) (he:e=x∨H e=some (.own x)) (k:∀ b u,b≠e→h.get? b=some u→h'.get? b=some u) (heo:∃ u,h'.get? e=some u)
  (new:b_ P w (upd H x o') h' x o'):HOk P w (upd H x o') h':=fun b u q=>by
 have nown:∀ c y,H c=some (.own y)→c≠x:=fun c y r z=>by subst z;rw [r] at mu;exact mu
 have ntup:∀ c xs,H c=some (.tup xs)→c≠x:=fun c xs r z=>by subst z;rw [r] at mu;exact mu
 by_cases hb:b=x
 ·subst hb;rw [b9] at q;cases q;exact new
 ·rw [aS hb] at q
  by_cases hbe:b=e
  ·have q':H b=some (.own x):=by
    rcases he with z | z
    ·exact absurd (hbe.trans z) hb
    ·rw [hbe];exact z
   rw [q] at q';cases q'
   obtain ⟨v,hv⟩:=heo
   exact ⟨v,by rw [hbe];exact hv⟩
  ·refine (ok b u q).iW (fun c v hc r=>k c v ?_ r) (fun c r=>by rw [aS (nown c b r)];exact r) fun c xs r=>by rw [aS (ntup c xs r)];exact r
   rcases hc with rfl | hc
   ·exact hbe
   ·rintro rfl
    rcases he with z | z
    ·exact nown c b hc z
    ·rw [hc] at z;cases z;exact hb rfl
end
structure Un (fs ex:List Addr) (H H':Hp) (h h':Heap):Prop where
 keep:∀ b o,h.get? b=some o→H b=none→b∉fs→b∉ex→h'.get? b=some o
 slot:∀ b o,h.get? b=some o→H b=none→b∈fs→b∉ex→∃ sl,h'.get? b=some { o with slots:=sl }
 free:∀ b o,h.get? b=some o→H b=none→b∉ex→H' b=none
 there:∀ b o,h.get? b=some o→b∉ex→∃ o',h'.get? b=some o'
 tups:∀ b xs,H b=some (.tup xs)→H' b=some (.tup xs)
 frzs:∀ b o u,H b=some (.frz o u)→H' b=some (.frz o u)
 tbls:∀ b ps,H b=some (.tbl ps)→∃ more,H' b=some (.tbl (ps++more))
section
variable {fs fs' ex ex':List Addr} {H H1 H2:Hp} {h h1 h2 h':Heap} {a x e:Addr} {o:HO}
theorem Un.any (u:Un fs ex H H1 h h1) {b:Addr} {ob:Obj} (q:h.get? b=some ob) (n:H b=none) (hx:b∉ex):∃ sl,h1.get? b=some { ob with slots:=sl }:=by
 by_cases hb:b∈fs
 ·exact u.slot b ob q n hb hx
 ·exact ⟨ob.slots,u.keep b ob q n hb hx⟩
theorem Un.kept (k:∀ b u,h.get? b=some u→h'.get? b=some u):Un fs ex H H h h':=
 ⟨fun b ob q _ _ _=>k b ob q,fun b ob q _ _ _=>⟨ob.slots,k b ob q⟩,fun _ _ _ n _=>n,fun b ob q _=>⟨ob,k b ob q⟩,fun _ _ q=>q,fun _ _ _ q=>q,fun _ ps q=>⟨#[],by rw [q];simp⟩⟩
theorem Un.refl:Un fs ex H H h h:=Un.kept fun _ _ q=>q
theorem Un.laid (k:∀ b u,h.get? b=some u→h'.get? b=some u) (hp:h.objs.size≤a) (hn:H a=none):Un fs ex H (upd H a o) h h' where
 keep:=fun b u q _ _ _=>k b u q
 slot:=fun b u q _ _ _=>⟨u.slots,k b u q⟩
 free:=fun b u q n _=>by rw [aS (Kf (Kt (J4 q) hp))];exact n
 there:=fun b u q _=>⟨u,k b u q⟩
 tups:=fun b xs q=>by rw [aS (bz q hn)];exact q
 frzs:=fun b u xs q=>by rw [aS (bz q hn)];exact q
 tbls:=fun b ps q=>⟨#[],by rw [aS (bz q hn),q];simp⟩
theorem Un.write (mu:Mut (H x)) (he:e=x∨H e=some (.own x)) (k:∀ b u,b≠e→h.get? b=some u→h'.get? b=some u) (heo:∃ u,h'.get? e=some u):Un fs ex H (upd H x o) h h':=by
 have hx:∀ b,H b=none→b≠x:=fun b n z=>by subst z;rw [n] at mu;exact mu
 have hb:∀ b,H b=none→b≠e:=fun b n z=>by
  subst z
  rcases he with r | r
  ·exact hx b n r
  ·rw [n] at r;cases r
 have hm:∀ b u,H b=some u→¬Mut (some u)→b≠x:=fun b u q nm z=>by subst z;rw [q] at mu;exact nm mu
 refine ⟨fun b u q n _ _=>k b u (hb b n) q,fun b u q n _ _=>⟨u.slots,k b u (hb b n) q⟩,fun b u q n _=>by rw [aS (hx b n)];exact n,fun b u q _=>?_,
  fun b xs q=>by rw [aS (hm b _ q fun z=>z)];exact q,fun b u xs q=>by rw [aS (hm b _ q fun z=>z)];exact q,fun b ps q=>⟨#[],by rw [aS (hm b _ q fun z=>z),q];simp⟩⟩
 by_cases hbe:b=e
 ·subst hbe;exact heo
 ·exact ⟨u,k b u hbe q⟩
end
def trk (h:Heap) (H:Hp):List Addr:=(J_ h.objs.size).filter fun a=>(H a).isSome
def kh (h:Heap) (H:Hp):Heap:=O4 h (trk h H)
theorem yD (h:Heap) (H:Hp):(kh h H).objs.size=h.objs.size:=PySem.W.hideAll_size _ _
theorem zl {h:Heap} {H:Hp} {b:Addr} {o:Obj} (e:h.get? b=some o) (n:H b=none):(kh h H).get? b=some o:=
 Pe _ e fun hm=>by
  have q:(H b).isSome=true:=(O5.mp hm).2
  rw [n] at q;simp at q
theorem BY {h:Heap} {H:Hp} {b:Addr} {o:Obj} (e:(kh h H).get? b=some o):h.get? b=some o∧H b=none:=by
 have e':h.get? b=some o:=Sf (trk h H) e
 refine ⟨e',?_⟩
 cases q:H b with
 | none=>rfl
 | some x=>
  have hm:b∈trk h H:=O5.mpr ⟨Lb.mpr (J4 e'),by simp [q]⟩
  have z:(kh h H).get? b=none:=Rx (trk h H) hm
  rw [z] at e;cases e
def BX (g h:Heap) (L:Addr):List (Addr×Obj):=(J_ h.objs.size).filterMap fun a=>if a=L∨(g.get? a).isSome=true then none else (h.get? a).map fun o=>(a,o)
def rest (g h:Heap) (L d:Addr):List (Addr×Obj):=(BX g h L).filter fun p=>decide (p.1≠d)
structure Mod (K:JV) (mg:Str→Option Value) (base:Heap):Prop where
 kin:K.In base
 glob:base.Ns KY mg
 blt:∃ mb,base.Ns TR mb∧∀ x:Str,x≠"__name__"→mb x=Kj x
 nolimit:base.NoLimit
structure Cx where
 prog:Kn
 w:Kq
 K:JV
 mg:Str→Option Value
 base:Heap
 A:KD
 N:List Str
 s₀:JU
 H₀:Hp
 env:Env
 outer:List Env
 stack:List Env
 ex:List Addr
 fn:Str→Bool
 calm:Bool
 pn:List (Addr×Obj)
 xe:Value→JU→Prop
def frs (l:List Env):List Addr:=l.filterMap (·.frame)
abbrev Cx.fs (X:Cx):List Addr:=frs X.outer
def Vis (sc:Scope) (x:Str):Prop:=sc.names.lookup x=some .local∨sc.names.lookup x=some .cell∨sc.names.lookup x=some .free
def Loc (sc:Scope) (x:Str):Prop:=sc.names.lookup x=some .local∨sc.names.lookup x=some .cell
def Look (env:Env) (h:Heap) (m:Str→Option Value) (x:Str) (u:Value):Prop:=
 (env.kindOf x=some .local∧m x=some u)∨((env.kindOf x=some .cell∨env.kindOf x=some .free)∧∃ c,env.cells.lookup x=some c∧h.IsCell c (some u))
structure Cx.Ok (X:Cx):Prop where
 mod:Mod X.K X.mg X.base
 kind:X.env.scope.kind=.function
 glob:X.env.globals=KY
 blt:X.env.builtins=TR
 above:X.s₀.heap.objs.size≤X.env.locals
 inj:∀ x y c,X.env.cells.lookup x=some c→X.env.cells.lookup y=some c→x=y
 has:∀ x,(X.env.kindOf x=some .cell∨X.env.kindOf x=some .free)→∃ c,X.env.cells.lookup x=some c
 cab:∀ x c,X.fn x=true→X.env.cells.lookup x=some c→X.s₀.heap.objs.size≤c
 hd:X.calm=true→X.A.handled=none
 frames:X.A.frames=some X.stack
 stk:X.stack=X.outer∨(X.stack=X.env :: X.outer∧X.env.frame=some X.env.locals)
 exf:∀ b∈X.ex,b≠X.env.locals∧∀ x c,X.env.cells.lookup x=some c→c≠b
 bs:∀ b o,X.base.get? b=some o→X.s₀.heap.get? b=some o∧X.H₀ b=none
 bsz:X.base.objs.size≤X.s₀.heap.objs.size
 noex:∀ b o,X.base.get? b=some o→b∉X.ex
 exfs:∀ b∈X.ex,b∉X.fs
 gi:X.s₀.heap.FunFrames X.base X.outer
 frf:∀ b∈X.fs,X.H₀ b=none
structure Inv (X:Cx) (pins:List (Addr×Obj)) (σ:List (Option V)) (H:Hp) (s:JU):Prop where
 ok:X.Ok
 os:s.os=X.s₀.os
 bare:Ov s.gens
 base:Un X.fs X.ex X.H₀ H X.s₀.heap s.heap
 loc:∃ m,s.heap.Ns X.env.locals m∧∀ (i:Nat) (x:Str) (v:V),X.N[i]?=some x→σ[i]?=some (some v)→Vis X.env.scope x→∃ u,RelV v u∧Look X.env s.heap m x u
 cell:∀ x c,X.env.cells.lookup x=some c→∃ v,s.heap.IsCell c v
 free:H X.env.locals=none
 freeC:∀ x c,X.env.cells.lookup x=some c→H c=none
 pin:∀ p∈X.pn++pins,s.heap.get? p.1=some p.2∧H p.1=none∧p.1≠X.env.locals∧p.1∉X.fs∧∀ v,p.2.data≠.cell v
 hok:HOk X.prog X.w H s.heap
 len:σ.length=X.N.length
section
variable {X:Cx} {pins:List (Addr×Obj)} {σ:List (Option V)} {H H':Hp} {s:JU} {h':Heap}
theorem Cx.Ok.IY (ok:X.Ok) {b:Addr} {o:Obj} (e:X.base.get? b=some o):b∉X.fs:=fun hb=>by
 have:=(ok.gi.mem hb).1
 rw [e] at this;cases this
theorem Inv.bs (I:Inv X pins σ H s):∀ b o,X.base.get? b=some o→s.heap.get? b=some o∧H b=none:=fun b o e=>
 ⟨I.base.keep b o (I.ok.bs b o e).1 (I.ok.bs b o e).2 (I.ok.IY e) (I.ok.noex b o e),I.base.free b o (I.ok.bs b o e).1 (I.ok.bs b o e).2 (I.ok.noex b o e)⟩
theorem Inv.bk (I:Inv X pins σ H s):∀ b o,X.base.get? b=some o→s.heap.get? b=some o:=fun b o e=>(I.bs b o e).1
theorem Inv.mod (I:Inv X pins σ H s):Mod X.K X.mg X.base:=I.ok.mod
theorem Inv.kIn (I:Inv X pins σ H s):X.K.In s.heap:=I.ok.mod.kin.keeps I.bk
theorem Inv.lt (I:Inv X pins σ H s):X.env.locals < s.heap.objs.size:=let ⟨_,hn,_⟩:=I.loc;hn.lt
theorem Inv.sz (I:Inv X pins σ H s):X.s₀.heap.objs.size≤s.heap.objs.size:=Lj I.ok.above (LM I.lt)
theorem Inv.D5 (I:Inv X pins σ H s) {a:Addr} (h:s.heap.objs.size≤a):a∉X.fs:=fun hb=>by
 obtain ⟨_,o,ho,_⟩:=I.ok.gi.mem hb
 exact absurd (Kt (J4 ho) (Lj I.sz h)) (LK _)
theorem Inv.cne (I:Inv X pins σ H s):∀ x c,X.env.cells.lookup x=some c→c≠X.env.locals:=fun x c e z=>by
 obtain ⟨v,o,ho,hd⟩:=I.cell x c e
 obtain ⟨m,⟨o',es,ep,ho',hd',_⟩,_⟩:=I.loc
 rw [z,ho'] at ho;cases ho;rw [hd'] at hd;cases hd
theorem Inv.gi (I:Inv X pins σ H s):s.heap.FunFrames X.base X.outer:=by
 have all:∀ (l:List Env),(∀ b∈frs l,b∈X.fs)→X.s₀.heap.FunFrames X.base l→s.heap.FunFrames X.base l:=by
  intro l
  induction l with
  | nil=>intro _ _;trivial
  | cons env r ih=>
   intro hs hl
   obtain ⟨hk,⟨L,o,hf,hn,ho,hd⟩,hr⟩:=hl
   have hL:L∈X.fs:=hs L (by unfold frs;rw [KO,hf];exact Ks)
   obtain ⟨sl,e⟩:=I.base.slot L o ho (I.ok.frf L hL) hL fun z=>I.ok.exfs L z hL
   exact ⟨hk,⟨L,_,hf,hn,e,hd⟩,ih (fun b hb=>hs b (by unfold frs;rw [KO,hf];exact Kk _ hb)) hr⟩
 exact all X.outer (fun _ hb=>hb) I.ok.gi
theorem Inv.stack (I:Inv X pins σ H s):s.heap.FunFrames X.base X.stack:=by
 rcases I.ok.stk with e | ⟨e,hf⟩
 ·rw [e];exact I.gi
 ·rw [e]
  obtain ⟨m,hn,_⟩:=I.loc
  refine .cons (by rw [I.ok.kind];decide) hf hn ?_ I.gi
  exact NV (Lj I.ok.bsz I.ok.above)
theorem Inv.jQ (I:Inv X pins σ H s):∀ b∈frs X.stack,b∈X.env.locals :: X.fs:=fun b hb=>by
 rcases I.ok.stk with e | ⟨e,hf⟩
 ·rw [e] at hb;exact Kk _ hb
 ·rw [e] at hb
  unfold frs at hb
  rw [KO,hf] at hb
  exact hb
theorem Inv.pF (I:Inv X pins σ H s):∀ b∈frs X.stack,H b=none:=fun b hb=>by
 rcases J1.mp (I.jQ b hb) with e | hb
 ·rw [e];exact I.free
 ·obtain ⟨_,o,ho,_⟩:=I.ok.gi.mem hb
  exact I.base.free b o ho (I.ok.frf b hb) fun z=>I.ok.exfs b z hb
theorem Inv.step {g':Array Pk} {t':Nat} {d':SK} {ch:List Addr} (I:Inv X pins σ H s)
  (hch:∀ b∈ch,(b∈X.ex∨X.s₀.heap.objs.size≤b)∧b≠X.env.locals∧(∀ x c,X.env.cells.lookup x=some c→c≠b)∧∀ p∈X.pn++pins,p.1≠b)
  (keep:∀ b o,b≠X.env.locals→b∉X.fs→b∉ch→s.heap.get? b=some o→H b=none→h'.get? b=some o)
  (slot:∀ b o,b≠X.env.locals→b∈X.fs→b∉ch→s.heap.get? b=some o→H b=none→∃ sl,h'.get? b=some { o with slots:=sl }) (free:∀ b o,b∉ch→s.heap.get? b=some o→H b=none→H' b=none)
  (there:∀ b o,b∉ch→s.heap.get? b=some o→∃ o',h'.get? b=some o')
  (tups:∀ b xs,H b=some (.tup xs)→H' b=some (.tup xs)) (frzs:∀ b o u,H b=some (.frz o u)→H' b=some (.frz o u)) (tbls:∀ b ps,H b=some (.tbl ps)→∃ more,H' b=some (.tbl (ps++more)))
  (ns:∀ m,s.heap.Ns X.env.locals m→h'.Ns X.env.locals m) (hok:HOk X.prog X.w H' h') (hg:Ov g') :
  Inv X pins σ H' { s with heap:=h',gens:=g',drawn:=d',toks:=t' }:=by
 have neL:∀ b o,X.s₀.heap.get? b=some o→b≠X.env.locals:=fun b o e=>Kf (Kt (J4 e) I.ok.above)
 have neC:∀ b o,X.s₀.heap.get? b=some o→b∉X.ex→b∉ch:=fun b o e hx hb=>by
  rcases (hch b hb).1 with z | z
  ·exact hx z
  ·exact absurd (Kt (J4 e) z) (LK _)
 have cellK:∀ x c,X.env.cells.lookup x=some c→∀ v,s.heap.IsCell c v→h'.IsCell c v:=fun x c e v ⟨o,ho,hd⟩=>by
  have nch:c∉ch:=fun z=>(hch c z).2.2.1 x c e rfl
  by_cases hc:c∈X.fs
  ·obtain ⟨sl,q⟩:=slot c o (I.cne x c e) hc nch ho (I.freeC x c e)
   exact ⟨_,q,hd⟩
  ·exact ⟨o,keep c o (I.cne x c e) hc nch ho (I.freeC x c e),hd⟩
 refine ⟨I.ok,I.os,hg,⟨fun b o e n hb hx=>?_,fun b o e n hb hx=>?_,fun b o e n hx=>?_,fun b o e hx=>?_,fun b xs e=>tups b xs (I.base.tups b xs e),fun b o xs e=>frzs b o xs (I.base.frzs b o xs e),fun b ps e=>?_⟩,?_,fun x c e=>?_,?_,fun x c e=>?_,fun p hp=>?_,hok,I.len⟩
 ·exact keep b o (neL b o e) hb (neC b o e hx) (I.base.keep b o e n hb hx) (I.base.free b o e n hx)
 ·obtain ⟨sl,e1⟩:=I.base.slot b o e n hb hx
  obtain ⟨sl',e2⟩:=slot b _ (neL b o e) hb (neC b o e hx) e1 (I.base.free b o e n hx)
  exact ⟨sl',e2⟩
 ·obtain ⟨o',e1⟩:=I.base.there b o e hx
  exact free b o' (neC b o e hx) e1 (I.base.free b o e n hx)
 ·obtain ⟨o',e1⟩:=I.base.there b o e hx
  exact there b o' (neC b o e hx) e1
 ·obtain ⟨m1,e1⟩:=I.base.tbls b ps e
  obtain ⟨m2,e2⟩:=tbls b _ e1
  exact ⟨m1++m2,by rw [e2,Array.append_assoc]⟩
 ·obtain ⟨m,hn,hl⟩:=I.loc
  refine ⟨m,ns m hn,fun i x v e1 e2 e3=>?_⟩
  obtain ⟨u,r,l⟩:=hl i x v e1 e2 e3
  refine ⟨u,r,?_⟩
  rcases l with l | ⟨k,c,e,z⟩
  ·exact .inl l
  ·exact .inr ⟨k,c,e,cellK x c e _ z⟩
 ·obtain ⟨v,z⟩:=I.cell x c e
  exact ⟨v,cellK x c e v z⟩
 ·obtain ⟨m,⟨o,_,_,ho,_⟩,_⟩:=I.loc
  exact free _ o (fun z=>(hch _ z).2.1 rfl) ho I.free
 ·obtain ⟨v,o,ho,hd⟩:=I.cell x c e
  exact free c o (fun z=>(hch c z).2.2.1 x c e rfl) ho (I.freeC x c e)
 ·obtain ⟨e,n,ne,nf,d⟩:=I.pin p hp
  have nch:p.1∉ch:=fun z=>(hch p.1 z).2.2.2 p hp rfl
  exact ⟨keep p.1 p.2 ne nf nch e n,free p.1 p.2 nch e n,ne,nf,d⟩
theorem Inv.un {t':Nat} (I:Inv X pins σ H s) (u:Un X.fs [] H H' s.heap h') (hok:HOk X.prog X.w H' h'):Inv X pins σ H' { s with heap:=h',toks:=t' }:=by
 obtain ⟨m,⟨o,es,ep,ho,r⟩,_⟩:=id I.loc
 obtain ⟨sl,hL⟩:=u.any ho I.free (by simp)
 exact I.step (g':=s.gens) (d':=s.drawn) (ch:=[]) (fun _ z=>nomatch z) (fun b o _ hb _ e n=>u.keep b o e n hb (by simp)) (fun b o _ hb _ e n=>u.slot b o e n hb (by simp)) (fun b o _ e n=>u.free b o e n (by simp)) (fun b o _ e=>u.there b o e (by simp)) u.tups u.frzs u.tbls (fun m' hm=>by
  obtain ⟨o',es',ep',ho',r'⟩:=hm
  rw [ho] at ho';cases ho'
  exact ⟨_,es',ep',hL,r'⟩) hok I.bare
theorem Inv.call {g':Array Pk} {t':Nat} {d':SK} {ch:List Addr} (I:Inv X pins σ H s) (u:Un (frs X.stack) ch H H' s.heap h') (hok:HOk X.prog X.w H' h') (hg:Ov g')
  (hch:∀ b∈ch,(b∈X.ex∨X.s₀.heap.objs.size≤b)∧b≠X.env.locals∧(∀ x c,X.env.cells.lookup x=some c→c≠b)∧∀ p∈X.pn++pins,p.1≠b) :
  Inv X pins σ H' { s with heap:=h',gens:=g',drawn:=d',toks:=t' }:=by
 obtain ⟨m,⟨o,es,ep,ho,r⟩,_⟩:=id I.loc
 obtain ⟨sl,hL⟩:=u.any ho I.free fun z=>(hch _ z).2.1 rfl
 exact I.step (ch:=ch) hch (fun b o hL hb hc e n=>u.keep b o e n (fun z=>(J1.mp (I.jQ b z)).elim hL hb) hc) (fun b o _ _ hc e n=>u.any e n hc) (fun b o hc e n=>u.free b o e n hc) (fun b o hc e=>u.there b o e hc) u.tups u.frzs u.tbls (fun m' hm=>by
  obtain ⟨o',es',ep',ho',r'⟩:=hm
  rw [ho] at ho';cases ho'
  exact ⟨_,es',ep',hL,r'⟩) hok hg
theorem Inv.turned {t':Nat} {it:Addr} (I:Inv X pins σ H s) (k:∀ b o,b≠it→s.heap.get? b=some o→h'.get? b=some o) (hn:H it=none) (hL:it≠X.env.locals)
  (h1:it∈X.ex∨X.s₀.heap.objs.size≤it) (h2:∀ x c,X.env.cells.lookup x=some c→c≠it) (h3:∀ p∈X.pn++pins,p.1≠it):Inv X pins σ H { s with heap:=h',toks:=t' }:=by
 have nit:∀ b u,H b=some u→b≠it:=fun b u e z=>by rw [z,hn] at e;cases e
 refine I.step (g':=s.gens) (d':=s.drawn) (ch:=[it]) (fun b hb=>?_) (fun b o _ _ hc e _=>k b o (fun z=>hc (by simp [z])) e) (fun b o _ _ hc e _=>⟨o.slots,k b o (fun z=>hc (by simp [z])) e⟩) (fun _ _ _ _ n=>n)
  (fun b o hc e=>⟨o,k b o (fun z=>hc (by simp [z])) e⟩) (fun _ _ e=>e) (fun _ _ _ e=>e) (fun b ps e=>⟨#[],by rw [e];simp⟩) (fun m hm=>?_) (fun b u e=>?_) I.bare
 ·have e:b=it:=by simpa using hb
  subst e
  exact ⟨h1,hL,h2,h3⟩
 ·obtain ⟨o,es,ep,ho,r⟩:=hm
  exact ⟨o,es,ep,k _ o (LN hL) ho,r⟩
 ·refine (I.hok b u e).iW (fun c v hc q=>k c v ?_ q) (fun _ q=>q) fun _ _ q=>q
  rcases hc with z | z
  ·rw [z];exact nit b u e
  ·exact nit c _ z
theorem Inv.tok (I:Inv X pins σ H s) (t:Nat):Inv X pins σ H { s with toks:=t }:=I.un (h':=s.heap) (t':=t) Un.refl I.hok
theorem Inv.kept {t':Nat} (I:Inv X pins σ H s) (k:∀ b u,s.heap.get? b=some u→h'.get? b=some u):Inv X pins σ H { s with heap:=h',toks:=t' }:=I.un (Un.kept k) (I.hok.kept k)
theorem Inv.laid {a:Addr} {o:HO} {t':Nat} (I:Inv X pins σ H s) (k:∀ b u,s.heap.get? b=some u→h'.get? b=some u) (hp:s.heap.objs.size≤a) (new:b_ X.prog X.w (upd H a o) h' a o) :
  Inv X pins σ (upd H a o) { s with heap:=h',toks:=t' }:=I.un (Un.laid k hp (I.hok.fresh hp)) (I.hok.laid k hp new)
theorem Inv.write {x e:Addr} {o:HO} {t':Nat} (I:Inv X pins σ H s) (mu:Mut (H x)) (he:e=x∨H e=some (.own x)) (k:∀ b u,b≠e→s.heap.get? b=some u→h'.get? b=some u) (heo:∃ u,h'.get? e=some u)
  (new:b_ X.prog X.w (upd H x o) h' x o):Inv X pins σ (upd H x o) { s with heap:=h',toks:=t' }:=I.un (Un.write mu he k heo) (I.hok.write mu he k heo new)
theorem Inv.weak {σ':List (Option V)} (I:Inv X pins σ H s) (hl:σ'.length=σ.length) (w:∀ (i:Nat) v,σ'[i]?=some (some v)→σ[i]?=some (some v)):Inv X pins σ' H s:=
 ⟨I.ok,I.os,I.bare,I.base,let ⟨m,hn,hl'⟩:=I.loc;⟨m,hn,fun i x v e1 e2 e3=>hl' i x v e1 (w i v e2) e3⟩,I.cell,I.free,I.freeC,I.pin,I.hok,hl.trans I.len⟩
theorem Inv.uO {pins':List (Addr×Obj)} (I:Inv X pins σ H s) (h:∀ p∈pins',s.heap.get? p.1=some p.2∧H p.1=none∧p.1≠X.env.locals∧p.1∉X.fs∧∀ v,p.2.data≠.cell v):Inv X pins' σ H s:=
 ⟨I.ok,I.os,I.bare,I.base,I.loc,I.cell,I.free,I.freeC,fun p hp=>(Kz.mp hp).elim (fun z=>I.pin p (LY _ z)) (h p),I.hok,I.len⟩
theorem tm {N:List Str} (hN:N.Nodup) {i j:Nat} {x:Str} (a:N[i]?=some x) (b:N[j]?=some x):i=j:=by
 obtain ⟨h1,e1⟩:=J5.mp a
 obtain ⟨h2,e2⟩:=J5.mp b
 exact (List.getElem_inj hN).mp (e1.trans e2.symm)
theorem yr {M:SM} {A:KD} {E:Value→JU→Prop} {i:Nat} {x:Str} {v:V} {u:Value} {Q:Unit→JU→Prop} (I:Inv X pins σ H s) (hN:X.N.Nodup) (hi:X.N[i]?=some x) (hx:Loc X.env.scope x) (r:RelV v u)
  (h:∀ s',Inv X pins (σ.set i (some v)) H s'→(∃ a,K_ a s.heap s'.heap∧(a=X.env.locals∨X.env.cells.lookup x=some a))→Q () s') (hf:X.fn x=true∨X.env.scope.names.lookup x=some .local:=by first | exact .inl rfl | exact .inr rfl | assumption):JY M A (storeName X.env x u) Q E s:=by
 obtain ⟨m,hn,hl⟩:=id I.loc
 have hcls:(X.env.scope.kind == .class || (X.env.scope.kind == .module && X.env.locals != X.env.globals))=false:=by rw [I.ok.kind];rfl
 have hiσ:i < σ.length:=by rw [I.len];exact (J5.mp hi).1
 have cne:=I.cne
 have tracked:∀ {a:Addr} {h':Heap},(∃ o,s.heap.get? a=some o∧H a=none)→K_ a s.heap h'→HOk X.prog X.w H h':=fun {a h'} ha hs b ob e=>by
  obtain ⟨_,_,hfree⟩:=ha
  refine (I.hok b ob e).iW (fun c w' hc q=>(hs.2 c ?_).trans q) (fun _ q=>q) fun _ _ q=>q
  rintro rfl
  rcases hc with rfl | hc
  ·rw [hfree] at e;cases e
  ·rw [hfree] at hc;cases hc
 rcases hx with hk | hk
 ·refine wpAny_storeName_local hk hn (fun h' hn' hs=>?_) hcls
  obtain ⟨oL,_,_,hoL,_⟩:=id hn
  refine h _ ⟨I.ok,I.os,I.bare,⟨fun b o e n hb hx=>?_,fun b o e n hb hx=>?_,I.base.free,fun b o e hx=>?_,I.base.tups,I.base.frzs,I.base.tbls⟩,⟨_,hn',fun j y v' e1 e2 e3=>?_⟩,fun y c e=>?_,I.free,I.freeC,fun p hp=>?_,tracked ⟨oL,hoL,I.free⟩ hs,by simpa using I.len⟩ ⟨_,hs,.inl rfl⟩
  ·exact (hs.2 b (Kf (Kt (J4 e) I.ok.above))).trans (I.base.keep b o e n hb hx)
  ·obtain ⟨sl,e1⟩:=I.base.slot b o e n hb hx
   exact ⟨sl,(hs.2 b (Kf (Kt (J4 e) I.ok.above))).trans e1⟩
  ·obtain ⟨o',e1⟩:=I.base.there b o e hx
   exact ⟨o',(hs.2 b (Kf (Kt (J4 e) I.ok.above))).trans e1⟩
  ·by_cases hj:j=i
   ·subst hj
    rw [hi] at e1;cases e1
    rw [MR hiσ] at e2
    cases e2
    exact ⟨u,r,.inl ⟨hk,by simp⟩⟩
   ·rw [M_ (LN hj)] at e2
    obtain ⟨u',r',q⟩:=hl j y v' e1 e2 e3
    refine ⟨u',r',?_⟩
    rcases q with ⟨k,e⟩ | ⟨k,c,e,z⟩
    ·refine .inl ⟨k,?_⟩
     have:y≠x:=fun e=>hj (tm hN e1 (e ▸ hi))
     simp [this,e]
    ·exact .inr ⟨k,c,e,z.sameBut hs (cne y c e)⟩
  ·obtain ⟨w',z⟩:=I.cell y c e
   exact ⟨w',z.sameBut hs (cne y c e)⟩
  ·obtain ⟨e,n,ne,nf,d⟩:=I.pin p hp
   exact ⟨(hs.2 p.1 ne).trans e,n,ne,nf,d⟩
 ·have hfn:X.fn x=true:=by
   rcases hf with z | z
   ·exact z
   ·rw [z] at hk;cases hk
  obtain ⟨c,hc⟩:=I.ok.has x (.inl hk)
  obtain ⟨w',z⟩:=I.cell x c hc
  refine wpAny_storeName_cell I.ok.kind hk hc z (fun h' hc' hs=>?_)
  obtain ⟨oc,hoc,hocd⟩:=id z
  refine h { s with heap:=h' } ⟨I.ok,I.os,I.bare,⟨fun b o e n hb hx=>?_,fun b o e n hb hx=>?_,I.base.free,fun b o e hx=>?_,I.base.tups,I.base.frzs,I.base.tbls⟩,⟨m,hn.sameBut hs (LN (cne x c hc)),fun j y v' e1 e2 e3=>?_⟩,fun y c' e=>?_,I.free,I.freeC,fun p hp=>?_,tracked ⟨oc,hoc,I.freeC x c hc⟩ hs,by simpa using I.len⟩ ⟨c,hs,.inr hc⟩
  ·exact (hs.2 b (Kf (Kt (J4 e) (I.ok.cab x c hfn hc)))).trans (I.base.keep b o e n hb hx)
  ·obtain ⟨sl,e1⟩:=I.base.slot b o e n hb hx
   exact ⟨sl,(hs.2 b (Kf (Kt (J4 e) (I.ok.cab x c hfn hc)))).trans e1⟩
  ·obtain ⟨o',e1⟩:=I.base.there b o e hx
   exact ⟨o',(hs.2 b (Kf (Kt (J4 e) (I.ok.cab x c hfn hc)))).trans e1⟩
  ·by_cases hj:j=i
   ·subst hj
    rw [hi] at e1;cases e1
    rw [MR hiσ] at e2
    cases e2
    exact ⟨u,r,.inr ⟨.inl hk,c,hc,hc'⟩⟩
   ·rw [M_ (LN hj)] at e2
    obtain ⟨u',r',q⟩:=hl j y v' e1 e2 e3
    refine ⟨u',r',?_⟩
    rcases q with q | ⟨k,c',e,z'⟩
    ·exact .inl q
    ·refine .inr ⟨k,c',e,z'.sameBut hs ?_⟩
     rintro rfl
     exact hj (tm hN e1 (I.ok.inj _ _ _ e hc ▸ hi))
  ·by_cases hcc:c'=c
   ·subst hcc;exact ⟨_,hc'⟩
   ·obtain ⟨w2,z2⟩:=I.cell y c' e
    exact ⟨w2,z2.sameBut hs hcc⟩
  ·obtain ⟨e,n,ne,nf,d⟩:=I.pin p hp
   refine ⟨(hs.2 p.1 ?_).trans e,n,ne,nf,d⟩
   intro q
   rw [q,hoc] at e
   have q':oc=p.2:=KA e
   exact d w' (by rw [← q'];exact hocd)
theorem kC {M:SM} {A:KD} {E:Value→JU→Prop} {i:Nat} {x:Str} {v:V} {u:Value} {Q:Unit→JU→Prop} (I:Inv X pins σ H s) (hN:X.N.Nodup) (hi:X.N[i]?=some x) (hx:Loc X.env.scope x) (r:RelV v u)
  (h:∀ s',Inv X pins (σ.set i (some v)) H s'→Q () s') (hf:X.fn x=true∨X.env.scope.names.lookup x=some .local:=by first | exact .inl rfl | exact .inr rfl | assumption):JY M A (storeName X.env x u) Q E s:=
 yr I hN hi hx r (fun s' I' _=>h s' I') hf
theorem Inv.A1 {s':JU} {ch:List Addr} (I:Inv X pins σ H s) (ho:s'.os=s.os) (u:Un (frs X.stack) ch H H' s.heap s'.heap) (hok:HOk X.prog X.w H' s'.heap) (hg:Ov s'.gens)
  (hch:∀ b∈ch,(b∈X.ex∨X.s₀.heap.objs.size≤b)∧b≠X.env.locals∧(∀ x c,X.env.cells.lookup x=some c→c≠b)∧∀ p∈X.pn++pins,p.1≠b):Inv X pins σ H' s':=by
 obtain ⟨h',g',d',t',o'⟩:=s'
 have e:o'=s.os:=ho
 subst e
 exact I.call (g':=g') (t':=t') (d':=d') u hok hg hch
end
abbrev XK:=Value→Option Addr→Hp→Prop
abbrev St:=List (Option V)
abbrev VK:=V→Hp→Prop
abbrev TE:=St→Hp→VK→Prop
abbrev TT:=St→Hp→(Bool→Hp→Prop)→Prop
abbrev TA:=St→Hp→(List V→Hp→Prop)→Prop
structure Ends where
 nx:St→Hp→Prop
 rt:VK
 bk:St→Hp→Prop:=fun _ _=>False
 ct:St→Hp→Prop:=fun _ _=>False
abbrev TS:=Ends→St→Hp→Prop
def EP (X:Cx) (pins:List (Addr×Obj)) (σ:St) (Q:VK) (u:Value) (s':JU):Prop:=∃ v H',Inv X pins σ H' s'∧RelV v u∧Q v H'
def TP (X:Cx) (pins:List (Addr×Obj)) (σ:St) (Q:Bool→Hp→Prop) (b:Bool) (s':JU):Prop:=∃ H',Inv X pins σ H' s'∧Q b H'
def AP (X:Cx) (pins:List (Addr×Obj)) (σ:St) (Q:List V→Hp→Prop) (us:List Value) (s':JU):Prop:=∃ vs H',Inv X pins σ H' s'∧Vals vs us∧Q vs H'
def SP (X:Cx) (pins:List (Addr×Obj)) (D:Ends) (f:Flow) (s':JU):Prop:=
 match f with
 | .next=>∃ σ' H',Inv X pins σ' H' s'∧D.nx σ' H'
 | .brk=>∃ σ' H',Inv X pins σ' H' s'∧D.bk σ' H'
 | .cont=>∃ σ' H',Inv X pins σ' H' s'∧D.ct σ' H'
 | .ret u=>∃ v σ' H',Inv X pins σ' H' s'∧RelV v u∧D.rt v H'
def PE (X:Cx) (e:Ke) (t:TE):Prop:=
 ∀ (pins:List (Addr×Obj)) (s:JU) (σ:St) (H:Hp) (Q:VK),Inv X pins σ H s→t σ H Q→JY (J6 X.prog X.w) X.A (KC e X.env) (EP X pins σ Q) X.xe s
def PT (X:Cx) (e:Ke) (t:TT):Prop:=
 ∀ (pins:List (Addr×Obj)) (s:JU) (σ:St) (H:Hp) (Q:Bool→Hp→Prop),Inv X pins σ H s→t σ H Q→JY (J6 X.prog X.w) X.A (Sg e X.env (KC e X.env)) (TP X pins σ Q) X.xe s
def PW (X:Cx) (e:Ke) (t:TT):Prop:=
 ∀ (whole:Sem Value) (pins:List (Addr×Obj)) (s:JU) (σ:St) (H:Hp) (Q:Bool→Hp→Prop),Inv X pins σ H s→t σ H Q→JY (J6 X.prog X.w) X.A (Sg e X.env whole) (TP X pins σ Q) X.xe s
theorem PW.pt {X:Cx} {e:Ke} {t:TT} (h:PW X e t):PT X e t:=h _
def PA (X:Cx) (es:List Ke) (t:TA):Prop:=
 ∀ (pos:Pos) (pins:List (Addr×Obj)) (s:JU) (σ:St) (H:Hp) (Q:List V→Hp→Prop),Inv X pins σ H s→t σ H Q→JY (J6 X.prog X.w) X.A (SN (Ly pos (J7 es X.env))) (AP X pins σ Q) X.xe s
def PS (X:Cx) (st:Stmt) (t:TS):Prop:=
 ∀ (pins:List (Addr×Obj)) (s:JU) (σ:St) (H:Hp) (D:Ends),Inv X pins σ H s→t D σ H→JY (J6 X.prog X.w) X.A (exec st X.env) (SP X pins D) X.xe s
def PSs (X:Cx) (st:List Stmt) (t:TS):Prop:=
 ∀ (pins:List (Addr×Obj)) (s:JU) (σ:St) (H:Hp) (D:Ends),Inv X pins σ H s→t D σ H→JY (J6 X.prog X.w) X.A (execs st X.env) (SP X pins D) X.xe s
theorem thn {α:Type} {t:Sem α} {Q Q':α→JU→Prop} {M:SM} {A:KD} {E:Value→JU→Prop} {s:JU} (h:JY M A t Q E s) (hQ:∀ a s,Q a s→Q' a s):JY M A t Q' E s:=Me h hQ fun _ _ x=>x
section
variable {X:Cx}
def pq (i:Nat):TE:=fun σ H Q=>∃ v,σ[i]?=some (some v)∧Q v H
def tC (v:V):TE:=fun _ H Q=>Q v H
theorem wV {i:Nat} {x:Str} {pos:Pos} (hN:X.N[i]?=some x) (hv:Vis X.env.scope x) (hd:(x == ("__debug__":Str))=false:=by decide) (hcd:(x == ("__classdict__":Str))=false:=by decide):PE X (.Name x pos) (pq i):=by
 intro pins s σ H Q I h
 obtain ⟨v,e,h⟩:=h
 obtain ⟨m,hn,hl⟩:=I.loc
 obtain ⟨u,r,l⟩:=hl i x v hN e hv
 have fin:EP X pins σ Q u s:=⟨v,H,I,r,h⟩
 rcases l with ⟨hk,hm⟩ | ⟨hk,c,hc,hcell⟩
 ·exact Ry (Rz I.ok.kind hk hn hm fin) hd
 ·rcases hk with hk | hk
  ·exact Ry (wpAny_loadName_cell I.ok.kind hk hc hcell fin) hd
  ·exact Ry (wpAny_loadName_free I.ok.kind hk hc hcell fin hcd) hd
theorem Eg {i j pos}:PE X (.Constant (.int i) j pos) (tC (.int i)):=fun _ _ _ H _ I h=>Sh ⟨.int i,H,I.tok _,⟨_,rfl⟩,h⟩
theorem GA {b j pos}:PE X (.Constant (.bool b) j pos) (tC (.bl b)):=fun _ _ _ H _ I h=>Constant_bool ⟨.bl b,H,I,rfl,h⟩
theorem EH {j pos}:PE X (.Constant .none j pos) (tC .non):=fun _ _ _ H _ I h=>Constant_none ⟨.non,H,I,rfl,h⟩
theorem FI {x j pos}:PE X (.Constant (.str x) j pos) (tC (.str x)):=fun _ _ _ H _ I h=>Od ⟨.str x,H,I.tok _,⟨_,rfl⟩,h⟩
def Gl (X:Cx) (x:Str):Prop:=X.env.kindOf x=some .globalImplicit
theorem jK {E:Value→JU→Prop} {pins:List (Addr×Obj)} {s:JU} {σ:St} {H:Hp} {x:Str} {u:Value} {pos:Pos} {Q:Value→JU→Prop} (I:Inv X pins σ H s) (hg:Gl X x) (hm:X.mg x=some u) (h:Q u s)
  (hd:(x == ("__debug__":Str))=false:=by decide):JY (J6 X.prog X.w) X.A (KC (.Name x pos) X.env) Q E s:=
 N0 I.ok.kind hg (QG (by rw [I.ok.glob];exact I.mod.glob.keeps I.bk) hm h) hd
theorem df {E:Value→JU→Prop} {pins:List (Addr×Obj)} {s:JU} {σ:St} {H:Hp} {x:Str} {u:Value} {pos:Pos} {Q:Value→JU→Prop} (I:Inv X pins σ H s) (hg:Gl X x) (hm:X.mg x=none) (hv:Kj x=some u) (h:Q u s)
  (hn:x≠"__name__":=by decide) (hd:(x == ("__debug__":Str))=false:=by decide):JY (J6 X.prog X.w) X.A (KC (.Name x pos) X.env) Q E s:=by
 obtain ⟨mb,h1,h2⟩:=I.mod.blt
 exact N0 I.ok.kind hg (Calls.loadGlobal_builtin (by rw [I.ok.glob];exact I.mod.glob.keeps I.bk) hm (by rw [I.ok.blt];exact h1.keeps I.bk) ((h2 x hn).trans hv) h) hd
theorem Ct {x:Str} {v:V} {u:Value} {pos:Pos} (hg:Gl X x) (hm:X.mg x=some u) (r:RelV v u) (hd:(x == ("__debug__":Str))=false:=by decide):PE X (.Name x pos) (tC v):=
 fun _ _ _ H _ I h=>jK I hg hm ⟨v,H,I,r,h⟩ hd
theorem uQ {x:Str} {v:V} {u:Value} {pos:Pos} (hg:Gl X x) (hm:X.mg x=none) (hv:Kj x=some u) (r:RelV v u) (hn:x≠"__name__":=by decide) (hd:(x == ("__debug__":Str))=false:=by decide):PE X (.Name x pos) (tC v):=
 fun _ _ _ H _ I h=>df I hg hm hv ⟨v,H,I,r,h⟩ hn hd
variable {a b:Ke} {ta tb:TE} {pos:Pos}
variable {tA tB':TT} {rest:List Ke}
def Jz (t u:TT):TT:=fun σ H Q=>t σ H fun c H1=>if c=true then u σ H1 Q else Q false H1
def tOr (t u:TT):TT:=fun σ H Q=>t σ H fun c H1=>if c=true then Q true H1 else u σ H1 Q
def JL (t:TT):TT:=fun σ H Q=>t σ H fun c H1=>Q (!c) H1
theorem Dh (ha:PT X a tA):PW X (.BoolOp .And [a] pos) tA:=by
 intro wh pins s σ H Q I h
 refine isTrue_and (thn (ha pins s σ H Q I h) fun c s1 e=>?_)
 cases c with
 | true=>exact isTrue_and_nil e
 | false=>exact e
theorem FD (ha:PT X a tA):PW X (.BoolOp .Or [a] pos) tA:=by
 intro wh pins s σ H Q I h
 refine isTrue_or (thn (ha pins s σ H Q I h) fun c s1 e=>?_)
 cases c with
 | false=>exact isTrue_or_nil e
 | true=>exact e
theorem Dr (ha:PT X a tA) (hb:PW X (.BoolOp .And (b :: rest) pos) tB'):PW X (.BoolOp .And (a :: b :: rest) pos) (Jz tA tB'):=by
 intro wh pins s σ H Q I h
 refine isTrue_and (thn (ha pins s σ H _ I h) fun c s1 ⟨H1,I1,q1⟩=>?_)
 cases c with
 | true=>exact hb wh pins s1 σ H1 Q I1 q1
 | false=>exact ⟨H1,I1,q1⟩
theorem IU (ha:PT X a tA) (hb:PW X (.BoolOp .Or (b :: rest) pos) tB'):PW X (.BoolOp .Or (a :: b :: rest) pos) (tOr tA tB'):=by
 intro wh pins s σ H Q I h
 refine isTrue_or (thn (ha pins s σ H _ I h) fun c s1 ⟨H1,I1,q1⟩=>?_)
 cases c with
 | true=>exact ⟨H1,I1,q1⟩
 | false=>exact hb wh pins s1 σ H1 Q I1 q1
theorem EE (ha:PT X a tA):PT X (.UnaryOp .Not a pos) (JL tA):=by
 intro pins s σ H Q I h
 exact isTrue_not (ha pins s σ H (fun c H1=>Q (!c) H1) I h)
def Ip (ta tb:TE):TE:=fun σ H Q=>ta σ H fun x H1=>∃ c,x=.bl c∧if c=true then tb σ H1 Q else Q (.bl false) H1
def JA (ta tb:TE):TE:=fun σ H Q=>ta σ H fun x H1=>∃ c,x=.bl c∧if c=true then Q (.bl true) H1 else tb σ H1 Q
def Hj (ta:TE):TE:=fun σ H Q=>ta σ H fun x H1=>∃ c,x=.bl c∧Q (.bl (!c)) H1
theorem FY {op} {t:TE} (h:PE X a t):PE X (.BoolOp op [a] pos) t:=fun pins s σ H Q I hw=>BoolOp_one (h pins s σ H Q I hw)
theorem ED (ha:PE X a ta) (hb:PE X (.BoolOp .And (b :: rest) pos) tb):PE X (.BoolOp .And (a :: b :: rest) pos) (Ip ta tb):=by
 intro pins s σ H Q I h
 refine BoolOp_and (thn (ha pins s σ H _ I h) fun v s1 ⟨x,H1,I1,r1,q1⟩=>?_)
 obtain ⟨c,rfl,q1⟩:=q1
 cases r1
 refine Lq ?_
 cases c with
 | true=>exact hb pins s1 σ H1 Q I1 q1
 | false=>exact ⟨.bl false,H1,I1,rfl,q1⟩
theorem IH (ha:PE X a ta) (hb:PE X (.BoolOp .Or (b :: rest) pos) tb):PE X (.BoolOp .Or (a :: b :: rest) pos) (JA ta tb):=by
 intro pins s σ H Q I h
 refine BoolOp_or (thn (ha pins s σ H _ I h) fun v s1 ⟨x,H1,I1,r1,q1⟩=>?_)
 obtain ⟨c,rfl,q1⟩:=q1
 cases r1
 refine Lq ?_
 cases c with
 | false=>exact hb pins s1 σ H1 Q I1 q1
 | true=>exact ⟨.bl true,H1,I1,rfl,q1⟩
theorem FT (ha:PE X a ta):PE X (.UnaryOp .Not a pos) (Hj ta):=by
 intro pins s σ H Q I h
 refine UnaryOp_ (thn (ha pins s σ H _ I h) fun v s1 ⟨x,H1,I1,r1,q1⟩=>?_)
 obtain ⟨c,rfl,q1⟩:=q1
 cases r1
 exact not_of (Lq ⟨.bl (!c),H1,I1,rfl,q1⟩)
def tIf (t:TT) (ta tb:TE):TE:=fun σ H Q=>t σ H fun c H1=>if c=true then ta σ H1 Q else tb σ H1 Q
theorem AG {c:Ke} (hc:PT X c tA) (ha:PE X a ta) (hb:PE X b tb):PE X (.IfExp c a b pos) (tIf tA ta tb):=by
 intro pins s σ H Q I h
 refine wpAny_IfExp (thn (hc pins s σ H _ I h) fun d s1 ⟨H1,I1,q1⟩=>?_)
 cases d with
 | true=>exact ha pins s1 σ H1 Q I1 q1
 | false=>exact hb pins s1 σ H1 Q I1 q1
end
def SqL (K:JV) (H:Hp) (a:Addr) (xs:List V):Prop:=
 Rd H a (.lst xs) ∨
  ∃ (o:Obj) (its:Array Value) (n:Nat),K.lookup a=some o∧o.cls=.type "list"∧o.dict=none∧o.data=.seq its n∧its.size≤sizeLine∧Vals xs its.toList
def SqT (K:JV) (H:Hp) (a:Addr) (xs:List V):Prop:=
 Rd H a (.tup xs) ∨
  ∃ (o:Obj) (its:Array Value) (n:Nat),K.lookup a=some o∧o.cls=.type "tuple"∧o.data=.seq its n∧its.size≤sizeLine∧Vals xs its.toList
def JF:Value→Option V
 | .none=>some .non
 | .bool b=>some (.bl b)
 | .int i _=>some (.int i)
 | .str x _=>some (.str x)
 | .bytes b _=>some (.byt b)
 | .float b _=>some (.flt b)
 | .ref a=>some (.ref a)
 | .type n=>some (.ty n)
 | _=>none
theorem RelV.abs {x:V} {u:Value} (r:RelV x u):JF u=some x:=by
 cases x with
 | non=>cases r;rfl
 | bl _=>cases r;rfl
 | int _=>obtain ⟨t,rfl⟩:=r;rfl
 | str _=>obtain ⟨t,rfl⟩:=r;rfl
 | byt _=>obtain ⟨t,rfl⟩:=r;rfl
 | flt _=>obtain ⟨t,rfl⟩:=r;rfl
 | ref _=>cases r;rfl
 | ty _=>cases r;rfl
theorem RelV.inj {x y:V} {u:Value} (r:RelV x u) (q:RelV y u):x=y:=KA (r.abs.symm.trans q.abs)
theorem Vals.inj:∀ {xs ys:List V} {us:List Value},Vals xs us→Vals ys us→xs=ys
 | _,_,_,.nil,.nil=>rfl
 | _,_,_,.cons r t,.cons r' t'=>by rw [r.inj r',Vals.inj t t']
section
variable {X:Cx} {pins:List (Addr×Obj)} {σ:St} {H:Hp} {s:JU} {a:Addr} {xs ys:List V}
theorem SqL.of {K:JV} (h:H a=some (.lst xs)):SqL K H a xs:=.inl (.inl h)
theorem SqT.of {K:JV} (h:H a=some (.tup xs)):SqT K H a xs:=.inl (.inl h)
theorem Inv.list (I:Inv X pins σ H s) (h:SqL X.K H a xs):∃ its:List Value,Vals xs its∧PlainL s.heap a its.toArray∧xs.length≤sizeLine:=by
 rcases h with h | ⟨o,its,n,hk,hc,hd,hs,hz,r⟩
 ·obtain ⟨z,its,n,r,e⟩:=h.ok I.hok
  exact ⟨its,r,⟨_,n,e,rfl,rfl,rfl⟩,z⟩
 ·refine ⟨its.toList,r,⟨o,n,I.kIn a o hk,hc,hd,by simpa using hs⟩,?_⟩
  have e:=r.length
  simp only [Kh] at e
  omega
theorem Inv.tuple (I:Inv X pins σ H s) (h:SqT X.K H a xs):∃ its:List Value,Vals xs its∧Pr s.heap a its.toArray∧xs.length≤sizeLine:=by
 rcases h with h | ⟨o,its,n,hk,hc,hs,hz,r⟩
 ·obtain ⟨z,its,r,p⟩:=h.ok I.hok
  exact ⟨its,r,p,z⟩
 ·refine ⟨its.toList,r,⟨o,I.kIn a o hk,hc,n,by simpa using hs⟩,?_⟩
  have e:=r.length
  simp only [Kh] at e
  omega
theorem Inv.rn (I:Inv X pins σ H s) (h:SqL X.K H a xs) (h':SqL X.K H a ys):xs=ys:=by
 obtain ⟨its,r,⟨o,n,e,_,_,d⟩,_⟩:=I.list h
 obtain ⟨its',r',⟨o',n',e',_,_,d'⟩,_⟩:=I.list h'
 rw [e] at e';cases e'
 rw [d] at d'
 injection d' with d1 _
 have:its=its':=by simpa using LZ Si d1
 subst this
 exact r.inj r'
theorem Inv.xI (I:Inv X pins σ H s) (h:SqT X.K H a xs) (h':SqT X.K H a ys):xs=ys:=by
 obtain ⟨its,r,⟨o,e,_,n,d⟩,_⟩:=I.tuple h
 obtain ⟨its',r',⟨o',e',_,n',d'⟩,_⟩:=I.tuple h'
 rw [e] at e';cases e'
 rw [d] at d'
 injection d' with d1 _
 have:its=its':=by simpa using LZ Si d1
 subst this
 exact r.inj r'
end
abbrev Cx.jA (X:Cx) (E:Value→JU→Prop):Cx:={ X with xe:=E }
abbrev Cx.nox (X:Cx):Cx:=X.jA fun _ _=>False
theorem Cx.Ok.jA {X:Cx} (ok:X.Ok) (E:Value→JU→Prop):(X.jA E).Ok:=
 ⟨ok.mod,ok.kind,ok.glob,ok.blt,ok.above,ok.inj,ok.has,ok.cab,ok.hd,ok.frames,ok.stk,ok.exf,ok.bs,ok.bsz,ok.noex,ok.exfs,ok.gi,ok.frf⟩
theorem Cx.Ok.gS {X:Cx} {E:Value→JU→Prop} (ok:(X.jA E).Ok):X.Ok:=
 ⟨ok.mod,ok.kind,ok.glob,ok.blt,ok.above,ok.inj,ok.has,ok.cab,ok.hd,ok.frames,ok.stk,ok.exf,ok.bs,ok.bsz,ok.noex,ok.exfs,ok.gi,ok.frf⟩
section
variable {X:Cx} {pins:List (Addr×Obj)} {σ:St} {H:Hp} {s:JU} {E:Value→JU→Prop}
theorem Inv.jA (I:Inv X pins σ H s) (E:Value→JU→Prop):Inv (X.jA E) pins σ H s:=⟨I.ok.jA E,I.os,I.bare,I.base,I.loc,I.cell,I.free,I.freeC,I.pin,I.hok,I.len⟩
theorem Inv.gS (I:Inv (X.jA E) pins σ H s):Inv X pins σ H s:=⟨I.ok.gS,I.os,I.bare,I.base,I.loc,I.cell,I.free,I.freeC,I.pin,I.hok,I.len⟩
theorem SP.gS {D:Ends} {f:Flow} {s':JU} (h:SP (X.jA E) pins D f s'):SP X pins D f s':=by
 cases f with
 | next=>obtain ⟨σ',H',I,q⟩:=h;exact ⟨σ',H',I.gS,q⟩
 | brk=>obtain ⟨σ',H',I,q⟩:=h;exact ⟨σ',H',I.gS,q⟩
 | cont=>obtain ⟨σ',H',I,q⟩:=h;exact ⟨σ',H',I.gS,q⟩
 | ret u=>obtain ⟨v,σ',H',I,r,q⟩:=h;exact ⟨v,σ',H',I.gS,r,q⟩
theorem PSs.nox {st:List Stmt} {t:TS} (h:PSs X.nox st t):PSs X st t:=fun pins s σ H D I hw=>
 Me (h pins s σ H D (I.jA _) hw) (fun _ _ q=>q.gS) fun _ _ z=>LB z
end
section
variable {X:Cx} {st:Stmt} {rest:List Stmt} {t u:TS} {e:Ke} {te:TE} {pos:Pos}
def Ht:TS:=fun D σ H=>D.nx σ H
def Ju (t u:TS):TS:=fun D σ H=>t { D with nx:=u D } σ H
theorem uB:PSs X [] Ht:=fun _ _ σ H _ I h=>N7 ⟨σ,H,I,h⟩
theorem nH (h1:PS X st t) (h2:PSs X rest u):PSs X (st :: rest) (Ju t u):=by
 intro pins s σ H D I h
 refine Ql (thn (h1 pins s σ H { D with nx:=u D } I h) fun f s1 q=>?_)
 cases f with
 | next=>
  obtain ⟨σ',H',I',q⟩:=q
  exact h2 pins s1 σ' H' D I' q
 | ret v=>exact q
 | brk=>exact q
 | cont=>exact q
theorem B8 (h1:PS X st t):PSs X [st] t:=by
 intro pins s σ H D I h
 refine Ql (thn (h1 pins s σ H D I h) fun f s1 q=>?_)
 cases f with
 | next=>exact N7 q
 | ret v=>exact q
 | brk=>exact q
 | cont=>exact q
theorem Inv.quiet {pins:List (Addr×Obj)} {σ:St} {H:Hp} {s:JU} (I:Inv X pins σ H s):interactive X.env=false:=by simp [interactive,I.ok.kind]
def HN (te:TE):TS:=fun D σ H=>te σ H fun _ H1=>D.nx σ H1
theorem uv (he:PE X e te) (hs:O0 e none pos.line X.env=pure false:=by rfl):PS X (.Expr e pos) (HN te):=by
 intro pins s σ H D I h
 exact wpAny_Expr_any (thn (he pins s σ H _ I h) fun v s1 ⟨x,H1,I1,r1,q1⟩=>⟨σ,H1,I1,q1⟩) I.quiet hs
def JE (te:TE):TS:=fun D σ H=>te σ H D.rt
theorem FZ (he:PE X e te):PS X (.Return (some e) pos) (JE te):=by
 intro pins s σ H D I h
 exact wpAny_Return_some (thn (he pins s σ H _ I h) fun v s1 ⟨x,H1,I1,r1,q1⟩=>⟨x,σ,H1,I1,r1,q1⟩)
def Jh (c:TT) (t u:TS):TS:=fun D σ H=>c σ H fun b H1=>if b=true then t D σ H1 else u D σ H1
theorem G5 {c:Ke} {a b:List Stmt} {tc:TT} (hc:PT X c tc) (ha:PSs X a t) (hb:PSs X b u):PS X (.If c a b pos) (Jh tc t u):=by
 intro pins s σ H D I h
 refine wpAny_If (thn (hc pins s σ H _ I h) fun d s1 ⟨H1,I1,q1⟩=>?_)
 cases d with
 | true=>exact ha pins s1 σ H1 D I1 q1
 | false=>exact hb pins s1 σ H1 D I1 q1
end
abbrev TG:=V→St→Hp→(St→Hp→Prop)→Prop
abbrev TGs:=List V→St→Hp→(St→Hp→Prop)→Prop
def PG (X:Cx) (target:Ke) (t:TG):Prop:=
 ∀ (pins:List (Addr×Obj)) (s:JU) (σ:St) (H:Hp) (v:V) (u:Value) (Q:St→Hp→Prop),Inv X pins σ H s→RelV v u→t v σ H Q →
  JY (J6 X.prog X.w) X.A (Qm target X.env u) (fun _ s'=>∃ σ' H',Inv X pins σ' H' s'∧Q σ' H') X.xe s
def PGs (X:Cx) (ts:List Ke) (t:TGs):Prop:=
 ∀ (pins:List (Addr×Obj)) (s:JU) (σ:St) (H:Hp) (vs:List V) (us:List Value) (Q:St→Hp→Prop),Inv X pins σ H s→Vals vs us→t vs σ H Q →
  JY (J6 X.prog X.w) X.A (assignInOrder ((MS ts X.env).map (·.2)) us) (fun _ s'=>∃ σ' H',Inv X pins σ' H' s'∧Q σ' H') X.xe s
abbrev s_:=V→V→V→Hp→(Hp→Prop)→Prop
def wb (X:Cx) (t:s_):Prop:=
 ∀ (pins:List (Addr×Obj)) (s:JU) (σ:St) (H:Hp) (o i v:V) (ov iv u:Value) (Q:Hp→Prop),Inv X pins σ H s→RelV o ov→RelV i iv→RelV v u→t o i v H Q →
  JY (J6 X.prog X.w) X.A (SO ov iv u) (fun _ s'=>∃ H',Inv X pins σ H' s'∧Q H') X.xe s
section
variable {X:Cx} {pos:Pos}
def Bf (i:Nat):TG:=fun v σ H Q=>Q (σ.set i (some v)) H
theorem CY {i:Nat} {x:Str} (hN:X.N.Nodup) (hi:X.N[i]?=some x) (hx:Loc X.env.scope x) (hf:X.fn x=true∨X.env.scope.names.lookup x=some .local:=by first | exact .inl rfl | exact .inr rfl | assumption):PG X (.Name x pos) (Bf i):=by
 intro pins s σ H v u Q I r h
 exact wpAny_assign_Name (kC I hN hi hx r (fun s' I'=>⟨_,H,I',h⟩) hf)
def I_:TGs:=fun vs σ H Q=>vs=[]∧Q σ H
def GW (t:TG) (u:TGs):TGs:=fun vs σ H Q=>∃ v r,vs=v :: r∧t v σ H fun σ' H'=>u r σ' H' Q
theorem Di:PGs X [] I_:=by
 intro pins s σ H vs us Q I r h
 obtain ⟨e,h⟩:=h
 subst e
 cases r
 exact assignInOrder_nil ⟨σ,H,I,h⟩
theorem Aw {e:Ke} {es:List Ke} {t:TG} {u:TGs} (h1:PG X e t) (h2:PGs X es u)
  (hs:(MS (e :: es) X.env).map (·.2)=Qm e X.env :: (MS es X.env).map (·.2):=by rfl):PGs X (e :: es) (GW t u):=by
 intro pins s σ H vs us Q I r h
 obtain ⟨v,vr,e1,h⟩:=h
 subst e1
 cases r with
 | cons r rr=>
  rw [hs]
  refine assignInOrder_cons (thn (h1 pins s σ H _ _ _ I r h) fun _ s1 ⟨σ1,H1,I1,q1⟩=>?_)
  exact h2 pins s1 σ1 H1 _ _ Q I1 rr q1
def IV (K:JV) (n:Nat) (t:TGs):TG:=fun v σ H Q=>∃ a xs,v=.ref a∧SqT K H a xs∧xs.length=n∧t xs σ H Q
theorem FX {es:List Ke} {k:Nat} {t:TGs} {n:Nat} (hc:X.calm=true) (h:PGs X es t)
  (hn:(MS es X.env).length=n:=by rfl) (hst:(MS es X.env).findIdx? (·.1)=none:=by rfl):PG X (.Tuple es k pos) (IV X.K n t):=by
 intro pins s σ H v u Q I r hw
 obtain ⟨a,xs,e1,hq,hl,hw⟩:=hw
 subst e1
 cases r
 obtain ⟨its,rv,ht,hz⟩:=I.tuple hq
 refine assign_Tuple_tuple (I.ok.hd hc) ht (by simp [hn,← hl,rv.length]) hst fun h' hx=>?_
 have I1:Inv X pins σ H { s with heap:=h' }:=I.kept (t':=s.toks) fun b o e=>hx b o (Kf (J4 e)) e
 exact h pins _ σ H xs _ Q I1 (by simpa using rv) hw
def Jr (to ti:TE) (t:s_):TG:=fun v σ H Q=>to σ H fun o H1=>ti σ H1 fun i H2=>t o i v H2 fun H3=>Q σ H3
theorem DW {o i:Ke} {to ti:TE} {t:s_} (ho:PE X o to) (hi:PE X i ti) (hs:wb X t)
  (ha:∀ v,Qm (.Subscript o i pos) X.env v=(do
   let ov ← N3 [v] (KC o X.env)
   let iv ← N3 [v,ov] (KC i X.env)
   SQ pos
   N3 [v,ov,iv] (SO ov iv v)
   release [v,ov,iv] []):=by intro _;rfl):PG X (.Subscript o i pos) (Jr to ti t):=by
 intro pins s σ H v u Q I r h
 rw [ha]
 refine ar (KG (thn (ho pins s σ H _ I h) fun ov s1 ⟨x,H1,I1,r1,q1⟩=>?_))
 refine ar (KG (thn (hi pins s1 σ H1 _ I1 q1) fun iv s2 ⟨y,H2,I2,r2,q2⟩=>?_))
 refine ar (PQ (ar (KG (thn (hs pins s2 σ H2 x y v ov iv u _ I2 r1 r2 r q2) fun _ s3 ⟨H3,I3,q3⟩=>?_))))
 exact wpAny_release ⟨σ,H3,I3,q3⟩
def Eo (te:TE) (g:TG):TS:=fun D σ H=>te σ H fun x H1=>g x σ H1 D.nx
theorem E2 {tg e:Ke} {te:TE} {g:TG} (he:PE X e te) (hg:PG X tg g) (hs:swapsWithSole [tg] e pos.line X.env=pure false:=by rfl) (hw:swappedStores [tg] e X.env=pure none:=by rfl)
  (h1:(MS [tg] X.env).map (·.2)=[Qm tg X.env]:=by rfl):PS X (.Assign [tg] e pos) (Eo te g):=by
 intro pins s σ H D I h
 refine wpAny_Assign_stores (thn (he pins s σ H _ I h) fun v s1 ⟨x,H1,I1,r1,q1⟩=>?_) hs hw
 rw [h1]
 exact thn (hg pins s1 σ H1 x v _ I1 r1 q1) fun _ s2 q=>q
theorem Gf {i:Nat} {x:Str} {e:Ke} {te:TE} {pos':Pos} (hN:X.N.Nodup) (hi:X.N[i]?=some x) (hx:Loc X.env.scope x) (he:PE X e te) (hs:O0 e (some (.Name x pos')) pos.line X.env=pure false:=by rfl) (hf:X.fn x=true∨X.env.scope.names.lookup x=some .local:=by first | exact .inl rfl | exact .inr rfl | assumption) :
  PS X (.Assign [.Name x pos'] e pos) (Eo te (Bf i)):=by
 intro pins s σ H D I h
 refine SW (thn (he pins s σ H _ I h) fun v s1 ⟨y,H1,I1,r1,q1⟩=>?_) hs
 exact kC I1 hN hi hx r1 (fun s2 I2=>⟨_,H1,I2,q1⟩) hf
end
structure It where
 go:Nat→Hp→Prop
 yld:Nat→Hp→V→Hp→Prop
 stop:Nat→Hp→Prop
def gA (X:Cx) (pins:List (Addr×Obj)) (H:Hp) (b:Addr):Prop:=
 H b=none∧b≠X.env.locals∧b∉X.fs∧(b∈X.ex∨X.s₀.heap.objs.size≤b)∧(∀ x c,X.env.cells.lookup x=some c→c≠b)∧∀ p∈X.pn++pins,p.1≠b
theorem Inv.nq {X:Cx} {pins:List (Addr×Obj)} {σ:St} {H H':Hp} {s:JU} {b:Addr} (I:Inv X pins σ H s) (hb:s.heap.objs.size≤b) (hn:H' b=none):gA X pins H' b:=by
 refine ⟨hn,MC (Kt I.lt hb),I.D5 hb,.inr (Lj I.sz hb),fun x c e z=>?_,fun p hp z=>?_⟩
 ·obtain ⟨v,q⟩:=I.cell x c e
  exact absurd (Kt q.lt (by rw [z];exact hb)) (LK _)
 ·exact absurd (Kt (J4 (I.pin p hp).1) (by rw [z];exact hb)) (LK _)
structure Turn (P:Kn) (w:Kq) (K:JV) (tg:Ke) (J:It) (fp:List Addr) (it:Addr) (tn:Nat→Heap→Prop):Prop where
 mem:it∈fp
 obj:∀ i h,tn i h→∀ b∈fp,∃ o,h.get? b=some o∧∀ v,o.data≠.cell v
 keep:∀ i h h',tn i h→(∀ b∈fp,∀ o,h.get? b=some o→h'.get? b=some o)→tn i h'
 item:∀ (X:Cx),X.prog=P→X.w=w→X.K=K→X.calm=true→∀ (i:Nat) (pins:List (Addr×Obj)) (s:JU) (σ:St) (H:Hp) (E:Value→JU→Prop),Inv X pins σ H s→(∀ b∈fp,gA X pins H b)→tn i s.heap→J.go i H →
  JY (J6 P w) X.A (Nq (.ref it)) (fun r s1=>∃ u,r=some u ∧
   JY (J6 P w) X.A (O6 tg (.ref it) u) (fun _ s2=>∃ x H',Inv X pins σ H' s2∧RelV x u∧J.yld i H x H'∧tn (i+1) s2.heap∧∀ b∈fp,H' b=none) E s1) E s
 done:∀ (X:Cx),X.prog=P→X.w=w→X.K=K→X.calm=true→∀ (i:Nat) (pins:List (Addr×Obj)) (s:JU) (σ:St) (H:Hp) (E:Value→JU→Prop),Inv X pins σ H s→(∀ b∈fp,gA X pins H b)→tn i s.heap→J.stop i H →
  JY (J6 P w) X.A (Nq (.ref it)) (fun r s1=>r=none∧Inv X pins σ H s1) E s
 self:∀ (A:KD) (i:Nat) (s:JU) (Q:Value→JU→Prop) (E:Value→JU→Prop),tn i s.heap→Q (.ref it) s→JY (J6 P w) A (Qn (.ref it)) Q E s
abbrev TI:=St→Hp→(It→Hp→Prop)→Prop
def PIE (X:Cx) (pins:List (Addr×Obj)) (σ:St) (tg:Ke) (R:It→Hp→Prop) (itv:Value) (s2:JU):Prop:=
 ∃ (it:Addr) (fp:List Addr) (tn:Nat→Heap→Prop) (J:It) (H':Hp),itv=.ref it∧Inv X pins σ H' s2∧Turn X.prog X.w X.K tg J fp it tn∧tn 0 s2.heap∧(∀ b∈fp,gA X pins H' b)∧R J H'
def PI (X:Cx) (tg iter:Ke) (wi:TI):Prop:=
 ∀ (pins:List (Addr×Obj)) (s:JU) (σ:St) (H:Hp) (R:It→Hp→Prop),Inv X pins σ H s→wi σ H R →
  JY (J6 X.prog X.w) X.A (KC iter X.env) (fun v s1=>JY (J6 X.prog X.w) X.A (Qn v) (PIE X pins σ tg R) X.xe s1) X.xe s
theorem vw {M : SM} {A : KD} {E : Value → JU → Prop} {s : JU} {tg : Ke} {it : Addr} {u : Value} {o : Obj} {n : String} {vs : Array Value} {Q : Unit → JU → Prop} (ho : s.heap.get? it = some o) (hc : o.cls = .type n) (hd : o.data = .fields vs)
    (hn : ["enumerate", "zip", "dict_itemiterator", "dict_reverseitemiterator", "odict_iterator", "itertools.zip_longest", "itertools.pairwise"].contains n = false) (hQ : Q () s) : JY M A (O6 tg (.ref it) u) Q E s := by
  unfold O6
  cases tg <;> first
    | exact tx hQ
    | (cases u <;> first
        | exact tx hQ
        | (refine ar (wpAny_load ho ?_)
           rw [hc, hd]
           show JY M A (if (["enumerate", "zip", "dict_itemiterator", "dict_reverseitemiterator", "odict_iterator", "itertools.zip_longest", "itertools.pairwise"].contains n && vs[0]? == some (Mw _)) = true then _ else _) Q E s
           rw [J9 (by intro h; rw [hn, Ls] at h; cases h)]
           exact tx hQ))
def Itl (K:JV) (a:Addr):It:=
 ⟨fun i H=>∃ xs x,SqL K H a xs∧xs[i]?=some x,fun i H x H'=>H'=H∧∀ xs,SqL K H a xs→xs[i]?=some x,fun i H=>∃ xs,SqL K H a xs∧xs.length≤i⟩
def Itt (K:JV) (a:Addr):It:=
 ⟨fun i H=>∃ xs x,SqT K H a xs∧xs[i]?=some x,fun i H x H'=>H'=H∧∀ xs,SqT K H a xs→xs[i]?=some x,fun i H=>∃ xs,SqT K H a xs∧xs.length≤i⟩
def Itr (lo:Int) (n:Nat):It:=⟨fun i _=>i < n,fun i H x H'=>H'=H∧x=.int (lo+i),fun i _=>n≤i⟩
theorem yN {P:Kn} {w:Kq} {K:JV} {tg:Ke} (a it:Addr):Turn P w K tg (Itl K a) [it] it (fun i h=>h.IsListIter it a i) where
 mem:=by simp
 obj:=fun i h st b hb=>by
  have e:b=it:=by simpa using hb
  subst e
  obtain ⟨o,e,c,d⟩:=st
  exact ⟨o,e,fun v z=>by rw [d] at z;cases z⟩
 keep:=fun i h h' st k=>st.at fun o e=>k it (by simp) o e
 item:=by
  intro X hP hw hK hc i pins s σ H E I hf st hg
  subst hP hw hK
  obtain ⟨xs,x,hq,hx⟩:=hg
  obtain ⟨its,rv,p,hz⟩:=I.list hq
  obtain ⟨u,hu,ru⟩:=rv.get hx
  obtain ⟨f0,f1,f2,f3,f4,f5⟩:=hf it (by simp)
  refine wpAny_pyNext_list_item st p.isList (x:=u) (by simpa using hu) fun h' st' sb=>?_
  have I1:Inv X pins σ H { s with heap:=h' }:=I.turned (t':=s.toks) (fun b o hb e=>(sb.2 b hb).trans e) f0 f1 f3 f4 f5
  obtain ⟨o,e,c,d⟩:=id st'
  exact ⟨u,rfl,vw (s:={ s with heap:=h' }) e c d (by decide) ⟨x,H,I1,ru,⟨rfl,fun ys hy=>by rw [I.rn hy hq];exact hx⟩,st',fun b hb=>(hf b hb).1⟩⟩
 done:=by
  intro X hP hw hK hc i pins s σ H E I hf st hg
  subst hP hw hK
  obtain ⟨xs,hq,hx⟩:=hg
  obtain ⟨its,rv,p,hz⟩:=I.list hq
  obtain ⟨f0,f1,f2,f3,f4,f5⟩:=hf it (by simp)
  have hl:=rv.length
  exact wpAny_pyNext_list_end (I.ok.hd hc) st p.isList (by simp;omega) fun h' eb=>⟨rfl,I.turned (t':=s.toks) (fun b o hb e=>eb b o hb e) f0 f1 f3 f4 f5⟩
 self:=fun _ _ _ _ _ st h=>wpAny_pyIter_listiter st h
theorem vi {P:Kn} {w:Kq} {K:JV} {tg:Ke} (a it:Addr):Turn P w K tg (Itt K a) [it] it (fun i h=>h.IsTupleIter it a i) where
 mem:=by simp
 obj:=fun i h st b hb=>by
  have e:b=it:=by simpa using hb
  subst e
  obtain ⟨o,e,c,d⟩:=st
  exact ⟨o,e,fun v z=>by rw [d] at z;cases z⟩
 keep:=fun i h h' st k=>st.at fun o e=>k it (by simp) o e
 item:=by
  intro X hP hw hK hc i pins s σ H E I hf st hg
  subst hP hw hK
  obtain ⟨xs,x,hq,hx⟩:=hg
  obtain ⟨its,rv,p,hz⟩:=I.tuple hq
  obtain ⟨u,hu,ru⟩:=rv.get hx
  obtain ⟨f0,f1,f2,f3,f4,f5⟩:=hf it (by simp)
  refine wpAny_pyNext_tuple_item st (show s.heap.IsTuple a its.toArray from p) (x:=u) (by simpa using hu) fun h' st' sb=>?_
  have I1:Inv X pins σ H { s with heap:=h' }:=I.turned (t':=s.toks) (fun b o hb e=>(sb.2 b hb).trans e) f0 f1 f3 f4 f5
  obtain ⟨o,e,c,d⟩:=id st'
  exact ⟨u,rfl,vw (s:={ s with heap:=h' }) e c d (by decide) ⟨x,H,I1,ru,⟨rfl,fun ys hy=>by rw [I.xI hy hq];exact hx⟩,st',fun b hb=>(hf b hb).1⟩⟩
 done:=by
  intro X hP hw hK hc i pins s σ H E I hf st hg
  subst hP hw hK
  obtain ⟨xs,hq,hx⟩:=hg
  obtain ⟨its,rv,p,hz⟩:=I.tuple hq
  obtain ⟨f0,f1,f2,f3,f4,f5⟩:=hf it (by simp)
  have hl:=rv.length
  exact wpAny_pyNext_tuple_end (I.ok.hd hc) st (show s.heap.IsTuple a its.toArray from p) (by simp;omega) fun h' eb=>⟨rfl,I.turned (t':=s.toks) (fun b o hb e=>eb b o hb e) f0 f1 f3 f4 f5⟩
 self:=fun _ _ _ _ _ st h=>wpAny_pyIter_tupleiter st h
theorem uZ {P:Kn} {w:Kq} {K:JV} {tg:Ke} (it:Addr) (lo:Int) (n:Nat):Turn P w K tg (Itr lo n) [it] it (fun i h=>IsRangeIter h it (lo+(i:Nat) * 1) ((n:Int) - (i:Nat)) 1) where
 mem:=by simp
 obj:=fun i h st b hb=>by
  have e:b=it:=by simpa using hb
  subst e
  exact ⟨_,st,fun v z=>by
   have z':To _=QM v:=z
   cases z'⟩
 keep:=fun i h h' st k=>k it (by simp) _ st
 item:=by
  intro X hP hw hK hc i pins s σ H E I hf st hg
  subst hP hw hK
  obtain ⟨f0,f1,f2,f3,f4,f5⟩:=hf it (by simp)
  have W:=Walks.range (prog:=X.prog) (w:=X.w) (I.ok.hd hc) it lo 1 n
  refine W.item i s _ _ hg st fun v h' tk hv st' kk=>?_
  obtain ⟨t,rfl⟩:=hv
  have I1:Inv X pins σ H { s with heap:=h',toks:=tk }:=I.turned (fun b o hb e=>kk b o (by simpa using hb) e) f0 f1 f3 f4 f5
  refine ⟨_,rfl,vw (s:={ s with heap:=h',toks:=tk }) (n:="range_iterator") st' rfl rfl (by decide) ⟨.int (lo+i),H,I1,⟨t,?_⟩,⟨rfl,rfl⟩,st',fun b hb=>(hf b hb).1⟩⟩
  rw [VQ]
 done:=by
  intro X hP hw hK hc i pins s σ H E I hf st hg
  subst hP hw hK
  obtain ⟨f0,f1,f2,f3,f4,f5⟩:=hf it (by simp)
  exact wpAny_pyNext_range_end (I.ok.hd hc) st (by have:n≤i:=hg;omega) fun h' eb=>⟨rfl,I.turned (t':=s.toks) (fun b o hb e=>eb b o hb e) f0 f1 f3 f4 f5⟩
 self:=fun _ _ _ _ _ st h=>wpAny_pyIter_rangeiter st h
section
variable {X:Cx} {tg:Ke}
theorem sW {pins:List (Addr×Obj)} {σ:St} {H:Hp} {s:JU} {R:It→Hp→Prop} {E:Value→JU→Prop} {lo hi:Int} {t u v:Tok} {tk:Nat} (I:Inv X pins σ H s) (h1:-(2 ^ 62)≤lo) (h2:lo < 2 ^ 62) (h3:-(2 ^ 62)≤hi) (h4:hi < 2 ^ 62)
  (q:R (Itr lo (hi - lo).toNat) H):JY (J6 X.prog X.w) X.A (Qn (.ref s.heap.objs.size)) (PIE X pins σ tg R) E { s with heap:=s.heap.push { cls:=.type "range",data:=.fields #[.int lo t,.int hi u,.int 1 v] },toks:=tk }:=by
 refine wpAny_pyIter_range (VR ..) (small_one h1 h2 h3 h4) ?_
 have I1:Inv X pins σ H { s with heap:=s.heap.push { cls:=.type "range",data:=.fields #[.int lo t,.int hi u,.int 1 v] },toks:=tk }:=I.kept fun b o e=>C0 _ e
 refine ⟨(s.heap.push { cls:=.type "range",data:=.fields #[.int lo t,.int hi u,.int 1 v] }).objs.size,[(s.heap.push { cls:=.type "range",data:=.fields #[.int lo t,.int hi u,.int 1 v] }).objs.size],_,_,H,rfl,
  I1.kept (t':=tk) fun b o e=>C0 _ e,uZ _ lo (hi - lo).toNat,?_,fun b hb=>?_,q⟩
 ·have e1:lo+((0:Nat):Int) * 1=lo:=by simp
  have e2:(((hi - lo).toNat:Nat):Int) - ((0:Nat):Int)=QH lo hi 1:=by rw [rangeSize_one];split<;>omega
  show IsRangeIter _ _ (lo+((0:Nat):Int) * 1) ((((hi - lo).toNat:Nat):Int) - ((0:Nat):Int)) 1
  rw [e1,e2]
  exact Kc _ rfl
 ·have e:b=(s.heap.push { cls:=.type "range",data:=.fields #[.int lo t,.int hi u,.int 1 v] }).objs.size:=by simpa using hb
  subst e
  exact I1.nq (J3 _) (I1.hok.fresh (J3 _))
def IC (ta:TA):TI:=fun σ H R=>ta σ H fun vs H1=>∃ j:Int,vs=[.int j]∧-(2 ^ 62)≤j∧j < 2 ^ 62∧R (Itr 0 j.toNat) H1
def Ic (ta:TA):TI:=fun σ H R=>ta σ H fun vs H1=>∃ i j:Int,vs=[.int i,.int j]∧(-(2 ^ 62)≤i∧i < 2 ^ 62∧-(2 ^ 62)≤j∧j < 2 ^ 62)∧R (Itr i (j - i).toNat) H1
theorem xH {a:Ke} {ta:TA} {p pos:Pos} (hg:Gl X "range") (hm:X.mg "range"=none) (ha:PA X [a] ta) (hs:J7 [a] X.env=[(false,KC a X.env)]:=by rfl):PI X tg (.Call (.Name "range" p) [a] [] pos) (IC ta):=by
 intro pins s σ H R I h
 refine SR (df I hg hm TU (K9 (thn (ha pos pins s σ H _ I h) fun us s1 ⟨vs,H1,I1,r1,q1⟩=>?_) hs rfl))
 obtain ⟨j,e,q1,q2,q⟩:=q1
 subst e
 cases r1 with
 | cons r rr=>
  cases rr
  obtain ⟨t,rfl⟩:=r
  exact call_range_1 (sW I1 (by omega) (by omega) q1 q2 (by simpa using q))
theorem w8 {a b:Ke} {ta:TA} {p pos:Pos} (hg:Gl X "range") (hm:X.mg "range"=none) (ha:PA X [a,b] ta) (hs:J7 [a,b] X.env=[(false,KC a X.env),(false,KC b X.env)]:=by rfl) (hs2:J7 [b] X.env=[(false,KC b X.env)]:=by rfl) :
  PI X tg (.Call (.Name "range" p) [a,b] [] pos) (Ic ta):=by
 intro pins s σ H R I h
 refine SR (df I hg hm TU (K9 (thn (ha pos pins s σ H _ I h) fun us s1 ⟨vs,H1,I1,r1,q1⟩=>?_) (by rw [hs,hs2]) (by rw [hs2];rfl)))
 obtain ⟨i,j,e,⟨q1,q2,q3,q4⟩,q⟩:=q1
 subst e
 cases r1 with
 | cons r rr=>
  cases rr with
  | cons r' rr=>
   cases rr
   obtain ⟨t,rfl⟩:=r
   obtain ⟨t',rfl⟩:=r'
   exact call_range_2 (sW I1 q1 q2 q3 q4 q)
def JQ (wi:TI) (g:TG) (tb:TS):TS:=fun D σ H=>wi σ H fun J H1=>∃ W:Nat→Nat→St→Hp→Prop,(∃ m,W 0 m σ H1)∧∀ i m σ H,W i m σ H →
 (J.stop i H∧D.nx σ H)∨(J.go i H∧∃ N:St→Hp→Prop,(∀ σ' H',N σ' H'→∃ m',m' < m∧W (i+1) m' σ' H')∧∀ x H',J.yld i H x H'→g x σ H' fun σ2 H2=>tb { D with nx:=N,ct:=N,bk:=D.nx } σ2 H2)
def k9 (fp:List Addr) (h:Heap):List (Addr×Obj):=fp.filterMap fun b=>(h.get? b).map fun o=>(b,o)
theorem ij {fp:List Addr} {h:Heap} {b:Addr} {o:Obj} (hb:b∈fp) (e:h.get? b=some o):(b,o)∈k9 fp h:=Oe.mpr ⟨b,hb,by rw [e];rfl⟩
theorem xE {fp:List Addr} {h:Heap} {p:Addr×Obj} (hp:p∈k9 fp h):p.1∈fp∧h.get? p.1=some p.2:=by
 obtain ⟨b,hb,e⟩:=Oe.mp hp
 cases q:h.get? b with
 | none=>rw [q] at e;cases e
 | some o=>
  rw [q] at e
  have e':(b,o)=p:=KA e
  subst e'
  exact ⟨hb,q⟩
theorem Inv.pinned {pins:List (Addr×Obj)} {σ:St} {H:Hp} {s:JU} {fp:List Addr} (I:Inv X pins σ H s) (hf:∀ b∈fp,gA X pins H b) (ho:∀ b∈fp,∃ o,s.heap.get? b=some o∧∀ v,o.data≠.cell v):Inv X (pins++k9 fp s.heap) σ H s:=
 I.uO fun p hp=>(Kz.mp hp).elim (fun z=>I.pin p (KJ _ z)) fun z=>by
  obtain ⟨hb,e⟩:=xE z
  obtain ⟨f0,f1,f2,_⟩:=hf p.1 hb
  obtain ⟨o,e',d⟩:=ho p.1 hb
  rw [e] at e';cases e'
  exact ⟨e,f0,f1,f2,d⟩
theorem Inv.kq {pins pl:List (Addr×Obj)} {σ:St} {H:Hp} {s:JU} (I:Inv X (pins++pl) σ H s):Inv X pins σ H s:=I.uO fun p hp=>I.pin p (KJ _ (LY _ hp))
theorem Gh {iter:Ke} {body:List Stmt} {wi:TI} {g:TG} {tb:TS} {pos:Pos} (hp:PassesOwn (J6 X.prog X.w) X.A X.env X.xe) (hc:X.calm=true) (hi:PI X tg iter wi) (hg:PG X tg g) (hb:PSs X body tb)
  (hs:∀ x,OF iter X.env x=pure x:=by intro _;rfl):PS X (.For tg iter body [] pos) (JQ wi g tb):=by
 intro pins s σ H D I h
 refine wpAny_For (thn (hi pins s σ H _ I h) fun v s1 h1=>thn h1 fun itv s2 h2=>?_) hs
 obtain ⟨it,fp,tn,J,H2,e,I2,T,st2,f2,W,⟨m0,w0⟩,turn⟩:=h2
 subst e
 have stat:∀ {H':Hp},(∀ b∈fp,H' b=none)→∀ b∈fp,gA X pins H' b:=fun hn b hb=>⟨hn b hb,(f2 b hb).2⟩
 refine codeAny_forLoop_any (fun n s'=>∃ i σ' H',Inv X pins σ' H' s'∧tn i s'.heap∧(∀ b∈fp,H' b=none)∧W i n σ' H') ?_ m0 ⟨0,σ,H2,I2,st2,fun b hb=>(f2 b hb).1,w0⟩
 rintro n s3 ⟨i,σ3,H3,I3,st3,fr3,w3⟩
 rcases turn i n σ3 H3 w3 with ⟨stop,qn⟩ | ⟨go,N,hN,step⟩
 ·refine N8 hp (thn (T.done X rfl rfl rfl hc i pins s3 σ3 H3 X.xe I3 (stat fr3) st3 stop) fun r s4 ⟨hr,I4⟩=>?_)
  subst hr
  exact N7 ⟨σ3,H3,I4,qn⟩
 ·refine N8 hp (thn (T.item X rfl rfl rfl hc i pins s3 σ3 H3 X.xe I3 (stat fr3) st3 go) fun r s4 ⟨u,hr,h4⟩=>?_)
  subst hr
  refine N8 hp (thn h4 fun _ s5 ⟨x,H5,I5,r5,y5,st5,fr5⟩=>?_)
  have I5':=I5.pinned (stat fr5) (T.obj _ _ st5)
  refine N8 hp (thn (hg _ s5 σ3 H5 x u _ I5' r5 (step x H5 y5)) fun _ s6 ⟨σ6,H6,I6,q6⟩=>?_)
  refine N8 hp (thn (hb _ s6 σ6 H6 _ I6 q6) fun f s7 q7=>?_)
  have again:∀ {σ7:St} {H7:Hp},Inv X (pins++k9 fp s5.heap) σ7 H7 s7→N σ7 H7→∃ m,m < n∧∃ i σ' H',Inv X pins σ' H' s7∧tn i s7.heap∧(∀ b∈fp,H' b=none)∧W i m σ' H':=fun {σ7 H7} I7 n7=>by
   obtain ⟨m',hm,w7⟩:=hN σ7 H7 n7
   refine ⟨m',hm,i+1,σ7,H7,I7.kq,T.keep _ _ _ st5 fun b hb o e=>(I7.pin (b,o) (KJ _ (KJ _ (ij hb e)))).1,fun b hb=>?_,w7⟩
   obtain ⟨o,e,d⟩:=T.obj _ _ st5 b hb
   exact (I7.pin (b,o) (KJ _ (KJ _ (ij hb e)))).2.1
  cases f with
  | next=>obtain ⟨σ7,H7,I7,n7⟩:=q7;exact again I7 n7
  | cont=>obtain ⟨σ7,H7,I7,n7⟩:=q7;exact again I7 n7
  | brk=>obtain ⟨σ7,H7,I7,q7⟩:=q7;exact ⟨σ7,H7,I7.kq,q7⟩
  | ret v=>obtain ⟨x7,σ7,H7,I7,r7,q7⟩:=q7;exact ⟨x7,σ7,H7,I7.kq,r7,q7⟩
end
abbrev R2:=V→V→Hp→VK→Prop
def OpR (X:Cx) (f:Value→Value→Sem Value) (r:R2):Prop:=
 ∀ (pins:List (Addr×Obj)) (s:JU) (σ:St) (H:Hp) (x y:V) (v u:Value) (Q:VK),Inv X pins σ H s→RelV x v→RelV y u→r x y H Q →
  JY (J6 X.prog X.w) X.A (f v u) (EP X pins σ Q) X.xe s
def UnR (X:Cx) (f:Value→Sem Value) (r:V→Hp→VK→Prop):Prop:=
 ∀ (pins:List (Addr×Obj)) (s:JU) (σ:St) (H:Hp) (x:V) (v:Value) (Q:VK),Inv X pins σ H s→RelV x v→r x H Q →
  JY (J6 X.prog X.w) X.A (f v) (EP X pins σ Q) X.xe s
def cc (X:Cx) (f:Value) (r:List V→Hp→VK→Prop):Prop:=
 ∀ (pins:List (Addr×Obj)) (s:JU) (σ:St) (H:Hp) (xs:List V) (us:List Value) (Q:VK),Inv X pins σ H s→Vals xs us→r xs H Q →
  JY (J6 X.prog X.w) X.A (call f us) (EP X pins σ Q) X.xe s
def Jd (X:Cx) (r:V→Hp→(Bool→Hp→Prop)→Prop):Prop:=
 ∀ (pins:List (Addr×Obj)) (s:JU) (σ:St) (H:Hp) (x:V) (v:Value) (Q:Bool→Hp→Prop),Inv X pins σ H s→RelV x v→r x H Q →
  JY (J6 X.prog X.w) X.A (truthy v) (TP X pins σ Q) X.xe s
def tOp (r:R2) (ta tb:TE):TE:=fun σ H Q=>ta σ H fun x H1=>tb σ H1 fun y H2=>r x y H2 Q
def tUn (r:V→Hp→VK→Prop) (ta:TE):TE:=fun σ H Q=>ta σ H fun x H1=>r x H1 Q
def rI (C:Int→Int→Prop) (g:Int→Int→V):R2:=fun x y H Q=>∃ i j,x=.int i∧y=.int j∧C i j∧Q (g i j) H
def rI0 (g:Int→Int→V):R2:=fun x y H Q=>∃ i j,x=.int i∧y=.int j∧Q (g i j) H
def rU (g:Int→V):V→Hp→VK→Prop:=fun x H Q=>∃ i,x=.int i∧Q (g i) H
section
variable {X:Cx} {a b c:Ke} {ta tb tc:TE} {pos:Pos}
theorem Av (ha:PE X a ta) (hb:PE X b tb) {pins:List (Addr×Obj)} {s:JU} {σ:St} {H:Hp} {R:V→V→Hp→Prop} (I:Inv X pins σ H s)
  (h:ta σ H fun x H1=>tb σ H1 fun y H2=>R x y H2) {Q:Value→JU→Prop} {f:Value→Value→Sem Value}
  (hf:∀ v u s2 x y H2,Inv X pins σ H2 s2→RelV x v→RelV y u→R x y H2→JY (J6 X.prog X.w) X.A (f v u) Q X.xe s2) :
  JY (J6 X.prog X.w) X.A (KC a X.env) (fun v s₁=>JY (J6 X.prog X.w) X.A (KC b X.env) (fun u s₂=>JY (J6 X.prog X.w) X.A (f v u) Q X.xe s₂) X.xe s₁) X.xe s:=by
 refine thn (ha pins s σ H _ I h) fun v s1 ⟨x,H1,I1,r1,q1⟩=>?_
 refine thn (hb pins s1 σ H1 _ I1 q1) fun u s2 ⟨y,H2,I2,r2,q2⟩=>?_
 exact hf v u s2 x y H2 I2 r1 r2 q2
theorem IL {op:Operator} {r:R2} (ho:OpR X (Mp op) r) (ha:PE X a ta) (hb:PE X b tb):PE X (.BinOp a op b pos) (tOp r ta tb):=by
 intro pins s σ H Q I h
 exact wpAny_BinOp (Av ha hb I h fun v u s2 x y H2 I2 rx ry q=>ho pins s2 σ H2 x y v u Q I2 rx ry q)
theorem Hm {op:UnaryOp} {r:V→Hp→VK→Prop} (ho:UnR X (unaryOp op) r) (ha:PE X a ta):PE X (.UnaryOp op a pos) (tUn r ta):=by
 intro pins s σ H Q I h
 exact UnaryOp_ (thn (ha pins s σ H _ I h) fun v s1 ⟨x,H1,I1,r1,q1⟩=>ho pins s1 σ H1 x v Q I1 r1 q1)
theorem opI {f:Value→Value→Sem Value} {C:Int→Int→Prop} {g:Int→Int→Int}
  (rule:∀ (i j:Int) (t u:Tok) (s:JU) (Q:Value→JU→Prop) (E:Value→JU→Prop),C i j→Q (.int (g i j) s.toks) { s with toks:=s.toks+1 }→JY (J6 X.prog X.w) X.A (f (.int i t) (.int j u)) Q E s) :
  OpR X f (rI C fun i j=>.int (g i j)):=by
 intro pins s σ H x y v u Q I rx ry h
 obtain ⟨i,j,rfl,rfl,hc,q⟩:=h
 obtain ⟨t,rfl⟩:=rx
 obtain ⟨t',rfl⟩:=ry
 exact rule i j t t' s _ _ hc ⟨.int (g i j),H,I.tok _,⟨_,rfl⟩,q⟩
theorem E8 {f:Value→Value→Sem Value} {g:Int→Int→Int}
  (rule:∀ (i j:Int) (t u:Tok) (s:JU) (Q:Value→JU→Prop) (E:Value→JU→Prop),Q (.int (g i j) s.toks) { s with toks:=s.toks+1 }→JY (J6 X.prog X.w) X.A (f (.int i t) (.int j u)) Q E s) :
  OpR X f (rI0 fun i j=>.int (g i j)):=by
 intro pins s σ H x y v u Q I rx ry h
 obtain ⟨i,j,rfl,rfl,q⟩:=h
 obtain ⟨t,rfl⟩:=rx
 obtain ⟨t',rfl⟩:=ry
 exact rule i j t t' s _ _ ⟨.int (g i j),H,I.tok _,⟨_,rfl⟩,q⟩
theorem ve {f:Value→Value→Sem Value} {g:Int→Int→Bool}
  (rule:∀ (i j:Int) (t u:Tok) (s:JU) (Q:Value→JU→Prop) (E:Value→JU→Prop),Q (.bool (g i j)) s→JY (J6 X.prog X.w) X.A (f (.int i t) (.int j u)) Q E s) :
  OpR X f (rI0 fun i j=>.bl (g i j)):=by
 intro pins s σ H x y v u Q I rx ry h
 obtain ⟨i,j,rfl,rfl,q⟩:=h
 obtain ⟨t,rfl⟩:=rx
 obtain ⟨t',rfl⟩:=ry
 exact rule i j t t' s _ _ ⟨.bl (g i j),H,I,rfl,q⟩
def o_ (i j:Int):Prop:=0 < j∧j < 1073741824
def pf (i j:Int):Prop:=0≤j∧j≤1000000∧i.natAbs < 2 ^ 64
def kg (i j:Int):Prop:=(-(2 ^ 64) < i∧i < 2 ^ 64)∨(-(2 ^ 64) < j∧j < 2 ^ 64)
theorem kg.ok {i j:Int} (h:kg i j):IntMulOk i j:=by
 rcases h with ⟨h1,h2⟩ | ⟨h1,h2⟩
 ·exact .of_left (intBits_le_64 h1 h2)
 ·exact .of_right (intBits_le_64 h1 h2)
theorem ET:OpR X (Mp .Add) (rI0 fun i j=>.int (i+j)):=E8 fun _ _ _ _ _ _ _ q=>add_int q
theorem dH:OpR X (Mp .Sub) (rI0 fun i j=>.int (i - j)):=E8 fun _ _ _ _ _ _ _ q=>sub_int q
theorem eP:OpR X (Mp .Mult) (rI kg fun i j=>.int (i * j)):=opI fun _ _ _ _ _ _ _ hc q=>mul_int q hc.ok
theorem Cb:OpR X (Mp .FloorDiv) (rI o_ fun i j=>.int (i / j)):=opI fun i j _ _ _ _ _ hc q=>by
 have h1:(0:Int) < j:=hc.1
 have h2:j < 1073741824:=hc.2
 exact floordiv_int (by omega) (by rw [Int.fdiv_eq_ediv_of_nonneg i (by omega)];exact q) (.inl (PyProof.noPylong_small (by omega)))
theorem eM:OpR X (Mp .Mod) (rI (fun _ j=>0 < j) fun i j=>.int (i % j)):=opI fun i j _ _ _ _ _ hc q=>by
 have h1:(0:Int) < j:=hc
 exact mod_int' (by omega) (by rw [Int.fmod_eq_emod_of_nonneg i (by omega)];exact q)
theorem rV:OpR X (Mp .Pow) (rI pf fun i j=>.int (i ^ j.toNat)):=opI fun _ _ _ _ _ _ _ hc q=>pow_int_small hc.1 hc.2.1 hc.2.2 q
theorem unI {f:Value→Sem Value} {g:Int→Int}
  (rule:∀ (i:Int) (t:Tok) (s:JU) (Q:Value→JU→Prop) (E:Value→JU→Prop),Q (.int (g i) s.toks) { s with toks:=s.toks+1 }→JY (J6 X.prog X.w) X.A (f (.int i t)) Q E s) :
  UnR X f (rU fun i=>.int (g i)):=by
 intro pins s σ H x v Q I rx h
 obtain ⟨i,rfl,q⟩:=h
 obtain ⟨t,rfl⟩:=rx
 exact rule i t s _ _ ⟨.int (g i),H,I.tok _,⟨_,rfl⟩,q⟩
theorem cU:UnR X (unaryOp .USub) (rU fun i=>.int (-i)):=unI fun _ _ _ _ _ q=>neg_int q
end
def Ac:V→V→Bool
 | .non,.non=>true | .non,.int _=>true | .int _,.non=>true | .non,.bl _=>true | .bl _,.non=>true | .non,.str _=>true | .str _,.non=>true
 | .int _,.int _=>true | .bl _,.bl _=>true | .str _,.str _=>true | .byt _,.byt _=>true
 | .int _,.str _=>true | .str _,.int _=>true | .bl _,.str _=>true | .str _,.bl _=>true
 | _,_=>false
def rEq:R2:=fun x y H Q=>Ac x y=true∧Q (.bl (decide (x=y))) H
def rNe:R2:=fun x y H Q=>Ac x y=true∧Q (.bl (!decide (x=y))) H
theorem t8 {i j:Int}:decide (V.int i=V.int j)=(i == j):=by
 rw [Lm]
 simp
theorem xJ {i j:Bool}:decide (V.bl i=V.bl j)=(i == j):=by
 rw [Lm]
 simp
theorem uk {i j:Str}:decide (V.str i=V.str j)=(i == j):=by
 rw [Lm]
 simp
theorem uM {i j:Array UInt8}:decide (V.byt i=V.byt j)=(i.toList == j.toList):=by
 rw [Lm]
 cases i
 cases j
 simp
section
variable {X:Cx} {a b c:Ke} {ta tb tc:TE} {pos:Pos}
theorem bD {pins:List (Addr×Obj)} {σ:St} {H:Hp} {s:JU} {Q:VK} {k k':Bool} (I:Inv X pins σ H s) (q:Q (.bl k) H) (e:k=k'):EP X pins σ Q (.bool k') s:=by
 subst e
 exact ⟨.bl k,H,I,rfl,q⟩
theorem Hs:OpR X (Ku .Eq) rEq:=by
 intro pins s σ H x y v u Q I rx ry h
 obtain ⟨hs,q⟩:=h
 cases x with
 | non=>
  cases rx
  cases y with
  | non=>cases ry;exact U5 (bD I q (by simp))
  | bl j=>cases ry;exact U6 (bD I q (by simp))
  | int j=>obtain ⟨t',rfl⟩:=ry;exact Vg (bD I q (by simp))
  | str j=>obtain ⟨t',rfl⟩:=ry;exact Vh (bD I q (by simp))
  | _=>exact absurd (show false=true from hs) Kl
 | bl i=>
  cases rx
  cases y with
  | non=>cases ry;exact U7 (bD I q (by simp))
  | bl j=>cases ry;exact eq_bool (bD I q xJ)
  | str j=>obtain ⟨t',rfl⟩:=ry;exact U8 (bD I q (by simp))
  | _=>exact absurd (show false=true from hs) Kl
 | int i=>
  obtain ⟨t,rfl⟩:=rx
  cases y with
  | non=>cases ry;exact Vi (bD I q (by simp))
  | int j=>obtain ⟨t',rfl⟩:=ry;exact eq_int (bD I q t8)
  | str j=>obtain ⟨t',rfl⟩:=ry;exact Vj (bD I q (by simp))
  | _=>exact absurd (show false=true from hs) Kl
 | str i=>
  obtain ⟨t,rfl⟩:=rx
  cases y with
  | non=>cases ry;exact Vk (bD I q (by simp))
  | bl j=>cases ry;exact U9 (bD I q (by simp))
  | int j=>obtain ⟨t',rfl⟩:=ry;exact Vm (bD I q (by simp))
  | str j=>obtain ⟨t',rfl⟩:=ry;exact eq_str (bD I q uk)
  | _=>exact absurd (show false=true from hs) Kl
 | byt i=>
  obtain ⟨t,rfl⟩:=rx
  cases y with
  | byt j=>obtain ⟨t',rfl⟩:=ry;exact PySem.W.eq_bytes (bD I q uM)
  | _=>exact absurd (show false=true from hs) Kl
 | _=>cases y<;>exact absurd (show false=true from hs) Kl
theorem HS:OpR X (Ku .NotEq) rNe:=by
 intro pins s σ H x y v u Q I rx ry h
 obtain ⟨hs,q⟩:=h
 cases x with
 | non=>
  cases rx
  cases y with
  | non=>cases ry;exact U_ (bD I q (by simp))
  | bl j=>cases ry;exact Va (bD I q (by simp))
  | int j=>obtain ⟨t',rfl⟩:=ry;exact Vn (bD I q (by simp))
  | str j=>obtain ⟨t',rfl⟩:=ry;exact Vo (bD I q (by simp))
  | _=>exact absurd (show false=true from hs) Kl
 | bl i=>
  cases rx
  cases y with
  | non=>cases ry;exact Vb (bD I q (by simp))
  | bl j=>cases ry;exact ne_bool (bD I q (LZ not xJ))
  | str j=>obtain ⟨t',rfl⟩:=ry;exact Vc (bD I q (by simp))
  | _=>exact absurd (show false=true from hs) Kl
 | int i=>
  obtain ⟨t,rfl⟩:=rx
  cases y with
  | non=>cases ry;exact Vp (bD I q (by simp))
  | int j=>obtain ⟨t',rfl⟩:=ry;exact ne_int (bD I q (LZ not t8))
  | str j=>obtain ⟨t',rfl⟩:=ry;exact Vq (bD I q (by simp))
  | _=>exact absurd (show false=true from hs) Kl
 | str i=>
  obtain ⟨t,rfl⟩:=rx
  cases y with
  | non=>cases ry;exact Vr (bD I q (by simp))
  | bl j=>cases ry;exact Vd (bD I q (by simp))
  | int j=>obtain ⟨t',rfl⟩:=ry;exact Vs (bD I q (by simp))
  | str j=>obtain ⟨t',rfl⟩:=ry;exact ne_str (bD I q (LZ not uk))
  | _=>exact absurd (show false=true from hs) Kl
 | byt i=>
  obtain ⟨t,rfl⟩:=rx
  cases y with
  | byt j=>obtain ⟨t',rfl⟩:=ry;exact PySem.W.ne_bytes (bD I q (LZ not uM))
  | _=>exact absurd (show false=true from hs) Kl
 | _=>cases y<;>exact absurd (show false=true from hs) Kl
theorem e_:OpR X (Ku .Lt) (rI0 fun i j=>.bl (decide (i < j))):=ve fun _ _ _ _ _ _ _ q=>lt_int q
theorem dJ:OpR X (Ku .LtE) (rI0 fun i j=>.bl (decide (i≤j))):=ve fun _ _ _ _ _ _ _ q=>le_int q
theorem fq:OpR X (Ku .Gt) (rI0 fun i j=>.bl (decide (j < i))):=ve fun _ _ _ _ _ _ _ q=>gt_int q
theorem GS:OpR X (Ku .GtE) (rI0 fun i j=>.bl (decide (j≤i))):=ve fun _ _ _ _ _ _ _ q=>ge_int q
theorem DG:OpR X (Ku .Is) (fun x y H Q=>y=.non∧Q (.bl (decide (x=.non))) H):=by
  intro pins s σ H x y v u Q I rx ry h
  obtain ⟨rfl,q⟩:=h
  cases ry
  refine is_none_gen (bD I q ?_)
  cases x<;>first
    | (cases rx;rfl)
    | (obtain ⟨t,rfl⟩:=rx;rfl)
theorem OpR.or {f:Value→Value→Sem Value} {r r':R2} (h:OpR X f r) (h':OpR X f r'):OpR X f (fun x y H Q=>r x y H Q∨r' x y H Q):=by
 intro pins s σ H x y v u Q I rx ry q
 rcases q with q | q
 ·exact h pins s σ H x y v u Q I rx ry q
 ·exact h' pins s σ H x y v u Q I rx ry q
theorem wK (b:Ke) {op:TV} (h:op≠.In:=by decide) (h2:op≠.NotIn:=by decide):N1 op b=false:=by
  have e1:(op == CmpOp.In)=false:=by cases op<;>first | rfl | exact absurd rfl h
  have e2:(op == CmpOp.NotIn)=false:=by cases op<;>first | rfl | exact absurd rfl h2
  cases b<;>simp [N1,e1,e2]
theorem BL {op:TV} {r:R2} (ho:OpR X (Ku op) r) (ha:PE X a ta) (hb:PE X b tb) (hm:N1 op b=false):PE X (.Compare a [op] [b] pos) (tOp r ta tb):=by
 intro pins s σ H Q I h
 exact wpAny_Compare1 (Av ha hb I h fun v u s2 x y H2 I2 rx ry q=>ho pins s2 σ H2 x y v u Q I2 rx ry q) hm
def u9 (t:TE):TT:=fun σ H Q=>t σ H fun x H'=>∃ k,x=.bl k∧Q k H'
theorem BZ {op:TV} {r:R2} (ho:OpR X (Ku op) r) (ha:PE X a ta) (hb:PE X b tb) (hm:N1 op b=false):PT X (.Compare a [op] [b] pos) (u9 (tOp r ta tb)):=by
 intro pins s σ H Q I h
 refine wpAny_isTrue_Compare1 (thn (ha pins s σ H _ I h) fun v s1 ⟨x,H1,I1,r1,q1⟩=>thn (hb pins s1 σ H1 _ I1 q1) fun u s2 ⟨y,H2,I2,r2,q2⟩=>
  thn (ho pins s2 σ H2 x y v u _ I2 r1 r2 q2) fun c s3 ⟨z,H3,I3,r3,k,e,q3⟩=>?_) hm
 subst e
 cases r3
 exact Lq ⟨H3,I3,q3⟩
def sv (r r':R2) (ta tb tc:TE):TE:=fun σ H Q=>ta σ H fun x H1=>tb σ H1 fun y H2=>r x y H2 fun z H3=>∃ k,z=.bl k ∧
 (if k=true then tc σ H3 fun w' H4=>r' y w' H4 Q else Q (.bl false) H3)
theorem AK {op op':TV} {r r':R2} (ho:OpR X (Ku op) r) (ho':OpR X (Ku op') r') (ha:PE X a ta) (hb:PE X b tb) (hc:PE X c tc)
  (hm:Pw [op,op'] [b,c]=false:=by with_unfolding_all rfl):PE X (.Compare a [op,op'] [b,c] pos) (sv r r' ta tb tc):=by
 intro pins s σ H Q I h
 refine Compare_chain (thn (ha pins s σ H _ I h) fun v s1 ⟨x,H1,I1,r1,q1⟩=>chain_link (thn (hb pins s1 σ H1 _ I1 q1) fun u s2 ⟨y,H2,I2,r2,q2⟩=>
  thn (ho pins s2 σ H2 x y v u _ I2 r1 r2 q2) fun d s3 ⟨z,H3,I3,r3,k,e,q3⟩=>?_)) hm
 subst e
 cases r3
 refine Lq ?_
 cases k with
 | false=>exact ite_ff ⟨.bl false,H3,I3,rfl,q3⟩
 | true=>exact ite_tt (chain_last (thn (hc pins s3 σ H3 _ I3 q3) fun w' s4 ⟨z',H4,I4,r4,q4⟩=>ho' pins s4 σ H4 y z' u w' Q I4 r2 r4 q4))
theorem AJ {op op':TV} {r r':R2} (ho:OpR X (Ku op) r) (ho':OpR X (Ku op') r') (ha:PE X a ta) (hb:PE X b tb) (hc:PE X c tc)
  (hm:Pw [op,op'] [b,c]=false:=by with_unfolding_all rfl):PT X (.Compare a [op,op'] [b,c] pos) (u9 (sv r r' ta tb tc)):=by
 intro pins s σ H Q I h
 refine isTrue_chain (thn (ha pins s σ H _ I h) fun v s1 ⟨x,H1,I1,r1,q1⟩=>UA (thn (hb pins s1 σ H1 _ I1 q1) fun u s2 ⟨y,H2,I2,r2,q2⟩=>
  thn (ho pins s2 σ H2 x y v u _ I2 r1 r2 q2) fun d s3 ⟨z,H3,I3,r3,k,e,q3⟩=>?_)) hm
 subst e
 cases r3
 refine Lq ?_
 cases k with
 | false=>
  obtain ⟨k',e',q'⟩:=q3
  cases e'
  exact ite_ff ⟨H3,I3,q'⟩
 | true=>
  refine ite_tt (test_last (thn (hc pins s3 σ H3 _ I3 q3) fun w' s4 ⟨z',H4,I4,r4,q4⟩=>thn (ho' pins s4 σ H4 y z' u w' _ I4 r2 r4 q4) fun d' s5 ⟨z2,H5,I5,r5,k2,e2,q5⟩=>?_))
  subst e2
  cases r5
  exact Lq ⟨H5,I5,q5⟩
def zX (K:JV) (x:V) (H:Hp) (k:Bool):Prop:=
 match x with
 | .non=>k=false
 | .bl b=>k=b
 | .int i=>k=(i != 0)
 | .str y=>y.length≤sizeLine∧k=((y.length:Int) != 0)
 | .byt y=>y.size≤sizeLine∧k=((y.size:Int) != 0)
 | .ref p=>(∃ xs,SqL K H p xs∧k=!xs.isEmpty)∨(∃ xs,SqT K H p xs∧k=!xs.isEmpty)∨∃ kvs,H p=some (.dK kvs)∧k=!kvs.isEmpty
 | _=>False
theorem vM {κ:Type} {kvs:List (κ×V)} {vs:List (κ×Value)} (r:KV kvs vs):(!vs.isEmpty)=!kvs.isEmpty:=by
 cases r<;>rfl
theorem o8 {xs:List V} {its:List Value} (r:Vals xs its):(!its.toArray.isEmpty)=!xs.isEmpty:=by
 cases r<;>simp
theorem lQ:(sizeLine:Nat) < 2 ^ 63:=by rw [N4];decide
theorem Fx:Jd X (fun x H Q=>∃ k,zX X.K x H k∧Q k H):=by
 intro pins s σ H x v Q I rx h
 obtain ⟨k,e,q⟩:=h
 have hl:=lQ
 have hs:sizeLine=16777216:=N4
 cases x with
 | non=>
  cases rx
  have e':k=false:=e
  subst e'
  exact truthy_none ⟨H,I,q⟩
 | bl b=>
  cases rx
  have e':k=b:=e
  subst e'
  exact Lq ⟨H,I,q⟩
 | int i=>
  obtain ⟨t,rfl⟩:=rx
  have e':k=(i != 0):=e
  subst e'
  exact PySem.P.truthy_int ⟨H,I,q⟩
 | str y=>
  obtain ⟨t,rfl⟩:=rx
  obtain ⟨hy,e'⟩:y.length≤sizeLine∧k=((y.length:Int) != 0):=e
  subst e'
  exact PySem.P.truthy_str (by omega) ⟨H,I.tok _,q⟩
 | byt y=>
  obtain ⟨t,rfl⟩:=rx
  obtain ⟨hy,e'⟩:y.size≤sizeLine∧k=((y.size:Int) != 0):=e
  subst e'
  exact PySem.W.truthy_bytes (by omega) ⟨H,I.tok _,q⟩
 | ref p=>
  cases rx
  have e':(∃ xs,SqL X.K H p xs∧k=!xs.isEmpty)∨(∃ xs,SqT X.K H p xs∧k=!xs.isEmpty)∨∃ kvs,H p=some (.dK kvs)∧k=!kvs.isEmpty:=e
  rcases e' with ⟨xs,hx,e'⟩ | ⟨xs,hx,e'⟩ | ⟨kvs,hx,e'⟩
  ·subst e'
   obtain ⟨its,r,pl,hz⟩:=I.list hx
   have hlen:=r.length
   exact wpAny_truthy_list pl.isList (by simp only [J8];omega) ⟨H,I.tok _,by rw [o8 r];exact q⟩
  ·subst e'
   obtain ⟨its,r,pl,hz⟩:=I.tuple hx
   have hlen:=r.length
   exact truthy_tuple pl (by simp only [J8];omega) ⟨H,I.tok _,by rw [o8 r];exact q⟩
  ·subst e'
   obtain ⟨hz,hS,vs,r,m⟩:kvs.length≤sizeLine∧(p == TQ)=false∧∃ vs,KV kvs vs∧s.heap.DictOf (mC X.prog X.w) p vs:=I.hok p _ hx
   have hlen:kvs.length=vs.length:=UK r
   exact wpAny_truthy_dict hS m (by omega) ⟨H,I.tok _,by rw [vM r];exact q⟩
 | _=>exact (show False from e).elim
theorem Au (ha:PE X a ta) (he:∀ whole,Sg a X.env whole=(do let v ← whole;SQ a.pos;N3 [v] (truthy v))) :
  PT X a (fun σ H Q=>ta σ H fun x H'=>∃ k,zX X.K x H' k∧Q k H'):=by
 intro pins s σ H Q I h
 exact isTrue_plain (thn (ha pins s σ H _ I h) fun v s1 ⟨x,H1,I1,r1,q1⟩=>Fx pins s1 σ H1 x v Q I1 r1 q1) (he _)
theorem wB:OpR X (Mp .Add) (fun x y H Q=>∃ i j,x=.str i∧y=.str j∧i.length+j.length≤sizeLine∧Q (.str (i++j)) H):=by
 intro pins s σ H x y v u Q I rx ry h
 obtain ⟨i,j,rfl,rfl,hz,q⟩:=h
 obtain ⟨t,rfl⟩:=rx
 obtain ⟨t',rfl⟩:=ry
 exact add_str (fun t' tk=>⟨.str (i++j),H,I.tok _,⟨_,rfl⟩,q⟩) hz
theorem vals1 {x:V} {us:List Value} (r:Vals [x] us):∃ u,us=[u]∧RelV x u:=by
 cases r with
 | cons r1 r2=>cases r2;exact ⟨_,rfl,r1⟩
theorem vals2 {x y:V} {us:List Value} (r:Vals [x,y] us):∃ u w',us=[u,w']∧RelV x u∧RelV y w':=by
 cases r with
 | cons r1 r2=>
  cases r2 with
  | cons r3 r4=>cases r4;exact ⟨_,_,rfl,r1,r3⟩
theorem yS (hc:X.calm=true):cc X (.builtin "max") (fun xs H Q=>∃ i j,xs=[.int i,.int j]∧Q (.int (if j > i then j else i)) H):=by
 intro pins s σ H xs us Q I r h
 obtain ⟨i,j,rfl,q⟩:=h
 obtain ⟨u,w',rfl,⟨t,rfl⟩,⟨t',rfl⟩⟩:=vals2 r
 refine max_two_ints (I.ok.hd hc) fun h' tk k=>⟨_,H,I.kept k,?_,q⟩
 by_cases hj:j > i
 ·rw [J2 hj,J2 hj];exact ⟨_,rfl⟩
 ·rw [J9 hj,J9 hj];exact ⟨_,rfl⟩
theorem yt (hc:X.calm=true):cc X (.builtin "min") (fun xs H Q=>∃ i j,xs=[.int i,.int j]∧Q (.int (if j < i then j else i)) H):=by
 intro pins s σ H xs us Q I r h
 obtain ⟨i,j,rfl,q⟩:=h
 obtain ⟨u,w',rfl,⟨t,rfl⟩,⟨t',rfl⟩⟩:=vals2 r
 refine min_two_ints (I.ok.hd hc) fun h' tk k=>⟨_,H,I.kept k,?_,q⟩
 by_cases hj:j < i
 ·rw [J2 hj,J2 hj];exact ⟨_,rfl⟩
 ·rw [J9 hj,J9 hj];exact ⟨_,rfl⟩
theorem yp:cc X (.type "int") (fun xs H Q=>(∃ i,xs=[.int i]∧Q (.int i) H)∨∃ k,xs=[.bl k]∧Q (.int (if k then 1 else 0)) H):=by
 intro pins s σ H xs us Q I r h
 rcases h with ⟨i,rfl,q⟩ | ⟨k,rfl,q⟩
 ·obtain ⟨u,rfl,t,rfl⟩:=vals1 r
  exact call_int_int ⟨.int i,H,I,⟨_,rfl⟩,q⟩
 ·obtain ⟨u,rfl,r1⟩:=vals1 r
  cases r1
  exact call_int_bool ⟨.int (if k then 1 else 0),H,I.tok _,⟨_,rfl⟩,q⟩
def Ja (K:JV) (x:V) (H:Hp) (n:Nat):Prop:=
 match x with
 | .str y=>y.length≤sizeLine∧n=y.length
 | .byt y=>y.size≤sizeLine∧n=y.size
 | .ref p=>(∃ xs,SqL K H p xs∧n=xs.length)∨∃ xs,SqT K H p xs∧n=xs.length
 | _=>False
theorem sH:cc X (.builtin "len") (fun xs H Q=>∃ x n,xs=[x]∧Ja X.K x H n∧Q (.int n) H):=by
 intro pins s σ H xs us Q I r h
 obtain ⟨x,n,rfl,e,q⟩:=h
 obtain ⟨u,rfl,rx⟩:=vals1 r
 have hl:=lQ
 have hs:sizeLine=16777216:=N4
 cases x with
 | str y=>
  obtain ⟨t,rfl⟩:=rx
  obtain ⟨hy,e'⟩:y.length≤sizeLine∧n=y.length:=e
  subst e'
  exact len_str (by omega) ⟨.int _,H,I.tok _,⟨_,rfl⟩,q⟩
 | byt y=>
  obtain ⟨t,rfl⟩:=rx
  obtain ⟨hy,e'⟩:y.size≤sizeLine∧n=y.size:=e
  subst e'
  exact PySem.W.len_bytes (by omega) ⟨.int _,H,I.tok _,⟨_,rfl⟩,q⟩
 | ref p=>
  cases rx
  have e':(∃ xs,SqL X.K H p xs∧n=xs.length)∨∃ xs,SqT X.K H p xs∧n=xs.length:=e
  rcases e' with ⟨xs,hx,e'⟩ | ⟨xs,hx,e'⟩
  ·subst e'
   obtain ⟨its,r',pl,hz⟩:=I.list hx
   have hlen:=r'.length
   exact Calls.call_len_list pl.isList (by simp only [J8];omega) ⟨.int xs.length,H,I.tok _,⟨_,by simp only [J8];rw [hlen]⟩,q⟩
  ·subst e'
   obtain ⟨its,r',pl,hz⟩:=I.tuple hx
   have hlen:=r'.length
   exact len_tuple pl (by simp only [J8];omega) ⟨.int xs.length,H,I.tok _,⟨_,by simp only [J8];rw [hlen]⟩,q⟩
 | _=>exact (show False from e).elim
end
structure AR (h:Heap) (x dx C:Addr) (mA:Str→Option Value):Prop where
 obj:h.get? x=some (QL C dx)
 ns:h.Ns1 dx mA
 ne:dx≠x
theorem yb {h:Heap} {dx:Addr} {mA:Str→Option Value} (n:h.Ns1 dx mA):∃ od,h.get? dx=some od∧∀ name,Rf name od=some (mA name):=by
 obtain ⟨o,es,ep,ho,hd,hk,_,hm⟩:=n
 refine ⟨o,ho,fun name=>?_⟩
 have e:=hm name
 unfold nsFind findBy at e
 rw [← Array.find?_toList] at e
 unfold Rf
 rw [hd]
 dsimp only
 split
 ·rename_i y q
  rw [q] at e
  exact LZ some e
 ·rename_i q
  rw [q] at e
  have a:es.toList.any (·.refKey)=false:=by
   rw [SX]
   intro y hy
   obtain ⟨z,t,hkey⟩:=hk y (Na.mp hy)
   simp [DictEntry.refKey,hkey]
  have a':¬es.toList.any (·.refKey)=true:=by rw [a];exact Kl
  rw [J9 a']
  exact LZ some e
theorem AR.look {h:Heap} {x dx C:Addr} {mA:Str→Option Value} (I:AR h x dx C mA):∃ od,PySem.W.InstAt h x (QL C dx) C (some od)∧∀ name,Rf name od=some (mA name):=
 let ⟨od,ho,hl⟩:=yb I.ns
 ⟨od,⟨I.obj,rfl,rfl,ho⟩,hl⟩
section
variable {P:Kn} {w:Kq} {H H':Hp} {h h':Heap} {a C dx:Addr} {fs fs':List (Str×V)}
theorem Cr (hok:HOk P w H h) (e:H a=some (.ins C dx fs)):∃ mA,AR h a dx C mA∧(∀ f,va (fs.lookup f) (mA f))∧Vf mA (fs.map (·.1))∧fs.length≤1000∧H dx=some (.own a):=by
 obtain ⟨d,z,ne,ob,mA,n,r,q⟩:=(show b_ P w H h a (.ins C dx fs) from hok a _ e)
 exact ⟨mA,⟨ob,n,ne⟩,r,q,z,d⟩
end
structure Cls (K:JV) (C:Addr):Prop where
 pg:Tu K C Sj=true
 hd:PySem.W.hasDictIn K C=true
 po:PySem.W.plainOver K C=true
 sa:Ow K (.ref C) "__setattr__"=some (some (.builtin "object.__setattr__"))
theorem Cls.get {K:JV} {C:Addr} (c:Cls K C) (f:Str):Tu K C f=true:=c.pg
structure Con (K:JV) (C:Addr) (f:Str) (v:V) (u:Value):Prop where
 at_:Ow K (.ref C) f=some (some u)
 rel:RelV v u
 get:SY K u "__get__"=some none
 cp:PySem.W.copiedNames.contains f=false
structure Meth (K:JV) (C:Addr) (m:Str) (f:Addr):Prop where
 at_:Ow K (.ref C) m=some (some (.ref f))
 fn:Vt K (.ref f)=true
 kp:MM K (.ref f)=true
section
variable {X:Cx} {pins:List (Addr×Obj)} {σ:St} {H:Hp} {s:JU} {a C dx:Addr} {fs:List (Str×V)} {f:Str} {v:V} {A:KD} {E:Value→JU→Prop}
theorem CW {prog:Kn} {w:Kq} {env:Env} {e:Ke} {f:Str} {pos:Pos} {s:JU} {Q:Value→JU→Prop} (hb:MI e f env (KC e env)=KC e env)
  (h:JY (J6 prog w) A (KC e env) (fun o s₁=>JY (J6 prog w) A (getAttr o f true) Q E s₁) E s):JY (J6 prog w) A (KC (.Attribute e f pos) env) Q E s:=
 Attribute_any_ h (by rw [arm_eval_Attribute,hb])
end
section
variable {X:Cx} {pins:List (Addr×Obj)} {σ:St} {H:Hp} {s:JU} {A:KD} {E:Value→JU→Prop} {Q:Value→JU→Prop} {c:Value} {b:Bool}
inductive gF (K:JV) (H:Hp):V→Value→Prop where
 | non:gF K H .non (.type "NoneType")
 | bl (x:Bool):gF K H (.bl x) (.type "bool")
 | int (i:Int):gF K H (.int i) (.type "int")
 | str (x:Str):gF K H (.str x) (.type "str")
 | flt (x:UInt64):gF K H (.flt x) (.type "float")
 | lst {a:Addr} {xs:List V} (e:H a=some (.lst xs)):gF K H (.ref a) (.type "list")
 | frz {a:Addr} {o:Obj} {xs:List V} (e:H a=some (.frz o (.lst xs))):gF K H (.ref a) (.type "list")
 | tup {a:Addr} {xs:List V} (e:H a=some (.tup xs)):gF K H (.ref a) (.type "tuple")
 | dK {a:Addr} {kvs:List (Key×V)} (e:H a=some (.dK kvs)):gF K H (.ref a) (.type "dict")
 | dT {a:Addr} {kvs:List (List Key×V)} (e:H a=some (.dT kvs)):gF K H (.ref a) (.type "dict")
 | ins {a C dx:Addr} {fs:List (Str×V)} (e:H a=some (.ins C dx fs)) (cl:Cls K C) (ha:Ow K (.ref C) "__class__"=some (some (.builtin "object.__class__")))
   (hn:SY K (.builtin "object.__class__") "__get__"=some (some (.builtin "getset_descriptor.__get__"))) (htk:PySem.W.takesIn K (.builtin "object.__class__")=some true)
   (hm:PySem.W.mroIn K C (.type "object")=some true):gF K H (.ref a) (.ref C)
theorem yH {x:V} {u t:Value} (I:Inv X pins σ H s) (rx:RelV x u) (ty:gF X.K H x t) (e:Uh X.K t c=some b) (h:∀ tk,Q (.bool b) { s with toks:=tk }) :
  JY (J6 X.prog X.w) A (call (.builtin "isinstance") [u,c]) Q E s:=by
 cases ty with
 | non=>cases (show u=Mt from rx);exact LS PySem.W.kitx_none I.kIn Kp e (fun z=>nomatch z) h
 | bl y=>cases (show u=Np y from rx);exact LS PySem.W.kitx_bool I.kIn Kp e (fun z=>nomatch z) h
 | int i=>obtain ⟨t,q⟩:=(show ∃ t,u=Mq i t from rx);cases q;exact LS PySem.W.kitx_int I.kIn Kp e (fun z=>nomatch z) h
 | str y=>obtain ⟨t,q⟩:=(show ∃ t,u=Pu y t from rx);cases q;exact LS PySem.W.kitx_str I.kIn Kp e (fun z=>nomatch z) h
 | flt y=>obtain ⟨t,q⟩:=(show ∃ t,u=VP y t from rx);cases q;exact LS PySem.W.kitx_float I.kIn Kp e (fun z=>nomatch z) h
 | @lst a xs ea=>
  cases (show u=Kg a from rx)
  obtain ⟨_,_,n,_,h1⟩:=(show b_ X.prog X.w H s.heap a (.lst xs) from I.hok a _ ea)
  exact LS S0 I.kIn ⟨_,h1,rfl⟩ e (fun z=>nomatch z) h
 | @frz a ob xs ea=>
  cases (show u=Kg a from rx)
  obtain ⟨_,_,_,n,_,h1⟩:=(show b_ X.prog X.w H s.heap a (.frz ob (.lst xs)) from I.hok a _ ea)
  exact LS S0 I.kIn ⟨_,h1,rfl⟩ e (fun z=>nomatch z) h
 | @tup a xs ea=>
  cases (show u=Kg a from rx)
  obtain ⟨_,_,_,p⟩:=(show b_ X.prog X.w H s.heap a (.tup xs) from I.hok a _ ea)
  obtain ⟨o,h1,h2,_⟩:=p
  exact LS PySem.W.kitx_tuple I.kIn ⟨o,h1,h2⟩ e (fun z=>nomatch z) h
 | @dK a kvs ea=>
  cases (show u=Kg a from rx)
  obtain ⟨_,_,vs,_,p⟩:=(show b_ X.prog X.w H s.heap a (.dK kvs) from I.hok a _ ea)
  obtain ⟨o,es,ep,h1,h2,_⟩:=p
  exact LS S7 I.kIn ⟨o,h1,h2.1⟩ e (fun z=>nomatch z) h
 | @dT a kvs ea=>
  cases (show u=Kg a from rx)
  obtain ⟨_,_,xs,_,o,es,ep,h1,h2,_⟩:=(show b_ X.prog X.w H s.heap a (.dT kvs) from I.hok a _ ea)
  exact LS S7 I.kIn ⟨o,h1,h2.1⟩ e (fun z=>nomatch z) h
 | @ins a C dx fs ea cl ha hn htk hm=>
  cases (show u=Kg a from rx)
  obtain ⟨mA,O,_⟩:=Cr I.hok ea
  obtain ⟨od,J,_⟩:=O.look
  exact LS (PySem.W.kitx_own (cl.get _) cl.hd ha hn htk hm) I.kIn J e (fun z=>nomatch z) h
end
structure cG (k:Nat) (A:KD):Prop where
 hd:A.handled=none
 dp:A.depth+3 * k+5 < recursionLimit
 un:A.units+16 * k+200 < cLine
theorem cG.mono {j k:Nat} {A:KD} (r:cG k A) (h:j≤k):cG j A:=⟨r.hd,by have:=r.dp;omega,by have:=r.un;omega⟩
theorem cG.deeper {k:Nat} {A:KD} (r:cG (k+1) A) (env:Env):cG k (A.deeper env):=
 ⟨r.hd,by have:=r.dp;show A.depth+1+3 * k+5 < _;omega,by have:=r.un;show A.units+3+16 * k+200 < _;omega⟩
theorem wo {A:KD} {C:Addr} {us:List Value} {kw:List (Str×Value)}:(A.under (.builtin "type.__call__" ⟨.ref C :: us,kw⟩)).depth=A.depth+1:=by
 first | rfl | simp [Sk,Code.weight,Code.isCreation,Code.isGuard,Code.isCaller,VS,Sl,guardIds]
theorem uX {A:KD} {C:Addr} {us:List Value} {kw:List (Str×Value)}:(A.under (.builtin "type.__call__" ⟨.ref C :: us,kw⟩)).units=A.units+1:=by
 first | rfl | simp [Sk,Code.cUnits,VS,Sl]
theorem cG.make {k:Nat} {A:KD} (r:cG (k+1) A) (C:Addr) (us:List Value) (kw:List (Str×Value)):cG k (A.under (.builtin "type.__call__" ⟨.ref C :: us,kw⟩)):=
 ⟨r.hd,by have:=r.dp;rw [wo];omega,by have:=r.un;rw [uX];omega⟩
theorem cG.depth {k:Nat} {A:KD} (r:cG k A):A.depth < recursionLimit:=by have:=r.dp;omega
theorem cG.units {k:Nat} {A:KD} (r:cG k A):A.units+64 < cLine:=by have:=r.un;omega
def Js:TA:=fun _ H Q=>Q [] H
def HP (ta:TE) (tr:TA):TA:=fun σ H Q=>ta σ H fun x H1=>tr σ H1 fun xs H2=>Q (x :: xs) H2
section
variable {X:Cx} {e:Ke} {es:List Ke} {te:TE} {t:TA} {pos:Pos}
theorem fY:PA X [] Js:=fun _ _ _ _ H Q I h=>Calls.spliced_nil ⟨[],H,I,.nil,h⟩
theorem di (ha:PE X e te) (hr:PA X es t) (hs:J7 (e :: es) X.env=(false,KC e X.env) :: J7 es X.env:=by rfl):PA X (e :: es) (HP te t):=by
 intro pos pins s σ H Q I h
 rw [hs]
 show JY _ _ (SN ((false,KC e X.env) :: Ly pos (J7 es X.env))) _ _ s
 refine Of (thn (ha pins s σ H _ I h) fun u s1 ⟨x,H1,I1,r1,q1⟩=>?_)
 exact thn (hr pos pins s1 σ H1 _ I1 q1) fun us s2 ⟨xs,H2,I2,r2,q2⟩=>⟨x :: xs,H2,I2,.cons r1 r2,q2⟩
def JI (t:TA):TE:=fun σ H Q=>t σ H fun xs H1=>xs.length≤sizeLine∧∀ p,H1 p=none→Q (.ref p) (upd H1 p (.tup xs))
def JR (t:TA):TE:=fun σ H Q=>t σ H fun xs H1=>xs.length≤sizeLine∧∀ p,H1 p=none→Q (.ref p) (upd H1 p (.lst xs))
theorem Es {x1} (h:PA X es t):PE X (.Tuple es x1 pos) (JI t):=by
 intro pins s σ H Q I hq
 refine wpAny_Tuple_spliced (thn (h pos pins s σ H _ I hq) fun us s1 ⟨xs,H1,I1,r,z,q⟩=>⟨by rw [← r.length];exact z,?_⟩)
 have hf:H1 s1.heap.objs.size=none:=I1.hok.fresh (J3 _)
 refine ⟨.ref s1.heap.objs.size,upd H1 s1.heap.objs.size (.tup xs),I1.laid (t':=s1.toks) (fun b u e=>C0 _ e) (J3 _) ?_,rfl,q _ hf⟩
 exact ⟨z,us,r,⟨_,Kc _ rfl,rfl,_,rfl⟩⟩
theorem xY (h:PA X es t):PE X (.List es pos) (JR t):=by
 intro pins s σ H Q I hq
 refine wpAny_List_spliced (thn (h pos pins s σ H _ I hq) fun us s1 ⟨xs,H1,I1,r,z,q⟩=>⟨by rw [← r.length];exact z,?_⟩)
 have hf:H1 s1.heap.objs.size=none:=I1.hok.fresh (J3 _)
 refine ⟨.ref s1.heap.objs.size,upd H1 s1.heap.objs.size (.lst xs),I1.laid (t':=s1.toks) (fun b u e=>C0 _ e) (J3 _) ?_,rfl,q _ hf⟩
 exact ⟨z,us,0,r,Kc _ rfl⟩
end
abbrev Sp:=List V→Hp→VK→XK→Prop
abbrev CXT:=List Env→Hp→JU→XK→Value→JU→Prop
structure ny (P:Kn) (w:Kq) (K:JV) (mg:Str→Option Value) (base:Heap) (A:KD) (outer:List Env) (s:JU) (H:Hp):Prop where
 frames:A.frames=some outer
 mod:Mod K mg base
 bs:∀ b o,base.get? b=some o→s.heap.get? b=some o∧H b=none
 bsz:base.objs.size≤s.heap.objs.size
 gi:s.heap.FunFrames base outer
 frf:∀ b∈frs outer,H b=none
 hok:HOk P w H s.heap
 bare:Ov s.gens
def CE (outer:List Env) (P:Kn) (w:Kq) (H:Hp) (s:JU) (Q:VK) (u:Value) (s':JU):Prop:=
 ∃ v H',s'.os=s.os∧Ov s'.gens∧Un (frs outer) [] H H' s.heap s'.heap∧HOk P w H' s'.heap∧RelV v u∧Q v H'
def CR (CX:CXT) (outer:List Env) (P:Kn) (w:Kq) (H:Hp) (s:JU) (Q:VK) (E:XK) (r:Rg) (s':JU):Prop:=
 match r with
 | .ok (.ret u)=>CE outer P w H s Q u s'
 | .ok _=>False
 | .error e=>CX outer H s E e s'
structure eK (P:Kn) (w:Kq) (K:JV) (mg:Str→Option Value) (base:Heap) (CX:CXT) (k:Nat) (f:Addr) (fd:Lk) (ps:List Str) (sp:Sp):Prop where
 len:∀ vs H Q E,sp vs H Q E→vs.length=ps.length
 run:∀ (A:KD) (outer:List Env) (s:JU) (H:Hp) (args:Args) (us:List Value) (vs:List V) (Q:VK) (E:XK),cG k A→ny P w K mg base A outer s H→Qj s fd args (ps.zip us)→Vals vs us→sp vs H Q E →
  NM (J6 P w) A (.call (.ref f) args) (CR CX outer P w H s Q E) s
theorem eK.imp {P:Kn} {w:Kq} {K:JV} {mg:Str→Option Value} {base:Heap} {CX:CXT} {k:Nat} {f:Addr} {fd:Lk} {ps:List Str} {sp sp':Sp} (F:eK P w K mg base CX k f fd ps sp)
  (h:∀ vs H Q E,sp' vs H Q E→sp vs H Q E):eK P w K mg base CX k f fd ps sp':=
 ⟨fun vs H Q E q=>F.len vs H Q E (h _ _ _ _ q),fun A outer s H args us vs Q E hr he hb hv hs=>F.run A outer s H args us vs Q E hr he hb hv (h _ _ _ _ hs)⟩
theorem ny.make {P:Kn} {w:Kq} {K:JV} {mg:Str→Option Value} {base:Heap} {A:KD} {outer:List Env} {s:JU} {H:Hp} (e:ny P w K mg base A outer s H) (C:Addr) (us:List Value) (kw:List (Str×Value)) :
  ny P w K mg base (A.under (.builtin "type.__call__" ⟨.ref C :: us,kw⟩)) outer s H:=⟨by first | exact e.frames | (simpa [Sk,Code.envs,Sl,pushEnvs] using e.frames),e.mod,e.bs,e.bsz,e.gi,e.frf,e.hok,e.bare⟩
section
variable {X:Cx} {pins:List (Addr×Obj)} {σ:St} {H:Hp} {s s':JU}
theorem Inv.Fv (I:Inv X pins σ H s):ny X.prog X.w X.K X.mg X.base X.A X.stack s H:=
 ⟨I.ok.frames,I.ok.mod,I.bs,Lj I.ok.bsz I.sz,I.stack,I.pF,I.hok,I.bare⟩
theorem Inv.after {Q:VK} {u:Value} (I:Inv X pins σ H s) (h:CE X.stack X.prog X.w H s Q u s'):EP X pins σ Q u s':=by
 obtain ⟨v,H',os,bare,un,hok,r,q⟩:=h
 obtain ⟨hh,g,d,t,os'⟩:=s'
 obtain rfl:os'=s.os:=os
 exact ⟨v,H',I.call (h':=hh) (g':=g) (d':=d) (t':=t) (ch:=[]) un hok bare (fun b z=>absurd z (by simp)),r,q⟩
end
def IA (sp:Sp) (dvs:List V) (E:XK) (t:TA):TE:=fun σ H Q=>t σ H fun vs H1=>sp (vs++dvs) H1 Q E
def Binds (K:JV) (fd:Lk) (ps:List Str) (ds:List Value):Prop:=
 ∀ (s:JU) (us:List Value),K.In s.heap→(us++ds).length=ps.length→Qj s fd ⟨us,[]⟩ (ps.zip (us++ds))
theorem Binds.all {K:JV} {fd:Lk} {ps:List Str} (h:∀ us:List Value,us.length=ps.length→OR fd ⟨us,[]⟩=pure (ps.zip us)):Binds K fd ps []:=fun s us _ hl=>by
 rw [N9] at hl ⊢
 exact .of_eq (h us hl)
def Passes (CX:CXT) (X:Cx) (E:XK):Prop:=∀ (pins:List (Addr×Obj)) (σ:St) (H:Hp) (s:JU) (e:Value) (s':JU),Inv X pins σ H s→CX X.stack H s E e s'→X.xe e s'
section
variable {X:Cx} {CX:CXT} {k:Nat} {f C:Addr} {fd:Lk} {ps:List Str} {sp:Sp} {dvs:List V} {ds:List Value} {E:XK} {x m:Str} {p pos apos:Pos} {e o:Ke} {es:List Ke} {ta:TE} {t:TA}
theorem Gm {pins:List (Addr×Obj)} {σ:St} {H:Hp} {s:JU} {Q:VK} {us:List Value} {vs:List V} (F:eK X.prog X.w X.K X.mg X.base CX k f fd ps sp) (hr:cG k X.A) (hb:Binds X.K fd ps ds) (hd:Vals dvs ds) (hx:Passes CX X E)
  (I:Inv X pins σ H s) (r:Vals vs us) (h:sp (vs++dvs) H Q E):JY (J6 X.prog X.w) X.A (call (.ref f) us) (EP X pins σ Q) X.xe s:=by
 have r2:Vals (vs++dvs) (us++ds):=r.append hd
 have hl:(us++ds).length=ps.length:=by rw [← r2.length];exact F.len _ _ _ _ h
 refine Nb (Og (F.run X.A X.stack s H ⟨us,[]⟩ (us++ds) (vs++dvs) Q E hr I.Fv (hb s us I.kIn hl) r2 h) fun r s' hq=>?_)
 cases r with
 | error e=>exact hx pins σ H s e s' I hq
 | ok fl=>
  cases fl with
  | ret u=>exact I.after hq
  | next=>exact LB hq
  | brk=>exact LB hq
  | cont=>exact LB hq
theorem uI (F:eK X.prog X.w X.K X.mg X.base CX k f fd ps sp) (hr:cG k X.A) (hg:Gl X x) (hm:X.mg x=some (.ref f)) (hk:MM X.K (.ref f)=true) (hb:Binds X.K fd ps ds) (hd:Vals dvs ds) (hx:Passes CX X E)
  (ha:PA X (e :: es) t) (hdb:(x == ("__debug__":Str))=false:=by decide) (he:J7 (e :: es) X.env=(false,KC e X.env) :: J7 es X.env:=by rfl) (hpl:(Ly pos (J7 es X.env)).any (·.1)=false:=by rfl) :
  PE X (.Call (.Name x p) (e :: es) [] pos) (IA sp dvs E t):=by
 intro pins s σ H Q I h
 refine LV (jK I hg hm ?_ hdb)
 refine Sm (h₀:=X.base) I.ok.mod.kin hk (thn (ha pos pins s σ H _ I h) fun us s1 ⟨vs,H1,I1,r,q⟩=>⟨I1.kIn,?_⟩) he hpl
 exact Gm F hr hb hd hx I1 r q
structure Mk (K:JV) (C f:Addr):Prop where
 makes:PySem.W.makesIn K C=true
 init:Ow K (.ref C) "__init__"=some (some (.ref f))
 fn:Vt K (.ref f)=true
 kp:MM K (.ref C)=true
end
section
variable {X:Cx} {CX:CXT} {k:Nat} {f C:Addr} {fd:Lk} {ps ks:List Str} {sp:Sp} {E:XK} {x m:Str} {p pos apos kpos:Pos} {e o:Ke} {es:List Ke} {kws:List MN} {te ta:TE} {t tk:TA} {nm:Option Str}
structure JS (K:JV) (fd:Lk) (ps ks:List Str) (g:List Value→List Value→List Value) (gV:List V→List V→List V):Prop where
 to:∀ (s:JU) (us ws:List Value),K.In s.heap→(g us ws).length=ps.length→Qj s fd ⟨us,ks.zip ws⟩ (ps.zip (g us ws))
 rel:∀ {vs:List V} {us:List Value} {zs:List V} {ws:List Value},Vals vs us→Vals zs ws→Vals (gV vs zs) (g us ws)
variable {g:List Value→List Value→List Value} {gV:List V→List V→List V}
end
structure fN (N P:List Str) (sc:Scope):Prop where
 kind:sc.kind=.function
 co:sc.isCoroutine=false
 gen:sc.isGenerator=false
 nd:N.Nodup
 pre:N.take P.length=P
 par:∀ x∈P,sc.names.lookup x=some .local∨sc.names.lookup x=some .cell
 nofree:∀ y∈sc.names,y.2≠.free
theorem pX {kindOf:Str→Option Ng} {x:Str}:∀ {binds:List (Str×Value)} {m:Str→Option Value},(∀ v,(x,v)∉binds)→RC kindOf binds m x=m x
 | [],_,_=>rfl
 | (n,v) :: r,m,h=>by
  unfold RC
  rw [pX fun w hw=>h w (Kk _ hw)]
  split
  ·have:x≠n:=by rintro rfl;exact h v Ks
   simp [this]
  ·rfl
theorem pQ {kindOf:Str→Option Ng} {x:Str}:∀ {binds:List (Str×Value)} {m:Str→Option Value},(∀ v,(x,v)∉binds)→RD kindOf binds m x=m x
 | [],_,_=>rfl
 | (n,v) :: r,m,h=>by
  unfold RD
  rw [pQ fun w hw=>h w (Kk _ hw)]
  split
  ·rfl
  ·have:x≠n:=by rintro rfl;exact h v Ks
   simp [this]
theorem qr {kindOf:Str→Option Ng} {x:Str} {v:Value}:∀ {P:List Str} {vs:List Value} {i:Nat} {m:Str→Option Value},P.Nodup→P[i]?=some x→vs[i]?=some v→kindOf x=some .local →
  RC kindOf (P.zip vs) m x=some v
 | [],_,_,_,_,h,_,_=>by simp at h
 | _ :: _,[],_,_,_,_,h,_=>by simp at h
 | p :: P,w :: vs,0,m,nd,h1,h2,hk=>by
  simp at h1 h2;subst h1;subst h2
  show RC kindOf ((p,w) :: P.zip vs) m p=_
  unfold RC
  rw [pX fun v hv=>(LU.mp nd).1 (QN hv).1,J2 hk]
  simp
 | p :: P,w :: vs,i+1,m,nd,h1,h2,hk=>by
  show RC kindOf ((p,w) :: P.zip vs) m x=_
  unfold RC
  exact qr (i:=i) (LU.mp nd).2 (by simpa using h1) (by simpa using h2) hk
theorem qj {kindOf:Str→Option Ng} {x:Str} {v:Value}:∀ {P:List Str} {vs:List Value} {i:Nat} {m:Str→Option Value},P.Nodup→P[i]?=some x→vs[i]?=some v→kindOf x≠some .local →
  RD kindOf (P.zip vs) m x=some v
 | [],_,_,_,_,h,_,_=>by simp at h
 | _ :: _,[],_,_,_,_,h,_=>by simp at h
 | p :: P,w :: vs,0,m,nd,h1,h2,hk=>by
  simp at h1 h2;subst h1;subst h2
  show RD kindOf ((p,w) :: P.zip vs) m p=_
  unfold RD
  rw [pQ fun v hv=>(LU.mp nd).1 (QN hv).1,J9 hk]
  simp
 | p :: P,w :: vs,i+1,m,nd,h1,h2,hk=>by
  show RD kindOf ((p,w) :: P.zip vs) m x=_
  unfold RD
  exact qj (i:=i) (LU.mp nd).2 (by simpa using h1) (by simpa using h2) hk
def start (N:List Str) (vs:List V):St:=vs.map some++Kb (N.length - vs.length) none
def fG (CX:CXT) (P:Kn) (w:Kq) (K:JV) (mg:Str→Option Value) (base:Heap) (N:List Str) (qual:Str) (scope:Scope) (f:Addr) (cd:Value) (A:KD) (outer:List Env) (s:JU) (H:Hp) (E:XK):Cx where
 prog:=P
 w:=w
 K:=K
 mg:=mg
 base:=base
 A:=A.deeper (Mj qual scope s.heap.objs.size f cd)
 N:=N
 s₀:=s
 H₀:=H
 env:=Mj qual scope s.heap.objs.size f cd
 outer:=outer
 stack:=Mj qual scope s.heap.objs.size f cd :: outer
 ex:=[]
 calm:=true
 fn:=fun _=>true
 pn:=[]
 xe:=fun e s'=>JY (J6 P w) (A.deeper (Mj qual scope s.heap.objs.size f cd)) (SS (Mj qual scope s.heap.objs.size f cd) e) (fun _ s''=>CX outer H s E e s'') (fun e' s''=>CX outer H s E e' s'') s'
theorem tM {sc:Scope} {n:Nat} {x:Str} (h:sc.names.lookup x=some .cell):∃ c,(UB n sc.names []).lookup x=some c:=by
 have q:=QY sc.names n [] (.inl h)
 exact Nh.mp q
theorem xr {CX:CXT} {P:Kn} {w:Kq} {K:JV} {mg:Str→Option Value} {base:Heap} {N ps:List Str} {qual:Str} {scope:Scope} {f:Addr} {cd:Value} {A:KD} {outer:List Env} {s s1:JU} {H:Hp} {E:XK} {us:List Value} {vs:List V}
  (S:fN N ps scope) (hd:A.handled=none) (e0:ny P w K mg base A outer s H) (hl:vs.length=ps.length) (r:Vals vs us)
  (x:InCallC s s.heap.objs.size (RC (Mj qual scope s.heap.objs.size f cd).kindOf (ps.zip us) fun _=>none) (UB (s.heap.objs.size+1) scope.names []) (RD (Mj qual scope s.heap.objs.size f cd).kindOf (ps.zip us) fun _=>none) s1) :
  Inv (fG CX P w K mg base N qual scope f cd A outer s H E) [] (start N vs) H s1:=by
 have hpl:ps.length≤N.length:=by have:=LZ Tp S.pre;rw [KS] at this;omega
 obtain ⟨h1,tk,rfl,hk⟩:=x.done
 have noA:∀ b:Addr,b∉(fG CX P w K mg base N qual scope f cd A outer s H E).ex:=fun b z=>absurd (show b∈([]:List Addr) from z) (by simp)
 refine ⟨⟨e0.mod,S.kind,rfl,rfl,J3 _,fun y z c h1 h2=>?_,fun y hy=>?_,fun y c _ h=>?_,fun _=>hd,Around.frames_deeper e0.frames,.inr ⟨rfl,rfl⟩,fun b z=>absurd z (noA b),e0.bs,e0.bsz,fun b _ _=>noA b,fun b z=>absurd z (noA b),e0.gi,e0.frf⟩,
  rfl,e0.bare,Un.kept hk,⟨_,x.toInCall.ns,fun i y v h1 h2 h3=>?_⟩,fun y c h=>⟨_,x.cell y c h⟩,e0.hok.fresh (J3 _),fun y c h=>?_,fun p hp=>absurd (show p∈([]:List (Addr×Obj)) from hp) (by simp),e0.hok.kept hk,?_⟩
 ·exact name_of_addr x.apart (Lu h1) (Lu h2)
 ·have hy:scope.names.lookup y=some .cell∨scope.names.lookup y=some .free:=hy
  rcases hy with hy | hy
  ·exact tM hy
  ·exact absurd rfl (S.nofree _ (Lu hy))
 ·exact LM (x.above y c (Lu h))
 ·have hi:i < vs.length:=by
   unfold start at h2
   by_cases hi:i < vs.length
   ·exact hi
   ·rw [KH (by simpa using hi)] at h2
    rw [LW] at h2
    split at h2<;>cases h2
  have ha:vs[i]?=some v:=by
   unfold start at h2
   rw [Ky (by simpa using hi),Kv] at h2
   cases e:vs[i]? with
   | none=>rw [e] at h2;cases h2
   | some a=>rw [e] at h2;cases h2;rfl
  obtain ⟨u,hu,rv⟩:=r.get ha
  have hp:ps[i]?=some y:=by
   rw [← S.pre,List.getElem?_take_of_lt (by omega)];exact h1
  have ndP:ps.Nodup:=by rw [← S.pre];exact S.nd.sublist (List.take_sublist _ _)
  refine ⟨u,rv,?_⟩
  rcases S.par y (K0 hp) with k | k
  ·exact .inl ⟨k,qr ndP hp hu k⟩
  ·obtain ⟨c,e⟩:=tM (n:=s.heap.objs.size+1) k
   refine .inr ⟨.inl k,c,e,?_⟩
   have q:=x.cell y c e
   rw [qj ndP hp hu (by show scope.names.lookup y≠_;rw [k];decide)] at q
   exact q
 ·exact e0.hok.fresh (LM (x.above y c (Lu h)))
 ·unfold start
  show _=N.length
  rw [K5,J0,LO]
  omega
theorem u7 {CX:CXT} {P:Kn} {w:Kq} {K:JV} {mg:Str→Option Value} {base:Heap} {k:Nat} {f:Addr} {name qual:Str} {params:Arguments} {body:List Stmt} {scope:Scope} {dV kV doc pm cdv ct oc:Value} {an od:Option Addr}
  {osl:Array (Option Value)} {N ps:List Str} {sp:Sp} (lk:K.lookup f=some ⟨oc,od,.func (MD name qual params body scope dV kV doc pm an cdv ct),osl⟩) (hcd:Pl K cdv qual=true) (S:fN N ps scope)
  (len:∀ vs H Q E,sp vs H Q E→vs.length=ps.length)
  (hbody:∀ (A:KD) (outer:List Env) (s:JU) (H:Hp) (vs:List V) (Q:VK) (E:XK),cG k (A.deeper (Mj qual scope s.heap.objs.size f cdv))→sp vs H Q E →
   ∃ t,PSs (fG CX P w K mg base N qual scope f cdv A outer s H E) body t∧t { nx:=fun _ H'=>Q .non H',rt:=Q } (start N vs) H) :
  eK P w K mg base CX (k+1) f (MD name qual params body scope dV kV doc pm an cdv ct) ps sp:=by
 refine ⟨len,fun A outer s H args us vs Q E hr e0 hb r hsp=>?_⟩
 have hl:=len _ _ _ _ hsp
 have KX:K.In s.heap:=e0.mod.kin.keeps fun b o e=>(e0.bs b o e).1
 have lim:s.heap.NoLimit:=e0.mod.nolimit.keeps fun b o e=>(e0.bs b o e).1
 have hkind:∀ y∈ps.zip us,scope.names.lookup y.1=some .local∨(scope.names.lookup y.1=some .cell∧((UB (s.heap.objs.size+1) scope.names []).lookup y.1).isSome=true):=fun ⟨n,v⟩ hy=>by
  rcases S.par n (QN hy).1 with q | q
  ·exact .inl q
  ·exact .inr ⟨q,QY _ _ _ (.inl q)⟩
 refine codeAny_call_function hr.depth (KX _ _ lk) rfl S.co S.gen rfl (PySem.W.codeRec_of KX hcd) (hb _ _ _ _ ?_)
 refine wpAny_newFunctionEnv_cells S.kind hkind fun env he s1 x=>?_
 subst he
 refine ⟨lim.keeps x.toInCall.keep,codeAny_func ?_⟩
 obtain ⟨t,ht,hq⟩:=hbody A outer s H vs Q E (hr.deeper _) hsp
 have I:Inv (fG CX P w K mg base N qual scope f cdv A outer s H E) [] (start N vs) H s1:=xr S hr.hd e0 hl r x
 refine Me (ht [] s1 (start N vs) H _ I hq) (fun fl s' hs=>?_) fun e s' hs=>hs
 have fin:∀ {σ':St} {H':Hp} {v:V} {u:Value},Inv (fG CX P w K mg base N qual scope f cdv A outer s H E) [] σ' H' s'→RelV v u→Q v H'→CE outer P w H s Q u s':=
  fun {σ' H' v u} J rv q=>⟨v,H',J.os,J.bare,J.base,J.hok,rv,q⟩
 cases fl with
 | ret u=>
  obtain ⟨v,σ',H',J,rv,q⟩:=hs
  exact fin J rv q
 | next=>
  obtain ⟨σ',H',J,q⟩:=hs
  exact fin (v:=V.non) (u:=Mt) J rfl q
 | brk=>
  obtain ⟨_,_,_,q⟩:=hs
  exact LB q
 | cont=>
  obtain ⟨_,_,_,q⟩:=hs
  exact LB q
section
variable {X:Cx} {x:Str} {p pos:Pos} {e:Ke} {es:List Ke} {t:TA} {id T:String} {r:List V→Hp→VK→Prop}
def tCB (r:List V→Hp→VK→Prop) (t:TA):TE:=fun σ H Q=>t σ H fun vs H1=>r vs H1 Q
theorem Ar (hc:cc X (.builtin id) r) (hg:Gl X x) (hm:X.mg x=none) (hv:Kj x=some (.builtin id)) (ha:PA X (e :: es) t) (hn:x≠"__name__":=by decide) (hdb:(x == ("__debug__":Str))=false:=by decide)
  (he:J7 (e :: es) X.env=(false,KC e X.env) :: J7 es X.env:=by rfl) (hpl:(Ly pos (J7 es X.env)).any (·.1)=false:=by rfl):PE X (.Call (.Name x p) (e :: es) [] pos) (tCB r t):=by
 intro pins s σ H Q I h
 refine LV (df I hg hm hv ?_ hn hdb)
 exact ME (thn (ha pos pins s σ H _ I h) fun us s1 ⟨vs,H1,I1,r1,q1⟩=>hc pins s1 σ H1 vs us Q I1 r1 q1) he hpl
theorem wH (hc:cc X (.type T) r) (hg:Gl X x) (hm:X.mg x=none) (hv:Kj x=some (.type T)) (ha:PA X (e :: es) t) (hn:x≠"__name__":=by decide) (hdb:(x == ("__debug__":Str))=false:=by decide)
  (he:J7 (e :: es) X.env=(false,KC e X.env) :: J7 es X.env:=by rfl) (hpl:(Ly pos (J7 es X.env)).any (·.1)=false:=by rfl):PE X (.Call (.Name x p) (e :: es) [] pos) (tCB r t):=by
 intro pins s σ H Q I h
 refine LV (df I hg hm hv ?_ hn hdb)
 exact K9 (thn (ha pos pins s σ H _ I h) fun us s1 ⟨vs,H1,I1,r1,q1⟩=>hc pins s1 σ H1 vs us Q I1 r1 q1) he hpl
end
end L2
namespace HT
open PySem PyProof.Rows
section
variable {prog:Kn} {w:Kq} {A:KD} {E:Value→JU→Prop} {s:JU}
theorem CI {t b:Addr} {vs ws:List Value} {Q:Value→JU→Prop} (ht:Pr s.heap t vs.toArray) (hb:Pr s.heap b ws.toArray) (hv:vs≠[])
  (h1:ws=[]→Q (.ref t) s) (h2:ws≠[]→Q (.ref s.heap.objs.size) { s with heap:=s.heap.push { cls:=.type "tuple",data:=.seq (vs++ws).toArray } })
  (hsz:vs.length+ws.length≤sizeLine):JY (J6 prog w) A (Mp .Add (.ref t) (.ref b)) Q E s:=by
 obtain ⟨⟨cls,dd,data,sl⟩,ho,hc,n,hd⟩:=id ht
 obtain ⟨⟨cls2,dd2,data2,sl2⟩,ho2,hc2,n2,hd2⟩:=id hb
 simp only at hc hd hc2 hd2
 subst hc hd hc2 hd2
 have e:vs.toArray++ws.toArray=(vs++ws).toArray:=by simp
 by_cases hw:ws=[]
 ·exact Sn ⟨_,ho,rfl⟩ ⟨_,ho2,rfl⟩ Qo RQ ON OB (Oh _ _)
   (tuple_addW1 t b vs.toArray ws.toArray n n2 dd dd2 sl sl2 (by simpa using hv) (by simp [hw])) ⟨ho,ho2,h1 hw⟩
 ·refine Sn ⟨_,ho,rfl⟩ ⟨_,ho2,rfl⟩ Qo RQ ON OB (Oh _ _)
   (tuple_addW2 t b vs.toArray ws.toArray n n2 dd dd2 sl sl2 (by simpa using hv) (by simpa using hw) (by rw [J8,J8];exact hsz)) ⟨ho,ho2,?_⟩
  rw [e]
  exact h2 hw
def sIx (n d:Nat):Option Int→Nat
 | none=>d
 | some v=>if v < 0 then (v+(n:Int)).toNat else min v.toNat n
theorem nj (n d:Nat):sIx n d none=d:=rfl
theorem jT (n d k:Nat):sIx n d (some (k:Int))=min k n:=by
 show (if (k:Int) < 0 then ((k:Int)+(n:Int)).toNat else min (k:Int).toNat n)=min k n
 rw [J9 (by omega),Lc]
theorem Er (n d:Nat) (hd:d≤n) (o:Option Int):sIx n d o≤n:=by
 cases o with
 | none=>exact hd
 | some v=>
  show (if v < 0 then (v+(n:Int)).toNat else min v.toNat n)≤n
  by_cases hv:v < 0
  ·rw [J2 hv];omega
  ·rw [J9 hv];exact Nat.min_le_right _ _
theorem ur (v:Int) (n d:Nat):(if v < 0 then max (v+(n:Int)) 0 else min v (n:Int))=((sIx n d (some v):Nat):Int):=by
 show (if v < 0 then max (v+(n:Int)) 0 else min v (n:Int))=(((if v < 0 then (v+(n:Int)).toNat else min v.toNat n):Nat):Int)
 by_cases hv:v < 0
 ·simp only [J2 hv];omega
 ·simp only [J9 hv];omega
theorem vg (lo hi:Option Int) (n:Nat):N_ lo hi 1 (n:Int)=(((sIx n 0 lo:Nat):Int),((sIx n n hi:Nat):Int)):=by
 have h1:¬((1:Int) < 0):=by omega
 unfold N_
 simp only [h1,L3]
 refine Prod.ext ?_ ?_
 ·cases lo with
  | none=>rfl
  | some v=>exact ur v n 0
 ·cases hi with
  | none=>rfl
  | some v=>exact ur v n n
theorem vL (i j:Nat):LH (i:Int) (j:Int) 1=j - i:=by
 unfold LH
 have h1:(1:Int) > 0:=by omega
 simp only [h1,L7,Vu]
 split<;>omega
theorem nU {v:Value} {o:Option Int} {Q:Option Int→JU→Prop} (p:Oi v o) (h:Q o s):JY (J6 prog w) A (Ui v) Q E s:=by
 cases p with
 | none=>exact Pm h
 | int i t=>exact slicePart_int h
theorem iN {sl:Addr} {vl vu:Value} {lo hi:Option Int} {n:Nat} {Q:Int×Int×Nat→JU→Prop} (hs:s.heap.IsSliceOf sl vl vu .none) (pl:Oi vl lo) (pu:Oi vu hi)
  (h:Q (((sIx n 0 lo:Nat):Int),1,sIx n n hi - sIx n 0 lo) s):JY (J6 prog w) A (M0 (.ref sl) (pure (n:Int))) Q E s:=by
 obtain ⟨os,hos,hcs,hds⟩:=id hs
 unfold M0 Qb
 refine ar (ar (KR hos hds (x:=vl) rfl (ar (KR hos hds (x:=vu) rfl (ar (KR hos hds (x:=.none) rfl (tx ?_)))))))
 refine ar (Pm ?_)
 show JY _ _ (if ((1:Int) == 0)=true then _ else _) _ _ s
 rw [J9 (by decide)]
 refine ar (nU pl (ar (nU pu (ar (tx ?_)))))
 show JY _ _ (match N_ lo hi 1 (n:Int) with | (lo,hi)=>pure (lo,(1:Int),LH lo hi 1)) _ _ s
 rw [vg lo hi n]
 show JY _ _ (pure (((sIx n 0 lo:Nat):Int),(1:Int),LH ((sIx n 0 lo:Nat):Int) ((sIx n n hi:Nat):Int) 1)) _ _ s
 rw [vL]
 exact tx h
theorem zg (xs:Array Value) (i k:Nat):((J_ k).filterMap fun (m:Nat)=>xs[((i:Int)+(m:Int) * 1).toNat]?).toArray=((xs.toList.drop i).take k).toArray:=by
 have e:(fun (m:Nat)=>xs[((i:Int)+(m:Int) * 1).toNat]?)=fun m=>xs[i+m]?:=by
  funext m
  have:((i:Int)+(m:Int) * 1).toNat=i+m:=by omega
  rw [this]
 rw [e]
 have:=pick_run xs i k
 rw [So] at this
 have e2:((fun x=>xs[x]?) ∘ fun x=>i+x)=fun m=>xs[i+m]?:=rfl
 rw [e2] at this
 rw [this]
theorem mK {t sl:Addr} {items:Array Value} {vl vu:Value} {lo hi:Option Int} {Q:Value→JU→Prop} (ht:Pr s.heap t items) (hs:s.heap.IsSliceOf sl vl vu .none) (pl:Oi vl lo) (pu:Oi vu hi)
    (hw:¬(sIx items.size 0 lo=0∧sIx items.size items.size hi=items.size))
    (h:Q (.ref s.heap.objs.size) { s with heap:=s.heap.push { cls:=.type "tuple",data:=.seq ((items.toList.drop (sIx items.size 0 lo)).take (sIx items.size items.size hi - sIx items.size 0 lo)).toArray } })
    (hsz:items.size≤sizeLine):JY (J6 prog w) A (O1 (.ref t) (.ref sl)) Q E s:=by
  have htake:sizeOk (.seq ((items.toList.drop (sIx items.size 0 lo)).take (sIx items.size items.size hi - sIx items.size 0 lo)).toArray):=by
    show ((items.toList.drop (sIx items.size 0 lo)).take (sIx items.size items.size hi - sIx items.size 0 lo)).toArray.size≤sizeLine
    rw [J8,KS,OS,Kh]
    omega
  have hj:sIx items.size items.size hi≤items.size:=Er _ _ (J3 _) hi
  obtain ⟨os,hos,hcs,hds⟩:=id hs
  have hTs:s.TypeIs (.ref sl) "slice":=⟨os,hos,hcs⟩
  unfold O1
  try with_reducible refine KG ?_
  first | refine ar (tx ?_) | skip
  refine ar (OG ht.typeIs (by decide) ?_)
  refine ar (KQ (name:=K6 "__getitem__") ht.typeIs KP
    (K3 KP ht.typeIs Pf ?_ (Px _ _)))
  show JY _ _ (M3 (.ref t)>>=_) _ _ s
  refine ar (RU ht ?_)
  refine ar (Lf hTs ?_)
  rw [J2 (by decide)]
  refine ar (iN hs pl pu ?_)
  have hno:¬((((sIx items.size 0 lo:Nat):Int) == 0 && (1:Int) == 1 && (sIx items.size items.size hi - sIx items.size 0 lo) == items.size)=true):=by
    intro q
    rw [Ko,Ko] at q
    have q1:((sIx items.size 0 lo:Nat):Int)=0:=eq_of_beq q.1.1
    have q2:sIx items.size items.size hi - sIx items.size 0 lo=items.size:=eq_of_beq q.2
    exact hw ⟨by omega,by omega⟩
  show JY _ _ (if (((sIx items.size 0 lo:Nat):Int) == 0 && (1:Int) == 1 && (sIx items.size items.size hi - sIx items.size 0 lo) == items.size)=true then _ else _) _ _ s
  rw [J9 hno,zg]
  first
    | exact ar (m:=Ll _) (KN (tx ⟨_,rfl,tx h⟩) htake)
    | exact ar (m:=Ll _) (KN (ar (tx (tx ⟨_,rfl,tx h⟩))) htake)
    | exact ar (ar (m:=Ll _) (KN (tx (tx ⟨_,rfl,tx h⟩)) htake))
    | exact ar (ar (m:=Ll _) (KN (tx ⟨_,rfl,tx h⟩) htake))
end
end HT
namespace L2
open PySem PySem.Spec PyProof.Rows
abbrev TO:=St→Hp→(Option Int→Hp→Prop)→Prop
def PO (X:Cx) (e:Option Ke) (t:TO):Prop:=
 ∀ (pins:List (Addr×Obj)) (s:JU) (σ:St) (H:Hp) (Q:Option Int→Hp→Prop),Inv X pins σ H s→t σ H Q →
  JY (J6 X.prog X.w) X.A (evalPart e X.env) (fun u s'=>∃ o H',Inv X pins σ H' s'∧Oi u o∧Q o H') X.xe s
def Dc:TO:=fun _ H Q=>Q none H
def HW (t:TE):TO:=fun σ H Q=>t σ H fun x H1=>∃ i,x=.int i∧Q (some i) H1
theorem intsAre_of {ns:List Int}:∀ {us:List Value},Vals (ns.map V.int) us→K8 us ns:=by
 induction ns with
 | nil=>intro us r;rw [Vv] at r;cases r;exact .nil
 | cons n ns ih=>
  intro us r
  rw [Kx] at r
  cases r with
  | cons r1 r2=>
   obtain ⟨t,e⟩:=r1
   subst e
   exact .cons n t (ih r2)
section
variable {X:Cx} {e:Ke} {te:TE} {lo hi:Option Ke} {tl th:TO} {pos p2:Pos}
theorem BG:PO X none Dc:=by
 intro pins s σ H Q I h
 rw [RV]
 exact tx ⟨none,H,I,.none,h⟩
theorem B4 (h:PE X e te):PO X (some e) (HW te):=by
 intro pins s σ H Q I hw
 rw [evalPart_some]
 refine thn (h pins s σ H _ I hw) fun u s1 ⟨x,H1,I1,r1,q1⟩=>?_
 obtain ⟨i,rfl,q⟩:=q1
 obtain ⟨t,rfl⟩:=r1
 exact ⟨some i,H1,I1,.int i t,q⟩
def SlR (X:Cx) (r:V→Option Int→Option Int→Hp→VK→Prop):Prop:=
 ∀ (pins:List (Addr×Obj)) (s:JU) (σ:St) (H:Hp) (x:V) (v vl vu:Value) (lo hi:Option Int) (sl:Addr) (Q:VK),Inv X pins σ H s→RelV x v→s.heap.IsSliceOf sl vl vu .none→Oi vl lo→Oi vu hi→r x lo hi H Q →
  ∃ T id,typeLookup (.type T) "__getitem__"=pure (some (.builtin id))∧s.TypeIs v T∧JY (J6 X.prog X.w) X.A (O1 v (.ref sl)) (EP X pins σ Q) X.xe s
def tSl (r:V→Option Int→Option Int→Hp→VK→Prop) (te:TE) (tl th:TO):TE:=fun σ H Q=>te σ H fun x H1=>tl σ H1 fun l H2=>th σ H2 fun u H3=>r x l u H3 Q
theorem sf {r:V→Option Int→Option Int→Hp→VK→Prop} (hr:SlR X r) (he:PE X e te) (hl:PO X lo tl) (hu:PO X hi th):PE X (.Subscript e (.Slice lo hi none p2) pos) (tSl r te tl th):=by
 intro pins s σ H Q I h
 refine RF (thn (he pins s σ H _ I h) fun v s1 ⟨x,H1,I1,r1,q1⟩=>?_)
 refine wpAny_Slice (thn (hl pins s1 σ H1 _ I1 q1) fun vl s2 ⟨l,H2,I2,pl,q2⟩=>thn (hu pins s2 σ H2 _ I2 q2) fun vu s3 ⟨u,H3,I3,pu,q3⟩=>?_)
 rw [RV]
 refine tx ?_
 have I4:Inv X pins σ H3 { s3 with heap:=s3.heap.push { cls:=.type "slice",data:=.fields #[vl,vu,.none] } }:=I3.kept (t':=s3.toks) fun b ob q=>C0 _ q
 obtain ⟨T,id,hT,ht,hg⟩:=hr pins { s3 with heap:=s3.heap.push { cls:=.type "slice",data:=.fields #[vl,vu,.none] } } σ H3 x v vl vu l u s3.heap.objs.size Q I4 r1 (Sr ..) pl pu q3
 show JY (J6 X.prog X.w) X.A (RX e (.Slice lo hi none p2) v (.ref s3.heap.objs.size)) (EP X pins σ Q) X.xe { s3 with heap:=s3.heap.push { cls:=.type "slice",data:=.fields #[vl,vu,.none] } }
 exact Vw (ops:=[.ref s3.heap.objs.size,v]) ht hT hg (by with_unfolding_all rfl)
def iT (xs:List V) (lo hi:Option Int):List V:=(xs.drop (HT.sIx xs.length 0 lo)).take (HT.sIx xs.length xs.length hi - HT.sIx xs.length 0 lo)
theorem mW (xs:List V) (lo hi:Option Int):(iT xs lo hi).length≤xs.length:=by
 unfold iT
 rw [KS,OS]
 omega
def Jf (K:JV):V→Option Int→Option Int→Hp→VK→Prop:=fun x lo hi H Q=>∃ a xs,x=.ref a∧SqT K H a xs ∧
 ¬(HT.sIx xs.length 0 lo=0∧HT.sIx xs.length xs.length hi=xs.length)∧∀ p,H p=none→Q (.ref p) (upd H p (.tup (iT xs lo hi)))
theorem FH:SlR X (Jf X.K):=by
 intro pins s σ H x v vl vu lo hi sl Q I rx hs pl pu h
 obtain ⟨a,xs,rfl,hx,hw,q⟩:=h
 cases rx
 obtain ⟨its,r,ht,hz⟩:=I.tuple hx
 have hlen:its.toArray.size=xs.length:=by rw [J8];exact r.length.symm
 refine ⟨"tuple",_,KP.lookup,ht.typeIs,?_⟩
 refine HT.mK ht hs pl pu (by rw [hlen];exact hw) ?_ (by rw [hlen];exact hz)
 rw [hlen]
 refine ⟨.ref s.heap.objs.size,_,I.laid (t':=s.toks) (o:=.tup (iT xs lo hi)) (fun b ob q=>C0 _ q) (J3 _) ?_,rfl,q _ (I.hok.fresh (J3 _))⟩
 exact ⟨Lj (mW xs lo hi) hz,_,(r.drop (HT.sIx xs.length 0 lo)).take (HT.sIx xs.length xs.length hi - HT.sIx xs.length 0 lo),QO _ _⟩
def G4 (K:JV):R2:=fun x y H Q=>∃ a b xs ys,x=.ref a∧y=.ref b∧SqT K H a xs∧SqT K H b ys∧xs≠[]∧xs.length+ys.length≤sizeLine ∧
 (ys=[]→Q (.ref a) H)∧(ys≠[]→∀ p,H p=none→Q (.ref p) (upd H p (.tup (xs++ys))))
theorem Vals.mz {xs:List V} {us:List Value} (r:Vals xs us):us=[]↔xs=[]:=by
 cases r with
 | nil=>simp
 | cons _ _=>simp
theorem Cd:OpR X (Mp .Add) (G4 X.K):=by
 intro pins s σ H x y v u Q I rx ry h
 obtain ⟨a,b,xs,ys,rfl,rfl,ha,hb,hx,hz,q1,q2⟩:=h
 cases rx
 cases ry
 obtain ⟨its,r1,p1,_⟩:=I.tuple ha
 obtain ⟨its2,r2,p2,_⟩:=I.tuple hb
 refine HT.CI p1 p2 (fun z=>hx (r1.mz.mp z)) (fun z=>⟨.ref a,H,I,rfl,q1 (r2.mz.mp z)⟩) (fun z=>?_) (by rw [← r1.length,← r2.length];exact hz)
 refine ⟨.ref s.heap.objs.size,_,I.laid (t':=s.toks) (o:=.tup (xs++ys)) (fun b ob q=>C0 _ q) (J3 _) ?_,rfl,q2 (fun w=>z (r2.mz.mpr w)) _ (I.hok.fresh (J3 _))⟩
 exact ⟨by rw [K5];exact hz,_,r1.append r2,QO _ _⟩
end
def ixN (n:Nat) (i:Int):Option Nat:=if 0≤i then (if i < n then some i.toNat else none) else if -(n:Int)≤i then some (i+n).toNat else none
def atI {α:Type} (xs:List α) (i:Int):Option α:=(ixN xs.length i).bind fun j=>xs[j]?
theorem uC {n:Nat} {i:Int} {j:Nat} (h:ixN n i=some j):UC i n=some j∧j < n∧-(n:Int)≤i∧i < n:=by
 unfold ixN at h
 by_cases h0:0≤i
 ·rw [J2 h0] at h
  by_cases h1:i < n
  ·rw [J2 h1] at h
   have e:i.toNat=j:=KA h
   exact ⟨by rw [Tq h0 h1,e],by omega,by omega,h1⟩
  ·rw [J9 h1] at h;cases h
 ·rw [J9 h0] at h
  by_cases h1:-(n:Int)≤i
  ·rw [J2 h1] at h
   have e:(i+n).toNat=j:=KA h
   exact ⟨by rw [Ss (by omega) h1,e],by omega,h1,by omega⟩
  ·rw [J9 h1] at h;cases h
theorem uR {α:Type} {xs:List α} {i:Int} {v:α} (h:atI xs i=some v):∃ j,UC i xs.length=some j∧xs[j]?=some v∧j < xs.length∧-(xs.length:Int)≤i∧i < xs.length:=by
 unfold atI at h
 cases e:ixN xs.length i with
 | none=>rw [e] at h;cases h
 | some j=>
  rw [e] at h
  obtain ⟨h1,h2,h3,h4⟩:=uC e
  exact ⟨j,h1,h,h2,h3,h4⟩
def mw (b:Ke):Prop:=∀ o i,subscripted b false o i=operate [o,i] (O1 o i)
def IxR (X:Cx) (r:R2):Prop:=
 ∀ (value slice:Ke) (pins:List (Addr×Obj)) (s:JU) (σ:St) (H:Hp) (x y:V) (v u:Value) (Q:VK),Inv X pins σ H s→RelV x v→RelV y u→r x y H Q →
  subscripted slice false v u=operate [v,u] (O1 v u)→JY (J6 X.prog X.w) X.A (RX value slice v u) (EP X pins σ Q) X.xe s
section
variable {X:Cx} {a b:Ke} {ta tb:TE} {pos:Pos}
theorem HY {r:R2} (hr:IxR X r) (ha:PE X a ta) (hb:PE X b tb) (hs:mw b):PE X (.Subscript a b pos) (tOp r ta tb):=by
 intro pins s σ H Q I h
 exact RF (Av ha hb I h fun v u s2 x y H2 I2 rx ry q=>hr a b pins s2 σ H2 x y v u Q I2 rx ry q (hs _ _))
def JD (K:JV):R2:=fun x y H Q=>∃ p xs i v,x=.ref p∧y=.int i∧SqL K H p xs∧atI xs i=some v∧Q v H
def Jj (K:JV):R2:=fun x y H Q=>∃ p xs i v,x=.ref p∧y=.int i∧SqT K H p xs∧atI xs i=some v∧Q v H
theorem BI:IxR X (JD X.K):=by
 intro value slice pins s σ H x y v u Q I rx ry h hs
 obtain ⟨p,xs,i,z,rfl,rfl,hq,he,q⟩:=h
 cases rx
 obtain ⟨t,rfl⟩:=ry
 obtain ⟨its,r,pl,hz⟩:=I.list hq
 obtain ⟨j,h1,h2,h3,h4,h5⟩:=uR he
 obtain ⟨w,ew,rw'⟩:=r.get h2
 have hl:=r.length
 have hn:=lQ
 have fin:EP X pins σ Q w s:=⟨z,H,I,rw',q⟩
 by_cases h0:0≤i
 ·have hj:i.toNat=j:=by
   rw [Tq h0 h5] at h1
   exact KA h1
  exact item_listR pl.isList h0 (by omega) (by rw [hj];simpa using ew) fin hs
 ·have hj:(i+(its.toArray.size:Int)).toNat=j:=by
   rw [Ss (by omega) h4] at h1
   rw [J8,← hl]
   exact KA h1
  exact QZ (x:=w) pl.isList.typeIs S8.lookup
   (wpAny_getItem_list_neg (Q:=fun r s'=>r=w∧EP X pins σ Q r s') pl.isList (by omega) (by rw [J8]<;>omega) (by omega) (by rw [hj];simpa using ew) ⟨rfl,fin⟩) hs
theorem Fu:IxR X (Jj X.K):=by
 intro value slice pins s σ H x y v u Q I rx ry h hs
 obtain ⟨p,xs,i,z,rfl,rfl,hq,he,q⟩:=h
 cases rx
 obtain ⟨t,rfl⟩:=ry
 obtain ⟨its,r,pl,hz⟩:=I.tuple hq
 obtain ⟨j,h1,h2,h3,h4,h5⟩:=uR he
 obtain ⟨w,ew,rw'⟩:=r.get h2
 have hl:=r.length
 have hn:=lQ
 have fin:EP X pins σ Q w s:=⟨z,H,I,rw',q⟩
 exact QZ (x:=w) pl.typeIs slot_tuple_getitem.lookup
  (getItem_tuple (j:=j) (Q:=fun r s'=>r=w∧EP X pins σ Q r s') pl (by omega) (by omega) (by rw [J8,← hl];exact h1) (by simpa using ew) ⟨rfl,fin⟩) hs
theorem vn (its:List Value) (n j:Nat) (u:Value):MT (·.setIfInBounds j u) { cls:=.type "list",data:=.seq its.toArray n }={ cls:=.type "list",data:=.seq (its.set j u).toArray n }:=by
 simp [MT]
theorem Inv.lst {pins:List (Addr×Obj)} {σ:St} {H:Hp} {s:JU} {p:Addr} {xs:List V} (I:Inv X pins σ H s) (h:H p=some (.lst xs)) :
  ∃ (its:List Value) (n:Nat),Vals xs its∧s.heap.get? p=some { cls:=.type "list",data:=.seq its.toArray n }∧xs.length≤sizeLine:=by
 obtain ⟨z,its,n,r,e⟩:=I.hok p _ h
 exact ⟨its,n,r,e,z⟩
theorem Inv.Fh {pins:List (Addr×Obj)} {σ:St} {H:Hp} {s:JU} {p:Addr} {xs ys:List V} {its its':List Value} {n n':Nat} {f:Obj→Obj} (I:Inv X pins σ H s) (h:H p=some (.lst xs))
  (ho:s.heap.get? p=some { cls:=.type "list",data:=.seq its.toArray n }) (hf:f { cls:=.type "list",data:=.seq its.toArray n }={ cls:=.type "list",data:=.seq its'.toArray n' }) (r:Vals ys its') (hz:ys.length≤sizeLine) (t:Nat) :
  Inv X pins σ (upd H p (.lst ys)) { s with heap:=s.heap.update p f,toks:=t }:=by
 have e:(s.heap.update p f).get? p=some { cls:=.type "list",data:=.seq its'.toArray n' }:=by
  rw [Ln f ho (by rw [hf]<;>rfl),hf]
 refine I.write (x:=p) (e:=p) (by rw [h];trivial) (.inl rfl) (fun b u hb q=>(L8 _ _ (LN hb)).trans q) ⟨_,e⟩ ?_
 exact ⟨hz,its',n',r,e⟩
def v5:V→V→V→Hp→(Hp→Prop)→Prop:=fun o i v H Q=>∃ p xs k j,o=.ref p∧i=.int k∧H p=some (.lst xs)∧ixN xs.length k=some j∧Q (upd H p (.lst (xs.set j v)))
theorem set_list:wb X v5:=by
 intro pins s σ H o i v ov iv u Q I ro ri rv h
 obtain ⟨p,xs,k,j,rfl,rfl,hp,hj,q⟩:=h
 cases ro
 obtain ⟨t,rfl⟩:=ri
 obtain ⟨its,n,r,ho,hz⟩:=I.lst hp
 obtain ⟨h1,h2,h3,h4⟩:=uC hj
 have hl:=r.length
 have hn:=lQ
 have I':Inv X pins σ (upd H p (.lst (xs.set j v))) { s with heap:=s.heap.update p (MT (·.setIfInBounds j u)) }:=
  I.Fh hp ho (vn its n j u) (r.set rv j) (by rw [Mr];exact hz) s.toks
 by_cases h0:0≤k
 ·have hk:k.toNat=j:=by
   rw [Tq h0 h4] at h1
   exact KA h1
  exact PySem.W.ki_setAt ho h0 (by omega) (by rw [J8,← hl];exact h4) (by rw [hk];exact ⟨_,I',q⟩)
 ·have hk:(k+(its.toArray.size:Int)).toNat=j:=by
   rw [Ss (by omega) h3] at h1
   rw [J8,← hl]
   exact KA h1
  exact PySem.W.ki_setBack ho (by omega) (by rw [J8,← hl];exact h3) (by omega) (by rw [hk];exact ⟨_,I',q⟩)
theorem sL (lo hi:Option Int) (n:Nat):(Nf lo hi none n).1=((HT.sIx n 0 lo:Nat):Int)∧(Nf lo hi none n).2.1=((HT.sIx n n hi:Nat):Int)∧(Nf lo hi none n).2.2=1:=by
 refine ⟨?_,?_,rfl⟩
 ·cases lo with
  | none=>simp [Nf,HT.sIx]
  | some i=>
   simp only [Nf,HT.sIx,Qp,show (1:Int) > 0 by decide,L7]
   by_cases h:i < 0
   ·simp only [h,L7]<;>omega
   ·simp only [h,L3]<;>omega
 ·cases hi with
  | none=>simp [Nf,HT.sIx]
  | some i=>
   simp only [Nf,HT.sIx,Qp,show (1:Int) > 0 by decide,L7]
   by_cases h:i < 0
   ·simp only [h,L7]<;>omega
   ·simp only [h,L3]<;>omega
theorem qA (its:List Value) (lo hi:Option Int):slicePick its.toArray lo hi none=((its.drop (HT.sIx its.length 0 lo)).take (HT.sIx its.length its.length hi - HT.sIx its.length 0 lo)).toArray:=by
 obtain ⟨h1,h2,h3⟩:=sL lo hi its.toArray.size
 unfold slicePick
 rw [h1,h2,h3]
 simp only [sliceRange_one,pick_run,J8]<;>rfl
def Jy (K:JV):V→Option Int→Option Int→Hp→VK→Prop:=fun x lo hi H Q=>∃ a xs,x=.ref a∧SqL K H a xs∧∀ p,H p=none→Q (.ref p) (upd H p (.lst (iT xs lo hi)))
theorem uw:SlR X (Jy X.K):=by
 intro pins s σ H x v vl vu lo hi sl Q I rx hs pl pu h
 obtain ⟨a,xs,rfl,hx,q⟩:=h
 cases rx
 obtain ⟨its,r,ht,hz⟩:=I.list hx
 have hlen:=r.length
 refine ⟨"list",_,S8.lookup,ht.isList.typeIs,?_⟩
 refine wpAny_getItem_list_slice ht.isList hs pl pu .none (by simp) ?_ (by rw [J8]<;>omega)
 rw [qA,← hlen]
 refine ⟨.ref s.heap.objs.size,_,I.laid (t':=s.toks) (o:=.lst (iT xs lo hi)) (fun b ob q=>C0 _ q) (J3 _) ?_,rfl,q _ (I.hok.fresh (J3 _))⟩
 exact ⟨Lj (mW xs lo hi) hz,_,0,(r.drop (HT.sIx xs.length 0 lo)).take (HT.sIx xs.length xs.length hi - HT.sIx xs.length 0 lo),Kc _ rfl⟩
def fC:V→Bool
 | .non=>true
 | .bl _=>true
 | .int _=>true
 | .str _=>true
 | _=>false
def eqV:V→V→Bool
 | .non,.non=>true
 | .bl a,.bl b=>a == b
 | .bl a,.int b=>(if a then 1 else 0) == b
 | .int a,.bl b=>a == (if b then 1 else 0)
 | .int a,.int b=>a == b
 | .str a,.str b=>a == b
 | _,_=>false
theorem k_ {A:KD} {s:JU} {y x:V} {u v:Value} (ry:RelV y u) (rx:RelV x v) (fy:fC y=true) (fx:fC x=true):Ox A s u v (eqV y x):=by
 cases y with
 | non=>
  cases ry
  cases x with
  | non=>cases rx;exact QP _
  | bl b=>cases rx;exact SeqAt.EqAt.none_bool b
  | int b=>obtain ⟨t,rfl⟩:=rx;exact SeqAt.EqAt.none_int b t
  | str b=>obtain ⟨t,rfl⟩:=rx;exact SeqAt.EqAt.none_str b t
  | _=>exact absurd (show false=true from fx) Kl
 | bl a=>
  cases ry
  cases x with
  | non=>cases rx;exact SeqAt.EqAt.bool_none a
  | bl b=>cases rx;exact SeqAt.EqAt.bool_bool a b
  | int b=>obtain ⟨t,rfl⟩:=rx;exact SeqAt.EqAt.bool_int a b t
  | str b=>obtain ⟨t,rfl⟩:=rx;exact SeqAt.EqAt.bool_str a b t
  | _=>exact absurd (show false=true from fx) Kl
 | int a=>
  obtain ⟨t',rfl⟩:=ry
  cases x with
  | non=>cases rx;exact SeqAt.EqAt.int_none a t'
  | bl b=>cases rx;exact SeqAt.EqAt.int_bool a t' b
  | int b=>obtain ⟨t,rfl⟩:=rx;exact SeqAt.EqAt.int_int a t' b t
  | str b=>obtain ⟨t,rfl⟩:=rx;exact Sb a t' b t
  | _=>exact absurd (show false=true from fx) Kl
 | str a=>
  obtain ⟨t',rfl⟩:=ry
  cases x with
  | non=>cases rx;exact SeqAt.EqAt.str_none a t'
  | bl b=>cases rx;exact SeqAt.EqAt.str_bool a t' b
  | int b=>obtain ⟨t,rfl⟩:=rx;exact Sd a t' b t
  | str b=>obtain ⟨t,rfl⟩:=rx;exact SeqAt.EqAt.str_str a t' b t
  | _=>exact absurd (show false=true from fx) Kl
 | _=>exact absurd (show false=true from fy) Kl
def eqU (x:V) (u:Value):Bool:=match u with
 | .none=>eqV .non x
 | .bool b=>eqV (.bl b) x
 | .int i _=>eqV (.int i) x
 | .str z _=>eqV (.str z) x
 | _=>false
theorem xp {x y:V} {u:Value} (r:RelV y u) (f:fC y=true):eqU x u=eqV y x:=by
 cases y with
 | non=>cases r;rfl
 | bl b=>cases r;rfl
 | int i=>obtain ⟨t,rfl⟩:=r;rfl
 | str z=>obtain ⟨t,rfl⟩:=r;rfl
 | _=>exact absurd (show false=true from f) Kl
theorem pb {x:V}:∀ {xs:List V} {us:List Value},Vals xs us→xs.all fC=true→us.any (eqU x)=xs.any fun y=>eqV y x
 | _,_,.nil,_=>rfl
 | y :: xs,u :: us,.cons r t,f=>by
  rw [Lz,Ko] at f
  rw [Nn,Nn,xp r f.1,pb t f.2]
theorem nA {A:KD} {s:JU} {x:V} {v:Value} (rx:RelV x v) (fx:fC x=true):∀ {xs:List V} {us:List Value},Vals xs us→xs.all fC=true→∀ u∈us,Ox A s u v (eqU x u)
 | _,_,.nil,_=>fun u hu=>by cases hu
 | y :: xs,u :: us,.cons r t,f=>fun u' hu=>by
  rw [Lz,Ko] at f
  rcases J1.mp hu with rfl | hu
  ·rw [xp r f.1];exact k_ r rx f.1 fx
  ·exact nA rx fx t f.2 u' hu
def inV (x:V) (xs:List V):Bool:=xs.any fun y=>eqV y x
def rIn (K:JV) (neg:Bool):R2:=fun x y H Q=>∃ p xs,y=.ref p∧(SqL K H p xs∨SqT K H p xs)∧fC x=true∧xs.all fC=true∧Q (.bl (if neg then !inV x xs else inV x xs)) H
theorem lh:OpR X (Ku .NotIn) (rIn X.K true):=by
 intro pins s σ H x y v u Q I rx ry h
 obtain ⟨p,xs,rfl,hq,fx,fs,q⟩:=h
 cases ry
 rcases hq with hq | hq
 ·obtain ⟨its,r,pl,hz⟩:=I.list hq
  refine Su (eqU x) pl.isList (fun w hw=>nA rx fx r fs w (by simpa using hw)) ⟨.bl _,H,I,rfl,?_⟩
  rw [show its.toArray.any (eqU x)=its.any (eqU x) by simp,pb r fs]
  exact q
 ·obtain ⟨its,r,pl,hz⟩:=I.tuple hq
  refine R6 (eqU x) pl (fun w hw=>nA rx fx r fs w (by simpa using hw)) ⟨.bl _,H,I,rfl,?_⟩
  rw [show its.toArray.any (eqU x)=its.any (eqU x) by simp,pb r fs]
  exact q
theorem cc.or {f:Value} {r r':List V→Hp→VK→Prop} (h:cc X f r) (h':cc X f r'):cc X f (fun xs H Q=>r xs H Q∨r' xs H Q):=by
 intro pins s σ H xs us Q I rs q
 rcases q with q | q
 ·exact h pins s σ H xs us Q I rs q
 ·exact h' pins s σ H xs us Q I rs q
theorem l8:cc X (.type "list") (fun xs H Q=>∃ p ys,xs=[.ref p]∧(SqL X.K H p ys∨SqT X.K H p ys)∧∀ l,H l=none→Q (.ref l) (upd H l (.lst ys))):=by
 intro pins s σ H xs us Q I r h
 obtain ⟨p,ys,rfl,hq,q⟩:=h
 obtain ⟨u,rfl,rx⟩:=vals1 r
 cases rx
 have fin:∀ (its:List Value),Vals ys its→ys.length≤sizeLine→∀ (h':Heap) (c':Nat),(∀ b o',s.heap.get? b=some o'→h'.get? b=some o') →
   h'.get? s.heap.objs.size=some { cls:=.type "list",dict:=none,data:=.seq its.toArray c',slots:=#[] }→EP X pins σ Q (.ref s.heap.objs.size) { s with heap:=h' }:=fun its r' hz h' c' kp e=>
  ⟨.ref s.heap.objs.size,_,I.laid (t':=s.toks) kp (J3 _) (show b_ X.prog X.w _ h' _ (.lst ys) from ⟨hz,its,c',r',e⟩),rfl,q _ (I.hok.fresh (J3 _))⟩
 rcases hq with hq | hq
 ·obtain ⟨its,r',pl,hz⟩:=I.list hq
  have hlen:=r'.length
  obtain ⟨o,ho,hc,n,hd⟩:=pl.isList
  exact call_list_seq p (.inl rfl) ho hc hd (fun h' c' kp e=>fin its r' hz h' c' kp e) (by simp only [J8]<;>omega)
 ·obtain ⟨its,r',pl,hz⟩:=I.tuple hq
  have hlen:=r'.length
  obtain ⟨o,ho,hc,n,hd⟩:=pl
  exact call_list_seq p (.inr rfl) ho hc hd (fun h' c' kp e=>fin its r' hz h' c' kp e) (by simp only [J8]<;>omega)
theorem kM:cc X (.type "tuple") (fun xs H Q=>∃ p ys,xs=[.ref p]∧((SqL X.K H p ys∧∀ l,H l=none→Q (.ref l) (upd H l (.tup ys)))∨(SqT X.K H p ys∧Q (.ref p) H))):=by
 intro pins s σ H xs us Q I r h
 obtain ⟨p,ys,rfl,h⟩:=h
 obtain ⟨u,rfl,rx⟩:=vals1 r
 cases rx
 rcases h with ⟨hq,q⟩ | ⟨hq,q⟩
 ·obtain ⟨its,r',pl,hz⟩:=I.list hq
  have hlen:=r'.length
  refine call_tuple_list pl.isList (fun h' kp=>?_) (by simp only [J8]<;>omega)
  have I1:Inv X pins σ H { s with heap:=h' }:=I.kept (t':=s.toks) kp
  have I2:Inv X pins σ (upd H h'.objs.size (.tup ys)) { s with heap:=h'.push { cls:=.type "tuple",data:=.seq its.toArray } }:=
   I1.laid (t':=s.toks) (fun b o e=>C0 _ e) (J3 _) (show b_ X.prog X.w _ _ _ (.tup ys) from ⟨hz,its,r',QO _ _⟩)
  exact ⟨.ref h'.objs.size,_,I2,rfl,q _ (I1.hok.fresh (J3 _))⟩
 ·obtain ⟨its,r',pl,hz⟩:=I.tuple hq
  exact call_tuple_same pl ⟨.ref p,H,I,rfl,q⟩
def tyV (K:JV) (T:String) (x:V) (H:Hp):Prop:=match x with
 | .str _=>T="str"
 | .int _=>T="int"
 | .ref p=>(T="list"∧∃ xs,SqL K H p xs)∨(T="tuple"∧∃ o,K.lookup p=some o∧o.cls=.type "tuple"∧o.dict=none) ∨
   (T="dict"∧((∃ kvs,H p=some (.dK kvs))∨∃ kvs,H p=some (.dT kvs)))∨(T="set"∧∃ S n,H p=some (.set S n))
 | _=>False
theorem wR {pins:List (Addr×Obj)} {σ:St} {H:Hp} {s:JU} {T:String} {x:V} {v:Value} (I:Inv X pins σ H s) (r:RelV x v) (ty:tyV X.K T x H) :
  s.TypeIs v T∧∀ a,v=.ref a→∃ ob,s.heap.get? a=some ob∧ob.dict=none:=by
 cases x with
 | str z=>
  obtain ⟨t,rfl⟩:=r
  cases (show T="str" from ty)
  exact ⟨typeIs_str s z t,fun _ e=>nomatch e⟩
 | int i=>
  obtain ⟨t,rfl⟩:=r
  cases (show T="int" from ty)
  exact ⟨TX s i t,fun _ e=>nomatch e⟩
 | ref p=>
  cases r
  rcases ty with ⟨rfl,xs,hq⟩ | ⟨rfl,o,hk,hc,hd⟩ | ⟨rfl,hk⟩ | ⟨rfl,S,n,hk⟩
  ·obtain ⟨its,_,pl,_⟩:=I.list hq
   refine ⟨pl.isList.typeIs,fun a e=>?_⟩
   cases e
   obtain ⟨o,n,e,c,hd,_⟩:=pl
   exact ⟨o,e,hd⟩
  ·refine ⟨⟨o,I.kIn p o hk,hc⟩,fun a e=>?_⟩
   cases e
   exact ⟨o,I.kIn _ o hk,hd⟩
  ·have z:∃ o,s.heap.get? p=some o∧o.ExactDict:=by
    rcases hk with ⟨kvs,hk⟩ | ⟨kvs,hk⟩
    ·obtain ⟨_,_,_,_,o,_,_,e,ex,_⟩:=I.hok p _ hk
     exact ⟨o,e,ex⟩
    ·obtain ⟨_,_,_,_,o,_,_,e,ex,_⟩:=I.hok p _ hk
     exact ⟨o,e,ex⟩
   obtain ⟨o,e,ex⟩:=z
   refine ⟨⟨o,e,ex.1⟩,fun a e2=>?_⟩
   cases e2
   exact ⟨o,e,ex.2.1⟩
  ·obtain ⟨o,_,_,_,e,ex,_⟩:=I.hok p _ hk
   refine ⟨⟨o,e,ex.1⟩,fun a e2=>?_⟩
   cases e2
   exact ⟨o,e,ex.2.1⟩
 | _=>exact LB ty
variable {o e:Ke} {es:List Ke} {to:TE} {t:TA} {name:Str} {apos cpos:Pos} {T id:String} {r:V→List V→Hp→VK→Prop}
end
def MtM (X:Cx) (id:String) (r:V→List V→Hp→VK→Prop):Prop:=
 ∀ (pins:List (Addr×Obj)) (s:JU) (σ:St) (H:Hp) (x:V) (xs:List V) (v:Value) (us:List Value) (Q:VK),Inv X pins σ H s→RelV x v→Vals xs us→r x xs H Q →
  JY (J6 X.prog X.w) X.A (call (.builtin id) (v :: us)) (EP X pins σ Q) X.xe s
theorem Vals.one:∀ {x:V} {us:List Value},Vals [x] us→∃ u,us=[u]∧RelV x u
 | _,_,.cons r .nil=>⟨_,rfl,r⟩
theorem Vals.two:∀ {x y:V} {us:List Value},Vals [x,y] us→∃ u v,us=[u,v]∧RelV x u∧RelV y v
 | _,_,_,.cons r (.cons q .nil)=>⟨_,_,rfl,r,q⟩
theorem Vals.eraseIdx:∀ {xs:List V} {us:List Value} (i:Nat),Vals xs us→Vals (xs.eraseIdx i) (us.eraseIdx i)
 | _,_,_,.nil=>.nil
 | _,_,0,.cons _ t=>t
 | _,_,i+1,.cons r t=>.cons r (Vals.eraseIdx i t)
theorem Vals.reverse {xs:List V} {us:List Value} (h:Vals xs us):Vals xs.reverse us.reverse:=by
 induction h with
 | nil=>exact .nil
 | cons r t ih=>rw [OH,OH];exact Vals.append ih (.cons r .nil)
theorem ql {α:Type}:∀ (l:List α) (i:Nat),(l.eraseIdx i).length≤l.length
 | [],_=>J3 _
 | _ :: _,0=>N5 _
 | _ :: r,i+1=>Nat.succ_le_succ (ql r i)
section
variable {X:Cx} {pins:List (Addr×Obj)} {σ:St} {H:Hp} {s:JU} {l b:Addr} {xs ys zs:List V}
theorem Inv.EU {its its':List Value} {n:Nat} {f:Array Value→Array Value} {t':Nat} (I:Inv X pins σ H s) (hH:H l=some (.lst xs))
  (e:s.heap.get? l=some { cls:=.type "list",data:=.seq its.toArray n }) (hf:f its.toArray=its'.toArray) (hv:Vals ys its') (hz:ys.length≤sizeLine) :
  Inv X pins σ (upd H l (.lst ys)) { s with heap:=s.heap.update l (MT f),toks:=t' }:=by
 have q:=PySem.IsL.update e f
 rw [hf] at q
 refine I.write (x:=l) (e:=l) (by rw [hH];exact trivial) (.inl rfl) (fun b' u hb hu=>(L8 s.heap (MT f) (LN hb)).trans hu) ⟨_,q⟩ ?_
 exact ⟨hz,its',_,hv,q⟩
theorem Inv.Je {its:List Value} {t':Nat} (I:Inv X pins σ H s) (hv:Vals ys its) (hz:ys.length≤sizeLine) :
  Inv X pins σ (upd H s.heap.objs.size (.lst ys)) { s with heap:=s.heap.push { cls:=.type "list",data:=.seq its.toArray },toks:=t' }:=
 I.laid (fun _ _ q=>C0 _ q) (J3 _) ⟨hz,its,0,hv,Kc _ rfl⟩
theorem Inv.fresh (I:Inv X pins σ H s):H s.heap.objs.size=none:=I.hok.fresh (J3 _)
theorem Inv.wk (I:Inv X pins σ H s) (hH:H l=some (.lst xs)):xs.length≤sizeLine∧∃ (its:List Value) (n:Nat),Vals xs its∧xs.length=its.length∧s.heap.get? l=some { cls:=.type "list",data:=.seq its.toArray n }:=by
 obtain ⟨z,its,n,r,e⟩:=I.hok l _ hH
 exact ⟨z,its,n,r,r.length,e⟩
theorem rg {n:Nat} (h:n≤sizeLine):Qq n=false:=by
 unfold Qq
 exact H0 (by omega)
end
section
variable {X:Cx}
def BM:V→List V→Hp→VK→Prop:=fun x vs H Q=>∃ l xs y,x=.ref l∧vs=[y]∧H l=some (.lst xs)∧xs.length < sizeLine∧Q .non (upd H l (.lst (xs++[y])))
theorem qp:MtM X "list.append" BM:=by
 intro pins s σ H x vs v us Q I rx rv h
 obtain ⟨l,xs,y,rfl,rfl,hH,hz,q⟩:=h
 cases rx
 obtain ⟨u,rfl,ru⟩:=rv.one
 obtain ⟨z,its,n,r,hl,e⟩:=I.wk hH
 refine TY F.slot_list_append ⟨_,e,rfl⟩ F.entry_list_append (F.args_list_append_2 _ _) (PySem.list_append l its.toArray n u (by rw [J8];omega)) ⟨e,?_⟩
 refine ⟨.non,_,I.EU (its':=its++[u]) hH e (by simp) (r.append (.cons ru .nil)) ?_,rfl,q⟩
 rw [K5,MX]
 omega
def zc:V→List V→Hp→VK→Prop:=fun x vs H Q=>∃ l xs i k y,x=.ref l∧vs=[.int i]∧H l=some (.lst xs)∧-(2 ^ 63)≤i∧i < 2 ^ 63∧UC i xs.length=some k∧xs[k]?=some y∧Q y (upd H l (.lst (xs.eraseIdx k)))
theorem zB:MtM X "list.pop" zc:=by
 intro pins s σ H x vs v us Q I rx rv h
 obtain ⟨l,xs,i,k,y,rfl,rfl,hH,h1,h2,hk,hy,q⟩:=h
 cases rx
 obtain ⟨u,rfl,ru⟩:=rv.one
 obtain ⟨t,rfl⟩:=ru
 obtain ⟨z,its,n,r,hl,e⟩:=I.wk hH
 obtain ⟨w,hw,rw'⟩:=r.get hy
 refine TY F.slot_list_pop ⟨_,e,rfl⟩ F.entry_list_pop (F.args_list_pop_2 _ _)
  (MeetsSeq.list_pop_at l its.toArray n i t k w (fitsIndex_both h1 h2) (by rw [J8,← hl];exact hk) (by rw [← LP];exact hw) (by rw [J8];omega)) ⟨e,?_⟩
 refine ⟨y,_,I.EU (its':=its.eraseIdx k) hH e ?_ (r.eraseIdx k) ?_,rw',q⟩
 ·show its.toArray.eraseIdxIfInBounds k=(its.eraseIdx k).toArray
  rw [List.eraseIdxIfInBounds_toArray]
 ·have:=ql xs k
  omega
def Jp:R2:=fun x y H Q=>∃ l b xs zs,x=.ref l∧y=.ref b∧H l=some (.lst xs)∧H b=some (.lst zs)∧xs.length+zs.length≤sizeLine∧∀ p,H p=none→Q (.ref p) (upd H p (.lst (xs++zs)))
theorem Fq:OpR X (Mp .Add) Jp:=by
 intro pins s σ H x y v u Q I rx ry h
 obtain ⟨l,b,xs,zs,rfl,rfl,hH,hB,hz,q⟩:=h
 cases rx
 cases ry
 obtain ⟨z,its,n,r,hl,e⟩:=I.wk hH
 obtain ⟨z2,its2,n2,r2,hl2,e2⟩:=I.wk hB
 refine PySem.P.add_list e e2 ?_ (by rw [J8,J8];omega)
 have ea:its.toArray++its2.toArray=(its++its2).toArray:=by simp
 rw [ea]
 exact ⟨.ref _,_,I.Je (t':=s.toks) (r.append r2) (by rw [K5];omega),rfl,q _ I.fresh⟩
end
section
variable {prog:Kn} {w:Kq} {A:KD} {E:Value→JU→Prop} {s:JU}
theorem wj {a c n:Nat} (hac:a≤c) (hc:c≤n):Nf (some (a:Int)) (some (c:Int)) none n=((a:Int),(c:Int),1):=by
 simp only [Nf,Qp]
 have h1:¬((a:Int) < 0):=by omega
 have h2:¬((c:Int) < 0):=by omega
 simp only [h1,h2,L3,show (1:Int) > 0 by decide,L7]
 congr 1
 ·omega
 ·congr 1;omega
set_option maxRecDepth 100000 in
theorem Dl {l b sl : Addr} {items new : Array Value} {n n2 : Nat} {vl vu : Value} {a c : Nat} {Q : Unit → JU → Prop}
    (e : s.heap.get? l = some { cls := .type "list", data := .seq items n }) (e2 : s.heap.get? b = some { cls := .type "list", data := .seq new n2 }) (hne : l ≠ b)
    (hs : s.heap.IsSliceOf sl vl vu .none) (pl : Oi vl (some (a : Int))) (pu : Oi vu (some (c : Int))) (hac : a ≤ c) (hc : c ≤ items.size)
    (hsz : items.size + new.size ≤ sizeLine) (h : Q () { s with heap := s.heap.update l (MT fun xs => xs.extract 0 a ++ new ++ xs.extract c xs.size) }) :
    JY (J6 prog w) A (SO (.ref l) (.ref sl) (.ref b)) Q E s := by
  have hl : s.heap.IsList l items := Tv e
  have hb : s.heap.IsList b new := Tv e2
  obtain ⟨os, hos, hcs, hds⟩ := id hs
  have hTs : s.TypeIs (.ref sl) "slice" := ⟨os, hos, hcs⟩
  have hstep : ¬ ((rawPart none == Mw 0) = true) := Kl
  have hsame : Qr (.ref l) (.ref b) = false := by
    unfold Qr
    exact Ms.mpr hne
  have hmax : (max (a : Int) (c : Int)).toNat = c := by omega
  have hz' : ((fun xs : Array Value => xs.extract 0 a ++ new ++ xs.extract c xs.size) items).size ≤ sizeLine + 1 := by
    simp only [S9, Array.size_extract]
    omega
  unfold SO
  try with_reducible refine KG ?_
  first | refine ar (tx ?_) | skip
  refine ar (OG hl.typeIs (by decide) ?_)
  refine ar (KQ (name := K6 "__setitem__") hl.typeIs S_
    (K3 S_ hl.typeIs entry_list_setitem ?_ (args_list_setitem _ _ _)))
  show JY _ _ (Py (.ref sl) >>= _) _ _ s
  refine ar ?_
  unfold Py
  refine ar (QQ hTs slice_no_index ?_)
  simp only [Option.isNone_none, L7]
  refine tx ?_
  show JY _ _ (Sv (.ref sl) >>= _) _ _ s
  refine ar (Lf hTs ?_)
  first
    | rw [J9 (by decide)]
    | refine Pz (by decide) ?_
  rw [listSliceParts_eq]
  refine ar (ar (KR hos hds (x := .none) rfl (ar (Rh .none ?_))))
  rw [J9 hstep]
  refine ar (KR hos hds (x := vl) rfl (ar (Rh pl ?_)))
  refine ar (KR hos hds (x := vu) rfl (ar (Rh pu (tx ?_))))
  first
    | simp only [hsame, K7, L3]
    | refine Pz hsame ?_
    | (dsimp only
       rw [J9 (by rw [hsame]; exact Kl)])
  refine ar (m := Qc (.ref b) "must assign iterable to extended slice") ?_
  unfold Qc
  refine ar (Lf hb.typeIs ?_)
  first
    | refine WL (by decide) ?_
    | rw [J2 (by decide)]
    | simp only [Qs, Bool.true_or, L7]
  unfold VT
  refine ar (LA e2 rfl (tx ?_))
  refine ar (ar (LA e rfl (tx ?_)))
  refine ar (MB ((sliceIndices_raw (some (a : Int)) (some (c : Int)) none items.size (by simp)).trans (LZ (pure : Int × Int × Int → Sem (Int × Int × Int)) (wj hac hc))) ?_)
  show JY _ _ (if ((1 : Int) == 1) = true then _ else _) _ _ s
  rw [J2 (by decide)]
  refine ar (NW ?_)
  first
    | simp only [rg hsz, K7, L3]
    | refine Pz (rg hsz) ?_
  first | refine ar (tx ?_) | skip
  show JY _ _ (updateSeq l (fun xs => xs.extract 0 ((a : Int)).toNat ++ new ++ xs.extract (max (a : Int) (c : Int)).toNat xs.size) >>= _) _ _ s
  rw [hmax, Lc]
  refine ar (wpAny_updateSeq (hz := Lj (NX _ _) hsz) (_hz' := hz') e rfl ?_)
  refine ar (Q0 ?_)
  first
    | exact ar (tx (tx ⟨.none, rfl, tx h⟩))
    | exact tx ⟨.none, rfl, tx h⟩
end
end L2
namespace Att
open PySem PySem.W PySem.Calls PyProof.Rows
theorem oN {P:Params} {h:Heap}:∀ (ns:List Int) (vs:List Value),WellAll P h vs (ns.map WC)→K8 vs ns:=by
 intro ns
 induction ns with
 | nil=>
  intro vs w
  rw [Vv] at w
  cases w
  exact .nil
 | cons n ns ih=>
  intro vs w
  rw [Kx] at w
  cases w with
  | cons a b=>
   cases a
   exact .cons _ _ (ih _ b)
theorem y_ {l:OpenLaw} {n:Nat} (hn:l.most=some n) {P:Params} {h:Heap} {args:List WData} {vals:List Value}
    (hpre:l.row.toRowW.claim.pre args=true) (hwl:WellAll P h vals args) :
    ∃ a vs ns,vals=[Kg a]∧args=[WData.list (ns.map WC)]∧h.get? a=some { cls:=.type "list",data:=.seq vs.toArray }∧K8 vs ns∧ns.length≤n:=by
  have hsh:WShape.hasAll [] args [.list .int]=true:=(pre_splitW hpre).1
  have hc:l.pre.holds [] { args:=args }=true:=(pre_splitW hpre).2
  obtain ⟨d,r,rfl,h1,h2⟩:=hasAllW_cons hsh
  obtain rfl:=hasAllW_nil h2
  obtain ⟨xs,rfl,h3⟩:=hasW_list h1
  obtain ⟨ns,rfl⟩:=items_int h3
  have hlen:ns.length≤n:=by
    unfold OpenLaw.pre at hc
    have h4:(WTm.not (.lt (.lit (.int (n:Int))) (.len (.arg 0)))).holds [] { args:=[.list (ns.map .int)] }=true:=by
      have h4:=(holds_andW hc).1
      rw [hn] at h4
      exact h4
    have h5:=condW_of h4 (w_not (w_lt w_lit (w_len_list (w_arg rfl))))
    rw [J0] at h5
    refine Qt fun q=>?_
    have q':(n:Int) < ((ns.length:Nat):Int):=by omega
    first
      | (rw [JW q'] at h5;exact absurd h5 (by decide))
      | (simp at h5;omega)
  cases hwl with
  | cons w1 w2=>
    cases w2
    cases w1 with
    | list ho hall=>exact ⟨_,_,ns,rfl,rfl,ho,oN ns _ hall,hlen⟩
theorem yn (l:OpenLaw) (args:List WData):l.row.toRowW.claim.post args (.bool true) args=true:=
 postW_of (r:=l.row.toRowW) (X:=(true == true))
  (show V6 [] (.bool true) .bool=true by first | rfl | decide | simp [V6,WShape.arms,WShape.armsAll])
  (show (WTm.eq .res (.lit (.bool true))).value [] { args:=args,res:=some (.bool true),after:=args }=some (.bool (true == true)) from w_eq_bool (w_res rfl) w_lit) rfl
theorem tQ {l:OpenLaw} {n:Nat} {q:Kn} {loose:List Str} {XP:(Str→Option Value)→Heap→Prop} {YP:Kq→Heap→Prop} {d:DefRec}
  (hn:l.most=some n) (hdf:d.params.defaults=[])
  (call:∀ (w:Kq) (s₀ s₁:JU) (mg mb:Str→Option Value) (fa:Addr) (o:Obj) (pm cd doc:Value) (a:Addr) (vs:List Value) (ns:List Int),
   Ground q loose [] XP w s₀ mg mb s₁.heap→YP w s₁.heap →
   s₁.heap.get? fa=some o→o.data=.func (docDef d.name d.params d.body d.scope pm cd doc)→s₁.heap.CodeRec cd d.name→mg d.name=some (.ref fa) →
   s₁.heap.get? a=some { cls:=.type "list",data:=.seq vs.toArray }→K8 vs ns→ns.length≤n→s₁.gens=#[] →
   NM (J6 l.prog w) Qk (.call (.ref fa) ⟨[.ref a],[]⟩) (fun r s'=>r=.ok (.ret (.bool true))∧OldK s₁.heap s'.heap∧s'.os=s₁.os∧Ov s'.gens) s₁) :
  WalkO q loose XP YP l.row.toRowW d [] (fun f vs=>Oy f vs):=by
 intro w s₀ s₁ mg mb G Y fa o pm cd doc dV kV ho hd hcd hD hmg hg args vals as hpre hlay hrd hwl hlo
 obtain rfl:dV=.none:=Dflts.none hD hdf
 obtain rfl:kV=.none:=Dflts.noKw hD
 obtain ⟨a,vs,ns,rfl,rfl,hobj,hints,hlen⟩:=y_ hn hpre hwl
 refine enter_call (Og (call w s₀ s₁ mg mb fa o pm cd doc a vs ns G Y ho (fd_plain hd) hcd hmg hobj hints hlen hg) fun r s' hq=>?_)
 obtain ⟨rfl,h2,h3,h4⟩:=hq
 exact ⟨.inl ⟨.bool true,.bool true,[],rfl,fun _=>rfl,.bool true,yn l _,fun _=>⟨NJ,fun _ hm=>(nomatch hm)⟩⟩,h2,h3,h4⟩
end Att
namespace L2
open PySem PySem.Spec PyProof.Rows
theorem gT:∀ {vs:List Value} {ns:List Int},K8 vs ns→Vals (ns.map V.int) vs
 | _,_,.nil=>.nil
 | _,_,.cons n t h=>.cons ⟨t,rfl⟩ (gT h)
def zY (H:Hp):Prop:=∀ b,H b=none∨∃ o xs,H b=some (.frz o (.lst xs))
theorem zM {P:Kn} {w:Kq} {K:JV} {mg mb:Str→Option Value} {CX:CXT} {k:Nat} {fa a:Addr} {fd:Lk} {x:Str} {sp:Sp} {s₁:JU} {vs:List Value} {ns:List Int}
  (KX:K.In s₁.heap) (hns:s₁.heap.Ns KY mg) (hb:s₁.heap.Ns TR mb) (hbb:∀ x:Str,x≠"__name__"→mb x=Kj x) (hlim:s₁.heap.NoLimit) (hg:s₁.gens=#[])
  (ha:s₁.heap.get? a=some { cls:=.type "list",data:=.seq vs.toArray }) (hi:K8 vs ns) (hl:ns.length≤sizeLine) (hr:cG k Qk)
  (F:∀ base:Heap,K.In base→base.Ns KY mg→eK P w K mg base CX k fa fd [x] sp) (hbind:∀ (s:JU) (u:Value),Qj s fd ⟨[u],[]⟩ [(x,u)])
  (hsp:∀ H:Hp,zY H→SqL K H a (ns.map V.int)→sp [.ref a] H (fun v _=>v=.bl true) fun _ _ _=>False)
  (hCX:∀ H e s',CX [] H s₁ (fun _ _ _=>False) e s'→False) :
  NM (J6 P w) Qk (.call (.ref fa) ⟨[.ref a],[]⟩) (fun r s'=>r=.ok (.ret (.bool true))∧OldK s₁.heap s'.heap∧s'.os=s₁.os∧Ov s'.gens) s₁:=by
 have rv:=gT hi
 have lenV:=hi.length
 have core:∀ H:Hp,zY H→SqL K H a (ns.map V.int)→HOk P w H s₁.heap→(∀ b,H b≠none→b=a)→(H a≠none→K.lookup a=none) →
   NM (J6 P w) Qk (.call (.ref fa) ⟨[.ref a],[]⟩) (fun r s'=>r=.ok (.ret (.bool true))∧OldK s₁.heap s'.heap∧s'.os=s₁.os∧Ov s'.gens) s₁:=by
  intro H hO hS hok hA hK
  have base_of:∀ {b:Addr} {o:Obj},s₁.heap.get? b=some o→H b=none→(kh s₁.heap H).get? b=some o:=fun e n=>zl e n
  have noA:∀ {b:Addr} {o:Obj} {es:Array DictEntry} {ep:Nat},s₁.heap.get? b=some o→o.data=.dict es ep→H b=none:=fun {b o es ep} e d=>by
   cases q:H b with
   | none=>rfl
   | some u=>
    have e':b=a:=hA b (by rw [q];simp)
    subst e'
    rw [ha] at e;cases e
    have d':Vx vs.toArray _=Data.dict es ep:=d
    cases d'
  have nsK:∀ {b:Addr} {m:Str→Option Value},s₁.heap.Ns b m→(kh s₁.heap H).Ns b m:=fun {b m} ⟨o,es,ep,e,d,r⟩=>⟨o,es,ep,base_of e (noA e d),d,r⟩
  have hKb:K.In (kh s₁.heap H):=fun b o e=>base_of (KX b o e) (by
   cases q:H b with
   | none=>rfl
   | some u=>
    have e':b=a:=hA b (by rw [q];simp)
    subst e'
    rw [hK (by rw [q];simp)] at e;cases e)
  have hM:Mod K mg (kh s₁.heap H):=⟨hKb,nsK hns,⟨mb,nsK hb,hbb⟩,let ⟨mc,h1,h2⟩:=hlim;⟨mc,nsK h1,h2⟩⟩
  have e0:ny P w K mg (kh s₁.heap H) Qk [] s₁ H:=⟨rfl,hM,fun b o e=>BY e,Ni (yD _ _),trivial,fun b hb=>absurd (show b∈([]:List Addr) from hb) (by simp),hok,.of_eq hg⟩
  refine Og ((F _ hKb (nsK hns)).run Qk [] s₁ H ⟨[.ref a],[]⟩ [.ref a] [.ref a] _ _ hr e0 (hbind s₁ (.ref a)) (.cons rfl .nil) (hsp H hO hS)) fun r s' h=>?_
  cases r with
  | error e=>exact (hCX H e s' h).elim
  | ok fl=>
   cases fl with
   | next=>exact LB h
   | brk=>exact LB h
   | cont=>exact LB h
   | ret u=>
    obtain ⟨v,H',os,bare,un,hok',r',q⟩:=h
    have q':v=.bl true:=q
    subst q'
    obtain rfl:u=Np true:=r'
    refine ⟨rfl,OldK.of_keep fun b o e=>?_,os,bare⟩
    cases q:H b with
    | none=>exact un.keep b o e q (by intro z;exact absurd (show b∈([]:List Addr) from z) (by simp)) (by simp)
    | some u=>
     rcases hO b with z | ⟨ob,xs,z⟩
     ·rw [q] at z;cases z
     ·have z2:=un.frzs b ob _ z
      obtain ⟨e1,_⟩:=hok b _ z
      obtain ⟨e2,_⟩:=hok' b _ z2
      rw [e] at e1;cases e1
      exact e2
 cases hk:K.lookup a with
 | some o=>
  have e:=KX a o hk
  rw [ha] at e
  cases e
  refine core (fun _=>none) (fun _=>.inl rfl) (.inr ⟨_,vs.toArray,_,hk,rfl,rfl,rfl,by rw [J8,lenV];exact hl,by simpa using rv⟩) (fun b u z=>by have z':(none:Option HO)=some u:=z;cases z') (fun b z=>absurd rfl z) fun z=>absurd rfl z
 | none=>
  refine core (fun b=>if b=a then some (.frz { cls:=.type "list",data:=.seq vs.toArray } (.lst (ns.map V.int))) else none) (fun b=>?_) (.inl (.inr ⟨{ cls:=.type "list",data:=.seq vs.toArray },J2 rfl⟩)) (fun b u z=>?_) (fun b z=>?_) fun _=>hk
  ·by_cases hb:b=a
   ·exact .inr ⟨_,_,J2 hb⟩
   ·exact .inl (J9 hb)
  ·by_cases hb:b=a
   ·have z':=(J2 hb).symm.trans z
    cases z'
    subst hb
    exact ⟨ha,by rw [J0];exact hl,vs,_,rv,ha⟩
   ·have z':=(J9 hb).symm.trans z
    cases z'
  ·by_cases hb:b=a
   ·exact hb
   ·exact absurd (J9 hb) z
theorem Dg {l:QR} {n k:Nat} {q:Kn} {loose:List Str} {XP:(Str→Option Value)→Heap→Prop} {YP:Kq→Heap→Prop} {d:DefRec} {K:Params→JV} {CX:Kq→CXT} {sp:Kq→Sp} {x:Str}
  (hn:l.most=some n) (hn2:n≤sizeLine) (hdf:d.params.defaults=[]) (hr:cG k Qk)
  (hY:∀ (w:Kq) (h:Heap),YP w h→(K w.params).In h)
  (F:∀ (w:Kq) (mg:Str→Option Value) (fa:Addr) (h:Heap),(K w.params).In h→h.Ns KY mg→mg d.name=some (.ref fa) →
   ∃ fd:Lk,(∀ (s:JU) (u:Value),Qj s fd ⟨[u],[]⟩ [(x,u)]) ∧
    ∀ base:Heap,(K w.params).In base→base.Ns KY mg→eK l.prog w (K w.params) mg base (CX w) k fa fd [x] (sp w))
  (hsp:∀ (w:Kq) (H:Hp) (a:Addr) (ns:List Int),ns.length≤n→zY H→SqL (K w.params) H a (ns.map V.int)→sp w [.ref a] H (fun v _=>v=.bl true) fun _ _ _=>False)
  (hCX:∀ (w:Kq) (H:Hp) (s:JU) (e:Value) (s':JU),CX w [] H s (fun _ _ _=>False) e s'→False) :
  US q loose XP YP l.row.toRowW d [] (fun f vs=>Oy f vs):=by
 refine Att.tQ hn hdf fun w s₀ s₁ mg mb fa o pm cd doc a vs ns G Y ho hd hcd hmg hobj hints hlen hg=>?_
 have KX:=hY w _ Y
 obtain ⟨fd,hb,hF⟩:=F w mg fa _ KX G.T.g hmg
 exact zM KX G.T.g G.T.b G.T.builtins G.T.nolimit hg hobj hints (Lj hlen hn2) hr hF hb (fun H hO hS=>hsp w H a ns hlen hO hS) fun H e s'=>hCX w H s₁ e s'
def fL (s:Stmt):Arguments:=match s with
 | .FunctionDef _ a _ _ _ _ _ _ _ _=>a
 | _=>{ posonlyargs:=[],args:=[],vararg:=none,kwonlyargs:=[],kw_defaults:=[],kwarg:=none,defaults:=[] }
def cR (s:Stmt):List Stmt:=match s with
 | .FunctionDef _ _ b _ _ _ _ _ _ _=>b
 | _=>[]
def bj (s:Stmt):Scope:=match s with
 | .FunctionDef _ _ _ _ _ _ sc _ _ _=>sc
 | _=>{ kind:=.function,names:=[],isGenerator:=false,isCoroutine:=false }
abbrev CX0:CXT:=fun _ _ _ _ _ _=>False
abbrev E0:XK:=fun _ _ _=>False
theorem Iv {X:Cx}:Passes CX0 X E0:=fun _ _ _ _ _ _ _ h=>h.elim
structure Fun (K:JV) (x qual:Str) (st:Stmt) (f:Addr) (fd:Lk):Prop where
 ex:∃ (oc:Value) (od:Option Addr) (kV doc pm:Value) (an:Option Addr) (cdv ct:Value) (osl:Array (Option Value)),
  fd=MD x qual (fL st) (cR st) (bj st) .none kV doc pm an cdv ct∧K.lookup f=some ⟨oc,od,.func fd,osl⟩∧Pl K cdv qual=true
 kp:MM K (.ref f)=true
section
variable {P:Kn} {w:Kq} {K:JV} {mg:Str→Option Value} {base:Heap}
theorem Fun.ok {x qual:Str} {st:Stmt} {f:Addr} {fd:Lk} {N ps:List Str} {k:Nat} {sp:Sp} (F:Fun K x qual st f fd) (S:fN N ps (bj st)) (len:∀ vs H Q E,sp vs H Q E→vs.length=ps.length)
  (hbody:∀ (cdv:Value) (A:KD) (outer:List Env) (s:JU) (H:Hp) (vs:List V) (Q:VK) (E:XK),cG k (A.deeper (Mj qual (bj st) s.heap.objs.size f cdv))→sp vs H Q E →
   ∃ t,PSs (fG CX0 P w K mg base N qual (bj st) f cdv A outer s H E).nox (cR st) t∧t { nx:=fun _ H'=>Q .non H',rt:=Q } (start N vs) H):eK P w K mg base CX0 (k+1) f fd ps sp:=by
 obtain ⟨oc,od,kV,doc,pm,an,cdv,ct,osl,rfl,lk,hcd⟩:=F.ex
 refine u7 lk hcd S len fun A outer s H vs Q E hr hsp=>?_
 obtain ⟨t,h,q⟩:=hbody cdv A outer s H vs Q E hr hsp
 exact ⟨t,h.nox,q⟩
theorem xP {x qual:Str} {st:Stmt} {f:Addr} {oc:Value} {od an:Option Addr} {osl:Array (Option Value)} {kV doc pm cdv ct:Value} (l:K.lookup f=some ⟨oc,od,.func (MD x qual (fL st) (cR st) (bj st) .none kV doc pm an cdv ct),osl⟩)
  (c:Pl K cdv qual=true) (k:MM K (.ref f)=true):Fun K x qual st f (MD x qual (fL st) (cR st) (bj st) .none kV doc pm an cdv ct):=⟨⟨oc,od,kV,doc,pm,an,cdv,ct,osl,rfl,l,c⟩,k⟩
end
theorem du {n:Nat} (h:n≤1000):n < sizeLine:=Nat.lt_of_le_of_lt h (by decide)
section
variable {X:Cx}
theorem pv (i:Nat) {x:Str} {pos:Pos} (hN:X.N[i]?=some x:=by rfl) (hv:Vis X.env.scope x:=by first | exact Qu rfl | exact Qv (Qu rfl) | exact Qv (Qv rfl)) (hd:(x == ("__debug__":Str))=false:=by decide)
  (hcd:(x == ("__classdict__":Str))=false:=by decide):PE X (.Name x pos) (pq i):=wV hN hv hd hcd
end
def eA (H H':Hp):Prop:=∀ b o,H b=some o→H' b=some o
def iK (env:Env):List (Str×Ng)→List (Str×Addr)→List (Str×Addr)
 | [],acc=>acc
 | (n,k) :: r,acc=>iK env r (if k == .free then (n,(env.cells.lookup n).getD 0) :: acc else acc)
theorem ox (h:∀ y∈scope.names,y.2=.free→∃ c,env.cells.lookup y.1=some c):closureFor scope env=pure (iK env scope.names []):=by
 have all:∀ (l:List (Str×Ng)) (acc:List (Str×Addr)),(∀ y∈l,y.2=.free→∃ c,env.cells.lookup y.1=some c) →
   (forIn l acc fun (x:Str×Ng) (r:List (Str×Addr))=>match x with
    | (name,kind)=>if (kind == LL)=true then (do let a ← cellOf env name;pure (Nr ((name,a) :: r))) else pure (Nr r):Sem (List (Str×Addr)))=pure (iK env l acc):=by
  intro l
  induction l with
  | nil=>intro acc _;rfl
  | cons y r ih=>
   intro acc hl
   obtain ⟨n,k⟩:=y
   have hr:∀ y∈r,y.2=.free→∃ c,env.cells.lookup y.1=some c:=fun y hy=>hl y (Kk _ hy)
   rw [QS]
   by_cases hk:k=.free
   ·subst hk
    obtain ⟨c,hc⟩:=hl _ Ks rfl
    have e:cellOf env n=pure c:=by unfold cellOf;rw [show env.cells.lookup n=some c from hc]
    simp only [Qs,L7,e,pure_bind]
    rw [ih _ hr]
    simp only [iK,Qs,L7,show env.cells.lookup n=some c from hc,Option.getD_some]
   ·have hb:(k == LL)=false:=by simpa using hk
    simp only [hb,K7,L3,pure_bind]
    rw [ih _ hr]
    simp only [iK,hb,K7,L3]
 have q:=all scope.names [] h
 unfold closureFor
 simp only [bind_pure] at q ⊢
 exact q
theorem rX:∀ {l:List (Str×Ng)} {acc:List (Str×Addr)} {x:Str} {c:Addr},(∀ y∈l,y.2=.free→∃ c,env.cells.lookup y.1=some c) →
  (∀ x c,(x,c)∈acc→env.cells.lookup x=some c)→(x,c)∈iK env l acc→env.cells.lookup x=some c
 | [],_,_,_,_,ha,h=>ha _ _ h
 | (n,k) :: r,acc,x,c,hl,ha,h=>by
  refine rX (l:=r) (fun y hy=>hl y (Kk _ hy)) (fun x c hm=>?_) h
  by_cases hk:(k == LL)=true
  ·rw [J2 hk] at hm
   rcases J1.mp hm with e | e
   ·cases e
    obtain ⟨c',hc⟩:=hl _ Ks (by simpa using hk)
    have hc':env.cells.lookup n=some c':=hc
    rw [hc'];rfl
   ·exact ha _ _ e
  ·rw [J9 hk] at hm;exact ha _ _ hm
theorem eE (hl:∀ y∈l,y.2=.free→∃ c,env.cells.lookup y.1=some c) (h:(iK env l []).lookup x=some c):env.cells.lookup x=some c:=
 rX hl (fun _ _ z=>absurd z (by simp)) (Lu h)
theorem nv:∀ {l:List (Str×Ng)} {acc:List (Str×Addr)} {x:Str},((x,LL)∈l∨∃ c,(x,c)∈acc)→∃ c,(x,c)∈iK env l acc
 | [],_,_,h=>h.elim (fun z=>absurd z (by simp)) fun z=>z
 | (n,k) :: r,acc,x,h=>by
  refine nv (l:=r) ?_
  rcases h with h | ⟨c,h⟩
  ·rcases J1.mp h with e | e
   ·cases e
    exact .inr ⟨_,by rw [J2 (by simp)];exact Ks⟩
   ·exact .inl e
  ·by_cases hk:(k == LL)=true
   ·exact .inr ⟨c,by rw [J2 hk];exact Kk _ h⟩
   ·exact .inr ⟨c,by rw [J9 hk];exact h⟩
theorem fh:∀ {l:List (Str×β)} {x:Str} {c:β},(x,c)∈l→∃ c',l.lookup x=some c'
 | [],_,_,h=>nomatch h
 | (n,d) :: r,x,c,h=>by
  rw [K4]
  cases e:x == n with
  | true=>exact ⟨d,rfl⟩
  | false=>
   rcases J1.mp h with q | q
   ·cases q;simp at e
   ·exact fh q
def dE (X:Cx) (scope:Scope) (N:List Str) (C:Addr) (s:JU) (H:Hp) (fp:List Addr):Cx:=
 { X with N:=N,s₀:=s,H₀:=H,env:=compEnvC scope (iK X.env scope.names []) C X.env,outer:=X.stack,ex:=fp,fn:=fun _=>false,pn:=[],xe:=fun _ _=>False }
structure iB (esc scope:Scope) (EN N:List Str) (k:Nat):Prop where
 kind:scope.kind=.function
 nocell:∀ y∈scope.names,y.2≠.cell
 names:∀ y∈scope.names,y.2=.local→scope.names.lookup y.1=some .local
 frees:∀ y∈scope.names,y.2=.free→esc.names.lookup y.1=some .cell∨esc.names.lookup y.1=some .free
 len:N.length=k+EN.length
 nm:(((N.drop k).zip EN).all fun p=>(decide (p.1=p.2) && decide (scope.names.lookup p.1=some .free)) || decide (scope.names.lookup p.1=none))=true
theorem c7 {scope:Scope} {env:Env} {x:Str} {k:Ng}:∀ {l:List (Str×Ng)},
  (l.map fun (n,k)=>if (k == LL && env.scope.kind == .function && env.kindOf n == some .cell) then (n,PR) else (n,k)).lookup x=some k →
  l.lookup x=some k∨(l.lookup x=some .free∧k=.cell∧env.kindOf x=some .cell)
 | [],h=>by simp at h
 | (n,k') :: r,h=>by
  have ih:=@c7 scope env x k r
  cases hx:x == n with
  | true=>
   have e:x=n:=by simpa using hx
   subst e
   by_cases hc:(k' == LL && env.scope.kind == .function && env.kindOf x == some .cell)=true
   ·simp only [Kx,J2 hc,K4,hx] at h
    cases h
    have hc2:(k'=.free∧env.scope.kind=.function)∧env.kindOf x=some .cell:=by simpa using hc
    exact .inr ⟨by simp [K4,hc2.1.1],rfl,hc2.2⟩
   ·simp only [Kx,J9 hc,K4,hx] at h
    exact .inl (by simpa [K4] using h)
  | false=>
   have h':(r.map fun (n,k)=>if (k == LL && env.scope.kind == .function && env.kindOf n == some .cell) then (n,PR) else (n,k)).lookup x=some k:=by
    by_cases hc:(k' == LL && env.scope.kind == .function && env.kindOf n == some .cell)=true
    ·simpa only [Kx,J2 hc,K4,hx] using h
    ·simpa only [Kx,J9 hc,K4,hx] using h
   rw [K4,hx]
   exact ih h'
theorem kX {scope:Scope} {env:Env} {x:Str}:∀ {l:List (Str×Ng)},l.lookup x=some .free →
  (l.map fun (n,k)=>if (k == LL && env.scope.kind == .function && env.kindOf n == some .cell) then (n,PR) else (n,k)).lookup x=some .cell ∨
  (l.map fun (n,k)=>if (k == LL && env.scope.kind == .function && env.kindOf n == some .cell) then (n,PR) else (n,k)).lookup x=some .free
 | [],h=>by simp at h
 | (n,k') :: r,h=>by
  have ih:=@kX scope env x r
  cases hx:x == n with
  | true=>
   by_cases hc:(k' == LL && env.scope.kind == .function && env.kindOf n == some .cell)=true
   ·exact .inl (by simp only [Kx,J2 hc,K4,hx])
   ·refine .inr ?_
    simp only [Kx,J9 hc,K4,hx]
    simpa only [K4,hx] using h
  | false=>
   have h':r.lookup x=some .free:=by simpa only [K4,hx] using h
   by_cases hc:(k' == LL && env.scope.kind == .function && env.kindOf n == some .cell)=true
   ·simpa only [Kx,J2 hc,K4,hx] using ih h'
   ·simpa only [Kx,J9 hc,K4,hx] using ih h'
section
variable {X:Cx} {pins:List (Addr×Obj)} {σ:St} {H:Hp} {s:JU} {scope:Scope} {N:List Str} {k:Nat} {fp:List Addr}
theorem iB.cells (S:iB X.env.scope scope X.N N k) (ok:X.Ok):∀ y∈scope.names,y.2=.free→∃ c,X.env.cells.lookup y.1=some c:=fun y hy hf=>ok.has y.1 (S.frees y hy hf)
theorem Inv.CG {h4:Heap} (I:Inv X pins σ H s) (S:iB X.env.scope scope X.N N k) (hf:∀ b∈fp,gA X pins H b) (hlt:∀ b∈fp,b < s.heap.objs.size) (hn:h4.Ns s.heap.objs.size fun _=>none) (hk:∀ b o,s.heap.get? b=some o→h4.get? b=some o) :
  Inv (dE X scope N s.heap.objs.size s H fp) [] (Kb k none++σ) H { s with heap:=h4,toks:=tk }:=by
 have hcells:=S.cells I.ok
 have noA:∀ p:Addr×Obj,p∈(dE X scope N s.heap.objs.size s H fp).pn++[]→False:=fun p hp=>absurd (show p∈([]:List (Addr×Obj)) from hp) (by simp)
 refine ⟨⟨I.ok.mod,S.kind,I.ok.glob,I.ok.blt,J3 _,fun y z c h1 h2=>?_,fun y hy=>?_,fun y c h=>?_,I.ok.hd,I.ok.frames,.inl rfl,fun b hb=>?_,I.bs,Lj I.ok.bsz I.sz,fun b o e hb=>?_,fun b hb hz=>?_,I.stack,I.pF⟩,
  rfl,I.bare,Un.kept hk,⟨_,hn,fun i y v h1 h2 h3=>?_⟩,fun y c h=>?_,I.hok.fresh (J3 _),fun y c h=>?_,fun p hp=>(noA p hp).elim,I.hok.kept hk,?_⟩
 ·exact I.ok.inj y z c (eE hcells h1) (eE hcells h2)
 ·have hy:(Rj scope X.env).names.lookup y=some .cell∨(Rj scope X.env).names.lookup y=some .free:=hy
  have hfree:scope.names.lookup y=some .free:=by
   rcases hy with q | q
   ·rcases c7 (scope:=scope) q with q | ⟨q,_⟩
    ·exact absurd rfl (S.nocell _ (Lu q))
    ·exact q
   ·rcases c7 (scope:=scope) q with q | ⟨q,z,_⟩
    ·exact q
    ·cases z
  obtain ⟨c,hc⟩:=nv (env:=X.env) (l:=scope.names) (acc:=[]) (.inl (Lu hfree))
  exact fh hc
 ·exact absurd h (by show ¬(false=true);decide)
 ·obtain ⟨f0,f1,f2,f3,f4,f5⟩:=hf b hb
  exact ⟨Kf (hlt b hb),fun x c h=>f4 x c (eE hcells h)⟩
 ·obtain ⟨f0,f1,f2,f3,f4,f5⟩:=hf b hb
  rcases f3 with q | q
  ·exact I.ok.noex b o e q
  ·exact absurd (Kt (J4 (I.ok.bs b o e).1) q) (LK _)
 ·obtain ⟨f0,f1,f2,f3,f4,f5⟩:=hf b hb
  rcases J1.mp (I.jQ b hz) with z | z
  ·exact f1 z
  ·exact f2 z
 ·
  have hi:k≤i:=by
   refine Qt fun q=>?_
   rw [Ky (by simpa using q),LW] at h2
   split at h2<;>cases h2
  obtain ⟨j,rfl⟩:=Nat.exists_eq_add_of_le hi
  have h2':σ[j]?=some (some v):=by
   rw [KH (by simp)] at h2
   simpa using h2
  have hy:(Rj scope X.env).names.lookup y=some .local∨(Rj scope X.env).names.lookup y=some .cell∨(Rj scope X.env).names.lookup y=some .free:=h3
  have hjn:j < X.N.length:=by
   have:=(J5.mp h2').1
   rw [I.len] at this
   exact this
  have hyn:N[k+j]?=some y:=h1
  have hnm:=Mv.mp S.nm (y,X.N[j]) (by
   refine MY.mpr ⟨j,?_⟩
   rw [List.getElem?_zip_eq_some]
   exact ⟨by rw [PB];exact hyn,by simp [hjn]⟩)
  have hvis:scope.names.lookup y≠none:=by
   rcases hy with q | q | q
   ·rcases c7 (scope:=scope) q with q | ⟨q,_⟩<;>rw [q]<;>simp
   ·rcases c7 (scope:=scope) q with q | ⟨q,_⟩<;>rw [q]<;>simp
   ·rcases c7 (scope:=scope) q with q | ⟨q,_⟩<;>rw [q]<;>simp
  have hnm2:y=X.N[j]∧scope.names.lookup y=some .free:=by
   rcases (LC _ _).mp hnm with q | q
   ·exact ⟨Li ((Ko _ _).mp q).1,Li ((Ko _ _).mp q).2⟩
   ·exact absurd (Li q) hvis
  obtain ⟨hyj,hfree⟩:=hnm2
  have hk2:=S.frees _ (Lu hfree) rfl
  have hvis2:Vis X.env.scope y:=.inr hk2
  obtain ⟨m,hm,hl⟩:=I.loc
  obtain ⟨u,ru,lk⟩:=hl j y v (by rw [hyj];simp [hjn]) h2' hvis2
  refine ⟨u,ru,?_⟩
  rcases lk with ⟨q,_⟩ | ⟨_,c,hc,hcell⟩
  ·rcases hk2 with z | z
   ·exact absurd (q.symm.trans (show X.env.kindOf y=some .cell from z)) (by simp)
   ·exact absurd (q.symm.trans (show X.env.kindOf y=some .free from z)) (by simp)
  ·refine .inr ⟨kX (scope:=scope) hfree,c,?_,hcell.keeps hk⟩
   obtain ⟨c',hc'⟩:=nv (env:=X.env) (l:=scope.names) (acc:=[]) (.inl (Lu hfree))
   obtain ⟨c2,hc2⟩:=fh hc'
   have q:=eE hcells hc2
   rw [hc] at q;cases q
   exact hc2
 ·obtain ⟨v,q⟩:=I.cell y c (eE hcells h)
  exact ⟨v,q.keeps hk⟩
 ·exact I.freeC y c (eE hcells h)
 ·show (Kb k none++σ).length=N.length
  rw [K5,LO,S.len,I.len]
end
section
variable {prog:Kn} {w:Kq} {A:KD} {R:Rg→JU→Prop} {s:JU}
theorem iH {R:Value→JU→Prop}:∀ (x:Value) (s':JU),False→notedBy (J6 prog w) A env R x s':=fun _ _ h=>h.elim
theorem sM (I:Nat→JU→Prop)
  (turn:∀ n s,I n s→JY (J6 prog w) A (Nq it) (fun r s₁=>match r with
   | none=>R (.ok .next) s₁
   | some v=>JY (J6 prog w) A (O6 target it v) (fun _ s₁'=>JY (J6 prog w) A (Qm target env v) (fun _ s₂=>
     JY (J6 prog w) A (forIn ifs true fun c r=>if r=true then do let ok ← Sg c env (KC c env);pure (Nr ok) else pure (Nr r)) (fun ok s₃=>
      if ok=true then JY (J6 prog w) A (KC elt env) (fun x s₄=>
       JY (J6 prog w) A (call (.builtin "list.append") [acc,x]) (fun _ s₅=>∃ m,m < n∧I m s₅) (fun _ _=>False) s₄) (fun _ _=>False) s₃
      else ∃ m,m < n∧I m s₃) (fun _ _=>False) s₂) (fun _ _=>False) s₁') (fun _ _=>False) s₁) (fun _ _=>False) s)
  (n:Nat) (h:I n s) :
  NM (J6 prog w) A (.compLoop (.ListComp elt [⟨target,iter,ifs,0⟩] scope pos) 0 it acc env) R s:=by
 refine codeAny_loop rfl I (fun n s hI=>?_) n h
 show JY _ A ((compTurn (.ListComp elt [⟨target,iter,ifs,0⟩] scope pos) 0 it acc env).onRaise (fun x=>do Oj x env;theTreesLotGoes x)) _ _ s
 refine wpAny_noted ?_
 rw [compTurn_list]
 refine ar (PQ (ar (Me (turn n s hI) (fun r s₁ h₁=>?_) iH)))
 cases r with
 | none=>exact tx h₁
 | some v=>
  refine ar (Me h₁ (fun _ s₁' h₁'=>?_) iH)
  refine ar (Me h₁' (fun _ s₂ h₂=>ar (Me h₂ (fun ok s₃ h₃=>?_) iH)) iH)
  cases ok with
  | false=>exact tx ⟨rfl,h₃⟩
  | true=>
   exact ar (ar (Me h₃ (fun x s₄ h₄=>ar (Me h₄ (fun _ s₅ h₅=>tx (tx ⟨rfl,h₅⟩)) iH)) iH))
end
def PTs (X:Cx) (ifs:List Ke) (t:TT):Prop:=
 ∀ (pins:List (Addr×Obj)) (s:JU) (σ:St) (H:Hp) (Q:Bool→Hp→Prop),Inv X pins σ H s→t σ H Q →
  JY (J6 X.prog X.w) X.A (forIn ifs true fun c r=>if r=true then do let ok ← Sg c X.env (KC c X.env);pure (Nr ok) else pure (Nr r)) (TP X pins σ Q) X.xe s
def JN:TT:=fun _ H Q=>Q true H
theorem Cc:PTs X [] JN:=fun _ _ _ H _ I h=>wpAny_tests_nil ⟨H,I,h⟩
theorem Cp (h:PT X c t):PTs X [c] t:=fun pins s σ H Q I q=>wpAny_tests_one (h pins s σ H Q I q)
def LCW (J:It) (g:TG) (tt:TT) (te:TE) (k:Nat) (D:Addr) (σ:St) (H1:Hp) (Q:Hp→Prop):Prop:=
 ∃ W:Nat→Nat→St→Hp→Prop,(∃ m,W 0 m (Kb k none++σ) (upd H1 D (.lst [])))∧∀ i m σ' H',W i m σ' H' →
  (J.stop i H'∧Q H')∨(J.go i H'∧∃ N:St→Hp→Prop,(∀ σ2 H2,N σ2 H2→∃ m',m' < m∧W (i+1) m' σ2 H2) ∧
   ∀ x H2,J.yld i H' x H2→g x σ' H2 fun σ3 H3=>tt σ3 H3 fun b H4=>if b=true then te σ3 H4 fun v H5=>∃ xs,H5 D=some (.lst xs)∧xs.length < sizeLine∧N σ3 (upd H5 D (.lst (xs++[v]))) else N σ3 H4)
def tLC (wi:TI) (g:TG) (tt:TT) (te:TE) (k:Nat):TE:=fun σ H Q=>wi σ H fun J H1=>∀ D,H1 D=none→LCW J g tt te k D σ H1 fun H2=>Q (.ref D) H2
section
variable {X:Cx} {tg elt iter:Ke} {ifs:List Ke} {scope:Scope} {pos:Pos} {wi:TI} {g:TG} {tt:TT} {te:TE} {N:List Str} {k:Nat}
theorem Ab {pins:List (Addr×Obj)} {σ:St} {H2:Hp} {s2:JU} {it:Addr} {fp:List Addr} {tn:Nat→Heap→Prop} {J:It} {E:Value→JU→Prop} {QD:Addr→Hp→Prop} {RR:Value→Addr→Rg→JU→Prop}
  (hc:X.calm=true) (S:iB X.env.scope scope X.N N k) (hg:∀ C s H fp,PG (dE X scope N C s H fp) tg g) (ht:∀ C s H fp,PTs (dE X scope N C s H fp) ifs tt) (he:∀ C s H fp,PE (dE X scope N C s H fp) elt te)
  (I2:Inv X pins σ H2 s2) (T:Turn X.prog X.w X.K tg J fp it tn) (st2:tn 0 s2.heap) (f2:∀ b∈fp,gA X pins H2 b) (q:∀ D,H2 D=none→LCW J g tt te k D σ H2 (QD D))
  (hRR:∀ (D C:Addr) (s':JU) (H':Hp) (m:Str→Option Value),s2.heap.objs.size < C→Inv X pins σ H' s'→s'.heap.Ns C m→H' C=none→C≠X.env.locals→C∉X.fs→X.s₀.heap.objs.size≤C→(∀ x c,X.env.cells.lookup x=some c→c≠C)→(∀ p∈X.pn++pins,p.1≠C)→QD D H'→RR (.ref D) C (.ok .next) s') :
  JY (J6 X.prog X.w) X.A (newList []) (fun acc s₃=>JY (J6 X.prog X.w) X.A (newFunctionEnv scope X.env.globals (iK X.env scope.names []) [] X.env.qual none .none (some X.env)) (fun cenv s₄=>
   NM (J6 X.prog X.w) X.A (.compStart (.ListComp elt [⟨tg,iter,ifs,0⟩] scope pos) 0 (.ref it) acc { cenv with scope:=Rj scope X.env }) (RR acc cenv.locals) s₄) E s₃) E s2:=by
 have hD:H2 s2.heap.objs.size=none:=I2.hok.fresh (J3 _)
 obtain ⟨W,⟨m0,w0⟩,turn⟩:=q _ hD
 refine KN ?_
 have I3:Inv X pins σ (upd H2 s2.heap.objs.size (.lst [])) { s2 with heap:=s2.heap.push { cls:=.type "list",dict:=none,data:=.seq ([]:List Value).toArray } }:=by
  refine I2.laid (t':=s2.toks) (fun b u e=>C0 _ e) (J3 _) ?_
  exact ⟨L9 _,[],0,.nil,Kc _ rfl⟩
 have k3:∀ b o,s2.heap.get? b=some o→(s2.heap.push { cls:=.type "list",dict:=none,data:=.seq ([]:List Value).toArray }).get? b=some o:=fun b o e=>C0 _ e
 generalize hs3:({ s2 with heap:=s2.heap.push { cls:=.type "list",dict:=none,data:=.seq ([]:List Value).toArray } }:JU)=s3 at I3 ⊢
 have hsz:s3.heap.objs.size=s2.heap.objs.size+1:=by rw [← hs3];exact MO ..
 have k3':∀ b o,s2.heap.get? b=some o→s3.heap.get? b=some o:=by rw [← hs3];exact k3
 generalize hDe:s2.heap.objs.size=D at *
 have fpD:∀ b∈fp,b < D:=fun b hb=>by
  obtain ⟨o,e,_⟩:=T.obj _ _ st2 b hb
  rw [← hDe];exact J4 e
 have f3:∀ b∈fp,gA X pins (upd H2 D (.lst [])) b:=fun b hb=>by
  refine ⟨?_,(f2 b hb).2⟩
  rw [aS (Kf (fpD b hb))]
  exact (f2 b hb).1
 refine wpAny_newFunctionEnv S.nocell (by intro y hy;simp at hy) (fun h4 hn4 hs4=>?_) S.kind
 try dsimp only at hn4 hs4 ⊢
 have k4:∀ b o,s3.heap.get? b=some o→h4.get? b=some o:=fun b o e=>hs4.extBut b o (Kf (J4 e)) (C0 _ e)
 have I4:=I3.CG (h4:=h4) (tk:=s3.toks+0) S f3 (fun b hb=>by rw [hsz];exact OI (fpD b hb)) hn4 k4
 have st4:tn 0 h4:=T.keep _ _ _ st2 fun b hb o e=>k4 b o (k3' b o e)
 have fr4:∀ b∈fp,(upd H2 D (.lst [])) b=none:=fun b hb=>(f3 b hb).1
 generalize hC:s3.heap.objs.size=C at *
 have hX:∀ (H':Hp),(∀ b∈fp,H' b=none)→∀ b∈fp,gA (dE X scope N C s3 (upd H2 D (.lst [])) fp) [] H' b:=fun H' hn b hb=>by
  obtain ⟨g0,g1,g2,g3,g4,g5⟩:=f3 b hb
  refine ⟨hn b hb,?_,?_,.inl hb,?_,fun p hp=>absurd (show p∈([]:List (Addr×Obj)) from hp) (by simp)⟩
  ·exact Kf (Sw (OI (fpD b hb)) hsz.symm)
  ·intro z
   rcases J1.mp (I3.jQ b z) with z | z
   ·exact g1 z
   ·exact g2 z
  ·intro x c h
   exact g4 x c (eE (S.cells I3.ok) h)
 have fin:∀ (s':JU) (σ':St) (H':Hp),Inv (dE X scope N C s3 (upd H2 D (.lst [])) fp) [] σ' H' s'→QD D H'→RR (.ref D) C (.ok .next) s':=by
  intro s' σ' H' I' qd
  obtain ⟨m,hm,_⟩:=id I'.loc
  have IX:Inv X pins σ H' s':=by
   refine I3.A1 (s':=s') (ch:=fp) I'.os I'.base I'.hok I'.bare fun b hb=>?_
   obtain ⟨g0,g1,g2,g3,g4,g5⟩:=f3 b hb
   exact ⟨g3,g1,g4,g5⟩
  have hlt:=I3.lt
  rw [hC] at hlt
  refine hRR D C s' H' m (Sw (Tw D) hsz.symm) IX hm I'.free (MC hlt) (I3.D5 (Ni hC)) (Lj I3.sz (Ni hC)) (fun x c e z=>?_) (fun p hp z=>?_) qd
  ·obtain ⟨v,hv⟩:=I3.cell x c e
   have q:=hv.lt
   rw [hC,z] at q
   exact LK _ q
  ·have q:=J4 (I3.pin p hp).1
   rw [hC,z] at q
   exact LK _ q
 have loop:∀ s₀:JU,s₀={ s3 with heap:=h4,toks:=s3.toks+([]:List (Str×Value)).length } →
   NM (J6 X.prog X.w) X.A (.compLoop (.ListComp elt [⟨tg,iter,ifs,0⟩] scope pos) 0 (.ref it) (.ref D) (compEnvC scope (iK X.env scope.names []) C X.env)) (RR (.ref D) C) s₀:=by
  rintro s₀ rfl
  refine sM (fun n s'=>∃ i σ' H',Inv (dE X scope N C s3 (upd H2 D (.lst [])) fp) [] σ' H' s'∧tn i s'.heap∧(∀ b∈fp,H' b=none)∧W i n σ' H') ?_ m0 ⟨0,_,_,I4,st4,fr4,w0⟩
  rintro n s5 ⟨i,σ5,H5,I5,st5,fr5,w5⟩
  rcases turn i n σ5 H5 w5 with ⟨stop,qn⟩ | ⟨go,NN,hN,step⟩
  ·refine thn (T.done (dE X scope N C s3 (upd H2 D (.lst [])) fp) rfl rfl rfl hc i [] s5 σ5 H5 _ I5 (hX _ fr5) st5 stop) fun r s6 ⟨hr,I6⟩=>?_
   subst hr
   exact fin s6 σ5 H5 I6 qn
  ·refine thn (T.item (dE X scope N C s3 (upd H2 D (.lst [])) fp) rfl rfl rfl hc i [] s5 σ5 H5 _ I5 (hX _ fr5) st5 go) fun r s6 ⟨u,hr,h6⟩=>?_
   subst hr
   refine thn h6 fun _ s7 ⟨x,H7,I7,r7,y7,st7,fr7⟩=>?_
   have I7':=I7.pinned (hX _ fr7) (T.obj _ _ st7)
   have back:∀ {s9:JU} {σ9:St} {H9:Hp},Inv (dE X scope N C s3 (upd H2 D (.lst [])) fp) ([]++k9 fp s7.heap) σ9 H9 s9→NN σ9 H9→∃ m,m < n∧∃ i σ' H',Inv (dE X scope N C s3 (upd H2 D (.lst [])) fp) [] σ' H' s9∧tn i s9.heap∧(∀ b∈fp,H' b=none)∧W i m σ' H':=fun {s9 σ9 H9} I9 n9=>by
    obtain ⟨m',hm,w9⟩:=hN σ9 H9 n9
    refine ⟨m',hm,i+1,σ9,H9,I9.kq,T.keep _ _ _ st7 fun b hb o e=>(I9.pin (b,o) (KJ _ (KJ _ (ij hb e)))).1,fun b hb=>?_,w9⟩
    obtain ⟨o,e,d⟩:=T.obj _ _ st7 b hb
    exact (I9.pin (b,o) (KJ _ (KJ _ (ij hb e)))).2.1
   refine thn (hg C s3 _ fp _ s7 σ5 H7 x u _ I7' r7 (step x H7 y7)) fun _ s8 ⟨σ8,H8,I8,q8⟩=>?_
   refine thn (ht C s3 _ fp _ s8 σ8 H8 _ I8 q8) fun ok s9 ⟨H9,I9,q9⟩=>?_
   cases ok with
   | false=>
    rw [J9 Kl] at q9
    rw [J9 Kl]
    exact back I9 q9
   | true=>
    rw [J2 rfl] at q9
    rw [J2 rfl]
    refine thn (he C s3 _ fp _ s9 σ8 H9 _ I9 q9) fun y s10 ⟨v,H10,I10,r10,q10⟩=>?_
    obtain ⟨xs,hD10,hz,qN⟩:=q10
    refine thn (qp (X:=dE X scope N C s3 (upd H2 D (.lst [])) fp) _ s10 σ8 H10 (.ref D) [v] (.ref D) [y] (fun _ H'=>NN σ8 H') I10 rfl (.cons r10 .nil) ⟨D,xs,v,rfl,rfl,hD10,hz,qN⟩) fun _ s11 ⟨_,H11,I11,_,q11⟩=>?_
    exact back I11 q11
 exact codeAny_compStart_list (loop _ rfl) (T.self _ 0 _ _ _ st4 (loop _ rfl))
theorem HA (hc:X.calm=true) (S:iB esc scope EN N k) (h1:X.env.scope=esc) (h2:X.N=EN) (hi:PI X tg iter wi) (hg:∀ C s H fp,PG (dE X scope N C s H fp) tg g) (ht:∀ C s H fp,PTs (dE X scope N C s H fp) ifs tt) (he:∀ C s H fp,PE (dE X scope N C s H fp) elt te)
  (hs:∀ x,OF iter X.env x=pure x:=by intro _;rfl):PE X (.ListComp elt [⟨tg,iter,ifs,0⟩] scope pos) (tLC wi g tt te k):=by
 subst h1 h2
 intro pins s σ H Q I h
 rw [eval_ListComp]
 refine wpAny_comprehension_free (use:=none) rfl hs (ox (S.cells I.ok)) S.kind S.names (thn (hi pins s σ H _ I h) fun v s1 h1=>thn h1 fun itv s2 h2=>?_)
 obtain ⟨it,fp,tn,J,H2,e,I2,T,st2,f2,q⟩:=h2
 subst e
 refine Ab (RR:=fun acc C=>compPost (J6 X.prog X.w) X.A X.xe none (EP X pins σ Q) acc C) hc S hg ht he I2 T st2 f2 q ?_
 intro D C s' H' m hC IX hm hn hL hF hS hcell hp qd
 refine ⟨m,hm,fun h' sb=>?_⟩
 exact ⟨.ref D,H',IX.turned (t':=s'.toks) (fun b o hb e=>sb.extBut b o hb e) hn hL (.inr hS) hcell hp,rfl,qd⟩
end
inductive D where
 | non | bl (b:Bool) | int (i:Int) | str (x:Str) | tup (xs:List D) | lst (xs:List D)
mutual
def D.eqv:D→D→Bool
 | .non,.non=>true
 | .bl a,.bl b=>a == b
 | .bl a,.int b=>(if a then 1 else 0) == b
 | .int a,.bl b=>a == (if b then 1 else 0)
 | .int a,.int b=>a == b
 | .str a,.str b=>a == b
 | .tup xs,.tup ys=>D.bQ xs ys
 | .lst xs,.lst ys=>D.bQ xs ys
 | _,_=>false
def D.bQ:List D→List D→Bool
 | [],[]=>true
 | x :: xs,y :: ys=>D.eqv x y && D.bQ xs ys
 | _,_=>false
end
mutual
theorem D.eqv_refl:∀ d:D,D.eqv d d=true
 | .non=>rfl
 | .bl a=>by simp [D.eqv]
 | .int a=>by simp [D.eqv]
 | .str a=>by simp [D.eqv]
 | .tup xs=>by simp only [D.eqv];exact D.jb xs
 | .lst xs=>by simp only [D.eqv];exact D.jb xs
theorem D.jb:∀ ds:List D,D.bQ ds ds=true
 | []=>rfl
 | d :: ds=>by simp only [D.bQ,D.eqv_refl d,D.jb ds,Bool.and_self]
end
mutual
def D.depth:D→Nat
 | .tup xs=>D.bK xs+1
 | .lst xs=>D.bK xs+1
 | _=>0
def D.bK:List D→Nat
 | []=>0
 | x :: xs=>max (D.depth x) (D.bK xs)
end
mutual
inductive Rep (H:Hp):V→D→Prop
 | non:Rep H .non .non
 | bl (b:Bool):Rep H (.bl b) (.bl b)
 | int (i:Int):Rep H (.int i) (.int i)
 | str (x:Str):Rep H (.str x) (.str x)
 | tup {a:Addr} {vs:List V} {ds:List D}:H a=some (.tup vs)→aE H vs ds→Rep H (.ref a) (.tup ds)
 | lst {a:Addr} {vs:List V} {ds:List D}:H a=some (.lst vs)→aE H vs ds→Rep H (.ref a) (.lst ds)
inductive aE (H:Hp):List V→List D→Prop
 | nil:aE H [] []
 | cons {v:V} {d:D} {vs:List V} {ds:List D}:Rep H v d→aE H vs ds→aE H (v :: vs) (d :: ds)
end
theorem aE.length:∀ {vs:List V} {ds:List D},aE H vs ds→vs.length=ds.length
 | _,_,.nil=>rfl
 | _,_,.cons _ t=>by simp [aE.length t]
theorem aE.get:∀ {vs:List V} {ds:List D} {i:Nat} {v:V},aE H vs ds→vs[i]?=some v→∃ d,ds[i]?=some d∧Rep H v d
 | _,_,_,_,.nil,e=>by simp at e
 | _,_,0,_,.cons r _,e=>by simp at e;subst e;exact ⟨_,rfl,r⟩
 | _,_,i+1,v,.cons _ t,e=>by
  obtain ⟨d,h1,h2⟩:=aE.get (i:=i) (v:=v) t (by simpa using e)
  exact ⟨d,by simpa using h1,h2⟩
theorem aE.get':∀ {vs:List V} {ds:List D} {i:Nat} {d:D},aE H vs ds→ds[i]?=some d→∃ v,vs[i]?=some v∧Rep H v d
 | _,_,_,_,.nil,e=>by simp at e
 | _,_,0,_,.cons r _,e=>by simp at e;subst e;exact ⟨_,rfl,r⟩
 | _,_,i+1,v,.cons _ t,e=>by
  obtain ⟨d,h1,h2⟩:=aE.get' (i:=i) (d:=v) t (by simpa using e)
  exact ⟨d,by simpa using h1,h2⟩
theorem aE.append:∀ {vs us:List V} {ds es:List D},aE H vs ds→aE H us es→aE H (vs++us) (ds++es)
 | _,_,_,_,.nil,s=>s
 | _,_,_,_,.cons r t,s=>.cons r (aE.append t s)
theorem aE.take:∀ {vs:List V} {ds:List D} (n:Nat),aE H vs ds→aE H (vs.take n) (ds.take n)
 | _,_,0,_=>.nil
 | _,_,_+1,.nil=>.nil
 | _,_,n+1,.cons r t=>.cons r (aE.take n t)
theorem aE.drop:∀ {vs:List V} {ds:List D} (n:Nat),aE H vs ds→aE H (vs.drop n) (ds.drop n)
 | _,_,0,r=>r
 | _,_,_+1,.nil=>.nil
 | _,_,n+1,.cons _ t=>aE.drop n t
theorem aE.reverse:∀ {vs:List V} {ds:List D},aE H vs ds→aE H vs.reverse ds.reverse
 | _,_,.nil=>.nil
 | _,_,.cons r t=>by rw [OH,OH];exact (aE.reverse t).append (.cons r .nil)
mutual
theorem Rep.mono (e:eA H H'):∀ {v:V} {d:D},Rep H v d→Rep H' v d
 | _,_,.non=>.non
 | _,_,.bl b=>.bl b
 | _,_,.int i=>.int i
 | _,_,.str x=>.str x
 | _,_,.tup h r=>.tup (e _ _ h) (aE.mono e r)
 | _,_,.lst h r=>.lst (e _ _ h) (aE.mono e r)
theorem aE.mono (e:eA H H'):∀ {vs:List V} {ds:List D},aE H vs ds→aE H' vs ds
 | _,_,.nil=>.nil
 | _,_,.cons r t=>.cons (Rep.mono e r) (aE.mono e t)
end
mutual
theorem Rep.inj:∀ {v:V} {d e:D},Rep H v d→Rep H v e→d=e
 | _,_,_,.non,.non=>rfl
 | _,_,_,.bl _,.bl _=>rfl
 | _,_,_,.int _,.int _=>rfl
 | _,_,_,.str _,.str _=>rfl
 | _,_,_,.tup h r,.tup h' r'=>by rw [h] at h';cases h';rw [aE.inj r r']
 | _,_,_,.tup h r,.lst h' r'=>by rw [h] at h';cases h'
 | _,_,_,.lst h r,.tup h' r'=>by rw [h] at h';cases h'
 | _,_,_,.lst h r,.lst h' r'=>by rw [h] at h';cases h';rw [aE.inj r r']
theorem aE.inj:∀ {vs:List V} {ds es:List D},aE H vs ds→aE H vs es→ds=es
 | _,_,_,.nil,.nil=>rfl
 | _,_,_,.cons r t,.cons r' t'=>by rw [Rep.inj r r',aE.inj t t']
end
theorem aE.ints:∀ (ns:List Int),aE H (ns.map V.int) (ns.map D.int)
 | []=>.nil
 | n :: ns=>.cons (.int n) (aE.ints ns)
theorem aE.jY:∀ {vs:List V} {ns:List Int},aE H vs (ns.map D.int)→vs=ns.map V.int
 | [],[],.nil=>rfl
 | v :: vs,n :: ns,.cons r t=>by
  cases r
  rw [Kx,aE.jY t]
theorem D.cL:∀ (ds es:List D),D.bQ ds es=((J_ (min ds.length es.length)).all (fun j=>D.eqv (ds.getD j .non) (es.getD j .non)) && ds.length == es.length)
 | [],[]=>rfl
 | [],e :: es=>by simp [D.bQ]
 | d :: ds,[]=>by simp [D.bQ]
 | d :: ds,e :: es=>by
  have ih:=D.cL ds es
  have q:min (d :: ds).length (e :: es).length=min ds.length es.length+1:=by simp only [Km];omega
  rw [q,Q3,Lz,Ol]
  have z:((d :: ds).length == (e :: es).length)=(ds.length == es.length):=by
   rw [Lm];simp
  rw [z,D.bQ,ih,Bool.and_assoc]
  rfl
theorem D.ib:∀ {ds:List D} {i:Nat} {d:D},ds[i]?=some d→D.depth d≤D.bK ds
 | [],_,_,e=>by simp at e
 | x :: xs,0,d,e=>by
  simp at e;subst e
  exact Nat.le_max_left _ _
 | x :: xs,i+1,d,e=>Lj (D.ib (ds:=xs) (i:=i) (by simpa using e)) (Nat.le_max_right _ _)
section
variable {X:Cx}
theorem sT (I:Inv X pins σ H s):∀ (n:Nat) (A:KD) (x y:V) (u v:Value) (d e:D),A.units+n < cLine→D.depth d≤n→RelV x u→RelV y v→Rep H x d→Rep H y e →
  Ox A s u v (D.eqv d e):=by
 intro n
 induction n with
 | zero=>
  intro A x y u v d e hu hd ru rv rx ry
  have hu':A.units < cLine:=by omega
  cases rx with
  | tup h r=>simp [D.depth] at hd
  | lst h r=>simp [D.depth] at hd
  | non=>
   cases ry with
   | tup h r=>
    cases ru;cases rv
    obtain ⟨its,rv,p,hz⟩:=I.tuple (SqT.of h)
    exact SeqAt.EqAt.none_tuple p hu'
   | lst h r=>
    cases ru;cases rv
    obtain ⟨its,rv,p,hz⟩:=I.list (SqL.of h)
    exact SeqAt.EqAt.none_list p.isList hu'
   | _=>simp only [D.eqv];exact k_ ru rv rfl rfl
  | bl a=>
   cases ry with
   | tup h r=>
    cases ru;cases rv
    obtain ⟨its,rv,p,hz⟩:=I.tuple (SqT.of h)
    exact SeqAt.EqAt.bool_tuple a p hu'
   | lst h r=>
    cases ru;cases rv
    obtain ⟨its,rv,p,hz⟩:=I.list (SqL.of h)
    exact SeqAt.EqAt.bool_list a p.isList hu'
   | _=>simp only [D.eqv];exact k_ ru rv rfl rfl
  | int a=>
   cases ry with
   | tup h r=>
    obtain ⟨t,rfl⟩:=ru;cases rv
    obtain ⟨its,rv,p,hz⟩:=I.tuple (SqT.of h)
    exact SeqAt.EqAt.int_tuple a t p hu'
   | lst h r=>
    obtain ⟨t,rfl⟩:=ru;cases rv
    obtain ⟨its,rv,p,hz⟩:=I.list (SqL.of h)
    exact SeqAt.EqAt.int_list a t p.isList hu'
   | _=>simp only [D.eqv];exact k_ ru rv rfl rfl
  | str a=>
   cases ry with
   | tup h r=>
    obtain ⟨t,rfl⟩:=ru;cases rv
    obtain ⟨its,rv,p,hz⟩:=I.tuple (SqT.of h)
    exact SeqAt.EqAt.str_tuple a t p hu'
   | lst h r=>
    obtain ⟨t,rfl⟩:=ru;cases rv
    obtain ⟨its,rv,p,hz⟩:=I.list (SqL.of h)
    exact SeqAt.EqAt.str_list a t p.isList hu'
   | _=>simp only [D.eqv];exact k_ ru rv rfl rfl
 | succ n ih=>
  intro A x y u v d e hu hd ru rv rx ry
  have hu':A.units < cLine:=by omega
  have items:∀ {vs us:List V} {ds es:List D} {its its2:List Value},D.bK ds≤n→Vals vs its→Vals us its2→aE H vs ds→aE H us es →
    ∀ j (h1:j < its.toArray.size) (h2:j < its2.toArray.size),Ox A.in1 s its.toArray[j] its2.toArray[j] (D.eqv (ds.getD j .non) (es.getD j .non)):=by
   intro vs us ds es its its2 hdd r1 r2 q1 q2 j h1 h2
   have h1':j < its.length:=by simpa using h1
   have h2':j < its2.length:=by simpa using h2
   have l1:=r1.length
   have l2:=r2.length
   have m1:=q1.length
   have m2:=q2.length
   have e1:vs[j]?=some (vs[j]'(by omega)):=JZ _
   have e2:us[j]?=some (us[j]'(by omega)):=JZ _
   obtain ⟨a1,b1,c1⟩:=r1.get e1
   obtain ⟨a2,b2,c2⟩:=r2.get e2
   obtain ⟨f1,g1,k1⟩:=q1.get e1
   obtain ⟨f2,g2,k2⟩:=q2.get e2
   have z1:its.toArray[j]=a1:=by
    have:its[j]?=some its[j]:=JZ h1'
    rw [b1] at this
    simpa using (KA this).symm
   have z2:its2.toArray[j]=a2:=by
    have:its2[j]?=some its2[j]:=JZ h2'
    rw [b2] at this
    simpa using (KA this).symm
   rw [z1,z2,Kd,Kd,g1,g2]
   refine ih A.in1 _ _ _ _ _ _ ?_ (Lj (D.ib g1) hdd) c1 c2 k1 k2
   show A.units+1+n < cLine
   omega
  cases rx with
  | @tup a vs ds h r=>
   obtain ⟨its,rv1,p,hz⟩:=I.tuple (SqT.of h)
   cases ry with
   | @tup b us es h' r'=>
    cases ru;cases rv
    obtain ⟨its2,rv2,p2,hz2⟩:=I.tuple (SqT.of h')
    by_cases hab:a=b
    ·subst hab
     rw [h] at h';cases h'
     rw [aE.inj r' r,D.eqv_refl]
     exact QP _
    ·have hdd:D.bK ds≤n:=by simp only [D.depth] at hd;omega
     have q:=PC hab (SeqAt.RcAt.tuples (e:=fun j=>D.eqv (ds.getD j .non) (es.getD j .non)) p p2 hu' (items hdd rv1 rv2 r r'))
     rw [J8,J8,← rv1.length,← rv2.length,r.length,r'.length,← D.cL] at q
     simp only [D.eqv]
     exact q
   | @lst b us es h' r'=>
    cases ru;cases rv
    obtain ⟨its2,rv2,p2,hz2⟩:=I.list (SqL.of h')
    simp only [D.eqv]
    exact SeqAt.EqAt.tuple_list p p2.isList hu'
   | non=>cases ru;cases rv;simp only [D.eqv];exact SeqAt.EqAt.tuple_none p hu'
   | bl c=>cases ru;cases rv;simp only [D.eqv];exact SeqAt.EqAt.tuple_bool c p hu'
   | int c=>cases ru;obtain ⟨t,rfl⟩:=rv;simp only [D.eqv];exact SeqAt.EqAt.tuple_int c t p hu'
   | str c=>cases ru;obtain ⟨t,rfl⟩:=rv;simp only [D.eqv];exact SeqAt.EqAt.tuple_str c t p hu'
  | @lst a vs ds h r=>
   obtain ⟨its,rv1,p,hz⟩:=I.list (SqL.of h)
   cases ry with
   | @lst b us es h' r'=>
    cases ru;cases rv
    obtain ⟨its2,rv2,p2,hz2⟩:=I.list (SqL.of h')
    by_cases hab:a=b
    ·subst hab
     rw [h] at h';cases h'
     rw [aE.inj r' r,D.eqv_refl]
     exact QP _
    ·have hdd:D.bK ds≤n:=by simp only [D.depth] at hd;omega
     have l1:=rv1.length
     have l2:=rv2.length
     have m1:=r.length
     have m2:=r'.length
     by_cases hl:ds.length=es.length
     ·have q:=PC hab (SeqAt.RcAt.lists (e:=fun j=>D.eqv (ds.getD j .non) (es.getD j .non)) p.isList p2.isList (by simp;omega) hu' (items hdd rv1 rv2 r r'))
      have z:D.bQ ds es=(J_ its.toArray.size).all fun j=>D.eqv (ds.getD j .non) (es.getD j .non):=by
       rw [D.cL,← hl,Sx,J8,← l1,m1]
       simp
      simp only [D.eqv]
      rw [z]
      exact q
     ·have q:=PC hab (SeqAt.RcAt.lists_lengths p.isList p2.isList (by simp;omega) hu')
      have z:D.bQ ds es=false:=by
       rw [D.cL]
       simp [hl]
      simp only [D.eqv]
      rw [z]
      exact q
   | @tup b us es h' r'=>
    cases ru;cases rv
    obtain ⟨its2,rv2,p2,hz2⟩:=I.tuple (SqT.of h')
    simp only [D.eqv]
    exact SeqAt.EqAt.list_tuple p.isList p2 hu'
   | non=>cases ru;cases rv;simp only [D.eqv];exact SeqAt.EqAt.list_none p.isList hu'
   | bl c=>cases ru;cases rv;simp only [D.eqv];exact SeqAt.EqAt.list_bool c p.isList hu'
   | int c=>cases ru;obtain ⟨t,rfl⟩:=rv;simp only [D.eqv];exact SeqAt.EqAt.list_int c t p.isList hu'
   | str c=>cases ru;obtain ⟨t,rfl⟩:=rv;simp only [D.eqv];exact SeqAt.EqAt.list_str c t p.isList hu'
  | non=>exact OJ (ih A.in1 _ y u v _ e (by show A.units+1+n < cLine;omega) (by simp [D.depth]) ru rv .non ry)
  | bl c=>exact OJ (ih A.in1 _ y u v _ e (by show A.units+1+n < cLine;omega) (by simp [D.depth]) ru rv (.bl c) ry)
  | int c=>exact OJ (ih A.in1 _ y u v _ e (by show A.units+1+n < cLine;omega) (by simp [D.depth]) ru rv (.int c) ry)
  | str c=>exact OJ (ih A.in1 _ y u v _ e (by show A.units+1+n < cLine;omega) (by simp [D.depth]) ru rv (.str c) ry)
end
section
variable {X:Cx}
def zI:R2:=fun x y H Q=>∃ a b,x=.bl a∧y=.bl b∧Q (.bl (a == b)) H
theorem Ak:OpR X (Ku .Is) zI:=by
 intro pins s σ H x y v u Q I rx ry h
 obtain ⟨a,b,rfl,rfl,q⟩:=h
 cases rx;cases ry
 exact is_bool ⟨.bl _,H,I,rfl,q⟩
def isT (T:String):D→Bool
 | .non=>false
 | .bl _=>T == "bool" || T == "int"
 | .int _=>T == "int"
 | .str _=>T == "str"
 | .tup _=>T == "tuple"
 | .lst _=>T == "list"
def okT (T:String):Bool:=T == "bool" || T == "int" || T == "str" || T == "tuple" || T == "list"
theorem Ij {K:JV} {H:Hp} {x:V} {d:D} {T:String} (r:Rep H x d) (h:okT T=true):∃ t,gF K H x t∧Uh K t (.type T)=some (isT T d):=by
  have h5:T="bool"∨T="int"∨T="str"∨T="tuple"∨T="list":=by simpa [okT,or_assoc] using h
  cases r with
  | non=>exact ⟨_,.non,by rcases h5 with e | e | e | e | e<;>subst e<;>first | rfl | kernel_rfl⟩
  | bl b=>exact ⟨_,.bl b,by rcases h5 with e | e | e | e | e<;>subst e<;>first | rfl | kernel_rfl⟩
  | int i=>exact ⟨_,.int i,by rcases h5 with e | e | e | e | e<;>subst e<;>first | rfl | kernel_rfl⟩
  | str x=>exact ⟨_,.str x,by rcases h5 with e | e | e | e | e<;>subst e<;>first | rfl | kernel_rfl⟩
  | tup h r=>exact ⟨_,.tup h,by rcases h5 with e | e | e | e | e<;>subst e<;>first | rfl | kernel_rfl⟩
  | lst h r=>exact ⟨_,.lst h,by rcases h5 with e | e | e | e | e<;>subst e<;>first | rfl | kernel_rfl⟩
def IZ (T:String) (te:TE):TE:=fun σ H Q=>te σ H fun x H1=>∃ d,Rep H1 x d∧Q (.bl (isT T d)) H1
theorem wY {e:Ke} {te:TE} {nm:Str} {T:String} {p p2 pos:Pos} (hg:Gl X "isinstance") (hm:X.mg "isinstance"=none) (hg2:Gl X nm) (hm2:X.mg nm=none) (hv:Kj nm=some (.type T)) (ho:okT T=true) (ha:PE X e te)
  (hn:nm≠"__name__":=by decide) (hd:(nm == ("__debug__":Str))=false:=by decide) (hb:Kj "isinstance"=some (.builtin "isinstance"):=by decide +kernel)
  (he:J7 [e,.Name nm p2] X.env=(false,KC e X.env) :: J7 [.Name nm p2] X.env:=by rfl) (hs2:J7 [.Name nm p2] X.env=(false,KC (.Name nm p2) X.env) :: J7 [] X.env:=by rfl) (hpl:(Ly pos (J7 [.Name nm p2] X.env)).any (·.1)=false:=by rfl) :
  PE X (.Call (.Name "isinstance" p) [e,.Name nm p2] [] pos) (IZ T te):=by
 intro pins s σ H Q I h
 have hT:PE X (.Name nm p2) (tC (.ty T)):=uQ hg2 hm2 hv rfl hn hd
 refine LV (df I hg hm hb ?_ (by decide) (by decide))
 refine ME (thn ((di ha (di hT fY hs2) he) pos pins s σ H (fun vs H1=>∃ x d,vs=[x,.ty T]∧Rep H1 x d∧Q (.bl (isT T d)) H1) I ?_) fun us s1 ⟨vs,H1,I1,r1,q1⟩=>?_) he hpl
 ·refine (show te σ H fun x H1=>_ from ?_)
  refine cast (LZ (te σ H) ?_) h
  funext x H1
  refine propext ⟨fun ⟨d,r,q⟩=>⟨x,d,rfl,r,q⟩,fun ⟨x',d,e,r,q⟩=>?_⟩
  cases e
  exact ⟨d,r,q⟩
 ·obtain ⟨x,d,e,r,q⟩:=q1
  subst e
  obtain ⟨u,w',rfl,ru,rw'⟩:=r1.two
  obtain ⟨t,ty,k⟩:=Ij (K:=X.K) r ho
  cases (show w'=Rw T from rw')
  exact yH I1 ru ty k fun tk=>⟨.bl _,H1,I1.tok tk,rfl,q⟩
end
section
variable {X:Cx} {pins:List (Addr×Obj)} {σ:St} {H:Hp} {s:JU} {h':Heap} {fp:List Addr}
theorem Inv.rf (I:Inv X pins σ H s) (ha:s.heap.objs.size≤a) (hk:∀ b u,b∉fp→s.heap.get? b=some u→h'.get? b=some u) (hf:∀ b∈fp,gA X pins H b) (new:b_ X.prog X.w (upd H a o) h' a o) :
  Inv X pins σ (upd H a o) { s with heap:=h',toks:=t' }:=by
 have hn:H a=none:=I.hok.fresh ha
 have nfp:∀ b u,H b=some u→b∉fp:=fun b u e z=>by
  have q:=(hf b z).1
  rw [e] at q
  cases q
 have hne:∀ b (u:Obj),s.heap.get? b=some u→b≠a:=fun b u e=>Kf (Kt (J4 e) ha)
 refine I.step (g':=s.gens) (d':=s.drawn) (ch:=fp) (fun b hb=>?_) (fun b u _ _ hc e _=>hk b u hc e) (fun b u _ _ hc e _=>⟨u.slots,hk b u hc e⟩) (fun b u _ e n=>?_)
  (fun b u hc e=>⟨u,hk b u hc e⟩) (fun b xs e=>?_) (fun b u xs e=>?_) (fun b ps e=>⟨#[],?_⟩) (fun m hm=>?_) (fun b u e=>?_) I.bare
 ·obtain ⟨f0,f1,f2,f3,f4,f5⟩:=hf b hb
  exact ⟨f3,f1,f4,f5⟩
 ·rw [aS (hne b u e)];exact n
 ·rw [aS (bz e hn)];exact e
 ·rw [aS (bz e hn)];exact e
 ·rw [aS (bz e hn),e];simp
 ·obtain ⟨u,es,ep,ho,r⟩:=hm
  exact ⟨u,es,ep,hk _ u (fun z=>(hf _ z).2.1 rfl) ho,r⟩
 ·by_cases hb:b=a
  ·subst hb;rw [b9] at e;cases e;exact new
  ·rw [aS hb] at e
   refine (I.hok b u e).iW (fun c v hc q=>hk c v ?_ q) (fun c q=>by rw [aS (bz q hn)];exact q) fun c xs q=>by rw [aS (bz q hn)];exact q
   rcases hc with z | z
   ·rw [z];exact nfp b u e
   ·exact nfp c _ z
theorem Inv.CM (I:Inv X pins σ H s) (hk:∀ b u,b∉fp→s.heap.get? b=some u→h'.get? b=some u) (hf:∀ b∈fp,gA X pins H b):Inv X pins σ H { s with heap:=h',toks:=t' }:=by
 have nfp:∀ b u,H b=some u→b∉fp:=fun b u e z=>by
  have q:=(hf b z).1
  rw [e] at q
  cases q
 refine I.step (g':=s.gens) (d':=s.drawn) (ch:=fp) (fun b hb=>?_) (fun b u _ _ hc e _=>hk b u hc e) (fun b u _ _ hc e _=>⟨u.slots,hk b u hc e⟩) (fun b u _ e n=>n)
  (fun b u hc e=>⟨u,hk b u hc e⟩) (fun b xs e=>e) (fun b u xs e=>e) (fun b ps e=>⟨#[],?_⟩) (fun m hm=>?_) (fun b u e=>?_) I.bare
 ·obtain ⟨f0,f1,f2,f3,f4,f5⟩:=hf b hb
  exact ⟨f3,f1,f4,f5⟩
 ·rw [e];simp
 ·obtain ⟨u,es,ep,ho,r⟩:=hm
  exact ⟨u,es,ep,hk _ u (fun z=>(hf _ z).2.1 rfl) ho,r⟩
 ·refine (I.hok b u e).iW (fun c v hc q=>hk c v ?_ q) (fun _ q=>q) fun _ _ q=>q
  rcases hc with z | z
  ·rw [z];exact nfp b u e
  ·exact nfp c _ z
end
def Ite (K:JV) (l:Addr):It:=
 ⟨fun i H=>∃ xs x,SqL K H l xs∧xs[i]?=some x,fun i H x H'=>∃ p y,H p=none∧x=.ref p∧H'=upd H p (.tup [.int i,y])∧∀ xs,SqL K H l xs→xs[i]?=some y,fun i H=>∃ xs,SqL K H l xs∧xs.length≤i⟩
theorem yh {P:Kn} {w:Kq} {K:JV} {es:List Ke} {kk:Nat} {tp:Pos} (l e it:Addr) (hne:e≠it) :
  Turn P w K (.Tuple es kk tp) (Ite K l) [e,it] e (fun i h=>(∃ old,IsEnum h e it ((i:Nat):Int) old)∧h.IsListIter it l i) where
 mem:=by simp
 obj:=fun i h st b hb=>by
  obtain ⟨⟨old,he⟩,hit⟩:=st
  rcases J1.mp hb with z | z
  ·subst z;exact ⟨_,he,fun v z=>by
    have z':To _=QM v:=z
    cases z'⟩
  ·have z:b=it:=Ka.mp z
   subst z
   obtain ⟨o,q,_,d⟩:=hit
   exact ⟨o,q,fun v z=>by rw [d] at z;cases z⟩
 keep:=fun i h h' st k=>by
  obtain ⟨⟨old,he⟩,hit⟩:=st
  exact ⟨⟨old,k e (by simp) _ he⟩,hit.at fun o q=>k it (by simp) o q⟩
 item:=by
  intro X hP hw hK hc i pins s σ H E I hf st hg
  subst hP hw hK
  obtain ⟨⟨old,he⟩,hit⟩:=st
  obtain ⟨xs,x,hq,hx⟩:=hg
  obtain ⟨its,rv,p,hz⟩:=I.list hq
  obtain ⟨u,hu,ru⟩:=rv.get hx
  refine wpAny_pyNext_enum_item he hit p.isList (x:=u) (by simpa using hu) hne fun h1 ho1 hit1 ht1 hz1 hk1=>?_
  refine ⟨_,rfl,wpAny_letOwnedTupleGo_enum (s:={ s with heap:=h1,toks:=s.toks+1 }) ho1 fun h2 he2 hs2=>?_⟩
  have helt:e < s.heap.objs.size:=J4 he
  have ht2:h2.get? s.heap.objs.size=some { cls:=.type "tuple",data:=.seq #[.int i s.toks,u] }:=hs2.extBut _ _ (MC helt) ht1
  have k2:∀ b o,b∉[e,it]→s.heap.get? b=some o→h2.get? b=some o:=fun b o hb q=>by
   have hb1:b≠e:=fun z=>hb (by simp [z])
   have hb2:b≠it:=fun z=>hb (by simp [z])
   exact hs2.extBut b o hb1 (hk1 b o hb1 hb2 q)
  have I2:Inv X pins σ (upd H s.heap.objs.size (.tup [.int i,x])) { s with heap:=h2,toks:=s.toks+1 }:=by
   refine I.rf (fp:=[e,it]) (J3 _) k2 hf ?_
   exact ⟨by show 2≤sizeLine;decide,[.int i s.toks,u],.cons ⟨_,rfl⟩ (.cons ru .nil),⟨_,ht2,rfl,_,rfl⟩⟩
  refine ⟨.ref s.heap.objs.size,_,I2,rfl,⟨s.heap.objs.size,x,I.hok.fresh (J3 _),rfl,rfl,fun ys hy=>by rw [I.rn hy hq];exact hx⟩,⟨⟨_,by simpa using he2⟩,?_⟩,fun b hb=>?_⟩
  ·exact hit1.extBut hs2.extBut (LN hne)
  ·have hlt:b < s.heap.objs.size:=by
    rcases J1.mp hb with z | z
    ·rw [z];exact helt
    ·have z:b=it:=Ka.mp z
     subst z
     obtain ⟨o,q,_⟩:=hit
     exact J4 q
   rw [aS (Kf hlt)]
   exact (hf b hb).1
 done:=by
  intro X hP hw hK hc i pins s σ H E I hf st hg
  subst hP hw hK
  obtain ⟨⟨old,he⟩,hit⟩:=st
  obtain ⟨xs,hq,hx⟩:=hg
  obtain ⟨its,rv,p,hz⟩:=I.list hq
  have hl:=rv.length
  obtain ⟨f0,f1,f2,f3,f4,f5⟩:=hf it (by simp)
  exact wpAny_pyNext_enum_end (I.ok.hd hc) he hit p.isList (by simp;omega) fun h' eb=>⟨rfl,I.turned (t':=s.toks) (fun b o hb e=>eb b o hb e) f0 f1 f3 f4 f5⟩
 self:=fun _ _ _ _ _ st h=>by
  obtain ⟨⟨old,he⟩,_⟩:=st
  exact Ta he h
section
variable {prog:Kn} {w:Kq} {A:KD} {E:Value→JU→Prop} {s:JU}
theorem vH (hit:s.heap.IsTupleIter it t i) (ht:s.heap.IsTuple t items) (hx:items[i]?=some x)
  (hQ:∀ h',h'.IsTupleIter it t (i+1)→K_ it s.heap h'→Q x { s with heap:=h' }):JY (J6 prog w) A (Lg (.ref it)) Q E s:=by
 obtain ⟨o,ho,hc,hd⟩:=id hit
 obtain ⟨ot,hot,_,nt,hdt⟩:=ht
 unfold Lg
 refine ar (KQ (name:=K6 "__next__") hit.typeIs M4 (K3 M4 hit.typeIs PD ?_ (Pn _)))
 refine (show JY _ _ (RH (.ref it) 0>>=_) _ _ s from ar (KR ho hd (x:=.ref t) rfl ?_))
 show JY _ _ (if (Kg t == Mt)=true then _ else _) _ _ s
 rw [J9 (by intro z;exact Kl z)]
 refine (show JY _ _ (RH (.ref it) 1>>=_) _ _ s from ar (KR ho hd (x:=.int i 0) rfl ?_))
 refine (show JY _ _ (UD (.ref t)>>=_) _ _ s from ar (LA hot hdt ?_))
 simp only [Lc,hx]
 refine ar (NO ho hd (by simp) (tx ⟨x,rfl,tx (hQ _ ⟨_,Ln _ ho (O2 (Nt hd _)),(Tb ..).trans hc,?_⟩ (LJ ..))⟩))
 rw [Nt hd];simp [Mw]
theorem w6 (hh:A.handled=none) (hit:s.heap.IsTupleIter it t i) (ht:s.heap.IsTuple t items) (hx:items[i]?=none)
  (hE:∀ h' e,Q4 it s.heap h'→(∃ o,h'.get? e=some o∧o.cls=.type "StopIteration")→E (.ref e) { s with heap:=h' }):JY (J6 prog w) A (Lg (.ref it)) Q E s:=by
 obtain ⟨o,ho,hc,hd⟩:=id hit
 obtain ⟨ot,hot,_,nt,hdt⟩:=ht
 unfold Lg
 refine ar (KQ (name:=K6 "__next__") hit.typeIs M4 (K3 M4 hit.typeIs PD ?_ (Pn _)))
 refine (show JY _ _ (RH (.ref it) 0>>=_) _ _ s from ar (KR ho hd (x:=.ref t) rfl ?_))
 show JY _ _ (if (Kg t == Mt)=true then _ else _) _ _ s
 rw [J9 (by intro z;exact Kl z)]
 refine (show JY _ _ (RH (.ref it) 1>>=_) _ _ s from ar (KR ho hd (x:=.int i 0) rfl ?_))
 refine (show JY _ _ (UD (.ref t)>>=_) _ _ s from ar (LA hot hdt ?_))
 simp only [Lc,hx]
 refine ar (NW (ar (NO ho hd (by simp) ?_)))
 refine (show JY _ _ (newExc (.type "StopIteration") []>>=_) _ _ _ from ar ?_)
 simp only [newExc,newTuple]
 refine ar (KN (ar (m:=Po _ _) (MB (a:=Mt) (by first | rfl | (simp only [Po];rfl)) (KN ?_ (by size_fits)))) (by size_fits))
 simp only [raiseNew]
 refine ar (wpAny_handled ?_)
 first | rw [show A.in1.handled=none from hh] | rw [hh]
 exact ar (tx (wpAny_throw (hE _ _ (((LJ ..).extBut.push _).push _) ⟨_,Kc _ rfl,rfl⟩)))
end
theorem E9 (hh:A.handled=none) (it t:Addr) (hne:t≠it) (items:Array Value) :
  Qd prog w A it [it,t] items.size (fun i v=>items[i]?=some v) (fun i h=>h.IsTupleIter it t i∧h.IsTuple t items) where
 live:=fun _ _ st=>let ⟨o,ho,_⟩:=st.1;⟨o,ho⟩
 frame:=fun _ _ _ st hk=>⟨st.1.at fun o e=>hk it (by simp) o e,st.2.at fun o e=>hk t (by simp) o e⟩
 item:=fun i s Q E hi st hQ=>vH st.1 st.2 (x:=items[i]) (by simp [hi]) fun h' a b=>hQ _ h' s.toks (by simp [hi]) ⟨a,st.2.extBut b.extBut hne⟩ b
 done:=fun s Q E st hE=>w6 hh st.1 st.2 (by simp) hE
structure dB (z TI TO i1 i2:Addr) (fp1 fp2:List Addr):Prop where
 TIz:TI≠z
 TOz:TO≠z
 TITO:TI≠TO
 z1:z∉fp1
 z2:z∉fp2
 TO1:TO∉fp1
 TO2:TO∉fp2
 i12:i1∉fp2
 i21:i2∉fp1
 m1:i1∈fp1
 m2:i2∈fp2
 TI1:TI≠i1
 TI2:TI≠i2
section
variable {prog:Kn} {w:Kq} {A:KD} {E:Value→JU→Prop} {s:JU} {z TI TO i1 i2:Addr} {fp1 fp2:List Addr} {n1 n2 k:Nat} {P1 P2:Nat→Value→Prop} {S1 S2:Nat→Heap→Prop} {a b:Value}
theorem dB.i1z (D:dB z TI TO i1 i2 fp1 fp2):i1≠z:=fun e=>D.z1 (e ▸ D.m1)
theorem dB.i2z (D:dB z TI TO i1 i2 fp1 fp2):i2≠z:=fun e=>D.z2 (e ▸ D.m2)
theorem dB.TOi1 (D:dB z TI TO i1 i2 fp1 fp2):TO≠i1:=fun e=>D.TO1 (e ▸ D.m1)
theorem dB.TOi2 (D:dB z TI TO i1 i2 fp1 fp2):TO≠i2:=fun e=>D.TO2 (e ▸ D.m2)
theorem mM {a:Addr} {Q:Option Obj→JU→Prop} (h:Q (s.heap.get? a) s):JY (J6 prog w) A (loadIfAlive a) Q E s:=
 fun _ _ _=>h
abbrev dW (h:Heap) (z TI TO:Addr) (own:Value) (fl:Bool):Prop:=h.get? z=some { cls:=.type "zip",dict:=none,data:=.fields #[own,.bool fl,.bool false,.ref TI,.ref TO],slots:=#[] }
def oj (h:Heap) (own:Value):Prop:=own=.none∨∃ T:Addr,own=Mw T∧h.get? T=none
theorem uP (hz:dW s.heap z TI TO own fl) (hf:oj s.heap own) (h:Q true s):JY (J6 prog w) A (Mn (.ref z)) Q E s:=by
 unfold Mn
 rcases hf with rfl | ⟨T,rfl,hT⟩
 ·exact ar (KR hz rfl (x:=.none) rfl (tx h))
 ·refine ar (KR hz rfl (x:=Mw T) rfl ?_)
  refine (show JY _ _ (loadIfAlive ((T:Int)).toNat>>=_) _ _ _ from ar (mM ?_))
  rw [Lc,hT]
  exact Lh rfl (tx h)
theorem yv {Q:Value→JU→Prop} (D:dB z TI TO i1 i2 fp1 fp2) (D1:Qd prog w A i1 fp1 n1 P1 S1) (D2:Qd prog w A i2 fp2 n2 P2 S2) {own:Value} {fl:Bool} (hz:dW s.heap z TI TO own fl) (hfr:oj s.heap own) (hTI:Mf s.heap TI (.ref i1) (.ref i2)) (hTO:Mf s.heap TO a b)
  (h1:S1 k s.heap) (h2:S2 k s.heap) (l1:k < n1) (l2:k < n2)
  (hQ:∀ x y h' tk,P1 k x→P2 k y→IsZip h' z TI TO (Mw s.heap.objs.size)→Mf h' TI (.ref i1) (.ref i2)→Mf h' TO x y→S1 (k+1) h'→S2 (k+1) h'→Mf h' s.heap.objs.size x y→h'.objs.size=s.heap.objs.size+1 →
   (∀ c o,c≠z→c≠TO→c≠i1→c≠i2→s.heap.get? c=some o→h'.get? c=some o)→Q (.ref s.heap.objs.size) { s with heap:=h',toks:=tk }) :
  JY (J6 prog w) A (Builtin.«zip.__next__» ⟨[.ref z],[]⟩) (fun fin s'=>∃ v,fin=.done (.ret v)∧Q v s') E s:=by
 refine (show JY _ _ (RH (.ref z) 2>>=_) _ _ _ from ar (KR hz rfl (x:=.bool false) rfl ?_))
 refine (show JY _ _ (RH (.ref z) 3>>=_) _ _ _ from ar (KR hz rfl (x:=.ref TI) rfl ?_))
 refine ar (LA hTI rfl ?_)
 refine (show JY _ _ (Mn (.ref z)>>=_) _ _ _ from ar (uP hz hfr ?_))
 simp only [L7]
 refine ar (NW (ar (KR hz rfl (x:=.ref TO) rfl ?_)))
 refine ar (Ml hz (by simp) fun g1 hz1 e1=>?_)
 replace hz1:dW g1 z TI TO .ellipsis fl:=hz1
 replace e1:K_ z s.heap g1:=e1
 refine ar ?_
 simp only [Tx,TZ,QS,Uj]
 refine ar (ar (PU ?_))
 have q1:S1 k g1:=D1.frame _ _ _ h1 fun c hc o q=>e1.extBut c o (fun y=>D.z1 (y ▸ hc)) q
 have q2:S2 k g1:=D2.frame _ _ _ h2 fun c hc o q=>e1.extBut c o (fun y=>D.z2 (y ▸ hc)) q
 refine (show JY _ _ (Lg (.ref i1)>>=_) _ _ _ from ar (D1.item k _ _ _ l1 q1 fun x g2 t2 p1 q1' e2=>tx ?_))
 replace e2:K_ i1 g1 g2:=e2
 have hTO2:Mf g2 TO a b:=e2.extBut _ _ D.TOi1 (e1.extBut _ _ D.TOz hTO)
 refine ar (LA hTO2 rfl (ar (O7 hTO2 fun g3 hTO3 e3=>?_)))
 replace hTO3:Mf g3 TO x b:=hTO3
 replace e3:K_ TO g2 g3:=e3
 refine ar (Q0 (tx ?_))
 refine ar (ar (PU ?_))
 have r1:S1 (k+1) g3:=D1.frame _ _ _ q1' fun c hc o q=>e3.extBut c o (fun y=>D.TO1 (y ▸ hc)) q
 have r2:S2 k g3:=D2.frame _ _ _ q2 fun c hc o q=>e3.extBut c o (fun y=>D.TO2 (y ▸ hc)) (e2.extBut c o (fun y=>D.i12 (y ▸ hc)) q)
 refine (show JY _ _ (Lg (.ref i2)>>=_) _ _ _ from ar (D2.item k _ _ _ l2 r2 fun y g4 t4 p2 r2' e4=>tx ?_))
 replace e4:K_ i2 g3 g4:=e4
 have hTO4:Mf g4 TO x b:=e4.extBut _ _ D.TOi2 hTO3
 refine ar (LA hTO4 rfl (ar (O7 hTO4 fun g5 hTO5 e5=>?_)))
 replace hTO5:Mf g5 TO x y:=hTO5
 replace e5:K_ TO g4 g5:=e5
 refine ar (Q0 (tx (tx ?_)))
 refine ar (LA hTO5 rfl (ar (wpAny_newTuple ?_)))
 have hsz:g5.objs.size=s.heap.objs.size:=by rw [e5.1,e4.1,e3.1,e2.1,e1.1]
 have hz5:dW g5 z TI TO .ellipsis fl:=e5.extBut _ _ D.TOz.symm (e4.extBut _ _ D.i2z.symm (e3.extBut _ _ D.TOz.symm (e2.extBut _ _ D.i1z.symm hz1)))
 have k5:∀ c o,c≠z→c≠TO→c≠i1→c≠i2→s.heap.get? c=some o→g5.get? c=some o:=fun c o c1 c2 c3 c4 q=>
  e5.extBut _ _ c2 (e4.extBut _ _ c4 (e3.extBut _ _ c2 (e2.extBut _ _ c3 (e1.extBut _ _ c1 q))))
 have u1:S1 (k+1) g5:=D1.frame _ _ _ r1 fun c hc o q=>e5.extBut c o (fun y=>D.TO1 (y ▸ hc)) (e4.extBut c o (fun y=>D.i21 (y ▸ hc)) q)
 have u2:S2 (k+1) g5:=D2.frame _ _ _ r2' fun c hc o q=>e5.extBut c o (fun y=>D.TO2 (y ▸ hc)) q
 have hzl:z < g5.objs.size:=J4 hz5
 refine (show JY _ _ (Om (.ref z) (.ref g5.objs.size)>>=_) _ _ _ from ar ?_)
 unfold Om
 have hz6:dW (g5.push { cls:=.type "tuple",data:=.seq #[x,y] }) z TI TO .ellipsis fl:=C0 _ hz5
 refine ar (Ml hz6 (by simp) fun g7 hz7 e7=>?_)
 replace hz7:dW g7 z TI TO (Mw g5.objs.size) fl:=hz7
 refine Ml hz7 (by simp) fun g8 hz8 e8=>?_
 replace hz8:IsZip g8 z TI TO (Mw g5.objs.size):=hz8
 replace e7:K_ z (g5.push { cls:=.type "tuple",data:=.seq #[x,y] }) g7:=e7
 replace e8:K_ z g7 g8:=e8
 have up:∀ c o,c≠z→g5.get? c=some o→g8.get? c=some o:=fun c o c1 q=>e8.extBut _ _ c1 (e7.extBut _ _ c1 (C0 _ q))
 have hT8:Mf g8 g5.objs.size x y:=e8.extBut _ _ (MC hzl) (e7.extBut _ _ (MC hzl) (Kc _ rfl))
 have z8:g8.objs.size=g5.objs.size+1:=by rw [e8.1,e7.1,MO]
 rw [hsz] at hz8 hT8 z8
 refine tx ⟨_,rfl,?_⟩
 show Q (.ref g5.objs.size) _
 rw [hsz]
 exact hQ x y g8 _ p1 p2 hz8 (up _ _ D.TIz (k5 _ _ D.TIz D.TITO D.TI1 D.TI2 hTI)) (up _ _ D.TOz hTO5) (D1.frame _ _ _ u1 fun c hc o q=>up c o (fun y=>D.z1 (y ▸ hc)) q) (D2.frame _ _ _ u2 fun c hc o q=>up c o (fun y=>D.z2 (y ▸ hc)) q) hT8 z8
  fun c o c1 c2 c3 c4 q=>up c o c1 (k5 c o c1 c2 c3 c4 q)
theorem AV (D:dB z TI TO i1 i2 fp1 fp2) (D1:Qd prog w A i1 fp1 n1 P1 S1) (D2:Qd prog w A i2 fp2 n2 P2 S2) (hz:dW s.heap z TI TO own fl) (hfr:oj s.heap own) (hTI:Mf s.heap TI (.ref i1) (.ref i2)) (hTO:Mf s.heap TO a b)
  (h1:S1 k s.heap) (h2:S2 k s.heap) (hend:k=n1∨(k < n1∧k=n2))
  (hE:∀ h' e tk,(∀ c o,c≠z→c≠TO→c≠i1→c≠i2→s.heap.get? c=some o→h'.get? c=some o)→(∃ o,h'.get? e=some o∧o.cls=.type "StopIteration")→E (.ref e) { s with heap:=h',toks:=tk }) :
  JY (J6 prog w) A (Builtin.«zip.__next__» ⟨[.ref z],[]⟩) Q E s:=by
 refine (show JY _ _ (RH (.ref z) 2>>=_) _ _ _ from ar (KR hz rfl (x:=.bool false) rfl ?_))
 refine (show JY _ _ (RH (.ref z) 3>>=_) _ _ _ from ar (KR hz rfl (x:=.ref TI) rfl ?_))
 refine ar (LA hTI rfl ?_)
 refine (show JY _ _ (Mn (.ref z)>>=_) _ _ _ from ar (uP hz hfr ?_))
 simp only [L7]
 refine ar (NW (ar (KR hz rfl (x:=.ref TO) rfl ?_)))
 refine ar (Ml hz (by simp) fun g1 hz1 e1=>?_)
 replace hz1:dW g1 z TI TO .ellipsis fl:=hz1
 replace e1:K_ z s.heap g1:=e1
 refine ar ?_
 simp only [Tx,TZ,QS,Uj]
 refine ar (ar (PU ?_))
 have q1:S1 k g1:=D1.frame _ _ _ h1 fun c hc o q=>e1.extBut c o (fun y=>D.z1 (y ▸ hc)) q
 have q2:S2 k g1:=D2.frame _ _ _ h2 fun c hc o q=>e1.extBut c o (fun y=>D.z2 (y ▸ hc)) q
 rcases hend with hk | ⟨hk,hk2⟩
 ·subst hk
  refine (show JY _ _ (Lg (.ref i1)>>=_) _ _ _ from ar (D1.done _ _ _ q1 fun g2 e e2 he=>?_))
  obtain ⟨oe,hoe,hce⟩:=he
  replace e2:Q4 i1 g1 g2:=e2
  have hz2:dW g2 z TI TO .ellipsis fl:=e2 _ _ D.i1z.symm hz1
  have hez:e≠z:=fun x=>by subst x;rw [hz2] at hoe;cases hoe;simp at hce
  refine Ml hz2 (by simp) fun g3 _ e3=>hE g3 e _ (fun c o c1 _ c3 _ q=>e3.extBut _ _ c1 (e2 _ _ c3 (e1.extBut _ _ c1 q))) ⟨oe,e3.extBut _ _ hez hoe,hce⟩
 ·subst hk2
  refine (show JY _ _ (Lg (.ref i1)>>=_) _ _ _ from ar (D1.item k _ _ _ hk q1 fun x g2 t2 p1 q1' e2=>tx ?_))
  replace e2:K_ i1 g1 g2:=e2
  have hTO2:Mf g2 TO a b:=e2.extBut _ _ D.TOi1 (e1.extBut _ _ D.TOz hTO)
  refine ar (LA hTO2 rfl (ar (O7 hTO2 fun g3 hTO3 e3=>?_)))
  replace e3:K_ TO g2 g3:=e3
  refine ar (Q0 (tx ?_))
  refine ar (ar (PU ?_))
  have r2:S2 k g3:=D2.frame _ _ _ q2 fun c hc o q=>e3.extBut c o (fun y=>D.TO2 (y ▸ hc)) (e2.extBut c o (fun y=>D.i12 (y ▸ hc)) q)
  refine (show JY _ _ (Lg (.ref i2)>>=_) _ _ _ from ar (D2.done _ _ _ r2 fun g4 e e4 he=>?_))
  obtain ⟨oe,hoe,hce⟩:=he
  replace e4:Q4 i2 g3 g4:=e4
  have hz4:dW g4 z TI TO .ellipsis fl:=e4 _ _ D.i2z.symm (e3.extBut _ _ D.TOz.symm (e2.extBut _ _ D.i1z.symm hz1))
  have hez:e≠z:=fun x=>by subst x;rw [hz4] at hoe;cases hoe;simp at hce
  refine Ml hz4 (by simp) fun g5 _ e5=>hE g5 e _ (fun c o c1 c2 c3 c4 q=>e5.extBut _ _ c1 (e4 _ _ c4 (e3.extBut _ _ c2 (e2.extBut _ _ c3 (e1.extBut _ _ c1 q))))) ⟨oe,e5.extBut _ _ hez hoe,hce⟩
end
section
variable {prog:Kn} {w:Kq} {A:KD} {E:Value→JU→Prop} {s:JU} {z TI TO i1 i2:Addr} {fp1 fp2:List Addr} {n1 n2 k:Nat} {P1 P2:Nat→Value→Prop} {S1 S2:Nat→Heap→Prop} {a b:Value}
theorem yJ (D:dB z TI TO i1 i2 fp1 fp2) (D1:Qd prog w A.in1 i1 fp1 n1 P1 S1) (D2:Qd prog w A.in1 i2 fp2 n2 P2 S2) (hz:dW s.heap z TI TO own fl) (hfr:oj s.heap own) (hTI:Mf s.heap TI (.ref i1) (.ref i2)) (hTO:Mf s.heap TO a b)
  (h1:S1 k s.heap) (h2:S2 k s.heap) (l1:k < n1) (l2:k < n2)
  (hQ:∀ x y h' tk,P1 k x→P2 k y→IsZip h' z TI TO (Mw s.heap.objs.size)→Mf h' TI (.ref i1) (.ref i2)→Mf h' TO x y→S1 (k+1) h'→S2 (k+1) h'→Mf h' s.heap.objs.size x y→h'.objs.size=s.heap.objs.size+1 →
   (∀ c o,c≠z→c≠TO→c≠i1→c≠i2→s.heap.get? c=some o→h'.get? c=some o)→Q (some (.ref s.heap.objs.size)) { s with heap:=h',toks:=tk }) :
  JY (J6 prog w) A (Nq (.ref z)) Q E s:=by
 have hT:s.TypeIs (.ref z) "zip":=⟨_,hz,rfl⟩
 unfold Nq
 exact ar (PV (KQ (name:=K6 "__next__") hT O8 (K3 O8 hT Tz
  (yv D D1 D2 hz hfr hTI hTO h1 h2 l1 l2 fun x y h' tk a1 a2 a3 a4 a5 a6 a7 a8 a9 a10=>tx (hQ x y h' tk a1 a2 a3 a4 a5 a6 a7 a8 a9 a10)) (Tc _))))
theorem zK (D:dB z TI TO i1 i2 fp1 fp2) (D1:Qd prog w A.in1 i1 fp1 n1 P1 S1) (D2:Qd prog w A.in1 i2 fp2 n2 P2 S2) (hz:dW s.heap z TI TO own fl) (hfr:oj s.heap own) (hTI:Mf s.heap TI (.ref i1) (.ref i2)) (hTO:Mf s.heap TO a b)
  (h1:S1 k s.heap) (h2:S2 k s.heap) (hend:k=n1∨(k < n1∧k=n2))
  (hQ:∀ h' tk,(∀ c o,c≠z→c≠TO→c≠i1→c≠i2→s.heap.get? c=some o→h'.get? c=some o)→Q none { s with heap:=h',toks:=tk }):JY (J6 prog w) A (Nq (.ref z)) Q E s:=by
 have hT:s.TypeIs (.ref z) "zip":=⟨_,hz,rfl⟩
 unfold Nq
 refine ar (PV (KQ (name:=K6 "__next__") hT O8 (K3 O8 hT Tz
  (AV D D1 D2 hz hfr hTI hTO h1 h2 hend fun h' e tk hk he=>?_) (Tc _))))
 obtain ⟨o,ho,hc⟩:=he
 exact ar (Lo (T:="StopIteration") (b:=true) ⟨o,ho,hc⟩ Uk (tx (hQ _ tk hk)))
end
theorem wO (ht:∀ c∈[N+4,N+2,N+3,N,N+1],t≠c) (hu:∀ c∈[N+4,N+2,N+3,N,N+1],u≠c):dB (N+4) (N+2) (N+3) N (N+1) [N,t] [N+1,u]:=by
 have d:∀ i j:Nat,i≠j→(N+i:Nat)≠N+j:=fun i j h e=>h (R7 e)
 have t4:=ht (N+4) (by simp);have t3:=ht (N+3) (by simp);have t1:=ht (N+1) (by simp)
 have u4:=hu (N+4) (by simp);have u3:=hu (N+3) (by simp);have u0:=hu N (by simp)
 refine ⟨d 2 4 (by decide),d 3 4 (by decide),d 2 3 (by decide),fun h=>?_,fun h=>?_,fun h=>?_,fun h=>?_,fun h=>?_,fun h=>?_,by simp,by simp,d 2 0 (by decide),d 2 1 (by decide)⟩
 ·rcases J1.mp h with z | z
  ·exact d 4 0 (by decide) z
  ·exact t4 (Ka.mp z).symm
 ·rcases J1.mp h with z | z
  ·exact d 4 1 (by decide) z
  ·exact u4 (Ka.mp z).symm
 ·rcases J1.mp h with z | z
  ·exact d 3 0 (by decide) z
  ·exact t3 (Ka.mp z).symm
 ·rcases J1.mp h with z | z
  ·exact d 3 1 (by decide) z
  ·exact u3 (Ka.mp z).symm
 ·rcases J1.mp h with z | z
  ·exact d 0 1 (by decide) z
  ·exact u0 (Ka.mp z).symm
 ·rcases J1.mp h with z | z
  ·exact d 1 0 (by decide) z
  ·exact t1 (Ka.mp z).symm
section
variable {prog:Kn} {w:Kq} {A:KD} {E:Value→JU→Prop} {s:JU}
theorem Af {t sl:Addr} {items:Array Value} {vl vu:Value} {lo hi:Option Int} {Q:Value→JU→Prop} (ht:Pr s.heap t items) (hs:s.heap.IsSliceOf sl vl vu .none) (pl:Oi vl lo) (pu:Oi vu hi)
    (hw:HT.sIx items.size 0 lo=0∧HT.sIx items.size items.size hi=items.size) (h:Q (.ref t) s):JY (J6 prog w) A (O1 (.ref t) (.ref sl)) Q E s:=by
  obtain ⟨os,hos,hcs,hds⟩:=id hs
  have hTs:s.TypeIs (.ref sl) "slice":=⟨os,hos,hcs⟩
  unfold O1
  try with_reducible refine KG ?_
  first | refine ar (tx ?_) | skip
  refine ar (OG ht.typeIs (by decide) ?_)
  refine ar (KQ (name:=K6 "__getitem__") ht.typeIs KP (K3 KP ht.typeIs Pf ?_ (Px _ _)))
  refine (show JY _ _ (M3 (.ref t)>>=_) _ _ s from ar (RU ht (ar (Lf hTs ?_))))
  rw [J2 (by decide)]
  refine ar (HT.iN hs pl pu ?_)
  have yes:(((HT.sIx items.size 0 lo:Nat):Int) == 0 && (1:Int) == 1 && (HT.sIx items.size items.size hi - HT.sIx items.size 0 lo) == items.size)=true:=by
    rw [hw.1,hw.2];simp
  show JY _ _ (if (((HT.sIx items.size 0 lo:Nat):Int) == 0 && (1:Int) == 1 && (HT.sIx items.size items.size hi - HT.sIx items.size 0 lo) == items.size)=true then _ else _) _ _ s
  rw [J2 yes]
  obtain ⟨o,ho,hcl,n,hd⟩:=id ht
  have hT:s.TypeIs (.ref t) "tuple":=⟨o,ho,hcl⟩
  have hx:JY (J6 prog w) A.in1 (N2 (.ref t)) (fun b s'=>b=true∧s'=s) E s:=by
    unfold N2
    first
      | exact ar (Lf hT (tx ⟨by decide,rfl⟩))
      | (refine ar (Lf hT ?_);exact tx ⟨by simp,rfl⟩)
  refine ar (Me hx (fun b s' hb=>?_) fun _ _ x=>x)
  obtain ⟨rfl,rfl⟩:=hb
  rw [J2 rfl]
  exact ar (NW (tx ⟨_,rfl,tx h⟩))
theorem vq {sl:Addr} {tk:Tok} {n:Nat} {Q:Int×Int×Nat→JU→Prop} (hs:s.heap.IsSliceOf sl .none .none (.int (-1) tk)) (h:Q ((n:Int) - 1,-1,n) s):JY (J6 prog w) A (M0 (.ref sl) (pure (n:Int))) Q E s:=by
 obtain ⟨os,hos,hcs,hds⟩:=id hs
 unfold M0 Qb
 refine ar (ar (KR hos hds (x:=.none) rfl (ar (KR hos hds (x:=.none) rfl (ar (KR hos hds (x:=.int (-1) tk) rfl (tx ?_)))))))
 refine ar (slicePart_int ?_)
 show JY _ _ (if ((-1:Int) == 0)=true then _ else _) _ _ s
 rw [J9 (by decide)]
 refine ar (Pm (ar (Pm (ar (tx ?_)))))
 show JY _ _ (pure ((n:Int) - 1,(-1:Int),LH ((n:Int) - 1) (-1) (-1))) _ _ s
 have e:LH ((n:Int) - 1) (-1) (-1)=n:=by
  unfold LH
  have h1:¬((-1:Int) > 0):=by decide
  simp only [h1,L3]
  have h2:(-(-1:Int))=1:=by decide
  rw [h2,Vu]
  split<;>omega
 rw [e]
 exact tx h
theorem Ce (xs:List Value):((J_ xs.length).filterMap fun (m:Nat)=>xs.toArray[(((xs.length:Nat):Int) - 1+(m:Int) * (-1)).toNat]?)=xs.reverse:=by
 apply Td
 intro i
 have key:∀ (k:Nat),k≤xs.length→((J_ k).filterMap fun (m:Nat)=>xs.toArray[(((xs.length:Nat):Int) - 1+(m:Int) * (-1)).toNat]?)=xs.reverse.take k:=by
  intro k
  induction k with
  | zero=>intro _;simp
  | succ k ih=>
   intro hk
   have e:(((xs.length:Nat):Int) - 1+(k:Int) * (-1)).toNat=xs.length - 1 - k:=by omega
   rw [T1,O3,ih (by omega),P8]
   congr 1
   simp only [KO,List.filterMap_nil,e]
   rw [List.getElem?_reverse (by omega)]
   have h2:xs.length - 1 - k < xs.length:=by omega
   simp [h2]
 rw [key xs.length (J3 _),L_ (by simp)]
theorem AD {its:List Value} (ht:Pr s.heap t its.toArray) (hs:s.heap.IsSliceOf sl .none .none (.int (-1) tk)) (hsz:its.length≤sizeLine)
    (h:Q (.ref s.heap.objs.size) { s with heap:=s.heap.push { cls:=.type "tuple",data:=.seq its.reverse.toArray } }):JY (J6 prog w) A (O1 (.ref t) (.ref sl)) Q E s:=by
  obtain ⟨os,hos,hcs,hds⟩:=id hs
  have hTs:s.TypeIs (.ref sl) "slice":=⟨os,hos,hcs⟩
  unfold O1
  try with_reducible refine KG ?_
  first | refine ar (tx ?_) | skip
  refine ar (OG ht.typeIs (by decide) ?_)
  refine ar (KQ (name:=K6 "__getitem__") ht.typeIs KP (K3 KP ht.typeIs Pf ?_ (Px _ _)))
  refine (show JY _ _ (M3 (.ref t)>>=_) _ _ s from ar (RU ht (ar (Lf hTs ?_))))
  rw [J2 (by decide)]
  refine ar (vq hs ?_)
  have no:¬(((((its.toArray.size:Nat):Int) - 1 == 0) && ((-1:Int) == 1) && (its.toArray.size == its.toArray.size))=true):=by
    intro q
    rw [Ko,Ko] at q
    exact absurd q.1.2 (by decide)
  show JY _ _ (if ((((its.toArray.size:Nat):Int) - 1 == 0) && ((-1:Int) == 1) && (its.toArray.size == its.toArray.size))=true then _ else _) _ _ s
  rw [J9 no]
  have z:its.toArray.size=its.length:=J8 ..
  rw [z]
  rw [Ce]
  have htake:sizeOk (.seq its.reverse.toArray):=by
    show its.reverse.toArray.size≤sizeLine
    rw [J8,Pg];exact hsz
  first
    | exact ar (m:=Ll _) (KN (tx ⟨_,rfl,tx h⟩) htake)
    | exact ar (m:=Ll _) (KN (ar (tx (tx ⟨_,rfl,tx h⟩))) htake)
    | exact ar (ar (m:=Ll _) (KN (tx (tx ⟨_,rfl,tx h⟩)) htake))
    | exact ar (ar (m:=Ll _) (KN (tx ⟨_,rfl,tx h⟩) htake))
theorem DB {ws:List Value} (ht:Pr s.heap t ([]:List Value).toArray) (hb:Pr s.heap b ws.toArray) (h:Q (.ref b) s):JY (J6 prog w) A (Mp .Add (.ref t) (.ref b)) Q E s:=by
 obtain ⟨⟨cls,dd,data,sl⟩,ho,hc,n,hd⟩:=id ht
 obtain ⟨⟨cls2,dd2,data2,sl2⟩,ho2,hc2,n2,hd2⟩:=id hb
 simp only at hc hd hc2 hd2
 subst hc hd hc2 hd2
 exact Sn ⟨_,ho,rfl⟩ ⟨_,ho2,rfl⟩ Qo RQ ON OB (Oh _ _) (tuple_addW0 t b _ _ n n2 dd dd2 sl sl2 (by simp)) ⟨ho,ho2,h⟩
end
section
variable {X:Cx}
def iO (n:Nat) (lo hi:Option Int):Prop:=HT.sIx n 0 lo=0∧HT.sIx n n hi=n
instance (n:Nat) (lo hi:Option Int):Decidable (iO n lo hi):=inferInstanceAs (Decidable (_∧_))
def Hz (K:JV):V→Option Int→Option Int→Hp→VK→Prop:=fun x lo hi H Q=>∃ a xs,x=.ref a∧SqT K H a xs∧(iO xs.length lo hi→Q (.ref a) H)∧(¬iO xs.length lo hi→∀ p,H p=none→Q (.ref p) (upd H p (.tup (iT xs lo hi))))
theorem BE:SlR X (Hz X.K):=by
 intro pins s σ H x v vl vu lo hi sl Q I rx hs pl pu h
 obtain ⟨a,xs,rfl,hx,q1,q2⟩:=h
 by_cases hw:iO xs.length lo hi
 ·cases rx
  obtain ⟨its,r,ht,hz⟩:=I.tuple hx
  have hlen:its.toArray.size=xs.length:=by rw [J8];exact r.length.symm
  refine ⟨"tuple",_,KP.lookup,ht.typeIs,?_⟩
  exact Af ht hs pl pu (by rw [hlen];exact hw) ⟨.ref a,H,I,rfl,q1 hw⟩
 ·exact FH pins s σ H (.ref a) v vl vu lo hi sl Q I rx hs pl pu ⟨a,xs,rfl,hx,hw,q2 hw⟩
def DR (K:JV):R2:=fun x y H Q=>∃ a b xs ys,x=.ref a∧y=.ref b∧SqT K H a xs∧SqT K H b ys∧xs.length+ys.length≤sizeLine ∧
 (xs=[]→Q (.ref b) H)∧(xs≠[]→ys=[]→Q (.ref a) H)∧(xs≠[]→ys≠[]→∀ p,H p=none→Q (.ref p) (upd H p (.tup (xs++ys))))
theorem zy:OpR X (Mp .Add) (DR X.K):=by
 intro pins s σ H x y v u Q I rx ry h
 obtain ⟨a,b,xs,ys,rfl,rfl,ha,hb,hz,q1,q2,q3⟩:=h
 by_cases hx:xs=[]
 ·cases rx
  cases ry
  obtain ⟨its,r1,p1,_⟩:=I.tuple ha
  obtain ⟨its2,r2,p2,_⟩:=I.tuple hb
  obtain rfl:its=[]:=r1.mz.mpr hx
  exact DB p1 p2 ⟨.ref b,H,I,rfl,q1 hx⟩
 ·exact Cd pins s σ H (.ref a) (.ref b) v u Q I rx ry ⟨a,b,xs,ys,rfl,rfl,ha,hb,hx,hz,q2 hx,q3 hx⟩
def Am:R2:=fun x y H Q=>∃ d e,Rep H x d∧Rep H y e∧D.depth d≤50∧((∃ ds es,d=.tup ds∧e=.tup es)∨∃ ds es,d=.lst ds∧e=.lst es)∧Q (.bl (D.eqv d e)) H
def Aq:R2:=fun x y H Q=>∃ d e,Rep H x d∧Rep H y e∧D.depth d≤50∧((∃ ds es,d=.tup ds∧e=.tup es)∨∃ ds es,d=.lst ds∧e=.lst es)∧Q (.bl (!D.eqv d e)) H
theorem ki {A:KD} {ds es:List D} {its its2:List Value} (I:Inv X pins σ H s) (hu:A.units+64 < cLine) (hd:D.bK ds≤50) (r1:Vals vs its) (r2:Vals us its2) (q1:aE H vs ds) (q2:aE H us es) :
  ∀ j (h1:j < its.toArray.size) (h2:j < its2.toArray.size),Ox A.in1 s its.toArray[j] its2.toArray[j] (D.eqv (ds.getD j .non) (es.getD j .non)):=by
 intro j h1 h2
 have h1':j < its.length:=by simpa using h1
 have h2':j < its2.length:=by simpa using h2
 have l1:=r1.length
 have l2:=r2.length
 have e1:vs[j]?=some (vs[j]'(by omega)):=JZ _
 have e2:us[j]?=some (us[j]'(by omega)):=JZ _
 obtain ⟨a1,b1,c1⟩:=r1.get e1
 obtain ⟨a2,b2,c2⟩:=r2.get e2
 obtain ⟨f1,g1,k1⟩:=q1.get e1
 obtain ⟨f2,g2,k2⟩:=q2.get e2
 have z1:its.toArray[j]=a1:=by
  have:its[j]?=some its[j]:=JZ h1'
  rw [b1] at this
  simpa using (KA this).symm
 have z2:its2.toArray[j]=a2:=by
  have:its2[j]?=some its2[j]:=JZ h2'
  rw [b2] at this
  simpa using (KA this).symm
 rw [z1,z2,Kd,Kd,g1,g2]
 exact sT I 60 A.in1 _ _ _ _ _ _ (by show A.units+1+60 < cLine;omega) (Lj (D.ib g1) (by omega)) c1 c2 k1 k2
theorem Fy (hu:X.A.units+64 < cLine):OpR X (Ku .Eq) Am:=by
 intro pins s σ H x y v u Q I rx ry h
 obtain ⟨d,e,r1,r2,hd,hk,q⟩:=h
 rcases hk with ⟨ds,es,rfl,rfl⟩ | ⟨ds,es,rfl,rfl⟩
 ·cases r1 with
  | tup h1 q1=>
   cases r2 with
   | tup h2 q2=>
    cases rx;cases ry
    obtain ⟨its,rv1,p1,_⟩:=I.tuple (SqT.of h1)
    obtain ⟨its2,rv2,p2,_⟩:=I.tuple (SqT.of h2)
    refine SeqAt.eq_tupleAt (e:=fun j=>D.eqv (ds.getD j .non) (es.getD j .non)) p1 p2 (by omega) (ki I hu (by simp only [D.depth] at hd;omega) rv1 rv2 q1 q2) ⟨.bl _,H,I,rfl,?_⟩
    rw [J8,J8,← rv1.length,← rv2.length,q1.length,q2.length,← D.cL]
    simpa only [D.eqv] using q
 ·cases r1 with
  | lst h1 q1=>
   cases r2 with
   | lst h2 q2=>
    cases rx;cases ry
    obtain ⟨its,rv1,p1,_⟩:=I.list (SqL.of h1)
    obtain ⟨its2,rv2,p2,_⟩:=I.list (SqL.of h2)
    have l1:=rv1.length
    have l2:=rv2.length
    have m1:=q1.length
    have m2:=q2.length
    by_cases hl:ds.length=es.length
    ·refine SeqAt.eq_listAt (e:=fun j=>D.eqv (ds.getD j .non) (es.getD j .non)) p1.isList p2.isList (by simp;omega) (by omega) (ki I hu (by simp only [D.depth] at hd;omega) rv1 rv2 q1 q2) ⟨.bl _,H,I,rfl,?_⟩
     have z:D.bQ ds es=(J_ its.toArray.size).all fun j=>D.eqv (ds.getD j .non) (es.getD j .non):=by
      rw [D.cL,← hl,Sx,J8,← l1,m1];simp
     rw [← z]
     simpa only [D.eqv] using q
    ·refine SeqAt.eq_list_lengthsAt p1.isList p2.isList (by simp;omega) (by omega) ⟨.bl _,H,I,rfl,?_⟩
     have z:D.bQ ds es=false:=by rw [D.cL];simp [hl]
     simpa only [D.eqv,z] using q
theorem Fd (hu:X.A.units+64 < cLine):OpR X (Ku .NotEq) Aq:=by
 intro pins s σ H x y v u Q I rx ry h
 obtain ⟨d,e,r1,r2,hd,hk,q⟩:=h
 rcases hk with ⟨ds,es,rfl,rfl⟩ | ⟨ds,es,rfl,rfl⟩
 ·cases r1 with
  | tup h1 q1=>
   cases r2 with
   | tup h2 q2=>
    cases rx;cases ry
    obtain ⟨its,rv1,p1,_⟩:=I.tuple (SqT.of h1)
    obtain ⟨its2,rv2,p2,_⟩:=I.tuple (SqT.of h2)
    refine Ww (e:=fun j=>D.eqv (ds.getD j .non) (es.getD j .non)) p1 p2 (by omega) (ki I hu (by simp only [D.depth] at hd;omega) rv1 rv2 q1 q2) _ _ _ _ ⟨.bl _,H,I,rfl,?_⟩
    rw [J8,J8,← rv1.length,← rv2.length,q1.length,q2.length,← D.cL]
    simpa only [D.eqv] using q
 ·cases r1 with
  | lst h1 q1=>
   cases r2 with
   | lst h2 q2=>
    cases rx;cases ry
    obtain ⟨its,rv1,p1,_⟩:=I.list (SqL.of h1)
    obtain ⟨its2,rv2,p2,_⟩:=I.list (SqL.of h2)
    have l1:=rv1.length
    have l2:=rv2.length
    have m1:=q1.length
    have m2:=q2.length
    by_cases hl:ds.length=es.length
    ·refine WD (e:=fun j=>D.eqv (ds.getD j .non) (es.getD j .non)) p1.isList p2.isList (by simp;omega) (by omega) (ki I hu (by simp only [D.depth] at hd;omega) rv1 rv2 q1 q2) _ _ _ _ ⟨.bl _,H,I,rfl,?_⟩
     have z:D.bQ ds es=(J_ its.toArray.size).all fun j=>D.eqv (ds.getD j .non) (es.getD j .non):=by
      rw [D.cL,← hl,Sx,J8,← l1,m1];simp
     rw [← z]
     simpa only [D.eqv] using q
    ·refine UU p1.isList p2.isList (by simp;omega) (by omega) _ _ _ _ ⟨.bl _,H,I,rfl,?_⟩
     have z:D.bQ ds es=false:=by rw [D.cL];simp [hl]
     simpa only [D.eqv,z,Bool.not_false] using q
theorem Gq (hu:X.A.units+64 < cLine):OpR X (Ku .Eq) (fun x y H Q=>rEq x y H Q∨Am x y H Q):=Hs.or (Fy hu)
theorem Gn (hu:X.A.units+64 < cLine):OpR X (Ku .NotEq) (fun x y H Q=>rNe x y H Q∨Aq x y H Q):=HS.or (Fd hu)
theorem EJ:OpR X (Ku .Is) (fun x y H Q=>zI x y H Q∨(y=.non∧Q (.bl (decide (x=.non))) H)):=Ak.or DG
theorem mF:∀ {bs:List Bool} {us:List Value},Vals (bs.map V.bl) us→us=bs.map Np
 | [],_,h=>by cases h;rfl
 | b :: bs,_,h=>by
  cases h with
  | cons r t=>cases r;rw [mF t];rfl
theorem xO (hc:X.calm=true):cc X (.builtin "all") (fun xs H Q=>∃ (p:Addr) (bs:List Bool),xs=[.ref p]∧SqL X.K H p (bs.map V.bl)∧Q (.bl (bs.all id)) H):=by
 intro pins s σ H xs us Q I r h
 obtain ⟨p,bs,rfl,hq,q⟩:=h
 obtain ⟨u,rfl,rx⟩:=vals1 r
 cases rx
 obtain ⟨its,rv,pl,hz⟩:=I.list hq
 have hits:=mF rv
 subst hits
 have hA:X.A.in1.handled=none:=I.ok.hd hc
 obtain ⟨o,ho,hcl,n,hd⟩:=pl.isList
 have hne:p≠s.heap.objs.size:=Kf (J4 ho)
 refine call_all_walk (NK pl.isList ?_)
 refine ⟨s.heap.objs.size,_,_,_,_,_,fun i=>bs.getD i true,rfl,T2 (prog:=X.prog) (w:=X.w) hA s.heap.objs.size p hne (bs.map Np).toArray,⟨⟨_,Kc _ rfl,rfl,rfl⟩,⟨o,C0 _ ho,hcl,n,hd⟩⟩,?_,fun h' tk hk=>?_⟩
 ·intro i v s' Q' E' hP hQ
  have hP':(bs.map Np).toArray[i]?=some v:=hP
  rw [Mi,Kv] at hP'
  cases e:bs[i]? with
  | none=>rw [e] at hP';cases hP'
  | some b=>
   rw [e] at hP'
   cases hP'
   have hQ:Q' (bs.getD i true) s':=hQ
   rw [Kd,e] at hQ
   exact Lq hQ
 ·have z:(J_ (bs.map Np).toArray.size).all (fun i=>bs.getD i true)=bs.all id:=by
   rw [J8,J0,Lm,Mv,Mv]
   constructor
   ·intro h b hb
    obtain ⟨i,hi,e⟩:=L4.mp hb
    have:=h i (Lb.mpr hi)
    rw [Kd,JZ hi] at this
    simpa [e] using this
   ·intro h i hi
    have hi':=Lb.mp hi
    rw [Kd,JZ hi']
    exact h _ (L5 hi')
  rw [z]
  have I1:Inv X pins σ H { s with heap:=s.heap.push { cls:=.type "list_iterator",data:=.fields #[.ref p,.int 0 0] } }:=I.kept (t':=s.toks) fun b o e=>C0 _ e
  have fk:gA X pins H s.heap.objs.size:=I.nq (J3 _) (I.hok.fresh (J3 _))
  obtain ⟨f0,f1,f2,f3,f4,f5⟩:=fk
  exact ⟨.bl _,H,I1.turned (t':=tk) (it:=s.heap.objs.size) (fun b o hb e=>hk b o (fun z=>hb (Ka.mp z)) e) f0 f1 f3 f4 f5,rfl,q⟩
theorem rh:cc X (.builtin "sorted") (fun xs H Q=>∃ (p:Addr) (ns:List Int),xs=[.ref p]∧SqL X.K H p (ns.map V.int)∧ns.length < 64∧∀ (l:Addr) (ms:List Int),H l=none→MU ms ns→ms.Pairwise (·≤·)→Q (.ref l) (upd H l (.lst (ms.map V.int)))):=by
 intro pins s σ H xs us Q I r h
 obtain ⟨p,ns,rfl,hq,hl,q⟩:=h
 obtain ⟨u,rfl,rx⟩:=vals1 r
 cases rx
 obtain ⟨its,rv,pl,hz⟩:=I.list hq
 have hI:K8 its ns:=intsAre_of rv
 have h64:its.length < 64:=by rw [← rv.length,J0];exact hl
 refine sorted_ints pl.isList hI h64 fun out ms hout hperm hpair=>?_
 obtain ⟨e,he⟩:=sortedAll_at s.heap its out
 refine ⟨.ref (s.heap.objs.size+1),_,I.laid (t':=s.toks) (o:=.lst (ms.map V.int)) (fun b ob q=>sortedAll_old q) (N5 _) ?_,rfl,q _ ms (I.hok.fresh (N5 _)) hperm hpair⟩
 have hlm:ms.length=ns.length:=hperm.length_eq
 exact ⟨by rw [J0];have:(64:Nat)≤sizeLine:=(by decide);omega,out.toList,e,gT hout,by simpa using he⟩
end
def iQ (H:Hp) (p:Addr):Option (List V):=match H p with
 | some (.lst xs)=>some xs
 | some (.tup xs)=>some xs
 | _=>none
theorem Ej (h:H p=some (.tup xs)):iQ H p=some xs:=by unfold iQ;rw [h]
theorem E5 (h:H p=some (.lst xs)):iQ H p=some xs:=by unfold iQ;rw [h]
theorem mH (h:iQ H p=some xs):H p=some (.lst xs)∨H p=some (.tup xs):=by
 unfold iQ at h
 split at h
 ·cases h;exact .inl ‹_›
 ·cases h;exact .inr ‹_›
 ·cases h
section
variable {X:Cx}
def DX:R2:=fun x y H Q=>∃ p i xs v,x=.ref p∧y=.int i∧iQ H p=some xs∧atI xs i=some v∧Q v H
theorem Jv:IxR X DX:=by
 intro value slice pins s σ H x y v u Q I rx ry q hs
 obtain ⟨p,i,xs,w',rfl,rfl,h,e,q⟩:=q
 rcases mH h with h | h
 ·exact BI value slice pins s σ H _ _ v u Q I rx ry ⟨p,xs,i,w',rfl,rfl,SqL.of h,e,q⟩ hs
 ·exact Fu value slice pins s σ H _ _ v u Q I rx ry ⟨p,xs,i,w',rfl,rfl,SqT.of h,e,q⟩ hs
def AY:List V→Hp→VK→Prop:=fun vs H Q=>∃ p xs,vs=[.ref p]∧iQ H p=some xs∧Q (.int xs.length) H
theorem aB:cc X (.builtin "len") AY:=by
 intro pins s σ H vs us Q I r h
 obtain ⟨p,xs,rfl,h,q⟩:=h
 rcases mH h with h | h
 ·exact sH pins s σ H _ us Q I r ⟨_,_,rfl,.inl ⟨xs,SqL.of h,rfl⟩,q⟩
 ·exact sH pins s σ H _ us Q I r ⟨_,_,rfl,.inr ⟨xs,SqT.of h,rfl⟩,q⟩
def tL:List V→Hp→VK→Prop:=fun vs H Q=>∃ p xs,vs=[.ref p]∧iQ H p=some xs∧∀ l,H l=none→Q (.ref l) (upd H l (.lst xs))
theorem eV:cc X (.type "list") tL:=by
 intro pins s σ H vs us Q I r h
 obtain ⟨p,xs,rfl,h,q⟩:=h
 rcases mH h with h | h
 ·exact l8 pins s σ H _ us Q I r ⟨p,xs,rfl,.inl (SqL.of h),q⟩
 ·exact l8 pins s σ H _ us Q I r ⟨p,xs,rfl,.inr (SqT.of h),q⟩
def ue:List V→Hp→VK→Prop:=fun vs H Q=>∃ p,vs=[.ref p]∧((∃ xs,H p=some (.lst xs)∧∀ l,H l=none→Q (.ref l) (upd H l (.tup xs)))∨∃ xs,H p=some (.tup xs)∧Q (.ref p) H)
theorem cZ:cc X (.type "tuple") ue:=by
 intro pins s σ H vs us Q I r h
 obtain ⟨p,rfl,⟨xs,h,q⟩ | ⟨xs,h,q⟩⟩:=h
 ·exact kM pins s σ H _ us Q I r ⟨p,xs,rfl,.inl ⟨SqL.of h,q⟩⟩
 ·exact kM pins s σ H _ us Q I r ⟨p,xs,rfl,.inr ⟨SqT.of h,q⟩⟩
def I0:V→Option Int→Option Int→Hp→VK→Prop:=fun x lo hi H Q=>∃ p,x=.ref p∧((∃ xs,H p=some (.tup xs)∧(iO xs.length lo hi→Q (.ref p) H)∧(¬iO xs.length lo hi→∀ l,H l=none→Q (.ref l) (upd H l (.tup (iT xs lo hi))))) ∨
 ∃ xs,H p=some (.lst xs)∧∀ l,H l=none→Q (.ref l) (upd H l (.lst (iT xs lo hi))))
theorem Jn:SlR X I0:=by
 intro pins s σ H x v vl vu lo hi sl Q I rx hs pl pu h
 obtain ⟨p,rfl,⟨xs,h,q1,q2⟩ | ⟨xs,h,q⟩⟩:=h
 ·exact BE pins s σ H _ v vl vu lo hi sl Q I rx hs pl pu ⟨p,xs,rfl,SqT.of h,q1,q2⟩
 ·exact uw pins s σ H _ v vl vu lo hi sl Q I rx hs pl pu ⟨p,xs,rfl,SqL.of h,q⟩
def F9 (neg:Bool):R2:=fun x y H Q=>∃ p xs,y=.ref p∧iQ H p=some xs∧fC x=true∧xs.all fC=true∧Q (.bl (if neg then !inV x xs else inV x xs)) H
theorem yC:OpR X (Ku .NotIn) (F9 true):=by
 intro pins s σ H x y v u Q I rx ry h
 obtain ⟨p,xs,rfl,h,f1,f2,q⟩:=h
 rcases mH h with h | h
 ·exact lh pins s σ H _ _ v u Q I rx ry ⟨p,xs,rfl,.inl (SqL.of h),f1,f2,q⟩
 ·exact lh pins s σ H _ _ v u Q I rx ry ⟨p,xs,rfl,.inr (SqT.of h),f1,f2,q⟩
def By:R2:=fun x y H Q=>(∃ i j,x=.int i∧y=.int j∧Q (.int (i+j)) H)∨∃ a b,x=.ref a∧y=.ref b ∧
  ((∃ xs ys,H a=some (.tup xs)∧H b=some (.tup ys)∧xs.length+ys.length≤sizeLine∧(xs=[]→Q (.ref b) H)∧(xs≠[]→ys=[]→Q (.ref a) H)∧(xs≠[]→ys≠[]→∀ p,H p=none→Q (.ref p) (upd H p (.tup (xs++ys))))) ∨
   ∃ xs ys,H a=some (.lst xs)∧H b=some (.lst ys)∧xs.length+ys.length≤sizeLine∧∀ p,H p=none→Q (.ref p) (upd H p (.lst (xs++ys))))
theorem BF:OpR X (Mp .Add) By:=by
 intro pins s σ H x y v u Q I rx ry h
 rcases h with ⟨i,j,rfl,rfl,q⟩ | ⟨a,b,rfl,rfl,⟨xs,ys,h1,h2,hz,q1,q2,q3⟩ | ⟨xs,ys,h1,h2,hz,q⟩⟩
 ·exact ET pins s σ H _ _ v u Q I rx ry ⟨i,j,rfl,rfl,q⟩
 ·exact zy pins s σ H _ _ v u Q I rx ry ⟨a,b,xs,ys,rfl,rfl,SqT.of h1,SqT.of h2,hz,q1,q2,q3⟩
 ·exact Fq pins s σ H _ _ v u Q I rx ry ⟨a,b,xs,ys,rfl,rfl,h1,h2,hz,q⟩
def EZ:R2:=fun x y H Q=>rEq x y H Q∨Am x y H Q
def ES:R2:=fun x y H Q=>rNe x y H Q∨Aq x y H Q
theorem bN (hu:X.A.units+64 < cLine):OpR X (Ku .Eq) EZ:=Gq hu
theorem cO (hu:X.A.units+64 < cLine):OpR X (Ku .NotEq) ES:=Gn hu
def Gg:R2:=fun x y H Q=>zI x y H Q∨(y=.non∧Q (.bl (decide (x=.non))) H)
theorem sG:OpR X (Ku .Is) Gg:=EJ
def Bl:List V→Hp→VK→Prop:=fun vs H Q=>∃ (p:Addr) (bs:List Bool),vs=[.ref p]∧H p=some (.lst (bs.map V.bl))∧Q (.bl (bs.all id)) H
theorem fK (hc:X.calm=true):cc X (.builtin "all") Bl:=by
 intro pins s σ H vs us Q I r h
 obtain ⟨p,bs,rfl,h,q⟩:=h
 exact xO hc pins s σ H _ us Q I r ⟨p,bs,rfl,SqL.of h,q⟩
def tq:List V→Hp→VK→Prop:=fun vs H Q=>∃ (p:Addr) (ns:List Int),vs=[.ref p]∧H p=some (.lst (ns.map V.int))∧ns.length < 64∧∀ (l:Addr) (ms:List Int),H l=none→MU ms ns→ms.Pairwise (·≤·)→Q (.ref l) (upd H l (.lst (ms.map V.int)))
theorem sI:cc X (.builtin "sorted") tq:=by
 intro pins s σ H vs us Q I r h
 obtain ⟨p,ns,rfl,h,hl,q⟩:=h
 exact rh pins s σ H _ us Q I r ⟨p,ns,rfl,SqL.of h,hl,q⟩
def Fj:List V→Hp→VK→Prop:=fun vs H Q=>∃ i j,vs=[.int i,.int j]∧Q (.int (if j > i then j else i)) H
def Fc:List V→Hp→VK→Prop:=fun vs H Q=>∃ i j,vs=[.int i,.int j]∧Q (.int (if j < i then j else i)) H
theorem qc (hc:X.calm=true):cc X (.builtin "max") Fj:=yS hc
theorem ji (hc:X.calm=true):cc X (.builtin "min") Fc:=yt hc
def Jl (to te:TE):TE:=fun σ H Q=>to σ H fun x H1=>∃ l xs0,x=.ref l∧H1 l=some (.lst xs0)∧te σ H1 fun y H2=>∃ xs,H2 l=some (.lst xs)∧xs.length < sizeLine∧Q .non (upd H2 l (.lst (xs++[y])))
theorem DU (ho:PE X o to) (he:PE X e te)
  (hbase:MI o "append" X.env (KC o X.env)=KC o X.env:=by rfl)
  (hfew:((Ly cpos (J7 [e] X.env)).all (fun x=>!x.1) && (OT cpos (NC [] X.env)).all (fun x=>x.1.isSome) && decide ([e].length+([]:List MN).length+(if ([]:List MN).isEmpty then 0 else 1) < 30))=true:=by rfl)
  (hline:(apos.endLine == cpos.line)=true:=by rfl) (hs:J7 [e] X.env=(false,KC e X.env) :: J7 [] X.env:=by rfl):PE X (.Call (.Attribute o "append" apos) [e] [] cpos) (Jl to te):=by
 intro pins s σ H Q I h
 refine Q5 hbase hfew hline rfl (thn (ho pins s σ H _ I h) fun v s1 ⟨x,H1,I1,r1,l,xs0,e0,hl,q1⟩=>?_)
 subst e0
 have ty:tyV X.K "list" (.ref l) H1:=.inl ⟨rfl,_,SqL.of hl⟩
 obtain ⟨h1,h2⟩:=wR I1 r1 ty
 refine ⟨"list",_,QI,PySem.F.slot_list_append,PySem.F.type_list_append,h1,h2,?_⟩
 have hA:=(di he fY hs) cpos pins s1 σ H1 (fun vs H2=>∃ y,vs=[y]∧∃ xs,H2 l=some (.lst xs)∧xs.length < sizeLine∧Q .non (upd H2 l (.lst (xs++[y])))) I1 (by
  refine cast (LZ (te σ H1) ?_) q1
  funext y H2
  refine propext ⟨fun q=>⟨y,rfl,q⟩,fun ⟨y',e',q⟩=>?_⟩
  cases e'
  exact q)
 rw [hs] at hA ⊢
 refine ND (by show (false || (Ly cpos (J7 ([]:List Ke) X.env)).any (·.1))=false;rfl) (Nc ?_)
 exact thn hA fun us s2 ⟨vs,H2,I2,r2,y,e2,xs,h3,hz,q2⟩=>qp pins s2 σ H2 (.ref l) vs v us Q I2 r1 r2 ⟨l,xs,y,rfl,e2,h3,hz,q2⟩
def II (te ts:TE):TE:=fun σ H Q=>te σ H fun x H1=>ts σ H1 fun y H2=>∃ a xs,x=.ref a∧y=.int (-1)∧H2 a=some (.tup xs)∧∀ p,H2 p=none→Q (.ref p) (upd H2 p (.tup xs.reverse))
end
theorem Cn {X:Cx} {e st:Ke} {te ts:TE} {p2 pos:Pos} (he:PE X e te) (hs:PE X st ts):PE X (.Subscript e (.Slice none none (some st) p2) pos) (II te ts):=by
 intro pins s σ H Q I h
 refine RF (thn (he pins s σ H _ I h) fun v s1 ⟨x,H1,I1,r1,q1⟩=>?_)
 refine wpAny_Slice ?_
 rw [RV]
 refine tx (tx ?_)
 rw [evalPart_some]
 refine thn (hs pins s1 σ H1 _ I1 q1) fun u s2 ⟨y,H2,I2,r2,q2⟩=>?_
 obtain ⟨a,xs,rfl,rfl,hx,q⟩:=q2
 cases r1
 obtain ⟨tk,rfl⟩:=r2
 have I3:Inv X pins σ H2 { s2 with heap:=s2.heap.push { cls:=.type "slice",data:=.fields #[.none,.none,.int (-1) tk] } }:=I2.kept (t':=s2.toks) fun b ob q=>C0 _ q
 obtain ⟨its,r,ht,hz⟩:=I3.tuple (SqT.of hx)
 show JY (J6 X.prog X.w) X.A (RX e (.Slice none none (some st) p2) (.ref a) (.ref s2.heap.objs.size)) (EP X pins σ Q) X.xe { s2 with heap:=s2.heap.push { cls:=.type "slice",data:=.fields #[.none,.none,.int (-1) tk] } }
 refine Vw (ops:=[.ref a,.ref s2.heap.objs.size]) ht.typeIs KP.lookup (AD ht (Sr ..) (by rw [← r.length];exact hz) ?_) (by with_unfolding_all rfl)
 refine ⟨.ref _,_,I3.laid (t':=s2.toks) (o:=.tup xs.reverse) (fun b ob q=>C0 _ q) (J3 _) ?_,rfl,q _ (I3.hok.fresh (J3 _))⟩
 exact ⟨by rw [Pg];exact hz,_,r.reverse,QO _ _⟩
theorem qO {n:Nat} {k:Int} (h0:0≤k) (h:k < (n:Int)):ixN n k=some k.toNat:=by
 unfold ixN
 rw [J2 h0,J2 h]
class NS (e:Ke):Prop where
 eq:∀ (es:List Ke) (env:Env),J7 (e :: es) env=(false,KC e env) :: J7 es env
instance {c:Const} {k:Nat} {p:Pos}:NS (.Constant c k p):=⟨fun _ _=>rfl⟩
instance {x:Str} {p:Pos}:NS (.Name x p):=⟨fun _ _=>rfl⟩
instance {es:List Ke} {k:Nat} {p:Pos}:NS (.Tuple es k p):=⟨fun _ _=>rfl⟩
instance {es:List Ke} {p:Pos}:NS (.List es p):=⟨fun _ _=>rfl⟩
instance {a:Ke} {o:Operator} {b:Ke} {p:Pos}:NS (.BinOp a o b p):=⟨fun _ _=>rfl⟩
instance {o:UnaryOp} {a:Ke} {p:Pos}:NS (.UnaryOp o a p):=⟨fun _ _=>rfl⟩
instance {f:Ke} {es:List Ke} {ks:List MN} {p:Pos}:NS (.Call f es ks p):=⟨fun _ _=>rfl⟩
instance {a b:Ke} {p:Pos}:NS (.Subscript a b p):=⟨fun _ _=>rfl⟩
instance {a:Ke} {os:List TV} {bs:List Ke} {p:Pos}:NS (.Compare a os bs p):=⟨fun _ _=>rfl⟩
instance {o:BoolOp} {es:List Ke} {p:Pos}:NS (.BoolOp o es p):=⟨fun _ _=>rfl⟩
instance {a b c:Ke} {p:Pos}:NS (.IfExp a b c p):=⟨fun _ _=>rfl⟩
instance {e:Ke} {gs:List Comprehension} {sc:Scope} {p:Pos}:NS (.ListComp e gs sc p):=⟨fun _ _=>rfl⟩
structure PL (X:Cx) (es:List Ke) (t:TA):Prop where
 h:PA X es t
section
variable {X:Cx}
def tLm (r:V→List V→Hp→VK→Prop) (to te:TE):TE:=fun σ H Q=>to σ H fun x H1=>∃ l xs0,x=.ref l∧H1 l=some (.lst xs0)∧te σ H1 fun y H2=>r (.ref l) [y] H2 Q
theorem AW {r:V→List V→Hp→VK→Prop} {name:Str} {id:String} {o e:Ke} {to te:TE} {apos cpos:Pos} (slot:Slot "list" name id) (hty:Sv (.builtin id)=pure (.type "method_descriptor")) (hm:MtM X id r) (ho:PE X o to) (he:PE X e te)
  (hbase:MI o name X.env (KC o X.env)=KC o X.env:=by rfl)
  (hfew:((Ly cpos (J7 [e] X.env)).all (fun x=>!x.1) && (OT cpos (NC [] X.env)).all (fun x=>x.1.isSome) && decide ([e].length+([]:List MN).length+(if ([]:List MN).isEmpty then 0 else 1) < 30))=true:=by rfl)
  (hline:(apos.endLine == cpos.line)=true:=by rfl) (hs:J7 [e] X.env=(false,KC e X.env) :: J7 [] X.env:=by rfl):PE X (.Call (.Attribute o name apos) [e] [] cpos) (tLm r to te):=by
 intro pins s σ H Q I h
 refine Q5 hbase hfew hline rfl (thn (ho pins s σ H _ I h) fun v s1 ⟨x,H1,I1,r1,l,xs0,e0,hl,q1⟩=>?_)
 subst e0
 have ty:tyV X.K "list" (.ref l) H1:=.inl ⟨rfl,_,SqL.of hl⟩
 obtain ⟨h1,h2⟩:=wR I1 r1 ty
 refine ⟨"list",_,QI,slot,hty,h1,h2,?_⟩
 have hA:=(di he fY hs) cpos pins s1 σ H1 (fun vs H2=>∃ y,vs=[y]∧r (.ref l) [y] H2 Q) I1 (by
  refine cast (LZ (te σ H1) ?_) q1
  funext y H2
  refine propext ⟨fun q=>⟨y,rfl,q⟩,fun ⟨y',e',q⟩=>?_⟩
  cases e'
  exact q)
 rw [hs] at hA ⊢
 refine ND (by show (false || (Ly cpos (J7 ([]:List Ke) X.env)).any (·.1))=false;rfl) (Nc ?_)
 exact thn hA fun us s2 ⟨vs,H2,I2,r2,y,e2,q2⟩=>hm pins s2 σ H2 (.ref l) vs v us Q I2 r1 r2 (by rw [e2];exact q2)
theorem uA:∀ (us:List Value) (k:Nat),(∀ j v,us[j]?=some v→RelV (f (k+j)) v)→Vals ((List.range' k us.length).map f) us
 | [],_,_=>.nil
 | u :: us,k,h=>by
  rw [Km,List.range'_succ,Kx]
  refine .cons (h 0 u rfl) (uA us (k+1) fun j v e=>?_)
  have:=h (j+1) v (by simpa using e)
  rw [show k+1+j=k+(j+1) by omega]
  exact this
def tLR (ta:TA):TE:=fun σ H Q=>ta σ H fun vs H1=>∃ j:Int,vs=[.int j]∧0≤j∧j≤1000∧∀ l,H1 l=none→Q (.ref l) (upd H1 l (.lst ((J_ j.toNat).map fun i=>V.int (i:Nat))))
theorem sC (hc:X.calm=true) (hgl:Gl X "list") (hml:X.mg "list"=none) (hgr:Gl X "range") (hmr:X.mg "range"=none) (hbl:Kj "list"=some (.type "list")) (ha:PA X [a] ta)
  (hs:J7 [a] X.env=[(false,KC a X.env)]:=by rfl)
  (hs2:J7 [Mc (.Name "range" p2) [a] [] pos2] X.env=(false,KC (Mc (.Name "range" p2) [a] [] pos2) X.env) :: J7 [] X.env:=by rfl) :
  PE X (.Call (.Name "list" p1) [.Call (.Name "range" p2) [a] [] pos2] [] pos1) (tLR ta):=by
 intro pins s σ H Q I h
 refine LV (df I hgl hml hbl ?_)
 refine K9 ?_ hs2 rfl
 rw [hs2]
 show JY _ _ (SN ((false,KC (Mc (.Name "range" p2) [a] [] pos2) X.env) :: Ly pos1 (J7 [] X.env))) _ _ s
 refine Of ?_
 refine SR (df I hgr hmr TU (K9 (thn (ha pos2 pins s σ H _ I h) fun us s1 ⟨vs,H1,I1,r1,q1⟩=>?_) hs rfl))
 obtain ⟨j,e,j0,j1,q⟩:=q1
 subst e
 cases r1 with
 | cons r rr=>
  cases rr
  obtain ⟨t,rfl⟩:=r
  refine call_range_1 ?_
  have hA:X.A.handled=none:=I.ok.hd hc
  have I2:Inv X pins σ H1 { s1 with heap:=s1.heap.push { cls:=.type "range",data:=.fields #[.int 0 s1.toks,.int j t,.int 1 (s1.toks+1)] },toks:=s1.toks+1+1 }:=I1.kept fun b o e=>C0 _ e
  refine tx ?_
  have hsz:QH 0 j 1=((j.toNat:Nat):Int):=by rw [rangeSize_one];split<;>omega
  refine call_list_range hA (VR ..) (small_one (by omega) (by omega) (by omega) (by omega)) hsz (by omega) fun h' tk acc c' hk hnew hit=>?_
  have hvals:Vals ((J_ j.toNat).map fun i=>V.int (i:Nat)) acc.toList:=by
   have hl:acc.toList.length=j.toNat:=by rw [Kh];exact hit.1
   rw [← hl,List.range_eq_range']
   refine uA acc.toList 0 fun i v e=>?_
   obtain ⟨t2,rfl⟩:=hit.2 i v (by simpa using e)
   exact ⟨t2,by congr 1;omega⟩
  refine ⟨.ref _,_,I2.laid (t':=tk) (o:=.lst ((J_ j.toNat).map fun i=>V.int (i:Nat))) hk (J3 _) ⟨?_,acc.toList,c',hvals,?_⟩,rfl,q _ (I2.hok.fresh (J3 _))⟩
  ·rw [J0,NL]
   exact LM (du (by omega))
  ·simpa using hnew
end
section
variable {X:Cx}
theorem zr:∀ {x y:V} {u:Value},RelV x u→RelV y u→x=y:=by
  intro x y u h1 h2
  cases x<;>cases y<;>simp only [RelV] at h1 h2<;>first
    | rfl
    | (subst h1;cases h2;done)
    | (subst h1;cases h2;rfl)
    | (obtain ⟨t,rfl⟩:=h1;cases h2;done)
    | (obtain ⟨t,rfl⟩:=h1;obtain ⟨t2,e⟩:=h2;cases e;rfl)
    | (obtain ⟨t,rfl⟩:=h1;obtain ⟨t2,e⟩:=h2;cases e;done)
    | (obtain ⟨t,rfl⟩:=h2;cases h1;done)
def F1 (neg:Bool):R2:=fun x y H Q=>∃ (p:Addr) (vs:List V) (d:D) (ds:List D),y=.ref p∧H p=some (.lst vs)∧aE H vs ds∧Rep H x d∧D.bK ds≤50∧Q (.bl (if neg then !ds.any (fun e=>D.eqv e d) else ds.any fun e=>D.eqv e d)) H
theorem CP (hu:X.A.units+64 < cLine) (I:Inv X pins σ H s) (rx:RelV x v) (hq:H p=some (.lst vs)) (rs:aE H vs ds) (rd:Rep H x d) (hd:D.bK ds≤50) :
  ∃ (its:List Value) (e:Value→Bool),s.heap.IsList p its.toArray∧(∀ y∈its.toArray,Ox X.A.in1 s y v (e y))∧its.toArray.any e=ds.any fun e=>D.eqv e d:=by
 classical
 obtain ⟨its,r,pl,hz⟩:=I.list (SqL.of hq)
 have l1:=r.length
 have l2:=rs.length
 have key:∀ (j:Nat) (u:Value),its[j]?=some u→∃ (y:V) (e:D),vs[j]?=some y∧ds[j]?=some e∧RelV y u∧Rep H y e:=by
  intro j u hj
  have hlt:=(J5.mp hj).1
  have e1:vs[j]?=some (vs[j]'(by omega)):=JZ _
  obtain ⟨a1,b1,c1⟩:=r.get e1
  obtain ⟨f1,g1,k1⟩:=rs.get e1
  rw [hj] at b1
  cases b1
  exact ⟨_,f1,e1,g1,c1,k1⟩
 refine ⟨its,fun u=>decide (∃ (j:Nat) (y:V) (e:D),its[j]?=some u∧vs[j]?=some y∧ds[j]?=some e∧D.eqv e d=true),pl.isList,?_,?_⟩
 ·intro u hm
  have hm':u∈its:=by simpa using hm
  obtain ⟨j,hj⟩:=MY.mp hm'
  obtain ⟨y,e,h1,h2,h3,h4⟩:=key j u hj
  have q:=sT I 60 X.A.in1 y x u v e d (by show X.A.units+1+60 < cLine;omega) (Lj (D.ib h2) (by omega)) h3 rx h4 rd
  have z:decide (∃ (j:Nat) (y:V) (e:D),its[j]?=some u∧vs[j]?=some y∧ds[j]?=some e∧D.eqv e d=true)=D.eqv e d:=by
   rw [Lm,M8]
   refine ⟨fun ⟨j',y',e',g1,g2,g3,g4⟩=>?_,fun h=>⟨j,y,e,hj,h1,h2,h⟩⟩
   obtain ⟨y2,e2,k1,k2,k3,k4⟩:=key j' u g1
   rw [g2] at k1;cases k1
   rw [g3] at k2;cases k2
   have:=zr h3 k3
   subst this
   rw [Rep.inj h4 k4]
   exact g4
  show Ox X.A.in1 s u v (decide _)
  rw [z]
  exact q
 ·rw [TB,Lm,OU,OU]
  constructor
  ·rintro ⟨u,hu',h⟩
   obtain ⟨j,y,e,g1,g2,g3,g4⟩:=Li h
   exact ⟨e,K0 g3,g4⟩
  ·rintro ⟨e,he,h⟩
   obtain ⟨j,hj⟩:=MY.mp he
   have hlt:=(J5.mp hj).1
   have e1:its[j]?=some (its[j]'(by omega)):=JZ _
   obtain ⟨y,e',h1,h2,h3,h4⟩:=key j _ e1
   exact ⟨_,K0 e1,JW ⟨j,y,e,e1,h1,hj,h⟩⟩
theorem wN (hu:X.A.units+64 < cLine):OpR X (Ku .NotIn) (F1 true):=by
 intro pins s σ H x y v u Q I rx ry h
 obtain ⟨p,vs,d,ds,rfl,hq,rs,rd,hd,q⟩:=h
 cases ry
 obtain ⟨its,e,h1,h2,h3⟩:=CP hu I rx hq rs rd hd
 refine Su e h1 h2 ⟨.bl _,H,I,rfl,?_⟩
 rw [h3]
 exact q
end
theorem nK:fillsNumberSlot (.type "tuple") "mul"=pure false:=PySem.fillsNumberSlot_seq Qw.lookup (by first | rfl | decide +kernel) Te.lookup (by first | rfl | decide +kernel)
theorem rH:seqRepeat? (.type "tuple")=pure (some (.builtin "tuple.__mul__")):=by
 unfold seqRepeat?
 have e1:seqSlot? (.type "tuple") (K6 "__mul__")=pure (some (.builtin "tuple.__mul__")):=TC Qw.lookup (by first | rfl | decide +kernel)
 have e2:seqSlot? (.type "tuple") (K6 "__rmul__")=pure (some (.builtin "tuple.__rmul__")):=TC Te.lookup (by first | rfl | decide +kernel)
 rw [e1,e2]
 rfl
section
variable {prog:Kn} {w:Kq} {A:KD} {E:Value→JU→Prop} {s:JU}
theorem vS {a:Int} {t:Tok} {l:Addr} {o:Obj} {items:Array Value} {n:Nat} {hp:Heap} {g:Array Pk} {d:SK} {tk:Nat} {os:SU} {Q:Value→JU→Prop} (hl:hp.get? l=some o) (hd:o.data=.seq items n) (h:Q .notImplemented ⟨hp,g,d,tk,os⟩) :
  JY (J6 prog w) A (call (.builtin "int.__rmul__") [.int a t,.ref l]) Q E ⟨hp,g,d,tk,os⟩:=by
 refine K3 T3 (TX _ a t) F.entry_int_rmul ?_ (F.args_int_rmul_2 _ _)
 unfold Builtin.«int.__rmul__» V2
 wp_walk
 rw [hd]
 exact tx (ar (NW (tx ⟨_,rfl,h⟩)))
section
theorem nh (u:Value):∀ (m:Nat) (acc:Array Value),T4 (fun x1 x2=>x1++x2) acc (Kb m #[u])=acc++(Kb m u).toArray
 | 0,acc=>by simp
 | m+1,acc=>by
  rw [ML,QT,nh u m]
  apply Array.toList_inj.mp
  simp [ML]
end
theorem yZ (hl:s.heap.IsTuple l items) (h1:0≤k) (h2:k≤100) (hne:items.size=1) (hk1:k=1→Q (.ref l) s)
  (h:k≠1→Q (.ref s.heap.objs.size) { s with heap:=s.heap.push { cls:=.type "tuple",data:=.seq (T4 (fun x1 x2=>x1++x2) #[] (Kb k.toNat items)) } }) :
  JY (J6 prog w) A (call (.builtin "tuple.__mul__") [.ref l,.int k t]) Q E s:=by
 refine K3 Qw hl.typeIs F.entry_tuple_mul ?_ (F.args_tuple_mul_2 _ _)
 unfold Builtin.«tuple.__mul__»
 have hb:decide ((decide (k < -2 ^ 63) || decide (k ≥ 2 ^ 63))=true)=false:=by
  rw [H0 (show ¬k < -2 ^ 63 by omega),H0 (show ¬k ≥ 2 ^ 63 by omega)]
  rfl
 refine JX hb ?_
 refine ar ?_
 obtain ⟨o,ho,hc,n,hd⟩:=hl
 unfold M3
 refine ar (LA ho hd (tx ?_))
 have he:items.isEmpty=false:=by
  rw [Array.isEmpty_eq_false_iff]
  intro z
  rw [z] at hne
  simp at hne
 have hz:(1000:Nat)≤sizeLine:=LM (du (J3 1000))
 by_cases k1:k=1
 ·refine Lh (by rw [k1];simp) ?_
  unfold N2
  refine ar (ar (Lf ⟨o,ho,hc⟩ (tx ?_)))
  exact Lh (by decide) (ar (NW (tx ⟨_,rfl,hk1 k1⟩)))
 refine JX (by rw [he];simp;omega) ?_
 by_cases k0:k=0
 ·refine Lh (by rw [k0];simp) ?_
  have h:=h k1
  rw [k0] at h
  exact ar (KN (tx ⟨_,rfl,h⟩) (by show 0≤sizeLine;omega))
 refine JX (by rw [he];simp;omega) ?_
 refine JX (by rw [hne];simp;omega) ?_
 refine JX (by unfold UX;rw [hne];simp;omega) ?_
 refine ar ?_
 unfold Ll
 refine KN (tx ⟨_,rfl,h k1⟩) ?_
 obtain ⟨u,rfl⟩:∃ u,items=#[u]:=by
  refine ⟨items[0]'(by omega),?_⟩
  apply Array.ext
  ·simpa using hne
  ·intro i hi1 hi2
   have:i=0:=by omega
   subst this
   rfl
 rw [nh]
 show (#[]++(Kb k.toNat u).toArray).size≤sizeLine
 simp
 omega
end
section
variable {X:Cx}
def Be:R2:=fun x y H Q=>∃ (l:Addr) (k:Int) (z:V),x=.ref l∧y=.int k∧H l=some (.tup [z])∧0≤k∧k≤100∧(k=1→Q (.ref l) H)∧∀ p,H p=none→Q (.ref p) (upd H p (.tup (Kb k.toNat z)))
theorem rR (r:RelV z u):∀ m:Nat,Vals (Kb m z) (Kb m u)
 | 0=>.nil
 | m+1=>by rw [ML,ML];exact .cons r (rR r m)
theorem BK:OpR X (Mp .Mult) Be:=by
 intro pins s σ H x y v u Q I rx ry h
 obtain ⟨l,k,z,rfl,rfl,hH,h1,h2,q1,q⟩:=h
 cases rx
 obtain ⟨t,rfl⟩:=ry
 obtain ⟨its,r,pl,hz⟩:=I.tuple (SqT.of hH)
 obtain ⟨u,rfl,ru⟩:=vals1 r
 obtain ⟨o,ho,hc,n,hd⟩:=id pl
 refine wpAny_binaryOp_repeat_ref (T:="tuple") (U:="int") (by decide) ⟨o,ho,hc⟩ (fun s'=>TX s' k t) nK F.fills_int_mul T3 rH F.slot_int_index.lookup ?_
 refine vS ho hd ⟨rfl,⟨o,ho,hc⟩,yZ pl h1 h2 rfl (fun e=>⟨.ref l,H,I,rfl,q1 e⟩) fun _=>?_⟩
 have e:T4 (fun x1 x2=>x1++x2) #[] (Kb k.toNat [u].toArray)=(Kb k.toNat u).toArray:=by
  have:=nh u k.toNat #[]
  simpa using this
 rw [e]
 refine ⟨.ref _,_,I.laid (t':=s.toks) (o:=.tup (Kb k.toNat z)) (fun b ob q=>C0 _ q) (J3 _) ?_,rfl,q _ (I.hok.fresh (J3 _))⟩
 refine ⟨?_,_,rR ru k.toNat,QO _ _⟩
 rw [LO]
 exact LM (du (by omega))
end
def Sq (b:Bool) (xs:List V):HO:=match b with
 | true=>.lst xs
 | false=>.tup xs
def i6 (b:Bool) (h:Heap) (t:Addr) (xs:Array Value):Prop:=match b with
 | true=>h.IsList t xs
 | false=>h.IsTuple t xs
def iu (b:Bool) (h:Heap) (it t:Addr) (i:Nat):Prop:=match b with
 | true=>h.IsListIter it t i
 | false=>h.IsTupleIter it t i
def sqI (b:Bool) (t:Addr):Obj:={ cls:=.type (match b with | true=>"list_iterator" | false=>"tuple_iterator"),data:=.fields #[.ref t,.int 0 0] }
theorem Inv.sq (I:Inv X pins σ H s) (h:H t=some (Sq b xs)):∃ its:List Value,Vals xs its∧i6 b s.heap t its.toArray∧xs.length≤sizeLine:=by
 cases b with
 | true=>obtain ⟨its,rv,p,hz⟩:=I.list (SqL.of h);exact ⟨its,rv,p.isList,hz⟩
 | false=>obtain ⟨its,rv,p,hz⟩:=I.tuple (SqT.of h);exact ⟨its,rv,p,hz⟩
theorem kj (b:Bool) (hh:A.handled=none) (it t:Addr) (hne:t≠it) (items:Array Value):Qd prog w A it [it,t] items.size (fun i v=>items[i]?=some v) (fun i h=>iu b h it t i∧i6 b h t items):=by
 cases b with
 | true=>exact Draws.list hh it t hne items
 | false=>exact E9 hh it t hne items
theorem mG (x:iu b h it t i):∃ o,h.get? it=some o∧∀ v,o.data≠.cell v:=by
 cases b<;>(obtain ⟨o,e,_,d⟩:=x;exact ⟨o,e,fun v z=>by rw [d] at z;cases z⟩)
theorem ou (x:iu b h it t i) (k:∀ o,h.get? it=some o→h'.get? it=some o):iu b h' it t i:=by
 cases b<;>(obtain ⟨o,e,r⟩:=x;exact ⟨o,k o e,r⟩)
theorem ug (x:h.get? it=some (sqI b t)):iu b h it t 0:=by
 cases b<;>exact ⟨_,x,rfl,rfl⟩
theorem Iq (x:i6 b h t xs) (k:∀ o,h.get? t=some o→h'.get? t=some o):i6 b h' t xs:=by
 cases b<;>(obtain ⟨o,e,r⟩:=x;exact ⟨o,k o e,r⟩)
section
variable {prog:Kn} {w:Kq} {A:KD} {E:Value→JU→Prop} {s:JU}
abbrev gI (b:Bool) (h:Heap) (t:Addr):Heap:=h.push (sqI b t)
abbrev gPI (b c:Bool) (h:Heap) (t u:Addr):Heap:=(gI c (gI b h t) u).push { cls:=.type "tuple",data:=.seq #[.ref h.objs.size,.ref (gI b h t).objs.size] }
abbrev gPO (b c:Bool) (h:Heap) (t u:Addr):Heap:=(gPI b c h t u).push { cls:=.type "tuple",data:=.seq #[.none,.none] }
abbrev pJ (b c:Bool) (h:Heap) (t u:Addr):Heap:=(gPO b c h t u).push { cls:=.type "zip",data:=.fields #[.none,.bool false,.bool false,.ref (gI c (gI b h t) u).objs.size,.ref (gPI b c h t u).objs.size] }
theorem uz (h:i6 b s.heap t xs) (hQ:Q (.ref s.heap.objs.size) { s with heap:=gI b s.heap t }):JY (J6 prog w) A (Qn (.ref t)) Q E s:=by
 cases b with
 | true=>exact NK h hQ
 | false=>exact Nu h hQ
theorem Ao (b c:Bool) (t u:Addr) (xs ys:Array Value):Meets (Builtin.«zip.__new__» ⟨[.type "zip",.ref t,.ref u],[]⟩) (fun _ R s=>i6 b s.heap t xs∧i6 c s.heap u ys∧R (.ok (.ret (.ref (gPO b c s.heap t u).objs.size))) { s with heap:=pJ b c s.heap t u }):=
 .of_wp fun prog w A R s h=>by
  obtain ⟨hp,g,d,tk,os⟩:=s
  obtain ⟨ht,hu,h⟩:=h
  have hsub:=sub_zip
  have h1:i6 b (VU ⟨hp,g,d,tk,os⟩) t xs:=ht
  have h2:i6 c (VU ⟨gI b hp t,g,d,tk,os⟩) u ys:=Iq hu fun o e=>C0 _ e
  wp_walk using uz h1,uz h2
  exact ⟨_,rfl,h⟩
theorem xw (b c:Bool) (ht:i6 b s.heap t xs) (hu:i6 c s.heap u ys)
  (h:∀ h',IsZip h' (s.heap.objs.size+4) (s.heap.objs.size+2) (s.heap.objs.size+3) .none→Mf h' (s.heap.objs.size+2) (.ref s.heap.objs.size) (.ref (s.heap.objs.size+1))→Mf h' (s.heap.objs.size+3) .none .none →
   iu b h' s.heap.objs.size t 0→iu c h' (s.heap.objs.size+1) u 0→(∀ a o,s.heap.get? a=some o→h'.get? a=some o)→Q (.ref (s.heap.objs.size+4)) { s with heap:=h' }) :
  JY (J6 prog w) A (call (.type "zip") [.ref t,.ref u]) Q E s:=by
 refine callType_new F.called_zip (by decide) (F.typeCall_zip_2 _ _) (F.newCall_zip_2 _ _) (fun obj=>F.args_object_init_3 obj _ _) F.entry_zip_new (Ao b c t u xs ys) ⟨ht,hu,?_⟩
 have s1:(gI b s.heap t).objs.size=s.heap.objs.size+1:=MO ..
 have s2:(gI c (gI b s.heap t) u).objs.size=s.heap.objs.size+2:=by rw [MO,s1]
 have s3:(gPI b c s.heap t u).objs.size=s.heap.objs.size+3:=by rw [MO,s2]
 have s4:(gPO b c s.heap t u).objs.size=s.heap.objs.size+4:=by rw [MO,s3]
 have g5:(pJ b c s.heap t u).get? (gPO b c s.heap t u).objs.size=some _:=Kc _ rfl
 have g4:(pJ b c s.heap t u).get? (gPI b c s.heap t u).objs.size=some _:=C0 _ (Kc _ rfl)
 have g3:(pJ b c s.heap t u).get? (gI c (gI b s.heap t) u).objs.size=some _:=C0 _ (C0 _ (Kc _ rfl))
 have g2:(pJ b c s.heap t u).get? (gI b s.heap t).objs.size=some _:=C0 _ (C0 _ (C0 _ (Kc _ rfl)))
 have g1:(pJ b c s.heap t u).get? s.heap.objs.size=some _:=C0 _ (C0 _ (C0 _ (C0 _ (Kc _ rfl))))
 show _∧_
 rw [s2,s3,s4] at g5
 rw [s1,s2] at g3
 rw [s3] at g4
 rw [s1] at g2
 rw [s4]
 exact ⟨⟨_,g5,rfl⟩,h _ g5 g3 g4 (ug g1) (ug g2) fun a o q=>C0 _ (C0 _ (C0 _ (C0 _ (C0 _ q))))⟩
end
def Itg (b c:Bool) (t u:Addr):It:=
  ⟨fun i H=>∃ xs ys x y,H t=some (Sq b xs)∧H u=some (Sq c ys)∧xs[i]?=some x∧ys[i]?=some y,fun i H v H'=>∃ p x y,H p=none∧v=.ref p∧H'=upd H p (.tup [x,y])∧(∀ xs,H t=some (Sq b xs)→xs[i]?=some x)∧∀ ys,H u=some (Sq c ys)→ys[i]?=some y,
   fun i H=>∃ xs ys,H t=some (Sq b xs)∧H u=some (Sq c ys)∧i≤xs.length∧i≤ys.length∧(i=xs.length∨i=ys.length)⟩
theorem xR {P:Kn} {w:Kq} {K:JV} {es:List Ke} {kk:Nat} {tp:Pos} (b c:Bool) (t u N:Addr) :
  Turn P w K (.Tuple es kk tp) (Itg b c t u) [N+4,N+2,N+3,N,N+1] (N+4)
   (fun i h=>IsZip h (N+4) (N+2) (N+3) .none∧Mf h (N+2) (.ref N) (.ref (N+1))∧(∃ a b,Mf h (N+3) a b)∧iu b h N t i∧iu c h (N+1) u i) where
 mem:=by simp
 obj:=fun i h st e hb=>by
  obtain ⟨h1,h2,⟨x,y,h3⟩,h4,h5⟩:=st
  simp only [J1,Kw,LR] at hb
  rcases hb with z | z | z | z | z
  ·rw [z];exact ⟨_,h1,fun v z=>by
    have z':To _=QM v:=z
    cases z'⟩
  ·rw [z];exact ⟨_,h2,fun v z=>by
    have z':Vx _ _=QM v:=z
    cases z'⟩
  ·rw [z];exact ⟨_,h3,fun v z=>by
    have z':Vx _ _=QM v:=z
    cases z'⟩
  ·rw [z];exact mG h4
  ·rw [z];exact mG h5
 keep:=fun i h h' st k=>by
  obtain ⟨h1,h2,⟨x,y,h3⟩,h4,h5⟩:=st
  exact ⟨k _ (by simp) _ h1,k _ (by simp) _ h2,⟨x,y,k _ (by simp) _ h3⟩,ou h4 fun o q=>k _ (by simp) o q,ou h5 fun o q=>k _ (by simp) o q⟩
 item:=by
  intro X hP hw hK hc i pins s σ H E I hf st hg
  subst hP hw hK
  obtain ⟨h1,h2,⟨a0,b0,h3⟩,h4,h5⟩:=st
  obtain ⟨xs,ys,x,y,hx,hy,ex,ey⟩:=hg
  obtain ⟨its,rv,p,hz⟩:=I.sq hx
  obtain ⟨its2,rv2,p2,hz2⟩:=I.sq hy
  obtain ⟨a,ha,ra⟩:=rv.get ex
  obtain ⟨b1,hb,rb⟩:=rv2.get ey
  have D0:=wO (N:=N) (t:=t) (u:=u) (fun c hc e=>by rw [e,(hf c hc).1] at hx;cases hx) (fun c hc e=>by rw [e,(hf c hc).1] at hy;cases hy)
  have hA:X.A.in1.handled=none:=I.ok.hd hc
  have tn:t≠N:=fun e=>by rw [e,(hf N (by simp)).1] at hx;cases hx
  have un:u≠N+1:=fun e=>by rw [e,(hf (N+1) (by simp)).1] at hy;cases hy
  have la:i < its.toArray.size:=by
   have:=(J5.mp ha).1
   simpa using this
  have lb:i < its2.toArray.size:=by
   have:=(J5.mp hb).1
   simpa using this
  refine yJ D0 (kj b hA N t tn its.toArray) (kj c hA (N+1) u un its2.toArray) h1 (.inl rfl) h2 h3 ⟨h4,p⟩ ⟨h5,p2⟩ la lb fun x' y' g1 tk px py z1 z2 z3 z4 z5 z6 z7 k1=>?_
  obtain rfl:x'=a:=by
   have e:its.toArray[i]?=some x':=px
   rw [Mi,ha] at e
   exact (KA e).symm
  obtain rfl:y'=b1:=by
   have e:its2.toArray[i]?=some y':=py
   rw [Mi,hb] at e
   exact (KA e).symm
  refine ⟨_,rfl,wpAny_letOwnedTupleGo_zip (s:={ s with heap:=g1,toks:=tk }) z1 fun g2 y1 e2=>?_⟩
  replace e2:K_ (N+4) g1 g2:=e2
  have hl4:N+4 < s.heap.objs.size:=J4 h1
  have d:∀ i j:Nat,i≠j→(N+i:Nat)≠N+j:=fun i j h e=>h (R7 e)
  have ht2:Mf g2 s.heap.objs.size x' y':=e2.extBut _ _ (MC hl4) z6
  have k2:∀ c o,c∉[N+4,N+2,N+3,N,N+1]→s.heap.get? c=some o→g2.get? c=some o:=fun c o hc q=>by
   have c4:c≠N+4:=fun z=>hc (by simp [z])
   have c3:c≠N+3:=fun z=>hc (by simp [z])
   have c0:c≠N:=fun z=>hc (by simp [z])
   have c1:c≠N+1:=fun z=>hc (by simp [z])
   exact e2.extBut c o c4 (k1 c o c4 c3 c0 c1 q)
  have I2:Inv X pins σ (upd H s.heap.objs.size (.tup [x,y])) { s with heap:=g2,toks:=tk }:=by
   refine I.rf (fp:=[N+4,N+2,N+3,N,N+1]) (J3 _) k2 hf ?_
   exact ⟨by show 2≤sizeLine;decide,[x',y'],.cons ra (.cons rb .nil),⟨_,ht2,rfl,_,rfl⟩⟩
  refine ⟨.ref s.heap.objs.size,_,I2,rfl,⟨s.heap.objs.size,x,y,I.hok.fresh (J3 _),rfl,rfl,fun zs hy0=>?_,fun zs hy'=>?_⟩,⟨y1,e2.extBut _ _ (d 2 4 (by decide)) z2,⟨_,_,e2.extBut _ _ (d 3 4 (by decide)) z3⟩,ou z4.1 fun o q=>e2.extBut _ _ (d 0 4 (by decide)) q,ou z5.1 fun o q=>e2.extBut _ _ (d 1 4 (by decide)) q⟩,fun b hb=>?_⟩
  ·rw [hx] at hy0;cases b<;>(cases hy0;exact ex)
  ·rw [hy] at hy';cases c<;>(cases hy';exact ey)
  ·have hlt:b < s.heap.objs.size:=by
    simp only [J1,Kw,LR] at hb
    rcases hb with z | z | z | z | z
    ·rw [z];exact hl4
    ·rw [z];exact J4 h2
    ·rw [z];exact J4 h3
    ·obtain ⟨o,q,_⟩:=mG h4;rw [z];exact J4 q
    ·obtain ⟨o,q,_⟩:=mG h5;rw [z];exact J4 q
   rw [aS (Kf hlt)]
   exact (hf b hb).1
 done:=by
  intro X hP hw hK hc i pins s σ H E I hf st hg
  subst hP hw hK
  obtain ⟨h1,h2,⟨a0,b0,h3⟩,h4,h5⟩:=st
  obtain ⟨xs,ys,hx,hy,lx,ly,hend⟩:=hg
  obtain ⟨its,rv,p,hz⟩:=I.sq hx
  obtain ⟨its2,rv2,p2,hz2⟩:=I.sq hy
  have D0:=wO (N:=N) (t:=t) (u:=u) (fun c hc e=>by rw [e,(hf c hc).1] at hx;cases hx) (fun c hc e=>by rw [e,(hf c hc).1] at hy;cases hy)
  have hA:X.A.in1.handled=none:=I.ok.hd hc
  have tn:t≠N:=fun e=>by rw [e,(hf N (by simp)).1] at hx;cases hx
  have un:u≠N+1:=fun e=>by rw [e,(hf (N+1) (by simp)).1] at hy;cases hy
  have l1:=rv.length
  have l2:=rv2.length
  refine zK D0 (kj b hA N t tn its.toArray) (kj c hA (N+1) u un its2.toArray) h1 (.inl rfl) h2 h3 ⟨h4,p⟩ ⟨h5,p2⟩ ?_ fun h' tk hk=>⟨rfl,?_⟩
  ·simp only [J8]
   omega
  ·refine I.CM (fp:=[N+4,N+2,N+3,N,N+1]) (fun c o hc q=>?_) hf
   exact hk c o (fun z=>hc (by simp [z])) (fun z=>hc (by simp [z])) (fun z=>hc (by simp [z])) (fun z=>hc (by simp [z])) q
 self:=fun _ _ _ _ _ st h=>TF st.1 h
end L2
namespace ZS
open PySem
def Ri (l:List Nat):Prop:=l.Pairwise (· < ·)
theorem vK (xs:Array Nat) (j p:Nat) (h1:∀ i,i < p→xs.getD i j < j) (h2:∀ i,p≤i→i < xs.size→¬xs.getD i j < j):∀ (fuel lo hi:Nat),lo≤p→p≤hi→hi≤xs.size→hi - lo≤fuel→P9 xs j fuel lo hi=p
 | 0,lo,hi,a,b,c,d=>by rw [P9];omega
 | fuel+1,lo,hi,a,b,c,d=>by
  rw [P9]
  by_cases hl:lo < hi
  ·rw [J2 hl]
   dsimp only
   have m1:lo≤(lo+hi) / 2:=by omega
   have m2:(lo+hi) / 2 < hi:=by omega
   by_cases hm:xs.getD ((lo+hi) / 2) j < j
   ·rw [J2 hm]
    have:(lo+hi) / 2 < p:=by
     refine Qx fun z=>?_
     exact h2 _ z (by omega) hm
    exact vK xs j p h1 h2 fuel _ _ (by omega) b c (by omega)
   ·rw [J9 hm]
    have:p≤(lo+hi) / 2:=by
     refine Qt fun z=>?_
     exact hm (h1 _ z)
    exact vK xs j p h1 h2 fuel _ _ a this (by omega) (by omega)
  ·rw [J9 hl];omega
theorem getD_list {l:List Nat} (h:i < l.length):l.toArray.getD i j=l[i]:=by simp [Nx,h]
theorem below_at {l:List Nat} (hp:p≤l.length) (h1:∀ i (h:i < l.length),i < p→l[i] < j) (h2:∀ i (h:i < l.length),p≤i→j≤l[i]):Ma l.toArray j=p:=by
 unfold Ma
 refine vK l.toArray j p (fun i hi=>?_) (fun i hi hs=>?_) _ _ _ (L9 _) (by simpa using hp) (J3 _) (by omega)
 ·rw [getD_list (by omega)];exact h1 i (by omega) hi
 ·rw [getD_list (by simpa using hs)]
  have:=h2 i (by simpa using hs) hi
  omega
theorem qL (h:Ri l) (hk:k < l.length) (hi:i < k):l[i] < l[k]:=MA.mp h i k (by omega) hk hi
theorem qe {l:List Nat} (h:Ri l) (j:Nat):∃ p,p≤l.length∧Ma l.toArray j=p∧(∀ x∈l.take p,x < j)∧(∀ x∈l.drop p,j≤x):=by
 induction l with
 | nil=>exact ⟨0,J3 _,below_at (J3 _) (fun i h=>by simp at h) (fun i h=>by simp at h),by simp,by simp⟩
 | cons a l ih=>
  obtain ⟨h1,h2⟩:=Lr.mp h
  obtain ⟨p,hp,_,ha,hb⟩:=ih h2
  by_cases hj:a < j
  ·have q1:∀ x∈(a :: l).take (p+1),x < j:=by
    intro x hx
    rw [List.take_succ_cons] at hx
    rcases J1.mp hx with e | e
    ·omega
    ·exact ha x e
   have q2:∀ x∈(a :: l).drop (p+1),j≤x:=by
    intro x hx
    rw [List.drop_succ_cons] at hx
    exact hb x hx
   refine ⟨p+1,by simp;omega,below_at (by simp;omega) (fun i hi hip=>?_) (fun i hi hip=>?_),q1,q2⟩
   ·refine q1 _ ?_
    rw [L4]
    exact ⟨i,by rw [KS];simp at hi ⊢;omega,by rw [List.getElem_take]⟩
   ·refine q2 _ ?_
    rw [L4]
    exact ⟨i - (p+1),by simp at hi ⊢;omega,by rw [List.getElem_drop];congr 1;omega⟩
  ·have q2:∀ x∈a :: l,j≤x:=by
    intro x hx
    rcases J1.mp hx with e | e
    ·omega
    ·have:=h1 x e;omega
   refine ⟨0,L9 _,below_at (L9 _) (fun i hi hip=>by omega) (fun i hi _=>q2 _ (L5 hi)),by simp,by simpa using q2⟩
theorem lJ {l:List Nat} (h:Ri l) (hi:i < l.length):Ma l.toArray (l[i]+1)=i+1∧Ma l.toArray l[i]=i:=by
 constructor
 ·refine below_at (by omega) (fun k hk hki=>?_) (fun k hk hki=>?_)
  ·by_cases e:k=i
   ·subst e;omega
   ·have:=qL h hi (show k < i by omega);omega
  ·have:=qL h hk (show i < k by omega);omega
 ·refine below_at (by omega) (fun k hk hki=>qL h hi hki) (fun k hk hki=>?_)
  by_cases e:k=i
  ·subst e;omega
  ·have:=qL h hk (show i < k by omega);omega
theorem vm {l:List Nat}:Ma l.toArray 0=0:=below_at (L9 _) (fun i hi h=>by omega) (fun i hi _=>L9 _)
theorem pR (h:Ri l) (hj:j∉l) (ha:∀ x∈l.take p,x < j) (hb:∀ x∈l.drop p,j≤x):Ri (l.take p++j :: l.drop p):=by
 have hs:Ri (l.take p++l.drop p):=by rw [NP];exact h
 obtain ⟨s1,s2,s3⟩:=O9.mp hs
 refine O9.mpr ⟨s1,Lr.mpr ⟨fun x hx=>?_,s2⟩,fun x hx y hy=>?_⟩
 ·have:=hb x hx
  have:x≠j:=fun e=>hj (by rw [← e];exact MF hx)
  omega
 ·rcases J1.mp hy with e | e
  ·rw [e];exact ha x hx
  ·exact s3 x hx y e
theorem slot_of {t:LF} {l:List Nat} (hp:t.place=l.toArray) (hr:Ri l) (hd:t.dummies=#[]) (j:Nat):(j∉l→t.slot j=.empty)∧(j∈l→∃ i,t.slot j=.live i):=by
 have hh:Vz #[] j=false:=by simp [Vz]
 constructor
 ·intro hj
  unfold RY
  dsimp only
  rw [hp,hd,hh]
  have:(l.toArray[Ma l.toArray j]? == some j)=false:=by
   rw [Ms]
   intro e
   rw [Mi] at e
   exact hj (K0 e)
  rw [this]
  rfl
 ·intro hj
  obtain ⟨i,hi,rfl⟩:=L4.mp hj
  refine ⟨i,?_⟩
  unfold RY
  dsimp only
  rw [hp,(lJ hr hi).2,Mi,JZ hi]
  simp
def nxt (m i:Nat):Nat:=(i * 5+1) % (m+1)
def orb (m:Nat):Nat→Nat→Nat
 | 0,i=>i
 | n+1,i=>orb m n (nxt m i)
def marks (m:Nat):Nat→Nat→Nat→Nat
 | 0,_,acc=>acc
 | n+1,i,acc=>marks m n (nxt m i) (acc ||| (1 <<< i))
def full (m:Nat):Bool:=marks m (m+1) 0 0 == 2 ^ (m+1) - 1 && orb m (m+1) 0 == 0
theorem Ie:full 7=true:=by decide +kernel
theorem DN:full 31=true:=by decide +kernel
theorem BN:full 127=true:=by decide +kernel
theorem BC:full 511=true:=by decide +kernel
theorem pO:∀ (n i acc e:Nat),(marks m n i acc).testBit e=true→acc.testBit e=true∨∃ k,k < n∧orb m k i=e
 | 0,i,acc,e,h=>.inl h
 | n+1,i,acc,e,h=>by
  rw [marks] at h
  rcases pO n _ _ e h with q | ⟨k,hk,q⟩
  ·rw [Nat.testBit_or,LC] at q
   rcases q with q | q
   ·exact .inl q
   ·refine .inr ⟨0,by omega,?_⟩
    rw [Nat.one_shiftLeft,Nat.testBit_two_pow] at q
    simpa [orb] using q
  ·exact .inr ⟨k+1,by omega,q⟩
theorem mx:∀ (a b i:Nat),orb m (a+b) i=orb m b (orb m a i)
 | 0,b,i=>by simp [orb]
 | a+1,b,i=>by
  rw [show a+1+b=(a+b)+1 by omega,orb,mx a b,orb]
theorem Bq (hf:full m=true) (he:e≤m):∃ k,k≤m∧orb m k 0=e:=by
 unfold full at hf
 rw [Ko,Lv,Lv] at hf
 have q:(marks m (m+1) 0 0).testBit e=true:=by
  rw [hf.1,Nat.testBit_two_pow_sub_one]
  simp;omega
 rcases pO _ _ _ _ q with z | ⟨k,hk,z⟩
 ·simp at z
 ·exact ⟨k,by omega,z⟩
theorem reach (hf:full m=true) (he:e≤m) (hi:i≤m):∃ k,k≤m∧orb m k i=e:=by
 obtain ⟨a,ha,ea⟩:=Bq hf hi
 obtain ⟨b,hb,eb⟩:=Bq hf he
 have h0:orb m (m+1) 0=0:=by
  unfold full at hf
  rw [Ko,Lv,Lv] at hf
  exact hf.2
 by_cases hab:a≤b
 ·refine ⟨b - a,by omega,?_⟩
  rw [← ea,← mx,show a+(b - a)=b by omega,eb]
 ·refine ⟨m+1 - a+b,by omega,?_⟩
  rw [← ea,← mx,show a+(m+1 - a+b)=(m+1)+b by omega,mx,h0,eb]
def lp (m:Nat):Nat→Nat×Nat→Nat×Nat
 | 0,x=>x
 | n+1,x=>lp m n (K1 m x.1 x.2)
theorem wL:∀ (a b:Nat) (x:Nat×Nat),lp m (a+b) x=lp m b (lp m a x)
 | 0,b,x=>by simp [lp]
 | a+1,b,x=>by
  rw [show a+1+b=(a+b)+1 by omega,lp,wL a b,lp]
theorem uE:∀ (n:Nat) (x:Nat×Nat),(lp m n x).2=x.2 / 32 ^ n
 | 0,x=>by simp [lp]
 | n+1,x=>by
  rw [lp,uE n]
  show x.2 / 32 / 32 ^ n=_
  rw [Nat.div_div_eq_div_mul,Nat.pow_succ,Nat.mul_comm]
theorem xU:∀ (n i:Nat),lp m n (i,0)=(orb m n i,0)
 | 0,i=>rfl
 | n+1,i=>by
  rw [lp,orb]
  have:K1 m i 0=(nxt m i,0):=by simp [K1,nxt]
  rw [this,xU n]
theorem Hg (x:Nat×Nat) (h:x.1≤m):∀ n,(lp m n x).1≤m:=by
 intro n
 induction n generalizing x with
 | zero=>exact h
 | succ n ih=>
  rw [lp]
  exact ih _ (by show _ % (m+1)≤m;have:=Oz (x.1 * 5+1+x.2 / 32) (show m+1 > 0 by omega);omega)
theorem pI (hf:full m=true) (he:e≤m) (hi:i≤m) (hp:p < 2 ^ 64):∃ k,k < KL m∧(lp m k (i,p)).1=e:=by
 have h13:(lp m 13 (i,p)).2=0:=by
  rw [uE]
  exact Nat.div_eq_of_lt (Kt hp (by decide))
 obtain ⟨k,hk,ek⟩:=reach hf he (Hg (i,p) hi 13)
 refine ⟨13+k,by unfold KL;omega,?_⟩
 rw [wL]
 have z:lp m 13 (i,p)=((lp m 13 (i,p)).1,0):=by rw [← h13]
 rw [z,xU]
 exact ek
theorem pE (h:Int):Ki h < 2 ^ 64:=by
 unfold Ki
 have:=Mx h (show (0:Int) < 2 ^ 64 by decide)
 omega
theorem room {l:List Nat} (hn:l.length≤m):∃ e,e≤m∧e∉l:=by
 refine Oa fun h=>?_
 have hall:∀ e∈J_ (m+1),e∈l:=fun e he=>Oa fun z=>h ⟨e,by have:=Lb.mp he;omega,z⟩
 have:=List.Nodup.length_le_of_subset (Qy (n:=m+1)) hall
 rw [NL] at this
 omega
theorem zO {t:LF} {l:List Nat} (hp:t.place=l.toArray) (hr:Ri l) (hd:t.dummies=#[]) (h:Int) :
  ∀ (k:Nat) (fuel:Nat) (q:Ld),q.dummy=none→q.more≤9→10 * k+q.more+1≤fuel→(lp t.mask k (q.i,q.perturb)).1∉l→(k=0→q.j=q.i∨q.j∉l)→(q.more≤9) →
   (k=0→q.j∉l)→∃ j,KU t (fun _=>h+1) h fuel q=some (.empty j none)∧j∉l:=by
 intro k
 induction k with
 | zero=>
  intro fuel q h1 h2 h3 h4 h5 h6 h7
  obtain ⟨f,rfl⟩:∃ f,fuel=f+1:=⟨fuel - 1,by omega⟩
  refine ⟨q.j,?_,h7 rfl⟩
  rw [KU,(slot_of hp hr hd q.j).1 (h7 rfl)]
  dsimp only
  rw [h1]
 | succ k ih=>
  intro fuel q h1 h2 h3 h4 h5 h6 h7
  have run:∀ (r fuel:Nat) (q:Ld),q.more=r→q.dummy=none→10 * (k+1)+r+1≤fuel→(lp t.mask (k+1) (q.i,q.perturb)).1∉l→∃ j,KU t (fun _=>h+1) h fuel q=some (.empty j none)∧j∉l:=by
   intro r
   induction r with
   | zero=>
    intro fuel q hm hdm hfu hl
    obtain ⟨f,rfl⟩:∃ f,fuel=f+1:=⟨fuel - 1,by omega⟩
    by_cases hj:q.j∈l
    ·obtain ⟨i,ei⟩:=(slot_of hp hr hd q.j).2 hj
     rw [KU,ei]
     dsimp only
     have hne:(h+1 == h)=false:=by rw [Ms];omega
     rw [hne]
     have ha:t.advance q={ q with j:=(K1 t.mask q.i q.perturb).1,more:=KW t.mask (K1 t.mask q.i q.perturb).1 - (K1 t.mask q.i q.perturb).1,i:=(K1 t.mask q.i q.perturb).1,perturb:=(K1 t.mask q.i q.perturb).2 }:=by
      unfold NY
      rw [J9 (by omega)]
     have hmore:(t.advance q).more≤9:=by
      rw [ha]
      dsimp only
      unfold KW
      split<;>omega
     have hl':(lp t.mask k ((t.advance q).i,(t.advance q).perturb)).1∉l:=by rw [ha];exact hl
     refine ih f (t.advance q) (by rw [ha];exact hdm) hmore (by omega) hl' (fun _=>.inl (by rw [ha])) hmore fun hk=>?_
     rw [ha]
     dsimp only
     subst hk
     exact hl
    ·refine ⟨q.j,?_,hj⟩
     rw [KU,(slot_of hp hr hd q.j).1 hj]
     dsimp only
     rw [hdm]
   | succ r ihr=>
    intro fuel q hm hdm hfu hl
    obtain ⟨f,rfl⟩:∃ f,fuel=f+1:=⟨fuel - 1,by omega⟩
    by_cases hj:q.j∈l
    ·obtain ⟨i,ei⟩:=(slot_of hp hr hd q.j).2 hj
     rw [KU,ei]
     dsimp only
     have hne:(h+1 == h)=false:=by rw [Ms];omega
     rw [hne]
     have ha:t.advance q={ q with j:=q.j+1,more:=q.more - 1 }:=by
      unfold NY
      rw [J2 (by omega)]
     refine ihr f (t.advance q) (by rw [ha];dsimp only;omega) (by rw [ha];exact hdm) (by omega) (by rw [ha];exact hl)
    ·refine ⟨q.j,?_,hj⟩
     rw [KU,(slot_of hp hr hd q.j).1 hj]
     dsimp only
     rw [hdm]
  exact run q.more fuel q rfl h1 h3 h4
theorem ym {t:LF} {l:List Nat} (hp:t.place=l.toArray) (hr:Ri l) (hd:t.dummies=#[]) (hf:full t.mask=true) (hn:l.length≤t.mask) (h:Int):∃ j,t.freeSlot h=some (j,false)∧j∉l:=by
 obtain ⟨e,he,hel⟩:=room hn
 have hi:Ki h % (t.mask+1)≤t.mask:=by have:=Oz (Ki h) (show t.mask+1 > 0 by omega);omega
 obtain ⟨k,hk,ek⟩:=pI hf he hi (pE h)
 have hmore:(t.probeStart h).more≤9:=by
  unfold R8 KW
  dsimp only
  split<;>omega
 have q:=zO hp hr hd h k (10 * KL t.mask) (t.probeStart h) rfl hmore (by omega) (by
  show (lp t.mask k (Ki h % (t.mask+1),Ki h)).1∉l
  rw [ek];exact hel) (fun _=>.inl rfl) hmore (fun hk0=>by
   subst hk0
   show Ki h % (t.mask+1)∉l
   rw [show Ki h % (t.mask+1)=e from ek];exact hel)
 obtain ⟨j,ej,hj⟩:=q
 refine ⟨j,?_,hj⟩
 unfold SetTable.freeSlot SetTable.probe
 rw [ej]
 rfl
end ZS
namespace ZS
open PySem
theorem uH {m e:Nat} {owner:Array (Option Nat)} (he:owner.getD e (some 0)=none):∀ (k fuel i p:Nat),(lp m k (i,p)).1=e→k < fuel→∃ j,KZ m owner fuel i p=some j∧owner.getD j (some 0)=none
 | k,0,i,p,_,h=>by omega
 | k,fuel+1,i,p,hk,h=>by
  rw [KZ]
  cases hf:(J_ (KW m i+1 - i)).find? fun k=>(owner.getD (i+k) (some 0)).isNone with
  | some x=>
   refine ⟨i+x,rfl,?_⟩
   have:=List.find?_some hf
   simpa using this
  | none=>
   have hno:=Sy.mp hf
   cases k with
   | zero=>
    have hi:i=e:=hk
    have:=hno 0 (Lb.mpr (by unfold KW;split<;>omega))
    rw [Nat.add_zero,hi,he] at this
    simp at this
   | succ k=>
    dsimp only
    exact uH he k fuel _ _ hk (by omega)
theorem rY {α β:Type} {f g:α→Option β}:∀ {l:List α},(∀ x∈l,f x=g x)→l.filterMap f=l.filterMap g
 | [],_=>rfl
 | a :: l,h=>by
  rw [KO,KO,h a (Ks ..),rY fun x hx=>h x (Kk _ hx)]
def vals (m:Nat) (owner:Array (Option Nat)):List Nat:=(J_ (m+1)).filterMap fun j=>owner.getD j none
theorem zf (m:Nat):vals m (QU (m+1) none)=[]:=by
 unfold vals
 rw [List.filterMap_eq_nil_iff]
 intro j hj
 simp [Nx]
theorem zQ {m j k:Nat} {owner:Array (Option Nat)} (hs:owner.size=m+1) (hj:owner.getD j (some 0)=none):(vals m (owner.setIfInBounds j (some k))).Perm (k :: vals m owner):=by
 have hjs:j < owner.size:=by
  refine Qx fun z=>?_
  simp [Nx,Nat.not_lt.mpr z] at hj
 have hjv:owner.getD j none=none:=by
  simp [Nx,hjs] at hj ⊢
  exact hj
 have hmem:j∈J_ (m+1):=Lb.mpr (by omega)
 have pe:=List.perm_cons_erase hmem
 have nd:(J_ (m+1)).Nodup:=Qy
 unfold vals
 refine (pe.filterMap _).trans ?_
 refine List.Perm.trans ?_ ((pe.filterMap (fun j=>owner.getD j none)).cons k).symm
 rw [KO,KO]
 have e1:(owner.setIfInBounds j (some k)).getD j none=some k:=by simp [Nx,hjs]
 rw [e1,hjv]
 dsimp only
 refine Ul k (T6 ?_)
 refine rY fun x hx=>?_
 have hne:x≠j:=fun e=>by
  rw [e] at hx
  exact (List.Nodup.mem_erase_iff nd).mp hx |>.1 rfl
 simp only [Nx,Oo]
 split
 ·rw [Pp,Pp,Array.getElem_setIfInBounds_ne (by assumption) (fun e=>hne e.symm)]
 ·rfl
theorem Ai {m:Nat} {owner:Array (Option Nat)} (hs:owner.size=m+1) (h:(vals m owner).length≤m):∃ e,e≤m∧owner.getD e (some 0)=none:=by
 refine Oa fun hno=>?_
 have all:∀ j∈J_ (m+1),(owner.getD j none).isSome=true:=fun j hj=>by
  have hj':=Lb.mp hj
  cases e:owner.getD j none with
  | some x=>rfl
  | none=>
   refine absurd ⟨j,by omega,?_⟩ hno
   simp [Nx,show j < owner.size by omega] at e ⊢
   exact e
 have len:∀ l:List Nat,(∀ j∈l,(owner.getD j none).isSome=true)→(l.filterMap fun j=>owner.getD j none).length=l.length:=by
  intro l
  induction l with
  | nil=>intro _;rfl
  | cons a l ih=>
   intro hl
   obtain ⟨x,hx⟩:=Nh.mp (hl a (Ks ..))
   rw [KO,hx]
   dsimp only
   rw [Km,Km,ih fun j hj=>hl j (Kk _ hj)]
 have:=len _ all
 rw [NL] at this
 unfold vals at h
 omega
def dF (m:Nat) (acc:Option (Array (Option Nat)×Nat)) (h:Int):Option (Array (Option Nat)×Nat):=do
  let (owner,k) ← acc
  let j ← KZ m owner (KL m) (Ki h % (m+1)) (Ki h)
  pure (owner.setIfInBounds j (some k),k+1)
theorem sh {m:Nat} (hf:full m=true):∀ (hs:List Int) (owner:Array (Option Nat)) (k:Nat),owner.size=m+1→(vals m owner).Perm (J_ k)→k+hs.length≤m →
  ∃ owner',hs.foldl (dF m) (some (owner,k))=some (owner',k+hs.length)∧owner'.size=m+1∧(vals m owner').Perm (J_ (k+hs.length))
 | [],owner,k,h1,h2,h3=>⟨owner,rfl,h1,by simpa using h2⟩
 | h :: hs,owner,k,h1,h2,h3=>by
  have hlen:(vals m owner).length=k:=by rw [h2.length_eq,NL]
  obtain ⟨e,he,hen⟩:=Ai h1 (by simp at h3;omega)
  have hi:Ki h % (m+1)≤m:=by have:=Oz (Ki h) (show m+1 > 0 by omega);omega
  obtain ⟨q,hq,eq⟩:=pI hf he hi (pE h)
  obtain ⟨j,ej,hj⟩:=uH (m:=m) hen q (KL m) _ _ eq hq
  have st:dF m (some (owner,k)) h=some (owner.setIfInBounds j (some k),k+1):=by
   unfold dF
   show (KZ m owner (KL m) (Ki h % (m+1)) (Ki h)).bind _=_
   rw [ej]
   rfl
  have p2:(vals m (owner.setIfInBounds j (some k))).Perm (J_ (k+1)):=by
   refine (zQ h1 hj).trans ((h2.cons k).trans ?_)
   rw [T1]
   exact (List.perm_append_singleton k _).symm
  obtain ⟨o',a1,a2,a3⟩:=sh hf hs _ (k+1) (by rw [Oo];exact h1) p2 (by simp at h3;omega)
  refine ⟨o',?_,a2,by simp only [Km];rw [show k+(hs.length+1)=k+1+hs.length by omega];exact a3⟩
  rw [QT,st,a1]
  simp only [Km]
  rw [show k+(hs.length+1)=k+1+hs.length by omega]
theorem nc {m:Nat} (hf:full m=true) (hs:Array Int) (hn:hs.size≤m):∃ owner,OK m hs=some owner∧owner.size=m+1∧(vals m owner).Perm (J_ hs.size):=by
 obtain ⟨o,a1,a2,a3⟩:=sh hf hs.toList (QU (m+1) none) 0 (by simp) (by rw [zf];simp) (by simpa using hn)
 refine ⟨o,?_,a2,by simpa using a3⟩
 unfold OK
 rw [← Sz]
 have:(fun (acc:Option (Array (Option Nat)×Nat)) (h:Int)=>(do
  let (owner,k) ← acc
  let j ← KZ m owner (KL m) (Ki h % (m+1)) (Ki h)
  pure (owner.setIfInBounds j (some k),k+1):Option (Array (Option Nat)×Nat)))=dF m:=rfl
 rw [this,a1]
 rfl
theorem gy (f:Nat→Option Nat):∀ l:List Nat,((l.filterMap fun j=>(f j).map (j,·)).map (·.1))=l.filter fun j=>(f j).isSome
 | []=>rfl
 | a :: l=>by
  rw [KO,List.filter_cons]
  cases f a with
  | none=>simpa using gy f l
  | some x=>simp [gy f l]
theorem gr (f:Nat→Option Nat):∀ l:List Nat,((l.filterMap fun j=>(f j).map (j,·)).map (·.2))=l.filterMap f
 | []=>rfl
 | a :: l=>by
  rw [KO,KO]
  cases f a with
  | none=>simpa using gr f l
  | some x=>simp [gr f l]
theorem ua {α:Type}:∀ (xs:List α),(J_ xs.length).filterMap (fun i=>xs[i]?)=xs
 | []=>rfl
 | x :: xs=>by
  rw [Km,Q3,KO]
  simp only [OC]
  rw [So]
  have:((fun i=>(x :: xs)[i]?) ∘ Nat.succ)=fun i=>xs[i]?:=by funext i;simp
  rw [this,ua xs]
theorem rJ {t:LF} {es:Array (Int×Value)} {wanted:Nat} (hf:full (Le wanted - 1)=true) (hn:es.size≤Le wanted - 1) :
  ∃ es' t' l,VB t es wanted=(es',t',false)∧es'.toList.Perm es.toList∧t'.place=l.toArray∧Ri l∧l.length=es.size∧t'.dummies=#[]∧t'.mask=Le wanted - 1∧t'.plain=t.plain∧t'.led=t.led:=by
 obtain ⟨owner,e1,e2,e3⟩:=nc hf (es.map (·.1)) (by simpa using hn)
 rw [Um] at e3
 generalize hm:Le wanted - 1=m at *
 let f:Nat→Option Nat:=fun j=>owner.getD j none
 have r1:t.relaid (es.map (·.1)) wanted=some ({ mask:=m,place:=((J_ (m+1)).filter fun j=>(f j).isSome).toArray,dummies:=#[],finger:=t.finger,led:=t.led,moves:=t.movedTo m,plain:=t.plain },(vals m owner).toArray):=by
  unfold T7 UY
  rw [hm,e1]
  show some _=some _
  rw [← gy f,show vals m owner=(J_ (m+1)).filterMap f from rfl,← gr f]
 have po:((vals m owner).toArray.filterMap (fun (i:Nat)=>es[i]?)).toList.Perm es.toList:=by
  rw [Q6]
  refine (e3.filterMap _).trans (T6 ?_)
  have:(fun (i:Nat)=>es[i]?)=fun (i:Nat)=>es.toList[i]?:=by funext i;rw [LP]
  rw [this,← Kh,ua]
 have lpl:((J_ (m+1)).filter fun j=>(f j).isSome).length=es.size:=by
  rw [← gy f,J0,← J0 (f:=(·.2)),gr f]
  show (vals m owner).length=es.size
  rw [e3.length_eq,NL]
 have so:((vals m owner).toArray.filterMap (fun (i:Nat)=>es[i]?)).size=es.size:=by
  rw [← Kh,po.length_eq,Kh]
 refine ⟨_,{ mask:=m,place:=((J_ (m+1)).filter fun j=>(f j).isSome).toArray,dummies:=#[],finger:=t.finger,led:=t.led,moves:=t.movedTo m,plain:=t.plain },(J_ (m+1)).filter fun j=>(f j).isSome,?_,po,rfl,?_,lpl,rfl,rfl,rfl,rfl⟩
 ·unfold VB
  rw [r1]
  dsimp only
  have c1:coversAll (vals m owner).toArray es.size=true:=by
   unfold coversAll
   rw [List.isPerm_iff]
   exact e3
  have c2:RZ { mask:=m,place:=((J_ (m+1)).filter fun j=>(f j).isSome).toArray,dummies:=#[],finger:=t.finger,led:=t.led,moves:=t.movedTo m,plain:=t.plain } ((vals m owner).toArray.filterMap (fun (i:Nat)=>es[i]?)).size=true:=by
   unfold RZ PX
   rw [so]
   simp only [J8,lpl]
   simpa using hn
  rw [c1,c2]
  rfl
 ·exact We _ List.pairwise_lt_range
end ZS
namespace ZS
open PySem
theorem wI {t:LF} {es:Array (Int×Value)} (hf:full (Le wanted - 1)=true) (hn:es.size≤Le wanted - 1) :
  ∃ t' order l,t.relaid (es.map (·.1)) wanted=some (t',order)∧(order.filterMap (es[·]?)).toList.Perm es.toList∧t'.place=l.toArray∧Ri l∧l.length=es.size∧t'.dummies=#[]∧t'.mask=Le wanted - 1∧t'.plain=t.plain∧t'.led=t.led:=by
 obtain ⟨es',t',l,e,r⟩:=rJ (t:=t) hf hn
 unfold VB at e
 split at e
 ·rename_i t2 order eo
  dsimp only at e
  split at e
  ·have e':=NF e
   obtain ⟨rfl,e'⟩:=e'
   obtain ⟨rfl,_⟩:=NF e'
   exact ⟨t2,order,l,eo,r⟩
  ·have:=(NF (NF e).2).2
   cases this
 ·have:=(NF (NF e).2).2
  cases this
end ZS
namespace ZS
open PySem
def Rch (t:LF) (l:List Nat) (n:Nat) (q:Ld):Prop:=q.dummy=none∧q.more≤9∧∃ k,10 * k+q.more+1≤n∧(lp t.mask k (q.i,q.perturb)).1∉l∧(k=0→q.j∉l)
theorem sR (h:Rch t l (n+1) q) (hj:q.j∈l):Rch t l n (t.advance q):=by
 obtain ⟨h1,h2,k,h3,h4,h5⟩:=h
 cases k with
 | zero=>exact absurd hj (h5 rfl)
 | succ k=>
  by_cases hm:q.more > 0
  ·have ha:t.advance q={ q with j:=q.j+1,more:=q.more - 1 }:=by
    unfold NY
    rw [J2 hm]
   rw [ha]
   exact ⟨h1,by dsimp only;omega,k+1,by dsimp only;omega,h4,fun z=>by omega⟩
  ·have ha:t.advance q={ q with j:=(K1 t.mask q.i q.perturb).1,more:=KW t.mask (K1 t.mask q.i q.perturb).1 - (K1 t.mask q.i q.perturb).1,i:=(K1 t.mask q.i q.perturb).1,perturb:=(K1 t.mask q.i q.perturb).2 }:=by
    unfold NY
    rw [J9 hm]
   have hmore:(t.advance q).more≤9:=by
    rw [ha]
    dsimp only
    unfold KW
    split<;>omega
   refine ⟨by rw [ha];exact h1,hmore,k,by omega,by rw [ha];exact h4,fun hk=>?_⟩
   rw [ha]
   dsimp only
   subst hk
   exact h4
theorem qi (hf:full t.mask=true) (hn:l.length≤t.mask) (h:Int):Rch t l (10 * KL t.mask) (t.probeStart h):=by
 obtain ⟨e,he,hel⟩:=room hn
 have hi:Ki h % (t.mask+1)≤t.mask:=by have:=Oz (Ki h) (show t.mask+1 > 0 by omega);omega
 obtain ⟨k,hk,ek⟩:=pI hf he hi (pE h)
 have hmore:(t.probeStart h).more≤9:=by
  unfold R8 KW
  dsimp only
  split<;>omega
 refine ⟨rfl,hmore,k,by omega,?_,fun hk0=>?_⟩
 ·show (lp t.mask k (Ki h % (t.mask+1),Ki h)).1∉l
  rw [ek];exact hel
 ·subst hk0
  show Ki h % (t.mask+1)∉l
  rw [show Ki h % (t.mask+1)=e from ek];exact hel
end ZS
namespace ZS
open PySem
def adv (m:Nat) (q:Ld):Ld:=
 if q.more > 0 then { q with j:=q.j+1,more:=q.more - 1 } else
 { q with j:=(K1 m q.i q.perturb).1,more:=KW m (K1 m q.i q.perturb).1 - (K1 m q.i q.perturb).1,i:=(K1 m q.i q.perturb).1,perturb:=(K1 m q.i q.perturb).2 }
theorem wG (t:LF) (q:Ld):t.advance q=adv t.mask q:=by
 unfold NY adv
 split<;>rfl
inductive Path (m:Nat) (l:List Nat):Ld→Ld→Prop
 | refl (q:Ld):Path m l q q
 | step {q q':Ld}:q.j∈l→Path m l (adv m q) q'→Path m l q q'
theorem Path.mono (hl:∀ x∈l,x∈l') (h:Path m l q q'):Path m l' q q':=by
 induction h with
 | refl q=>exact .refl q
 | step h _ ih=>exact .step (hl _ h) ih
theorem Path.trans (h:Path m l q q') (h2:Path m l q' q2):Path m l q q2:=by
 induction h with
 | refl q=>exact h2
 | step h _ ih=>exact .step h (ih h2)
def start (m:Nat) (h:Int):Ld:={ j:=Ki h % (m+1),more:=KW m (Ki h % (m+1)) - Ki h % (m+1),i:=Ki h % (m+1),perturb:=Ki h,dummy:=none }
def Rea (m:Nat) (l:List Nat) (h:Int) (j:Nat):Prop:=∃ q,Path m l (start m h) q∧q.j=j
theorem Rea.mono (hl:∀ x∈l,x∈l') (r:Rea m l h j):Rea m l' h j:=let ⟨q,p,e⟩:=r;⟨q,p.mono hl,e⟩
theorem ud {t:LF} {l:List Nat} (hp:t.place=l.toArray) (hr:Ri l) (j:Nat) (hj:j∈l):∃ i,l[i]?=some j∧t.slot j=.live i:=by
 obtain ⟨i,hi,rfl⟩:=L4.mp hj
 refine ⟨i,JZ hi,?_⟩
 unfold RY
 dsimp only
 rw [hp,(lJ hr hi).2,Mi,JZ hi]
 simp
theorem ER {l:List Nat} (hr:Ri l) {i i' j:Nat} (h:l[i]?=some j) (h':l[i']?=some j):i=i':=by
 obtain ⟨a,ea⟩:=J5.mp h
 obtain ⟨b,eb⟩:=J5.mp h'
 rcases Tf i i' with z | z | z
 ·have:=MA.mp hr i i' a b z;omega
 ·exact z
 ·have:=MA.mp hr i' i b a z;omega
theorem BH (hp:t.place=l.toArray) (hr:Ri l) (hd:t.dummies=#[]) (h:Int) (f:Nat→Int):∀ (n fuel:Nat) (q:Ld),Rch t l n q→n≤fuel →
  (∃ j q',KU t f h fuel q=some (.empty j none)∧j∉l∧Path t.mask l q q'∧q'.j=j)∨∃ j i next m,KU t f h fuel q=some (.candidate j i next)∧l[i]?=some j∧f i=h∧t.slot j=.live i∧m < n∧Rch t l m next∧Path t.mask l q next:=by
 intro n
 induction n with
 | zero=>
  intro fuel q hq _
  obtain ⟨_,_,k,h3,_⟩:=hq
  omega
 | succ n ih=>
  intro fuel q hq hf
  obtain ⟨fu,rfl⟩:∃ f,fuel=f+1:=⟨fuel - 1,by omega⟩
  by_cases hj:q.j∈l
  ·obtain ⟨i,hi,ei⟩:=ud hp hr q.j hj
   have hs:=sR hq hj
   have ps:∀ q',Path t.mask l (t.advance q) q'→Path t.mask l q q':=fun q' p=>.step hj (by rw [← wG];exact p)
   by_cases hh:f i=h
   ·refine .inr ⟨q.j,i,t.advance q,n,?_,hi,hh,ei,by omega,hs,ps _ (.refl _)⟩
    rw [KU,ei]
    dsimp only
    rw [J2 (by rw [hh];simp)]
   ·rcases ih fu (t.advance q) hs (by omega) with ⟨j,q',e,hjl,pa,ej⟩ | ⟨j,i',next,m,e,r1,r2,r3,r4,r5,r6⟩
    ·refine .inl ⟨j,q',?_,hjl,ps _ pa,ej⟩
     rw [KU,ei]
     dsimp only
     rw [J9 (by simpa using hh)]
     exact e
    ·refine .inr ⟨j,i',next,m,?_,r1,r2,r3,by omega,r5,ps _ r6⟩
     rw [KU,ei]
     dsimp only
     rw [J9 (by simpa using hh)]
     exact e
  ·refine .inl ⟨q.j,q,?_,hj,.refl _,rfl⟩
   rw [KU,(slot_of hp hr hd q.j).1 hj]
   dsimp only
   rw [hq.1]
theorem CN {t:LF} {l:List Nat} (hp:t.place=l.toArray) (hr:Ri l) (h:Int) (f:Nat→Int) {q':Ld} (h0:l[i0]?=some q'.j) (hf0:f i0=h):∀ (n fuel:Nat) (q:Ld),Rch t l n q→n≤fuel→Path t.mask l q q' →
  ∃ j i next m,KU t f h fuel q=some (.candidate j i next)∧l[i]?=some j∧f i=h∧t.slot j=.live i∧m < n∧Rch t l m next∧(i=i0∨Path t.mask l next q'):=by
 intro n
 induction n with
 | zero=>
  intro fuel q hq _
  obtain ⟨_,_,k,h3,_⟩:=hq
  omega
 | succ n ih=>
  intro fuel q hq hf pa
  obtain ⟨fu,rfl⟩:∃ f,fuel=f+1:=⟨fuel - 1,by omega⟩
  have hj:q.j∈l:=by
   cases pa with
   | refl=>exact K0 h0
   | step h _=>exact h
  obtain ⟨i,hi,ei⟩:=ud hp hr q.j hj
  have hs:=sR hq hj
  have nx:i=i0∨Path t.mask l (t.advance q) q':=by
   cases pa with
   | refl=>exact .inl (ER hr hi h0)
   | step _ p=>exact .inr (by rw [wG];exact p)
  by_cases hh:f i=h
  ·refine ⟨q.j,i,t.advance q,n,?_,hi,hh,ei,by omega,hs,nx⟩
   rw [KU,ei]
   dsimp only
   rw [J2 (by rw [hh];simp)]
  ·rcases nx with z | nx
   ·rw [z] at hh;exact absurd hf0 hh
   ·obtain ⟨j,i',next,m,e,r1,r2,r3,r4,r5,r6⟩:=ih fu (t.advance q) hs (by omega) nx
    refine ⟨j,i',next,m,?_,r1,r2,r3,by omega,r5,r6⟩
    rw [KU,ei]
    dsimp only
    rw [J9 (by simpa using hh)]
    exact e
def occ (m:Nat) (owner:Array (Option Nat)):List Nat:=(J_ (m+1)).filter fun j=>(owner.getD j none).isSome
theorem nO:∀ (r:Nat),r≤M→(∀ r',r' < r→i+r'∈l)→Path m l { j:=i,more:=M,i:=i,perturb:=p,dummy:=none } { j:=i+r,more:=M - r,i:=i,perturb:=p,dummy:=none }
 | 0,_,_=>.refl _
 | r+1,h,hl=>(nO r (by omega) fun r' h'=>hl r' (by omega)).trans (.step (hl r (by omega)) (by
   unfold adv
   rw [J2 (by dsimp only;omega)]
   dsimp only
   rw [show M - r - 1=M - (r+1) by omega]
   exact .refl _))
theorem yA (hs:owner.size=m+1) (hj:j≤m) (h:(owner.getD j (some 0)).isNone=false):j∈occ m owner:=by
 unfold occ
 rw [O5]
 refine ⟨Lb.mpr (by omega),?_⟩
 have e:owner.getD j none=owner.getD j (some 0):=by simp [Nx,show j < owner.size by omega]
 rw [e]
 cases q:owner.getD j (some 0) with
 | none=>rw [q] at h;cases h
 | some x=>rfl
theorem xQ (h:i≤m):KW m i≤m∧i≤KW m i:=by
 unfold KW
 split<;>omega
theorem qb (hs:owner.size=m+1):∀ (fuel i p j:Nat),i≤m→KZ m owner fuel i p=some j→∃ q,Path m (occ m owner) { j:=i,more:=KW m i - i,i:=i,perturb:=p,dummy:=none } q∧q.j=j
 | 0,_,_,_,_,h=>by simp [KZ] at h
 | fuel+1,i,p,j,hi,h=>by
  obtain ⟨re,ri⟩:=xQ hi
  rw [KZ] at h
  split at h
  ·rename_i k hk
   cases h
   obtain ⟨h1,as,bs,e,h2⟩:=List.find?_eq_some_iff_append.mp hk
   have lk:as.length=k:=by
    have:=LZ (fun l=>l[as.length]?) e
    simp only [KH (J3 _),SA,OC] at this
    obtain ⟨a,b⟩:=J5.mp this
    simpa using b
   have kl:k < KW m i+1 - i:=by
    have:=List.mem_of_find?_eq_some hk
    exact Lb.mp this
   refine ⟨_,nO k (by omega) (fun r hr=>yA hs (by omega) ?_),rfl⟩
   have hm:r∈as:=by
    have e2:(J_ (KW m i+1 - i))[r]?=some r:=by rw [Ph (by omega)]
    rw [e,Ky (by omega)] at e2
    exact K0 e2
   have:=h2 r hm
   simpa using this
  ·rename_i hk
   have all:=Sy.mp hk
   have occA:∀ r,r≤KW m i - i→i+r∈occ m owner:=fun r hr=>yA hs (by omega) (by
    have:=all r (Lb.mpr (by omega))
    exact (OV _).mp this)
   have hi2:(K1 m i p).1≤m:=by
    unfold K1
    have:=Oz (i * 5+1+p / 32) (show m+1 > 0 by omega)
    dsimp only
    omega
   obtain ⟨q,pa,e⟩:=qb hs fuel _ _ j hi2 h
   refine ⟨q,(nO (KW m i - i) (J3 _) fun r hr=>occA r (by omega)).trans (.step (occA _ (J3 _)) ?_),e⟩
   unfold adv
   rw [J9 (by dsimp only;omega)]
   exact pa
def AQ (m:Nat) (hs:List Int) (owner:Array (Option Nat)):Prop:=∀ j k,owner.getD j none=some k→∃ h,hs[k]?=some h∧Rea m (occ m owner) h j
theorem ui (h:x∈occ m owner):x∈occ m (owner.setIfInBounds j (some k)):=by
 unfold occ at h ⊢
 rw [O5] at h ⊢
 refine ⟨h.1,?_⟩
 simp only [NU,Pq] at h ⊢
 split
 ·split
  ·rfl
  ·rename_i e hlt
   have:=h.2
   rw [Array.getElem?_eq_none (by omega)] at this
   cases this
 ·exact h.2
theorem pW (hf:full m=true) (all:List Int):∀ (hs:List Int) (owner owner':Array (Option Nat)) (k n:Nat),owner.size=m+1→AQ m all owner→(∀ i,i < hs.length→all[k+i]?=hs[i]?)→hs.foldl (dF m) (some (owner,k))=some (owner',n)→AQ m all owner'∧owner'.size=m+1
 | [],owner,owner',k,n,h1,h2,_,h3=>by
  cases h3
  exact ⟨h2,h1⟩
 | h :: hs,owner,owner',k,n,h1,h2,ha,h3=>by
  rw [QT] at h3
  have no:∀ l:List Int,l.foldl (dF m) none=none:=by
   intro l
   induction l with
   | nil=>rfl
   | cons a l ih=>exact ih
  cases e:KZ m owner (KL m) (Ki h % (m+1)) (Ki h) with
  | none=>
   have st:dF m (some (owner,k)) h=none:=by
    unfold dF
    show (KZ m owner (KL m) (Ki h % (m+1)) (Ki h)).bind _=_
    rw [e]
    rfl
   rw [st,no] at h3
   cases h3
  | some j=>
   have st:dF m (some (owner,k)) h=some (owner.setIfInBounds j (some k),k+1):=by
    unfold dF
    show (KZ m owner (KL m) (Ki h % (m+1)) (Ki h)).bind _=_
    rw [e]
    rfl
   rw [st] at h3
   have hi:Ki h % (m+1)≤m:=by have:=Oz (Ki h) (show m+1 > 0 by omega);omega
   obtain ⟨q,pa,ej⟩:=qb h1 _ _ _ j hi e
   refine pW hf all hs _ owner' (k+1) n (by rw [Oo];exact h1) ?_ (fun i hi=>?_) h3
   ·intro j' k' e'
    simp only [NU,Pq] at e'
    split at e'
    ·rename_i z
     split at e'
     ·cases e'
      refine ⟨h,by have:=ha 0 (by simp);simpa using this,q,pa.mono fun x hx=>ui hx,by rw [ej];exact z⟩
     ·cases e'
    ·obtain ⟨h',a1,a2⟩:=h2 j' k' (by rw [NU];exact e')
     exact ⟨h',a1,a2.mono fun x hx=>ui hx⟩
   ·have:=ha (i+1) (by simp;omega)
    rw [show k+1+i=k+(i+1) by omega,this]
    rfl
theorem uY (hf:full m=true) (h:OK m hs=some owner):AQ m hs.toList owner:=by
 unfold OK at h
 rw [← Sz] at h
 have:(fun (acc:Option (Array (Option Nat)×Nat)) (h:Int)=>(do
  let (owner,k) ← acc
  let j ← KZ m owner (KL m) (Ki h % (m+1)) (Ki h)
  pure (owner.setIfInBounds j (some k),k+1):Option (Array (Option Nat)×Nat)))=dF m:=rfl
 rw [this] at h
 obtain ⟨⟨o,n⟩,e,rfl⟩:=LG.mp h
 refine (pW hf hs.toList hs.toList (QU (m+1) none) o 0 n (by simp) ?_ (fun i _=>by simp) e).1
 intro j k z
 simp [Nx] at z
theorem xX {α β:Type} {g:α→Option β}:∀ {l:List α},(∀ x∈l,∃ y,g x=some y)→∀ i:Nat,(l.filterMap g)[i]?=(l[i]?).bind g
 | [],_,i=>by simp
 | a :: l,h,i=>by
  obtain ⟨y,hy⟩:=h a (Ks ..)
  rw [KO,hy]
  dsimp only
  cases i with
  | zero=>simp [hy]
  | succ i=>simpa using xX (fun x hx=>h x (Kk _ hx)) i
theorem zG {t t':LF} {es:Array (Int×Value)} {order:Array Nat} {l:List Nat} (hf:full (Le wanted - 1)=true) (hn:es.size≤Le wanted - 1) (h:t.relaid (es.map (·.1)) wanted=some (t',order)) (hl:t'.place=l.toArray) :
  ∀ i j:Nat,l[i]?=some j→∃ e,(order.filterMap (es[·]?))[i]?=some e∧Rea t'.mask l e.1 j:=by
 obtain ⟨owner,e1,e2,e3⟩:=nc hf (es.map (·.1)) (by simpa using hn)
 have LI:=uY hf e1
 rw [Um] at e3
 generalize hm:Le wanted - 1=m at *
 let f:Nat→Option Nat:=fun j=>owner.getD j none
 have r1:t.relaid (es.map (·.1)) wanted=some ({ mask:=m,place:=((J_ (m+1)).filter fun j=>(f j).isSome).toArray,dummies:=#[],finger:=t.finger,led:=t.led,moves:=t.movedTo m,plain:=t.plain },(vals m owner).toArray):=by
  unfold T7 UY
  rw [hm,e1]
  show some _=some _
  rw [← gy f,show vals m owner=(J_ (m+1)).filterMap f from rfl,← gr f]
 rw [r1] at h
 cases h
 have el:l=occ m owner:=by
  have:=LZ Si hl
  have:l=(J_ (m+1)).filter fun j=>(f j).isSome:=by simpa using this.symm
  exact this
 subst el
 intro i j hij
 have el1:occ m owner=((J_ (m+1)).filterMap fun j=>(f j).map (j,·)).map (·.1):=(gy f _).symm
 have el2:vals m owner=((J_ (m+1)).filterMap fun j=>(f j).map (j,·)).map (·.2):=(gr f _).symm
 have hij':=hij
 rw [el1,Kv] at hij'
 obtain ⟨⟨j',k⟩,g1,g2⟩:=LG.mp hij'
 cases g2
 have g3:(vals m owner)[i]?=some k:=by rw [el2,Kv,g1];rfl
 have g4:owner.getD j' none=some k:=by
  have:=K0 g1
  obtain ⟨x,_,hx⟩:=Oe.mp this
  obtain ⟨k2,hk2,e5⟩:=LG.mp hx
  cases e5
  exact hk2
 obtain ⟨h,a1,a2⟩:=LI j' k g4
 have hk:k < es.size:=by
  have:=e3.mem_iff.mp (K0 g3)
  exact Lb.mp this
 refine ⟨es[k],?_,?_⟩
 ·rw [← LP,Q6]
  rw [xX (fun x hx=>⟨es[x]'(Lb.mp (e3.mem_iff.mp (by simpa using hx))),Mg _⟩),show (vals m owner).toArray.toList=vals m owner from rfl,g3]
  exact Mg hk
 ·rw [LP,Array.getElem?_map,Mg hk] at a1
  cases a1
  exact a2
end ZS
namespace L2
open PySem PySem.Spec PyProof.Rows ZS
def cy (m:Nat):Bool:=m == 7 || m == 31 || m == 127 || m == 511
theorem iG (h:cy m=true):full m=true:=by
 simp only [cy,LC,Lv] at h
 rcases h with ((h | h) | h) | h<;>subst h
 ·exact Ie
 ·exact DN
 ·exact BN
 ·exact BC
def jx (w:Kq) (h:Heap) (a:Addr) (ks:List Int):Prop:=
 ∃ (o:Obj) (es:Array (Int×Value)) (ep:Nat) (t:LF) (pl:List Nat),h.get? a=some o∧o.ExactSet∧o.data=.set es ep t∧cy t.mask=true∧t.dummies=#[]∧t.plain=true∧t.led=!(w.params.followText "set-order") ∧
  t.place=pl.toArray∧(Ri pl∧pl.length=ks.length∧ks.length * 5 < t.mask * 3)∧K8 (es.toList.map Qz) ks∧(∀ e∈es.toList,∃ k,Mm k e.2=true∧e.1=OZ k)∧ks.Nodup∧ks.length≤300
theorem dy:∀ {vs:List Value} {ns:List Int},K8 vs ns→vs.length=ns.length
 | _,_,.nil=>rfl
 | _,_,.cons n t r=>by simp [dy r]
theorem fits_of {t:LF} (h2:t.dummies=#[]) (h3:t.place.size=n) (hn:n≤t.mask):t.fits n=true:=by
 unfold RZ PX
 rw [h2,h3]
 simp
 omega
theorem jf:Mm k (.int k t)=true:=by simp [Mm]
theorem isInt_iff:Mm k (.int j t)=true↔k=j:=by
 constructor
 ·intro h
  obtain ⟨t',e⟩:=NI h
  cases e;rfl
 ·rintro rfl;exact jf
theorem lC:∀ {es:List (Int×Value)} {ks:List Int} {k:Int},K8 (es.map Qz) ks→(k∈ks↔(es.findIdx? fun e=>Mm k e.2).isSome=true)
 | [],_,k,r=>by cases r;simp
 | e :: es,_,k,r=>by
  obtain ⟨h,v⟩:=e
  cases r with
  | cons n t r=>
   have ih:=lC (k:=k) r
   rw [PF]
   by_cases hk:k=n
   ·subst hk
    simp [jf]
   ·have:Mm k (.int n t)=false:=by rw [← OV,isInt_iff];exact hk
    simp only [this,J1,hk,false_or]
    rw [ih]
    simp
theorem fD (xs:Array α) (p:Nat) (x:α) (hp:p≤xs.size):(Lx xs p x).toList=xs.toList.take p++x :: xs.toList.drop p:=by
 unfold Lx
 simp
 rw [L_ (by simp)]
section
variable {prog:Kn} {w:Kq} {A:KD} {E:Value→JU→Prop} {s:JU}
theorem IntsAre.app:∀ {vs us:List Value} {ns ms:List Int},K8 vs ns→K8 us ms→K8 (vs++us) (ns++ms)
 | _,_,_,_,.nil,r=>r
 | _,_,_,_,.cons n t q,r=>.cons n t (IntsAre.app q r)
theorem IntsAre.Bz:∀ {vs:List Value} {ns:List Int} (p:Nat),K8 vs ns→K8 (vs.take p) (ns.take p)
 | _,_,0,_=>.nil
 | _,_,_+1,.nil=>.nil
 | _,_,p+1,.cons n t q=>.cons n t (IntsAre.Bz p q)
theorem IntsAre.A3:∀ {vs:List Value} {ns:List Int} (p:Nat),K8 vs ns→K8 (vs.drop p) (ns.drop p)
 | _,_,0,r=>r
 | _,_,_+1,.nil=>.nil
 | _,_,p+1,.cons _ _ q=>IntsAre.A3 p q
theorem qF:∀ {vs us:List Value},MU vs us→∀ {ns:List Int},K8 us ns→∃ ms,K8 vs ms∧MU ms ns:=by
 intro vs us hp
 induction hp with
 | nil=>intro ns r;exact ⟨ns,r,.refl _⟩
 | cons x _ ih=>
  intro ns r
  cases r with
  | cons n t r=>
   obtain ⟨ms,a,b⟩:=ih r
   exact ⟨n :: ms,.cons n t a,b.cons n⟩
 | swap x y l=>
  intro ns r
  cases r with
  | cons n t r=>cases r with
   | cons n' t' r=>exact ⟨n' :: n :: _,.cons n' t' (.cons n t r),.swap ..⟩
 | trans _ _ ih1 ih2=>
  intro ns r
  obtain ⟨ms,a,b⟩:=ih2 r
  obtain ⟨ms',a',b'⟩:=ih1 a
  exact ⟨ms',a',b'.trans b⟩
theorem tK {t':LF} {es':Array (Int×Value)} (hm:cy t'.mask=true) (hn:es'.size=n) (h1:¬n * 5 < t'.mask * 3) (h2:n * 5 < t'.mask * 3+5) (h3:n≤300) :
  cy (Le (NQ n) - 1)=true∧n * 5 < (Le (NQ n) - 1) * 3:=by
 simp only [cy,LC,Lv] at hm
 rcases hm with ((hm | hm) | hm) | hm<;>rw [hm] at h1 h2
 ·have:n=5:=by omega
  subst this;decide +kernel
 ·have:n=19:=by omega
  subst this;decide +kernel
 ·have:n=77:=by omega
  subst this;decide +kernel
 ·omega
theorem zu {ks:List Int} (hS:jx w s.heap a ks) (hl:k∉ks→ks.length < 300)
  (h:∀ (h':Heap) (ks':List Int) (b:Bool),K_ a s.heap h'→jx w h' a ks'→(∀ x,x∈ks'↔x∈ks∨x=k)→(k∈ks→ks'.length=ks.length)→(k∉ks→ks'.length=ks.length+1)→Q b { s with heap:=h',toks:=s.toks+1 }) :
  JY (J6 prog w) A (QA a (.int k tk)) Q E s:=by
 obtain ⟨o,es,ep,t,pl,g1,g2,g3,g4,g5,g6,g7,g8,g9,g10,g11,g12,g13⟩:=hS
 obtain ⟨g9,lpl,g14⟩:=g9
 have hmask:=iG g4
 have lks:es.size=ks.length:=by
  have:=dy g10
  rw [J0,Kh] at this
  exact this
 have hmk:7≤t.mask:=by
  have q:=g4
  simp only [cy,LC,Lv] at q
  omega
 have hfit:t.fits es.size=true:=fits_of g5 (by rw [g8,lks];simpa using lpl) (by omega)
 have hel:ElemsOf (KI prog w) es.toList:=fun e he=>by
  obtain ⟨k',e1,e2⟩:=g11 e he
  refine ⟨⟨k',e1,e2⟩,?_⟩
  obtain ⟨t',e'⟩:=NI e1
  rw [e'];rfl
 have hint:(KI prog w).is k (.int k tk)=true:=jf (k:=k) (t:=tk)
 unfold QA
 refine KG (ar ((KI prog w).pyHash (k:=k) (v:=.int k tk) hint ?_))
 unfold SD
 refine KG ?_
 show JY _ _ (Rk a (.int k tk) _ (99999+1)) _ _ _
 rw [setAddHashedIn.eq_2]
 refine ar (Kr g1 g3 hfit ?_)
 show JY _ _ (if Rm (.int k tk) es=true then _ else _) _ _ _
 rw [J2 (byScan_of (knd:=KI prog w) rfl (by unfold scanBound;omega) hel)]
 refine ar ?_
 unfold setAddByScan
 refine ar (NW (ar (wpAny_setScan_of (knd:=KI prog w) (k:=k) hint g1 g3 hfit hel ?_)))
 have hfi:=lC (k:=k) g10
 by_cases hm:k∈ks
 ·have hs:=hfi.mp hm
  cases hf:OO (fun e=>(KI prog w).is k e.snd) es.toList with
  | none=>
   have hf':OO (fun e:Int×Value=>Mm k e.2) es.toList=none:=hf
   rw [hf'] at hs;cases hs
  | some j=>
   refine tx (tx ?_)
   exact h s.heap ks false (WN ..) ⟨o,es,ep,t,pl,g1,g2,g3,g4,g5,g6,g7,g8,⟨g9,lpl,g14⟩,g10,g11,g12,g13⟩ (fun x=>⟨.inl,fun z=>z.elim id fun e=>e ▸ hm⟩) (fun _=>rfl) (fun z=>absurd hm z)
 ·have hl3:=hl hm
  have hnone:OO (fun e=>(KI prog w).is k e.snd) es.toList=none:=by
   have hf':OO (fun e:Int×Value=>Mm k e.2) es.toList=none:=by
    cases hf:OO (fun e:Int×Value=>Mm k e.2) es.toList with
    | none=>rfl
    | some j=>exact absurd (hfi.mpr (by rw [hf];rfl)) hm
   exact hf'
  rw [hnone]
  obtain ⟨j,hfree,hjl⟩:=ym g8 g9 g5 hmask (show pl.length≤t.mask by omega) (OZ k)
  obtain ⟨p,hple,hpb,hpa,hpc⟩:=qe g9 j
  have hp:Ma pl.toArray j=p:=hpb
  have les0:es.size=pl.length:=by omega
  have riN:Ri (pl.take p++j :: pl.drop p):=pR g9 hjl hpa hpc
  have liN:(Lx pl.toArray p j).toList=pl.take p++j :: pl.drop p:=by
   have:=fD pl.toArray p j (by simpa using hple)
   simpa using this
  refine show _ from ?_
  ·have hput:t.put j=({ mask:=t.mask,place:=Lx t.place p j,dummies:=#[],finger:=t.finger,led:=t.led,moves:=t.moves,plain:=t.plain },p):=by
    unfold VC
    rw [g8,hp,g5]
    rfl
   generalize ht':({ mask:=t.mask,place:=Lx t.place p j,dummies:=#[],finger:=t.finger,led:=t.led,moves:=t.moves,plain:=t.plain }:LF)=t' at hput
   have m1:t'.mask=t.mask:=by rw [← ht']
   have m2:t'.dummies=#[]:=by rw [← ht']
   have m3:t'.plain=true:=by rw [← ht'];exact g6
   have m4:t'.led=!(w.params.followText "set-order"):=by rw [← ht'];exact g7
   have m5:t'.place=(pl.take p++j :: pl.drop p).toArray:=by rw [← ht',g8,← liN]
   have lpl':(pl.take p++j :: pl.drop p).length=ks.length+1:=by simp;omega
   have les:(Lx es p (OZ k,Mq k tk)).toList=es.toList.take p++(OZ k,Mq k tk) :: es.toList.drop p:=fD _ _ _ (by omega)
   generalize hes:Lx es p (OZ k,Mq k tk)=es' at les
   have lsz:es'.size=ks.length+1:=by
    rw [← Kh,les]
    simp
    omega
   have hfit':t'.fits es'.size=true:=fits_of m2 (by rw [m5,lsz];simpa using lpl') (by omega)
   have hlay:layNew t es (OZ k) (.int k tk)=(es',t',false,false):=by
    unfold layNew
    rw [hfree]
    simp only [hput,hes]
    unfold SetTable.orStandIn
    rw [J2 hfit',hfit']
    rfl
   have hlay2:layNew t es ((KI prog w).hash k) (.int k tk)=(es',t',false,false):=hlay
   rw [hlay2]
   dsimp only
   refine ar (tx ?_)
   rw [J2 m3,Rn 8 (x:=.int k tk) rfl]
   refine ar (tx ?_)
   have hpk:plainKind (Mq k tk)=true:=rfl
   rw [J2 hpk]
   have h1000:(1000:Nat)≤sizeLine:=LM (du (J3 1000))
   have hsz:¬es'.size > sizeLine:=by rw [lsz];omega
   have i1:K8 (es'.toList.map Qz) (ks.take p++k :: ks.drop p):=by
    rw [les,O_,Kx,UZ,List.map_drop]
    exact IntsAre.app (IntsAre.Bz p g10) (.cons k tk (IntsAre.A3 p g10))
   have i2:∀ e∈es'.toList,∃ k,Mm k e.2=true∧e.1=OZ k:=by
    intro e he
    rw [les] at he
    rcases Kz.mp he with z | z
    ·exact g11 e (MG z)
    ·rcases J1.mp z with z | z
     ·rw [z];exact ⟨k,jf,rfl⟩
     ·exact g11 e (MF z)
   have hperm:MU (ks.take p++k :: ks.drop p) (k :: ks):=by
    have:=List.perm_middle (a:=k) (l₁:=ks.take p) (l₂:=ks.drop p)
    rw [NP] at this
    exact this
   have kl:(ks.take p++k :: ks.drop p).length=ks.length+1:=by rw [hperm.length_eq];rfl
   have i3:(ks.take p++k :: ks.drop p).Nodup:=by
    rw [hperm.nodup_iff,LU]
    exact ⟨hm,g12⟩
   have i4:∀ x,x∈ks.take p++k :: ks.drop p↔x∈ks∨x=k:=by
    intro x
    rw [hperm.mem_iff,J1]
    exact or_comm
   generalize hks:ks.take p++k :: ks.drop p=ks' at i1 kl i3 i4
   have hfill:t'.fill=ks.length+1:=by
    unfold PX
    rw [m2,m5]
    simp only [J8,lpl']
    rfl
   have putS:∀ (e2:Array (Int×Value)) (t2:LF) (o2:Obj) (e1:Array (Int×Value)) (n1:Nat) (t1:LF),o2.data=.set e1 n1 t1→Ny e2 t2 o2={ o2 with data:=.set e2 (n1+1) t2 }:=by
    intro e2 t2 o2 e1 n1 t1 hd
    obtain ⟨oc,od,oda,osl⟩:=o2
    have hd':oda=.set e1 n1 t1:=hd
    subst hd'
    rfl
   refine ar ?_
   unfold storeSet
   refine ar (wpAny_load' g1 ?_)
   rw [g3]
   dsimp only
   rw [J9 hsz]
   refine R0 g1 ?_
   have hupd:=putS es' t' o es ep t g3
   have gN:(s.heap.update a (Ny es' t')).get? a=some { o with data:=.set es' (ep+1) t' }:=by
    rw [← hupd]
    exact Ln _ g1 (by rw [hupd];rfl)
   have sbN:K_ a s.heap (s.heap.update a (Ny es' t')):=LJ ..
   by_cases hfull:(ks.length+1) * 5 < t.mask * 3
   ·have hf0:(!false && t'.tooFull)=false:=by
     unfold OW
     rw [hfill,m1]
     simp
     omega
    rw [hf0]
    rw [J9 (by simp)]
    refine tx (tx ?_)
    exact h _ ks' true sbN ⟨_,es',ep+1,t',_,gN,g2,rfl,by rw [m1];exact g4,m2,m3,m4,m5,⟨riN,by rw [lpl',kl],by rw [kl,m1];exact hfull⟩,i1,i2,i3,by omega⟩ i4 (fun z=>absurd z hm) (fun _=>kl)
   ·have hf1:(!false && t'.tooFull)=true:=by
     unfold OW
     rw [hfill,m1]
     simp
     omega
    rw [hf1]
    rw [J2 rfl]
    obtain ⟨w1,w2⟩:=tK (t':=t') (es':=es') (n:=ks.length+1) (by rw [m1];exact g4) lsz (by rw [m1];exact hfull) (by rw [m1];omega) (by omega)
    rw [lsz]
    obtain ⟨e2,t2,l2,r1,r2,r3,r4,r5,r6,r7,r8,r9⟩:=rJ (t:=t') (es:=es') (wanted:=NQ (ks.length+1)) (iG w1) (by rw [lsz];omega)
    rw [r1]
    dsimp only
    have lsz2:e2.size=ks.length+1:=by rw [← Kh,r2.length_eq,Kh,lsz]
    obtain ⟨ks2,j1,j2⟩:=qF (r2.map Qz) i1
    refine ar (tx ?_)
    refine ar ?_
    refine ar (wpAny_load' gN ?_)
    dsimp only
    rw [J9 (by rw [lsz2];omega)]
    refine R0 gN ?_
    refine tx (tx ?_)
    have gM:((s.heap.update a (Ny es' t')).update a (Ny e2 t2)).get? a=some { o with data:=.set e2 (ep+1+1) t2 }:=by
     have hq:=putS e2 t2 { o with data:=.set es' (ep+1) t' } es' (ep+1) t' rfl
     rw [← hq]
     exact Ln _ gN (by rw [hq];rfl)
    refine h _ ks2 true (sbN.trans (LJ ..)) ⟨_,e2,ep+1+1,t2,l2,gM,g2,rfl,by rw [r7];exact w1,r6,by rw [r8];exact m3,by rw [r9];exact m4,r3,⟨r4,by rw [r5,lsz,j2.length_eq,kl],by rw [r7,j2.length_eq,kl];exact w2⟩,j1,fun e he=>i2 e (r2.mem_iff.mp he),j2.nodup_iff.mpr i3,by rw [j2.length_eq,kl];omega⟩ (fun x=>by rw [j2.mem_iff];exact i4 x) (fun z=>absurd z hm) (fun _=>by rw [j2.length_eq,kl])
end
section
variable {prog:Kn} {w:Kq} {A:KD} {E:Value→JU→Prop} {s:JU}
theorem jx.at (H:jx w h S ks) (k:∀ o,h.get? S=some o→h'.get? S=some o):jx w h' S ks:=by
 obtain ⟨o,es,ep,t,pl,g1,r⟩:=H
 exact ⟨o,es,ep,t,pl,k o g1,r⟩
theorem pS {R:Rg→JU→Prop} {I:Addr} {fp wr:List Addr} {n:Nat} {P:Nat→Value→Prop} {St:Nat→Heap→Prop} (W:Walks prog w A.in1 I fp wr n P St) (S:Addr) (hSf:S∉fp) (val:Nat→Int) (hval:∀ i v,P i v→∃ t,v=Mq (val i) t) (hn:n≤300) :
  ∀ (k i:Nat) (s:JU) (ks:List Int),n - i=k→i≤n→St i s.heap→jx w s.heap S ks→(∀ x,x∈ks↔∃ j,j < i∧val j=x)→ks.length≤i →
   (∀ (h':Heap) (tk:Nat) (ks':List Int),(∀ b o,b≠S→b∉wr→s.heap.get? b=some o→h'.get? b=some o)→jx w h' S ks'→(∀ x,x∈ks'↔∃ j,j < n∧val j=x)→R (.ok (.ret .none)) { s with heap:=h',toks:=tk }) →
   NM (J6 prog w) A (QB "set.update.loop" ⟨[.ref S,.ref I],[]⟩) R s:=by
 have hSw:S∉wr:=fun h=>hSf (W.sub S h)
 intro k
 induction k with
 | zero=>
  intro i s ks hk hi hst hS hks hlen hR
  have hin:i=n:=by omega
  subst hin
  refine Mh Nl ?_
  rw [Nd LX]
  refine (show JY _ _ (Nq (.ref I)>>=_) _ _ _ from ar (W.done s _ _ hst fun h' tk hk'=>?_))
  exact tx (hR h' tk ks (fun b o _ hw e=>hk' b o hw e) (hS.at fun o e=>hk' S o hSw e) hks)
 | succ k ih=>
  intro i s ks hk hi hst hS hks hlen hR
  refine Mh Nl ?_
  rw [Nd LX]
  refine (show JY _ _ (Nq (.ref I)>>=_) _ _ _ from ar (W.item i s _ _ (by omega) hst fun v h' tk hP hst' hk'=>?_))
  obtain ⟨t,rfl⟩:=hval i v hP
  refine (show JY _ _ (N3 [Mq (val i) t] (QA S (.int (val i) t))>>=_) _ _ _ from ar (KG ?_))
  refine zu (s:={ s with heap:=h',toks:=tk }) (hS.at fun o e=>hk' S o hSw e) (fun _=>by omega) fun h2 ks2 b sb hS2 hm l1 l2=>?_
  refine tx ⟨PY LX _,ih (i+1) _ ks2 (by omega) (by omega) ?_ hS2 ?_ ?_ fun h3 tk3 ks3 q1 q2 q3=>?_⟩
  ·exact W.frame _ _ _ hst' fun b hb' o e=>sb.extBut b o (fun z=>hSf (z ▸ hb')) e
  ·intro x
   rw [hm,hks]
   constructor
   ·rintro (⟨j,h1,h2⟩ | rfl)
    ·exact ⟨j,by omega,h2⟩
    ·exact ⟨i,by omega,rfl⟩
   ·rintro ⟨j,h1,h2⟩
    by_cases e:j=i
    ·subst e;exact .inr h2.symm
    ·exact .inl ⟨j,by omega,h2⟩
  ·by_cases hin:val i∈ks
   ·have:=l1 hin;omega
   ·have:=l2 hin;omega
  ·exact hR h3 tk3 ks3 (fun b o hb1 hb2 e=>q1 b o hb1 hb2 (sb.extBut b o hb1 (hk' b o hb2 e))) q2 q3
theorem kH (a:Value)
  (h:Q₁ (.ref s.heap.objs.size) { s with heap:=s.heap.push { cls:=.type "set",data:=.set #[] 0 (MP 0 0 (!(w.params.followText "set-order"))) } }) :
  NM (J6 prog w) A (Code.call (.builtin "set.__new__") ⟨[.type "set",a],[]⟩) (wants Q₁ E) s:=by
 refine Pa ?_
 refine (show JY _ _ (QC "set.__new__" ⟨[.type "set",a],[]⟩>>=_) _ _ _ from ar (MB (F.newCall_set_1 a) (tx ⟨PY T8 _,Mh F.entry_set_new ?_⟩)))
 rw [Nd T8]
 have hsub:=sub_set_self
 refine (show JY _ _ (PZ "set" _>>=_) _ _ _ from ar ?_)
 unfold PZ
 refine ar (tx ?_)
 refine JX rfl (ar (MB hsub (JX rfl (tx ?_))))
 refine (show JY _ _ (newSet (.type "set")>>=_) _ _ _ from ar ?_)
 unfold newSet
 refine ar ?_
 unfold RJ
 refine ar (NZ (tx ?_))
 exact (show JY _ _ (newObj (.type "set") (Data.set #[] 0 (MP 0 0 (!(w.params.followText "set-order"))))) _ _ _ from KN (tx h) (by first | size_fits | (intro _;decide)))
theorem jH:∀ {vs:List Value} {ns:List Int} {i:Nat} {v:Value},K8 vs ns→vs[i]?=some v→∃ t,v=Mq (ns.getD i 0) t
 | _,_,_,_,.nil,e=>by simp at e
 | _,_,0,_,.cons n t _,e=>⟨t,by simpa using e.symm⟩
 | _,_,i+1,v,.cons n t r,e=>by
  obtain ⟨t',e'⟩:=jH (i:=i) (v:=v) r (by simpa using e)
  exact ⟨t',by simpa using e'⟩
def jP (h:Heap) (l:Addr) (items:Array Value) (k:Bool):Prop:=if k=true then h.IsList l items else h.IsTuple l items
theorem xk {S l:Addr} {items:Array Value} {ns:List Int} {F:UE→JU→Prop} {hp:Heap} {g:Array Pk} {d:SK} {tk:Nat} {os:SU} (hh:A.handled=none) (hS:hp.get? S=some { cls:=.type "set",data:=.set #[] 0 (MP 0 0 (!(w.params.followText "set-order"))) }) (k:Bool) (hl:jP hp l items k) (hi:K8 items.toList ns) (hn:ns.length≤300)
    (h:∀ (h':Heap) (tk':Nat) (ks:List Int),jx w h' S ks→(∀ x,x∈ks↔x∈ns)→(∀ b o,b≠S→hp.get? b=some o→h'.get? b=some o)→F (.done (.ret .none)) ⟨h',g,d,tk',os⟩) :
    JY (J6 prog w) A (Builtin.«set.__init__» ⟨[.ref S,.ref l],[]⟩) F E ⟨hp,g,d,tk,os⟩:=by
  cases k with
  | false=>
    replace hl:hp.IsTuple l items:=hl
    have hT:Mu ⟨hp,g,d,tk,os⟩ (.ref S) "set":=⟨_,hS,rfl⟩
    have hTt:Mu ⟨hp,g,d,tk,os⟩ (.ref l) "tuple":=hl.typeIs
    unfold Builtin.«set.__init__»
    refine ar ?_
    unfold RK
    refine Lh rfl (tx ?_)
    dsimp only
    refine ar ?_
    unfold P0
    refine ar ?_
    unfold Pt
    refine ar (Lf hT ?_)
    first
    | refine JX rfl (tx ?_)
    | refine tx ?_
    refine (show JY _ _ (pure _) _ _ _ from tx ?_)
    refine ar ?_
    unfold Pb
    refine JX rfl (JX rfl (JX rfl (tx ?_)))
    refine ar (tx ?_)
    refine ar ?_
    unfold Uo
    refine ar (Kr hS rfl (by rfl) (tx ?_))
    refine JX rfl ?_
    refine ar ?_
    unfold MQ
    refine ar ?_
    unfold M5
    refine (show JY _ _ (MH (.ref l) (.type "set")>>=_) _ _ _ from ar (Lo hTt Ro ?_))
    refine (show JY _ _ (MH (.ref l) (.type "frozenset")) _ _ _ from Lo hTt PH ?_)
    refine JX rfl (ar (Lf hTt (JX rfl (ar (Nu hl ?_)))))
    refine ar (OA ?_)
    have hlt:S < hp.objs.size:=J4 hS
    obtain ⟨o,ho,hor⟩:=hl
    have hlt2:l < hp.objs.size:=J4 ho
    have hne:l≠hp.objs.size:=Kf hlt2
    have W:=Tr (prog:=prog) (w:=w) (A:=A.in1) hh hp.objs.size l hne items
    have lit:items.size=ns.length:=by rw [← Kh];exact dy hi
    have hSl:S≠l:=fun e=>by
      rw [e,ho] at hS
      cases hS
      exact absurd (NR hor.1) (by decide)
    refine pS W S (by simp only [J1,Kw,LR,not_or];exact ⟨Kf hlt,hSl⟩) (fun i=>ns.getD i 0) ?_ (by omega) items.size 0 _ [] (by omega) (L9 _) ?_ ?_ ?_ (J3 0) ?_
    · intro i v hv
      exact jH hi (by simpa using hv)
    · exact ⟨⟨_,Kc _ rfl,rfl,rfl⟩,⟨o,C0 _ ho,hor⟩⟩
    · refine ⟨_,#[],0,_,[],C0 _ hS,⟨rfl,rfl,rfl⟩,rfl,(show cy 7=true by decide),rfl,rfl,rfl,rfl,⟨NJ,rfl,(show 0 * 5 < 7 * 3 by decide)⟩,.nil,by simp,Mz,by simp⟩
    · intro x
      simp
    · intro h' tk' ks' q1 q2 q3
      refine tx (tx (h h' tk' ks' q2 ?_ ?_))
      · intro x
        rw [q3]
        constructor
        · rintro ⟨j,hj,rfl⟩
          show ns.getD j 0∈ns
          rw [Kd,JZ (show j < ns.length by omega)]
          exact L5 _
        · intro hx
          obtain ⟨j,hj,e⟩:=L4.mp hx
          refine ⟨j,by omega,?_⟩
          show ns.getD j 0=x
          rw [Kd,JZ hj]
          exact e
      · intro b o' hbS e
        refine q1 b o' hbS ?_ (C0 _ e)
        simp only [Ka]
        exact Kf (J4 e)
  | true=>
    replace hl:hp.IsList l items:=hl
    have hT:Mu ⟨hp,g,d,tk,os⟩ (.ref S) "set":=⟨_,hS,rfl⟩
    have hTt:Mu ⟨hp,g,d,tk,os⟩ (.ref l) "list":=hl.typeIs
    unfold Builtin.«set.__init__»
    refine ar ?_
    unfold RK
    refine Lh rfl (tx ?_)
    dsimp only
    refine ar ?_
    unfold P0
    refine ar ?_
    unfold Pt
    refine ar (Lf hT ?_)
    first
    | refine JX rfl (tx ?_)
    | refine tx ?_
    refine (show JY _ _ (pure _) _ _ _ from tx ?_)
    refine ar ?_
    unfold Pb
    refine JX rfl (JX rfl (JX rfl (tx ?_)))
    refine ar (tx ?_)
    refine ar ?_
    unfold Uo
    refine ar (Kr hS rfl (by rfl) (tx ?_))
    refine JX rfl ?_
    refine ar ?_
    unfold MQ
    refine ar ?_
    unfold M5
    refine (show JY _ _ (MH (.ref l) (.type "set")>>=_) _ _ _ from ar (Lo hTt RL ?_))
    refine (show JY _ _ (MH (.ref l) (.type "frozenset")) _ _ _ from Lo hTt P4 ?_)
    refine JX rfl (ar (Lf hTt (JX rfl (ar (NK hl ?_)))))
    refine ar (OA ?_)
    have hlt:S < hp.objs.size:=J4 hS
    obtain ⟨o,ho,hor⟩:=hl
    have hlt2:l < hp.objs.size:=J4 ho
    have hne:l≠hp.objs.size:=Kf hlt2
    have W:=T2 (prog:=prog) (w:=w) (A:=A.in1) hh hp.objs.size l hne items
    have lit:items.size=ns.length:=by rw [← Kh];exact dy hi
    have hSl:S≠l:=fun e=>by
      rw [e,ho] at hS
      cases hS
      exact absurd (NR hor.1) (by decide)
    refine pS W S (by simp only [J1,Kw,LR,not_or];exact ⟨Kf hlt,hSl⟩) (fun i=>ns.getD i 0) ?_ (by omega) items.size 0 _ [] (by omega) (L9 _) ?_ ?_ ?_ (J3 0) ?_
    · intro i v hv
      exact jH hi (by simpa using hv)
    · exact ⟨⟨_,Kc _ rfl,rfl,rfl⟩,⟨o,C0 _ ho,hor⟩⟩
    · refine ⟨_,#[],0,_,[],C0 _ hS,⟨rfl,rfl,rfl⟩,rfl,(show cy 7=true by decide),rfl,rfl,rfl,rfl,⟨NJ,rfl,(show 0 * 5 < 7 * 3 by decide)⟩,.nil,by simp,Mz,by simp⟩
    · intro x
      simp
    · intro h' tk' ks' q1 q2 q3
      refine tx (tx (h h' tk' ks' q2 ?_ ?_))
      · intro x
        rw [q3]
        constructor
        · rintro ⟨j,hj,rfl⟩
          show ns.getD j 0∈ns
          rw [Kd,JZ (show j < ns.length by omega)]
          exact L5 _
        · intro hx
          obtain ⟨j,hj,e⟩:=L4.mp hx
          refine ⟨j,by omega,?_⟩
          show ns.getD j 0=x
          rw [Kd,JZ hj]
          exact e
      · intro b o' hbS e
        refine q1 b o' hbS ?_ (C0 _ e)
        simp only [Ka]
        exact Kf (J4 e)
theorem qm (hh:A.handled=none) (k:Bool) (hl:jP s.heap l items k) (hi:K8 items.toList ns) (hn:ns.length≤300)
  (h:∀ (h':Heap) (tk:Nat) (ks:List Int),jx w h' s.heap.objs.size ks→(∀ x,x∈ks↔x∈ns)→(∀ b o,s.heap.get? b=some o→h'.get? b=some o)→Q (.ref s.heap.objs.size) { s with heap:=h',toks:=tk }):JY (J6 prog w) A (call (.type "set") [.ref l]) Q E s:=by
 obtain ⟨c,tl,hmro⟩:=LD.mro
 have hmade:=LD.made
 have hsub:=LD.sub
 have h1:=LD.notType
 have h2:=LD.canCreate
 have hct:=TH (Kg l)
 refine Nb (Pa ?_)
 refine (show JY _ _ (pure (Fin.again (QB "type.__call__" ⟨[.type "set",.ref l],[]⟩))) _ _ _ from tx ⟨MV _ (by decide +kernel),Mh Tg ?_⟩)
 rw [SE (Rp "set" [Kg l] []) rfl]
 unfold Builtin.«type.__call__»
 dsimp only
 refine JX rfl (JX (by rw [h2];rfl) (ar (MB hct (ar (MB hmro (JX rfl (ar (MB hmade ?_))))))))
 dsimp only
 refine ar (tx (ar (KG (Nb (Og (kH (E:=fun _ _=>False) (Q₁:=fun obj s₁=>obj=.ref s.heap.objs.size∧s₁={ s with heap:=s.heap.push { cls:=.type "set",data:=.set #[] 0 (MP 0 0 (!(w.params.followText "set-order"))) } }) (.ref l) ⟨rfl,rfl⟩) fun r s₁ hr=>?_)))))
 generalize hs1:({ s with heap:=s.heap.push { cls:=.type "set",data:=.set #[] 0 (MP 0 0 (!(w.params.followText "set-order"))) } }:JU)=sN at hr
 cases r with
 | error e=>exact LB hr
 | ok f=>
  cases f with
  | ret v=>
   obtain ⟨e1,e2⟩:=hr
   subst e1 e2
   have hT:Mu s₁ (.ref s.heap.objs.size) "set":=by
    rw [← hs1]
    exact ⟨_,Kc _ rfl,rfl⟩
   show JY _ _ _ _ _ _
   refine ar (Lo (T:="set") (b:=true) hT hsub ?_)
   refine JX rfl (ar (KG ?_))
   refine KQ (name:=K6 "__init__") hT LD.init (Nb (Mo LD.init.plain TJ (TK hT ?_)))
   subst hs1
   obtain ⟨hp,g,d,tk,os⟩:=s
   refine xk (hp:=hp.push _) hh (Kc _ rfl) k (by
    cases k with
    | false=>
     obtain ⟨o,e,r⟩:=(show QE _ l items from hl)
     exact (show QE _ l items from ⟨o,C0 _ e,r⟩)
    | true=>
     obtain ⟨o,e,r⟩:=(show Q7 _ l items from hl)
     exact (show Q7 _ l items from ⟨o,C0 _ e,r⟩)) hi hn fun h' tk' ks q1 q2 q3=>?_
   refine JX rfl (tx (h h' tk' ks q1 q2 fun b o e=>q3 b o (Kf (J4 e)) (C0 _ e)))
  | _=>exact LB hr
end
theorem bU:Slot "set_iterator" (K6 "__next__") "set_iterator.__next__":=
 Slot.of (owner:="set_iterator") (n:="__next__") (by rw [T9,Rq];rfl) (by decide +kernel) (by decide +kernel) (by decide +kernel) (Qu (by decide +kernel)) (by rw [Up];rfl) (by decide +kernel)
theorem fc:VD table "set_iterator.__next__"=some Builtin.«set_iterator.__next__»:=entryFor_of_tree (by rfl)
theorem pK:VD table "set.__iter__"=some Builtin.«frozenset.__iter__»:=Uq (id':="frozenset.__iter__") (by rfl) (by decide +kernel) (by decide +kernel) (by rfl)
theorem gX:Ts (R1 "set_iterator".toList) Manifest.owners=some Oc:=by rfl
theorem fo (a:Value):argsOk "set_iterator.__next__" ⟨[a],[]⟩:=by
 have h:R9 "set_iterator.__next__"=Ts (R1 (['_','_','t','x','e','n','_','_']:List Char).reverse) Oc:=signature?_of (o:=['r','o','t','a','r','e','t','i','_','t','e','s']) (by decide +kernel) gX
 unfold argsOk
 rw [h]
 rfl
theorem zP (hT:s.TypeIs (.ref r) "set") (h:Q false s):JY (J6 prog w) A (PJ (.ref r)) Q E s:=by
 unfold PJ
 refine ar (QQ hT F.slot_set_len.lookup ?_)
 dsimp only
 rw [show splitId "set.__len__"=some ("set","__len__") by decide +kernel]
 dsimp only
 refine ar (Lo hT LD.sub (JX rfl ?_))
 refine Lh rfl (ar (Lf hT ?_))
 exact tx h
theorem kf:∀ (l:List α) (k:Nat) (h:k < l.length),MU (l[k] :: l.eraseIdx k) l
 | x :: l,0,_=>by simp
 | x :: l,k+1,h=>by
  have hk:k < l.length:=by simpa using h
  have ih:=kf l k hk
  simp only [List.getElem_cons_succ,OD]
  exact (List.Perm.swap ..).trans (Ul x ih)
theorem t7 (next:Nat→Nat):∀ (fuel a:Nat) (l:List α) (acc:Array α),fuel=l.length→MU (pickOrder.go next fuel a l acc).toList (acc.toList++l)
 | 0,a,l,acc,h=>by
  have:l=[]:=NH h.symm
  subst this
  rw [pickOrder.go.eq_1,N9]
 | fuel+1,a,l,acc,h=>by
  rw [pickOrder.go.eq_2]
  have hlt:next a % l.length < l.length:=Oz _ (by omega)
  rw [JZ hlt]
  refine (t7 next fuel (a+1) (l.eraseIdx (next a % l.length)) (acc.push l[next a % l.length]) (by rw [P5 hlt];omega)).trans ?_
  rw [Array.toList_push,P_]
  refine Rt _ ?_
  rw [List.singleton_append]
  exact kf l _ hlt
theorem yU (next:Nat→Nat) (xs:Array α):MU (SG next xs).toList xs.toList:=by
 unfold SG
 have:=t7 next xs.size 0 xs.toList #[] (by simp)
 simpa using this
section
variable {prog:Kn} {w:Kq} {A:KD} {E:Value→JU→Prop} {s:JU}
abbrev fj (w:Kq):Bool:=w.params.followText "set-order"
def orderOf (w:Kq) (S:Addr) (ep:Nat) (es:Array (Int×Value)):Array (Int×Value):=if fj w=true then SG (w.params.setOrder S ep) es else es
theorem oi (w:Kq) (S:Addr) (ep:Nat) (es:Array (Int×Value)):MU (orderOf w S ep es).toList es.toList:=by
 unfold orderOf
 split
 ·exact yU _ _
 ·exact List.Perm.refl _
def slotAt (w:Kq) (pl:List Nat):Nat→Nat
 | 0=>0
 | i+1=>if fj w=true then 0 else pl.getD i 0+1
structure iX (w:Kq) (o:Obj) (es:Array (Int×Value)) (ep:Nat) (t:LF) (pl:List Nat):Prop where
 dat:o.data=.set es ep t
 cls:o.cls=.type "set"
 dum:t.dummies=#[]
 plain:t.plain=true
 led:t.led=!fj w
 place:t.place=pl.toArray
 ri:ZS.Ri pl
 lpl:pl.length=es.size
 room:es.size≤t.mask
 few:es.size≤300
def km (w:Kq) (S:Addr) (es:Array (Int×Value)) (ep:Nat) (pl:List Nat) (i:Nat):Obj:={ cls:=.type "set_iterator",data:=.fields #[Mw (slotAt w pl i:Nat),Mw (i:Nat),.ref S,Mw (es.size:Nat),Mw (ep:Nat)] }
theorem iX.fits (H:iX w o es ep t pl):t.fits es.size=true:=
 fits_of H.dum (by rw [H.place];simpa using H.lpl) H.room
theorem wD (h:ZS.Ri pl) (hi:i≤pl.length) (hw:fj w=false):Ma pl.toArray (slotAt w pl i)=i:=by
 cases i with
 | zero=>exact ZS.vm
 | succ i=>
  show Ma pl.toArray (if fj w=true then 0 else pl.getD i 0+1)=i+1
  rw [hw,J9 (by simp),Kd,JZ (show i < pl.length by omega)]
  exact (ZS.lJ h (by omega)).1
theorem rm (H:iX w o es ep t pl) (hS:s.heap.get? S=some o) (hi:i≤es.size)
  (h:Q (((orderOf w S ep es)[i]?).map fun e=>(e.2,slotAt w pl (i+1))) s):JY (J6 prog w) A (Ur S (slotAt w pl i) i ep) Q E s:=by
 unfold Ur
 refine ar (Kr hS H.dat H.fits ?_)
 dsimp only
 unfold RJ
 refine ar (ar (NZ (tx ?_)))
 show JY _ _ (if fj w=true then _ else _) _ _ _
 by_cases hb:fj w=true
 ·rw [J2 hb]
  refine JX (by simp) ?_
  refine ar ?_
  unfold setWalk
  refine ar (Kr hS H.dat H.fits ?_)
  dsimp only
  unfold RJ
  refine ar (ar (NZ (tx ?_)))
  show JY _ _ (if fj w=true then _ else _) _ _ _
  rw [J2 hb]
  refine ar (NZ (tx (tx ?_)))
  have e1:orderOf w S ep es=SG (w.params.setOrder S ep) es:=by unfold orderOf;rw [J2 hb]
  rw [e1] at h
  have e2:slotAt w pl (i+1)=slotAt w pl i:=by
   cases i with
   | zero=>simp [slotAt,hb]
   | succ j=>simp [slotAt,hb]
  rw [e2] at h
  exact h
 ·rw [J9 hb]
  have hbf:fj w=false:=by simpa using hb
  refine JX (by
   show decide ((!t.plain && decide (es.size > 1))=true)=false
   rw [H.plain]
   rfl) ?_
  refine ar ?_
  refine JX (by
   rw [H.led,hbf]
   rfl) (tx (tx ?_))
  have e1:orderOf w S ep es=es:=by unfold orderOf;rw [J9 hb]
  rw [e1] at h
  have lpl:=H.lpl
  rw [H.place,wD H.ri (by omega) hbf]
  by_cases hlt:i < es.size
  ·have a1:es[i]?=some es[i]:=by simp [hlt]
   have a2:pl.toArray[i]?=some (pl.getD i 0):=by
    rw [Mi,Kd,JZ (show i < pl.length by omega)]
    rfl
   rw [a1] at h
   rw [a1,a2]
   have e3:slotAt w pl (i+1)=pl.getD i 0+1:=by simp [slotAt,hb]
   rw [e3] at h
   exact h
  ·have a1:es[i]?=none:=by simp;omega
   rw [a1] at h
   rw [a1]
   exact h
theorem iX.typeIs (H:iX w o es ep t pl) (hS:s.heap.get? S=some o):s.TypeIs (.ref S) "set":=⟨o,hS,H.cls⟩
theorem vY (H:iX w o es ep t pl) (hS:s.heap.get? S=some o)
  (h:Q (.ref s.heap.objs.size) { s with heap:=s.heap.push (km w S es ep pl 0) }):JY (J6 prog w) A (Qn (.ref S)) Q E s:=by
 refine Th (H.typeIs hS) T_ (K3 T_ (H.typeIs hS) pK ?_ (F.args_set_iter_1 _))
 unfold Builtin.«frozenset.__iter__»
 refine ar ?_
 unfold VO VE
 refine ar (JX rfl (JX rfl (tx ?_)))
 refine tx ?_
 refine ar ?_
 unfold VF Qe
 refine ar (ar (Kr hS H.dat H.fits (tx (tx ?_))))
 refine ar ?_
 unfold setDrawn
 refine ar (Kr hS H.dat H.fits ?_)
 dsimp only
 unfold RJ
 refine ar (ar (NZ (tx (tx ?_))))
 refine JX (by
  show decide ((!fj w && (!t.plain && decide (es.size > 1)))=true)=false
  rw [H.plain]
  simp) ?_
 refine ar (tx ?_)
 refine ar ?_
 unfold setEpoch
 refine ar (Kr hS H.dat H.fits (tx ?_))
 refine ar ?_
 unfold newFields
 exact KN (tx ⟨_,rfl,"set_iterator",_,⟨_,Kc _ rfl,rfl⟩,bU.lookup,h⟩) (by first | size_fits | (intro _;decide) | decide)
end
section
variable {prog:Kn} {w:Kq} {A:KD} {E:Value→JU→Prop} {s:JU}
theorem yT {S I:Addr} {o:Obj} {es:Array (Int×Value)} {ep:Nat} {t:LF} {pl:List Nat} {i:Nat} {x:Int×Value} {Q:Value→JU→Prop} (H:iX w o es ep t pl) (hI:s.heap.get? I=some (km w S es ep pl i)) (hS:s.heap.get? S=some o) (hx:(orderOf w S ep es)[i]?=some x) (hi:i≤es.size)
  (hQ:∀ h',h'.get? I=some (km w S es ep pl (i+1))→K_ I s.heap h'→Q x.2 { s with heap:=h' }) :
  JY (J6 prog w) A (Builtin.«set_iterator.__next__» ⟨[.ref I],[]⟩) (fun fin s'=>∃ v,fin=.done (.ret v)∧Q v s') E s:=by
 unfold Builtin.«set_iterator.__next__»
 refine ar ?_
 unfold VE
 refine JX rfl (JX rfl (tx ?_))
 dsimp only
 refine ar (Us hI rfl ?_)
 refine (show JY _ _ (Qe S>>=_) _ _ _ from ar ?_)
 unfold Qe
 refine ar (Kr hS H.dat H.fits (tx ?_))
 refine JX (by simp) ?_
 refine (show JY _ _ (Ur S ((slotAt w pl i:Nat):Int).toNat ((i:Nat):Int).toNat ((ep:Nat):Int).toNat>>=_) _ _ _ from ar ?_)
 rw [Lc,Lc,Lc]
 refine rm H hS hi ?_
 rw [hx]
 dsimp only [Wf]
 refine ar (Ml hI (by simp) fun h1 g1 e1=>?_)
 refine ar (Ml g1 (by simp) fun h2 g2 e2=>?_)
 refine tx ⟨_,rfl,hQ h2 ?_ (e1.trans e2)⟩
 rw [g2]
 rfl
theorem Ag (hh:A.handled=none) (H:iX w o es ep t pl) (hI:s.heap.get? I=some (km w S es ep pl i)) (hS:s.heap.get? S=some o) (hx:(orderOf w S ep es)[i]?=none) (hi:i≤es.size)
  (hE:∀ h' e,Q4 I s.heap h'→(∃ o,h'.get? e=some o∧o.cls=.type "StopIteration")→E (.ref e) { s with heap:=h' }) :
  JY (J6 prog w) A (Builtin.«set_iterator.__next__» ⟨[.ref I],[]⟩) Q E s:=by
 unfold Builtin.«set_iterator.__next__»
 refine ar ?_
 unfold VE
 refine JX rfl (JX rfl (tx ?_))
 dsimp only
 refine ar (Us hI rfl ?_)
 refine (show JY _ _ (Qe S>>=_) _ _ _ from ar ?_)
 unfold Qe
 refine ar (Kr hS H.dat H.fits (tx ?_))
 refine JX (by simp) ?_
 refine (show JY _ _ (Ur S ((slotAt w pl i:Nat):Int).toNat ((i:Nat):Int).toNat ((ep:Nat):Int).toNat>>=_) _ _ _ from ar ?_)
 rw [Lc,Lc,Lc]
 refine rm H hS hi ?_
 rw [hx]
 dsimp only [Wf]
 refine ar (NO hI rfl (by simp) ?_)
 refine (show JY _ _ (newExc (.type "StopIteration") []>>=_) _ _ _ from ar ?_)
 simp only [newExc,newTuple]
 refine ar (KN (ar (m:=Po _ _) (MB (a:=Mt) (by first | rfl | (simp only [Po];rfl)) (KN ?_ (by size_fits)))) (by size_fits))
 simp only [raiseNew]
 refine ar (wpAny_handled ?_)
 first | rw [show A.in1.handled=none from hh] | rw [hh]
 exact ar (tx (wpAny_throw (hE _ _ (((LJ ..).extBut.push _).push _) ⟨_,Kc _ rfl,rfl⟩)))
theorem fg:Slot "set_iterator" (K6 "__iter__") "set_iterator.__iter__":=Slot.of (owner:="set_iterator") (n:="__iter__") (by rw [T9,Rq];rfl) (by decide +kernel) (by decide +kernel) (by decide +kernel) (Qu (by decide +kernel)) (by rw [Up];rfl) (by decide +kernel)
theorem ja:VD table "set_iterator.__iter__"=some Builtin.«dict_keyiterator.__iter__»:=Uq (id':="dict_keyiterator.__iter__") (by rfl) (by decide +kernel) (by decide +kernel) (by rfl)
theorem jG (a:Value):argsOk "set_iterator.__iter__" ⟨[a],[]⟩:=by
 have h:R9 "set_iterator.__iter__"=Ts (R1 (['_','_','r','e','t','i','_','_']:List Char).reverse) Oc:=signature?_of (o:=['r','o','t','a','r','e','t','i','_','t','e','s']) (by decide +kernel) gX
 unfold argsOk
 rw [h]
 rfl
theorem j_ (w:Kq) (S:Addr) (ep:Nat) (es:Array (Int×Value)):(orderOf w S ep es).size=es.size:=by
 have:=(oi w S ep es).length_eq
 simpa using this
theorem xm (hh:A.handled=none) (hne:S≠I) (H:iX w o es ep t pl) :
  Walks prog w A I [I,S] [I] es.size (fun i v=>∃ x,(orderOf w S ep es)[i]?=some x∧v=x.2) (fun i h=>h.get? I=some (km w S es ep pl i)∧h.get? S=some o) where
 sub:=fun b hb=>by rw [Ka.mp hb];simp
 frame:=fun i h h' st hk=>⟨hk I (by simp) _ st.1,hk S (by simp) _ st.2⟩
 item:=fun i s Q E hi st hQ=>by
  have hx:(orderOf w S ep es)[i]?=some ((orderOf w S ep es)[i]'(by rw [j_];exact hi)):=by rw [Mg]
  have hT:s.TypeIs (.ref I) "set_iterator":=⟨_,st.1,rfl⟩
  unfold Nq
  refine ar (PV (KQ (name:=K6 "__next__") hT bU (K3 bU hT fc ?_ (fo _))))
  refine yT H st.1 st.2 hx (by omega) fun h' g1 e1=>tx ?_
  exact hQ _ h' s.toks ⟨_,hx,rfl⟩ ⟨g1,e1.extBut _ _ hne st.2⟩ fun b o hb q=>e1.extBut b o (fun z=>hb (by simp [z])) q
 done:=fun s Q E st hQ=>by
  have hx:(orderOf w S ep es)[es.size]?=none:=by rw [Array.getElem?_eq_none_iff,j_];exact J3 _
  have hT:s.TypeIs (.ref I) "set_iterator":=⟨_,st.1,rfl⟩
  unfold Nq
  refine ar (PV (KQ (name:=K6 "__next__") hT bU (K3 bU hT fc ?_ (fo _))))
  refine Ag hh H st.1 st.2 hx (J3 _) fun h' e ext he=>?_
  obtain ⟨o',ho',hc'⟩:=he
  exact ar (Lo (T:="StopIteration") (b:=true) ⟨o',ho',hc'⟩ Uk (tx (hQ _ s.toks fun b o hb q=>ext b o (fun z=>hb (by simp [z])) q)))
 self:=fun i s Q E st h=>by
  have hT:s.TypeIs (.ref I) "set_iterator":=⟨_,st.1,rfl⟩
  exact Th hT fg (K3 fg hT ja (tx ⟨_,rfl,"set_iterator",_,hT,bU.lookup,h⟩) (jG _))
theorem Dj (H:iX w o es ep t pl) :
  PySem.W.KdlSrc prog w "set" S S es.size (fun i v=>∃ x,(orderOf w S ep es)[i]?=some x∧v=x.2) (fun h=>h.get? S=some o) where
 type:=fun s hs=>H.typeIs hs
 there:=fun h hs=>⟨J4 hs,J4 hs⟩
 keep:=fun h h' hs hk=>hk S (.inl rfl) o hs
 notList:=by decide
 notTuple:=by decide
 hint:=fun A E s Q hs h=>zP (H.typeIs hs) h
 iter:=fun A s hh hs=>⟨km w S es ep pl 0,fun i h=>h.get? s.heap.objs.size=some (km w S es ep pl i)∧h.get? S=some o,fun E Q hq=>vY H hs hq,
  xm hh (Kf (J4 hs)) H,Kc _ rfl,C0 _ hs⟩
end
def vt:Value→Int
 | .int k _=>k
 | _=>0
theorem intsAre_map:∀ {vs:List Value} {ns:List Int},K8 vs ns→(∀ v∈vs,∃ k t,v=Mq k t)∧ns=vs.map vt
 | _,_,.nil=>⟨by simp,rfl⟩
 | _,_,.cons n t r=>by
  obtain ⟨h1,h2⟩:=intsAre_map r
  refine ⟨fun v hv=>?_,by rw [Kx,← h2];rfl⟩
  rcases J1.mp hv with z | z
  ·exact ⟨n,t,z⟩
  ·exact h1 v z
theorem nR:∀ (vs:List Value),(∀ v∈vs,∃ k t,v=Mq k t)→K8 vs (vs.map vt)
 | [],_=>.nil
 | v :: vs,h=>by
  obtain ⟨k,t,rfl⟩:=h v (by simp)
  exact .cons k t (nR vs fun u hu=>h u (by simp [hu]))
theorem tE (hp:MU vs us) (r:K8 us ns):∃ ms,K8 vs ms∧MU ms ns:=by
 obtain ⟨h1,h2⟩:=intsAre_map r
 refine ⟨vs.map vt,nR vs fun v hv=>h1 v (hp.mem_iff.mp hv),?_⟩
 rw [h2]
 exact hp.map vt
def oQ (N:Nat):Prop:=∀ {prog:Kn} {w:Kq} {A:KD} {E:Value→JU→Prop} {s:JU} {a:Addr} {vs:List Value} {ns:List Int} {n:Nat} {P:UE→JU→Prop},s.heap.get? a=some (Nz "list" vs.toArray n)→K8 vs ns→vs.length < N→(∀ (out:Array Value) (ns':List Int),K8 out.toList ns'→ns'.Perm ns→ns'.Pairwise (·≤·)→P (.done (.ret .none)) { s with heap:=sortedHeap s.heap a vs out })→JY (J6 prog w) A (Builtin.«list.sort» ⟨[.ref a],[]⟩) P E s
theorem EV:oQ 64:=fun ho hI h64 h=>Ut ho hI h64 h
section
variable {prog:Kn} {w:Kq} {A:KD} {E:Value→JU→Prop} {s:JU}
theorem vb (T:oQ N) (hN:N≤301) (hh:A.handled=none) (hS:jx w s.heap S ks) (h64:ks.length < N)
  (h:∀ (h':Heap) (tk:Nat) (out:Array Value) (ms:List Int) (l:Addr) (c:Nat),(∀ b o,s.heap.get? b=some o→h'.get? b=some o)→S < l→h'.get? l=some (Nz "list" out c)→K8 out.toList ms→ms.Pairwise (· < ·)→(∀ x,x∈ms↔x∈ks)→ms.length≤300→Q (.ref l) { s with heap:=h',toks:=tk }) :
  JY (J6 prog w) A (call (.builtin "sorted") [.ref S]) Q E s:=by
 obtain ⟨o,es,ep,t,pl,g1,g2,g3,g4,g5,g6,g7,g8,g9,g10,g11,g12,g13⟩:=hS
 obtain ⟨g9,lpl,g14⟩:=g9
 have lks:es.size=ks.length:=by
  have:=dy g10
  rw [J0,Kh] at this
  exact this
 have H:iX w o es ep t pl:=⟨g3,g2.1,g5,g6,g7,g8,g9,by omega,by omega,by omega⟩
 refine Qf kind_sorted plain_sorted entry_sorted (args_sorted1 _) ?_
 unfold Builtin.sorted
 refine ar ?_
 unfold Pb
 refine JX rfl (JX rfl (JX rfl (tx ?_)))
 refine ar (PySem.W.kdu_collect (Dj H) hh g1 (Lj H.few (LM (du (by decide)))) fun h1 tk acc hk hacc=>?_)
 have hacc1:acc.toList=(orderOf w S ep es).toList.map Qz:=by
  refine Td fun i=>?_
  by_cases hi:i < acc.size
  ·have e1:acc.toList[i]?=some acc[i]:=by simp [hi]
   obtain ⟨x,hx,hv⟩:=hacc.2 i acc[i] (by simp [hi])
   rw [e1,Kv]
   rw [show (orderOf w S ep es).toList[i]?=some x by simpa using hx]
   rw [hv]
   rfl
  ·rw [Lw (by simp;omega),Lw]
   rw [J0,Kh,j_]
   have:=hacc.1
   omega
 obtain ⟨ns0,i1,i2⟩:=tE (vs:=acc.toList) (by rw [hacc1];exact (oi w S ep es).map Qz) g10
 have l0:acc.toList.length=ks.length:=by rw [dy i1];exact i2.length_eq
 refine ar (R3 ?_ (by rw [l0];exact LM (du (by omega))))
 refine ar (KG ?_)
 have hat:(h1.push (Nz "list" acc.toList.toArray 0)).get? h1.objs.size=some (Nz "list" acc.toList.toArray 0):=Kc _ rfl
 refine K3 Uu ⟨_,hat,rfl⟩ Ua ?_ (Uv _)
 refine T hat i1 (by omega) fun out ms r1 r2 r3=>⟨_,rfl,tx ⟨_,rfl,?_⟩⟩
 obtain ⟨c,hc⟩:=sortedHeap_at (out:=out) hat
 have hnd:ms.Nodup:=r2.nodup_iff.mpr (i2.nodup_iff.mpr g12)
 refine h _ tk out ms h1.objs.size c ?_ ?_ hc r1 ?_ ?_ ?_
 ·intro b o' e
  have e1:=hk b o' e
  have hb:b < h1.objs.size:=J4 e1
  rw [sortedHeap_old (Kf hb) (by rw [MO];exact OI hb)]
  exact C0 _ e1
 ·exact J4 (hk S o g1)
 ·exact (WO r3 hnd).imp fun z=>by have:=z.1;have:=z.2;omega
 ·intro x
  rw [r2.mem_iff,i2.mem_iff]
 ·have:=r2.length_eq
  have:=i2.length_eq
  omega
end
end L2
namespace L2
open PySem PySem.Spec PyProof.Rows ZS
def hT (ks:List Int):Int:=reduceHash (Ve (ks.map OZ))
theorem BB (ks:List Int):tupleKeyHash (KI prog w) ks=hT ks:=rfl
section
variable {prog:Kn} {w:Kq} {A:KD} {E:Value→JU→Prop} {s:JU}
theorem wJ (hi:ItemsAre (KI prog w) ks vs):∀ v∈vs,∃ n t,v=Mq n t:=by
 induction hi with
 | nil=>intro v hv;cases hv
 | @cons k v' ks vs h1 _ ih=>
  intro v hv
  rcases J1.mp hv with rfl | hv
  ·obtain ⟨t',e'⟩:=NI (show Mm k v=true from h1)
   exact ⟨k,t',e'⟩
  ·exact ih v hv
theorem kU (hk:K2 (KI prog w) s.heap ks b) (h:Q false s):JY (J6 prog w) A (Qa 8 (.ref b)) Q E s:=by
 have hT:=hk.typeIs
 obtain ⟨o,items,n,ho,_,hd,hi⟩:=hk
 have hall:=wJ hi
 unfold Qa
 refine ar (Lf hT ?_)
 dsimp only
 refine Lh rfl ?_
 refine ar (tx ?_)
 refine JX rfl ?_
 refine ar (LA ho hd ?_)
 dsimp only
 refine ar ?_
 rw [← SH]
 refine QF _ (fun rest (r:Option Bool×Unit) s'=>r.1=none∧s'=s∧∀ v∈rest,∃ n t,v=Mq n t) _ ?_ ?_ _ _ ⟨rfl,rfl,hall⟩
 ·rintro v rest r s' ⟨hr,rfl,hal⟩
  obtain ⟨n,t,rfl⟩:=hal v (Ks ..)
  rw [show Qa 7 (.int n t)=pure false from rfl]
  refine ar (tx ?_)
  exact JX rfl (tx ⟨rfl,rfl,fun u hu'=>hal u (Kk _ hu')⟩)
 ·rintro ⟨r1,r2⟩ s' ⟨hr,rfl,_⟩
  simp only at hr
  subst hr
  exact tx h
theorem mj {k:List Int} {b:Addr} {stored:List Value} {Q:Bool→JU→Prop} (hk:K2 (KI prog w) s.heap k b) (hst:∀ v∈stored,∃ k' b',v=Kg b'∧K2 (KI prog w) s.heap k' b') (h:Q false s):JY (J6 prog w) A (Ti (.ref b) stored) Q E s:=by
 unfold Ti
 refine ar ?_
 refine QF _ (fun rest (r:Option Bool×Unit) s'=>r.1=none∧s'=s∧∀ v∈rest,∃ k' b',v=Kg b'∧K2 (KI prog w) s.heap k' b') _ ?_ ?_ _ _ ⟨rfl,rfl,hst⟩
 ·rintro v rest r s' ⟨hr,rfl,hal⟩
  obtain ⟨k',b',rfl,hk'⟩:=hal v (Ks ..)
  have fin:(none:Option Bool)=none∧s'=s'∧∀ v∈rest,∃ k' b',v=Kg b'∧K2 (KI prog w) s'.heap k' b':=⟨rfl,rfl,fun u hu'=>hal u (Kk _ hu')⟩
  dsimp only
  by_cases hv:((b == b') || (Uw (.ref b) && Uw (.ref b')))=true
  ·rw [J2 hv]
   exact tx fin
  ·rw [J9 hv]
   refine ar (Ru hk ?_)
   refine JX rfl ?_
   refine ar (Ru hk' ?_)
   refine JX rfl ?_
   refine ar (kU hk ?_)
   refine JX rfl ?_
   refine ar (kU hk' ?_)
   refine JX rfl ?_
   exact tx fin
 ·rintro ⟨r1,r2⟩ s' ⟨hr,rfl,_⟩
  simp only at hr
  subst hr
  exact tx h
theorem mO (hk:K2 (KI prog w) s.heap ks b) (h:∀ c,Q c s):JY (J6 prog w) A (hashByValue 8 (.ref b)) Q E s:=by
 have hT:=hk.typeIs
 obtain ⟨o,items,n,ho,_,hd,hi⟩:=hk
 unfold hashByValue
 refine ar (QQ hT F.slot_tuple_hash.lookup ?_)
 show JY _ _ (UD (.ref b)>>=_) _ _ _
 refine ar (LA ho hd ?_)
 refine ar ?_
 show JY _ _ (forIn items (none,()) _) _ _ _
 rw [← SH]
 refine QF _ (fun rest (_:Option Bool×Unit) s'=>s'=s∧(∀ v∈rest,v.scannable=true)) _ ?_ ?_ _ _ ⟨rfl,fun v hv=>?_⟩
 ·rintro x rest c s' ⟨rfl,hr⟩
  rw [Rn 7 (hr x (Ks ..))]
  refine ar (tx ?_)
  cases plainKind x with
  | true=>exact JX rfl (tx ⟨rfl,fun v hv=>hr v (Kk _ hv)⟩)
  | false=>exact Lh rfl (tx (tx (h false)))
 ·rintro c s' ⟨rfl,_⟩
  dsimp only
  split
  ·exact tx (h _)
  ·exact tx (h _)
 ·have:∀ {ks:List Int} {vs:List Value},ItemsAre (KI prog w) ks vs→∀ v∈vs,v.scannable=true:=by
   intro ks vs hi
   induction hi with
   | nil=>intro v hv;cases hv
   | @cons k v' ks vs h1 _ ih=>
    intro v hv
    rcases J1.mp hv with rfl | hv
    ·obtain ⟨t',e'⟩:=NI (show Mm k v=true from h1)
     rw [e'];rfl
    ·exact ih v hv
  exact this hi v hv
theorem yW (g1:s.heap.get? a=some o) (g3:o.data=.set es ep t) (hfit:t.fits es.size=true) (hodd:t.gaveWay=false) (g5:t.dummies=#[]) (g8:t.place=pl.toArray) (g9:Ri pl) (lks:es.size=pl.length)
  (hu:A.units < cLine) (hk:K2 (KI prog w) s.heap k b) (hent:∀ e∈es.toList,∃ k' b',k'≠k∧e=(hT k',Kg b')∧K2 (KI prog w) s.heap k' b') :
  ∀ (n fuel:Nat) (stand:Option Ld),Rch t pl n (stand.getD (t.probeStart (hT k)))→Path t.mask pl (t.probeStart (hT k)) (stand.getD (t.probeStart (hT k)))→n≤10 * KL t.mask→n < fuel→(∀ j,j∉pl→Rea t.mask pl (hT k) j→Q (.free j false) s)→JY (J6 prog w) A (setSearchFrom a (.ref b) (hT k) true fuel stand) Q E s:=by
 intro n
 induction n using Ub with
 | ind n ih=>
  intro fuel stand hq hpa hn hf hQ
  obtain ⟨fu,rfl⟩:∃ f,fuel=f+1:=⟨fuel - 1,by omega⟩
  rw [setSearchFrom.eq_2]
  refine ar (Kr g1 g3 hfit ?_)
  dsimp only
  rw [hodd]
  refine JX rfl ?_
  have key:=BH g8 g9 g5 (hT k) (fun i=>(es[i]?.map (·.1)).getD 0) n (10 * KL t.mask) _ hq hn
  split
  case h_2 heq=>
   rcases key with ⟨j,q',ej,_⟩ | ⟨j,i,next,m,ej,_⟩
   ·exact (heq _ ej).elim
   ·exact (heq _ ej).elim
  case h_1 met heq=>
   rcases key with ⟨j,q',ej,hjl,pa,eq'⟩ | ⟨j,i,next,m,ej,r1,r2,r3,r4,r5,r6⟩
   ·have e:=ej.symm.trans heq
    cases e
    dsimp only
    exact tx (hQ _ hjl ⟨q',hpa.trans pa,eq'⟩)
   ·have e:=ej.symm.trans heq
    cases e
    dsimp only
    have hi2:i < es.size:=by have:=(J5.mp r1).1;omega
    obtain ⟨k',b',hne,he,hk'⟩:=hent es[i] (by simp)
    have hes:es[i]?=some (hT k',Kg b'):=by rw [Mg hi2,he]
    by_cases hled:t.led=true
    ·rw [hled]
     refine JX rfl ?_
     rw [hes]
     dsimp only
     refine ar (KG (Oq (knd:=KI prog w) hu hk' hk ?_))
     rw [H0 hne]
     refine ar (Kr g1 g3 hfit ?_)
     dsimp only
     refine JX rfl ?_
     rw [show t.sameMemory t.moves t.mask=some true by simp [N6]]
     dsimp only
     rw [J2 rfl,r3]
     dsimp only
     rw [hes]
     dsimp only
     refine ar (NT ?_)
     refine ar (tx ?_)
     rw [J2 rfl]
     dsimp only
     refine JX rfl ?_
     exact ih m r4 fu (some next) r5 (hpa.trans r6) (by omega) (by omega) hQ
    ·rw [OV _ |>.mp hled]
     refine Lh rfl (ar (mj hk ?_ ?_))
     ·intro v hv
      obtain ⟨x,hx,rfl⟩:=La.mp hv
      obtain ⟨k2,b2,_,e2,hk2⟩:=hent x (by
       have:=Na.mp hx
       exact Na.mpr (TL.mp this).1)
      rw [e2]
      exact ⟨k2,b2,rfl,hk2⟩
     refine JX rfl ?_
     rw [hes]
     dsimp only
     refine ar (KG (Oq (knd:=KI prog w) hu hk' hk ?_))
     rw [H0 hne]
     refine ar (Kr g1 g3 hfit ?_)
     dsimp only
     refine JX rfl ?_
     rw [show t.sameMemory t.moves t.mask=some true by simp [N6]]
     dsimp only
     rw [J2 rfl,r3]
     dsimp only
     rw [hes]
     dsimp only
     refine ar (NT ?_)
     refine ar (tx ?_)
     rw [J2 rfl]
     dsimp only
     refine JX rfl ?_
     exact ih m r4 fu (some next) r5 (hpa.trans r6) (by omega) (by omega) hQ
theorem nB:∀ {ks ks':List Int} {vs:List Value},ItemsAre (KI prog w) ks vs→ItemsAre (KI prog w) ks' vs→ks=ks'
 | _,_,_,.nil,.nil=>rfl
 | _,_,_,.cons h r,.cons h' r'=>by
  rw [nB r r']
  have e:=KeyKind.is_eq_decide (knd:=KI prog w) h
  rw [e] at h'
  rw [Li h']
theorem sj {a b:Addr} {o:Obj} {es:Array (Int×Value)} {ep:Nat} {t:LF} {pl:List Nat} {k:List Int} {Q:SetFound→JU→Prop} (g1:s.heap.get? a=some o) (g3:o.data=.set es ep t) (hfit:t.fits es.size=true) (hodd:t.gaveWay=false) (g5:t.dummies=#[]) (g8:t.place=pl.toArray) (g9:Ri pl) (lks:es.size=pl.length)
  (hu:A.units < cLine) (hk:K2 (KI prog w) s.heap k b) (hent:∀ e∈es.toList,∃ k' b',e=(hT k',Kg b')∧K2 (KI prog w) s.heap k' b') {i0:Nat} {b0:Addr} {q':Ld} (h0:pl[i0]?=some q'.j) (he0:es[i0]?=some (hT k,Kg b0)) (hk0:K2 (KI prog w) s.heap k b0) :
  ∀ (n fuel:Nat) (stand:Option Ld),Rch t pl n (stand.getD (t.probeStart (hT k)))→Path t.mask pl (stand.getD (t.probeStart (hT k))) q'→n≤10 * KL t.mask→n < fuel→Q (.there none) s→JY (J6 prog w) A (setSearchFrom a (.ref b) (hT k) true fuel stand) Q E s:=by
 intro n
 induction n using Ub with
 | ind n ih=>
  intro fuel stand hq hpa hn hf hQ
  obtain ⟨fu,rfl⟩:∃ f,fuel=f+1:=⟨fuel - 1,by omega⟩
  rw [setSearchFrom.eq_2]
  refine ar (Kr g1 g3 hfit ?_)
  dsimp only
  rw [hodd]
  refine JX rfl ?_
  have key:=CN g8 g9 (hT k) (fun i=>(es[i]?.map (·.1)).getD 0) h0 (show ((es[i0]?.map (·.1)).getD 0)=hT k by rw [he0];rfl) n (10 * KL t.mask) _ hq hn hpa
  split
  case h_2 heq=>
   obtain ⟨j,i,next,m,ej,_⟩:=key
   exact (heq _ ej).elim
  case h_1 met heq=>
   obtain ⟨j,i,next,m,ej,r1,r2,r3,r4,r5,r6⟩:=key
   ·have e:=ej.symm.trans heq
    cases e
    dsimp only
    have hi2:i < es.size:=by have:=(J5.mp r1).1;omega
    obtain ⟨k',b',he,hk'⟩:=hent es[i] (by simp)
    have hes:es[i]?=some (hT k',Kg b'):=by rw [Mg hi2,he]
    by_cases hled:t.led=true
    ·rw [hled]
     refine JX rfl ?_
     rw [hes]
     dsimp only
     refine ar (KG (Oq (knd:=KI prog w) hu hk' hk ?_))
     by_cases heq2:k'=k
     ·rw [JW heq2]
      refine ar (Kr g1 g3 hfit ?_)
      dsimp only
      exact Lh rfl (tx hQ)
     have r7:Path t.mask pl next q':=by
      rcases r6 with z | r6
      ·rw [z,he0] at hes
       have hb:=OP (NF (KA hes)).2
       subst hb
       obtain ⟨o1,v1,n1,x1,x2,x3,x4⟩:=hk'
       obtain ⟨o2,v2,n2,y1,y2,y3,y4⟩:=hk0
       exact absurd (by
        rw [x1] at y1
        cases y1
        rw [x3] at y3
        have:=(VG y3).1
        rw [this] at x4
        exact nB x4 y4) heq2
      ·exact r6
     rw [H0 heq2]
     refine ar (Kr g1 g3 hfit ?_)
     dsimp only
     refine JX rfl ?_
     rw [show t.sameMemory t.moves t.mask=some true by simp [N6]]
     dsimp only
     rw [J2 rfl,r3]
     dsimp only
     rw [hes]
     dsimp only
     refine ar (NT ?_)
     refine ar (tx ?_)
     rw [J2 rfl]
     dsimp only
     refine JX rfl ?_
     exact ih m r4 fu (some next) r5 r7 (by omega) (by omega) hQ
    ·rw [OV _ |>.mp hled]
     refine Lh rfl (ar (mj hk ?_ ?_))
     ·intro v hv
      obtain ⟨x,hx,rfl⟩:=La.mp hv
      obtain ⟨k2,b2,e2,hk2⟩:=hent x (by
       have:=Na.mp hx
       exact Na.mpr (TL.mp this).1)
      rw [e2]
      exact ⟨k2,b2,rfl,hk2⟩
     refine JX rfl ?_
     rw [hes]
     dsimp only
     refine ar (KG (Oq (knd:=KI prog w) hu hk' hk ?_))
     by_cases heq2:k'=k
     ·rw [JW heq2]
      refine ar (Kr g1 g3 hfit ?_)
      dsimp only
      exact Lh rfl (tx hQ)
     have r7:Path t.mask pl next q':=by
      rcases r6 with z | r6
      ·rw [z,he0] at hes
       have hb:=OP (NF (KA hes)).2
       subst hb
       obtain ⟨o1,v1,n1,x1,x2,x3,x4⟩:=hk'
       obtain ⟨o2,v2,n2,y1,y2,y3,y4⟩:=hk0
       exact absurd (by
        rw [x1] at y1
        cases y1
        rw [x3] at y3
        have:=(VG y3).1
        rw [this] at x4
        exact nB x4 y4) heq2
      ·exact r6
     rw [H0 heq2]
     refine ar (Kr g1 g3 hfit ?_)
     dsimp only
     refine JX rfl ?_
     rw [show t.sameMemory t.moves t.mask=some true by simp [N6]]
     dsimp only
     rw [J2 rfl,r3]
     dsimp only
     rw [hes]
     dsimp only
     refine ar (NT ?_)
     refine ar (tx ?_)
     rw [J2 rfl]
     dsimp only
     refine JX rfl ?_
     exact ih m r4 fu (some next) r5 r7 (by omega) (by omega) hQ
theorem dX (H:K2 (KI prog w) h ks b) (k:∀ o,h.get? b=some o→h'.get? b=some o):K2 (KI prog w) h' ks b:=by
 obtain ⟨o,items,n,g,r⟩:=H
 exact ⟨o,items,n,k o g,r⟩
def E_ (m:Nat) (pl:List Nat) (es:Array (Int×Value)):Prop:=∀ i j:Nat,pl[i]?=some j→∃ e,es[i]?=some e∧Rea m pl e.1 j
def jF (prog:Kn) (w:Kq) (P:Addr→Prop) (h:Heap) (a:Addr) (ks:List (List Int)):Prop:=
 ∃ (o:Obj) (es:Array (Int×Value)) (ep:Nat) (t:LF) (pl:List Nat),h.get? a=some o∧o.ExactSet∧o.data=.set es ep t∧cy t.mask=true∧t.dummies=#[] ∧
  t.place=pl.toArray∧(Ri pl∧pl.length=ks.length∧ks.length * 5 < t.mask * 3)∧es.size=ks.length∧ks.length≤300∧(∀ e∈es.toList,∃ k b,k∈ks∧e=(hT k,Kg b)∧b≠a∧P b∧K2 (KI prog w) h k b)∧(∀ k∈ks,∃ b,(hT k,Kg b)∈es.toList∧b≠a∧P b∧K2 (KI prog w) h k b)∧E_ t.mask pl es
theorem jF.at (H:jF prog w P h S ks) (k:∀ b o,b=S∨P b→h.get? b=some o→h'.get? b=some o):jF prog w P h' S ks:=by
 obtain ⟨o,es,ep,t,pl,g1,g2,g3,g4,g5,g6,g7,g8,g9,g10,g11,g12⟩:=H
 refine ⟨o,es,ep,t,pl,k S o (.inl rfl) g1,g2,g3,g4,g5,g6,g7,g8,g9,fun e he=>?_,fun x hx=>?_,g12⟩
 ·obtain ⟨k',b,q1,q2,q3,q4,q5⟩:=g10 e he
  exact ⟨k',b,q1,q2,q3,q4,dX q5 fun o e=>k b o (.inr q4) e⟩
 ·obtain ⟨b,q1,q2,q3,q4⟩:=g11 x hx
  exact ⟨b,q1,q2,q3,dX q4 fun o e=>k b o (.inr q3) e⟩
theorem AF (hu:A.units < cLine) (hS:jF prog w P s.heap a hs) (hba:b≠a) (hPb:P b) (hk:K2 (KI prog w) s.heap ks b) (hnew:ks∉hs) (hl:hs.length < 300)
  (h:∀ (h':Heap) (tk:Nat),K_ a s.heap h'→jF prog w P h' a (ks :: hs)→Q true { s with heap:=h',toks:=tk }) :
  JY (J6 prog w) A (QA a (.ref b)) Q E s:=by
 obtain ⟨o,es,ep,t,pl,g1,g2,g3,g4,g5,g8,⟨g9,lpl,g14⟩,lks,g13,g15,g16,g17⟩:=hS
 have hmask:=iG g4
 have hmk:7≤t.mask:=by
  have q:=g4
  simp only [cy,LC,Lv] at q
  omega
 have hodd:t.gaveWay=false:=by
  have q:=g4
  simp only [cy,LC,Lv] at q
  unfold TM
  rcases q with ((q | q) | q) | q<;>rw [q]<;>rfl
 have hfit:t.fits es.size=true:=fits_of g5 (by rw [g8,lks];simpa using lpl) (by omega)
 unfold QA
 refine KG (ar (SI (knd:=KI prog w) hu hk ?_))
 rw [BB]
 unfold SD
 refine KG ?_
 show JY _ _ (Rk a (.ref b) _ (99999+1)) _ _ _
 rw [setAddHashedIn.eq_2]
 refine ar (Kr g1 g3 hfit ?_)
 show JY _ _ (if Rm (.ref b) es=true then _ else _) _ _ _
 rw [J9 (show ¬Rm (.ref b) es=true by simp [Rm,Uc])]
 refine ar ?_
 unfold setSearch
 have hne:∀ e∈es.toList,∃ k' b',k'≠ks∧e=(hT k',Kg b')∧K2 (KI prog w) s.heap k' b':=fun e he=>by
  obtain ⟨k',b',q1,q2,q3,q4,q5⟩:=g15 e he
  exact ⟨k',b',fun z=>hnew (z ▸ q1),q2,q5⟩
 have htn:10 * KL t.mask < 100000:=by
  have q:=g4
  simp only [cy,LC,Lv] at q
  unfold KL
  omega
 refine yW (s:={ s with toks:=s.toks+(ks.length+1) }) g1 g3 hfit hodd g5 g8 g9 (by omega) hu hk hne (10 * KL t.mask) 100000 none (qi hmask (by omega) (hT ks)) (.refl _) (J3 _) htn fun j hjl hrea=>?_
 ·dsimp only
  refine ar (Kr g1 g3 hfit ?_)
  obtain ⟨p,hple,hpb,hpa,hpc⟩:=qe g9 j
  have hp:Ma pl.toArray j=p:=hpb
  have les0:es.size=pl.length:=by omega
  have riN:Ri (pl.take p++j :: pl.drop p):=pR g9 hjl hpa hpc
  have liN:(Lx pl.toArray p j).toList=pl.take p++j :: pl.drop p:=by
   have:=fD pl.toArray p j (by simpa using hple)
   simpa using this
  have hput:t.put j=({ mask:=t.mask,place:=Lx t.place p j,dummies:=#[],finger:=t.finger,led:=t.led,moves:=t.moves,plain:=t.plain },p):=by
   unfold VC
   rw [g8,hp,g5]
   rfl
  rw [hput]
  dsimp only
  have h1000:(1000:Nat)≤sizeLine:=LM (du (J3 1000))
  have lpl':(pl.take p++j :: pl.drop p).length=hs.length+1:=by simp;omega
  have les:(Lx es p (hT ks,Kg b)).toList=es.toList.take p++(hT ks,Kg b) :: es.toList.drop p:=fD _ _ _ (by omega)
  generalize hes:Lx es p (hT ks,Kg b)=es' at les
  have lsz:es'.size=hs.length+1:=by
   rw [← Kh,les]
   simp
   omega
  have i2:∀ (h':Heap),(∀ c o,c≠a→s.heap.get? c=some o→h'.get? c=some o)→∀ e∈es'.toList,∃ k c,k∈ks :: hs∧e=(hT k,Kg c)∧c≠a∧P c∧K2 (KI prog w) h' k c:=by
   intro h' hh e he
   rw [les] at he
   have old:∀ e∈es.toList,∃ k c,k∈ks :: hs∧e=(hT k,Kg c)∧c≠a∧P c∧K2 (KI prog w) h' k c:=fun e he=>by
    obtain ⟨k',c,q1,q2,q3,q4,q5⟩:=g15 e he
    exact ⟨k',c,Kk _ q1,q2,q3,q4,dX q5 fun o e=>hh c o q3 e⟩
   rcases Kz.mp he with z | z
   ·exact old e (MG z)
   ·rcases J1.mp z with z | z
    ·exact ⟨ks,b,Ks ..,z,hba,hPb,dX hk fun o e=>hh b o hba e⟩
    ·exact old e (MF z)
  have i3:∀ (h':Heap),(∀ c o,c≠a→s.heap.get? c=some o→h'.get? c=some o)→∀ k∈ks :: hs,∃ c,(hT k,Kg c)∈es'.toList∧c≠a∧P c∧K2 (KI prog w) h' k c:=by
   intro h' hh k hkm
   rw [les]
   rcases J1.mp hkm with z | z
   ·exact ⟨b,by rw [z];simp,hba,hPb,dX (z ▸ hk) fun o e=>hh b o hba e⟩
   ·obtain ⟨c,q1,q2,q3,q4⟩:=g16 k z
    refine ⟨c,?_,q2,q3,dX q4 fun o e=>hh c o q2 e⟩
    rw [← NP p es.toList] at q1
    rcases Kz.mp q1 with w | w
    ·exact LY _ w
    ·exact KJ _ (Kk _ w)
  have i4:E_ t.mask (pl.take p++j :: pl.drop p) es':=by
   have sub:∀ x∈pl,x∈pl.take p++j :: pl.drop p:=fun x hx=>by
    rw [← NP p pl] at hx
    rcases Kz.mp hx with w | w
    ·exact LY _ w
    ·exact KJ _ (Kk _ w)
   have lt1:(pl.take p).length=p:=by rw [KS];omega
   have lt2:(es.toList.take p).length=p:=by rw [KS,Kh];omega
   intro i j' hij
   have ges:∀ i:Nat,es'[i]?=(es.toList.take p++(hT ks,Kg b) :: es.toList.drop p)[i]?:=fun i=>by rw [← les,LP]
   rw [ges]
   rcases Tf i p with z | z | z
   ·rw [Ky (by omega),NA,J2 z] at hij
    obtain ⟨e,e1,e2⟩:=g17 i j' hij
    refine ⟨e,?_,e2.mono sub⟩
    rw [Ky (by omega),NA,J2 z,LP]
    exact e1
   ·subst z
    rw [KH (by omega),lt1,SA] at hij
    cases hij
    refine ⟨_,by rw [KH (by omega),lt2,SA];rfl,hrea.mono sub⟩
   ·rw [KH (by omega),lt1] at hij
    obtain ⟨d,rfl⟩:∃ d,i=p+1+d:=⟨i - p - 1,by omega⟩
    rw [show p+1+d - p=d+1 by omega,OE,PB] at hij
    obtain ⟨e,e1,e2⟩:=g17 (p+d) j' hij
    refine ⟨e,?_,e2.mono sub⟩
    rw [KH (by omega),lt2,show p+1+d - p=d+1 by omega,OE,PB,LP]
    exact e1
  have go:∀ (t1:LF),t1.mask=t.mask→t1.dummies=#[]→t1.place=(pl.take p++j :: pl.drop p).toArray→JY (J6 prog w) A (do
    storeSet a es' t1
    if (!false && t1.tooFull)=true then do
     setRelay a (NQ (es.size+1))
     pure true
    else pure true) Q E { s with toks:=s.toks+(ks.length+1) }:=by
   intro t1 m1 m2 m5
   have hfit':t1.fits es'.size=true:=fits_of m2 (by rw [m5,lsz];simpa using lpl') (by omega)
   have hfill:t1.fill=hs.length+1:=by
    unfold PX
    rw [m2,m5]
    simp only [J8,lpl']
    rfl
   have gN:(s.heap.update a (Ny es' t1)).get? a=some { o with data:=.set es' (ep+1) t1 }:=by
    rw [← UG es' t1 g3]
    exact Ln _ g1 (by rw [UG es' t1 g3];rfl)
   have sbN:K_ a s.heap (s.heap.update a (Ny es' t1)):=LJ ..
   refine ar (Tj (s:={ s with toks:=s.toks+(ks.length+1) }) g1 g3 ?_ (by rw [lsz];omega))
   by_cases hfull:(hs.length+1) * 5 < t.mask * 3
   ·have hf0:(!false && t1.tooFull)=false:=by
     unfold OW
     rw [hfill,m1]
     simp
     omega
    rw [hf0]
    refine JX rfl (tx ?_)
    exact h _ _ sbN ⟨_,es',ep+1,t1,_,gN,g2,rfl,by rw [m1];exact g4,m2,m5,⟨riN,by rw [lpl',Km],by rw [Km,m1];exact hfull⟩,by rw [lsz,Km],by rw [Km];omega,i2 _ fun c o hc e=>sbN.extBut c o hc e,i3 _ fun c o hc e=>sbN.extBut c o hc e,by rw [m1];exact i4⟩
   ·have hf1:(!false && t1.tooFull)=true:=by
     unfold OW
     rw [hfill,m1]
     simp
     omega
    rw [hf1]
    refine Lh rfl (ar ?_)
    obtain ⟨w1,w2⟩:=tK (t':=t1) (es':=es') (n:=hs.length+1) (by rw [m1];exact g4) lsz (by rw [m1];exact hfull) (by rw [m1];omega) (by omega)
    obtain ⟨t2,order,l2,r1,r2,r3,r4,r5,r6,r7,r8,r9⟩:=wI (t:=t1) (es:=es') (wanted:=NQ (hs.length+1)) (iG w1) (by rw [lsz];omega)
    generalize he2:QV (fun x=>es'[x]?) order=e2 at r2
    have lsz2:e2.size=hs.length+1:=by rw [← Kh,r2.length_eq,Kh,lsz]
    rw [lks]
    unfold setRelay
    refine ar (Kr gN rfl hfit' ?_)
    dsimp only
    have hok:Le (NQ (hs.length+1))≤sizeLine:=by
     have q:=w1
     simp only [cy,LC,Lv] at q
     omega
    refine JX (by simpa using hok) ?_
    refine ar ?_
    rw [r1]
    have gM:((s.heap.update a (Ny es' t1)).update a (Ny e2 t2)).get? a=some { o with data:=.set e2 (ep+1+1) t2 }:=by
     have hq:=UG (o:={ o with data:=.set es' (ep+1) t1 }) e2 t2 rfl
     rw [← hq]
     exact Ln _ gN (by rw [hq];rfl)
    refine (show JY _ _ (if ((QV (fun x=>es'[x]?) order).size != es'.size)=true then _ else pure (QV (fun x=>es'[x]?) order,t2)) _ _ _ from ?_)
    rw [he2]
    refine JX (by rw [lsz2,lsz];simp) (tx ?_)
    refine Tj gN rfl ?_ (by rw [lsz2];omega)
    refine tx ?_
    exact h _ _ (sbN.trans (LJ ..)) ⟨_,e2,ep+1+1,t2,l2,gM,g2,rfl,by rw [r7];exact w1,r6,r3,⟨r4,by rw [r5,lsz,Km],by rw [r7,Km];exact w2⟩,by rw [lsz2,Km],by rw [Km];omega,fun e he=>i2 _ (fun c o hc e=>(sbN.trans (LJ ..)).extBut c o hc e) e (r2.mem_iff.mp he),fun k hk=>by
     obtain ⟨c,q1,q2,q3,q4⟩:=i3 _ (fun c o hc e=>(sbN.trans (LJ ..)).extBut c o hc e) k hk
     exact ⟨c,r2.mem_iff.mpr q1,q2,q3,q4⟩,by
     rw [← he2]
     exact zG (iG w1) (by rw [lsz];omega) r1 r3⟩
  by_cases hpl:t.plain=true
  ·rw [J2 hpl]
   refine ar (mO (s:={ s with toks:=s.toks+(ks.length+1) }) hk fun c=>?_)
   cases c with
   | true=>exact go _ rfl rfl (by rw [← liN,g8];rfl)
   | false=>exact go _ rfl rfl (by rw [← liN,g8];rfl)
  ·rw [J9 hpl]
   refine ar (tx ?_)
   exact go _ rfl rfl (by rw [← liN,g8];rfl)
theorem zU {a b:Addr} {P:Addr→Prop} {hs:List (List Int)} {ks:List Int} {Q:Bool→JU→Prop} (hu:A.units < cLine) (hS:jF prog w P s.heap a hs) (hk:K2 (KI prog w) s.heap ks b) (hold:ks∈hs) (h:∀ tk:Nat,Q false { s with toks:=tk }) :
  JY (J6 prog w) A (QA a (.ref b)) Q E s:=by
 obtain ⟨o,es,ep,t,pl,g1,g2,g3,g4,g5,g8,⟨g9,lpl,g14⟩,lks,g13,g15,g16,g17⟩:=hS
 have hmask:=iG g4
 have hmk:7≤t.mask:=by
  have q:=g4
  simp only [cy,LC,Lv] at q
  omega
 have hodd:t.gaveWay=false:=by
  have q:=g4
  simp only [cy,LC,Lv] at q
  unfold TM
  rcases q with ((q | q) | q) | q<;>rw [q]<;>rfl
 have hfit:t.fits es.size=true:=fits_of g5 (by rw [g8,lks];simpa using lpl) (by omega)
 unfold QA
 refine KG (ar (SI (knd:=KI prog w) hu hk ?_))
 rw [BB]
 unfold SD
 refine KG ?_
 show JY _ _ (Rk a (.ref b) _ (99999+1)) _ _ _
 rw [setAddHashedIn.eq_2]
 refine ar (Kr g1 g3 hfit ?_)
 show JY _ _ (if Rm (.ref b) es=true then _ else _) _ _ _
 rw [J9 (show ¬Rm (.ref b) es=true by simp [Rm,Uc])]
 refine ar ?_
 unfold setSearch
 have htn:10 * KL t.mask < 100000:=by
  have q:=g4
  simp only [cy,LC,Lv] at q
  unfold KL
  omega
 obtain ⟨b0,e0,_,_,hk0⟩:=g16 ks hold
 obtain ⟨i0,hi0⟩:=MY.mp e0
 have hlt:=(J5.mp hi0).1
 rw [Kh] at hlt
 have hpl:pl[i0]?=some (pl[i0]'(by omega)):=JZ _
 obtain ⟨e1,ee,q',pa,ej⟩:=g17 i0 _ hpl
 rw [LP] at hi0
 rw [hi0] at ee
 cases ee
 refine sj (s:={ s with toks:=s.toks+(ks.length+1) }) g1 g3 hfit hodd g5 g8 g9 (by omega) hu hk (fun e he=>by
  obtain ⟨k',b',q1,q2,q3,q4,q5⟩:=g15 e he
  exact ⟨k',b',q2,q5⟩) (i0:=i0) (b0:=b0) (q':=q') (by rw [hpl,ej]) hi0 hk0 (10 * KL t.mask) 100000 none (qi hmask (by omega) (hT ks)) pa (J3 _) htn ?_
 exact tx (h _)
def As (ky:Nat→List Int) (i:Nat) (hs:List (List Int)):Prop:=hs.Nodup∧hs.length≤i∧∀ x,x∈hs↔∃ j,j < i∧ky j=x
theorem qh {R:Rg→JU→Prop} {I:Addr} {fp wr:List Addr} {n:Nat} {P:Nat→Value→Prop} {St:Nat→Heap→Prop} (W:Walks prog w A.in1 I fp wr n P St) (S:Addr) (hSf:S∉fp) (ky:Nat→List Int) (ad:Nat→Addr) (hval:∀ i v,P i v→i < n→v=Kg (ad i)) (hn:n≤300)
  (hu:A.in1.units < cLine) (had:∀ j,j < n→ad j≠S∧ad j∉wr) :
  ∀ (k i:Nat) (s:JU) (hs:List (List Int)),n - i=k→i≤n→St i s.heap→jF prog w (fun b=>b≠S∧b∉wr) s.heap S hs→As ky i hs→(∀ j,j < n→K2 (KI prog w) s.heap (ky j) (ad j)) →
   (∀ (h':Heap) (tk:Nat) (hs':List (List Int)),(∀ b o,b≠S→b∉wr→s.heap.get? b=some o→h'.get? b=some o)→jF prog w (fun b=>b≠S∧b∉wr) h' S hs'→As ky n hs'→R (.ok (.ret .none)) { s with heap:=h',toks:=tk }) →
   NM (J6 prog w) A (QB "set.update.loop" ⟨[.ref S,.ref I],[]⟩) R s:=by
 have hSw:S∉wr:=fun h=>hSf (W.sub S h)
 intro k
 induction k with
 | zero=>
  intro i s hs hk hi hst hS hks hkey hR
  have hin:i=n:=by omega
  subst hin
  refine Mh Nl ?_
  rw [Nd LX]
  refine (show JY _ _ (Nq (.ref I)>>=_) _ _ _ from ar (W.done s _ _ hst fun h' tk hk'=>?_))
  exact tx (hR h' tk hs (fun b o _ hw e=>hk' b o hw e) (hS.at fun b o hb e=>hk' b o (hb.elim (fun z=>z ▸ hSw) (·.2)) e) hks)
 | succ k ih=>
  intro i s hs hk hi hst hS hks hkey hR
  refine Mh Nl ?_
  rw [Nd LX]
  refine (show JY _ _ (Nq (.ref I)>>=_) _ _ _ from ar (W.item i s _ _ (by omega) hst fun v h' tk hP hst' hk'=>?_))
  have hv:=hval i v hP (by omega)
  subst hv
  refine (show JY _ _ (N3 [Kg (ad i)] (QA S (.ref (ad i)))>>=_) _ _ _ from ar (KG ?_))
  obtain ⟨knd,klen,kmem⟩:=hks
  have hS':=hS.at fun b o hb e=>hk' b o (hb.elim (fun z=>z ▸ hSw) (·.2)) e
  have hki:=dX (hkey i (by omega)) fun o e=>hk' _ o (had i (by omega)).2 e
  by_cases hm:ky i∈hs
  ·refine zU (s:={ s with heap:=h',toks:=tk }) hu hS' hki hm fun tk2=>?_
   refine tx ⟨PY LX _,ih (i+1) _ hs (by omega) (by omega) hst' hS' ⟨knd,by omega,fun x=>?_⟩ (fun j hj=>dX (hkey j hj) fun o e=>hk' _ o (had j hj).2 e) fun h3 tk3 ks3 q1 q2 q3=>?_⟩
   ·rw [kmem]
    constructor
    ·rintro ⟨j,h1,h2⟩
     exact ⟨j,by omega,h2⟩
    ·rintro ⟨j,h1,h2⟩
     rcases VH j i with z | z
     ·exact ⟨j,z,h2⟩
     ·have:j=i:=by omega
      subst this
      rw [h2] at hm
      exact (kmem x).mp hm
   ·exact hR h3 tk3 ks3 (fun b o hb1 hb2 e=>q1 b o hb1 hb2 (hk' b o hb2 e)) q2 q3
  ·refine AF (s:={ s with heap:=h',toks:=tk }) hu hS' (had i (by omega)).1 (had i (by omega)) hki hm (by omega) fun h2 tk2 sb hS2=>?_
   refine tx ⟨PY LX _,ih (i+1) _ (ky i :: hs) (by omega) (by omega) ?_ hS2 ⟨LU.mpr ⟨hm,knd⟩,by simp;omega,fun x=>?_⟩ ?_ fun h3 tk3 ks3 q1 q2 q3=>?_⟩
   ·exact W.frame _ _ _ hst' fun b hb' o e=>sb.extBut b o (fun z=>hSf (z ▸ hb')) e
   ·rw [J1,kmem]
    constructor
    ·rintro (rfl | ⟨j,h1,h2⟩)
     ·exact ⟨i,by omega,rfl⟩
     ·exact ⟨j,by omega,h2⟩
    ·rintro ⟨j,h1,h2⟩
     rcases VH j i with z | z
     ·exact .inr ⟨j,z,h2⟩
     ·have:j=i:=by omega
      subst this
      exact .inl h2.symm
   ·intro j hj
    exact dX (hkey j hj) fun o e=>sb.extBut _ o (had j hj).1 (hk' _ o (had j hj).2 e)
   ·exact hR h3 tk3 ks3 (fun b o hb1 hb2 e=>q1 b o hb1 hb2 (sb.extBut b o hb1 (hk' b o hb2 e))) q2 q3
def uq:List (List Int)→List (List Int)
 | []=>[]
 | x :: xs=>if x∈xs then uq xs else x :: uq xs
theorem lE (x:List Int):∀ l,x∈uq l↔x∈l
 | []=>SV
 | y :: l=>by
  unfold uq
  by_cases h:y∈l
  ·rw [J2 h,lE x l,J1]
   exact ⟨.inr,fun z=>z.elim (fun e=>e ▸ h) id⟩
  ·rw [J9 h,J1,J1,lE x l]
theorem nD:∀ l,(uq l).Nodup
 | []=>Mz
 | y :: l=>by
  unfold uq
  by_cases h:y∈l
  ·rw [J2 h];exact nD l
  ·rw [J9 h];exact LU.mpr ⟨fun z=>h ((lE y l).mp z),nD l⟩
theorem Bg:∀ l,(uq l).length≤l.length
 | []=>J3 _
 | y :: l=>by
  have:=Bg l
  unfold uq
  by_cases h:y∈l
  ·rw [J2 h];simp;omega
  ·rw [J9 h];simp;omega
theorem wM:∀ {l:List (List Int)},(uq l).length=l.length↔l.Nodup
 | []=>by simp [uq]
 | y :: l=>by
  have ih:=wM (l:=l)
  have le:=Bg l
  unfold uq
  rw [LU]
  by_cases h:y∈l
  ·rw [J2 h]
   exact ⟨fun e=>by simp at e;omega,fun e=>absurd h e.1⟩
  ·rw [J9 h,Km,Km]
   exact ⟨fun e=>⟨h,ih.mp (by omega)⟩,fun e=>by rw [ih.mpr e.2]⟩
theorem nC:∀ {a b:List (List Int)},a.Nodup→(∀ x∈a,x∈b)→a.length≤b.length
 | [],_,_,_=>L9 _
 | x :: a,b,h,hs=>by
  obtain ⟨h1,h2⟩:=LU.mp h
  have hx:=hs x (Ks ..)
  have:=nC (a:=a) (b:=b.erase x) h2 fun y hy=>(List.mem_erase_of_ne (fun z:y=x=>h1 (by rw [← z];exact hy))).mpr (hs y (Kk _ hy))
  rw [List.length_erase_of_mem hx] at this
  have:=Q8 hx
  simp only [Km]
  omega
theorem tj (h:As (fun i=>ts.getD i []) ts.length ks):ks.length=(uq ts).length:=by
 obtain ⟨h1,_,h3⟩:=h
 have mem:∀ x,x∈ks↔x∈ts:=fun x=>by
  rw [h3]
  constructor
  ·rintro ⟨j,hj,rfl⟩
   show ts.getD j []∈ts
   rw [Kd,JZ hj]
   exact L5 hj
  ·intro hx
   obtain ⟨j,hj,rfl⟩:=L4.mp hx
   exact ⟨j,hj,by show ts.getD j []=ts[j];rw [Kd,JZ hj];rfl⟩
 exact Nat.le_antisymm (nC h1 fun x hx=>(lE x ts).mpr ((mem x).mp hx)) (nC (nD ts) fun x hx=>(mem x).mpr ((lE x ts).mp hx))
def wy (w:Kq) (h:Heap) (a:Addr) (ks:List (List Int)):Prop:=
 ∃ (o:Obj) (es:Array (Int×Value)) (ep:Nat) (t:LF),h.get? a=some o∧o.ExactSet∧o.data=.set es ep t∧t.fits es.size=true∧es.size=ks.length∧ks.length≤300
theorem jF.x (H:jF prog w P h S ks):wy w h S ks:=by
 obtain ⟨o,es,ep,t,pl,g1,g2,g3,g4,g5,g8,⟨g9,g10,g11⟩,g12,g13,g15,_⟩:=H
 exact ⟨o,es,ep,t,g1,g2,g3,fits_of g5 (by rw [g8,g12];simpa using g10) (by omega),g12,g13⟩
theorem xj {S l:Addr} {items:Array Value} {F:UE→JU→Prop} {hp:Heap} {g:Array Pk} {d:SK} {tk:Nat} {os:SU} (hh:A.handled=none) (hS:hp.get? S=some { cls:=.type "set",data:=.set #[] 0 (MP 0 0 (!(w.params.followText "set-order"))) }) (k:Bool) (hl:jP hp l items k) (ts:List (List Int)) (ads:List Addr) (hi:items.toList=ads.map Kg) (hl2:ads.length=ts.length) (hn:ts.length≤300) (hu:A.in1.units < cLine) (hkey:∀ j,j < ts.length→K2 (KI prog w) hp (ts.getD j []) (ads.getD j 0))
    (h:∀ (h':Heap) (tk':Nat) (ks:List (List Int)),wy w h' S ks→ks.length=(uq ts).length→(∀ b o,b≠S→hp.get? b=some o→h'.get? b=some o)→F (.done (.ret .none)) ⟨h',g,d,tk',os⟩) :
    JY (J6 prog w) A (Builtin.«set.__init__» ⟨[.ref S,.ref l],[]⟩) F E ⟨hp,g,d,tk,os⟩:=by
  cases k with
  | false=>
    replace hl:hp.IsTuple l items:=hl
    have hT:Mu ⟨hp,g,d,tk,os⟩ (.ref S) "set":=⟨_,hS,rfl⟩
    have hTt:Mu ⟨hp,g,d,tk,os⟩ (.ref l) "tuple":=hl.typeIs
    unfold Builtin.«set.__init__»
    refine ar ?_
    unfold RK
    refine Lh rfl (tx ?_)
    dsimp only
    refine ar ?_
    unfold P0
    refine ar ?_
    unfold Pt
    refine ar (Lf hT ?_)
    first
    | refine JX rfl (tx ?_)
    | refine tx ?_
    refine (show JY _ _ (pure _) _ _ _ from tx ?_)
    refine ar ?_
    unfold Pb
    refine JX rfl (JX rfl (JX rfl (tx ?_)))
    refine ar (tx ?_)
    refine ar ?_
    unfold Uo
    refine ar (Kr hS rfl (by rfl) (tx ?_))
    refine JX rfl ?_
    refine ar ?_
    unfold MQ
    refine ar ?_
    unfold M5
    refine (show JY _ _ (MH (.ref l) (.type "set")>>=_) _ _ _ from ar (Lo hTt Ro ?_))
    refine (show JY _ _ (MH (.ref l) (.type "frozenset")) _ _ _ from Lo hTt PH ?_)
    refine JX rfl (ar (Lf hTt (JX rfl (ar (Nu hl ?_)))))
    refine ar (OA ?_)
    have hlt:S < hp.objs.size:=J4 hS
    obtain ⟨o,ho,hor⟩:=hl
    have hlt2:l < hp.objs.size:=J4 ho
    have hne:l≠hp.objs.size:=Kf hlt2
    have W:=Tr (prog:=prog) (w:=w) (A:=A.in1) hh hp.objs.size l hne items
    have lit:items.size=ts.length:=by rw [← Kh,hi,J0,hl2]
    have hSl:S≠l:=fun e=>by
      rw [e,ho] at hS
      cases hS
      exact absurd (NR hor.1) (by decide)
    refine qh W S (by simp only [J1,Kw,LR,not_or];exact ⟨Kf hlt,hSl⟩) (fun i=>ts.getD i []) (fun i=>ads.getD i 0) ?_ (by omega) hu ?_ items.size 0 _ [] (by omega) (L9 _) ?_ ?_ ?_ ?_ ?_
    · intro i v hv hin
      have q:items.toList[i]?=some v:=by simpa using hv
      rw [hi,Kv] at q
      rw [Kd]
      cases e:ads[i]? with
      | none=>rw [e] at q;cases q
      | some x=>rw [e] at q;exact (KA q).symm
    · intro j hj
      obtain ⟨o',it',n',g,c,_⟩:=hkey j (by omega)
      refine ⟨fun e=>?_,fun hm=>?_⟩
      · rw [e] at g
        rw [hS] at g
        cases g
        exact absurd (NR c) (by decide)
      · simp only [Ka] at hm
        exact LK _ (hm ▸ J4 g)
    · exact ⟨⟨_,Kc _ rfl,rfl,rfl⟩,⟨o,C0 _ ho,hor⟩⟩
    · refine ⟨_,#[],0,_,[],C0 _ hS,⟨rfl,rfl,rfl⟩,rfl,(show cy 7=true by decide),rfl,rfl,⟨NJ,rfl,(show 0 * 5 < 7 * 3 by decide)⟩,rfl,by simp,by simp,by simp,fun i j z=>by cases z⟩
    · exact ⟨Mz,J3 _,fun x=>Iff.intro (fun z=>absurd z (by simp)) fun ⟨j,z,_⟩=>absurd z (Ud j)⟩
    · intro j hj
      exact dX (hkey j (by omega)) fun o e=>C0 _ e
    · intro h' tk' ks' q1 q2 q3
      refine tx (tx (h h' tk' ks' q2.x (tj (by rw [← lit];exact q3)) ?_))
      intro b o' hbS e
      refine q1 b o' hbS ?_ (C0 _ e)
      simp only [Ka]
      exact Kf (J4 e)
  | true=>
    replace hl:hp.IsList l items:=hl
    have hT:Mu ⟨hp,g,d,tk,os⟩ (.ref S) "set":=⟨_,hS,rfl⟩
    have hTt:Mu ⟨hp,g,d,tk,os⟩ (.ref l) "list":=hl.typeIs
    unfold Builtin.«set.__init__»
    refine ar ?_
    unfold RK
    refine Lh rfl (tx ?_)
    dsimp only
    refine ar ?_
    unfold P0
    refine ar ?_
    unfold Pt
    refine ar (Lf hT ?_)
    first
    | refine JX rfl (tx ?_)
    | refine tx ?_
    refine (show JY _ _ (pure _) _ _ _ from tx ?_)
    refine ar ?_
    unfold Pb
    refine JX rfl (JX rfl (JX rfl (tx ?_)))
    refine ar (tx ?_)
    refine ar ?_
    unfold Uo
    refine ar (Kr hS rfl (by rfl) (tx ?_))
    refine JX rfl ?_
    refine ar ?_
    unfold MQ
    refine ar ?_
    unfold M5
    refine (show JY _ _ (MH (.ref l) (.type "set")>>=_) _ _ _ from ar (Lo hTt RL ?_))
    refine (show JY _ _ (MH (.ref l) (.type "frozenset")) _ _ _ from Lo hTt P4 ?_)
    refine JX rfl (ar (Lf hTt (JX rfl (ar (NK hl ?_)))))
    refine ar (OA ?_)
    have hlt:S < hp.objs.size:=J4 hS
    obtain ⟨o,ho,hor⟩:=hl
    have hlt2:l < hp.objs.size:=J4 ho
    have hne:l≠hp.objs.size:=Kf hlt2
    have W:=T2 (prog:=prog) (w:=w) (A:=A.in1) hh hp.objs.size l hne items
    have lit:items.size=ts.length:=by rw [← Kh,hi,J0,hl2]
    have hSl:S≠l:=fun e=>by
      rw [e,ho] at hS
      cases hS
      exact absurd (NR hor.1) (by decide)
    refine qh W S (by simp only [J1,Kw,LR,not_or];exact ⟨Kf hlt,hSl⟩) (fun i=>ts.getD i []) (fun i=>ads.getD i 0) ?_ (by omega) hu ?_ items.size 0 _ [] (by omega) (L9 _) ?_ ?_ ?_ ?_ ?_
    · intro i v hv hin
      have q:items.toList[i]?=some v:=by simpa using hv
      rw [hi,Kv] at q
      rw [Kd]
      cases e:ads[i]? with
      | none=>rw [e] at q;cases q
      | some x=>rw [e] at q;exact (KA q).symm
    · intro j hj
      obtain ⟨o',it',n',g,c,_⟩:=hkey j (by omega)
      refine ⟨fun e=>?_,fun hm=>?_⟩
      · rw [e] at g
        rw [hS] at g
        cases g
        exact absurd (NR c) (by decide)
      · simp only [Ka] at hm
        exact LK _ (hm ▸ J4 g)
    · exact ⟨⟨_,Kc _ rfl,rfl,rfl⟩,⟨o,C0 _ ho,hor⟩⟩
    · refine ⟨_,#[],0,_,[],C0 _ hS,⟨rfl,rfl,rfl⟩,rfl,(show cy 7=true by decide),rfl,rfl,⟨NJ,rfl,(show 0 * 5 < 7 * 3 by decide)⟩,rfl,by simp,by simp,by simp,fun i j z=>by cases z⟩
    · exact ⟨Mz,J3 _,fun x=>Iff.intro (fun z=>absurd z (by simp)) fun ⟨j,z,_⟩=>absurd z (Ud j)⟩
    · intro j hj
      exact dX (hkey j (by omega)) fun o e=>C0 _ e
    · intro h' tk' ks' q1 q2 q3
      refine tx (tx (h h' tk' ks' q2.x (tj (by rw [← lit];exact q3)) ?_))
      intro b o' hbS e
      refine q1 b o' hbS ?_ (C0 _ e)
      simp only [Ka]
      exact Kf (J4 e)
theorem wx {l:Addr} {items:Array Value} {Q:Value→JU→Prop} (hh:A.handled=none) (k:Bool) (hl:jP s.heap l items k) (ts:List (List Int)) (ads:List Addr) (hi:items.toList=ads.map Kg) (hl2:ads.length=ts.length) (hn:ts.length≤300) (hu:A.in1.in1.in1.units < cLine) (hkey:∀ j,j < ts.length→K2 (KI prog w) s.heap (ts.getD j []) (ads.getD j 0))
  (h:∀ (h':Heap) (tk:Nat) (ks:List (List Int)),wy w h' s.heap.objs.size ks→ks.length=(uq ts).length→(∀ b o,s.heap.get? b=some o→h'.get? b=some o)→Q (.ref s.heap.objs.size) { s with heap:=h',toks:=tk }):JY (J6 prog w) A (call (.type "set") [.ref l]) Q E s:=by
 obtain ⟨c,tl,hmro⟩:=LD.mro
 have hmade:=LD.made
 have hsub:=LD.sub
 have h1:=LD.notType
 have h2:=LD.canCreate
 have hct:=TH (Kg l)
 refine Nb (Pa ?_)
 refine (show JY _ _ (pure (Fin.again (QB "type.__call__" ⟨[.type "set",.ref l],[]⟩))) _ _ _ from tx ⟨MV _ (by decide +kernel),Mh Tg ?_⟩)
 rw [SE (Rp "set" [Kg l] []) rfl]
 unfold Builtin.«type.__call__»
 dsimp only
 refine JX rfl (JX (by rw [h2];rfl) (ar (MB hct (ar (MB hmro (JX rfl (ar (MB hmade ?_))))))))
 dsimp only
 refine ar (tx (ar (KG (Nb (Og (kH (E:=fun _ _=>False) (Q₁:=fun obj s₁=>obj=.ref s.heap.objs.size∧s₁={ s with heap:=s.heap.push { cls:=.type "set",data:=.set #[] 0 (MP 0 0 (!(w.params.followText "set-order"))) } }) (.ref l) ⟨rfl,rfl⟩) fun r s₁ hr=>?_)))))
 generalize hs1:({ s with heap:=s.heap.push { cls:=.type "set",data:=.set #[] 0 (MP 0 0 (!(w.params.followText "set-order"))) } }:JU)=sN at hr
 cases r with
 | error e=>exact LB hr
 | ok f=>
  cases f with
  | ret v=>
   obtain ⟨e1,e2⟩:=hr
   subst e1 e2
   have hT:Mu s₁ (.ref s.heap.objs.size) "set":=by
    rw [← hs1]
    exact ⟨_,Kc _ rfl,rfl⟩
   show JY _ _ _ _ _ _
   refine ar (Lo (T:="set") (b:=true) hT hsub ?_)
   refine JX rfl (ar (KG ?_))
   refine KQ (name:=K6 "__init__") hT LD.init (Nb (Mo LD.init.plain TJ (TK hT ?_)))
   subst hs1
   obtain ⟨hp,g,d,tk,os⟩:=s
   refine xj (hp:=hp.push _) hh (Kc _ rfl) k (by
    cases k with
    | false=>
     obtain ⟨o,e,r⟩:=(show QE _ l items from hl)
     exact (show QE _ l items from ⟨o,C0 _ e,r⟩)
    | true=>
     obtain ⟨o,e,r⟩:=(show Q7 _ l items from hl)
     exact (show Q7 _ l items from ⟨o,C0 _ e,r⟩)) ts ads hi hl2 hn hu (fun j hj=>dX (hkey j hj) fun o e=>C0 _ e) fun h' tk' ks q1 q2 q3=>?_
   refine JX rfl (tx (h h' tk' ks q1 q2 fun b o e=>q3 b o (Kf (J4 e)) (C0 _ e)))
  | _=>exact LB hr
end
def xW:List (TE×TE)→St→Hp→(List (V×V)→Hp→Prop)→Prop
 | [],_,H,Q=>Q [] H
 | (tk,tv) :: r,σ,H,Q=>tk σ H fun x H1=>tv σ H1 fun y H2=>xW r σ H2 fun ps H3=>Q ((x,y) :: ps) H3
abbrev VV:List (V×V)→List (Value×Value)→Prop:=Se fun p q=>RelV p.1 q.1∧RelV p.2 q.2
def PPs (X:Cx) (pos:Pos) (keys:List (Option Ke)) (values:List Ke) (trs:List (TE×TE)):Prop:=
 ∀ (pins:List (Addr×Obj)) (s:JU) (σ:St) (H:Hp) (Q:List (V×V)→Hp→Prop),Inv X pins σ H s→xW trs σ H Q →
  JY (J6 X.prog X.w) X.A (evalPairs (pairTrees keys values X.env pos)) (fun vs s'=>∃ ps H',Inv X pins σ H' s'∧VV ps vs∧Q ps H') X.xe s
structure M1 (X:Cx) (o:Ke) (m:Str) (apos:Pos) (e:Ke) (cpos:Pos):Prop where
 base:MI o m X.env (KC o X.env)=KC o X.env
 few:((Ly cpos (J7 [e] X.env)).all (fun x=>!x.1) && (OT cpos (NC [] X.env)).all (fun x=>x.1.isSome)
  && decide (([e]:List Ke).length+([]:List MN).length+(if ([]:List MN).isEmpty then 0 else 1) < 30))=true
 line:(apos.endLine == cpos.line)=true
 trees:Ly cpos (J7 [e] X.env)=[(false,KC e X.env)]
structure M2 (X:Cx) (o:Ke) (m:Str) (apos:Pos) (e f:Ke) (cpos:Pos):Prop where
 base:MI o m X.env (KC o X.env)=KC o X.env
 few:((Ly cpos (J7 [e,f] X.env)).all (fun x=>!x.1) && (OT cpos (NC [] X.env)).all (fun x=>x.1.isSome)
  && decide (([e,f]:List Ke).length+([]:List MN).length+(if ([]:List MN).isEmpty then 0 else 1) < 30))=true
 line:(apos.endLine == cpos.line)=true
 trees:Ly cpos (J7 [e,f] X.env)=[(false,KC e X.env),(false,KC f X.env)]
inductive Vl where
 | d (x:D) | r (n:Nat) | fd (kvs:List (Key×D)) | fn (x:Str) | sc (ns:List Int) | pr (x:D) (n:Nat) | xc (c:Str) (xs:List (Str×D)) | kt (ws:List Str)
inductive Ob where
 | lst (xs:List D) | dct (kvs:List (Key×D)) | dead
abbrev Sto:=List Ob
inductive R (α:Type) where
 | ok (a:α) (S:Sto) | ex (c:Str) (xs:List (Str×D)) (S:Sto) | bad
def R.bind {α β:Type} (x:R α) (f:α→Sto→R β):R β:=match x with
 | .ok a S=>f a S
 | .ex c xs S=>.ex c xs S
 | .bad=>.bad
abbrev Nv:=List (Option Vl)
abbrev XE:=Nv→Sto→R Vl
abbrev XT:=Nv→Sto→R Bool
abbrev XA:=Nv→Sto→R (List Vl)
abbrev XO:=Nv→Sto→R (Option Int)
inductive Fl where
 | nx | bk | ct | rt (v:Vl)
abbrev XS:=Nv→Sto→R (Fl×Nv)
abbrev XG:=Vl→Nv→Sto→R Nv
abbrev XGs:=List Vl→Nv→Sto→R Nv
abbrev XF:=List Vl→Sto→R Vl
structure Its where
 items:List Vl
 gd:Option (Nat×Ob)
def Its.ok (I:Its) (S:Sto):Prop:=match I.gd with
 | none=>True
 | some (n,o)=>S[n]?=some o
abbrev XI:=Nv→Sto→R Its
def Al (μ:Nat→Addr) (S:Sto) (b:Addr):Prop:=∃ n o,S[n]?=some o∧o≠.dead∧μ n=b
open Classical in
noncomputable def vh (μ:Nat→Addr) (S:Sto) (H:Hp):Hp:=fun b=>if Al μ S b then none else H b
section
variable {μ μ' μ1 μ2:Nat→Addr} {S S' S1 S2:Sto} {H H' H1 H2:Hp} {b:Addr} {o:HO}
theorem cn (h:H b=some o) (n:¬Al μ S b):vh μ S H b=some o:=by unfold vh;rw [J9 n];exact h
theorem bo (h:vh μ S H b=some o):¬Al μ S b∧H b=some o:=by
 unfold vh at h
 split at h
 ·cases h
 ·exact ⟨‹_›,h⟩
theorem fw:eA (vh μ S H) H:=fun _ _ h=>(bo h).2
def ObR (μ:Nat→Addr) (S:Sto) (H:Hp) (a:Addr):Ob→Prop
 | .lst ds=>∃ vs,H a=some (.lst vs)∧aE (vh μ S H) vs ds
 | .dct kvs=>∃ vs:List V,vs.length=kvs.length∧H a=some (.dK ((kvs.map (·.1)).zip vs))∧aE (vh μ S H) vs (kvs.map (·.2))
 | .dead=>True
structure HR (μ:Nat→Addr) (S:Sto) (H:Hp):Prop where
 ob:∀ n o,S[n]?=some o→ObR μ S H (μ n) o
 inj:∀ n m o o',S[n]?=some o→S[m]?=some o'→o≠.dead→o'≠.dead→μ n=μ m→n=m
theorem ObR.some (h:ObR μ S H a ob) (n:ob≠.dead):∃ o,H a=Option.some o:=by
 cases ob with
 | lst ds=>obtain ⟨vs,e,_⟩:=h;exact ⟨_,e⟩
 | dct kvs=>obtain ⟨vs,_,e,_⟩:=h;exact ⟨_,e⟩
 | dead=>exact absurd rfl n
theorem HR.al (h:HR μ S H) (a:Al μ S b):∃ o,H b=some o:=by
 obtain ⟨n,ob,e,nd,rfl⟩:=a
 exact (h.ob n ob e).some nd
theorem HR.nal (h:HR μ S H) (e:H b=none):¬Al μ S b:=fun a=>by
 obtain ⟨o,q⟩:=h.al a
 rw [e] at q;cases q
theorem ObR.mono (h:ObR μ S H a ob) (e:ob≠.dead→H' a=H a) (k:eA (vh μ S H) (vh μ' S' H')):ObR μ' S' H' a ob:=by
 cases ob with
 | lst ds=>obtain ⟨vs,q,r⟩:=h;exact ⟨vs,by rw [e (by simp)];exact q,r.mono k⟩
 | dct kvs=>obtain ⟨vs,l,q,r⟩:=h;exact ⟨vs,l,by rw [e (by simp)];exact q,r.mono k⟩
 | dead=>exact Kp
structure Step (μ:Nat→Addr) (S:Sto) (H:Hp) (μ':Nat→Addr) (S':Sto) (H':Hp):Prop where
 ag:∀ n,n < S.length→μ' n=μ n
 le:S.length≤S'.length
 hr:HR μ' S' H'
 dd:∀ n:Nat,S[n]?=some Ob.dead→S'[n]?=some Ob.dead
 nw:∀ n o,S.length≤n→S'[n]?=some o→o≠.dead→H (μ' n)=none
 ko:∀ b o,H b=some o→¬Al μ S b→H' b=some o
 dm:∀ b o,H b=some o→∃ o',H' b=some o'
theorem Step.refl (h:HR μ S H):Step μ S H μ S H:=
 ⟨fun _ _=>rfl,J3 _,h,fun _ e=>e,fun n o l e _=>(by rw [Lw l] at e;cases e),fun _ _ e _=>e,fun _ o e=>⟨o,e⟩⟩
theorem Step.nal (a:Step μ S H μ' S' H') (h:H b=some o) (n:¬Al μ S b):¬Al μ' S' b:=by
 rintro ⟨k,ob,e,nd,rfl⟩
 by_cases hk:k < S.length
 ·have e0:S[k]?=some S[k]:=JZ hk
  by_cases hd:S[k]=.dead
  ·rw [hd] at e0
   rw [a.dd k e0] at e
   cases e
   exact nd rfl
  ·exact n ⟨k,_,e0,hd,(a.ag k hk).symm⟩
 ·rw [a.nw k ob (by omega) e nd] at h
  cases h
theorem Step.vis (a:Step μ S H μ' S' H'):eA (vh μ S H) (vh μ' S' H'):=fun b o h=>by
 obtain ⟨n,h⟩:=bo h
 exact cn (a.ko b o h n) (a.nal h n)
theorem Step.trans (a:Step μ S H μ1 S1 H1) (b:Step μ1 S1 H1 μ2 S2 H2):Step μ S H μ2 S2 H2 where
 ag:=fun n h=>(b.ag n (Kt h a.le)).trans (a.ag n h)
 le:=Lj a.le b.le
 hr:=b.hr
 dd:=fun n e=>b.dd n (a.dd n e)
 nw:=fun n o l e nd=>by
  by_cases hn:n < S1.length
  ·rw [b.ag n hn]
   refine a.nw n S1[n] l (JZ hn) fun z=>?_
   have e0:S1[n]?=some S1[n]:=JZ hn
   rw [z] at e0
   rw [b.dd n e0] at e
   cases e
   exact nd rfl
  ·have q:=b.nw n o (by omega) e nd
   cases e2:H (μ2 n) with
   | none=>rfl
   | some u=>
    obtain ⟨u',e3⟩:=a.dm _ _ e2
    rw [q] at e3;cases e3
 ko:=fun c o h n=>b.ko c o (a.ko c o h n) (a.nal h n)
 dm:=fun c o h=>by
  obtain ⟨o1,e1⟩:=a.dm c o h
  exact b.dm c o1 e1
theorem Step.new (h:HR μ S H) (hp:H p=none) (o:HO):Step μ S H μ S (upd H p o):=by
 have k:eA (vh μ S H) (vh μ S (upd H p o)):=fun b u q=>by
  obtain ⟨n,q⟩:=bo q
  exact cn (by rw [aS (bz q hp)];exact q) n
 refine ⟨fun _ _=>rfl,J3 _,⟨fun n ob e=>?_,h.inj⟩,fun _ e=>e,fun n ob l e _=>(by rw [Lw l] at e;cases e),fun b u q _=>by rw [aS (bz q hp)];exact q,fun b u q=>⟨u,by rw [aS (bz q hp)];exact q⟩⟩
 refine (h.ob n ob e).mono (fun nd=>?_) k
 obtain ⟨u,q⟩:=(h.ob n ob e).some nd
 exact aS (bz q hp)
def ext (μ:Nat→Addr) (k:Nat) (p:Addr):Nat→Addr:=fun n=>if n=k then p else μ n
theorem dR:ext μ k p k=p:=by unfold ext;rw [J2 rfl]
theorem me (h:n≠k):ext μ k p n=μ n:=by unfold ext;rw [J9 h]
def ObL (G:Hp):Ob→HO→Prop
 | .lst ds,o=>∃ vs,o=.lst vs∧aE G vs ds
 | .dct kvs,o=>∃ vs:List V,vs.length=kvs.length∧o=.dK ((kvs.map (·.1)).zip vs)∧aE G vs (kvs.map (·.2))
 | .dead,_=>False
theorem ObL.ne (h:ObL G ob o):ob≠.dead:=by
 rintro rfl
 exact h
theorem ObL.at (h:ObL G ob o) (e:H a=some o) (k:eA G (vh μ S H)):ObR μ S H a ob:=by
 cases ob with
 | lst ds=>obtain ⟨vs,rfl,r⟩:=h;exact ⟨vs,e,r.mono k⟩
 | dct kvs=>obtain ⟨vs,l,rfl,r⟩:=h;exact ⟨vs,l,e,r.mono k⟩
 | dead=>exact h.elim
theorem Step.alloc (h:HR μ S H) (hp:H p=none) (hl:ObL (vh μ S H) ob o):Step μ S H (ext μ S.length p) (S++[ob]) (upd H p o):=by
 have nd:=hl.ne
 have old:∀ n u,n < S.length→(S++[ob])[n]?=some u→S[n]?=some u∧ext μ S.length p n=μ n:=fun n u hn e=>by
  rw [Ky hn] at e
  exact ⟨e,me (Kf hn)⟩
 have new:∀ n u,S.length≤n→(S++[ob])[n]?=some u→n=S.length∧u=ob:=fun n u hn e=>by
  rw [KH hn] at e
  have hz:n - S.length=0:=by
   refine Q9 fun z=>?_
   rw [Lw (by simp;omega)] at e;cases e
  rw [hz] at e
  exact ⟨by omega,by simpa using e.symm⟩
 have nal:∀ {b u},H b=some u→¬Al μ S b→¬Al (ext μ S.length p) (S++[ob]) b:=by
  rintro b u q n ⟨k,v,e,d,rfl⟩
  by_cases hk:k < S.length
  ·obtain ⟨e1,e2⟩:=old k v hk e
   exact n ⟨k,v,e1,d,e2.symm⟩
  ·obtain ⟨rfl,rfl⟩:=new k v (by omega) e
   rw [dR,hp] at q;cases q
 have k:eA (vh μ S H) (vh (ext μ S.length p) (S++[ob]) (upd H p o)):=fun b u q=>by
  obtain ⟨n,q⟩:=bo q
  exact cn (by rw [aS (bz q hp)];exact q) (nal q n)
 refine ⟨fun n hn=>me (Kf hn),by simp,⟨fun n u e=>?_,fun n m u v e1 e2 d1 d2 q=>?_⟩,fun n e=>?_,fun n u l e _=>?_,fun b u q _=>by rw [aS (bz q hp)];exact q,fun b u q=>⟨u,by rw [aS (bz q hp)];exact q⟩⟩
 ·by_cases hn:n < S.length
  ·obtain ⟨e1,e2⟩:=old n u hn e
   rw [e2]
   refine (h.ob n u e1).mono (fun nd=>?_) k
   obtain ⟨x,q⟩:=(h.ob n u e1).some nd
   exact aS (bz q hp)
  ·obtain ⟨rfl,rfl⟩:=new n u (by omega) e
   rw [dR]
   exact hl.at b9 k
 ·by_cases hn:n < S.length
  ·obtain ⟨a1,a2⟩:=old n u hn e1
   obtain ⟨x,qx⟩:=(h.ob n u a1).some d1
   by_cases hm:m < S.length
   ·obtain ⟨b1,b2⟩:=old m v hm e2
    rw [a2,b2] at q
    exact h.inj n m u v a1 b1 d1 d2 q
   ·obtain ⟨rfl,rfl⟩:=new m v (by omega) e2
    rw [a2,dR] at q
    rw [q,hp] at qx;cases qx
  ·obtain ⟨rfl,rfl⟩:=new n u (by omega) e1
   by_cases hm:m < S.length
   ·obtain ⟨b1,b2⟩:=old m v hm e2
    obtain ⟨x,qx⟩:=(h.ob m v b1).some d2
    rw [b2,dR] at q
    rw [← q,hp] at qx;cases qx
   ·exact (new m v (by omega) e2).1.symm
 ·have hn:n < S.length:=by
   refine Qx fun z=>?_
   rw [Lw z] at e;cases e
  rw [Ky hn];exact e
 ·obtain ⟨rfl,rfl⟩:=new n u l e
  rw [dR];exact hp
theorem gC (hn:n < S.length) (e:(S.set n ob)[m]?=some u):(m=n∧u=ob)∨(m≠n∧S[m]?=some u):=by
 rw [OL] at e
 by_cases q:n=m
 ·subst q
  rw [J2 rfl,J2 hn] at e
  exact .inl ⟨rfl,(KA e).symm⟩
 ·rw [J9 q] at e
  exact .inr ⟨fun z=>q z.symm,e⟩
theorem Step.put (h:HR μ S H) (e0:S[n]?=some ob0) (d0:ob0≠.dead) (hl:ObL (vh μ S H) ob o):Step μ S H μ (S.set n ob) (upd H (μ n) o):=by
 have nd:=hl.ne
 have hn:n < S.length:=(J5.mp e0).1
 have al0:Al μ S (μ n):=⟨n,ob0,e0,d0,rfl⟩
 have al:∀ {b},Al μ (S.set n ob) b→Al μ S b:=by
  rintro b ⟨m,u,e,d,rfl⟩
  rcases gC hn e with ⟨rfl,rfl⟩ | ⟨z,q⟩
  ·exact al0
  ·exact ⟨m,u,q,d,rfl⟩
 have k:eA (vh μ S H) (vh μ (S.set n ob) (upd H (μ n) o)):=fun b u q=>by
  obtain ⟨z,q⟩:=bo q
  exact cn (by rw [aS (fun c=>z (by rw [c];exact al0))];exact q) fun c=>z (al c)
 refine ⟨fun _ _=>rfl,by rw [Mr];exact J3 _,⟨fun m u e=>?_,fun m m' u v e1 e2 d1 d2 q=>?_⟩,fun m e=>?_,fun m u l e _=>?_,fun b u q z=>by rw [aS (fun c=>z (by rw [c];exact al0))];exact q,fun b u q=>?_⟩
 ·rcases gC hn e with ⟨rfl,rfl⟩ | ⟨z,q⟩
  ·exact hl.at b9 k
  ·refine (h.ob m u q).mono (fun d=>aS fun c=>z (h.inj m n u ob0 q e0 d d0 c)) k
 ·have a1:∃ w,S[m]?=some w∧w≠.dead:=by
   rcases gC hn e1 with ⟨rfl,rfl⟩ | ⟨z,q⟩
   ·exact ⟨ob0,e0,d0⟩
   ·exact ⟨u,q,d1⟩
  have a2:∃ w,S[m']?=some w∧w≠.dead:=by
   rcases gC hn e2 with ⟨rfl,rfl⟩ | ⟨z,q⟩
   ·exact ⟨ob0,e0,d0⟩
   ·exact ⟨v,q,d2⟩
  obtain ⟨w1,x1,y1⟩:=a1
  obtain ⟨w2,x2,y2⟩:=a2
  exact h.inj m m' w1 w2 x1 x2 y1 y2 q
 ·rw [M_]
  ·exact e
  ·rintro rfl
   rw [e0] at e;cases e;exact d0 rfl
 ·rw [Lw (by rw [Mr];exact l)] at e;cases e
 ·by_cases z:b=μ n
  ·subst z;exact ⟨o,b9⟩
  ·exact ⟨u,by rw [aS z];exact q⟩
theorem Step.freeze (h:HR μ S H) (e0:S[n]?=some ob) (d0:ob≠.dead):Step μ S H μ (S.set n .dead) H∧¬Al μ (S.set n .dead) (μ n):=by
 have hn:n < S.length:=(J5.mp e0).1
 have al:∀ {b},Al μ (S.set n .dead) b→Al μ S b:=by
  rintro b ⟨m,u,e,d,rfl⟩
  rcases gC hn e with ⟨rfl,rfl⟩ | ⟨z,q⟩
  ·exact absurd rfl d
  ·exact ⟨m,u,q,d,rfl⟩
 have k:eA (vh μ S H) (vh μ (S.set n .dead) H):=fun b u q=>by
  obtain ⟨z,q⟩:=bo q
  exact cn q fun c=>z (al c)
 have inn:∀ m u,(S.set n .dead)[m]?=some u→u≠.dead→S[m]?=some u∧m≠n:=fun m u e d=>by
  rcases gC hn e with ⟨rfl,rfl⟩ | ⟨z,q⟩
  ·exact absurd rfl d
  ·exact ⟨q,z⟩
 refine ⟨⟨fun _ _=>rfl,by rw [Mr];exact J3 _,⟨fun m u e=>?_,fun m m' u v e1 e2 d1 d2 q=>h.inj m m' u v (inn m u e1 d1).1 (inn m' v e2 d2).1 d1 d2 q⟩,fun m e=>?_,fun m u l e _=>?_,fun b u q z=>q,fun b u q=>⟨u,q⟩⟩,?_⟩
 ·by_cases d:u=.dead
  ·subst d;exact Kp
  ·exact (h.ob m u (inn m u e d).1).mono (fun _=>rfl) k
 ·by_cases z:m=n
  ·subst z;rw [OL,J2 rfl,J2 hn]
  ·rw [M_ (fun c=>z c.symm)];exact e
 ·rw [Lw (by rw [Mr];exact l)] at e;cases e
 ·rintro ⟨m,u,e,d,q⟩
  obtain ⟨e1,z⟩:=inn m u e d
  exact z (h.inj m n u ob e1 e0 d d0 q)
theorem Step.AM (h:HR μ S H) (o':HO) (e0:S[n]?=some ob) (d0:ob≠.dead):Step μ S H μ (S.set n .dead) (upd H (μ n) o')∧¬Al μ (S.set n .dead) (μ n):=by
 have hn:n < S.length:=(J5.mp e0).1
 have al0:Al μ S (μ n):=⟨n,ob,e0,d0,rfl⟩
 obtain ⟨st,na⟩:=Step.freeze h e0 d0
 have k:eA (vh μ S H) (vh μ (S.set n .dead) (upd H (μ n) o')):=fun b u q=>by
  obtain ⟨z,q'⟩:=bo q
  exact cn (by rw [aS (fun c=>z (by rw [c];exact al0))];exact q') (bo (st.vis b u q)).1
 refine ⟨⟨st.ag,st.le,⟨fun m u e=>?_,st.hr.inj⟩,st.dd,fun m u l e d=>st.nw m u l e d,fun b u q z=>by rw [aS (fun c=>z (by rw [c];exact al0))];exact q,fun b u q=>?_⟩,na⟩
 ·rcases gC hn e with ⟨rfl,rfl⟩ | ⟨z,q⟩
  ·exact Kp
  ·by_cases d:u=.dead
   ·subst d;exact Kp
   ·exact (h.ob m u q).mono (fun _=>aS fun c=>z (h.inj m n u ob q e0 d d0 c)) k
 ·by_cases z:b=μ n
  ·subst z;exact ⟨o',b9⟩
  ·exact ⟨u,by rw [aS z];exact q⟩
theorem dM (e:(S.take k)[n]?=some u):n < k∧S[n]?=some u:=by
 rw [NA] at e
 split at e
 ·exact ⟨‹_›,e⟩
 ·cases e
theorem Step.take (a:Step μ S H μ' S' H'):Step μ S H μ' (S'.take S.length) H':=by
 have al:∀ {b},Al μ' (S'.take S.length) b→Al μ' S' b:=by
  rintro b ⟨m,u,e,d,rfl⟩
  exact ⟨m,u,(dM e).2,d,rfl⟩
 have k:eA (vh μ' S' H') (vh μ' (S'.take S.length) H'):=fun b u q=>by
  obtain ⟨z,q⟩:=bo q
  exact cn q fun c=>z (al c)
 refine ⟨a.ag,by rw [KS];have:=a.le;omega,⟨fun m u e=>(a.hr.ob m u (dM e).2).mono (fun _=>rfl) k,fun m m' u v e1 e2=>a.hr.inj m m' u v (dM e1).2 (dM e2).2⟩,fun n e=>?_,fun n u l e _=>?_,a.ko,a.dm⟩
 ·have hn:n < S.length:=(J5.mp e).1
  rw [NA,J2 hn]
  exact a.dd n e
 ·have:=(dM e).1
  omega
theorem Step.move (a:Step μ S H μ' S' H') (hn:S.length≤n) (e0:S'[n]?=some ob) (d0:ob≠.dead):Step μ S H (ext μ' S.length (μ' n)) (S'.take S.length++[ob]) H':=by
 have lt:(S'.take S.length).length=S.length:=by rw [KS];have:=a.le;omega
 have get:∀ m u,(S'.take S.length++[ob])[m]?=some u→∃ j,S'[j]?=some u∧ext μ' S.length (μ' n) m=μ' j∧((m < S.length∧j=m)∨(m=S.length∧j=n)):=fun m u e=>by
  by_cases hm:m < S.length
  ·rw [Ky (by omega)] at e
   exact ⟨m,(dM e).2,me (Kf hm),.inl ⟨hm,rfl⟩⟩
  ·rw [KH (by omega)] at e
   have hz:m - (S'.take S.length).length=0:=by
    refine Q9 fun z=>?_
    rw [Lw (by simp;omega)] at e;cases e
   rw [hz] at e
   have hm':m=S.length:=by omega
   subst hm'
   obtain rfl:ob=u:=by simpa using e
   exact ⟨n,e0,dR,.inr ⟨rfl,rfl⟩⟩
 have al:∀ {b},Al (ext μ' S.length (μ' n)) (S'.take S.length++[ob]) b→Al μ' S' b:=by
  rintro b ⟨m,u,e,d,rfl⟩
  obtain ⟨j,q,z,_⟩:=get m u e
  exact ⟨j,u,q,d,z.symm⟩
 have k:eA (vh μ' S' H') (vh (ext μ' S.length (μ' n)) (S'.take S.length++[ob]) H'):=fun b u q=>by
  obtain ⟨z,q⟩:=bo q
  exact cn q fun c=>z (al c)
 refine ⟨fun m hm=>(me (Kf hm)).trans (a.ag m hm),by rw [K5,lt];simp,⟨fun m u e=>?_,fun m m' u v e1 e2 d1 d2 q=>?_⟩,fun m e=>?_,fun m u l e d=>?_,a.ko,a.dm⟩
 ·obtain ⟨j,q,z,_⟩:=get m u e
  rw [z]
  exact (a.hr.ob j u q).mono (fun _=>rfl) k
 ·obtain ⟨j,q1,z1,w1⟩:=get m u e1
  obtain ⟨j',q2,z2,w2⟩:=get m' v e2
  rw [z1,z2] at q
  have:=a.hr.inj j j' u v q1 q2 d1 d2 q
  omega
 ·have hm:m < S.length:=(J5.mp e).1
  rw [Ky (by omega),NA,J2 hm]
  exact a.dd m e
 ·obtain ⟨j,q,z,w⟩:=get m u e
  rw [z]
  have hj:S.length≤j:=by omega
  exact a.nw j u hj q d
end
section
variable (K:JV) (mg:Str→Option Value)
def JO (K:JV) (a:Addr) (ws:List Str):Prop:=∃ l:List (Str×Tok),l.map (·.1)=ws∧∀ h:Heap,K.In h→h.IsTuple a (strValues l).toArray
def excAt (a C:Addr) (od:Option Addr) (h:Heap):Prop:=∃ o,h.get? a=some o∧o.cls=.ref C∧(∀ d,od=some d→o.dict=some d)∧∃ vs,o.data=.fields vs
def vQ (G:Hp) (a C:Addr) (xs:List (Str×D)):Prop:=∃ od,G a=some (.ext (excAt a C od))∧(xs≠[]→∃ (dx:Addr) (vs:List V),od=some dx∧vs.length=xs.length∧G dx=some (.xd ((xs.map (·.1)).zip vs))∧aE G vs (xs.map (·.2)))
theorem vQ.mono (k:eA G G') (h:vQ G a C xs):vQ G' a C xs:=by
 obtain ⟨od,e,h⟩:=h
 refine ⟨od,k _ _ e,fun n=>?_⟩
 obtain ⟨dx,vs,q1,q2,q3,q4⟩:=h n
 exact ⟨dx,vs,q1,q2,k _ _ q3,q4.mono k⟩
def bh (μ:Nat→Addr) (S:Sto) (H:Hp) (v:V):Vl→Prop
 | .d x=>Rep (vh μ S H) v x
 | .r n=>v=.ref (μ n)∧n < S.length
 | .fd kvs=>∃ (a:Addr) (vs:List V) (o:Obj),v=.ref a∧vs.length=kvs.length∧vh μ S H a=some (.frz o (.dK ((kvs.map (·.1)).zip vs)))∧aE (vh μ S H) vs (kvs.map (·.2))
 | .fn x=>∃ f:Addr,mg x=some (.ref f)∧v=.ref f
 | .sc ns=>∃ l:Addr,v=.ref l∧SqL K (vh μ S H) l (ns.map V.int)
 | .pr x n=>∃ (a:Addr) (u:V),v=.ref a∧vh μ S H a=some (.tup [u,.ref (μ n)])∧Rep (vh μ S H) u x∧n < S.length
 | .xc c xs=>∃ (a C:Addr),v=.ref a∧mg c=some (.ref C)∧vQ (vh μ S H) a C xs
 | .kt ws=>∃ a:Addr,v=.ref a∧JO K a ws
inductive bT (μ:Nat→Addr) (S:Sto) (H:Hp):List V→List Vl→Prop
 | nil:bT μ S H [] []
 | cons {v:V} {x:Vl} {vs:List V} {xs:List Vl}:bh K mg μ S H v x→bT μ S H vs xs→bT μ S H (v :: vs) (x :: xs)
structure cB (μ:Nat→Addr) (S:Sto) (H:Hp) (σ:St) (τ:Nv):Prop where
 len:σ.length=τ.length
 get:∀ (i:Nat) (x:Vl),τ[i]?=some (some x)→∃ v,σ[i]?=some (some v)∧bh K mg μ S H v x
end
section
variable {K:JV} {mg:Str→Option Value} {μ μ':Nat→Addr} {S S':Sto} {H H':Hp}
theorem SqL.mono (k:eA H H') (h:SqL K H l xs):SqL K H' l xs:=by
 rcases h with (h | ⟨o,h⟩) | h
 ·exact .inl (.inl (k _ _ h))
 ·exact .inl (.inr ⟨o,k _ _ h⟩)
 ·exact .inr h
theorem bh.step (a:Step μ S H μ' S' H') (h:bh K mg μ S H v x):bh K mg μ' S' H' v x:=by
 cases x with
 | d x=>exact Rep.mono a.vis h
 | r n=>obtain ⟨rfl,hn⟩:=h;exact ⟨by rw [a.ag n hn],Kt hn a.le⟩
 | fd kvs=>obtain ⟨p,vs,o,e,l,q,r⟩:=h;exact ⟨p,vs,o,e,l,a.vis _ _ q,r.mono a.vis⟩
 | pr x n=>obtain ⟨p,u,e,q,r,hn⟩:=h;exact ⟨p,u,e,by rw [a.ag n hn];exact a.vis _ _ q,Rep.mono a.vis r,Kt hn a.le⟩
 | fn x=>exact h
 | sc ns=>obtain ⟨l,e,q⟩:=h;exact ⟨l,e,q.mono a.vis⟩
 | xc c xs=>obtain ⟨p,C,e,m,q⟩:=h;exact ⟨p,C,e,m,q.mono a.vis⟩
 | kt ws=>exact h
theorem bT.step (a:Step μ S H μ' S' H'):∀ {vs:List V} {xs:List Vl},bT K mg μ S H vs xs→bT K mg μ' S' H' vs xs
 | _,_,.nil=>.nil
 | _,_,.cons r t=>.cons (r.step a) (bT.step a t)
theorem bT.length:∀ {vs:List V} {xs:List Vl},bT K mg μ S H vs xs→vs.length=xs.length
 | _,_,.nil=>rfl
 | _,_,.cons _ t=>by simp [bT.length t]
theorem bT.get:∀ {vs:List V} {xs:List Vl} {i:Nat} {x:Vl},bT K mg μ S H vs xs→xs[i]?=some x→∃ v,vs[i]?=some v∧bh K mg μ S H v x
 | _,_,_,_,.nil,e=>by simp at e
 | _,_,0,_,.cons r _,e=>by simp at e;subst e;exact ⟨_,rfl,r⟩
 | _,_,i+1,x,.cons _ t,e=>by
  obtain ⟨d,h1,h2⟩:=bT.get (i:=i) (x:=x) t (by simpa using e)
  exact ⟨d,by simpa using h1,h2⟩
theorem bT.um:∀ {vs:List V} {ds:List D},aE (vh μ S H) vs ds→bT K mg μ S H vs (ds.map Vl.d)
 | _,_,.nil=>.nil
 | _,_,.cons r t=>.cons (show bh K mg μ S H _ (.d _) from r) (bT.um t)
theorem cB.step (a:Step μ S H μ' S' H') (h:cB K mg μ S H σ τ):cB K mg μ' S' H' σ τ:=
 ⟨h.len,fun i x e=>by obtain ⟨v,e1,r⟩:=h.get i x e;exact ⟨v,e1,r.step a⟩⟩
theorem cB.set (i:Nat) (h:cB K mg μ S H σ τ) (r:bh K mg μ S H v x):cB K mg μ S H (σ.set i (some v)) (τ.set i (some x)):=by
 refine ⟨by rw [Mr,Mr];exact h.len,fun j y e=>?_⟩
 rw [OL] at e ⊢
 by_cases q:i=j
 ·subst q
  rw [J2 rfl] at e ⊢
  by_cases hl:i < τ.length
  ·rw [J2 hl] at e
   cases e
   exact ⟨v,by rw [J2 (by rw [h.len];exact hl)],r⟩
  ·rw [J9 hl] at e;cases e
 ·rw [J9 q] at e ⊢
  exact h.get j y e
theorem cB.pre (k:Nat) (h:cB K mg μ S H σ τ):cB K mg μ S H (Kb k none++σ) (Kb k none++τ):=by
 refine ⟨by simp [h.len],fun i x e=>?_⟩
 by_cases hi:i < k
 ·rw [Ky (by simpa using hi),LW,J2 hi] at e
  cases e
 ·rw [KH (by simpa using hi)] at e ⊢
  simpa using h.get (i - k) x (by simpa using e)
theorem cB.beg (h:bT K mg μ S H vs us):cB K mg μ S H (L2.start N vs) (us.map some++Kb (N.length - us.length) none):=by
 have l:=h.length
 refine ⟨by simp [L2.start,l],fun i x e=>?_⟩
 unfold L2.start
 by_cases hi:i < us.length
 ·rw [Ky (by simpa using hi),Kv] at e
  cases q:us[i]? with
  | none=>rw [q] at e;cases e
  | some y=>
   rw [q] at e
   cases e
   obtain ⟨v,e1,r⟩:=h.get q
   exact ⟨v,by rw [Ky (by simp;omega),Kv,e1];rfl,r⟩
 ·rw [KH (by simpa using hi),LW] at e
  split at e<;>cases e
end
abbrev WX:=Str→List (Str×D)→Sto→(Nat→Addr)→Hp→Prop
abbrev W0:WX:=fun _ _ _ _ _=>False
def bg {α β:Type} (Rl:(Nat→Addr)→Sto→Hp→β→α→Prop) (WE:WX) (μ:Nat→Addr) (S:Sto) (H:Hp) (res:R α) (Q:β→Hp→Prop):Prop:=match res with
 | .ok a S'=>∀ b μ' H',Step μ S H μ' S' H'→Rl μ' S' H' b a→Q b H'
 | .ex c xs S'=>∀ μ' H',Step μ S H μ' S' H'→WE c xs S' μ' H'
 | .bad=>False
section
variable {α β γ δ:Type} {Rl:(Nat→Addr)→Sto→Hp→β→α→Prop} {Rl2:(Nat→Addr)→Sto→Hp→δ→γ→Prop} {WE:WX} {μ μ1:Nat→Addr} {S S1:Sto} {H H1:Hp} {res:R α} {Q:β→Hp→Prop} {Q2:δ→Hp→Prop}
theorem bg.shift (h:bg Rl WE μ S H res Q) (a:Step μ S H μ1 S1 H1):bg Rl WE μ1 S1 H1 res Q:=by
 cases res with
 | ok x S'=>exact fun b μ' H' st r=>h b μ' H' (a.trans st) r
 | ex c xs S'=>exact fun μ' H' st=>h μ' H' (a.trans st)
 | bad=>exact h
theorem bg.bind (h:bg Rl2 WE μ S H (res.bind f) Q2) (k:∀ b a S1 μ1 H1,Step μ S H μ1 S1 H1→Rl μ1 S1 H1 b a→bg Rl2 WE μ1 S1 H1 (f a S1) Q2→Q b H1):bg Rl WE μ S H res Q:=by
 cases res with
 | ok x S'=>exact fun b μ' H' st r=>k b x S' μ' H' st r (bg.shift (show bg Rl2 WE μ S H (f x S') Q2 from h) st)
 | ex c xs S'=>exact h
 | bad=>exact h
theorem bg.here (hr:HR μ S H) (h:bg Rl WE μ S H (.ok a S) Q) (r:Rl μ S H b a):Q b H:=h b μ H (Step.refl hr) r
end
inductive FlV where
 | nx | bk | ct | rt (v:V)
def Ends.at (D:Ends) (p:FlV×St) (H:Hp):Prop:=match p.1 with
 | .nx=>D.nx p.2 H
 | .bk=>D.bk p.2 H
 | .ct=>D.ct p.2 H
 | .rt v=>D.rt v H
section
variable (K:JV) (mg:Str→Option Value)
def FlR (μ:Nat→Addr) (S:Sto) (H:Hp):FlV→Fl→Prop
 | .nx,.nx=>True
 | .bk,.bk=>True
 | .ct,.ct=>True
 | .rt v,.rt z=>bh K mg μ S H v z
 | _,_=>False
def RlS (μ:Nat→Addr) (S:Sto) (H:Hp) (p:FlV×St) (q:Fl×Nv):Prop:=cB K mg μ S H p.2 q.2∧FlR K mg μ S H p.1 q.1
abbrev RlQ {α:Type} (_:Nat→Addr) (_:Sto) (_:Hp) (b a:α):Prop:=b=a
structure jB (μ:Nat→Addr) (S:Sto) (H:Hp) (J:It) (I:Its):Prop where
 ok:I.ok S
 len:I.items.length≤sizeLine
 go:∀ i z μ' S' H',Step μ S H μ' S' H'→I.ok S'→I.items[i]?=some z→J.go i H'
 yld:∀ i z μ' S' H' x H2,Step μ S H μ' S' H'→I.ok S'→I.items[i]?=some z→J.yld i H' x H2→Step μ' S' H' μ' S' H2∧bh K mg μ' S' H2 x z
 stop:∀ i μ' S' H',Step μ S H μ' S' H'→I.ok S'→I.items.length=i→J.stop i H'
def trE (WE:WX) (m:XE):TE:=fun σ H Q=>∃ μ S τ,HR μ S H∧cB K mg μ S H σ τ∧bg (bh K mg) WE μ S H (m τ S) Q
def trT (WE:WX) (m:XT):TT:=fun σ H Q=>∃ μ S τ,HR μ S H∧cB K mg μ S H σ τ∧bg RlQ WE μ S H (m τ S) Q
def trA (WE:WX) (m:XA):TA:=fun σ H Q=>∃ μ S τ,HR μ S H∧cB K mg μ S H σ τ∧bg (bT K mg) WE μ S H (m τ S) Q
def trO (WE:WX) (m:XO):TO:=fun σ H Q=>∃ μ S τ,HR μ S H∧cB K mg μ S H σ τ∧bg RlQ WE μ S H (m τ S) Q
def trS (WE:WX) (m:XS):TS:=fun D σ H=>∃ μ S τ,HR μ S H∧cB K mg μ S H σ τ∧bg (RlS K mg) WE μ S H (m τ S) D.at
def trG (WE:WX) (g:XG):TG:=fun v σ H Q=>∃ μ S τ z,HR μ S H∧cB K mg μ S H σ τ∧bh K mg μ S H v z∧bg (cB K mg) WE μ S H (g z τ S) Q
def JJ (WE:WX) (g:XGs):TGs:=fun vs σ H Q=>∃ μ S τ zs,HR μ S H∧cB K mg μ S H σ τ∧bT K mg μ S H vs zs∧bg (cB K mg) WE μ S H (g zs τ S) Q
def trI (WE:WX) (it:XI):TI:=fun σ H Rr=>∃ μ S τ,HR μ S H∧cB K mg μ S H σ τ∧bg (jB K mg) WE μ S H (it τ S) Rr
end
structure RE (X:Cx) (WE:WX) (e:Ke) (m:XE):Prop where
 h:PE X e (trE X.K X.mg WE m)
structure RT (X:Cx) (WE:WX) (e:Ke) (m:XT):Prop where
 h:PT X e (trT X.K X.mg WE m)
structure RW (X:Cx) (WE:WX) (e:Ke) (m:XT):Prop where
 h:PW X e (trT X.K X.mg WE m)
structure RA (X:Cx) (WE:WX) (es:List Ke) (m:XA):Prop where
 h:PA X es (trA X.K X.mg WE m)
structure RO (X:Cx) (WE:WX) (e:Option Ke) (m:XO):Prop where
 h:PO X e (trO X.K X.mg WE m)
structure RS (X:Cx) (WE:WX) (s:Stmt) (m:XS):Prop where
 h:PS X s (trS X.K X.mg WE m)
structure RB (X:Cx) (WE:WX) (s:List Stmt) (m:XS):Prop where
 h:PSs X s (trS X.K X.mg WE m)
structure RG (X:Cx) (WE:WX) (t:Ke) (g:XG):Prop where
 h:PG X t (trG X.K X.mg WE g)
structure RGs (X:Cx) (WE:WX) (ts:List Ke) (g:XGs):Prop where
 h:PGs X ts (JJ X.K X.mg WE g)
structure RI (X:Cx) (WE:WX) (tg iter:Ke) (it:XI):Prop where
 h:PI X tg iter (trI X.K X.mg WE it)
structure RTs (X:Cx) (WE:WX) (ifs:List Ke) (m:XT):Prop where
 h:PTs X ifs (trT X.K X.mg WE m)
section
variable {X:Cx}
theorem PE.weak (h:PE X e t) (k:∀ σ H Q,t' σ H Q→t σ H Q):PE X e t':=fun pins s σ H Q I q=>h pins s σ H Q I (k σ H Q q)
theorem PT.weak (h:PT X e t) (k:∀ σ H Q,t' σ H Q→t σ H Q):PT X e t':=fun pins s σ H Q I q=>h pins s σ H Q I (k σ H Q q)
theorem PW.weak (h:PW X e t) (k:∀ σ H Q,t' σ H Q→t σ H Q):PW X e t':=fun wh pins s σ H Q I q=>h wh pins s σ H Q I (k σ H Q q)
theorem PA.weak (h:PA X e t) (k:∀ σ H Q,t' σ H Q→t σ H Q):PA X e t':=fun po pins s σ H Q I q=>h po pins s σ H Q I (k σ H Q q)
theorem PS.weak (h:PS X e t) (k:∀ D σ H,t' D σ H→t D σ H):PS X e t':=fun pins s σ H D I q=>h pins s σ H D I (k D σ H q)
theorem PSs.weak (h:PSs X e t) (k:∀ D σ H,t' D σ H→t D σ H):PSs X e t':=fun pins s σ H D I q=>h pins s σ H D I (k D σ H q)
theorem PG.weak (h:PG X e t) (k:∀ v σ H Q,t' v σ H Q→t v σ H Q):PG X e t':=fun pins s σ H v u Q I r q=>h pins s σ H v u Q I r (k v σ H Q q)
theorem PGs.weak (h:PGs X e t) (k:∀ v σ H Q,t' v σ H Q→t v σ H Q):PGs X e t':=fun pins s σ H v u Q I r q=>h pins s σ H v u Q I r (k v σ H Q q)
theorem PI.weak (h:PI X tg e t) (k:∀ σ H Q,t' σ H Q→t σ H Q):PI X tg e t':=fun pins s σ H Q I q=>h pins s σ H Q I (k σ H Q q)
end
def cF (K:JV) (mg:Str→Option Value) (r:R2) (f:Vl→Vl→Sto→R Vl):Prop:=∀ (WE:WX) (μ:Nat→Addr) (S:Sto) (H:Hp) (v w:V) (x y:Vl) (Q:VK),HR μ S H→bh K mg μ S H v x→bh K mg μ S H w y→bg (bh K mg) WE μ S H (f x y S) Q→r v w H Q
def Fb (K:JV) (mg:Str→Option Value) (r:V→Hp→VK→Prop) (f:Vl→Sto→R Vl):Prop:=∀ (WE:WX) (μ:Nat→Addr) (S:Sto) (H:Hp) (v:V) (x:Vl) (Q:VK),HR μ S H→bh K mg μ S H v x→bg (bh K mg) WE μ S H (f x S) Q→r v H Q
def gp (K:JV) (mg:Str→Option Value) (r:List V→Hp→VK→Prop) (f:List Vl→Sto→R Vl):Prop:=∀ (WE:WX) (μ:Nat→Addr) (S:Sto) (H:Hp) (vs:List V) (xs:List Vl) (Q:VK),HR μ S H→bT K mg μ S H vs xs→bg (bh K mg) WE μ S H (f xs S) Q→r vs H Q
def ae (i:Nat):XE:=fun τ S=>match τ[i]? with
 | some (some v)=>.ok v S
 | _=>.bad
def xC (d:D):XE:=fun _ S=>.ok (.d d) S
def xFn (x:Str):XE:=fun _ S=>.ok (.fn x) S
def xOp (f:Vl→Vl→Sto→R Vl) (a b:XE):XE:=fun τ S=>(a τ S).bind fun x S1=>(b τ S1).bind fun y S2=>f x y S2
def xUn (f:Vl→Sto→R Vl) (a:XE):XE:=fun τ S=>(a τ S).bind fun x S1=>f x S1
def eJ (f f':Vl→Vl→Sto→R Vl) (a b c:XE):XE:=fun τ S=>(a τ S).bind fun x S1=>(b τ S1).bind fun y S2=>(f x y S2).bind fun z S3=>match z with
 | .d (.bl k)=>if k=true then (c τ S3).bind fun w S4=>f' y w S4 else .ok (.d (.bl false)) S3
 | _=>.bad
def asB (z:Vl) (S:Sto):R Bool:=match z with
 | .d (.bl b)=>.ok b S
 | _=>.bad
def aF (a:XE):XT:=fun τ S=>(a τ S).bind asB
def tru (z:Vl) (S:Sto):R Bool:=match z with
 | .d .non=>.ok false S
 | .d (.bl b)=>.ok b S
 | .d (.int i)=>.ok (i != 0) S
 | .d (.tup xs)=>.ok (!xs.isEmpty) S
 | .d (.lst xs)=>.ok (!xs.isEmpty) S
 | .r n=>match S[n]? with
  | some (.lst xs)=>.ok (!xs.isEmpty) S
  | some (.dct kvs)=>.ok (!kvs.isEmpty) S
  | _=>.bad
 | _=>.bad
def bx (a:XE):XT:=fun τ S=>(a τ S).bind tru
def l9 (a b:XT):XT:=fun τ S=>(a τ S).bind fun c S1=>if c=true then b τ S1 else .ok false S1
def xOr (a b:XT):XT:=fun τ S=>(a τ S).bind fun c S1=>if c=true then .ok true S1 else b τ S1
def bH (a:XT):XT:=fun τ S=>(a τ S).bind fun c S1=>.ok (!c) S1
def bB (a b:XE):XE:=fun τ S=>(a τ S).bind fun x S1=>(asB x S1).bind fun c S2=>if c=true then b τ S2 else .ok (.d (.bl false)) S2
def wu (a b:XE):XE:=fun τ S=>(a τ S).bind fun x S1=>(asB x S1).bind fun c S2=>if c=true then .ok (.d (.bl true)) S2 else b τ S2
def ow (a:XE):XE:=fun τ S=>(a τ S).bind fun x S1=>(asB x S1).bind fun c S2=>.ok (.d (.bl (!c))) S2
def wc (c:XT) (a b:XE):XE:=fun τ S=>(c τ S).bind fun k S1=>if k=true then a τ S1 else b τ S1
def aj:XA:=fun _ S=>.ok [] S
def aa (a:XE) (r:XA):XA:=fun τ S=>(a τ S).bind fun x S1=>(r τ S1).bind fun xs S2=>.ok (x :: xs) S2
def jd:List Vl→Option (List D)
 | []=>some []
 | .d x :: r=>(jd r).map (x :: ·)
 | _=>none
def mkT (xs:List Vl) (S:Sto):R Vl:=match jd xs with
 | some ds=>if ds.length≤100000 then .ok (.d (.tup ds)) S else .bad
 | none=>.bad
def mkL (xs:List Vl) (S:Sto):R Vl:=match jd xs with
 | some ds=>if ds.length≤100000 then .ok (.d (.lst ds)) S else .bad
 | none=>.bad
def mkM (xs:List Vl) (S:Sto):R Vl:=match jd xs with
 | some ds=>if ds.length≤100000 then .ok (.r S.length) (S++[.lst ds]) else .bad
 | none=>.bad
def xN (f:List Vl→Sto→R Vl) (as:XA):XE:=fun τ S=>(as τ S).bind f
def frz (z:Vl) (S:Sto):R Vl:=match z with
 | .r n=>match S[n]? with
  | some (.lst xs)=>.ok (.d (.lst xs)) (S.set n .dead)
  | some (.dct kvs)=>.ok (.fd kvs) (S.set n .dead)
  | _=>.bad
 | z=>.ok z S
def xFz (a:XE):XE:=fun τ S=>(a τ S).bind frz
def cI:XO:=fun _ S=>.ok none S
def dr (a:XE):XO:=fun τ S=>(a τ S).bind fun x S1=>match x with
 | .d (.int i)=>.ok (some i) S1
 | _=>.bad
def xSl (f:Vl→Option Int→Option Int→Sto→R Vl) (a:XE) (l h:XO):XE:=fun τ S=>(a τ S).bind fun x S1=>(l τ S1).bind fun i S2=>(h τ S2).bind fun j S3=>f x i j S3
section
variable {X:Cx} {WE:WX} {a b c e:Ke} {xa xb xc xe:XE} {pos:Pos} {es:List Ke} {t u:XT}
theorem rv (i:Nat) (hN:X.N[i]?=some x:=by rfl) (hv:Vis X.env.scope x:=by first | exact Qu rfl | exact Qv (Qu rfl) | exact Qv (Qv rfl)) (hd:(x == ("__debug__":Str))=false:=by decide)
  (hcd:(x == ("__classdict__":Str))=false:=by decide):RE X WE (.Name x pos) (ae i):=⟨(wV hN hv hd hcd).weak fun σ H Q ⟨μ,S,τ,hr,sr,p⟩=>by
 unfold ae at p
 split at p
 ·obtain ⟨v,e1,r⟩:=sr.get _ _ ‹_›
  exact ⟨v,e1,p.here hr r⟩
 ·exact p.elim⟩
theorem ah {i j}:RE X WE (.Constant (.int i) j pos) (xC (.int i)):=⟨Eg.weak fun _ _ _ ⟨_,_,_,hr,_,p⟩=>p.here hr (Rep.int i)⟩
theorem bP {i j}:RE X WE (.Constant (.bool i) j pos) (xC (.bl i)):=⟨GA.weak fun _ _ _ ⟨_,_,_,hr,_,p⟩=>p.here hr (Rep.bl i)⟩
theorem jI {j}:RE X WE (.Constant .none j pos) (xC .non):=⟨EH.weak fun _ _ _ ⟨_,_,_,hr,_,p⟩=>p.here hr Rep.non⟩
theorem aZ {x j}:RE X WE (.Constant (.str x) j pos) (xC (.str x)):=⟨FI.weak fun _ _ _ ⟨_,_,_,hr,_,p⟩=>p.here hr (Rep.str x)⟩
theorem two (hf:cF X.K X.mg r f) (h:trE X.K X.mg WE (xOp f xa xb) σ H Q):tOp r (trE X.K X.mg WE xa) (trE X.K X.mg WE xb) σ H Q:=by
 obtain ⟨μ,S,τ,hr,sr,p⟩:=h
 refine ⟨μ,S,τ,hr,sr,p.bind fun v x S1 μ1 H1 st1 r1 p1=>?_⟩
 refine ⟨μ1,S1,τ,st1.hr,sr.step st1,p1.bind fun w y S2 μ2 H2 st2 r2 p2=>?_⟩
 exact hf WE μ2 S2 H2 v w x y Q st2.hr (r1.step st2) r2 p2
theorem aJ (ho:OpR X (Mp op) r) (hf:cF X.K X.mg r f) (ha:RE X WE a xa) (hb:RE X WE b xb):RE X WE (.BinOp a op b pos) (xOp f xa xb):=
 ⟨(IL ho ha.h hb.h).weak fun _ _ _ h=>two hf h⟩
theorem dA (ho:UnR X (unaryOp op) r) (hf:Fb X.K X.mg r f) (ha:RE X WE a xa):RE X WE (.UnaryOp op a pos) (xUn f xa):=
 ⟨(Hm ho ha.h).weak fun σ H Q ⟨μ,S,τ,hr,sr,p⟩=>⟨μ,S,τ,hr,sr,p.bind fun v x S1 μ1 H1 st1 r1 p1=>hf WE μ1 S1 H1 v x Q st1.hr r1 p1⟩⟩
theorem bL (ho:OpR X (Ku op) r) (hf:cF X.K X.mg r f) (ha:RE X WE a xa) (hb:RE X WE b xb) (hm:N1 op b=false:=by first | exact wK _ | with_unfolding_all rfl):RE X WE (.Compare a [op] [b] pos) (xOp f xa xb):=
 ⟨(BL ho ha.h hb.h hm).weak fun _ _ _ h=>two hf h⟩
theorem pB (h:trT X.K X.mg WE (aF xa) σ H Q):trE X.K X.mg WE xa σ H fun v H'=>∃ k,v=.bl k∧Q k H':=by
 obtain ⟨μ,S,τ,hr,sr,p⟩:=h
 refine ⟨μ,S,τ,hr,sr,p.bind fun v x S1 μ1 H1 st1 r1 p1=>?_⟩
 unfold asB at p1
 split at p1
 ·cases (show Rep (vh μ1 S1 H1) v (.bl _) from r1)
  exact ⟨_,rfl,p1.here st1.hr rfl⟩
 ·exact p1.elim
theorem aK (ho:OpR X (Ku op) r) (hf:cF X.K X.mg r f) (ha:RE X WE a xa) (hb:RE X WE b xb) (hm:N1 op b=false:=by first | exact wK _ | with_unfolding_all rfl):RT X WE (.Compare a [op] [b] pos) (aF (xOp f xa xb)):=
 ⟨(BZ ho ha.h hb.h hm).weak fun _ _ _ h=>two hf (pB h)⟩
theorem rT (hf:cF X.K X.mg r f) (hf':cF X.K X.mg r' f') (h:trE X.K X.mg WE (eJ f f' xa xb xc) σ H Q):sv r r' (trE X.K X.mg WE xa) (trE X.K X.mg WE xb) (trE X.K X.mg WE xc) σ H Q:=by
 obtain ⟨μ,S,τ,hr,sr,p⟩:=h
 refine ⟨μ,S,τ,hr,sr,p.bind fun v x S1 μ1 H1 st1 r1 p1=>?_⟩
 refine ⟨μ1,S1,τ,st1.hr,sr.step st1,p1.bind fun w y S2 μ2 H2 st2 r2 p2=>?_⟩
 refine hf WE μ2 S2 H2 v w x y _ st2.hr (r1.step st2) r2 (p2.bind fun z zz S3 μ3 H3 st3 r3 p3=>?_)
 try dsimp only at p3
 split at p3
 ·cases (show Rep (vh μ3 S3 H3) z (.bl _) from r3)
  refine ⟨_,rfl,?_⟩
  split at p3
  ·rename_i k hk
   rw [J2 hk]
   refine ⟨μ3,S3,τ,st3.hr,sr.step (st1.trans (st2.trans st3)),p3.bind fun q qq S4 μ4 H4 st4 r4 p4=>?_⟩
   exact hf' WE μ4 S4 H4 w q y qq Q st4.hr (r2.step (st3.trans st4)) r4 p4
  ·rename_i k hk
   rw [J9 hk]
   exact p3.here st3.hr (Rep.bl false)
 ·exact p3.elim
theorem nQ (ho:OpR X (Ku op) r) (hf:cF X.K X.mg r f) (ho':OpR X (Ku op') r') (hf':cF X.K X.mg r' f') (ha:RE X WE a xa) (hb:RE X WE b xb) (hc:RE X WE c xc)
  (hm:Pw [op,op'] [b,c]=false:=by with_unfolding_all rfl):RE X WE (.Compare a [op,op'] [b,c] pos) (eJ f f' xa xb xc):=⟨(AK ho ho' ha.h hb.h hc.h hm).weak fun _ _ _ h=>rT hf hf' h⟩
theorem sO (ho:OpR X (Ku op) r) (hf:cF X.K X.mg r f) (ho':OpR X (Ku op') r') (hf':cF X.K X.mg r' f') (ha:RE X WE a xa) (hb:RE X WE b xb) (hc:RE X WE c xc)
  (hm:Pw [op,op'] [b,c]=false:=by with_unfolding_all rfl):RT X WE (.Compare a [op,op'] [b,c] pos) (aF (eJ f f' xa xb xc)):=⟨(AJ ho ho' ha.h hb.h hc.h hm).weak fun _ _ _ h=>rT hf hf' (pB h)⟩
theorem isE {α β:Type} {xs:List α} {ys:List β} (h:xs.length=ys.length):(!xs.isEmpty)=!ys.isEmpty:=by
  cases xs<;>cases ys<;>first | rfl | simp at h
theorem FG {K:JV} {mg:Str→Option Value} {WE:WX} {μ:Nat→Addr} {S:Sto} {H:Hp} {v:V} {x:Vl} {Q:Bool→Hp→Prop} (hr:HR μ S H) (r:bh K mg μ S H v x) (p:bg RlQ WE μ S H (tru x S) Q):∃ k,zX K v H k∧Q k H:=by
 unfold tru at p
 split at p
 ·cases (show Rep (vh μ S H) v .non from r);exact ⟨false,rfl,p.here hr rfl⟩
 ·cases (show Rep (vh μ S H) v (.bl _) from r);exact ⟨_,rfl,p.here hr rfl⟩
 ·cases (show Rep (vh μ S H) v (.int _) from r);exact ⟨_,rfl,p.here hr rfl⟩
 ·cases (show Rep (vh μ S H) v (.tup _) from r) with
  | tup h rs=>exact ⟨_,.inr (.inl ⟨_,SqT.of (bo h).2,rfl⟩),by rw [isE rs.length];exact p.here hr rfl⟩
 ·cases (show Rep (vh μ S H) v (.lst _) from r) with
  | lst h rs=>exact ⟨_,.inl ⟨_,SqL.of (bo h).2,rfl⟩,by rw [isE rs.length];exact p.here hr rfl⟩
 ·obtain ⟨rfl,hn⟩:=r
  split at p
  ·rename_i xs e
   obtain ⟨vs,h,rs⟩:=hr.ob _ _ e
   exact ⟨_,.inl ⟨_,SqL.of h,rfl⟩,by rw [isE rs.length];exact p.here hr rfl⟩
  ·rename_i kvs e
   obtain ⟨vs,l,h,rs⟩:=hr.ob _ _ e
   exact ⟨_,.inr (.inr ⟨_,h,rfl⟩),by rw [isE (ys:=kvs) (by simp [l])];exact p.here hr rfl⟩
  ·exact p.elim
 ·exact p.elim
theorem bp (ha:RE X WE a xa) (he:∀ whole,Sg a X.env whole=(do let v ← whole;SQ a.pos;N3 [v] (truthy v)):=by intro _;rfl):RT X WE a (bx xa):=
 ⟨(Au ha.h he).weak fun σ H Q ⟨μ,S,τ,hr,sr,p⟩=>⟨μ,S,τ,hr,sr,p.bind fun v x S1 μ1 H1 st1 r1 p1=>FG st1.hr r1 p1⟩⟩
theorem B3 (ha:RT X WE a t):RW X WE (.BoolOp .And [a] pos) t:=⟨Dh ha.h⟩
theorem cg (ha:RT X WE a t):RW X WE (.BoolOp .Or [a] pos) t:=⟨FD ha.h⟩
theorem sU (ha:RT X WE a t) (hb:RW X WE (.BoolOp .And (b :: es) pos) u):RW X WE (.BoolOp .And (a :: b :: es) pos) (l9 t u):=
 ⟨(Dr ha.h hb.h).weak fun σ H Q ⟨μ,S,τ,hr,sr,p⟩=>⟨μ,S,τ,hr,sr,p.bind fun k k' S1 μ1 H1 st1 r1 p1=>by
  cases (show k=k' from r1)
  try dsimp only at p1
  split at p1
  ·rename_i hk;rw [J2 hk];exact ⟨μ1,S1,τ,st1.hr,sr.step st1,p1⟩
  ·rename_i hk;rw [J9 hk];exact p1.here st1.hr rfl⟩⟩
theorem bW (ha:RT X WE a t) (hb:RW X WE (.BoolOp .Or (b :: es) pos) u):RW X WE (.BoolOp .Or (a :: b :: es) pos) (xOr t u):=
 ⟨(IU ha.h hb.h).weak fun σ H Q ⟨μ,S,τ,hr,sr,p⟩=>⟨μ,S,τ,hr,sr,p.bind fun k k' S1 μ1 H1 st1 r1 p1=>by
  cases (show k=k' from r1)
  try dsimp only at p1
  split at p1
  ·rename_i hk;rw [J2 hk];exact p1.here st1.hr rfl
  ·rename_i hk;rw [J9 hk];exact ⟨μ1,S1,τ,st1.hr,sr.step st1,p1⟩⟩⟩
theorem RW.rt (h:RW X WE a t):RT X WE a t:=⟨h.h.pt⟩
theorem bC (ha:RT X WE a t):RT X WE (.UnaryOp .Not a pos) (bH t):=
 ⟨(EE ha.h).weak fun σ H Q ⟨μ,S,τ,hr,sr,p⟩=>⟨μ,S,τ,hr,sr,p.bind fun k k' S1 μ1 H1 st1 r1 p1=>by
  cases (show k=k' from r1)
  exact p1.here st1.hr rfl⟩⟩
theorem sS {K:JV} {mg:Str→Option Value} {α β:Type} {Rl:(Nat→Addr)→Sto→Hp→β→α→Prop} {μ:Nat→Addr} {S:Sto} {H:Hp} {v:V} {x:Vl} {Q:β→Hp→Prop} {f:Bool→Sto→R α} (r:bh K mg μ S H v x) (p:bg Rl WE μ S H ((asB x S).bind f) Q):∃ k,v=.bl k∧bg Rl WE μ S H (f k S) Q:=by
 unfold asB at p
 split at p
 ·cases (show Rep (vh μ S H) v (.bl _) from r)
  exact ⟨_,rfl,p⟩
 ·exact p.elim
theorem bM {op} (ha:RE X WE a xa):RE X WE (.BoolOp op [a] pos) xa:=⟨FY ha.h⟩
theorem bu (ha:RE X WE a xa) (hb:RE X WE (.BoolOp .And (b :: es) pos) xb):RE X WE (.BoolOp .And (a :: b :: es) pos) (bB xa xb):=
 ⟨(ED ha.h hb.h).weak fun σ H Q ⟨μ,S,τ,hr,sr,p⟩=>⟨μ,S,τ,hr,sr,p.bind fun v x S1 μ1 H1 st1 r1 p1=>by
  obtain ⟨k,rfl,p1⟩:=sS r1 p1
  refine ⟨k,rfl,?_⟩
  split at p1
  ·rename_i hk;rw [J2 hk];exact ⟨μ1,S1,τ,st1.hr,sr.step st1,p1⟩
  ·rename_i hk;rw [J9 hk];exact p1.here st1.hr (Rep.bl false)⟩⟩
theorem HI (ha:RE X WE a xa) (hb:RE X WE (.BoolOp .Or (b :: es) pos) xb):RE X WE (.BoolOp .Or (a :: b :: es) pos) (wu xa xb):=
 ⟨(IH ha.h hb.h).weak fun σ H Q ⟨μ,S,τ,hr,sr,p⟩=>⟨μ,S,τ,hr,sr,p.bind fun v x S1 μ1 H1 st1 r1 p1=>by
  obtain ⟨k,rfl,p1⟩:=sS r1 p1
  refine ⟨k,rfl,?_⟩
  split at p1
  ·rename_i hk;rw [J2 hk];exact p1.here st1.hr (Rep.bl true)
  ·rename_i hk;rw [J9 hk];exact ⟨μ1,S1,τ,st1.hr,sr.step st1,p1⟩⟩⟩
theorem yl (ha:RE X WE a xa):RE X WE (.UnaryOp .Not a pos) (ow xa):=
 ⟨(FT ha.h).weak fun σ H Q ⟨μ,S,τ,hr,sr,p⟩=>⟨μ,S,τ,hr,sr,p.bind fun v x S1 μ1 H1 st1 r1 p1=>by
  obtain ⟨k,rfl,p1⟩:=sS r1 p1
  exact ⟨k,rfl,p1.here st1.hr (Rep.bl _)⟩⟩⟩
theorem yq (hc:RT X WE c t) (ha:RE X WE a xa) (hb:RE X WE b xb):RE X WE (.IfExp c a b pos) (wc t xa xb):=
 ⟨(AG hc.h ha.h hb.h).weak fun σ H Q ⟨μ,S,τ,hr,sr,p⟩=>⟨μ,S,τ,hr,sr,p.bind fun k k' S1 μ1 H1 st1 r1 p1=>by
  cases (show k=k' from r1)
  try dsimp only at p1
  split at p1
  ·rename_i hk;rw [J2 hk];exact ⟨μ1,S1,τ,st1.hr,sr.step st1,p1⟩
  ·rename_i hk;rw [J9 hk];exact ⟨μ1,S1,τ,st1.hr,sr.step st1,p1⟩⟩⟩
theorem ai:RA X WE [] aj:=⟨fY.weak fun σ H Q ⟨μ,S,τ,hr,sr,p⟩=>p.here hr .nil⟩
theorem af [n:NS e] (ha:RE X WE e xe) (hr:RA X WE es ts):RA X WE (e :: es) (aa xe ts):=
 ⟨(di ha.h hr.h (n.eq es X.env)).weak fun σ H Q ⟨μ,S,τ,hr,sr,p⟩=>⟨μ,S,τ,hr,sr,p.bind fun v x S1 μ1 H1 st1 r1 p1=>⟨μ1,S1,τ,st1.hr,sr.step st1,p1.bind fun vs xs S2 μ2 H2 st2 r2 p2=>
  p2.here st2.hr (.cons (r1.step st2) r2)⟩⟩⟩
theorem ik {K:JV} {mg:Str→Option Value} {μ:Nat→Addr} {S:Sto} {H:Hp}:∀ {vs:List V} {xs:List Vl} {ds:List D},bT K mg μ S H vs xs→jd xs=some ds→aE (vh μ S H) vs ds
 | _,_,_,.nil,e=>by simp [jd] at e;subst e;exact .nil
 | _,_,ds,@bT.cons _ _ _ _ _ v x vs xs r t,e=>by
  cases x with
  | d x=>
   simp only [jd,LG] at e
   obtain ⟨es,e1,rfl⟩:=e
   exact .cons r (ik t e1)
  | _=>simp [jd] at e
theorem nr (h:n≤100000):n≤sizeLine:=by rw [N4];omega
theorem bg.pk {K:JV} {mg:Str→Option Value} {μ:Nat→Addr} {S:Sto} {H:Hp} {Q:VK} {vs:List V} {ds:List D} (hr:HR μ S H) (rs:aE (vh μ S H) vs ds) (p:bg (bh K mg) WE μ S H (.ok (.d (.tup ds)) S) Q) (q:Addr) (hq:H q=none):Q (.ref q) (upd H q (.tup vs)):=by
 have st:=Step.new hr hq (.tup vs)
 exact p _ μ _ st (Rep.tup (cn b9 (hr.nal hq)) (rs.mono st.vis))
theorem cz {ts:XA} {k:Nat} (h:RA X WE es ts):RE X WE (.Tuple es k pos) (xN mkT ts):=
 ⟨(Es h.h).weak fun σ H Q ⟨μ,S,τ,hr,sr,p⟩=>⟨μ,S,τ,hr,sr,p.bind fun vs xs S1 μ1 H1 st1 r1 p1=>by
  unfold mkT at p1
  split at p1
  ·rename_i ds e
   split at p1
   ·have rs:=ik r1 e
    refine ⟨nr (by rw [rs.length];assumption),fun q hq=>p1.pk st1.hr rs q hq⟩
   ·exact p1.elim
  ·exact p1.elim⟩⟩
end
section
variable {X:Cx} {WE:WX} {a b c e:Ke} {xa xb xc xe:XE} {pos:Pos} {es:List Ke} {t u:XT} {K:JV} {mg:Str→Option Value} {μ:Nat→Addr} {S:Sto} {H:Hp} {Q:VK} {vs:List V} {ds:List D}
theorem bg.lY (hr:HR μ S H) (rs:aE (vh μ S H) vs ds) (p:bg (bh K mg) WE μ S H (.ok (.d (.lst ds)) S) Q) (q:Addr) (hq:H q=none):Q (.ref q) (upd H q (.lst vs)):=by
 have st:=Step.new hr hq (.lst vs)
 exact p _ μ _ st (Rep.lst (cn b9 (hr.nal hq)) (rs.mono st.vis))
theorem bg.AL (hr:HR μ S H) (rs:aE (vh μ S H) vs ds) (p:bg (bh K mg) WE μ S H (.ok (.r S.length) (S++[.lst ds])) Q) (q:Addr) (hq:H q=none):Q (.ref q) (upd H q (.lst vs)):=
 p _ _ _ (Step.alloc hr hq (ob:=.lst ds) ⟨vs,rfl,rs⟩) ⟨by rw [dR],by simp⟩
theorem br {ts:XA} (h:RA X WE es ts):RE X WE (.List es pos) (xN mkL ts):=
 ⟨(xY h.h).weak fun σ H Q ⟨μ,S,τ,hr,sr,p⟩=>⟨μ,S,τ,hr,sr,p.bind fun vs xs S1 μ1 H1 st1 r1 p1=>by
  unfold mkL at p1
  split at p1
  ·rename_i ds e
   split at p1
   ·have rs:=ik r1 e
    refine ⟨nr (by rw [rs.length];assumption),fun q hq=>p1.lY st1.hr rs q hq⟩
   ·exact p1.elim
  ·exact p1.elim⟩⟩
theorem iA {ts:XA} (h:RA X WE es ts):RE X WE (.List es pos) (xN mkM ts):=
 ⟨(xY h.h).weak fun σ H Q ⟨μ,S,τ,hr,sr,p⟩=>⟨μ,S,τ,hr,sr,p.bind fun vs xs S1 μ1 H1 st1 r1 p1=>by
  unfold mkM at p1
  split at p1
  ·rename_i ds e
   split at p1
   ·have rs:=ik r1 e
    refine ⟨nr (by rw [rs.length];assumption),fun q hq=>p1.AL st1.hr rs q hq⟩
   ·exact p1.elim
  ·exact p1.elim⟩⟩
theorem Bk (ha:RE X WE a xa):RE X WE a (xFz xa):=
 ⟨fun pins s σ H Q I ⟨μ,S,τ,hr,sr,p⟩=>by
  refine thn (ha.h pins s σ H (fun v H1=>∃ μ1 S1 x,HR μ1 S1 H1∧bh X.K X.mg μ1 S1 H1 v x∧bg (bh X.K X.mg) WE μ1 S1 H1 (frz x S1) Q) I ⟨μ,S,τ,hr,sr,p.bind fun v x S1 μ1 H1 st1 r1 p1=>⟨μ1,S1,x,st1.hr,r1,p1⟩⟩) fun u s1 ⟨v,H1,I1,ru,μ1,S1,x,hr1,r1,p1⟩=>?_
  unfold frz at p1
  split at p1
  ·obtain ⟨rfl,hn⟩:=r1
   split at p1
   ·rename_i n xs e
    obtain ⟨vs,h,rs⟩:=hr1.ob _ _ e
    obtain ⟨st2,na⟩:=Step.freeze hr1 e (by simp)
    exact ⟨_,H1,I1,ru,p1 _ _ _ st2 (Rep.lst (cn h na) (rs.mono st2.vis))⟩
   ·rename_i n _ kvs e
    obtain ⟨vs,l,h,rs⟩:=hr1.ob _ _ e
    have ok:b_ X.prog X.w H1 s1.heap (μ1 n) (.dK ((kvs.map (·.1)).zip vs)):=I1.hok _ _ h
    obtain ⟨z1,z2,ws,rel,o,es,ep,ho,r⟩:=ok
    obtain ⟨st2,na⟩:=Step.AM hr1 (.frz o (.dK ((kvs.map (·.1)).zip vs))) e (by simp)
    exact ⟨_,_,I1.write (o:=.frz o (.dK ((kvs.map (·.1)).zip vs))) (h':=s1.heap) (x:=μ1 n) (e:=μ1 n) (t':=s1.toks) (by rw [h];exact Kp) (.inl rfl) (fun b q _ hq=>hq) ⟨o,ho⟩ (show _∧_ from ⟨ho,z1,z2,ws,rel,o,es,ep,ho,r⟩),ru,p1 _ _ _ st2 ⟨_,vs,o,rfl,l,cn b9 na,rs.mono st2.vis⟩⟩
   ·exact p1.elim
  ·exact ⟨_,H1,I1,ru,p1.here hr1 r1⟩⟩
theorem az {x:Str} {p:Pos} {id:String} {r:List V→Hp→VK→Prop} {f:List Vl→Sto→R Vl} {ts:XA} [n:NS e] (hc:cc X (.builtin id) r) (hf:gp X.K X.mg r f) (hm:X.mg x=none) (hv:Kj x=some (.builtin id)) (ha:RA X WE (e :: es) ts) (hg:Gl X x:=by exact rfl) (hn:x≠"__name__":=by decide) (hdb:(x == ("__debug__":Str))=false:=by decide)
  (hpl:(Ly pos (J7 es X.env)).any (·.1)=false:=by rfl):RE X WE (.Call (.Name x p) (e :: es) [] pos) (xN f ts):=
 ⟨(Ar hc hg hm hv ha.h hn hdb (n.eq es X.env) hpl).weak fun σ H Q ⟨μ,S,τ,hr,sr,p⟩=>⟨μ,S,τ,hr,sr,p.bind fun vs xs S1 μ1 H1 st1 r1 p1=>hf WE μ1 S1 H1 vs xs Q st1.hr r1 p1⟩⟩
theorem bZ {x:Str} {p:Pos} {T:String} {r:List V→Hp→VK→Prop} {f:List Vl→Sto→R Vl} {ts:XA} [n:NS e] (hc:cc X (.type T) r) (hf:gp X.K X.mg r f) (hm:X.mg x=none) (hv:Kj x=some (.type T)) (ha:RA X WE (e :: es) ts) (hg:Gl X x:=by exact rfl) (hn:x≠"__name__":=by decide) (hdb:(x == ("__debug__":Str))=false:=by decide)
  (hpl:(Ly pos (J7 es X.env)).any (·.1)=false:=by rfl):RE X WE (.Call (.Name x p) (e :: es) [] pos) (xN f ts):=
 ⟨(wH hc hg hm hv ha.h hn hdb (n.eq es X.env) hpl).weak fun σ H Q ⟨μ,S,τ,hr,sr,p⟩=>⟨μ,S,τ,hr,sr,p.bind fun vs xs S1 μ1 H1 st1 r1 p1=>hf WE μ1 S1 H1 vs xs Q st1.hr r1 p1⟩⟩
def spM (K:JV) (mg:Str→Option Value) (F:XF):Sp:=fun vs H Q _=>∃ μ S us,HR μ S H∧bT K mg μ S H vs us∧bg (bh K mg) W0 μ S H (F us S) Q
def noX {α:Type} (r:R α):R α:=match r with
 | .ex _ _ _=>.bad
 | r=>r
def aw (F:XF) (as:XA):XE:=fun τ S=>(as τ S).bind fun us S1=>noX (F us S1)
theorem bg.noX {α β:Type} {Rl:(Nat→Addr)→Sto→Hp→β→α→Prop} {res:R α} {Q:β→Hp→Prop} (h:bg Rl WE μ S H (noX res) Q):bg Rl W0 μ S H res Q:=by
 cases res with
 | ok a S'=>exact h
 | ex c xs S'=>exact h.elim
 | bad=>exact h.elim
end
section
variable {X:Cx} {WE:WX} {e:Ke} {es:List Ke} {pos p:Pos} {lev j:Nat} {ps:List Str} {F:XF} {x:Str} {ts:XA}
def OkE (P:Kn) (w:Kq) (K:JV) (mg:Str→Option Value) (lev:Nat) (x:Str) (ps:List Str) (M:XF):Prop:=∃ (f:Addr) (fd:Lk),mg x=some (.ref f)∧MM K (.ref f)=true∧(∀ us:List Value,us.length=ps.length→OR fd ⟨us,[]⟩=pure (ps.zip us))∧∀ base,eK P w K mg base CX0 lev f fd ps (spM K mg M)
theorem aq [n:NS e] (G:OkE X.prog X.w X.K X.mg lev x ps F) (hr:cG j X.A) (ha:RA X WE (e :: es) ts) (hj:lev≤j:=by decide) (hg:Gl X x:=by exact rfl)
  (hdb:(x == ("__debug__":Str))=false:=by decide) (hpl:(Ly pos (J7 es X.env)).any (·.1)=false:=by rfl):RE X WE (.Call (.Name x p) (e :: es) [] pos) (aw F ts):=by
 obtain ⟨f,fd,hm,hk,hb,G⟩:=G
 exact ⟨(uI (G X.base) (hr.mono hj) hg hm hk (.all hb) .nil Iv ha.h hdb (n.eq es X.env) hpl).weak fun σ H Q ⟨μ,S,τ,hr,sr,p⟩=>⟨μ,S,τ,hr,sr,p.bind fun vs xs S1 μ1 H1 st1 r1 p1=>by
  rw [N9]
  exact ⟨μ1,S1,xs,st1.hr,r1,p1.noX⟩⟩⟩
end
def out (S:Sto) (z:Vl) (S':Sto):R Vl:=match z with
 | .r n=>if n < S.length then .ok (.r n) (S'.take S.length) else match S'[n]? with
  | some (.lst xs)=>.ok (.r S.length) (S'.take S.length++[.lst xs])
  | some (.dct kvs)=>.ok (.r S.length) (S'.take S.length++[.dct kvs])
  | _=>.bad
 | .pr x n=>if n < S.length then .ok (.pr x n) (S'.take S.length) else match S'[n]? with
  | some (.lst xs)=>.ok (.pr x S.length) (S'.take S.length++[.lst xs])
  | _=>.bad
 | z=>.ok z (S'.take S.length)
def leave (S:Sto) (r:R (Fl×Nv)):R Vl:=match r with
 | .ok q S'=>(match q.1 with
  | .nx=>out S (.d .non) S'
  | .rt z=>out S z S'
  | _=>.bad)
 | .ex c xs S'=>.ex c xs (S'.take S.length)
 | .bad=>.bad
def a_ (k n:Nat) (b:XS):XF:=fun us S=>if us.length=k then leave S (b (us.map some++Kb (n - k) none) S) else .bad
section
variable {K:JV} {mg:Str→Option Value} {μ μ':Nat→Addr} {S S':Sto} {H H':Hp} {Q:VK}
theorem fb {k:Nat}:eA (vh μ S H) (vh μ (S.take k) H):=fun b u q=>by
 obtain ⟨z,q⟩:=bo q
 refine cn q ?_
 rintro ⟨m,u,e,d,rfl⟩
 exact z ⟨m,u,(dM e).2,d,rfl⟩
theorem BS {k n:Nat} {ob:Ob} (hk:k≤S.length) (e0:S[n]?=some ob) (d0:ob≠.dead):eA (vh μ S H) (vh (ext μ k (μ n)) (S.take k++[ob]) H):=fun b u q=>by
 obtain ⟨z,q⟩:=bo q
 refine cn q ?_
 rintro ⟨m,u,e,d,rfl⟩
 have lt:(S.take k).length=k:=by rw [KS];omega
 by_cases hm:m < k
 ·rw [Ky (by omega)] at e
  exact z ⟨m,u,(dM e).2,d,by rw [me (Kf hm)]⟩
 ·have hm':m=k:=by
   have:=(J5.mp e).1
   simp only [K5,lt,MX] at this
   omega
  subst hm'
  exact z ⟨n,ob,e0,d0,by rw [dR]⟩
theorem oF {WE:WX} {v:V} {z:Vl} (st:Step μ S H μ' S' H') (r:bh K mg μ' S' H' v z) (p:bg (bh K mg) WE μ S H (out S z S') Q):Q v H':=by
 have st':=st.take
 cases z with
 | d x=>exact p v μ' H' st' (Rep.mono fb r)
 | fd kvs=>obtain ⟨a,vs,o,e,l,h,rs⟩:=r;exact p v μ' H' st' ⟨a,vs,o,e,l,fb _ _ h,rs.mono fb⟩
 | fn x=>exact p v μ' H' st' r
 | sc ns=>obtain ⟨l,e,h⟩:=r;exact p v μ' H' st' ⟨l,e,h.mono fb⟩
 | xc c xs=>obtain ⟨a,C,e,m,h⟩:=r;exact p v μ' H' st' ⟨a,C,e,m,h.mono fb⟩
 | kt ws=>exact p v μ' H' st' r
 | pr x n=>
  obtain ⟨a,u,rfl,h,ru,hn⟩:=r
  unfold out at p
  try dsimp only at p
  split at p
  ·exact p _ μ' H' st' ⟨a,u,rfl,fb _ _ h,Rep.mono fb ru,by rw [KS];omega⟩
  ·have lt:(S'.take S.length).length=S.length:=by rw [KS];have:=st.le;omega
   split at p
   ·rename_i xs e
    have k:=BS (μ:=μ') (H:=H') (k:=S.length) st.le e (by simp)
    exact p _ _ H' (st.move (by omega) e (by simp)) ⟨a,u,rfl,by rw [dR];exact k _ _ h,Rep.mono k ru,by simp [lt]⟩
   ·exact p.elim
 | r n=>
  obtain ⟨rfl,hn⟩:=r
  unfold out at p
  try dsimp only at p
  split at p
  ·exact p _ μ' H' st' ⟨rfl,by rw [KS];omega⟩
  ·have lt:(S'.take S.length).length=S.length:=by rw [KS];have:=st.le;omega
   split at p
   ·rename_i xs e
    exact p _ _ H' (st.move (by omega) e (by simp)) ⟨by rw [dR],by simp [lt]⟩
   ·rename_i xs e
    exact p _ _ H' (st.move (by omega) e (by simp)) ⟨by rw [dR],by simp [lt]⟩
   ·exact p.elim
theorem Jo {P:Kn} {w:Kq} {base:Heap} {x qual:Str} {st:Stmt} {f:Addr} {fd:Lk} {N ps:List Str} {lev:Nat} {m:XS} (F:Fun K x qual st f fd) (Sc:fN N ps (bj st))
  (hb:∀ (cdv:Value) (A:KD) (outer:List Env) (s:JU) (H:Hp) (E:XK),cG lev (A.deeper (Mj qual (bj st) s.heap.objs.size f cdv))→RB (fG CX0 P w K mg base N qual (bj st) f cdv A outer s H E).nox W0 (cR st) m) :
  eK P w K mg base CX0 (lev+1) f fd ps (spM K mg (a_ ps.length N.length m)):=by
 refine F.ok Sc (fun vs H Q E h=>?_) (fun cdv A outer s H vs Q E hr h=>?_)
 ·obtain ⟨μ,S,us,hr,rs,p⟩:=h
  unfold a_ at p
  split at p
  ·rw [rs.length];assumption
  ·exact p.elim
 ·refine ⟨_,(hb cdv A outer s H E hr).h,?_⟩
  obtain ⟨μ,S,us,hr,rs,p⟩:=h
  unfold a_ at p
  split at p
  ·rename_i hl
   have sr:cB K mg μ S H (start N vs) (us.map some++Kb (N.length - ps.length) none):=by
    rw [← hl];exact cB.beg rs
   refine ⟨μ,S,_,hr,sr,?_⟩
   generalize m (us.map some++Kb (N.length - ps.length) none) S=res at p
   cases res with
   | bad=>exact p.elim
   | ex c xs S'=>exact fun μ' H' st=>p μ' H' st.take
   | ok q S'=>
    obtain ⟨fl,τ'⟩:=q
    rintro ⟨fv,σ'⟩ μ' H' st ⟨sr',fr⟩
    cases fl with
    | nx=>
     cases fv with
     | nx=>exact oF (K:=K) (mg:=mg) (v:=.non) (z:=.d .non) st Rep.non p
     | _=>exact (show False from fr).elim
    | rt z=>
     cases fv with
     | rt v=>exact oF st fr p
     | _=>exact (show False from fr).elim
    | bk=>exact (show False from p).elim
    | ct=>exact (show False from p).elim
  ·exact p.elim
end
def aI:XS:=fun τ S=>.ok (.nx,τ) S
def ax (a b:XS):XS:=fun τ S=>(a τ S).bind fun q S1=>match q.1 with
 | .nx=>b q.2 S1
 | _=>.ok q S1
def eB (e:XE):XS:=fun τ S=>(e τ S).bind fun _ S1=>.ok (.nx,τ) S1
def aD (e:XE):XS:=fun τ S=>(e τ S).bind fun z S1=>.ok (.rt z,τ) S1
def GJ:XS:=fun τ S=>.ok (.rt (.d .non),τ) S
def E3:XS:=fun τ S=>.ok (.bk,τ) S
def HJ:XS:=fun τ S=>.ok (.ct,τ) S
def xIf (c:XT) (a b:XS):XS:=fun τ S=>(c τ S).bind fun k S1=>if k=true then a τ S1 else b τ S1
def rk:XS:=fun _ _=>.bad
def aR (e:XE) (g:XG):XS:=fun τ S=>(e τ S).bind fun z S1=>(g z τ S1).bind fun τ1 S2=>.ok (.nx,τ1) S2
def gNm (i:Nat):XG:=fun z τ S=>.ok (τ.set i (some z)) S
def gTu (n:Nat) (g:XGs):XG:=fun z τ S=>match z with
 | .d (.tup xs)=>if xs.length=n then g (xs.map Vl.d) τ S else .bad
 | _=>.bad
def gN0:XGs:=fun zs τ S=>match zs with
 | []=>.ok τ S
 | _=>.bad
def gCo (g:XG) (gs:XGs):XGs:=fun zs τ S=>match zs with
 | z :: r=>(g z τ S).bind fun τ1 S1=>gs r τ1 S1
 | []=>.bad
def gSb (o i:XE) (f:Vl→Vl→Vl→Sto→R Unit):XG:=fun z τ S=>(o τ S).bind fun x S1=>(i τ S1).bind fun y S2=>(f x y z S2).bind fun _ S3=>.ok τ S3
def gok (gd:Option (Nat×Ob)) (S:Sto):Prop:=match gd with
 | none=>True
 | some (n,o)=>S[n]?=some o
open Classical in
noncomputable def cK (g:XG) (b:XS) (gd:Option (Nat×Ob)):List Vl→Nv→Sto→R (Fl×Nv)
 | [],τ,S=>.ok (.nx,τ) S
 | z :: zs,τ,S=>(g z τ S).bind fun τ1 S1=>(b τ1 S1).bind fun q S2=>match q.1 with
  | .bk=>.ok (.nx,q.2) S2
  | .rt v=>.ok (.rt v,q.2) S2
  | _=>if gok gd S2 then cK g b gd zs q.2 S2 else .bad
noncomputable def d_ (it:XI) (g:XG) (b:XS):XS:=fun τ S=>(it τ S).bind fun I S1=>cK g b I.gd I.items τ S1
section
variable {X:Cx} {WE:WX} {e c tg iter:Ke} {xe:XE} {t:XT} {pos:Pos} {st:Stmt} {sts sts':List Stmt} {m m':XS} {g:XG} {gs:XGs} {it:XI}
theorem aM:RB X WE [] aI:=⟨uB.weak fun D σ H ⟨μ,S,τ,hr,sr,p⟩=>p.here (b:=(FlV.nx,σ)) hr ⟨sr,Kp⟩⟩
theorem av (h:RS X WE st m):RB X WE [st] m:=⟨B8 h.h⟩
theorem au (h:RS X WE st m) (h':RB X WE sts m'):RB X WE (st :: sts) (ax m m'):=
 ⟨(nH h.h h'.h).weak fun D σ H ⟨μ,S,τ,hr,sr,p⟩=>⟨μ,S,τ,hr,sr,p.bind fun b q S1 μ1 H1 st1 r1 p1=>by
  obtain ⟨fv,σ1⟩:=b
  obtain ⟨fl,τ1⟩:=q
  obtain ⟨sr1,fr⟩:=r1
  cases fl with
  | nx=>cases fv with
   | nx=>exact ⟨μ1,S1,τ1,st1.hr,sr1,p1⟩
   | _=>exact (show False from fr).elim
  | bk=>cases fv with
   | bk=>exact (show D.at (FlV.bk,σ1) H1 from bg.here (b:=(FlV.bk,σ1)) st1.hr p1 ⟨sr1,Kp⟩)
   | _=>exact (show False from fr).elim
  | ct=>cases fv with
   | ct=>exact (show D.at (FlV.ct,σ1) H1 from bg.here (b:=(FlV.ct,σ1)) st1.hr p1 ⟨sr1,Kp⟩)
   | _=>exact (show False from fr).elim
  | rt z=>cases fv with
   | rt v=>exact (show D.at (FlV.rt v,σ1) H1 from bg.here (b:=(FlV.rt v,σ1)) st1.hr p1 ⟨sr1,fr⟩)
   | _=>exact (show False from fr).elim⟩⟩
theorem eU (he:RE X WE e xe) (hs:O0 e none pos.line X.env=pure false:=by rfl):RS X WE (.Expr e pos) (eB xe):=
 ⟨(uv he.h hs).weak fun D σ H ⟨μ,S,τ,hr,sr,p⟩=>⟨μ,S,τ,hr,sr,p.bind fun v x S1 μ1 H1 st1 r1 p1=>p1.here (b:=(FlV.nx,σ)) st1.hr ⟨sr.step st1,Kp⟩⟩⟩
theorem ay (he:RE X WE e xe):RS X WE (.Return (some e) pos) (aD xe):=
 ⟨(FZ he.h).weak fun D σ H ⟨μ,S,τ,hr,sr,p⟩=>⟨μ,S,τ,hr,sr,p.bind fun v x S1 μ1 H1 st1 r1 p1=>p1.here (b:=(FlV.rt v,σ)) st1.hr ⟨sr.step st1,r1⟩⟩⟩
theorem aT (hc:RT X WE c t) (ha:RB X WE sts m) (hb:RB X WE sts' m'):RS X WE (.If c sts sts' pos) (xIf t m m'):=
 ⟨(G5 hc.h ha.h hb.h).weak fun D σ H ⟨μ,S,τ,hr,sr,p⟩=>⟨μ,S,τ,hr,sr,p.bind fun k k' S1 μ1 H1 st1 r1 p1=>by
  cases (show k=k' from r1)
  try dsimp only at p1
  split at p1
  ·rename_i hk;rw [J2 hk];exact ⟨μ1,S1,τ,st1.hr,sr.step st1,p1⟩
  ·rename_i hk;rw [J9 hk];exact ⟨μ1,S1,τ,st1.hr,sr.step st1,p1⟩⟩⟩
structure LQ (sc:Scope) (N:List Str):Prop where
 nd:N.Nodup
theorem aV {i:Nat} {x:Str} {sc:Scope} (q:LQ sc X.N) (hi:X.N[i]?=some x:=by exact rfl) (hx:Loc X.env.scope x:=by first | exact .inl rfl | exact .inr rfl) (hf:X.fn x=true∨X.env.scope.names.lookup x=some .local:=by first | exact .inl rfl | exact .inr rfl | assumption):RG X WE (.Name x pos) (gNm i):=
 ⟨(CY q.nd hi hx hf).weak fun v σ H Q ⟨μ,S,τ,z,hr,sr,r,p⟩=>p.here hr (sr.set i r)⟩
theorem iD:RGs X WE [] gN0:=⟨Di.weak fun vs σ H Q ⟨μ,S,τ,zs,hr,sr,r,p⟩=>by
 unfold gN0 at p
 split at p
 ·cases r;exact ⟨rfl,p.here hr sr⟩
 ·exact p.elim⟩
theorem cT {es:List Ke} (h:RG X WE e g) (h':RGs X WE es gs) (hs:(MS (e :: es) X.env).map (·.2)=Qm e X.env :: (MS es X.env).map (·.2):=by rfl):RGs X WE (e :: es) (gCo g gs):=
 ⟨(Aw h.h h'.h hs).weak fun vs σ H Q ⟨μ,S,τ,zs,hr,sr,r,p⟩=>by
  unfold gCo at p
  split at p
  ·cases r with
   | cons r1 rr=>exact ⟨_,_,rfl,μ,S,τ,_,hr,sr,r1,p.bind fun σ1 τ1 S1 μ1 H1 st1 sr1 p1=>⟨μ1,S1,τ1,_,st1.hr,sr1,rr.step st1,p1⟩⟩
  ·exact p.elim⟩
theorem jR {n:Nat} {es:List Ke} {k:Nat} (h:RGs X WE es gs) (hc:X.calm=true:=by exact rfl) (hn:(MS es X.env).length=n:=by rfl) (hst:(MS es X.env).findIdx? (·.1)=none:=by rfl):RG X WE (.Tuple es k pos) (gTu n gs):=
 ⟨(FX hc h.h hn hst).weak fun v σ H Q ⟨μ,S,τ,z,hr,sr,r,p⟩=>by
  unfold gTu at p
  split at p
  ·split at p
   ·rename_i xs hl
    cases (show Rep (vh μ S H) v (.tup xs) from r) with
    | tup h rs=>exact ⟨_,_,rfl,SqT.of (bo h).2,by rw [rs.length];exact hl,μ,S,τ,_,hr,sr,bT.um rs,p⟩
   ·exact p.elim
  ·exact p.elim⟩
def yg (K:JV) (mg:Str→Option Value) (ts:s_) (f:Vl→Vl→Vl→Sto→R Unit):Prop:=∀ (WE:WX) (μ:Nat→Addr) (S:Sto) (H:Hp) (o i v:V) (x y z:Vl) (Q:Unit→Hp→Prop),HR μ S H→bh K mg μ S H o x→bh K mg μ S H i y→bh K mg μ S H v z→bg (fun _ _ _ (_ _:Unit)=>True) WE μ S H (f x y z S) Q→ts o i v H (Q ())
theorem jX {o i:Ke} {xo xi:XE} {ts:s_} {f:Vl→Vl→Vl→Sto→R Unit} (ho:RE X WE o xo) (hi:RE X WE i xi) (hs:wb X ts) (hf:yg X.K X.mg ts f)
  (ha:∀ v,Qm (.Subscript o i pos) X.env v=(do
   let ov ← N3 [v] (KC o X.env)
   let iv ← N3 [v,ov] (KC i X.env)
   SQ pos
   N3 [v,ov,iv] (SO ov iv v)
   release [v,ov,iv] []):=by intro _;rfl):RG X WE (.Subscript o i pos) (gSb xo xi f):=
 ⟨(DW ho.h hi.h hs ha).weak fun v σ H Q ⟨μ,S,τ,z,hr,sr,r,p⟩=>⟨μ,S,τ,hr,sr,p.bind fun ov x S1 μ1 H1 st1 r1 p1=>⟨μ1,S1,τ,st1.hr,sr.step st1,p1.bind fun iv y S2 μ2 H2 st2 r2 p2=>
  hf WE μ2 S2 H2 ov iv v x y z (fun _ H3=>Q σ H3) st2.hr (r1.step st2) r2 (r.step (st1.trans st2)) (p2.bind fun _ _ S3 μ3 H3 st3 _ p3=>p3.here st3.hr (sr.step (st1.trans (st2.trans st3))))⟩⟩⟩
theorem jL (he:RE X WE e xe) (hg:RG X WE tg g) (hs:swapsWithSole [tg] e pos.line X.env=pure false:=by rfl) (hw:swappedStores [tg] e X.env=pure none:=by rfl)
  (h1:(MS [tg] X.env).map (·.2)=[Qm tg X.env]:=by rfl):RS X WE (.Assign [tg] e pos) (aR xe g):=
 ⟨(E2 he.h hg.h hs hw h1).weak fun D σ H ⟨μ,S,τ,hr,sr,p⟩=>⟨μ,S,τ,hr,sr,p.bind fun v x S1 μ1 H1 st1 r1 p1=>⟨μ1,S1,τ,x,st1.hr,sr.step st1,r1,p1.bind fun σ2 τ2 S2 μ2 H2 st2 sr2 p2=>p2.here (b:=(FlV.nx,σ2)) st2.hr ⟨sr2,Kp⟩⟩⟩⟩
theorem aO {i:Nat} {x:Str} {pos':Pos} {sc:Scope} (q:LQ sc X.N) (he:RE X WE e xe) (hi:X.N[i]?=some x:=by exact rfl) (hx:Loc X.env.scope x:=by first | exact .inl rfl | exact .inr rfl) (hs:O0 e (some (.Name x pos')) pos.line X.env=pure false:=by rfl) (hf:X.fn x=true∨X.env.scope.names.lookup x=some .local:=by first | exact .inl rfl | exact .inr rfl | assumption) :
  RS X WE (.Assign [.Name x pos'] e pos) (aR xe (gNm i)):=
 ⟨(Gf q.nd hi hx he.h hs hf).weak fun D σ H ⟨μ,S,τ,hr,sr,p⟩=>⟨μ,S,τ,hr,sr,p.bind fun v x S1 μ1 H1 st1 r1 p1=>p1.here (b:=(FlV.nx,σ.set i (some v))) st1.hr ⟨(sr.step st1).set i r1,Kp⟩⟩⟩
theorem Ew {I:Its} {S:Sto} (h:gok I.gd S):I.ok S:=h
open Classical in
theorem dn (hi:RI X WE tg iter it) (hg:RG X WE tg g) (hb:RB X WE sts m) (hp:PassesOwn (J6 X.prog X.w) X.A X.env X.xe:=by first | exact PassesOwn.never | exact PassesOwn.leaving) (hc:X.calm=true:=by exact rfl) (hs:∀ x,OF iter X.env x=pure x:=by intro _;rfl):RS X WE (.For tg iter sts [] pos) (d_ it g m):=
 ⟨(Gh hp hc hi.h hg.h hb.h hs).weak fun D σ H ⟨μ,S,τ,hr,sr,p⟩=>⟨μ,S,τ,hr,sr,p.bind fun J I S1 μ1 H1 st1 io p1=>by
  refine ⟨fun i k σ' H'=>∃ μ' S' τ',Step μ1 S1 H1 μ' S' H'∧cB X.K X.mg μ' S' H' σ' τ'∧I.ok S'∧k+i=I.items.length∧bg (RlS X.K X.mg) WE μ' S' H' (cK g m I.gd (I.items.drop i) τ' S') D.at,
   ⟨I.items.length,μ1,S1,τ,Step.refl st1.hr,sr.step st1,io.ok,by simp,p1⟩,?_⟩
  rintro i k σ' H' ⟨μ',S',τ',st',sr',ok',hk,p'⟩
  by_cases hlt:i < I.items.length
  ·have hz:I.items[i]?=some I.items[i]:=JZ hlt
   rw [Qg hlt,cK] at p'
   refine .inr ⟨io.go i _ μ' S' H' st' ok' hz,_,fun σ2 H2 n=>⟨I.items.length - (i+1),by omega,n⟩,fun x H2 y=>?_⟩
   obtain ⟨st2,rx⟩:=io.yld i _ μ' S' H' x H2 st' ok' hz y
   refine ⟨μ',S',τ',_,st2.hr,sr'.step st2,rx,(p'.shift st2).bind fun σ3 τ3 S3 μ3 H3 st3 sr3 p3=>⟨μ3,S3,τ3,st3.hr,sr3,p3.bind fun q qq S4 μ4 H4 st4 r4 p4=>?_⟩⟩
   obtain ⟨fv,σ4⟩:=q
   obtain ⟨fl,τ4⟩:=qq
   obtain ⟨sr4,fr⟩:=r4
   have go:∀ {b},bg (RlS X.K X.mg) WE μ4 S4 H4 (if gok I.gd S4 then cK g m I.gd (I.items.drop (i+1)) τ4 S4 else .bad) D.at→b=σ4→∃ μ' S' τ',Step μ1 S1 H1 μ' S' H4∧cB X.K X.mg μ' S' H4 b τ'∧I.ok S'∧I.items.length - (i+1)+(i+1)=I.items.length∧bg (RlS X.K X.mg) WE μ' S' H4 (cK g m I.gd (I.items.drop (i+1)) τ' S') D.at:=by
    rintro b p5 rfl
    split at p5
    ·exact ⟨μ4,S4,τ4,st'.trans (st2.trans (st3.trans st4)),sr4,Ew ‹_›,by omega,p5⟩
    ·exact p5.elim
   cases fl with
   | nx=>cases fv with
    | nx=>exact go p4 rfl
    | _=>exact (show False from fr).elim
   | ct=>cases fv with
    | ct=>exact go p4 rfl
    | _=>exact (show False from fr).elim
   | bk=>cases fv with
    | bk=>exact (show D.at (FlV.nx,σ4) H4 from bg.here (b:=(FlV.nx,σ4)) st4.hr p4 ⟨sr4,Kp⟩)
    | _=>exact (show False from fr).elim
   | rt z=>cases fv with
    | rt v=>exact (show D.at (FlV.rt v,σ4) H4 from bg.here (b:=(FlV.rt v,σ4)) st4.hr p4 ⟨sr4,fr⟩)
    | _=>exact (show False from fr).elim
  ·rw [Q_ (by omega),cK] at p'
   exact .inl ⟨io.stop i μ' S' H' st' ok' (by omega),p'.here (b:=(FlV.nx,σ')) st'.hr ⟨sr',Kp⟩⟩⟩⟩
end
open Classical in
noncomputable def g_ (g:XG) (t:XT) (e:XE) (n:Nat) (gd:Option (Nat×Ob)):List Vl→List D→Nv→Sto→R (List D)
 | [],acc,_,S=>if S[n]?=some (.lst acc) then .ok acc S else .bad
 | z :: zs,acc,τ,S=>(g z τ S).bind fun τ1 S1=>(t τ1 S1).bind fun b S2=>if b=true then (e τ1 S2).bind fun v S3=>(match v with
   | .d x=>if S3[n]?=some (.lst acc)∧gok gd (S3.set n (.lst (acc++[x]))) then g_ g t e n gd zs (acc++[x]) τ1 (S3.set n (.lst (acc++[x]))) else .bad
   | _=>.bad)
  else if gok gd S2 then g_ g t e n gd zs acc τ1 S2 else .bad
def oW (n:Nat) (acc:List D) (S:Sto):R Vl:=.ok (.d (.lst acc)) (if S.length=n+1 then S.take n else S.set n .dead)
noncomputable def Ap (fin:Nat→List D→Sto→R Vl) (it:XI) (k:Nat) (g:XG) (t:XT) (e:XE):XE:=fun τ S=>(it τ S).bind fun I S1=>(g_ g t e S1.length I.gd I.items [] (Kb k none++τ) (S1++[.lst []])).bind fun acc S2=>fin S1.length acc S2
noncomputable abbrev xLC:XI→Nat→XG→XT→XE→XE:=Ap oW
def wA (fin:Nat→List D→Sto→R Vl):Prop:=∀ (K:JV) (mg:Str→Option Value) (WE:WX) (μ μ':Nat→Addr) (S S':Sto) (H H':Hp) (acc:List D) (D:Addr) (Q:VK),Step μ S H μ' S' H'→S'[S.length]?=some (.lst acc)→μ' S.length=D→bg (bh K mg) WE μ S H (fin S.length acc S') Q→Q (.ref D) H'
theorem cm:wA oW:=by
 intro K mg WE μ μ' S S' H H' acc D Q st e hD p
 obtain ⟨vs,h,rs⟩:=st.hr.ob _ _ e
 have hn:S.length < S'.length:=(J5.mp e).1
 unfold oW at p
 by_cases hl:S'.length=S.length+1
 ·rw [J2 hl] at p
  refine p _ _ _ st.take (Rep.lst (vs:=vs) (cn (by rw [← hD];exact h) ?_) (rs.mono fb))
  rintro ⟨m,u,e2,d2,q⟩
  obtain ⟨hm,e3⟩:=dM e2
  have:=st.hr.inj m S.length u _ e3 e d2 (by simp) (by rw [q,hD])
  omega
 ·rw [J9 hl] at p
  obtain ⟨st2,na⟩:=Step.freeze st.hr e (by simp)
  refine p _ _ _ (st.trans st2) (Rep.lst (vs:=vs) (cn (by rw [← hD];exact h) (by rw [← hD];exact na)) (rs.mono st2.vis))
section
variable {X:Cx} {WE:WX} {tg elt iter:Ke} {ifs:List Ke} {scope:Scope} {pos:Pos} {it:XI} {g:XG} {t:XT} {e:XE} {N:List Str} {k:Nat} {fin:Nat→List D→Sto→R Vl}
theorem CC:RTs X WE [] (fun _ S=>.ok true S):=⟨fun pins s σ H Q I ⟨μ,S,τ,hr,sr,p⟩=>Cc pins s σ H Q I (p.here hr rfl)⟩
theorem iI {c:Ke} (h:RT X WE c t):RTs X WE [c] t:=⟨Cp h.h⟩
theorem bg.vP {α β γ δ:Type} {Rl:(Nat→Addr)→Sto→Hp→β→α→Prop} {Rl2:(Nat→Addr)→Sto→Hp→δ→γ→Prop} {μ μ1:Nat→Addr} {S S1:Sto} {H H1:Hp} {res:R α} {Q:β→Hp→Prop} {Q2:δ→Hp→Prop} {f:α→Sto→R γ}
  (h:bg Rl2 WE μ S H (res.bind f) Q2) (a:Step μ S H μ1 S1 H1) (kk:∀ b x S2 μ2 H2,Step μ1 S1 H1 μ2 S2 H2→Rl μ2 S2 H2 b x→bg Rl2 WE μ S H (f x S2) Q2→Q b H2):bg Rl WE μ1 S1 H1 res Q:=by
 cases res with
 | ok x S'=>exact fun b μ' H' st r=>kk b x S' μ' H' st r h
 | ex c xs S'=>exact fun μ' H' st=>h μ' H' (a.trans st)
 | bad=>exact h
open Classical in
theorem HZ (hfin:wA fin) {σ:St} {H:Hp} {Q:VK} (h:trE X.K X.mg WE (Ap fin it k g t e) σ H Q):tLC (trI X.K X.mg WE it) (trG X.K X.mg WE g) (trT X.K X.mg WE t) (trE X.K X.mg WE e) k σ H Q:=by
 obtain ⟨μ,S,τ,hr,sr,p⟩:=h
 refine ⟨μ,S,τ,hr,sr,p.bind fun J I S1 μ1 H1 st1 io p1=>fun D hD=>?_⟩
 have st0:Step μ1 S1 H1 (ext μ1 S1.length D) (S1++[.lst []]) (upd H1 D (.lst [])):=Step.alloc st1.hr hD (ob:=.lst []) ⟨[],rfl,.nil⟩
 have hlen:(S1++[Ob.lst []]).length=S1.length+1:=by simp
 refine ⟨fun i j σ' H'=>∃ μ' S' τ' acc,Step (ext μ1 S1.length D) (S1++[.lst []]) (upd H1 D (.lst [])) μ' S' H'∧cB X.K X.mg μ' S' H' σ' τ'∧I.ok S'∧j+i=I.items.length∧acc.length≤i ∧
   bg (bh X.K X.mg) WE μ1 S1 H1 ((g_ g t e S1.length I.gd (I.items.drop i) acc τ' S').bind fun acc S2=>fin S1.length acc S2) Q,
  ⟨I.items.length,_,_,_,[],Step.refl st0.hr,((sr.step st1).step st0).pre k,?_,by simp,J3 _,p1⟩,?_⟩
 ·have ok:=io.ok
  unfold Its.ok at ok ⊢
  split
  ·trivial
  ·rename_i n o hg
   rw [hg] at ok
   have hn:n < S1.length:=(J5.mp ok).1
   rw [Ky hn];exact ok
 rintro i j σ' H' ⟨μ',S',τ',acc,st',sr',ok',hj,hacc,p'⟩
 have stA:=st0.trans st'
 have hn:S1.length < S'.length:=by have:=st'.le;omega
 have hμ:μ' S1.length=D:=by rw [st'.ag S1.length (by omega),dR]
 by_cases hlt:i < I.items.length
 ·have hz:I.items[i]?=some I.items[i]:=JZ hlt
  rw [Qg hlt,g_] at p'
  refine .inr ⟨io.go i _ μ' S' H' stA ok' hz,_,fun σ2 H2 n=>⟨I.items.length - (i+1),by omega,n⟩,fun x H2 y=>?_⟩
  obtain ⟨st2,rx⟩:=io.yld i _ μ' S' H' x H2 stA ok' hz y
  have bb:∀ {α β γ:Type} (r:R α) (f:α→Sto→R β) (f':β→Sto→R γ),(r.bind f).bind f'=r.bind fun a S=>(f a S).bind f':=fun r f f'=>by cases r<;>rfl
  simp only [bb] at p'
  refine ⟨μ',S',τ',_,st2.hr,sr'.step st2,rx,p'.vP (stA.trans st2) fun σ3 τ3 S3 μ3 H3 st3 sr3 p3=>?_⟩
  refine ⟨μ3,S3,τ3,st3.hr,sr3,p3.vP (stA.trans (st2.trans st3)) fun b b' S4 μ4 H4 st4 r4 p4=>?_⟩
  cases (show b=b' from r4)
  have st24:=st2.trans (st3.trans st4)
  by_cases hb:b=true
  ·rw [J2 hb] at p4 ⊢
   rw [bb] at p4
   refine ⟨μ4,S4,τ3,st4.hr,sr3.step st4,p4.vP (stA.trans st24) fun v z S5 μ5 H5 st5 r5 p5=>?_⟩
   have st25:=st24.trans st5
   cases z with
   | d x=>
    try dsimp only at p5
    by_cases hif:S5[S1.length]?=some (.lst acc)∧gok I.gd (S5.set S1.length (.lst (acc++[x])))
    ·rw [J2 hif] at p5
     obtain ⟨vs,h5,rs⟩:=st5.hr.ob _ _ hif.1
     have hμ5:μ5 S1.length=D:=by rw [st25.ag S1.length (by omega)];exact hμ
     rw [hμ5] at h5
     have sp:Step μ5 S5 H5 μ5 (S5.set S1.length (.lst (acc++[x]))) (upd H5 (μ5 S1.length) (.lst (vs++[v]))):=Step.put st5.hr hif.1 (by simp) (ob:=.lst (acc++[x])) ⟨_,rfl,rs.append (.cons r5 .nil)⟩
     rw [hμ5] at sp
     have lz:=io.len
     have lv:=rs.length
     refine ⟨vs,h5,by omega,μ5,_,τ3,acc++[x],st'.trans (st25.trans sp),(sr3.step (st4.trans st5)).step sp,hif.2,by omega,by simp;omega,p5⟩
    ·rw [J9 hif] at p5
     exact p5.elim
   | _=>exact p5.elim
  ·rw [J9 hb] at p4 ⊢
   by_cases hif:gok I.gd S4
   ·rw [J2 hif] at p4
    exact ⟨μ4,S4,τ3,acc,st'.trans st24,sr3.step st4,hif,by omega,by omega,p4⟩
   ·rw [J9 hif] at p4
    exact p4.elim
 ·rw [Q_ (by omega),g_] at p'
  refine .inl ⟨io.stop i μ' S' H' stA ok' (by omega),?_⟩
  by_cases hif:S'[S1.length]?=some (.lst acc)
  ·rw [J2 hif] at p'
   exact hfin X.K X.mg WE μ1 μ' S1 S' H1 H' acc D Q stA hif hμ p'
  ·rw [J9 hif] at p'
   exact p'.elim
theorem rt0:∀ C s H fp,RTs (dE X scope N C s H fp) WE [] (fun _ S=>.ok true S):=fun _ _ _ _=>CC
theorem cJ {esc:Scope} {EN:List Str} (hfin:wA fin) (N:List Str) (q:LQ esc EN) (hi:RI X WE tg iter it) (hg:∀ C s H fp,LQ scope N→RG (dE X scope N C s H fp) WE tg g) (ht:∀ C s H fp,RTs (dE X scope N C s H fp) WE ifs t) (he:∀ C s H fp,RE (dE X scope N C s H fp) WE elt e) (hd:N.Nodup:=by decide +kernel)
  (Sc:iB esc scope EN N k:=by exact ⟨rfl,by decide +kernel,by decide +kernel,by decide +kernel,by decide +kernel,by decide +kernel⟩) (h1:X.env.scope=esc:=by exact rfl) (h2:X.N=EN:=by exact rfl) (hc:X.calm=true:=by exact rfl) (hs:∀ x,OF iter X.env x=pure x:=by intro _;rfl):RE X WE (.ListComp elt [⟨tg,iter,ifs,0⟩] scope pos) (Ap fin it k g t e):=
 ⟨(HA hc Sc h1 h2 hi.h (fun C s H fp=>(hg C s H fp ⟨hd⟩).h) (fun C s H fp=>(ht C s H fp).h) (fun C s H fp=>(he C s H fp).h) hs).weak fun σ H Q h=>HZ (X:=X) hfin h⟩
end
def dv (x:Vl) (S:Sto):Option (List D):=match x with
 | .d (.lst xs)=>some xs
 | .r n=>(match S[n]? with
  | some (.lst xs)=>some xs
  | _=>none)
 | _=>none
def cb (x:Vl) (S:Sto):Option (List D):=match x with
 | .d (.tup xs)=>some xs
 | x=>dv x S
section
variable {K:JV} {mg:Str→Option Value} {μ:Nat→Addr} {S:Sto} {H:Hp} {v:V} {x:Vl} {ds:List D} {WE:WX} {Q:VK}
theorem gh (hr:HR μ S H) (r:bh K mg μ S H v x) (e:dv x S=some ds):∃ a vs,v=.ref a∧H a=some (.lst vs)∧aE (vh μ S H) vs ds:=by
 unfold dv at e
 split at e
 ·cases e
  cases (show Rep (vh μ S H) v (.lst _) from r) with
  | lst h rs=>exact ⟨_,_,rfl,(bo h).2,rs⟩
 ·split at e
  ·rename_i q
   cases e
   obtain ⟨rfl,hn⟩:=r
   obtain ⟨vs,h,rs⟩:=hr.ob _ _ q
   exact ⟨_,vs,rfl,h,rs⟩
  ·cases e
 ·cases e
theorem gk (hr:HR μ S H) (r:bh K mg μ S H v x) (e:cb x S=some ds):∃ a vs,v=.ref a∧(H a=some (.lst vs)∨H a=some (.tup vs))∧aE (vh μ S H) vs ds:=by
 unfold cb at e
 split at e
 ·cases e
  cases (show Rep (vh μ S H) v (.tup _) from r) with
  | tup h rs=>exact ⟨_,_,rfl,.inr (bo h).2,rs⟩
 ·obtain ⟨a,vs,e1,e2,e3⟩:=gh hr r e
  exact ⟨a,vs,e1,.inl e2,e3⟩
theorem jN (h:H a=some (.lst vs)∨H a=some (.tup vs)):iQ H a=some vs:=h.elim E5 Ej
theorem bt (r:bh K mg μ S H v (.d (.int i))):v=.int i:=by cases (show Rep (vh μ S H) v (.int i) from r);rfl
theorem oR (r:bh K mg μ S H v (.d (.bl i))):v=.bl i:=by cases (show Rep (vh μ S H) v (.bl i) from r);rfl
theorem gW (r:bh K mg μ S H v (.d (.str i))):v=.str i:=by cases (show Rep (vh μ S H) v (.str i) from r);rfl
theorem eX (r:bh K mg μ S H v (.d .non)):v=.non:=by cases (show Rep (vh μ S H) v .non from r);rfl
theorem gQ (r:bh K mg μ S H v (.d (.tup ds))):∃ a vs,v=.ref a∧H a=some (.tup vs)∧vh μ S H a=some (.tup vs)∧aE (vh μ S H) vs ds:=by
 cases (show Rep (vh μ S H) v (.tup _) from r) with
 | tup h rs=>exact ⟨_,_,rfl,(bo h).2,h,rs⟩
end
def oI (C:Int→Int→Prop) [∀ i j,Decidable (C i j)] (f:Int→Int→D) (x y:Vl) (S:Sto):R Vl:=match x,y with
 | .d (.int i),.d (.int j)=>if C i j then .ok (.d (f i j)) S else .bad
 | _,_=>.bad
def oI0 (f:Int→Int→D) (x y:Vl) (S:Sto):R Vl:=match x,y with
 | .d (.int i),.d (.int j)=>.ok (.d (f i j)) S
 | _,_=>.bad
section
variable {K:JV} {mg:Str→Option Value}
theorem ck [∀ i j,Decidable (C i j)] (f:Int→Int→Int):cF K mg (rI C fun i j=>V.int (f i j)) (oI C fun i j=>D.int (f i j)):=by
 intro WE μ S H v w x y Q hr rx ry p
 unfold oI at p
 split at p
 ·split at p
  ·exact ⟨_,_,bt rx,bt ry,‹_›,p.here hr (Rep.int _)⟩
  ·exact p.elim
 ·exact p.elim
theorem dC (f:Int→Int→Int):cF K mg (rI0 fun i j=>V.int (f i j)) (oI0 fun i j=>D.int (f i j)):=by
 intro WE μ S H v w x y Q hr rx ry p
 unfold oI0 at p
 split at p
 ·exact ⟨_,_,bt rx,bt ry,p.here hr (Rep.int _)⟩
 ·exact p.elim
theorem bf (f:Int→Int→Bool):cF K mg (rI0 fun i j=>V.bl (f i j)) (oI0 fun i j=>D.bl (f i j)):=by
 intro WE μ S H v w x y Q hr rx ry p
 unfold oI0 at p
 split at p
 ·exact ⟨_,_,bt rx,bt ry,p.here hr (Rep.bl _)⟩
 ·exact p.elim
end
instance (i j:Int):Decidable (kg i j):=by unfold kg;infer_instance
instance (i j:Int):Decidable (o_ i j):=by unfold o_;infer_instance
instance (i j:Int):Decidable (pf i j):=by unfold pf;infer_instance
abbrev dQ:=oI0 fun i j=>D.int (i - j)
abbrev f_:=oI kg fun i j=>D.int (i * j)
abbrev oMod:=oI (fun _ j=>0 < j) fun i j=>D.int (i % j)
abbrev oDiv:=oI o_ fun i j=>D.int (i / j)
abbrev pH:=oI pf fun i j=>D.int (i ^ j.toNat)
abbrev oLt:=oI0 fun i j=>D.bl (decide (i < j))
abbrev oLe:=oI0 fun i j=>D.bl (decide (i≤j))
abbrev oGt:=oI0 fun i j=>D.bl (decide (j < i))
abbrev oGe:=oI0 fun i j=>D.bl (decide (j≤i))
def cV (x:Vl) (S:Sto):R Vl:=match x with
 | .d (.int i)=>.ok (.d (.int (-i))) S
 | _=>.bad
def bq (x y:Vl) (S:Sto):R Vl:=match x,y with
 | .d (.int i),.d (.int j)=>.ok (.d (.int (i+j))) S
 | .d (.tup a),.d (.tup b)=>if a.length+b.length≤100000 then .ok (.d (.tup (a++b))) S else .bad
 | .d (.str a),.d (.str b)=>if a.length+b.length≤100000 then .ok (.d (.str (a++b))) S else .bad
 | x,y=>(match dv x S,dv y S with
  | some a,some b=>if a.length+b.length≤100000 then .ok (.d (.lst (a++b))) S else .bad
  | _,_=>.bad)
def eqD (x y:Vl) (S:Sto):Option Bool:=match x,y with
 | .d .non,.d .non=>some true
 | .d .non,.d (.int _)=>some false
 | .d .non,.d (.str _)=>some false
 | .d (.int _),.d .non=>some false
 | .d (.str _),.d .non=>some false
 | .d (.int i),.d (.int j)=>some (decide (i=j))
 | .d (.bl i),.d (.bl j)=>some (decide (i=j))
 | .d (.str i),.d (.str j)=>some (decide (i=j))
 | .d (.int _),.d (.str _)=>some false
 | .d (.str _),.d (.int _)=>some false
 | .d (.tup a),.d (.tup b)=>if D.depth (.tup a)≤50 then some (D.bQ a b) else none
 | x,y=>(match dv x S,dv y S with
  | some a,some b=>if D.depth (.lst a)≤50 then some (D.bQ a b) else none
  | _,_=>none)
def oEq (x y:Vl) (S:Sto):R Vl:=match eqD x y S with
 | some b=>.ok (.d (.bl b)) S
 | none=>.bad
def oNe (x y:Vl) (S:Sto):R Vl:=match eqD x y S with
 | some b=>.ok (.d (.bl (!b))) S
 | none=>.bad
def oIs (x y:Vl) (S:Sto):R Vl:=match x,y with
 | .d (.bl a),.d (.bl b)=>.ok (.d (.bl (a == b))) S
 | .d .non,.d .non=>.ok (.d (.bl true)) S
 | .fn _,_=>.bad
 | .sc _,_=>.bad
 | _,.d .non=>.ok (.d (.bl false)) S
 | _,_=>.bad
def qQ (x y:Vl) (S:Sto):R Vl:=match x,y with
 | .d (.bl a),.d (.bl b)=>.ok (.d (.bl (a != b))) S
 | .d .non,.d .non=>.ok (.d (.bl false)) S
 | .fn _,_=>.bad
 | .sc _,_=>.bad
 | _,.d .non=>.ok (.d (.bl true)) S
 | _,_=>.bad
section
variable {K:JV} {mg:Str→Option Value}
theorem cE:Fb K mg (rU fun i=>.int (-i)) cV:=by
 intro WE μ S H v x Q hr rx p
 unfold cV at p
 split at p
 ·exact ⟨_,bt rx,p.here hr (Rep.int _)⟩
 ·exact p.elim
def AX:R2:=fun x y H Q=>By x y H Q∨∃ i j,x=.str i∧y=.str j∧i.length+j.length≤sizeLine∧Q (.str (i++j)) H
theorem bc:OpR X (Mp .Add) AX:=BF.or wB
theorem ba:cF K mg AX bq:=by
 intro WE μ S H v w x y Q hr rx ry p
 unfold bq at p
 split at p
 ·exact .inl (.inl ⟨_,_,bt rx,bt ry,p.here hr (Rep.int _)⟩)
 ·split at p
  ·rename_i a b hl
   obtain ⟨p1,us,rfl,h1,g1,r1⟩:=gQ rx
   obtain ⟨p2,ws,rfl,h2,g2,r2⟩:=gQ ry
   have l1:=r1.length
   have l2:=r2.length
   refine .inl (.inr ⟨p1,p2,rfl,rfl,.inl ⟨us,ws,h1,h2,nr (by omega),fun e=>?_,fun _ e=>?_,fun _ _ q hq=>p.pk hr (r1.append r2) q hq⟩⟩)
   ·subst e
    have:a=[]:=NH l1.symm
    subst this
    exact p.here hr (Rep.tup g2 r2)
   ·subst e
    have:b=[]:=NH l2.symm
    subst this
    rw [N9] at p
    exact p.here hr (Rep.tup g1 r1)
  ·exact p.elim
 ·split at p
  ·exact .inr ⟨_,_,gW rx,gW ry,nr ‹_›,p.here hr (Rep.str _)⟩
  ·exact p.elim
 ·split at p
  ·rename_i a b e1 e2
   split at p
   ·obtain ⟨p1,us,rfl,h1,r1⟩:=gh hr rx e1
    obtain ⟨p2,ws,rfl,h2,r2⟩:=gh hr ry e2
    have l1:=r1.length
    have l2:=r2.length
    exact .inl (.inr ⟨p1,p2,rfl,rfl,.inr ⟨us,ws,h1,h2,nr (by omega),fun q hq=>p.lY hr (r1.append r2) q hq⟩⟩)
   ·exact p.elim
  ·exact p.elim
theorem Bc (hr:HR μ S H) (rx:bh K mg μ S H v x) (ry:bh K mg μ S H w y) (e:eqD x y S=some b) :
  (Ac v w=true∧decide (v=w)=b)∨∃ d e,Rep H v d∧Rep H w e∧D.depth d≤50∧((∃ ds es,d=.tup ds∧e=.tup es)∨∃ ds es,d=.lst ds∧e=.lst es)∧D.eqv d e=b:=by
 unfold eqD at e
 split at e
 ·cases e;rw [eX rx,eX ry];exact .inl ⟨rfl,by decide⟩
 ·cases e;rw [eX rx,bt ry];exact .inl ⟨rfl,by simp⟩
 ·cases e;rw [eX rx,gW ry];exact .inl ⟨rfl,by simp⟩
 ·cases e;rw [bt rx,eX ry];exact .inl ⟨rfl,by simp⟩
 ·cases e;rw [gW rx,eX ry];exact .inl ⟨rfl,by simp⟩
 ·cases e;rw [bt rx,bt ry];exact .inl ⟨rfl,by simp only [V.int.injEq]⟩
 ·cases e;rw [oR rx,oR ry];exact .inl ⟨rfl,by simp only [V.bl.injEq]⟩
 ·cases e;rw [gW rx,gW ry];exact .inl ⟨rfl,by simp only [V.str.injEq]⟩
 ·cases e;rw [bt rx,gW ry];exact .inl ⟨rfl,by simp⟩
 ·cases e;rw [gW rx,bt ry];exact .inl ⟨rfl,by simp⟩
 ·split at e
  ·cases e
   refine .inr ⟨_,_,Rep.mono fw rx,Rep.mono fw ry,‹_›,.inl ⟨_,_,rfl,rfl⟩,?_⟩
   simp only [D.eqv]
  ·cases e
 ·split at e
  ·rename_i a b e1 e2
   split at e
   ·cases e
    obtain ⟨p1,us,rfl,h1,r1⟩:=gh hr rx e1
    obtain ⟨p2,ws,rfl,h2,r2⟩:=gh hr ry e2
    refine .inr ⟨.lst a,.lst b,.lst h1 (r1.mono fw),.lst h2 (r2.mono fw),‹_›,.inr ⟨_,_,rfl,rfl⟩,?_⟩
    simp only [D.eqv]
   ·cases e
  ·cases e
theorem bO:cF K mg EZ oEq:=by
 intro WE μ S H v w x y Q hr rx ry p
 unfold oEq at p
 split at p
 ·rename_i b e
  have q:=p.here hr (Rep.bl b)
  rcases Bc hr rx ry e with ⟨h1,h2⟩ | ⟨d,d',h1,h2,h3,h4,h5⟩
  ·exact .inl ⟨h1,by rw [h2];exact q⟩
  ·exact .inr ⟨d,d',h1,h2,h3,h4,by rw [h5];exact q⟩
 ·exact p.elim
theorem cP:cF K mg ES oNe:=by
 intro WE μ S H v w x y Q hr rx ry p
 unfold oNe at p
 split at p
 ·rename_i b e
  have q:=p.here hr (Rep.bl (!b))
  rcases Bc hr rx ry e with ⟨h1,h2⟩ | ⟨d,d',h1,h2,h3,h4,h5⟩
  ·exact .inl ⟨h1,by rw [h2];exact q⟩
  ·exact .inr ⟨d,d',h1,h2,h3,h4,by rw [h5];exact q⟩
 ·exact p.elim
theorem CS (r:bh K mg μ S H v x) (h1:x≠.d .non):v≠.non:=by
 rintro rfl
 cases x with
 | d x=>cases (show Rep (vh μ S H) .non x from r);exact h1 rfl
 | r n=>obtain ⟨e,_⟩:=r;cases e
 | fd kvs=>obtain ⟨_,_,_,e,_⟩:=r;cases e
 | pr x n=>obtain ⟨_,_,e,_⟩:=r;cases e
 | fn x=>obtain ⟨_,_,e⟩:=r;cases e
 | sc ns=>obtain ⟨_,e,_⟩:=r;cases e
 | xc c xs=>obtain ⟨_,_,e,_⟩:=r;cases e
 | kt ws=>obtain ⟨_,e,_⟩:=r;cases e
theorem tD:cF K mg Gg oIs:=by
 intro WE μ S H v w x y Q hr rx ry p
 unfold oIs at p
 split at p
 ·rw [oR rx,oR ry];exact .inl ⟨_,_,rfl,rfl,p.here hr (Rep.bl _)⟩
 ·rw [eX rx,eX ry];exact .inr ⟨rfl,by rw [JW rfl];exact p.here hr (Rep.bl _)⟩
 ·exact p.elim
 ·exact p.elim
 ·rename_i h _ _
  rw [eX ry]
  exact .inr ⟨rfl,by rw [H0 (CS rx h)];exact p.here hr (Rep.bl _)⟩
 ·exact p.elim
end
def D.flat:D→Bool
 | .tup _=>false
 | .lst _=>false
 | _=>true
def inD (x:D) (ds:List D):Bool:=ds.any fun e=>D.eqv e x
def inX (x y:Vl) (S:Sto):Option Bool:=match x with
 | .d x=>(match cb y S with
  | some ds=>if (D.flat x && ds.all D.flat)=true then some (inD x ds) else (match dv y S with
   | some ds=>if D.bK ds≤50 then some (inD x ds) else none
   | none=>none)
  | none=>none)
 | _=>none
def oIn (x y:Vl) (S:Sto):R Vl:=match inX x y S with
 | some b=>.ok (.d (.bl b)) S
 | none=>.bad
def eH (x y:Vl) (S:Sto):R Vl:=match inX x y S with
 | some b=>.ok (.d (.bl (!b))) S
 | none=>.bad
def oIx (x y:Vl) (S:Sto):R Vl:=match y with
 | .d (.int i)=>(match cb x S with
  | some ds=>(match atI ds i with
   | some z=>.ok (.d z) S
   | none=>.bad)
  | none=>.bad)
 | _=>.bad
def cW (xs:List D) (lo hi:Option Int):List D:=(xs.drop (HT.sIx xs.length 0 lo)).take (HT.sIx xs.length xs.length hi - HT.sIx xs.length 0 lo)
def oSl (x:Vl) (lo hi:Option Int) (S:Sto):R Vl:=match x with
 | .d (.tup xs)=>.ok (.d (.tup (cW xs lo hi))) S
 | x=>(match dv x S with
  | some xs=>.ok (.d (.lst (cW xs lo hi))) S
  | none=>.bad)
def tN (x y:Vl) (S:Sto):R Vl:=match x,y with
 | .d (.tup xs),.d (.int i)=>if i=-1 then .ok (.d (.tup xs.reverse)) S else .bad
 | _,_=>.bad
section
variable {K:JV} {mg:Str→Option Value}
theorem sx (r:Rep H v d) (h:D.flat d=true):fC v=true:=by cases r<;>first | rfl | cases h
theorem FK (r:Rep H v d) (q:Rep H w e) (h:D.flat d=true) (h':D.flat e=true):eqV v w=D.eqv d e:=by
  cases r<;>cases q<;>first | rfl | cases h | cases h' | simp [eqV,D.eqv]
theorem pN:∀ {vs:List V} {ds:List D},aE H vs ds→ds.all D.flat=true→vs.all fC=true
 | _,_,.nil,_=>rfl
 | _,_,.cons r t,h=>by
  rw [Lz,Ko] at h ⊢
  exact ⟨sx r h.1,pN t h.2⟩
theorem xV (r:Rep H v d) (h:D.flat d=true):∀ {vs:List V} {ds:List D},aE H vs ds→ds.all D.flat=true→inV v vs=inD d ds
 | _,_,.nil,_=>rfl
 | _,_,.cons q t,h'=>by
  rw [Lz,Ko] at h'
  have ih:=xV r h t h'.2
  unfold inV inD at ih ⊢
  rw [Nn,Nn,FK q r h'.1 h,ih]
def zo (neg:Bool):R2:=fun x y H Q=>F9 neg x y H Q∨F1 neg x y H Q
theorem in_of (hr:HR μ S H) (rx:bh K mg μ S H v x) (ry:bh K mg μ S H w y) (e:inX x y S=some b) (q:Q (.bl (if neg then !b else b)) H):zo neg v w H Q:=by
 unfold inX at e
 split at e
 ·rename_i x
  split at e
  ·rename_i ds e1
   obtain ⟨a,vs,rfl,ha,rs⟩:=gk hr ry e1
   split at e
   ·rename_i hf
    rw [Ko] at hf
    cases e
    refine .inl ⟨a,vs,rfl,jN ha,sx rx hf.1,pN rs hf.2,?_⟩
    rw [xV rx hf.1 rs hf.2]
    exact q
   ·split at e
    ·rename_i ds e2
     split at e
     ·cases e
      obtain ⟨a',vs',e3,ha',rs'⟩:=gh hr ry e2
      cases e3
      exact .inr ⟨_,vs',x,_,rfl,ha',rs'.mono fw,Rep.mono fw rx,‹_›,q⟩
     ·cases e
    ·cases e
  ·cases e
 ·cases e
theorem mJ (hu:X.A.units+64 < cLine):OpR X (Ku .NotIn) (zo true):=yC.or (wN hu)
theorem mr:cF K mg (zo true) eH:=by
 intro WE μ S H v w x y Q hr rx ry p
 unfold eH at p
 split at p
 ·rename_i b e
  exact in_of hr rx ry e (p.here hr (Rep.bl (!b)))
 ·exact p.elim
theorem zv (rs:aE H vs ds) (e:atI ds i=some z):∃ v,atI vs i=some v∧Rep H v z:=by
 unfold atI at e ⊢
 rw [rs.length]
 cases q:ixN ds.length i with
 | none=>rw [q] at e;cases e
 | some j=>
  rw [q] at e
  obtain ⟨v,e1,r⟩:=rs.get' (show ds[j]?=some z from e)
  exact ⟨v,e1,r⟩
theorem Fi:cF K mg DX oIx:=by
 intro WE μ S H v w x y Q hr rx ry p
 unfold oIx at p
 split at p
 ·split at p
  ·rename_i ds e1
   obtain ⟨a,vs,rfl,ha,rs⟩:=gk hr rx e1
   split at p
   ·rename_i z e2
    obtain ⟨u,e3,ru⟩:=zv rs e2
    rw [bt ry]
    exact ⟨a,_,vs,u,rfl,rfl,jN ha,e3,p.here hr ru⟩
   ·exact p.elim
  ·exact p.elim
 ·exact p.elim
theorem nI (rs:aE H vs ds) (lo hi:Option Int):aE H (iT vs lo hi) (cW ds lo hi):=by
 unfold iT cW
 rw [rs.length]
 exact (rs.drop _).take _
theorem xv {α:Type} {xs:List D} {lo hi:Option Int} (h:iO xs.length lo hi):cW xs lo hi=xs:=by
 unfold cW
 rw [h.1,h.2]
 simp
theorem jM {X:Cx} {WE:WX} {e:Ke} {lo hi:Option Ke} {xa:XE} {xl xh:XO} {p2 pos:Pos} (he:RE X WE e xa) (hl:RO X WE lo xl) (hh:RO X WE hi xh):RE X WE (.Subscript e (.Slice lo hi none p2) pos) (xSl oSl xa xl xh):=
 ⟨(sf Jn he.h hl.h hh.h).weak fun σ H Q ⟨μ,S,τ,hr,sr,p⟩=>⟨μ,S,τ,hr,sr,p.bind fun v x S1 μ1 H1 st1 r1 p1=>⟨μ1,S1,τ,st1.hr,sr.step st1,p1.bind fun i i' S2 μ2 H2 st2 r2 p2=>⟨μ2,S2,τ,st2.hr,sr.step (st1.trans st2),p2.bind fun j j' S3 μ3 H3 st3 r3 p3=>by
  cases (show i=i' from r2)
  cases (show j=j' from r3)
  have rv:=r1.step (st2.trans st3)
  unfold oSl at p3
  split at p3
  ·rename_i xs
   obtain ⟨a,vs,rfl,h,g,rs⟩:=gQ rv
   refine ⟨a,rfl,.inl ⟨vs,h,fun hw=>?_,fun hw q hq=>p3.pk st3.hr (nI rs i j) q hq⟩⟩
   rw [rs.length] at hw
   rw [xv (α:=Unit) hw] at p3
   exact p3.here st3.hr (Rep.tup g rs)
  ·split at p3
   ·rename_i xs e1
    obtain ⟨a,vs,rfl,h,rs⟩:=gh st3.hr rv e1
    exact ⟨a,rfl,.inr ⟨vs,h,fun q hq=>p3.lY st3.hr (nI rs i j) q hq⟩⟩
   ·exact p3.elim⟩⟩⟩⟩
theorem gm:RO X WE none cI:=⟨fun pins s σ H Q I ⟨μ,S,τ,hr,sr,p⟩=>BG pins s σ H Q I (p.here hr rfl)⟩
theorem eZ (he:RE X WE e xa):RO X WE (some e) (dr xa):=⟨fun pins s σ H Q I ⟨μ,S,τ,hr,sr,p⟩=>B4 he.h pins s σ H Q I ⟨μ,S,τ,hr,sr,p.bind fun v x S1 μ1 H1 st1 r1 p1=>by
 try dsimp only at p1
 split at p1
 ·exact ⟨_,bt r1,p1.here st1.hr rfl⟩
 ·exact p1.elim⟩⟩
theorem aC (ha:RE X WE a xa) (hb:RE X WE b xb) (hs:mw b:=by exact fun _ _=>rfl):RE X WE (.Subscript a b pos) (xOp oIx xa xb):=⟨(HY Jv ha.h hb.h hs).weak fun _ _ _ h=>two (X:=X) Fi h⟩
theorem FA {X:Cx} {WE:WX} {e st:Ke} {xa xb:XE} {p2 pos:Pos} (he:RE X WE e xa) (hs:RE X WE st xb):RE X WE (.Subscript e (.Slice none none (some st) p2) pos) (xOp tN xa xb):=
 ⟨(Cn he.h hs.h).weak fun σ H Q ⟨μ,S,τ,hr,sr,p⟩=>⟨μ,S,τ,hr,sr,p.bind fun v x S1 μ1 H1 st1 r1 p1=>⟨μ1,S1,τ,st1.hr,sr.step st1,p1.bind fun w y S2 μ2 H2 st2 r2 p2=>by
  have rv:=r1.step st2
  unfold tN at p2
  split at p2
  ·split at p2
   ·rename_i hi
    obtain ⟨a,vs,rfl,h,g,rs⟩:=gQ rv
    exact ⟨a,vs,rfl,by rw [bt r2,hi],h,fun q hq=>p2.pk st2.hr rs.reverse q hq⟩
   ·exact p2.elim
  ·exact p2.elim⟩⟩⟩
end
def fZ:List D→Option (List Bool)
 | []=>some []
 | .bl b :: r=>(fZ r).map (b :: ·)
 | _=>none
def intsOf:List D→Option (List Int)
 | []=>some []
 | .int b :: r=>(intsOf r).map (b :: ·)
 | _=>none
theorem kB:∀ {ds:List D} {bs:List Bool},fZ ds=some bs→ds=bs.map D.bl
 | [],_,e=>by simp [fZ] at e;subst e;rfl
 | d :: ds,bs,e=>by
  cases d with
  | bl b=>
   simp only [fZ,LG] at e
   obtain ⟨cs,e1,rfl⟩:=e
   rw [kB e1];rfl
  | _=>simp [fZ] at e
theorem gU:∀ {ds:List D} {bs:List Int},intsOf ds=some bs→ds=bs.map D.int
 | [],_,e=>by simp [intsOf] at e;subst e;rfl
 | d :: ds,bs,e=>by
  cases d with
  | int b=>
   simp only [intsOf,LG] at e
   obtain ⟨cs,e1,rfl⟩:=e
   rw [gU e1];rfl
  | _=>simp [intsOf] at e
theorem kr:∀ bs:List Int,intsOf (bs.map D.int)=some bs
 | []=>rfl
 | b :: bs=>by simp [intsOf,kr bs]
theorem aE.n6:∀ {vs:List V} {ns:List Bool},aE H vs (ns.map D.bl)→vs=ns.map V.bl
 | [],[],.nil=>rfl
 | v :: vs,n :: ns,.cons r t=>by
  cases r
  rw [Kx,aE.n6 t]
def insI (x:Int):List Int→List Int
 | []=>[x]
 | y :: ys=>if x≤y then x :: y :: ys else y :: insI x ys
def sortI:List Int→List Int
 | []=>[]
 | x :: xs=>insI x (sortI xs)
theorem insI_perm (x:Int):∀ ys,(insI x ys).Perm (x :: ys)
 | []=>.refl _
 | y :: ys=>by
  unfold insI
  split
  ·exact .refl _
  ·exact ((insI_perm x ys).cons y).trans (.swap x y ys)
theorem sortI_perm:∀ xs,(sortI xs).Perm xs
 | []=>.refl _
 | x :: xs=>(insI_perm x _).trans ((sortI_perm xs).cons x)
theorem qw (x:Int):∀ ys:List Int,ys.Pairwise (·≤·)→(insI x ys).Pairwise (·≤·)
 | [],_=>by simp [insI]
 | y :: ys,h=>by
  unfold insI
  split
  ·rename_i hxy
   refine Lr.mpr ⟨fun z hz=>?_,h⟩
   rcases J1.mp hz with e | e
   ·omega
   ·have:=(Lr.mp h).1 z e;omega
  ·rename_i hxy
   obtain ⟨h1,h2⟩:=Lr.mp h
   refine Lr.mpr ⟨fun z hz=>?_,qw x ys h2⟩
   rcases J1.mp ((insI_perm x ys).mem_iff.mp hz) with e | e
   ·omega
   ·exact h1 z e
theorem j9:∀ xs,(sortI xs).Pairwise (·≤·)
 | []=>.nil
 | x :: xs=>qw x _ (j9 xs)
theorem pL:∀ {xs ys:List Int},xs.Perm ys→xs.Pairwise (·≤·)→ys.Pairwise (·≤·)→xs=ys
 | [],ys,h,_,_=>by rw [List.nil_perm.mp h]
 | x :: xs,[],h,_,_=>by simpa using h.length_eq
 | x :: xs,y :: ys,h,h1,h2=>by
  obtain ⟨a1,a2⟩:=Lr.mp h1
  obtain ⟨b1,b2⟩:=Lr.mp h2
  have hx:x∈y :: ys:=h.mem_iff.mp (Ks ..)
  have hy:y∈x :: xs:=h.mem_iff.mpr (Ks ..)
  have e:x=y:=by
   rcases J1.mp hx with e | e
   ·exact e
   ·rcases J1.mp hy with e' | e'
    ·exact e'.symm
    ·have:=a1 y e';have:=b1 x e;omega
  subst e
  rw [pL (List.Perm.cons_inv h) a2 b2]
theorem se (h:ys.Perm xs) (h1:ys.Pairwise (·≤·)):ys=sortI xs:=pL (h.trans (sortI_perm xs).symm) h1 (j9 xs)
def aU (xs:List Vl) (S:Sto):R Vl:=match xs with
 | [x]=>(match cb x S with
  | some ds=>.ok (.d (.int ds.length)) S
  | none=>.bad)
 | _=>.bad
def c_ (xs:List Vl) (S:Sto):R Vl:=match xs with
 | [x]=>(match cb x S with
  | some ds=>.ok (.d (.tup ds)) S
  | none=>.bad)
 | _=>.bad
def gK (xs:List Vl) (S:Sto):R Vl:=match xs with
 | [x]=>(match cb x S with
  | some ds=>.ok (.d (.lst ds)) S
  | none=>.bad)
 | _=>.bad
def jV (xs:List Vl) (S:Sto):R Vl:=match xs with
 | [x]=>(match cb x S with
  | some ds=>.ok (.r S.length) (S++[.lst ds])
  | none=>.bad)
 | _=>.bad
def i9 (xs:List Vl) (S:Sto):R Vl:=match xs with
 | [x]=>(match (dv x S).bind fZ with
  | some bs=>.ok (.d (.bl (bs.all id))) S
  | none=>.bad)
 | _=>.bad
def rq (xs:List Vl) (S:Sto):R Vl:=match xs with
 | [.d (.int i),.d (.int j)]=>.ok (.d (.int (if j > i then j else i))) S
 | _=>.bad
def nz (xs:List Vl) (S:Sto):R Vl:=match xs with
 | [.d (.int i),.d (.int j)]=>.ok (.d (.int (if j < i then j else i))) S
 | _=>.bad
section
variable {K:JV} {mg:Str→Option Value}
theorem bT.one (r:bT K mg μ S H vs [x]):∃ v,vs=[v]∧bh K mg μ S H v x:=by
 cases r with | cons r t=>cases t;exact ⟨_,rfl,r⟩
theorem bT.two (r:bT K mg μ S H vs [x,y]):∃ v w,vs=[v,w]∧bh K mg μ S H v x∧bh K mg μ S H w y:=by
 cases r with | cons r t=>cases t with | cons r' t'=>cases t';exact ⟨_,_,rfl,r,r'⟩
theorem aH:gp K mg AY aU:=by
 intro WE μ S H vs xs Q hr rs p
 unfold aU at p
 split at p
 ·obtain ⟨v,rfl,r⟩:=rs.one
  split at p
  ·obtain ⟨a,us,rfl,ha,rr⟩:=gk hr r ‹_›
   exact ⟨a,us,rfl,jN ha,by rw [rr.length];exact p.here hr (Rep.int _)⟩
  ·exact p.elim
 ·exact p.elim
theorem dq:gp K mg ue c_:=by
 intro WE μ S H vs xs Q hr rs p
 unfold c_ at p
 split at p
 ·rename_i x
  obtain ⟨v,rfl,r⟩:=rs.one
  split at p
  ·rename_i ds e
   unfold cb at e
   split at e
   ·cases e
    obtain ⟨a,us,rfl,h,g,rr⟩:=gQ r
    exact ⟨a,rfl,.inr ⟨us,h,p.here hr (Rep.tup g rr)⟩⟩
   ·obtain ⟨a,us,rfl,h,rr⟩:=gh hr r e
    exact ⟨a,rfl,.inl ⟨us,h,fun q hq=>p.pk hr rr q hq⟩⟩
  ·exact p.elim
 ·exact p.elim
theorem jm:gp K mg tL gK:=by
 intro WE μ S H vs xs Q hr rs p
 unfold gK at p
 split at p
 ·obtain ⟨v,rfl,r⟩:=rs.one
  split at p
  ·obtain ⟨a,us,rfl,ha,rr⟩:=gk hr r ‹_›
   exact ⟨a,us,rfl,jN ha,fun q hq=>p.lY hr rr q hq⟩
  ·exact p.elim
 ·exact p.elim
theorem oZ:gp K mg tL jV:=by
 intro WE μ S H vs xs Q hr rs p
 unfold jV at p
 split at p
 ·obtain ⟨v,rfl,r⟩:=rs.one
  split at p
  ·obtain ⟨a,us,rfl,ha,rr⟩:=gk hr r ‹_›
   exact ⟨a,us,rfl,jN ha,fun q hq=>p.AL hr rr q hq⟩
  ·exact p.elim
 ·exact p.elim
theorem gD:gp K mg Bl i9:=by
 intro WE μ S H vs xs Q hr rs p
 unfold i9 at p
 split at p
 ·obtain ⟨v,rfl,r⟩:=rs.one
  split at p
  ·rename_i bs e
   obtain ⟨ds,e1,e2⟩:=MK.mp e
   obtain ⟨a,us,rfl,ha,rr⟩:=gh hr r e1
   rw [kB e2] at rr
   rw [aE.n6 rr] at ha
   exact ⟨a,bs,rfl,ha,p.here hr (Rep.bl _)⟩
  ·exact p.elim
 ·exact p.elim
theorem rL:gp K mg Fj rq:=by
 intro WE μ S H vs xs Q hr rs p
 unfold rq at p
 split at p
 ·obtain ⟨v,w,rfl,r1,r2⟩:=rs.two
  exact ⟨_,_,by rw [bt r1,bt r2],p.here hr (Rep.int _)⟩
 ·exact p.elim
theorem kn:gp K mg Fc nz:=by
 intro WE μ S H vs xs Q hr rs p
 unfold nz at p
 split at p
 ·obtain ⟨v,w,rfl,r1,r2⟩:=rs.two
  exact ⟨_,_,by rw [bt r1,bt r2],p.here hr (Rep.int _)⟩
 ·exact p.elim
end
def bS (T:String) (x:Vl) (S:Sto):R Vl:=match x with
 | .d d=>.ok (.d (.bl (isT T d))) S
 | .r n=>(match S[n]? with
  | some (.lst xs)=>.ok (.d (.bl (isT T (.lst xs)))) S
  | _=>.bad)
 | _=>.bad
section
variable {X:Cx} {WE:WX}
theorem aW [n:NS e] (hm:X.mg "isinstance"=none) (hm2:X.mg nm=none) (hv:Kj nm=some (.type T)) (ha:RE X WE e xa) (hg:Gl X "isinstance":=by exact rfl) (hg2:Gl X nm:=by exact rfl) (ho:okT T=true:=by exact rfl)
  (hn:nm≠"__name__":=by decide) (hd:(nm == ("__debug__":Str))=false:=by decide) (hb:Kj "isinstance"=some (.builtin "isinstance"):=by decide +kernel)
  (hs2:J7 [.Name nm p2] X.env=(false,KC (.Name nm p2) X.env) :: J7 [] X.env:=by rfl) (hpl:(Ly pos (J7 [.Name nm p2] X.env)).any (·.1)=false:=by rfl) :
  RE X WE (.Call (.Name "isinstance" p) [e,.Name nm p2] [] pos) (xUn (bS T) xa):=
 ⟨(wY hg hm hg2 hm2 hv ho ha.h hn hd hb (n.eq _ X.env) hs2 hpl).weak fun σ H Q ⟨μ,S,τ,hr,sr,p⟩=>⟨μ,S,τ,hr,sr,p.bind fun v x S1 μ1 H1 st1 r1 p1=>by
  unfold bS at p1
  split at p1
  ·exact ⟨_,Rep.mono fw r1,p1.here st1.hr (Rep.bl _)⟩
  ·split at p1
   ·rename_i e
    obtain ⟨rfl,hn⟩:=r1
    obtain ⟨vs,h,rs⟩:=st1.hr.ob _ _ e
    exact ⟨_,Rep.lst h (rs.mono fw),p1.here st1.hr (Rep.bl _)⟩
   ·exact p1.elim
  ·exact p1.elim⟩⟩
def xLm (f:Nat→List D→D→Sto→R Vl) (o e:XE):XE:=fun τ S=>(o τ S).bind fun x S1=>match x with
 | .r n=>(match S1[n]? with
  | some (.lst _)=>(e τ S1).bind fun y S2=>(match y with
   | .d z=>(match S2[n]? with
    | some (.lst xs)=>f n xs z S2
    | _=>.bad)
   | _=>.bad)
  | _=>.bad)
 | _=>.bad
def jw (n:Nat) (xs:List D) (z:D) (S:Sto):R Vl:=if xs.length < 100000 then .ok (.d .non) (S.set n (.lst (xs++[z]))) else .bad
theorem mh (ho:RE X WE o xo) (he:RE X WE e xe)
  (hbase:MI o "append" X.env (KC o X.env)=KC o X.env:=by rfl)
  (hfew:((Ly cpos (J7 [e] X.env)).all (fun x=>!x.1) && (OT cpos (NC [] X.env)).all (fun x=>x.1.isSome) && decide ([e].length+([]:List MN).length+(if ([]:List MN).isEmpty then 0 else 1) < 30))=true:=by rfl)
  (hline:(apos.endLine == cpos.line)=true:=by rfl) (hs:J7 [e] X.env=(false,KC e X.env) :: J7 [] X.env:=by rfl):RE X WE (.Call (.Attribute o "append" apos) [e] [] cpos) (xLm jw xo xe):=
 ⟨(DU ho.h he.h hbase hfew hline hs).weak fun σ H Q ⟨μ,S,τ,hr,sr,p⟩=>⟨μ,S,τ,hr,sr,p.bind fun v x S1 μ1 H1 st1 r1 p1=>by
  try dsimp only at p1
  split at p1
  ·rename_i n
   obtain ⟨rfl,hn⟩:=r1
   split at p1
   ·rename_i xs0 e0
    obtain ⟨vs0,h0,_⟩:=st1.hr.ob _ _ e0
    refine ⟨_,vs0,rfl,h0,μ1,S1,τ,st1.hr,sr.step st1,p1.bind fun w y S2 μ2 H2 st2 r2 p2=>?_⟩
    try dsimp only at p2
    split at p2
    ·split at p2
     ·rename_i z _ xs e2
      obtain ⟨vs,h2,rs⟩:=st2.hr.ob _ _ e2
      rw [st2.ag n hn] at h2
      unfold jw at p2
      split at p2
      ·have lv:=rs.length
       have sp:=Step.put st2.hr e2 (by simp) (ob:=.lst (xs++[z])) ⟨_,rfl,rs.append (.cons r2 .nil)⟩
       rw [st2.ag n hn] at sp
       refine ⟨vs,h2,by rw [N4];omega,p2 _ _ _ sp Rep.non⟩
      ·exact p2.elim
     ·exact p2.elim
    ·exact p2.elim
   ·exact p1.elim
  ·exact p1.elim⟩⟩
def DI (r:V→List V→Hp→VK→Prop) (f:Nat→List D→D→Sto→R Vl):Prop:=∀ (K:JV) (mg:Str→Option Value) (WE:WX) (μ:Nat→Addr) (S:Sto) (H:Hp) (n:Nat) (xs:List D) (vs:List V) (w:V) (z:D) (Q:VK),HR μ S H→S[n]?=some (.lst xs)→H (μ n)=some (.lst vs)→aE (vh μ S H) vs xs→Rep (vh μ S H) w z→bg (bh K mg) WE μ S H (f n xs z S) Q→r (.ref (μ n)) [w] H Q
theorem Hf {r:V→List V→Hp→VK→Prop} {f:Nat→List D→D→Sto→R Vl} {name:Str} {id:String} {o e:Ke} {xo xe:XE} {apos cpos:Pos} (slot:Slot "list" name id) (hty:Sv (.builtin id)=pure (.type "method_descriptor")) (hm:MtM X id r) (hf:DI r f) (ho:RE X WE o xo) (he:RE X WE e xe)
  (hbase:MI o name X.env (KC o X.env)=KC o X.env:=by rfl)
  (hfew:((Ly cpos (J7 [e] X.env)).all (fun x=>!x.1) && (OT cpos (NC [] X.env)).all (fun x=>x.1.isSome) && decide ([e].length+([]:List MN).length+(if ([]:List MN).isEmpty then 0 else 1) < 30))=true:=by rfl)
  (hline:(apos.endLine == cpos.line)=true:=by rfl) (hs:J7 [e] X.env=(false,KC e X.env) :: J7 [] X.env:=by rfl):RE X WE (.Call (.Attribute o name apos) [e] [] cpos) (xLm f xo xe):=
 ⟨(AW slot hty hm ho.h he.h hbase hfew hline hs).weak fun σ H Q ⟨μ,S,τ,hr,sr,p⟩=>⟨μ,S,τ,hr,sr,p.bind fun v x S1 μ1 H1 st1 r1 p1=>by
  try dsimp only at p1
  split at p1
  ·rename_i n
   obtain ⟨rfl,hn⟩:=r1
   split at p1
   ·rename_i xs0 e0
    obtain ⟨vs0,h0,_⟩:=st1.hr.ob _ _ e0
    refine ⟨_,vs0,rfl,h0,μ1,S1,τ,st1.hr,sr.step st1,p1.bind fun w y S2 μ2 H2 st2 r2 p2=>?_⟩
    try dsimp only at p2
    split at p2
    ·split at p2
     ·rename_i z _ xs e2
      obtain ⟨vs,h2,rs⟩:=st2.hr.ob _ _ e2
      rw [← st2.ag n hn]
      exact hf X.K X.mg WE μ2 S2 H2 n xs vs w z Q st2.hr e2 h2 rs r2 p2
     ·exact p2.elim
    ·exact p2.elim
   ·exact p1.elim
  ·exact p1.elim⟩⟩
def tw (n:Nat) (xs:List D) (z:D) (S:Sto):R Vl:=match z with
 | .int i=>if 0≤i∧i < 2 ^ 63 then (match xs[i.toNat]? with
  | some y=>.ok (.d y) (S.set n (.lst (xs.eraseIdx i.toNat)))
  | none=>.bad) else .bad
 | _=>.bad
theorem aE.erase:∀ {vs:List V} {ds:List D} (i:Nat),aE H vs ds→aE H (vs.eraseIdx i) (ds.eraseIdx i)
 | _,_,_,.nil=>.nil
 | _,_,0,.cons _ t=>t
 | _,_,i+1,.cons r t=>.cons r (aE.erase i t)
theorem zk:DI zc tw:=by
 intro K mg WE μ S H n xs vs w z Q hr e h rs rw' p
 unfold tw at p
 split at p
 ·rename_i i
  split at p
  ·rename_i hi
   split at p
   ·rename_i y ey
    obtain ⟨u,eu,ru⟩:=rs.get' ey
    have hl:i.toNat < vs.length:=(J5.mp eu).1
    cases rw'
    refine ⟨_,vs,i,i.toNat,u,rfl,rfl,h,by omega,hi.2,Ug hi.1 (by omega),eu,?_⟩
    have sp:=Step.put hr e (by simp) (ob:=.lst (xs.eraseIdx i.toNat)) ⟨_,rfl,rs.erase i.toNat⟩
    exact p _ _ _ sp (Rep.mono sp.vis ru)
   ·exact p.elim
  ·exact p.elim
 ·exact p.elim
end
def cX (e:XE):XI:=fun τ S=>(e τ S).bind fun z S1=>match z with
 | .d (.tup xs)=>.ok ⟨xs.map Vl.d,none⟩ S1
 | .d (.lst xs)=>.ok ⟨xs.map Vl.d,none⟩ S1
 | .r n=>(match S1[n]? with
  | some (.lst xs)=>.ok ⟨xs.map Vl.d,some (n,.lst xs)⟩ S1
  | _=>.bad)
 | _=>.bad
def gz (as:XA):XI:=fun τ S=>(as τ S).bind fun zs S1=>match zs with
 | [.d (.int j)]=>if -100000≤j∧j≤100000 then .ok ⟨(J_ j.toNat).map fun i=>Vl.d (.int (i:Nat)),none⟩ S1 else .bad
 | _=>.bad
def zi (as:XA):XI:=fun τ S=>(as τ S).bind fun zs S1=>match zs with
 | [.d (.int i),.d (.int j)]=>if (-100000≤i∧i≤100000)∧-100000≤j∧j≤100000 then .ok ⟨(J_ (j - i).toNat).map fun k=>Vl.d (.int (i+(k:Nat))),none⟩ S1 else .bad
 | _=>.bad
section
variable {X:Cx} {WE:WX} {K:JV} {mg:Str→Option Value} {μ:Nat→Addr} {S:Sto} {H:Hp}
theorem iJ {xs:List D} {i:Nat} {z:Vl} (e:(xs.map Vl.d)[i]?=some z):∃ x,xs[i]?=some x∧z=.d x:=by
 rw [Kv] at e
 cases q:xs[i]? with
 | none=>rw [q] at e;cases e
 | some x=>rw [q] at e;cases e;exact ⟨x,rfl,rfl⟩
theorem Fg {a:Addr} {vs:List V} {xs:List D} (g:vh μ S H a=some (.tup vs)) (rs:aE (vh μ S H) vs xs) (hz:vs.length≤sizeLine):jB K mg μ S H (Itt K a) ⟨xs.map Vl.d,none⟩ where
 ok:=Kp
 len:=by simp only [J0];rw [← rs.length];exact hz
 go:=fun i z μ' S' H' st _ e=>by
  obtain ⟨x,e1,rfl⟩:=iJ e
  obtain ⟨u,e2,_⟩:=rs.get' e1
  exact ⟨vs,u,SqT.of (bo (st.vis _ _ g)).2,e2⟩
 yld:=fun i z μ' S' H' u H2 st _ e y=>by
  obtain ⟨rfl,y⟩:=y
  obtain ⟨x,e1,rfl⟩:=iJ e
  have e2:=y vs (SqT.of (bo (st.vis _ _ g)).2)
  obtain ⟨x',e3,r⟩:=rs.get e2
  rw [e1] at e3;cases e3
  exact ⟨Step.refl st.hr,Rep.mono st.vis r⟩
 stop:=fun i μ' S' H' st _ hi=>⟨vs,SqT.of (bo (st.vis _ _ g)).2,by rw [rs.length];simpa using Ni hi⟩
theorem DO {a:Addr} {vs:List V} {xs:List D} (g:vh μ S H a=some (.lst vs)) (rs:aE (vh μ S H) vs xs) (hz:vs.length≤sizeLine):jB K mg μ S H (Itl K a) ⟨xs.map Vl.d,none⟩ where
 ok:=Kp
 len:=by simp only [J0];rw [← rs.length];exact hz
 go:=fun i z μ' S' H' st _ e=>by
  obtain ⟨x,e1,rfl⟩:=iJ e
  obtain ⟨u,e2,_⟩:=rs.get' e1
  exact ⟨vs,u,SqL.of (bo (st.vis _ _ g)).2,e2⟩
 yld:=fun i z μ' S' H' u H2 st _ e y=>by
  obtain ⟨rfl,y⟩:=y
  obtain ⟨x,e1,rfl⟩:=iJ e
  have e2:=y vs (SqL.of (bo (st.vis _ _ g)).2)
  obtain ⟨x',e3,r⟩:=rs.get e2
  rw [e1] at e3;cases e3
  exact ⟨Step.refl st.hr,Rep.mono st.vis r⟩
 stop:=fun i μ' S' H' st _ hi=>⟨vs,SqL.of (bo (st.vis _ _ g)).2,by rw [rs.length];simpa using Ni hi⟩
theorem Ei {n:Nat} {vs:List V} {xs:List D} (hn:n < S.length) (e0:S[n]?=some (.lst xs)) (rs:aE (vh μ S H) vs xs) (hz:vs.length≤sizeLine):jB K mg μ S H (Itl K (μ n)) ⟨xs.map Vl.d,some (n,.lst xs)⟩ where
 ok:=e0
 len:=by simp only [J0];rw [← rs.length];exact hz
 go:=fun i z μ' S' H' st ok e=>by
  obtain ⟨us,h,rs'⟩:=st.hr.ob n _ ok
  rw [st.ag n hn] at h
  obtain ⟨x,e1,rfl⟩:=iJ e
  obtain ⟨u,e2,_⟩:=rs'.get' e1
  exact ⟨us,u,SqL.of h,e2⟩
 yld:=fun i z μ' S' H' u H2 st ok e y=>by
  obtain ⟨rfl,y⟩:=y
  obtain ⟨us,h,rs'⟩:=st.hr.ob n _ ok
  rw [st.ag n hn] at h
  obtain ⟨x,e1,rfl⟩:=iJ e
  have e2:=y us (SqL.of h)
  obtain ⟨x',e3,r⟩:=rs'.get e2
  rw [e1] at e3;cases e3
  exact ⟨Step.refl st.hr,r⟩
 stop:=fun i μ' S' H' st ok hi=>by
  replace hi:=Ni hi
  obtain ⟨us,h,rs'⟩:=st.hr.ob n _ ok
  rw [st.ag n hn] at h
  exact ⟨us,SqL.of h,by rw [rs'.length];simpa using hi⟩
theorem xn {lo:Int} {m:Nat} (hr:HR μ S H) (hm:m≤sizeLine):jB K mg μ S H (Itr lo m) ⟨(J_ m).map fun k=>Vl.d (.int (lo+(k:Nat))),none⟩ where
 ok:=Kp
 len:=by simpa using hm
 go:=fun i z μ' S' H' st _ e=>by
  have:=(J5.mp e).1
  exact (show i < m by simpa using this)
 yld:=fun i z μ' S' H' u H2 st _ e y=>by
  obtain ⟨rfl,rfl⟩:=y
  have hi:i < m:=by simpa using (J5.mp e).1
  rw [Kv,Ph hi] at e
  cases e
  exact ⟨Step.refl st.hr,Rep.int _⟩
 stop:=fun i μ' S' H' st _ hi=>(show m≤i by simpa using Ni hi)
theorem cC (hl:RE X WE l xl):RI X WE tg l (cX xl):=⟨by
 intro pins s σ H Rr I h
 obtain ⟨μ,S,τ,hr,sr,p⟩:=h
 refine thn (hl.h pins s σ H _ I ⟨μ,S,τ,hr,sr,p.bind (Q:=fun v H1=>∃ μ1 S1 z,HR μ1 S1 H1∧bh X.K X.mg μ1 S1 H1 v z∧bg (jB X.K X.mg) WE μ1 S1 H1 (match z with
   | .d (.tup xs)=>.ok ⟨xs.map Vl.d,none⟩ S1
   | .d (.lst xs)=>.ok ⟨xs.map Vl.d,none⟩ S1
   | .r n=>(match S1[n]? with
    | some (.lst xs)=>.ok ⟨xs.map Vl.d,some (n,.lst xs)⟩ S1
    | _=>.bad)
   | _=>.bad) Rr) fun v x S1 μ1 H1 st1 r1 p1=>⟨μ1,S1,x,st1.hr,r1,p1⟩⟩) fun v s1 ⟨u,H1,I1,ru,μ1,S1,z,hr1,r1,p1⟩=>?_
 have goT:∀ a vs xs,u=.ref a→vh μ1 S1 H1 a=some (.tup vs)→aE (vh μ1 S1 H1) vs xs→Rr (Itt X.K a) H1→JY (J6 X.prog X.w) X.A (Qn v) (PIE X pins σ tg Rr) X.xe s1:=by
  rintro a vs xs rfl g rs q
  cases ru
  obtain ⟨its,rv,pp,hz⟩:=I1.tuple (SqT.of (bo g).2)
  refine Nu (show s1.heap.IsTuple a its.toArray from pp) ?_
  refine ⟨s1.heap.objs.size,[s1.heap.objs.size],_,_,H1,rfl,I1.kept (t':=s1.toks) fun b o e=>C0 _ e,vi a _,⟨_,Kc _ rfl,rfl,rfl⟩,fun b hb=>?_,q⟩
  rw [Ka.mp hb]
  exact I1.nq (J3 _) (I1.hok.fresh (J3 _))
 have goL:∀ a vs,u=.ref a→H1 a=some (.lst vs)→Rr (Itl X.K a) H1→JY (J6 X.prog X.w) X.A (Qn v) (PIE X pins σ tg Rr) X.xe s1:=by
  rintro a vs rfl g q
  cases ru
  obtain ⟨its,rv,pp,hz⟩:=I1.list (SqL.of g)
  refine NK pp.isList ?_
  refine ⟨s1.heap.objs.size,[s1.heap.objs.size],_,_,H1,rfl,I1.kept (t':=s1.toks) fun b o e=>C0 _ e,yN a _,⟨_,Kc _ rfl,rfl,rfl⟩,fun b hb=>?_,q⟩
  rw [Ka.mp hb]
  exact I1.nq (J3 _) (I1.hok.fresh (J3 _))
 split at p1
 ·obtain ⟨a,vs,rfl,h,g,rs⟩:=gQ r1
  obtain ⟨its,rv,pp,hz⟩:=I1.tuple (SqT.of h)
  exact goT a vs _ rfl g rs (p1.here hr1 (Fg g rs hz))
 ·cases (show Rep (vh μ1 S1 H1) u (.lst _) from r1) with
  | lst g rs=>
   obtain ⟨its,rv,pp,hz⟩:=I1.list (SqL.of (bo g).2)
   exact goL _ _ rfl (bo g).2 (p1.here hr1 (DO g rs hz))
 ·split at p1
  ·rename_i e
   obtain ⟨rfl,hn⟩:=r1
   obtain ⟨vs,h,rs⟩:=hr1.ob _ _ e
   obtain ⟨its,rv,pp,hz⟩:=I1.list (SqL.of h)
   exact goL _ _ rfl h (p1.here hr1 (Ei hn e rs hz))
  ·exact p1.elim
 ·exact p1.elim⟩
theorem c6 {tg a:Ke} {as:XA} {p pos:Pos} (hg:Gl X "range") (hm:X.mg "range"=none) (ha:RA X WE [a] as) (hs:J7 [a] X.env=[(false,KC a X.env)]:=by rfl):RI X WE tg (.Call (.Name "range" p) [a] [] pos) (gz as):=
 ⟨(xH hg hm ha.h hs).weak fun σ H Rr ⟨μ,S,τ,hr,sr,p⟩=>⟨μ,S,τ,hr,sr,p.bind fun vs xs S1 μ1 H1 st1 r1 p1=>by
  try dsimp only at p1
  split at p1
  ·split at p1
   ·obtain ⟨v,rfl,r⟩:=r1.one
    rename_i j hj
    refine ⟨j,by rw [bt r],by omega,by omega,p1.here st1.hr ?_⟩
    have q:=xn (K:=X.K) (mg:=X.mg) (lo:=0) (m:=j.toNat) st1.hr (nr (by omega))
    have z:∀ k:Nat,(0:Int)+k=k:=fun k=>by omega
    simp only [z] at q
    exact q
   ·exact p1.elim
  ·exact p1.elim⟩⟩
theorem yi {tg a b:Ke} {as:XA} {p pos:Pos} (hg:Gl X "range") (hm:X.mg "range"=none) (ha:RA X WE [a,b] as) (hs:J7 [a,b] X.env=[(false,KC a X.env),(false,KC b X.env)]:=by rfl) (hs2:J7 [b] X.env=[(false,KC b X.env)]:=by rfl):RI X WE tg (.Call (.Name "range" p) [a,b] [] pos) (zi as):=
 ⟨(w8 hg hm ha.h hs hs2).weak fun σ H Rr ⟨μ,S,τ,hr,sr,p⟩=>⟨μ,S,τ,hr,sr,p.bind fun vs xs S1 μ1 H1 st1 r1 p1=>by
  try dsimp only at p1
  split at p1
  ·split at p1
   ·obtain ⟨v,w,rfl,r,r'⟩:=r1.two
    rename_i i j hj
    exact ⟨i,j,by rw [bt r,bt r'],⟨by omega,by omega,by omega,by omega⟩,p1.here st1.hr (xn st1.hr (by rw [N4];omega))⟩
   ·exact p1.elim
  ·exact p1.elim⟩⟩
end
section
variable {prog:Kn} {w:Kq} {A:KD} {E:Value→JU→Prop} {s:JU}
theorem tT (hl:Pr s.heap l vs.toArray)
  (h:Q vs { s with heap:=(s.heap.push (Nz "list" #[] 0)).update s.heap.objs.size (MT (·++vs.toArray)) }) (hsz:vs.length≤sizeLine:=by size_fits) :
  JY (J6 prog w) A (collect (.ref l)) Q E s:=by
 obtain ⟨o,ho,hc,n,hd⟩:=id hl
 unfold collect
 refine ar (OA (Mh entry_proto_collect' ?_))
 show JY _ _ (do again (.builtin "list.__iadd__" ⟨[← newList [],.ref l],[]⟩)) _ _ s
 refine ar (R3 (tx ⟨MV _ (by decide +kernel),Mh entry_list_iadd' ?_⟩))
 show JY _ _ (PK (.ref s.heap.objs.size) (.ref l) (.ref s.heap.objs.size)) _ _ { s with heap:=s.heap.push (Nz "list" #[] 0) }
 unfold PK
 have ho':(s.heap.push (Nz "list" #[] 0)).get? l=some o:=C0 _ ho
 refine ar (Lf (T:="tuple") ⟨o,ho',hc⟩ ?_)
 have ht:(Rw "tuple" == Rw "tuple")=true:=by rfl
 rw [J2 (by rw [ht];simp)]
 refine ar (listItems_at ho' hd ?_)
 refine ar (listItems_at (xs:=#[]) (n:=0) (Kc _ rfl) rfl ?_)
 rw [J9 (by simp)]
 refine ar (listUpdate_at (xs:=#[]) (n:=0) (Kc _ rfl) rfl ?_ (L9 _) (by show (#[]++vs.toArray).size≤sizeLine+1;simp only [S9,J8,Pc];omega))
 refine tx ?_
 show JY (J6 prog w) A (do
   let o ← load s.heap.objs.size
   match o.data with
   | .seq xs _=>pure xs.toList
   | _=>unsupported "internal:collect") Q E { s with heap:=(s.heap.push (Nz "list" #[] 0)).update s.heap.objs.size (MT (·++vs.toArray)) }
 refine ar (wpAny_load (get?_update_seq (Kc _ rfl) _) ?_)
 show JY _ _ (pure ((#[]:Array Value)++vs.toArray).toList) Q E _
 rw [show ((#[]:Array Value)++vs.toArray).toList=vs by simp]
 exact tx h
theorem vZ (hl:Pr s.heap l vs.toArray) (hI:K8 vs ns) (h64:vs.length < 64)
  (h:∀ (out:Array Value) (ns':List Int),K8 out.toList ns'→ns'.Perm ns→ns'.Pairwise (·≤·)→Q (.ref (s.heap.objs.size+1)) { s with heap:=sortedAll s.heap vs out }) :
  JY (J6 prog w) A (call (.builtin "sorted") [.ref l]) Q E s:=by
 refine Qf kind_sorted plain_sorted entry_sorted (args_sorted1 _) ?_
 unfold Builtin.«sorted»
 refine ar (m:=Pb "sorted" 1 1 _) (tx ?_)
 refine ar (tT hl ?_ (LM (du (by omega))))
 refine ar (R3 ?_)
 have hsz:((s.heap.push (Nz "list" #[] 0)).update s.heap.objs.size (MT (·++vs.toArray))).objs.size=s.heap.objs.size+1:=by
  rw [Heap.size_update,size_push']
 have hoL:(((s.heap.push (Nz "list" #[] 0)).update s.heap.objs.size (MT (·++vs.toArray))).push (Nz "list" vs.toArray 0)).get? (s.heap.objs.size+1)=some (Nz "list" vs.toArray 0):=by
  rw [← hsz];exact Kc _ rfl
 show JY _ _ _ _ _ { s with heap:=((s.heap.push (Nz "list" #[] 0)).update s.heap.objs.size (MT (·++vs.toArray))).push (Nz "list" vs.toArray 0) }
 rw [hsz]
 refine ar (KG (K3 Uu ⟨_,hoL,rfl⟩ Ua (Ut hoL hI h64 fun out ns' a1 a2 a3=>⟨_,rfl,?_⟩) (Uv _)))
 exact tx ⟨_,rfl,h out ns' a1 a2 a3⟩
end
section
variable {X:Cx}
def xt:List V→Hp→VK→Prop:=fun vs H Q=>∃ (p:Addr) (ns:List Int),vs=[.ref p]∧H p=some (.tup (ns.map V.int))∧ns.length < 64∧∀ (l:Addr) (ms:List Int),H l=none→MU ms ns→ms.Pairwise (·≤·)→Q (.ref l) (upd H l (.lst (ms.map V.int)))
theorem vF:cc X (.builtin "sorted") xt:=by
 intro pins s σ H xs us Q I r h
 obtain ⟨p,ns,rfl,hq,hl,q⟩:=h
 obtain ⟨u,rfl,rx⟩:=vals1 r
 cases rx
 obtain ⟨its,rv,pl,hz⟩:=I.tuple (SqT.of hq)
 have hI:K8 its ns:=intsAre_of rv
 have h64:its.length < 64:=by rw [← rv.length,J0];exact hl
 refine vZ pl hI h64 fun out ms hout hperm hpair=>?_
 obtain ⟨e,he⟩:=sortedAll_at s.heap its out
 refine ⟨.ref (s.heap.objs.size+1),_,I.laid (t':=s.toks) (o:=.lst (ms.map V.int)) (fun b ob q=>sortedAll_old q) (N5 _) ?_,rfl,q _ ms (I.hok.fresh (N5 _)) hperm hpair⟩
 have hlm:ms.length=ns.length:=hperm.length_eq
 exact ⟨by rw [J0];have:(64:Nat)≤sizeLine:=(by decide);omega,out.toList,e,gT hout,by simpa using he⟩
def xy:List V→Hp→VK→Prop:=fun vs H Q=>tq vs H Q∨xt vs H Q
theorem oJ:cc X (.builtin "sorted") xy:=sI.or vF
def kA (xs:List Vl) (S:Sto):R Vl:=match xs with
 | [x]=>(match (cb x S).bind intsOf with
  | some ns=>if ns.length < 64 then .ok (.d (.lst ((sortI ns).map D.int))) S else .bad
  | none=>.bad)
 | _=>.bad
theorem pM {K:JV} {mg:Str→Option Value}:gp K mg xy kA:=by
 intro WE μ S H vs xs Q hr rs p
 unfold kA at p
 split at p
 ·obtain ⟨v,rfl,r⟩:=rs.one
  split at p
  ·rename_i ns e
   split at p
   ·rename_i hb
    obtain ⟨ds,e1,e2⟩:=MK.mp e
    obtain ⟨a,us,rfl,ha,rr⟩:=gk hr r e1
    rw [gU e2] at rr
    rw [aE.jY rr] at ha
    rcases ha with ha | ha
    ·refine .inl ⟨a,ns,rfl,ha,hb,fun l ms hl h1 h2=>?_⟩
     rw [se h1 h2]
     exact p.lY hr (aE.ints _) l hl
    ·refine .inr ⟨a,ns,rfl,ha,hb,fun l ms hl h1 h2=>?_⟩
     rw [se h1 h2]
     exact p.lY hr (aE.ints _) l hl
   ·exact p.elim
  ·exact p.elim
 ·exact p.elim
end
section
variable {X:Cx} {WE:WX}
def eg (x y z:Vl) (S:Sto):R Unit:=match x,y,z with
 | .r n,.d (.int k),.d w=>(match S[n]? with
  | some (.lst xs)=>(match ixN xs.length k with
   | some j=>.ok () (S.set n (.lst (xs.set j w)))
   | none=>.bad)
  | _=>.bad)
 | _,_,_=>.bad
theorem aE.set (r:Rep H v d):∀ {vs:List V} {ds:List D} (i:Nat),aE H vs ds→aE H (vs.set i v) (ds.set i d)
 | _,_,_,.nil=>.nil
 | _,_,0,.cons _ t=>.cons r t
 | _,_,i+1,.cons q t=>.cons q (aE.set r i t)
theorem iF {K:JV} {mg:Str→Option Value}:yg K mg v5 eg:=by
 intro WE μ S H o i v x y z Q hr ro ri rv p
 unfold eg at p
 split at p
 ·split at p
  ·rename_i n k w _ xs e
   obtain ⟨rfl,hn⟩:=ro
   obtain ⟨vs,h,rs⟩:=hr.ob _ _ e
   split at p
   ·rename_i j ej
    refine ⟨_,vs,k,j,rfl,bt ri,h,by rw [rs.length];exact ej,?_⟩
    exact p () _ _ (Step.put hr e (by simp) (ob:=.lst (xs.set j w)) ⟨_,rfl,rs.set rv j⟩) Kp
   ·exact p.elim
  ·exact p.elim
 ·exact p.elim
theorem my:wb X v5:=set_list
def lrg (fin:List D→Sto→R Vl) (zs:List Vl) (S:Sto):R Vl:=match zs with
 | [.d (.int j)]=>if 0≤j∧j≤1000 then fin ((J_ j.toNat).map fun i=>D.int (i:Nat)) S else .bad
 | _=>.bad
def zp (ds:List D) (S:Sto):R Vl:=.ok (.r S.length) (S++[.lst ds])
theorem n3:∀ l:List Nat,aE H (l.map fun i=>V.int (i:Nat)) (l.map fun i=>D.int (i:Nat))
 | []=>.nil
 | n :: l=>.cons (.int _) (n3 l)
theorem qz (hc:X.calm=true) (hgl:Gl X "list") (hml:X.mg "list"=none) (hgr:Gl X "range") (hmr:X.mg "range"=none) (hbl:Kj "list"=some (.type "list")) (ha:RA X WE [a] as)
  (hs:J7 [a] X.env=[(false,KC a X.env)]:=by rfl)
  (hs2:J7 [Mc (.Name "range" p2) [a] [] pos2] X.env=(false,KC (Mc (.Name "range" p2) [a] [] pos2) X.env) :: J7 [] X.env:=by rfl) :
  RE X WE (.Call (.Name "list" p1) [.Call (.Name "range" p2) [a] [] pos2] [] pos1) (xN (lrg zp) as):=
 ⟨(sC hc hgl hml hgr hmr hbl ha.h hs hs2).weak fun σ H Q ⟨μ,S,τ,hr,sr,p⟩=>⟨μ,S,τ,hr,sr,p.bind fun vs xs S1 μ1 H1 st1 r1 p1=>by
  unfold lrg at p1
  split at p1
  ·split at p1
   ·rename_i j hj
    obtain ⟨v,rfl,r⟩:=r1.one
    exact ⟨j,by rw [bt r],hj.1,hj.2,fun l hl=>p1.AL st1.hr (n3 _) l hl⟩
   ·exact p1.elim
  ·exact p1.elim⟩⟩
def vk (x y:Vl) (S:Sto):R Vl:=match x,y with
 | .d (.tup [z]),.d (.int k)=>if 0≤k∧k≤100 then .ok (.d (.tup (Kb k.toNat z))) S else .bad
 | _,_=>.bad
theorem sE (r:Rep H v d):∀ n:Nat,aE H (Kb n v) (Kb n d)
 | 0=>.nil
 | n+1=>by rw [ML,ML];exact .cons r (sE r n)
end
def iM (x:Int):List Int→List Int
 | []=>[x]
 | y :: ys=>if x < y then x :: y :: ys else if x=y then y :: ys else y :: iM x ys
def bJ:List Int→List Int
 | []=>[]
 | x :: xs=>iM x (bJ xs)
theorem nG (x z:Int):∀ ys,z∈iM x ys↔z=x∨z∈ys
 | []=>by simp [iM]
 | y :: ys=>by
  unfold iM
  split
  ·simp
  ·split
   ·rename_i h;subst h;simp
   ·simp only [J1,nG x z ys]
    constructor
    ·rintro (h | h | h)
     ·exact .inr (.inl h)
     ·exact .inl h
     ·exact .inr (.inr h)
    ·rintro (h | h | h)
     ·exact .inr (.inl h)
     ·exact .inl h
     ·exact .inr (.inr h)
theorem eG (z:Int):∀ xs,z∈bJ xs↔z∈xs
 | []=>by simp [bJ]
 | x :: xs=>by rw [bJ,nG,eG z xs,J1]
theorem p_ (x:Int):∀ ys:List Int,ys.Pairwise (· < ·)→(iM x ys).Pairwise (· < ·)
 | [],_=>by simp [iM]
 | y :: ys,h=>by
  obtain ⟨h1,h2⟩:=Lr.mp h
  unfold iM
  split
  ·rename_i hxy
   refine Lr.mpr ⟨fun z hz=>?_,h⟩
   rcases J1.mp hz with e | e
   ·omega
   ·have:=h1 z e;omega
  ·split
   ·exact h
   ·refine Lr.mpr ⟨fun z hz=>?_,p_ x ys h2⟩
    rcases (nG x z ys).mp hz with e | e
    ·omega
    ·exact h1 z e
theorem dk:∀ xs,(bJ xs).Pairwise (· < ·)
 | []=>.nil
 | x :: xs=>p_ x _ (dk xs)
theorem ph {xs:List Int} (h:xs.Pairwise (· < ·)):xs.Nodup:=h.imp fun z=>by omega
theorem Aj {xs ys:List Int} (h:∀ z,z∈xs↔z∈ys) (h1:xs.Pairwise (· < ·)) (h2:ys.Pairwise (· < ·)):xs=ys:=
 pL ((P6 (ph h1) (ph h2)).mpr h) (h1.imp fun z=>by omega) (h2.imp fun z=>by omega)
theorem i8 {xs ys:List Int} (h:∀ z,z∈ys↔z∈xs) (h1:ys.Pairwise (· < ·)):ys=bJ xs:=Aj (fun z=>by rw [h,eG]) h1 (dk xs)
theorem il {ks ns:List Int} (h1:ks.Nodup) (h2:∀ x,x∈ks↔x∈ns):ks.length=(bJ ns).length:=
 ((P6 h1 (ph (dk ns))).mpr fun z=>by rw [h2,eG]).length_eq
section
variable {X:Cx} {WE:WX}
def SqI (H:Hp) (a:Addr) (ns:List Int):Prop:=H a=some (.lst (ns.map V.int))∨H a=some (.tup (ns.map V.int))
def Jw (N:Nat) (te:TE):TE:=fun σ H Q=>te σ H fun x H1=>∃ (a:Addr) (ns:List Int),x=.ref a∧SqI H1 a ns∧ns.length≤300∧(bJ ns).length < N∧∀ l:Addr,H1 l=none→Q (.ref l) (upd H1 l (.lst ((bJ ns).map V.int)))
theorem SqI.at (I:Inv X pins σ H s) (h:SqI H a ns):∃ (its:List Value) (k:Bool),K8 its ns∧jP s.heap a its.toArray k:=by
 rcases h with h | h
 ·obtain ⟨its,rv,pl,hz⟩:=I.list (SqL.of h)
  exact ⟨its,true,intsAre_of rv,pl.isList⟩
 ·obtain ⟨its,rv,pl,hz⟩:=I.tuple (SqT.of h)
  exact ⟨its,false,intsAre_of rv,pl⟩
theorem Gj {N:Nat} (T:oQ N) (hN:N≤301) {e:Ke} {te:TE} {p1 p2 pos1 pos2:Pos} (hc:X.calm=true) (hgs:Gl X "sorted") (hms:X.mg "sorted"=none) (hgt:Gl X "set") (hmt:X.mg "set"=none) (hbs:Kj "sorted"=some (.builtin "sorted")) (hbt:Kj "set"=some (.type "set")) (he:PE X e te)
  (hs:J7 [e] X.env=(false,KC e X.env) :: J7 [] X.env:=by rfl)
  (hs2:J7 [Mc (.Name "set" p2) [e] [] pos2] X.env=(false,KC (Mc (.Name "set" p2) [e] [] pos2) X.env) :: J7 [] X.env:=by rfl) :
  PE X (.Call (.Name "sorted" p1) [.Call (.Name "set" p2) [e] [] pos2] [] pos1) (Jw N te):=by
 intro pins s σ H Q I h
 refine LV (df I hgs hms hbs ?_)
 rw [hs2]
 refine ND (by show (false || (Ly pos1 (J7 ([]:List Ke) X.env)).any (·.1))=false;rfl) (Nc ?_)
 show JY _ _ (SN ((false,KC (Mc (.Name "set" p2) [e] [] pos2) X.env) :: Ly pos1 (J7 [] X.env))) _ _ s
 refine Of ?_
 have hA:=(di he fY hs) pos2 pins s σ H (fun vs H1=>∃ x,vs=[x]∧∃ (a:Addr) (ns:List Int),x=.ref a∧SqI H1 a ns∧ns.length≤300∧(bJ ns).length < N∧∀ l:Addr,H1 l=none→Q (.ref l) (upd H1 l (.lst ((bJ ns).map V.int)))) I (by
  refine cast (LZ (te σ H) ?_) h
  funext y H2
  refine propext ⟨fun q=>⟨y,rfl,q⟩,fun ⟨y',e',q⟩=>?_⟩
  cases e'
  exact q)
 refine SR (df I hgt hmt hbt (K9 (thn hA fun us s1 ⟨vs,H1,I1,r1,x,e1,a,ns,e2,hx,hn,hb,q⟩=>?_) hs rfl))
 subst e1 e2
 obtain ⟨u,rfl,rx⟩:=vals1 r1
 cases rx
 obtain ⟨its,k,hI,pl⟩:=hx.at I1
 have hA0:X.A.handled=none:=I.ok.hd hc
 refine qm hA0 k pl (by simpa using hI) hn fun h' tk ks S1 S2 S3=>?_
 refine tx ?_
 have hnd:ks.Nodup:=by obtain ⟨_,_,_,_,_,_,_,_,_,_,_,_,_,_,_,_,g,_⟩:=S1;exact g
 have lk:=il hnd S2
 refine vb T hN hA0 S1 (by omega) fun h2 tk2 out ms l c k1 k2 k3 k4 k5 k6 k7=>?_
 have em:ms=bJ ns:=i8 (fun x=>by rw [k6,S2]) k5
 subst em
 refine ⟨.ref l,_,I1.laid (t':=tk2) (o:=.lst ((bJ ns).map V.int)) (fun b o e=>k1 b o (S3 b o e)) (LM k2) ⟨?_,out.toList,c,gT k4,?_⟩,rfl,q l (I1.hok.fresh (LM k2))⟩
 ·rw [J0]
  exact LM (du (by omega))
 ·simpa [Nz] using k3
def wg (N:Nat) (x:Vl) (S:Sto):R Vl:=match (cb x S).bind intsOf with
 | some ns=>if ns.length≤300∧(bJ ns).length < N then .ok (.d (.lst ((bJ ns).map D.int))) S else .bad
 | none=>.bad
theorem xA {K:JV} {mg:Str→Option Value} {μ:Nat→Addr} {S:Sto} {H:Hp} {v:V} {x:Vl} {ns:List Int} (hr:HR μ S H) (r:bh K mg μ S H v x) (e:(cb x S).bind intsOf=some ns):∃ a,v=.ref a∧SqI H a ns:=by
 obtain ⟨ds,e1,e2⟩:=MK.mp e
 obtain ⟨a,us,rfl,ha,rr⟩:=gk hr r e1
 rw [gU e2] at rr
 rw [aE.jY rr] at ha
 exact ⟨a,rfl,ha⟩
abbrev oSS:=wg 64
theorem Gk {N:Nat} (T:oQ N) (hN:N≤301) {e:Ke} {xa:XE} {p1 p2 pos1 pos2:Pos} [n:NS e] (hc:X.calm=true) (hgs:Gl X "sorted") (hms:X.mg "sorted"=none) (hgt:Gl X "set") (hmt:X.mg "set"=none) (hbs:Kj "sorted"=some (.builtin "sorted")) (hbt:Kj "set"=some (.type "set")) (he:RE X WE e xa)
  (hs2:J7 [Mc (.Name "set" p2) [e] [] pos2] X.env=(false,KC (Mc (.Name "set" p2) [e] [] pos2) X.env) :: J7 [] X.env:=by rfl) :
  RE X WE (.Call (.Name "sorted" p1) [.Call (.Name "set" p2) [e] [] pos2] [] pos1) (xUn (wg N) xa):=
 ⟨(Gj T hN hc hgs hms hgt hmt hbs hbt he.h (n.eq _ X.env) hs2).weak fun σ H Q ⟨μ,S,τ,hr,sr,p⟩=>⟨μ,S,τ,hr,sr,p.bind fun v x S1 μ1 H1 st1 r1 p1=>by
  unfold wg at p1
  split at p1
  ·rename_i ns e1
   split at p1
   ·rename_i hb
    obtain ⟨a,rfl,sq⟩:=xA st1.hr r1 e1
    exact ⟨a,ns,rfl,sq,hb.1,hb.2,fun l hl=>p1.lY st1.hr (aE.ints _) l hl⟩
   ·exact p1.elim
  ·exact p1.elim⟩⟩
theorem vo [n:NS e] (hc:X.calm=true) (hgs:Gl X "sorted") (hms:X.mg "sorted"=none) (hgt:Gl X "set") (hmt:X.mg "set"=none) (hbs:Kj "sorted"=some (.builtin "sorted")) (hbt:Kj "set"=some (.type "set")) (he:RE X WE e xa)
  (hs2:J7 [Mc (.Name "set" p2) [e] [] pos2] X.env=(false,KC (Mc (.Name "set" p2) [e] [] pos2) X.env) :: J7 [] X.env:=by rfl) :
  RE X WE (.Call (.Name "sorted" p1) [.Call (.Name "set" p2) [e] [] pos2] [] pos1) (xUn oSS xa):=Gk EV (by decide) hc hgs hms hgt hmt hbs hbt he hs2
end
theorem BO {K:JV} {mg:Str→Option Value}:cF K mg Be vk:=by
 intro WE μ S H v w x y Q hr rx ry p
 unfold vk at p
 split at p
 ·split at p
  ·rename_i z k hk
   obtain ⟨a,vs,rfl,h,g,rs⟩:=gQ rx
   cases rs with
   | cons r t=>
    cases t
    exact ⟨a,k,_,rfl,bt ry,h,hk.1,hk.2,fun e=>p.here hr (by rw [e];exact rx),fun q hq=>p.pk hr (sE r _) q hq⟩
  ·exact p.elim
 ·exact p.elim
def cH (k:Nat):List D→List Vl
 | []=>[]
 | x :: xs=>.d (.tup [.int k,x]) :: cH (k+1) xs
theorem k8:∀ (k:Nat) (xs:List D),(cH k xs).length=xs.length
 | _,[]=>rfl
 | k,x :: xs=>by simp [cH,k8 (k+1) xs]
theorem jj:∀ (k:Nat) (xs:List D) (i:Nat),(cH k xs)[i]?=(xs[i]?).map fun x=>Vl.d (.tup [.int ((k+i:Nat):Int),x])
 | _,[],_=>by simp [cH]
 | k,x :: xs,0=>by simp [cH]
 | k,x :: xs,i+1=>by
  simp only [cH,OE,jj (k+1) xs i]
  congr 1
  funext z
  rw [show k+1+i=k+(i+1) by omega]
def tB (e:XE):XI:=fun τ S=>(e τ S).bind fun z S1=>match z with
 | .d (.lst xs)=>.ok ⟨cH 0 xs,none⟩ S1
 | _=>.bad
section
variable {X:Cx} {WE:WX} {K:JV} {mg:Str→Option Value} {μ:Nat→Addr} {S:Sto} {H:Hp}
theorem zq (g:vh μ S H a=some (.lst vs)) (rs:aE (vh μ S H) vs xs) (hz:vs.length≤sizeLine):jB K mg μ S H (Ite K a) ⟨cH 0 xs,none⟩ where
 ok:=Kp
 len:=by simp only [k8];rw [← rs.length];exact hz
 go:=fun i z μ' S' H' st _ e=>by
  rw [jj] at e
  cases q:xs[i]? with
  | none=>rw [q] at e;cases e
  | some x=>
   obtain ⟨u,e2,_⟩:=rs.get' q
   exact ⟨vs,u,SqL.of (bo (st.vis _ _ g)).2,e2⟩
 yld:=fun i z μ' S' H' u H2 st _ e y=>by
  obtain ⟨p,w,hp,rfl,rfl,y⟩:=y
  rw [jj] at e
  cases q:xs[i]? with
  | none=>rw [q] at e;cases e
  | some x=>
   rw [q] at e
   cases e
   have e2:=y vs (SqL.of (bo (st.vis _ _ g)).2)
   obtain ⟨x',e3,r⟩:=rs.get e2
   rw [q] at e3;cases e3
   have st2:=Step.new st.hr hp (.tup [.int i,w])
   refine ⟨st2,Rep.tup (cn b9 (st.hr.nal hp)) (.cons ?_ (.cons (Rep.mono (st.trans st2).vis r) .nil))⟩
   rw [Ot]
   exact .int _
 stop:=fun i μ' S' H' st _ hi=>⟨vs,SqL.of (bo (st.vis _ _ g)).2,by rw [rs.length];rw [k8] at hi;exact Ni hi⟩
end
section
variable {X:Cx} {WE:WX}
theorem nP (hg:Gl X "enumerate") (hm:X.mg "enumerate"=none) (hl:RE X WE l xl) (hb:Kj "enumerate"=some (.type "enumerate"):=by decide +kernel)
  (hs:J7 [l] X.env=[(false,KC l X.env)]:=by rfl):RI X WE (.Tuple es kk tp) (.Call (.Name "enumerate" p) [l] [] pos) (tB xl):=⟨by
 intro pins s σ H R I h
 obtain ⟨μ,S,τ,hr,sr,pp⟩:=h
 refine SR (df I hg hm hb (K9 (thn ((di hl.h fY hs) pos pins s σ H (fun vs H1=>∃ x,vs=[x]∧∃ μ1 S1 z,HR μ1 S1 H1∧bh X.K X.mg μ1 S1 H1 x z∧bg (jB X.K X.mg) WE μ1 S1 H1 (match z with
   | .d (.lst xs)=>.ok ⟨cH 0 xs,none⟩ S1
   | _=>.bad) R) I ?_) fun us s1 ⟨vs,H1,I1,r1,q1⟩=>?_) hs rfl))
 ·exact ⟨μ,S,τ,hr,sr,pp.bind fun v x S1 μ1 H1 st1 r1 p1=>⟨v,rfl,μ1,S1,x,st1.hr,r1,p1⟩⟩
 ·obtain ⟨x,e,μ1,S1,z,hr1,rz,p1⟩:=q1
  subst e
  obtain ⟨u,rfl,ru⟩:=vals1 r1
  split at p1
  ·cases (show Rep (vh μ1 S1 H1) x (.lst _) from rz) with
   | @lst a us _ g rs=>
    cases ru
    have hq:SqL X.K H1 a us:=SqL.of (bo g).2
    obtain ⟨its,rv,pl,hz⟩:=I1.list hq
    have q:=p1.here hr1 (zq g rs hz)
    refine call_enumerate_list pl.isList fun h' he hit hsz hk=>?_
    refine Ta (s:={ s1 with heap:=h' }) he ?_
    have I2:Inv X pins σ H1 { s1 with heap:=h' }:=I1.kept (t':=s1.toks) hk
    refine ⟨s1.heap.objs.size+1,[s1.heap.objs.size+1,s1.heap.objs.size],_,_,H1,rfl,I2,yh a _ _ (Nat.succ_ne_self _),⟨⟨_,he⟩,hit⟩,fun b hb=>?_,q⟩
    have hle:s1.heap.objs.size≤b:=by
     rcases J1.mp hb with z | z
     ·rw [z];exact N5 _
     ·rw [Ka.mp z];exact J3 _
    exact I1.nq hle (I1.hok.fresh hle)
  ·exact p1.elim⟩
def sV (x:Vl) (lo hi:Option Int) (S:Sto):R Vl:=match x with
 | .sc ns=>.ok (.d (.lst (cW (ns.map D.int) lo hi))) S
 | _=>.bad
theorem xM {e:Ke} {lo hi:Option Ke} {xa:XE} {xl xh:XO} {p2 pos:Pos} (he:RE X WE e xa) (hl:RO X WE lo xl) (hh:RO X WE hi xh):RE X WE (.Subscript e (.Slice lo hi none p2) pos) (xSl sV xa xl xh):=
 ⟨(sf uw he.h hl.h hh.h).weak fun σ H Q ⟨μ,S,τ,hr,sr,p⟩=>⟨μ,S,τ,hr,sr,p.bind fun v x S1 μ1 H1 st1 r1 p1=>⟨μ1,S1,τ,st1.hr,sr.step st1,p1.bind fun i i' S2 μ2 H2 st2 r2 p2=>⟨μ2,S2,τ,st2.hr,sr.step (st1.trans st2),p2.bind fun j j' S3 μ3 H3 st3 r3 p3=>by
  cases (show i=i' from r2)
  cases (show j=j' from r3)
  have rv:=r1.step (st2.trans st3)
  unfold sV at p3
  split at p3
  ·rename_i ns
   obtain ⟨l,rfl,hq⟩:=rv
   exact ⟨l,_,rfl,hq.mono fw,fun q hq=>p3.lY st3.hr (nI (aE.ints ns) i j) q hq⟩
  ·exact p3.elim⟩⟩⟩⟩
theorem rM:RB X WE sts rk:=⟨fun _ _ _ _ _ _ ⟨_,_,_,_,_,p⟩=>p.elim⟩
end
def Df (K:JV) (mg:Str→Option Value) (x:Str) (st:Stmt):Prop:=∃ (f:Addr) (fd:Lk),Fun K x x st f fd∧mg x=some (.ref f)
theorem Hl {K:JV} {h:Heap} {mg:Str→Option Value} {x:Str} {st:Stmt} {f:Addr} {oc:Value} {od an:Option Addr} {osl:Array (Option Value)} {kV doc pm cdv ct:Value} (X:K.In h) (G:h.Ns KY mg) (a:VI K KY x=some (some (.ref f)))
  (l:K.lookup f=some ⟨oc,od,.func (MD x x (fL st) (cR st) (bj st) .none kV doc pm an cdv ct),osl⟩) (c:Pl K cdv x=true) (k:MM K (.ref f)=true):Df K mg x st:=⟨f,_,xP l c k,U2 X G a⟩
theorem bE {K:JV} {mg:Str→Option Value} {P:Kn} {w:Kq} {x:Str} {st:Stmt} {ps:List Str} {lev:Nat} {k n:Nat} {m:XS} {M:XF} (N:List Str) (F:Df K mg x st)
    (hb:∀ (base:Heap) (f:Addr) (cdv:Value) (A:KD) (outer:List Env) (s:JU) (H:Hp) (E:XK),cG lev (A.deeper (Mj x (bj st) s.heap.objs.size f cdv))→LQ (bj st) N→RB (fG CX0 P w K mg base N x (bj st) f cdv A outer s H E).nox W0 (cR st) m)
    (hM:M=a_ k n m:=by rfl) (hk:ps.length=k:=by rfl) (hn:N.length=n:=by rfl) (Sc:fN N ps (bj st):=by exact ⟨rfl,rfl,rfl,by decide +kernel,rfl,by decide +kernel,by decide +kernel⟩)
    (hbd:∀ (kV doc pm:Value) (an:Option Addr) (cdv ct:Value) (us:List Value),us.length=ps.length→OR (MD x x (fL st) (cR st) (bj st) .none kV doc pm an cdv ct) ⟨us,[]⟩=pure (ps.zip us):=by
      intro _ _ _ _ _ _ us hl
      rcases us with _ | ⟨a,_ | ⟨b,_ | ⟨c,_ | ⟨d,_ | ⟨e,_ | ⟨f,_ | ⟨g,us⟩⟩⟩⟩⟩⟩⟩<;>first | (simp at hl;done) | rfl):OkE P w K mg (lev+1) x ps M:=by
  subst hM hk hn
  obtain ⟨f,fd,F,hm⟩:=F
  refine ⟨f,fd,hm,F.kp,?_,fun base=>Jo F Sc fun cdv A outer s H E hr=>hb base f cdv A outer s H E hr ⟨Sc.nd⟩⟩
  obtain ⟨oc,od,kV,doc,pm,an,cdv,ct,osl,rfl,lk,hcd⟩:=F.ex
  exact hbd kV doc pm an cdv ct
theorem bI {α β:Type} {a:α} {S:Sto} {f:α→Sto→R β}:(R.ok a S).bind f=f a S:=rfl
theorem Hw {i:Nat} {z:Vl} {τ:Nv} {S:Sto}:gNm i z τ S=.ok (τ.set i (some z)) S:=rfl
theorem nk:leave S (.ok (.rt z,τ) S')=out S z S':=rfl
theorem zC:leave S (.ok (.nx,τ) S')=out S (.d .non) S':=rfl
theorem su:out S (.d x) S'=.ok (.d x) (S'.take S.length):=rfl
theorem qT (h:us.length=k):a_ k n b us S=leave S (b (us.map some++Kb (n - k) none) S):=by unfold a_;rw [J2 h]
open Classical in
theorem rA {g:XG} {b:XS} {gd:Option (Nat×Ob)}:∀ {items:List Vl} {τ:Nv} {S:Sto} (I:Nat→Nv→Sto→Prop),I 0 τ S →
  (∀ i z τ S,items[i]?=some z→I i τ S→∃ τ1 S1 fl τ2 S2,g z τ S=.ok τ1 S1∧b τ1 S1=.ok (fl,τ2) S2∧(fl=.nx∨fl=.ct)∧gok gd S2∧I (i+1) τ2 S2) →
  ∃ τ' S',cK g b gd items τ S=.ok (.nx,τ') S'∧I items.length τ' S'
 | [],τ,S,I,h0,_=>⟨τ,S,rfl,h0⟩
 | z :: zs,τ,S,I,h0,hs=>by
  obtain ⟨τ1,S1,fl,τ2,S2,e1,e2,hf,hg,hI⟩:=hs 0 z τ S rfl h0
  obtain ⟨τ',S',e3,h3⟩:=rA (items:=zs) (τ:=τ2) (S:=S2) (fun i=>I (i+1)) hI fun i z' τ S hz hi=>hs (i+1) z' τ S (by simpa using hz) hi
  refine ⟨τ',S',?_,h3⟩
  rw [cK,e1,bI,e2,bI]
  rcases hf with rfl | rfl
  ·dsimp only
   rw [J2 hg];exact e3
  ·dsimp only
   rw [J2 hg];exact e3
theorem xZ {it:XI} {t:XT} {e:XE} {τ:Nv} {S S1:Sto} {items:List Vl} (hit:it τ S=.ok ⟨items,none⟩ S1) (J:Nat→List D→Sto→Prop) (h0:J 0 [] S1)
  (hs:∀ i z acc Q,items[i]?=some z→J i acc Q→Q.length=S1.length→∃ b Q1,t (some z :: τ) (Q++[.lst acc])=.ok b (Q1++[.lst acc])∧Q1.length=S1.length ∧
   (b=true→∃ x Q2,e (some z :: τ) (Q1++[.lst acc])=.ok (.d x) (Q2++[.lst acc])∧Q2.length=S1.length∧J (i+1) (acc++[x]) Q2)∧(b=false→J (i+1) acc Q1)) :
  ∃ acc Q,xLC it 1 (gNm 0) t e τ S=.ok (.d (.lst acc)) Q∧Q.length=S1.length∧J items.length acc Q:=by
 have key:∀ (zs:List Vl) (i:Nat) (acc:List D) (o:Option Vl) (Q:Sto),(∀ j,zs[j]?=items[i+j]?)→J i acc Q→Q.length=S1.length→∃ acc' Q',g_ (gNm 0) t e S1.length none zs acc (o :: τ) (Q++[.lst acc])=.ok acc' (Q'++[.lst acc'])∧Q'.length=S1.length∧J (i+zs.length) acc' Q':=by
  intro zs
  induction zs with
  | nil=>
   intro i acc o Q _ hJ hl
   refine ⟨acc,Q,?_,hl,hJ⟩
   rw [g_,J2]
   rw [← hl,KH (J3 _)]
   simp
  | cons z zs ih=>
   intro i acc o Q hz hJ hl
   have hz0:items[i]?=some z:=by
    have:=hz 0
    simpa using this.symm
   have hz1:∀ j,zs[j]?=items[i+1+j]?:=fun j=>by
    have:=hz (j+1)
    rw [show i+1+j=i+(j+1) by omega]
    simpa using this
   obtain ⟨b,Q1,e1,l1,ht,hf⟩:=hs i z acc Q hz0 hJ hl
   rw [g_,Hw,bI,show (o :: τ).set 0 (some z)=some z :: τ from rfl,e1,bI]
   cases b with
   | true=>
    obtain ⟨x,Q2,e2,l2,hJ2⟩:=ht rfl
    rw [J2 rfl,e2,bI]
    dsimp only
    have hn:(Q2++[Ob.lst acc])[S1.length]?=some (.lst acc):=by
     rw [← l2,KH (J3 _)];simp
    rw [J2 ⟨hn,Kp⟩]
    have hset:(Q2++[Ob.lst acc]).set S1.length (.lst (acc++[x]))=Q2++[.lst (acc++[x])]:=by
     rw [← l2,List.set_append_right _ _ (J3 _)];simp
    rw [hset]
    obtain ⟨acc',Q',e3,l3,h3⟩:=ih (i+1) (acc++[x]) (some z) Q2 hz1 hJ2 l2
    exact ⟨acc',Q',e3,l3,by rw [show i+(z :: zs).length=i+1+zs.length by simp;omega];exact h3⟩
   | false=>
    rw [J9 Kl,J2 (show gok none (Q1++[Ob.lst acc]) from Kp)]
    obtain ⟨acc',Q',e3,l3,h3⟩:=ih (i+1) acc (some z) Q1 hz1 (hf rfl) l1
    exact ⟨acc',Q',e3,l3,by rw [show i+(z :: zs).length=i+1+zs.length by simp;omega];exact h3⟩
 obtain ⟨acc,Q,e1,l1,h1⟩:=key items 0 [] none S1 (fun j=>by rw [Ot]) h0 rfl
 refine ⟨acc,Q,?_,l1,by rw [Ot] at h1;exact h1⟩
 show (it τ S).bind _=_
 rw [hit,bI]
 dsimp only
 rw [show Kb 1 (none:Option Vl)++τ=none :: τ from rfl,e1,bI]
 unfold oW
 rw [J2 (by simp [l1]),← l1,Ux]
theorem uo (hit:it τ S=.ok ⟨items,none⟩ S1) (f:Vl→Option D)
  (hs:∀ z∈items,∀ S:Sto,(∀ x,f z=some x→t (some z :: τ) S=.ok true S∧e (some z :: τ) S=.ok (.d x) S)∧(f z=none→t (some z :: τ) S=.ok false S)) :
  xLC it 1 (gNm 0) t e τ S=.ok (.d (.lst (items.filterMap f))) S1:=by
 obtain ⟨acc,Q,e1,l1,h1⟩:=xZ (t:=t) (e:=e) hit (fun i acc Q=>acc=(items.take i).filterMap f∧Q=S1) ⟨rfl,rfl⟩ (by
  rintro i z acc Q hz ⟨rfl,rfl⟩ _
  have hm:=K0 hz
  have ht:items.take (i+1)=items.take i++[z]:=by rw [P8,hz];rfl
  obtain ⟨h1,h2⟩:=hs z hm (Q++[.lst ((items.take i).filterMap f)])
  cases q:f z with
  | some x=>
   obtain ⟨h3,h4⟩:=h1 x q
   refine ⟨true,Q,h3,rfl,fun _=>⟨x,Q,h4,rfl,?_,rfl⟩,fun z=>(by cases z)⟩
   rw [ht,O3]
   simp [q]
  | none=>
   refine ⟨false,Q,h2 q,rfl,fun z=>(by cases z),fun _=>⟨?_,rfl⟩⟩
   rw [ht,O3]
   simp [q])
 obtain ⟨rfl,rfl⟩:=h1
 rw [Nj] at e1
 exact e1
theorem sX (hit:it τ S=.ok ⟨items,none⟩ S1) (f:Vl→D) (hs:∀ z∈items,∀ S:Sto,e (some z :: τ) S=.ok (.d (f z)) S) :
  xLC it 1 (gNm 0) (fun _ S=>.ok true S) e τ S=.ok (.d (.lst (items.map f))) S1:=by
 have:=uo (t:=fun _ S=>.ok true S) (e:=e) hit (fun z=>some (f z)) fun z hz S=>⟨fun x hx=>⟨rfl,by cases hx;exact hs z hz S⟩,fun h=>by cases h⟩
 rw [this]
 congr 4
 rw [List.filterMap_eq_map']
end L2
namespace L2
section
variable {n:Nat} {b:XS} {x y z u v:Vl} {S:Sto}
theorem bw:a_ 1 n b [x] S=leave S (b ([some x]++Kb (n - 1) none) S):=qT rfl
theorem dI:a_ 2 n b [x,y] S=leave S (b ([some x,some y]++Kb (n - 2) none) S):=qT rfl
theorem eO:a_ 3 n b [x,y,z] S=leave S (b ([some x,some y,some z]++Kb (n - 3) none) S):=qT rfl
theorem FO:a_ 4 n b [x,y,z,u] S=leave S (b ([some x,some y,some z,some u]++Kb (n - 4) none) S):=qT rfl
end
end L2
theorem L2.ak {α:Sort _} {a b:α} (h:a=b):a=b:=h
namespace L2
open PySem PySem.Spec PyProof.Rows
def Ds (f:Vl→Vl→Sto→R Vl) (r:R Vl) (b:XE) (τ:Nv):R Vl:=r.bind fun x S1=>(b τ S1).bind fun y S2=>f x y S2
def AH (f:Vl→Vl→Sto→R Vl) (x:Vl) (r:R Vl):R Vl:=r.bind fun y S2=>f x y S2
def un1 (f:Vl→Sto→R Vl) (r:R Vl):R Vl:=r.bind fun x S1=>f x S1
def ch3 (r:R Vl) (f:Vl→Vl→Sto→R Vl) (y:Vl) (c:XE) (τ:Nv):R Vl:=r.bind fun z S3=>match z with
 | .d (.bl k)=>if k=true then (c τ S3).bind fun w S4=>f y w S4 else .ok (.d (.bl false)) S3
 | _=>.bad
def ch2 (f f2:Vl→Vl→Sto→R Vl) (x:Vl) (r:R Vl) (c:XE) (τ:Nv):R Vl:=r.bind fun y S2=>ch3 (f x y S2) f2 y c τ
def ch1 (f f2:Vl→Vl→Sto→R Vl) (r:R Vl) (b c:XE) (τ:Nv):R Vl:=r.bind fun x S1=>ch2 f f2 x (b τ S1) c τ
def t1 (r:R Vl):R Bool:=r.bind asB
def tr1 (r:R Vl):R Bool:=r.bind tru
def Ae (r:R Bool) (b:XT) (τ:Nv):R Bool:=r.bind fun c S1=>if c=true then b τ S1 else .ok false S1
def or1 (r:R Bool) (b:XT) (τ:Nv):R Bool:=r.bind fun c S1=>if c=true then .ok true S1 else b τ S1
def F_ (r:R Bool):R Bool:=r.bind fun c S1=>.ok (!c) S1
def u5 (r:R Vl) (b:XE) (τ:Nv):R Vl:=r.bind fun x S1=>(asB x S1).bind fun c S2=>if c=true then b τ S2 else .ok (.d (.bl false)) S2
def AB (r:R Vl) (b:XE) (τ:Nv):R Vl:=r.bind fun x S1=>(asB x S1).bind fun c S2=>if c=true then .ok (.d (.bl true)) S2 else b τ S2
def A4 (r:R Vl):R Vl:=r.bind fun x S1=>(asB x S1).bind fun c S2=>.ok (.d (.bl (!c))) S2
def AA (r:R Bool) (a b:XE) (τ:Nv):R Vl:=r.bind fun k S1=>if k=true then a τ S1 else b τ S1
def co2 (x:Vl) (r:R (List Vl)):R (List Vl):=r.bind fun xs S2=>.ok (x :: xs) S2
def co1 (r:R Vl) (t:XA) (τ:Nv):R (List Vl):=r.bind fun x S1=>co2 x (t τ S1)
def n1 (f:List Vl→Sto→R Vl) (r:R (List Vl)):R Vl:=r.bind f
def c1 (F:XF) (r:R (List Vl)):R Vl:=r.bind fun us S1=>noX (F us S1)
def fz1 (r:R Vl):R Vl:=r.bind frz
def p1 (r:R Vl):R (Option Int):=r.bind fun x S1=>match x with
 | .d (.int i)=>.ok (some i) S1
 | _=>.bad
def sl3 (f:Vl→Option Int→Option Int→Sto→R Vl) (x:Vl) (i:Option Int) (r:R (Option Int)):R Vl:=r.bind fun j S3=>f x i j S3
def sl2 (f:Vl→Option Int→Option Int→Sto→R Vl) (x:Vl) (r:R (Option Int)) (h:XO) (τ:Nv):R Vl:=r.bind fun i S2=>sl3 f x i (h τ S2)
def sl1 (f:Vl→Option Int→Option Int→Sto→R Vl) (r:R Vl) (l h:XO) (τ:Nv):R Vl:=r.bind fun x S1=>sl2 f x (l τ S1) h τ
def lm4 (f:Nat→List D→D→Sto→R Vl) (n:Nat) (o:Option Ob) (z:D) (S:Sto):R Vl:=match o with
 | some (.lst xs)=>f n xs z S
 | _=>.bad
def lm3 (f:Nat→List D→D→Sto→R Vl) (n:Nat) (r:R Vl):R Vl:=r.bind fun y S2=>match y with
 | .d z=>lm4 f n S2[n]? z S2
 | _=>.bad
def lm2 (f:Nat→List D→D→Sto→R Vl) (n:Nat) (o:Option Ob) (e:XE) (τ:Nv) (S:Sto):R Vl:=match o with
 | some (.lst _)=>lm3 f n (e τ S)
 | _=>.bad
def lm1 (f:Nat→List D→D→Sto→R Vl) (r:R Vl) (e:XE) (τ:Nv):R Vl:=r.bind fun x S1=>match x with
 | .r n=>lm2 f n S1[n]? e τ S1
 | _=>.bad
def sq1 (r:R (Fl×Nv)) (b:XS):R (Fl×Nv):=r.bind fun q S1=>match q.1 with
 | .nx=>b q.2 S1
 | _=>.ok q S1
def ex1 (r:R Vl) (τ:Nv):R (Fl×Nv):=r.bind fun _ S1=>.ok (.nx,τ) S1
def rt1 (r:R Vl) (τ:Nv):R (Fl×Nv):=r.bind fun z S1=>.ok (.rt z,τ) S1
def if1 (r:R Bool) (a b:XS) (τ:Nv):R (Fl×Nv):=r.bind fun k S1=>if k=true then a τ S1 else b τ S1
def as2 (r:R Nv):R (Fl×Nv):=r.bind fun τ1 S2=>.ok (.nx,τ1) S2
def as1 (r:R Vl) (g:XG) (τ:Nv):R (Fl×Nv):=r.bind fun z S1=>as2 (g z τ S1)
def gc1 (r:R Nv) (gs:XGs) (zs:List Vl):R Nv:=r.bind fun τ1 S1=>gs zs τ1 S1
def gs3 (r:R Unit) (τ:Nv):R Nv:=r.bind fun _ S3=>.ok τ S3
def gs2 (x:Vl) (r:R Vl) (f:Vl→Vl→Vl→Sto→R Unit) (z:Vl) (τ:Nv):R Nv:=r.bind fun y S2=>gs3 (f x y z S2) τ
def gs1 (r:R Vl) (i:XE) (f:Vl→Vl→Vl→Sto→R Unit) (z:Vl) (τ:Nv):R Nv:=r.bind fun x S1=>gs2 x (i τ S1) f z τ
noncomputable def fo1 (r:R Its) (g:XG) (b:XS) (τ:Nv):R (Fl×Nv):=r.bind fun I S1=>cK g b I.gd I.items τ S1
def is2 (n:Nat) (o:Option Ob) (S:Sto):R Its:=match o with
 | some (.lst xs)=>.ok ⟨xs.map Vl.d,some (n,.lst xs)⟩ S
 | _=>.bad
def is1 (r:R Vl):R Its:=r.bind fun z S1=>match z with
 | .d (.tup xs)=>.ok ⟨xs.map Vl.d,none⟩ S1
 | .d (.lst xs)=>.ok ⟨xs.map Vl.d,none⟩ S1
 | .r n=>is2 n S1[n]? S1
 | _=>.bad
def ir1 (r:R (List Vl)):R Its:=r.bind fun zs S1=>match zs with
 | [.d (.int j)]=>if -100000≤j∧j≤100000 then .ok ⟨(J_ j.toNat).map fun i=>Vl.d (.int (i:Nat)),none⟩ S1 else .bad
 | _=>.bad
def ir2 (r:R (List Vl)):R Its:=r.bind fun zs S1=>match zs with
 | [.d (.int i),.d (.int j)]=>if (-100000≤i∧i≤100000)∧-100000≤j∧j≤100000 then .ok ⟨(J_ (j - i).toNat).map fun k=>Vl.d (.int (i+(k:Nat))),none⟩ S1 else .bad
 | _=>.bad
def ie1 (r:R Vl):R Its:=r.bind fun z S1=>match z with
 | .d (.lst xs)=>.ok ⟨cH 0 xs,none⟩ S1
 | _=>.bad
theorem Bt {v:Vl} {τ:Nv} {S:Sto}:ae 0 (some v :: τ) S=.ok v S:=ak rfl
theorem Bh {n:Nat} {o:Option Vl} {τ:Nv} {S:Sto}:ae (n+1) (o :: τ) S=ae n τ S:=ak rfl
theorem Fe {x:D} {τ:Nv} {S:Sto}:xC x τ S=.ok (.d x) S:=ak rfl
theorem H_ {x:Str} {τ:Nv} {S:Sto}:xFn x τ S=.ok (.fn x) S:=ak rfl
theorem A8 {f:Vl→Vl→Sto→R Vl} {a b:XE} {τ:Nv} {S:Sto}:xOp f a b τ S=Ds f (a τ S) b τ:=ak rfl
theorem zb {f:Vl→Vl→Sto→R Vl} {b:XE} {τ:Nv} {S1:Sto} {x:Vl}:Ds f (.ok x S1) b τ=AH f x (b τ S1):=ak rfl
theorem ye {f:Vl→Vl→Sto→R Vl} {S1:Sto} {x y:Vl}:AH f x (.ok y S1)=f x y S1:=ak rfl
theorem GD {u:Vl→Sto→R Vl} {a:XE} {τ:Nv} {S:Sto}:xUn u a τ S=un1 u (a τ S):=ak rfl
theorem G_ {u:Vl→Sto→R Vl} {S1:Sto} {x:Vl}:un1 u (.ok x S1)=u x S1:=ak rfl
theorem zZ {f f2:Vl→Vl→Sto→R Vl} {a b c:XE} {τ:Nv} {S:Sto}:eJ f f2 a b c τ S=ch1 f f2 (a τ S) b c τ:=ak rfl
theorem GK {f f2:Vl→Vl→Sto→R Vl} {b c:XE} {τ:Nv} {S1:Sto} {x:Vl}:ch1 f f2 (.ok x S1) b c τ=ch2 f f2 x (b τ S1) c τ:=ak rfl
theorem GC {f f2:Vl→Vl→Sto→R Vl} {c:XE} {τ:Nv} {S1:Sto} {x y:Vl}:ch2 f f2 x (.ok y S1) c τ=ch3 (f x y S1) f2 y c τ:=ak rfl
theorem E4 {f:Vl→Vl→Sto→R Vl} {c:XE} {τ:Nv} {S1:Sto} {y:Vl}:ch3 (.ok (.d (.bl true)) S1) f y c τ=AH f y (c τ S1):=ak rfl
theorem FN {f:Vl→Vl→Sto→R Vl} {c:XE} {τ:Nv} {S1:Sto} {y:Vl}:ch3 (.ok (.d (.bl false)) S1) f y c τ=.ok (.d (.bl false)) S1:=ak rfl
theorem pz {a:XE} {τ:Nv} {S:Sto}:aF a τ S=t1 (a τ S):=ak rfl
theorem Ff {k:Bool} {S:Sto}:t1 (.ok (.d (.bl k)) S)=.ok k S:=ak rfl
theorem Dw {a:XE} {τ:Nv} {S:Sto}:bx a τ S=tr1 (a τ S):=ak rfl
theorem GY {z:Vl} {S:Sto}:tr1 (.ok z S)=tru z S:=ak rfl
theorem GU {k:Bool} {S:Sto}:tru (.d (.bl k)) S=.ok k S:=ak rfl
theorem G6 {xs:List D} {S:Sto}:tru (.d (.tup xs)) S=.ok (!xs.isEmpty) S:=ak rfl
theorem HV {xs:List D} {S:Sto}:tru (.d (.lst xs)) S=.ok (!xs.isEmpty) S:=ak rfl
theorem Hr {S:Sto}:tru (.d .non) S=.ok false S:=ak rfl
theorem Eb {a b:XT} {τ:Nv} {S:Sto}:l9 a b τ S=Ae (a τ S) b τ:=ak rfl
theorem Ex {b:XT} {τ:Nv} {S:Sto}:Ae (.ok true S) b τ=b τ S:=ak rfl
theorem Dt {b:XT} {τ:Nv} {S:Sto}:Ae (.ok false S) b τ=.ok false S:=ak rfl
theorem G0 {a b:XT} {τ:Nv} {S:Sto}:xOr a b τ S=or1 (a τ S) b τ:=ak rfl
theorem Hu {b:XT} {τ:Nv} {S:Sto}:or1 (.ok true S) b τ=.ok true S:=ak rfl
theorem HF {b:XT} {τ:Nv} {S:Sto}:or1 (.ok false S) b τ=b τ S:=ak rfl
theorem yP {a:XT} {τ:Nv} {S:Sto}:bH a τ S=F_ (a τ S):=ak rfl
theorem EW {S:Sto} {k:Bool}:F_ (.ok k S)=.ok (!k) S:=ak rfl
theorem C3 {a b:XE} {τ:Nv} {S:Sto}:bB a b τ S=u5 (a τ S) b τ:=ak rfl
theorem CV {b:XE} {τ:Nv} {S:Sto}:u5 (.ok (.d (.bl true)) S) b τ=b τ S:=ak rfl
theorem BV {b:XE} {τ:Nv} {S:Sto}:u5 (.ok (.d (.bl false)) S) b τ=.ok (.d (.bl false)) S:=ak rfl
theorem DC {a b:XE} {τ:Nv} {S:Sto}:wu a b τ S=AB (a τ S) b τ:=ak rfl
theorem Dx {b:XE} {τ:Nv} {S:Sto}:AB (.ok (.d (.bl true)) S) b τ=.ok (.d (.bl true)) S:=ak rfl
theorem DJ {b:XE} {τ:Nv} {S:Sto}:AB (.ok (.d (.bl false)) S) b τ=b τ S:=ak rfl
theorem Cj {a:XE} {τ:Nv} {S:Sto}:ow a τ S=A4 (a τ S):=ak rfl
theorem B1 {k:Bool} {S:Sto}:A4 (.ok (.d (.bl k)) S)=.ok (.d (.bl (!k))) S:=ak rfl
theorem Fo {c:XT} {a b:XE} {τ:Nv} {S:Sto}:wc c a b τ S=AA (c τ S) a b τ:=ak rfl
theorem D6 {a b:XE} {τ:Nv} {S:Sto}:AA (.ok true S) a b τ=a τ S:=ak rfl
theorem E1 {a b:XE} {τ:Nv} {S:Sto}:AA (.ok false S) a b τ=b τ S:=ak rfl
theorem yI {τ:Nv} {S:Sto}:aj τ S=.ok [] S:=ak rfl
theorem uN {a:XE} {r:XA} {τ:Nv} {S:Sto}:aa a r τ S=co1 (a τ S) r τ:=ak rfl
theorem A2 {r:XA} {τ:Nv} {S:Sto} {x:Vl}:co1 (.ok x S) r τ=co2 x (r τ S):=ak rfl
theorem Bs {S:Sto} {x:Vl} {xs:List Vl}:co2 x (.ok xs S)=.ok (x :: xs) S:=ak rfl
theorem Jm {r:XA} {τ:Nv} {S:Sto} {f:List Vl→Sto→R Vl}:xN f r τ S=n1 f (r τ S):=ak rfl
theorem JP {S:Sto} {xs:List Vl} {f:List Vl→Sto→R Vl}:n1 f (.ok xs S)=f xs S:=ak rfl
theorem uh {r:XA} {τ:Nv} {S:Sto} {F:XF}:aw F r τ S=c1 F (r τ S):=ak rfl
theorem FU {S:Sto} {xs:List Vl} {F:XF}:c1 F (.ok xs S)=noX (F xs S):=ak rfl
theorem A9 {x:Vl} {S:Sto}:noX (R.ok x S)=.ok x S:=ak rfl
theorem Hx {a:XE} {τ:Nv} {S:Sto}:xFz a τ S=fz1 (a τ S):=ak rfl
theorem Hy {z:Vl} {S:Sto}:fz1 (.ok z S)=frz z S:=ak rfl
theorem EA {x:D} {S:Sto}:frz (.d x) S=.ok (.d x) S:=ak rfl
theorem yE {τ:Nv} {S:Sto}:cI τ S=.ok none S:=ak rfl
theorem CH {a:XE} {τ:Nv} {S:Sto}:dr a τ S=p1 (a τ S):=ak rfl
theorem JM {i:Int} {S:Sto}:p1 (.ok (.d (.int i)) S)=.ok (some i) S:=ak rfl
theorem IM {f:Vl→Option Int→Option Int→Sto→R Vl} {a:XE} {l h:XO} {τ:Nv} {S:Sto}:xSl f a l h τ S=sl1 f (a τ S) l h τ:=ak rfl
theorem Hn {f:Vl→Option Int→Option Int→Sto→R Vl} {l h:XO} {τ:Nv} {S:Sto} {x:Vl}:sl1 f (.ok x S) l h τ=sl2 f x (l τ S) h τ:=ak rfl
theorem Io {f:Vl→Option Int→Option Int→Sto→R Vl} {h:XO} {τ:Nv} {S:Sto} {x:Vl} {i:Option Int}:sl2 f x (.ok i S) h τ=sl3 f x i (h τ S):=ak rfl
theorem Hd {f:Vl→Option Int→Option Int→Sto→R Vl} {S:Sto} {x:Vl} {i j:Option Int}:sl3 f x i (.ok j S)=f x i j S:=ak rfl
theorem Gu {f:Nat→List D→D→Sto→R Vl} {o e:XE} {τ:Nv} {S:Sto}:xLm f o e τ S=lm1 f (o τ S) e τ:=ak rfl
theorem Ia {f:Nat→List D→D→Sto→R Vl} {e:XE} {τ:Nv} {S:Sto} {n:Nat}:lm1 f (.ok (.r n) S) e τ=lm2 f n S[n]? e τ S:=ak rfl
theorem HG {f:Nat→List D→D→Sto→R Vl} {e:XE} {τ:Nv} {S:Sto} {n:Nat} {xs:List D}:lm2 f n (some (.lst xs)) e τ S=lm3 f n (e τ S):=ak rfl
theorem HU {f:Nat→List D→D→Sto→R Vl} {S:Sto} {n:Nat} {z:D}:lm3 f n (.ok (.d z) S)=lm4 f n S[n]? z S:=ak rfl
theorem G2 {f:Nat→List D→D→Sto→R Vl} {S:Sto} {n:Nat} {xs:List D} {z:D}:lm4 f n (some (.lst xs)) z S=f n xs z S:=ak rfl
theorem jZ {τ:Nv} {S:Sto}:aI τ S=.ok (.nx,τ) S:=ak rfl
theorem bG {a b:XS} {τ:Nv} {S:Sto}:ax a b τ S=sq1 (a τ S) b:=ak rfl
theorem iq {b:XS} {τ:Nv} {S:Sto}:sq1 (.ok (.nx,τ) S) b=b τ S:=ak rfl
theorem Hi {b:XS} {τ:Nv} {S:Sto} {v:Vl}:sq1 (.ok (.rt v,τ) S) b=.ok (.rt v,τ) S:=ak rfl
theorem HH {b:XS} {τ:Nv} {S:Sto}:sq1 (.ok (.bk,τ) S) b=.ok (.bk,τ) S:=ak rfl
theorem G1 {b:XS} {τ:Nv} {S:Sto}:sq1 (.ok (.ct,τ) S) b=.ok (.ct,τ) S:=ak rfl
theorem BW {τ:Nv} {S:Sto} {e:XE}:eB e τ S=ex1 (e τ S) τ:=ak rfl
theorem Hk {τ:Nv} {S:Sto} {z:Vl}:ex1 (.ok z S) τ=.ok (.nx,τ) S:=ak rfl
theorem sA {τ:Nv} {S:Sto} {e:XE}:aD e τ S=rt1 (e τ S) τ:=ak rfl
theorem IP {τ:Nv} {S:Sto} {z:Vl}:rt1 (.ok z S) τ=.ok (.rt z,τ) S:=ak rfl
theorem CQ {τ:Nv} {S:Sto}:GJ τ S=.ok (.rt (.d .non),τ) S:=ak rfl
theorem C8 {τ:Nv} {S:Sto}:HJ τ S=.ok (.ct,τ) S:=ak rfl
theorem zV {τ:Nv} {S:Sto}:E3 τ S=.ok (.bk,τ) S:=ak rfl
theorem dP {a b:XS} {τ:Nv} {S:Sto} {t:XT}:xIf t a b τ S=if1 (t τ S) a b τ:=ak rfl
theorem Dm {a b:XS} {τ:Nv} {S:Sto}:if1 (.ok true S) a b τ=a τ S:=ak rfl
theorem ll {a b:XS} {τ:Nv} {S:Sto}:if1 (.ok false S) a b τ=b τ S:=ak rfl
theorem sP {τ:Nv} {S:Sto} {e:XE} {g:XG}:aR e g τ S=as1 (e τ S) g τ:=ak rfl
theorem qK {τ:Nv} {S:Sto} {z:Vl} {g:XG}:as1 (.ok z S) g τ=as2 (g z τ S):=ak rfl
theorem n4 {τ1:Nv} {S:Sto}:as2 (.ok τ1 S)=.ok (.nx,τ1) S:=ak rfl
theorem gL {τ:Nv} {S:Sto} {z:Vl} {i:Nat}:gNm i z τ S=.ok (τ.set i (some z)) S:=ak rfl
theorem G3 {gs:XGs} {τ:Nv} {S:Sto} {xs:List D} {n:Nat}:gTu n gs (.d (.tup xs)) τ S=if xs.length=n then gs (xs.map Vl.d) τ S else .bad:=ak rfl
theorem Hc {τ:Nv} {S:Sto}:gN0 [] τ S=.ok τ S:=ak rfl
theorem Gy {g:XG} {gs:XGs} {τ:Nv} {S:Sto} {z:Vl} {zs:List Vl}:gCo g gs (z :: zs) τ S=gc1 (g z τ S) gs zs:=ak rfl
theorem Ib {gs:XGs} {τ1:Nv} {S:Sto} {zs:List Vl}:gc1 (.ok τ1 S) gs zs=gs zs τ1 S:=ak rfl
theorem Br {τ:Nv} {S:Sto} {z:Vl} {o e:XE} {f:Vl→Vl→Vl→Sto→R Unit}:gSb o e f z τ S=gs1 (o τ S) e f z τ:=ak rfl
theorem A0 {τ:Nv} {S:Sto} {z x:Vl} {e:XE} {f:Vl→Vl→Vl→Sto→R Unit}:gs1 (.ok x S) e f z τ=gs2 x (e τ S) f z τ:=ak rfl
theorem AZ {τ:Nv} {S:Sto} {z x y:Vl} {f:Vl→Vl→Vl→Sto→R Unit}:gs2 x (.ok y S) f z τ=gs3 (f x y z S) τ:=ak rfl
theorem wm {τ:Nv} {S:Sto}:gs3 (.ok () S) τ=.ok τ S:=ak rfl
theorem lD {it:XI} {g:XG} {b:XS} {τ:Nv} {S:Sto}:d_ it g b τ S=fo1 (it τ S) g b τ:=ak rfl
theorem vA {g:XG} {b:XS} {τ:Nv} {S:Sto} {I:Its}:fo1 (.ok I S) g b τ=cK g b I.gd I.items τ S:=ak rfl
theorem tf {τ:Nv} {S:Sto} {e:XE}:cX e τ S=is1 (e τ S):=ak rfl
theorem sY {S:Sto} {xs:List D}:is1 (.ok (.d (.tup xs)) S)=.ok ⟨xs.map Vl.d,none⟩ S:=ak rfl
theorem DF {S:Sto} {xs:List D}:is1 (.ok (.d (.lst xs)) S)=.ok ⟨xs.map Vl.d,none⟩ S:=ak rfl
theorem Dv {S:Sto} {n:Nat}:is1 (.ok (.r n) S)=is2 n S[n]? S:=ak rfl
theorem GB {S:Sto} {xs:List D} {n:Nat}:is2 n (some (.lst xs)) S=.ok ⟨xs.map Vl.d,some (n,.lst xs)⟩ S:=ak rfl
theorem FQ {τ:Nv} {S:Sto} {as:XA}:gz as τ S=ir1 (as τ S):=ak rfl
theorem EO {τ:Nv} {S:Sto} {as:XA}:zi as τ S=ir2 (as τ S):=ak rfl
theorem r0 {τ:Nv} {S:Sto} {e:XE}:tB e τ S=ie1 (e τ S):=ak rfl
theorem HX {S:Sto} {xs:List D}:ie1 (.ok (.d (.lst xs)) S)=.ok ⟨cH 0 xs,none⟩ S:=ak rfl
theorem nS {j:Int} {S:Sto} (h:-100000≤j∧j≤100000):ir1 (.ok [.d (.int j)] S)=.ok ⟨(J_ j.toNat).map fun i=>Vl.d (.int (i:Nat)),none⟩ S:=by rw [show ir1 (.ok [.d (.int j)] S)=if -100000≤j∧j≤100000 then .ok ⟨(J_ j.toNat).map fun i=>Vl.d (.int (i:Nat)),none⟩ S else .bad from rfl,J2 h]
theorem vI {i j:Int} {S:Sto} (h:(-100000≤i∧i≤100000)∧-100000≤j∧j≤100000):ir2 (.ok [.d (.int i),.d (.int j)] S)=.ok ⟨(J_ (j - i).toNat).map fun k=>Vl.d (.int (i+(k:Nat))),none⟩ S:=by rw [show ir2 (.ok [.d (.int i),.d (.int j)] S)=if (-100000≤i∧i≤100000)∧-100000≤j∧j≤100000 then .ok ⟨(J_ (j - i).toNat).map fun k=>Vl.d (.int (i+(k:Nat))),none⟩ S else .bad from rfl,J2 h]
theorem Jx {i j:Int} {S:Sto} {g:Int→Int→D}:oI0 g (.d (.int i)) (.d (.int j)) S=.ok (.d (g i j)) S:=ak rfl
theorem DS {i j:Int} {S:Sto}:bq (.d (.int i)) (.d (.int j)) S=.ok (.d (.int (i+j))) S:=ak rfl
theorem GH {i:Int} {S:Sto}:cV (.d (.int i)) S=.ok (.d (.int (-i))) S:=ak rfl
theorem j6 {S:Sto} {xs ys:List D} (h:xs.length+ys.length≤100000):bq (.d (.tup xs)) (.d (.tup ys)) S=.ok (.d (.tup (xs++ys))) S:=by rw [show bq (.d (.tup xs)) (.d (.tup ys)) S=if xs.length+ys.length≤100000 then .ok (.d (.tup (xs++ys))) S else .bad from rfl,J2 h]
theorem q_ {S:Sto} {xs ys:List D} (h:xs.length+ys.length≤100000):bq (.d (.lst xs)) (.d (.lst ys)) S=.ok (.d (.lst (xs++ys))) S:=by rw [show bq (.d (.lst xs)) (.d (.lst ys)) S=if xs.length+ys.length≤100000 then .ok (.d (.lst (xs++ys))) S else .bad from rfl,J2 h]
theorem Hq {i j:Int} {S:Sto}:oEq (.d (.int i)) (.d (.int j)) S=.ok (.d (.bl (decide (i=j)))) S:=ak rfl
theorem GQ {i j:Int} {S:Sto}:oNe (.d (.int i)) (.d (.int j)) S=.ok (.d (.bl (!decide (i=j)))) S:=ak rfl
theorem Gs {S:Sto} {s t:Str}:oEq (.d (.str s)) (.d (.str t)) S=.ok (.d (.bl (decide (s=t)))) S:=ak rfl
theorem G9 {S:Sto} {s t:Str}:oNe (.d (.str s)) (.d (.str t)) S=.ok (.d (.bl (!decide (s=t)))) S:=ak rfl
theorem ID {S:Sto} {p q:Bool}:oEq (.d (.bl p)) (.d (.bl q)) S=.ok (.d (.bl (decide (p=q)))) S:=ak rfl
theorem HK {S:Sto} {p q:Bool}:oNe (.d (.bl p)) (.d (.bl q)) S=.ok (.d (.bl (!decide (p=q)))) S:=ak rfl
theorem sQ {S:Sto} {xs ys:List D} (h:D.depth (.lst xs)≤50):oEq (.d (.lst xs)) (.d (.lst ys)) S=.ok (.d (.bl (D.bQ xs ys))) S:=by
 have:eqD (.d (.lst xs)) (.d (.lst ys)) S=some (D.bQ xs ys):=by rw [show eqD (.d (.lst xs)) (.d (.lst ys)) S=if D.depth (.lst xs)≤50 then some (D.bQ xs ys) else none from rfl,J2 h]
 unfold oEq;rw [this]
theorem Bm {S:Sto} {xs ys:List D} (h:D.depth (.tup xs)≤50):oNe (.d (.tup xs)) (.d (.tup ys)) S=.ok (.d (.bl (!D.bQ xs ys))) S:=by
 have:eqD (.d (.tup xs)) (.d (.tup ys)) S=some (D.bQ xs ys):=by rw [show eqD (.d (.tup xs)) (.d (.tup ys)) S=if D.depth (.tup xs)≤50 then some (D.bQ xs ys) else none from rfl,J2 h]
 unfold oNe;rw [this]
theorem r_ {S:Sto} {xs ys:List D} (h:D.depth (.lst xs)≤50):oNe (.d (.lst xs)) (.d (.lst ys)) S=.ok (.d (.bl (!D.bQ xs ys))) S:=by
 have:eqD (.d (.lst xs)) (.d (.lst ys)) S=some (D.bQ xs ys):=by rw [show eqD (.d (.lst xs)) (.d (.lst ys)) S=if D.depth (.lst xs)≤50 then some (D.bQ xs ys) else none from rfl,J2 h]
 unfold oNe;rw [this]
theorem HC {S:Sto} {p q:Bool}:oIs (.d (.bl p)) (.d (.bl q)) S=.ok (.d (.bl (p == q))) S:=ak rfl
theorem Ed {S:Sto}:oIs (.d .non) (.d .non) S=.ok (.d (.bl true)) S:=ak rfl
theorem EL {S:Sto} {xs:List D}:oIs (.d (.tup xs)) (.d .non) S=.ok (.d (.bl false)) S:=ak rfl
theorem Gd {S:Sto} {xs:List D}:oIs (.d (.lst xs)) (.d .non) S=.ok (.d (.bl false)) S:=ak rfl
theorem D3 {i:Int} {S:Sto}:oIs (.d (.int i)) (.d .non) S=.ok (.d (.bl false)) S:=ak rfl
theorem zA {S:Sto}:qQ (.d .non) (.d .non) S=.ok (.d (.bl false)) S:=ak rfl
theorem An {S:Sto} {xs:List D}:qQ (.d (.tup xs)) (.d .non) S=.ok (.d (.bl true)) S:=ak rfl
theorem zL {S:Sto} {xs:List D}:qQ (.d (.lst xs)) (.d .non) S=.ok (.d (.bl true)) S:=ak rfl
theorem AS {i:Int} {S:Sto}:qQ (.d (.int i)) (.d .non) S=.ok (.d (.bl true)) S:=ak rfl
theorem GV {T:String} {x:D} {S:Sto}:bS T (.d x) S=.ok (.d (.bl (isT T x))) S:=ak rfl
theorem xT {S:Sto} {xs:List D}:aU [.d (.tup xs)] S=.ok (.d (.int xs.length)) S:=ak rfl
theorem DY {S:Sto} {xs:List D}:aU [.d (.lst xs)] S=.ok (.d (.int xs.length)) S:=ak rfl
theorem FP {S:Sto} {xs:List D}:c_ [.d (.tup xs)] S=.ok (.d (.tup xs)) S:=ak rfl
theorem FW {S:Sto} {xs:List D}:c_ [.d (.lst xs)] S=.ok (.d (.tup xs)) S:=ak rfl
theorem FC {S:Sto} {xs:List D}:gK [.d (.tup xs)] S=.ok (.d (.lst xs)) S:=ak rfl
theorem Em {S:Sto} {xs:List D}:gK [.d (.lst xs)] S=.ok (.d (.lst xs)) S:=ak rfl
theorem C4 {S:Sto} {xs:List D}:jV [.d (.tup xs)] S=.ok (.r S.length) (S++[.lst xs]):=ak rfl
theorem ux {S:Sto} {xs:List D}:jV [.d (.lst xs)] S=.ok (.r S.length) (S++[.lst xs]):=ak rfl
theorem Ik {i j:Int} {S:Sto}:rq [.d (.int i),.d (.int j)] S=.ok (.d (.int (if j > i then j else i))) S:=ak rfl
theorem HB {i j:Int} {S:Sto}:nz [.d (.int i),.d (.int j)] S=.ok (.d (.int (if j < i then j else i))) S:=ak rfl
theorem aY {i:Int} {S:Sto} {xs:List D} {z:D} (h:atI xs i=some z):oIx (.d (.tup xs)) (.d (.int i)) S=.ok (.d z) S:=by rw [show oIx (.d (.tup xs)) (.d (.int i)) S=(match atI xs i with | some z=>.ok (.d z) S | none=>.bad) from rfl,h]
theorem eT {i:Int} {S:Sto} {xs:List D} {z:D} (h:atI xs i=some z):oIx (.d (.lst xs)) (.d (.int i)) S=.ok (.d z) S:=by rw [show oIx (.d (.lst xs)) (.d (.int i)) S=(match atI xs i with | some z=>.ok (.d z) S | none=>.bad) from rfl,h]
theorem oO {i:Int} {S:Sto} {xs:List D} {z:D} {n:Nat} (e:S[n]?=some (.lst xs)) (h:atI xs i=some z):oIx (.r n) (.d (.int i)) S=.ok (.d z) S:=by
 have:cb (.r n) S=some xs:=by unfold cb dv;dsimp only;rw [e]
 unfold oIx;dsimp only;rw [this];dsimp only;rw [h]
theorem o7 {S:Sto} {xs:List D} {n:Nat} (e:S[n]?=some (.lst xs)):aU [.r n] S=.ok (.d (.int xs.length)) S:=by
 have:cb (.r n) S=some xs:=by unfold cb dv;dsimp only;rw [e]
 unfold aU;dsimp only;rw [this]
theorem Gv {xs:List D} {i j:Option Int} {S:Sto}:oSl (.d (.tup xs)) i j S=.ok (.d (.tup (cW xs i j))) S:=ak rfl
theorem G8 {xs:List D} {i j:Option Int} {S:Sto}:oSl (.d (.lst xs)) i j S=.ok (.d (.lst (cW xs i j))) S:=ak rfl
theorem Ha {ns:List Int} {i j:Option Int} {S:Sto}:sV (.sc ns) i j S=.ok (.d (.lst (cW (ns.map D.int) i j))) S:=ak rfl
theorem Iy {S:Sto} {xs:List D}:tN (.d (.tup xs)) (.d (.int (-1))) S=.ok (.d (.tup xs.reverse)) S:=ak rfl
theorem HM {i j:Int} {S:Sto}:dQ (.d (.int i)) (.d (.int j)) S=.ok (.d (.int (i - j))) S:=ak rfl
theorem JH {i j:Int} {S:Sto}:oLt (.d (.int i)) (.d (.int j)) S=.ok (.d (.bl (decide (i < j)))) S:=ak rfl
theorem wa {i j:Int} {S:Sto}:oLe (.d (.int i)) (.d (.int j)) S=.ok (.d (.bl (decide (i≤j)))) S:=ak rfl
theorem JG {i j:Int} {S:Sto}:oGt (.d (.int i)) (.d (.int j)) S=.ok (.d (.bl (decide (j < i)))) S:=ak rfl
theorem JB {i j:Int} {S:Sto}:oGe (.d (.int i)) (.d (.int j)) S=.ok (.d (.bl (decide (j≤i)))) S:=ak rfl
theorem qI {i j:Int} {S:Sto} (h:kg i j):f_ (.d (.int i)) (.d (.int j)) S=.ok (.d (.int (i * j))) S:=by rw [show f_ (.d (.int i)) (.d (.int j)) S=if kg i j then .ok (.d (.int (i * j))) S else .bad from rfl,J2 h]
theorem A7 {i j:Int} {S:Sto} (h:0 < j):oMod (.d (.int i)) (.d (.int j)) S=.ok (.d (.int (i % j))) S:=by rw [show oMod (.d (.int i)) (.d (.int j)) S=if 0 < j then .ok (.d (.int (i % j))) S else .bad from rfl,J2 h]
theorem HE {i j:Int} {S:Sto} (h:o_ i j):oDiv (.d (.int i)) (.d (.int j)) S=.ok (.d (.int (i / j))) S:=by rw [show oDiv (.d (.int i)) (.d (.int j)) S=if o_ i j then .ok (.d (.int (i / j))) S else .bad from rfl,J2 h]
theorem mI {i j:Int} {S:Sto} (h:pf i j):pH (.d (.int i)) (.d (.int j)) S=.ok (.d (.int (i ^ j.toNat))) S:=by rw [show pH (.d (.int i)) (.d (.int j)) S=if pf i j then .ok (.d (.int (i ^ j.toNat))) S else .bad from rfl,J2 h]
theorem qV {i j:Int} (h1:-(2 ^ 64) < j) (h2:j < 2 ^ 64):kg i j:=.inr ⟨h1,h2⟩
theorem Fp:mkT [] S=.ok (.d (.tup [])) S:=ak rfl
theorem EG:mkL [] S=.ok (.d (.lst [])) S:=ak rfl
theorem DP:mkM [] S=.ok (.r S.length) (S++[.lst []]):=ak rfl
theorem Fz:mkT [.d a] S=.ok (.d (.tup [a])) S:=ak rfl
theorem Ez:mkL [.d a] S=.ok (.d (.lst [a])) S:=ak rfl
theorem El:mkM [.d a] S=.ok (.r S.length) (S++[.lst [a]]):=ak rfl
theorem D8:mkT [.d a,.d b] S=.ok (.d (.tup [a,b])) S:=ak rfl
theorem Eh:mkL [.d a,.d b] S=.ok (.d (.lst [a,b])) S:=ak rfl
theorem EC:mkM [.d a,.d b] S=.ok (.r S.length) (S++[.lst [a,b]]):=ak rfl
theorem Ga:mkT [.d a,.d b,.d c] S=.ok (.d (.tup [a,b,c])) S:=ak rfl
theorem FL:mkL [.d a,.d b,.d c] S=.ok (.d (.lst [a,b,c])) S:=ak rfl
theorem Ge:mkM [.d a,.d b,.d c] S=.ok (.r S.length) (S++[.lst [a,b,c]]):=ak rfl
theorem Fs:mkT [.d a,.d b,.d c,.d d] S=.ok (.d (.tup [a,b,c,d])) S:=ak rfl
theorem DV:mkL [.d a,.d b,.d c,.d d] S=.ok (.d (.lst [a,b,c,d])) S:=ak rfl
theorem EI:mkT [.d a,.d b,.d c,.d d,.d e] S=.ok (.d (.tup [a,b,c,d,e])) S:=ak rfl
theorem DQ:mkL [.d a,.d b,.d c,.d d,.d e] S=.ok (.d (.lst [a,b,c,d,e])) S:=ak rfl
theorem DD:mkT [.d a,.d b,.d c,.d d,.d e,.d f] S=.ok (.d (.tup [a,b,c,d,e,f])) S:=ak rfl
theorem Gi:mkL [.d a,.d b,.d c,.d d,.d e,.d f] S=.ok (.d (.lst [a,b,c,d,e,f])) S:=ak rfl
theorem D9:mkT [.d a,.d b,.d c,.d d,.d e,.d f,.d g] S=.ok (.d (.tup [a,b,c,d,e,f,g])) S:=ak rfl
theorem D7:mkL [.d a,.d b,.d c,.d d,.d e,.d f,.d g] S=.ok (.d (.lst [a,b,c,d,e,f,g])) S:=ak rfl
theorem DZ:mkT [.d a,.d b,.d c,.d d,.d e,.d f,.d g,.d h] S=.ok (.d (.tup [a,b,c,d,e,f,g,h])) S:=ak rfl
theorem F6:mkL [.d a,.d b,.d c,.d d,.d e,.d f,.d g,.d h] S=.ok (.d (.lst [a,b,c,d,e,f,g,h])) S:=ak rfl
theorem EM:mkT [.d a,.d b,.d c,.d d,.d e,.d f,.d g,.d h,.d i] S=.ok (.d (.tup [a,b,c,d,e,f,g,h,i])) S:=ak rfl
theorem DK:mkL [.d a,.d b,.d c,.d d,.d e,.d f,.d g,.d h,.d i] S=.ok (.d (.lst [a,b,c,d,e,f,g,h,i])) S:=ak rfl
theorem CO:mkT [.d a,.d b,.d c,.d d,.d e,.d f,.d g,.d h,.d i,.d j] S=.ok (.d (.tup [a,b,c,d,e,f,g,h,i,j])) S:=ak rfl
theorem C5:mkL [.d a,.d b,.d c,.d d,.d e,.d f,.d g,.d h,.d i,.d j] S=.ok (.d (.lst [a,b,c,d,e,f,g,h,i,j])) S:=ak rfl
theorem BQ:mkT [.d a,.d b,.d c,.d d,.d e,.d f,.d g,.d h,.d i,.d j,.d k] S=.ok (.d (.tup [a,b,c,d,e,f,g,h,i,j,k])) S:=ak rfl
theorem C1:mkL [.d a,.d b,.d c,.d d,.d e,.d f,.d g,.d h,.d i,.d j,.d k] S=.ok (.d (.lst [a,b,c,d,e,f,g,h,i,j,k])) S:=ak rfl
theorem BJ:mkT [.d a,.d b,.d c,.d d,.d e,.d f,.d g,.d h,.d i,.d j,.d k,.d l] S=.ok (.d (.tup [a,b,c,d,e,f,g,h,i,j,k,l])) S:=ak rfl
theorem B6:mkL [.d a,.d b,.d c,.d d,.d e,.d f,.d g,.d h,.d i,.d j,.d k,.d l] S=.ok (.d (.lst [a,b,c,d,e,f,g,h,i,j,k,l])) S:=ak rfl
theorem dD {R:Sto}:(o :: (R++[x]))[R.length+1]?=some x:=by simp
theorem Ca {R:Sto}:(o :: (R++[x])).set (R.length+1) y=o :: (R++[y]):=by simp
theorem z0 {R:Sto}:(R++[x])[R.length]?=some x:=by simp
theorem zE {R:Sto}:(R++[x]).set R.length y=R++[y]:=by simp
theorem zm {R:Sto}:(R++[x,y])[R.length]?=some x:=by simp
theorem Az {R:Sto}:(R++[x,y]).set R.length z=R++[z,y]:=by simp
theorem zR {R:Sto}:(R++[x,y])[R.length+1]?=some y:=by simp
theorem AO {R:Sto}:(R++[x,y]).set (R.length+1) z=R++[x,z]:=by simp
theorem xf (ns:List Int):(ns.map D.int).all D.flat=true:=by rw [Ol];exact Mv.mpr fun _ _=>rfl
theorem Cy (w:Int) (ns:List Int):inD (.int w) (ns.map D.int)=decide (w∈ns):=by
 unfold inD
 rw [SJ,Lm,OU,M8]
 constructor
 ·rintro ⟨x,hx,e⟩
  have e':(x == w)=true:=e
  rw [← (Lv.mp e')];exact hx
 ·intro h
  exact ⟨w,h,by show (w == w)=true;simp⟩
theorem qS (e:S[n]?=some (.lst xs)):cb (.r n) S=some xs:=by unfold cb dv;dsimp only;rw [e]
theorem HL (e:S[n]?=some (.lst xs)):dv (.r n) S=some xs:=by unfold dv;dsimp only;rw [e]
theorem i5 {ns:List Int} (h:cb y S=some (ns.map D.int)):inX (.d (.int w)) y S=some (decide (w∈ns)):=by
 unfold inX
 dsimp only
 rw [h]
 dsimp only
 rw [show D.flat (.int w)=true from rfl,xf,J2 (by rfl),Cy]
theorem Iw {ns:List Int}:oIn (.d (.int w)) (.d (.tup (ns.map D.int))) S=.ok (.d (.bl (decide (w∈ns)))) S:=by unfold oIn;rw [i5 (ns:=ns) rfl]
theorem Dn {ns:List Int}:eH (.d (.int w)) (.d (.tup (ns.map D.int))) S=.ok (.d (.bl (!decide (w∈ns)))) S:=by unfold eH;rw [i5 (ns:=ns) rfl]
theorem Ih {ns:List Int}:oIn (.d (.int w)) (.d (.lst (ns.map D.int))) S=.ok (.d (.bl (decide (w∈ns)))) S:=by unfold oIn;rw [i5 (ns:=ns) rfl]
theorem Du {ns:List Int}:eH (.d (.int w)) (.d (.lst (ns.map D.int))) S=.ok (.d (.bl (!decide (w∈ns)))) S:=by unfold eH;rw [i5 (ns:=ns) rfl]
theorem rQ {ns:List Int} (e:S[n]?=some (.lst (ns.map D.int))):eH (.d (.int w)) (.r n) S=.ok (.d (.bl (!decide (w∈ns)))) S:=by unfold eH;rw [i5 (qS e)]
theorem oB (h:xs.length < 100000):jw n xs z S=.ok (.d .non) (S.set n (.lst (xs++[z]))):=by unfold jw;rw [J2 h]
theorem BD (e:cb x S=some (ns.map D.int)) (h:ns.length < 64):kA [x] S=.ok (.d (.lst ((sortI ns).map D.int))) S:=by
 unfold kA
 dsimp only
 rw [e,OX,kr]
 dsimp only
 rw [J2 h]
theorem uF (e:S[n]?=some (.lst (ns.map D.int))) (h:ns.length < 64):kA [.r n] S=.ok (.d (.lst ((sortI ns).map D.int))) S:=BD (qS e) h
theorem vc (e:cb x S=some (ns.map D.int)) (h:ns.length≤300) (h2:(bJ ns).length < 64):oSS x S=.ok (.d (.lst ((bJ ns).map D.int))) S:=by
 unfold oSS wg
 rw [e,OX,kr]
 dsimp only
 rw [J2 ⟨h,h2⟩]
theorem rE (x:Int):∀ ys,(iM x ys).length≤ys.length+1
 | []=>by simp [iM]
 | y :: ys=>by
  unfold iM
  split
  ·simp
  ·split
   ·simp
   ·have:=rE x ys
    simp
    omega
theorem fP:∀ xs,(bJ xs).length≤xs.length
 | []=>by simp [bJ]
 | x :: xs=>by
  have:=rE x (bJ xs)
  have:=fP xs
  rw [bJ,Km]
  omega
theorem gR (ns:List Int):(sortI ns).length=ns.length:=(sortI_perm ns).length_eq
theorem qk (ns:List Int) (z:Int):z∈sortI ns↔z∈ns:=(sortI_perm ns).mem_iff
theorem rS (h:ns.Nodup):(sortI ns).Pairwise (· < ·):=((j9 ns).and ((sortI_perm ns).nodup_iff.mpr h)).imp fun z=>by have:=z.1;have:=z.2;omega
theorem iS (h:fZ ds=some bs):i9 [.d (.lst ds)] S=.ok (.d (.bl (bs.all id))) S:=by
 unfold i9
 dsimp only
 rw [show dv (.d (.lst ds)) S=some ds from rfl,OX,h]
theorem uJ (f:α→Bool):∀ l:List α,fZ (l.map fun x=>D.bl (f x))=some (l.map f)
 | []=>rfl
 | x :: l=>by simp [fZ,uJ f l]
theorem iY (f:α→Int):∀ l:List α,intsOf (l.map fun x=>D.int (f x))=some (l.map f)
 | []=>rfl
 | x :: l=>by simp [intsOf,iY f l]
theorem iV {α:Type} {f:α→Bool} {l:List α} {S:Sto}:i9 [.d (.lst (l.map fun x=>D.bl (f x)))] S=.ok (.d (.bl (l.all f))) S:=by rw [iS (uJ f l),Ol];rfl
theorem DA (h:0≤j∧j≤1000):lrg zp [.d (.int j)] S=.ok (.r S.length) (S++[.lst ((J_ j.toNat).map fun i=>D.int (i:Nat))]):=by
 unfold lrg
 dsimp only
 rw [J2 h]
 rfl
theorem HQ (h:0≤i∧i < 2 ^ 63) (e:xs[i.toNat]?=some y):tw n xs (.int i) S=.ok (.d y) (S.set n (.lst (xs.eraseIdx i.toNat))):=by
 unfold tw
 dsimp only
 rw [J2 h,e]
theorem Bx (hC:xLC it 1 (gNm 0) t e τ S=r) (hit:it τ S=.ok ⟨items,none⟩ S1) (J:Nat→List D→Sto→Prop) (h0:J 0 [] S1)
  (hs:∀ i z acc Q,items[i]?=some z→J i acc Q→Q.length=S1.length→∃ b Q1,t (some z :: τ) (Q++[.lst acc])=.ok b (Q1++[.lst acc])∧Q1.length=S1.length ∧
   (b=true→∃ x Q2,e (some z :: τ) (Q1++[.lst acc])=.ok (.d x) (Q2++[.lst acc])∧Q2.length=S1.length∧J (i+1) (acc++[x]) Q2)∧(b=false→J (i+1) acc Q1)) :
  ∃ acc Q,r=.ok (.d (.lst acc)) Q∧Q.length=S1.length∧J items.length acc Q:=by
 obtain ⟨acc,Q,e1,h⟩:=xZ (t:=t) (e:=e) hit J h0 hs
 exact ⟨acc,Q,hC.symm.trans e1,h⟩
theorem lS (hC:xLC it 1 (gNm 0) (fun _ S=>.ok true S) e τ S=r) (hit:it τ S=.ok ⟨items,none⟩ S1) (J:Nat→List D→Sto→Prop) (h0:J 0 [] S1)
  (hs:∀ i z acc Q,items[i]?=some z→J i acc Q→Q.length=S1.length→∃ x Q2,e (some z :: τ) (Q++[.lst acc])=.ok (.d x) (Q2++[.lst acc])∧Q2.length=S1.length∧J (i+1) (acc++[x]) Q2) :
  ∃ acc Q,r=.ok (.d (.lst acc)) Q∧Q.length=S1.length∧J items.length acc Q:=
 Bx hC hit J h0 fun i z acc Q hz hJ hl=>⟨true,Q,rfl,hl,fun _=>hs i z acc Q hz hJ hl,fun z=>(by cases z)⟩
theorem gB (hC:xLC (cX a) 1 (gNm 0) (fun _ S=>.ok true S) e τ S=r) (ha:a τ S=.ok (.d (.tup xs)) S1) (f:D→D) (hs:∀ x∈xs,∀ S:Sto,e (some (.d x) :: τ) S=.ok (.d (f x)) S):r=.ok (.d (.lst (xs.map f))) S1:=by
 rw [← hC,sX (items:=xs.map Vl.d) (S1:=S1) (by rw [tf,ha,sY]) (fun z=>match z with | .d x=>f x | _=>.non) (by
  intro z hz S
  obtain ⟨x,hx,rfl⟩:=La.mp hz
  exact hs x hx S)]
 rw [L6]
 rfl
theorem eD (hL:d_ it g b τ S=r) (hit:it τ S=.ok ⟨items,gd⟩ S1) (I:Nat→Nv→Sto→Prop) (h0:I 0 τ S1)
  (hs:∀ i z τ S,items[i]?=some z→I i τ S→∃ τ1 S1 fl τ2 S2,g z τ S=.ok τ1 S1∧b τ1 S1=.ok (fl,τ2) S2∧(fl=.nx∨fl=.ct)∧gok gd S2∧I (i+1) τ2 S2):∃ τ' S',r=.ok (.nx,τ') S'∧I items.length τ' S':=by
 obtain ⟨τ',S',e,h⟩:=rA (g:=g) (b:=b) (gd:=gd) I h0 hs
 refine ⟨τ',S',?_,h⟩
 rw [← hL,lD,hit,vA]
 exact e
theorem fO (h:((J_ n).map fun i=>Vl.d (.int (i:Nat)))[i]?=some z):i < n∧z=.d (.int i):=by
 have hi:i < n:=by simpa using (J5.mp h).1
 rw [Kv,Ph hi] at h
 exact ⟨hi,(KA h).symm⟩
theorem e9:((J_ n).map fun i=>Vl.d (.int (i:Nat))).length=n:=by simp
theorem dw {α β:Type} {f:α→β} {l:List α} {x:α}:(l++[x]).map f=l.map f++[f x]:=by rw [O_];rfl
end L2
namespace L2
open PySem PySem.Spec PyProof.Rows ZS
section
variable {X:Cx} {WE:WX}
def SqH (H:Hp) (a:Addr) (ts:List (List Int)):Prop:=∃ ads:List Addr,(H a=some (.lst (ads.map V.ref))∨H a=some (.tup (ads.map V.ref)))∧ads.length=ts.length∧∀ j,j < ts.length→H (ads.getD j 0)=some (.tup ((ts.getD j []).map V.int))
theorem md:∀ {ads:List Addr} {its:List Value},Vals (ads.map V.ref) its→its=ads.map Kg
 | [],_,r=>by cases r;rfl
 | a :: ads,_,r=>by
  cases r with
  | cons h t=>
   cases h
   rw [md t];rfl
theorem mP:∀ {its:List Value} {ns:List Int},K8 its ns→ItemsAre (KI prog w) ns its
 | _,_,.nil=>.nil
 | _,_,.cons n t r=>.cons (intKind_is prog w n t) (mP r)
theorem SqH.at (I:Inv X pins σ H s) (h:SqH H a ts):∃ (ads:List Addr) (k:Bool),ads.length=ts.length∧jP s.heap a (ads.map Kg).toArray k∧∀ j,j < ts.length→K2 (KI X.prog X.w) s.heap (ts.getD j []) (ads.getD j 0):=by
 obtain ⟨ads,h,hl,hk⟩:=h
 have hkey:∀ j,j < ts.length→K2 (KI X.prog X.w) s.heap (ts.getD j []) (ads.getD j 0):=fun j hj=>by
  obtain ⟨its,rv,⟨o,e,c,n,d⟩,hz⟩:=I.tuple (SqT.of (hk j hj))
  exact ⟨o,_,n,e,c,d,by simpa using mP (intsAre_of rv)⟩
 rcases h with h | h
 ·obtain ⟨its,rv,pl,hz⟩:=I.list (SqL.of h)
  rw [md rv] at pl
  exact ⟨ads,true,hl,pl.isList,hkey⟩
 ·obtain ⟨its,rv,pl,hz⟩:=I.tuple (SqT.of h)
  rw [md rv] at pl
  exact ⟨ads,false,hl,pl,hkey⟩
def Ji (te:TE):TE:=fun σ H Q=>te σ H fun x H1=>((∃ (a:Addr) (ns:List Int),x=.ref a∧SqI H1 a ns∧ns.length≤300∧Q (.int (bJ ns).length) H1)∨∃ (a:Addr) (ts:List (List Int)),x=.ref a∧SqH H1 a ts∧ts.length≤300∧Q (.int (uq ts).length) H1)
theorem F2 {e:Ke} {te:TE} {p1 p2 pos1 pos2:Pos} (hc:X.calm=true) (hgs:Gl X "len") (hms:X.mg "len"=none) (hgt:Gl X "set") (hmt:X.mg "set"=none) (hbs:Kj "len"=some (.builtin "len")) (hbt:Kj "set"=some (.type "set")) (hu:X.A.units+64 < cLine) (he:PE X e te)
  (hs:J7 [e] X.env=(false,KC e X.env) :: J7 [] X.env:=by rfl)
  (hs2:J7 [Mc (.Name "set" p2) [e] [] pos2] X.env=(false,KC (Mc (.Name "set" p2) [e] [] pos2) X.env) :: J7 [] X.env:=by rfl) :
  PE X (.Call (.Name "len" p1) [.Call (.Name "set" p2) [e] [] pos2] [] pos1) (Ji te):=by
 intro pins s σ H Q I h
 refine LV (df I hgs hms hbs ?_)
 rw [hs2]
 refine ND (by show (false || (Ly pos1 (J7 ([]:List Ke) X.env)).any (·.1))=false;rfl) (Nc ?_)
 show JY _ _ (SN ((false,KC (Mc (.Name "set" p2) [e] [] pos2) X.env) :: Ly pos1 (J7 [] X.env))) _ _ s
 refine Of ?_
 have hA:=(di he fY hs) pos2 pins s σ H (fun vs H1=>∃ x,vs=[x]∧((∃ (a:Addr) (ns:List Int),x=.ref a∧SqI H1 a ns∧ns.length≤300∧Q (.int (bJ ns).length) H1)∨∃ (a:Addr) (ts:List (List Int)),x=.ref a∧SqH H1 a ts∧ts.length≤300∧Q (.int (uq ts).length) H1)) I (by
  refine cast (LZ (te σ H) ?_) h
  funext y H2
  refine propext ⟨fun q=>⟨y,rfl,q⟩,fun ⟨y',e',q⟩=>?_⟩
  cases e'
  exact q)
 refine SR (df I hgt hmt hbt (K9 (thn hA fun us s1 ⟨vs,H1,I1,r1,x,e1,hq⟩=>?_) hs rfl))
 subst e1
 obtain ⟨u,rfl,rx⟩:=vals1 r1
 have hA0:X.A.handled=none:=I.ok.hd hc
 rcases hq with ⟨a,ns,e2,hx,hn,q⟩ | ⟨a,ts,e2,hx,hn,q⟩
 ·subst e2
  cases rx
  obtain ⟨its,k,hI,pl⟩:=hx.at I1
  refine qm hA0 k pl (by simpa using hI) hn fun h' tk ks S1 S2 S3=>?_
  refine tx ?_
  obtain ⟨o,es,ep,t,pl',g1,g2,g3,g4,g5,g6,g7,g8,⟨g9,g10,g11⟩,g12,g13,g14,g15⟩:=S1
  have lks:es.size=ks.length:=by
   have:=dy g12
   rw [J0,Kh] at this
   exact this
  refine call_len_set (s:=⟨h',s1.gens,s1.drawn,tk,s1.os⟩) g1 g2 g3 (fits_of g5 (by rw [g8,lks];simpa using g10) (by omega)) (by omega) ?_
  rw [lks,il g14 S2]
  exact ⟨.int _,H1,I1.kept (t':=tk+1+1) S3,⟨_,rfl⟩,q⟩
 ·subst e2
  cases rx
  obtain ⟨ads,k,hl2,pl,hkey⟩:=hx.at I1
  refine wx hA0 k pl ts ads rfl hl2 hn (by show X.A.units+1+1+1 < cLine;omega) hkey fun h' tk ks S1 S2 S3=>?_
  refine tx ?_
  obtain ⟨o,es,ep,t,g1,g2,g3,g4,lks,g6⟩:=S1
  refine call_len_set (s:=⟨h',s1.gens,s1.drawn,tk,s1.os⟩) g1 g2 g3 g4 (by omega) ?_
  rw [lks,S2]
  exact ⟨.int _,H1,I1.kept (t':=tk+1+1) S3,⟨_,rfl⟩,q⟩
def jJ:List D→Option (List (List Int))
 | []=>some []
 | .tup xs :: r=>(intsOf xs).bind fun a=>(jJ r).map (a :: ·)
 | _=>none
theorem oP:∀ ts:List (List Int),jJ (ts.map fun t=>D.tup (t.map D.int))=some ts
 | []=>rfl
 | t :: ts=>by
  rw [Kx,jJ,oP ts,show intsOf (t.map D.int)=some t by rw [iY (fun x=>x) t];simp]
  rfl
theorem qu:∀ {vs:List V} {ds:List D} {ts:List (List Int)},aE G vs ds→jJ ds=some ts→∃ ads:List Addr,vs=ads.map V.ref∧ads.length=ts.length∧∀ j,j < ts.length→G (ads.getD j 0)=some (.tup ((ts.getD j []).map V.int))
 | _,_,ts,.nil,e=>by
  cases e
  exact ⟨[],rfl,rfl,fun j hj=>by cases hj⟩
 | _,_,ts,.cons (v:=v) (d:=d) r rs,e=>by
  cases d with
  | tup xs=>
   rw [jJ] at e
   obtain ⟨a,e1,e2⟩:=MK.mp e
   obtain ⟨ts',e3,e4⟩:=LG.mp e2
   subst e4
   obtain ⟨ads,q1,q2,q3⟩:=qu rs e3
   cases r with
   | tup h rr=>
    rename_i b us
    rw [gU e1] at rr
    rw [aE.jY rr] at h
    refine ⟨b :: ads,by rw [q1];rfl,by simp [q2],fun j hj=>?_⟩
    cases j with
    | zero=>exact h
    | succ j=>exact q3 j (by simpa using hj)
  | _=>cases e
def oLX (x:Vl) (S:Sto):R Vl:=match cb x S with
 | some ds=>(match intsOf ds with
  | some ns=>if ns.length≤300 then .ok (.d (.int (bJ ns).length)) S else .bad
  | none=>(match jJ ds with
   | some ts=>if ts.length≤300 then .ok (.d (.int (uq ts).length)) S else .bad
   | none=>.bad))
 | none=>.bad
theorem v3 {e:Ke} {xa:XE} {p1 p2 pos1 pos2:Pos} [n:NS e] (hc:X.calm=true) (hgs:Gl X "len") (hms:X.mg "len"=none) (hgt:Gl X "set") (hmt:X.mg "set"=none) (hbs:Kj "len"=some (.builtin "len")) (hbt:Kj "set"=some (.type "set")) (hu:X.A.units+64 < cLine) (he:RE X WE e xa)
  (hs2:J7 [Mc (.Name "set" p2) [e] [] pos2] X.env=(false,KC (Mc (.Name "set" p2) [e] [] pos2) X.env) :: J7 [] X.env:=by rfl) :
  RE X WE (.Call (.Name "len" p1) [.Call (.Name "set" p2) [e] [] pos2] [] pos1) (xUn oLX xa):=
 ⟨(F2 hc hgs hms hgt hmt hbs hbt hu he.h (n.eq _ X.env) hs2).weak fun σ H Q ⟨μ,S,τ,hr,sr,p⟩=>⟨μ,S,τ,hr,sr,p.bind fun v x S1 μ1 H1 st1 r1 p1=>by
  unfold oLX at p1
  split at p1
  ·rename_i ds e0
   split at p1
   ·rename_i ns e1
    split at p1
    ·obtain ⟨a,rfl,sq⟩:=xA (ns:=ns) st1.hr r1 (by rw [e0];exact e1)
     exact .inl ⟨a,ns,rfl,sq,‹_›,p1.here st1.hr (Rep.int _)⟩
    ·exact p1.elim
   ·split at p1
    ·rename_i ts e1
     split at p1
     ·rename_i hb
      obtain ⟨a,us,rfl,ha,rr⟩:=gk st1.hr r1 e0
      obtain ⟨ads,rfl,hl,hk⟩:=qu rr e1
      exact .inr ⟨a,ts,rfl,⟨ads,ha,hl,fun j hj=>fw _ _ (hk j hj)⟩,hb,p1.here st1.hr (Rep.int _)⟩
     ·exact p1.elim
    ·exact p1.elim
  ·exact p1.elim⟩⟩
end
def fJ (xs ys:List D):List Vl:=List.zipWith (fun x y=>Vl.d (.tup [x,y])) xs ys
theorem tJ:(fJ xs ys).length=min xs.length ys.length:=by simp [fJ]
theorem nE {xs ys:List D} {i:Nat} {z:Vl} (h:(fJ xs ys)[i]?=some z):∃ x y,xs[i]?=some x∧ys[i]?=some y∧z=.d (.tup [x,y]):=by
 unfold fJ at h
 rw [List.getElem?_zipWith] at h
 cases q:xs[i]? with
 | none=>rw [q] at h;cases h
 | some x=>
  cases q2:ys[i]? with
  | none=>rw [q,q2] at h;cases h
  | some y=>rw [q,q2] at h;cases h;exact ⟨x,y,rfl,rfl,rfl⟩
def zS:D→Option (Bool×List D)
 | .tup xs=>some (false,xs)
 | .lst xs=>some (true,xs)
 | _=>none
def uW (zs:List Vl) (S:Sto):R Its:=match zs with
 | [.d x,.d y]=>(match zS x,zS y with
  | some p,some q=>.ok ⟨fJ p.2 q.2,none⟩ S
  | _,_=>.bad)
 | _=>.bad
def iZp (as:XA):XI:=fun τ S=>(as τ S).bind uW
section
variable {X:Cx} {WE:WX} {K:JV} {mg:Str→Option Value} {μ:Nat→Addr} {S:Sto} {H:Hp}
theorem yF (r:Rep G v x) (h:zS x=some p):∃ a vs,v=.ref a∧G a=some (Sq p.1 vs)∧aE G vs p.2:=by
 cases r with
 | tup g rs=>cases h;exact ⟨_,_,rfl,g,rs⟩
 | lst g rs=>cases h;exact ⟨_,_,rfl,g,rs⟩
 | _=>cases h
theorem FR {vs us:List V} (g:vh μ S H t=some (Sq b vs)) (rs:aE (vh μ S H) vs xs) (g2:vh μ S H u=some (Sq c us)) (rs2:aE (vh μ S H) us ys) (hz:vs.length≤sizeLine):jB K mg μ S H (Itg b c t u) ⟨fJ xs ys,none⟩ where
 ok:=Kp
 len:=by show (fJ xs ys).length≤sizeLine;rw [tJ];rw [rs.length] at hz;omega
 go:=fun i z μ' S' H' st _ e=>by
  obtain ⟨x,y,e1,e2,_⟩:=nE e
  obtain ⟨a,q1,_⟩:=rs.get' e1
  obtain ⟨b,q2,_⟩:=rs2.get' e2
  exact ⟨vs,us,a,b,(bo (st.vis _ _ g)).2,(bo (st.vis _ _ g2)).2,q1,q2⟩
 yld:=fun i z μ' S' H' v H2 st _ e yy=>by
  obtain ⟨p,a,b,hp,rfl,rfl,y1,y2⟩:=yy
  obtain ⟨x,y,e1,e2,rfl⟩:=nE e
  have q1:=y1 vs (bo (st.vis _ _ g)).2
  have q2:=y2 us (bo (st.vis _ _ g2)).2
  obtain ⟨x',e3,r1⟩:=rs.get q1
  obtain ⟨y',e4,r2⟩:=rs2.get q2
  rw [e1] at e3;cases e3
  rw [e2] at e4;cases e4
  have st2:=Step.new st.hr hp (.tup [a,b])
  exact ⟨st2,Rep.tup (cn b9 (st.hr.nal hp)) (.cons (Rep.mono (st.trans st2).vis r1) (.cons (Rep.mono (st.trans st2).vis r2) .nil))⟩
 stop:=fun i μ' S' H' st _ hi=>by
  replace hi:(fJ xs ys).length=i:=hi
  rw [tJ] at hi
  have l1:=rs.length
  have l2:=rs2.length
  exact ⟨vs,us,(bo (st.vis _ _ g)).2,(bo (st.vis _ _ g2)).2,by omega,by omega,by omega⟩
theorem xg (hg:Gl X "zip") (hm:X.mg "zip"=none) (ha:RA X WE [a,b] xa) (hb:Kj "zip"=some (.type "zip"):=by decide +kernel)
  (hs:J7 [a,b] X.env=[(false,KC a X.env),(false,KC b X.env)]:=by rfl) (hs2:J7 [b] X.env=[(false,KC b X.env)]:=by rfl):RI X WE (.Tuple es kk tp) (.Call (.Name "zip" p) [a,b] [] pos) (iZp xa):=⟨by
 intro pins s σ H R I h
 obtain ⟨μ,S,τ,hr,sr,pp⟩:=h
 refine SR (df I hg hm hb (K9 (thn (ha.h pos pins s σ H (fun vs H1=>∃ μ1 S1 zs,HR μ1 S1 H1∧bT X.K X.mg μ1 S1 H1 vs zs∧bg (jB X.K X.mg) WE μ1 S1 H1 (uW zs S1) R) I ?_) fun us s1 ⟨vs,H1,I1,r1,q1⟩=>?_) (by rw [hs,hs2]) (by rw [hs2];rfl)))
 ·exact ⟨μ,S,τ,hr,sr,pp.bind fun v x S1 μ1 H1 st1 r1 p1=>⟨μ1,S1,x,st1.hr,r1,p1⟩⟩
 ·obtain ⟨μ1,S1,zs,hr1,rz,p1⟩:=q1
  have fp:∀ b∈[s1.heap.objs.size+4,s1.heap.objs.size+2,s1.heap.objs.size+3,s1.heap.objs.size,s1.heap.objs.size+1],s1.heap.objs.size≤b:=by
   intro b hb
   simp only [J1,Kw,LR] at hb
   rcases hb with z | z | z | z | z<;>rw [z]
   ·exact NX _ _
   ·exact NX _ _
   ·exact NX _ _
   ·exact J3 _
   ·exact NX _ _
  unfold uW at p1
  split at p1
  ·split at p1
   ·rename_i p q e1 e2
    cases rz with
    | cons q1 q2=>cases q2 with
     | cons q2 q3=>
      cases q3
      obtain ⟨u1,u2,rfl,ru,rw'⟩:=r1.two
      obtain ⟨t,vs,rfl,g,rs⟩:=yF q1 e1
      obtain ⟨u,us,rfl,g2,rs2⟩:=yF q2 e2
      cases ru;cases rw'
      obtain ⟨its,rv,pl,hz⟩:=I1.sq (bo g).2
      obtain ⟨its2,rv2,pl2,hz2⟩:=I1.sq (bo g2).2
      refine xw p.1 q.1 pl pl2 fun h' z1 z2 z3 z4 z5 hk=>?_
      refine TF (s:={ s1 with heap:=h' }) z1 ?_
      have I2:Inv X pins σ H1 { s1 with heap:=h' }:=I1.kept (t':=s1.toks) hk
      exact ⟨s1.heap.objs.size+4,_,_,_,H1,rfl,I2,xR p.1 q.1 t u s1.heap.objs.size,⟨z1,z2,⟨_,_,z3⟩,z4,z5⟩,fun b hb=>I1.nq (fp b hb) (I1.hok.fresh (fp b hb)),p1.here hr1 (FR g rs g2 rs2 hz)⟩
   ·exact p1.elim
  ·exact p1.elim⟩
end
def xLf (f:List D→D→Sto→R Vl) (o e:XE):XE:=fun τ S=>(o τ S).bind fun x S1=>match x with
 | .d (.lst xs)=>(e τ S1).bind fun y S2=>(match y with
  | .d z=>f xs z S2
  | _=>.bad)
 | _=>.bad
def Ea (xs:List D) (z:D) (S:Sto):R Vl:=match z,intsOf xs with
 | .int k,some ns=>.ok (.d (.int (ns.count k:Nat))) S
 | _,_=>.bad
def zH (r:V→List V→Hp→VK→Prop) (f:List D→D→Sto→R Vl):Prop:=∀ (K:JV) (mg:Str→Option Value) (WE:WX) (μ:Nat→Addr) (S:Sto) (H:Hp) (a:Addr) (xs:List D) (vs:List V) (w:V) (z:D) (Q:VK),HR μ S H→H a=some (.lst vs)→aE (vh μ S H) vs xs→Rep (vh μ S H) w z→bg (bh K mg) WE μ S H (f xs z S) Q→r (.ref a) [w] H Q
section
variable {X:Cx} {WE:WX}
theorem Bd {r:V→List V→Hp→VK→Prop} {f:List D→D→Sto→R Vl} {name:Str} {id:String} {o e:Ke} {xo xe:XE} {apos cpos:Pos} (slot:Slot "list" name id) (hty:Sv (.builtin id)=pure (.type "method_descriptor")) (hm:MtM X id r) (hf:zH r f) (ho:RE X WE o xo) (he:RE X WE e xe)
  (hbase:MI o name X.env (KC o X.env)=KC o X.env:=by rfl)
  (hfew:((Ly cpos (J7 [e] X.env)).all (fun x=>!x.1) && (OT cpos (NC [] X.env)).all (fun x=>x.1.isSome) && decide ([e].length+([]:List MN).length+(if ([]:List MN).isEmpty then 0 else 1) < 30))=true:=by rfl)
  (hline:(apos.endLine == cpos.line)=true:=by rfl) (hs:J7 [e] X.env=(false,KC e X.env) :: J7 [] X.env:=by rfl):RE X WE (.Call (.Attribute o name apos) [e] [] cpos) (xLf f xo xe):=
 ⟨(AW slot hty hm ho.h he.h hbase hfew hline hs).weak fun σ H Q ⟨μ,S,τ,hr,sr,p⟩=>⟨μ,S,τ,hr,sr,p.bind fun v x S1 μ1 H1 st1 r1 p1=>by
  try dsimp only at p1
  split at p1
  ·rename_i xs
   cases (show Rep (vh μ1 S1 H1) v (.lst _) from r1) with
   | @lst a vs _ g rs=>
    refine ⟨a,vs,rfl,(bo g).2,μ1,S1,τ,st1.hr,sr.step st1,p1.bind fun w y S2 μ2 H2 st2 r2 p2=>?_⟩
    try dsimp only at p2
    split at p2
    ·exact hf X.K X.mg WE μ2 S2 H2 a xs vs w _ Q st2.hr (bo (st2.vis _ _ g)).2 (rs.mono st2.vis) r2 p2
    ·exact p2.elim
  ·exact p1.elim⟩⟩
end
def best (ns:List Int) (n:Int):Int:=ns.foldl (fun m k=>if k > m then k else m) n
theorem o9:∀ (ns:List Int) (n:Int),(best ns n=n∨best ns n∈ns)∧n≤best ns n∧∀ k∈ns,k≤best ns n
 | [],n=>⟨.inl rfl,Ra _,fun _ h=>by cases h⟩
 | k :: ns,n=>by
  obtain ⟨h1,h2,h3⟩:=o9 ns (if k > n then k else n)
  show (best ns (if k > n then k else n)=n∨best ns (if k > n then k else n)∈k :: ns)∧n≤best ns (if k > n then k else n)∧∀ j∈k :: ns,j≤best ns (if k > n then k else n)
  refine ⟨?_,?_,fun j hj=>?_⟩
  ·rcases h1 with h1 | h1
   ·rw [h1]
    split
    ·exact .inr Ks
    ·exact .inl rfl
   ·exact .inr (Kk _ h1)
  ·by_cases q:k > n
   ·rw [J2 q] at h2 ⊢;omega
   ·rw [J9 q] at h2 ⊢;omega
  ·rcases J1.mp hj with e | hj
   ·subst e
    by_cases q:j > n
    ·rw [J2 q] at h2 ⊢;omega
    ·rw [J9 q] at h2 ⊢;omega
   ·exact h3 j hj
def rp (xs:List Vl) (S:Sto):R Vl:=match xs with
 | [.d (.int i)]=>.ok (.d (.int i)) S
 | [.d (.bl k)]=>.ok (.d (.int (if k then 1 else 0))) S
 | _=>.bad
def Ek:List V→Hp→VK→Prop:=fun xs H Q=>(∃ i,xs=[.int i]∧Q (.int i) H)∨∃ k,xs=[.bl k]∧Q (.int (if k then 1 else 0)) H
theorem ya:cc X (.type "int") Ek:=yp
section
variable {K:JV} {mg:Str→Option Value}
theorem Ah:gp K mg Ek rp:=by
 intro WE μ S H vs xs Q hr rs p
 unfold rp at p
 split at p
 ·obtain ⟨v,rfl,r1⟩:=rs.one
  exact .inl ⟨_,by rw [bt r1],p.here hr (Rep.int _)⟩
 ·obtain ⟨v,rfl,r1⟩:=rs.one
  cases r1
  exact .inr ⟨_,rfl,p.here hr (Rep.int _)⟩
 ·exact p.elim
end
theorem FJ:rp [.d (.bl k)] S=.ok (.d (.int (if k then 1 else 0))) S:=ak rfl
def trP (K:JV) (mg:Str→Option Value) (WE:WX) (ms:List (XE×XE)):List (TE×TE):=ms.map fun m=>(trE K mg WE m.1,trE K mg WE m.2)
structure RP (X:Cx) (WE:WX) (pos:Pos) (ks:List (Option Ke)) (vs:List Ke) (ms:List (XE×XE)):Prop where
 h:PPs X pos ks vs (trP X.K X.mg WE ms)
section
variable {X:Cx} {WE:WX} {pos:Pos}
inductive vC (K:JV) (mg:Str→Option Value) (μ:Nat→Addr) (S:Sto) (H:Hp):List (V×V)→List (Vl×Vl)→Prop
 | nil:vC K mg μ S H [] []
 | cons {v w:V} {x y:Vl} {vs:List (V×V)} {xs:List (Vl×Vl)}:bh K mg μ S H v x→bh K mg μ S H w y→vC K mg μ S H vs xs→vC K mg μ S H ((v,w) :: vs) ((x,y) :: xs)
end
set_option maxRecDepth 100000
section
variable {prog:Kn} {w:Kq} {A:KD} {E:Value→JU→Prop} {s:JU} {z TI TO i1 i2:Addr} {fp1 fp2:List Addr} {n1 n2 k:Nat} {P1 P2:Nat→Value→Prop} {S1 S2:Nat→Heap→Prop}
end
set_option maxRecDepth 100000
structure JT (prog:Kn) (w:Kq) (A:KD) (I d:Addr) (wr:List Addr) (ps:List (Key×V)) (St:Nat→Heap→Prop):Prop where
 nd:d∉wr
 frame:∀ i h h',St i h→(∀ b o,b≠d→h.get? b=some o→h'.get? b=some o)→St i h'
 item:∀ i (s:JU) (Q:Option Value→JU→Prop) (E:Value→JU→Prop),i < ps.length→St i s.heap→d < s.heap.objs.size →
  (∀ T k v x y h' tk,ps[i]?=some (k,v)→(mC prog w).is k x=true→RelV v y→h'.IsTuple T #[x,y]→St (i+1) h'→(∀ b o,b∉wr→s.heap.get? b=some o→h'.get? b=some o)→Q (some (.ref T)) { s with heap:=h',toks:=tk }) →
  JY (J6 prog w) A (Nq (.ref I)) Q E s
 done:∀ (s:JU) (Q:Option Value→JU→Prop) (E:Value→JU→Prop),St ps.length s.heap→(∀ h' tk,(∀ b o,b∉wr→s.heap.get? b=some o→h'.get? b=some o)→Q none { s with heap:=h',toks:=tk })→JY (J6 prog w) A (Nq (.ref I)) Q E s
set_option maxRecDepth 100000
set_option maxRecDepth 100000
inductive pG (H:Hp):List V→List (Key×V)→Prop
 | nil:pG H [] []
 | cons {T:Addr} {k:Key} {v:V} {vs:List V} {ps:List (Key×V)}:H T=some (.tup [kV k,v])→pG H vs ps→pG H (.ref T :: vs) ((k,v) :: ps)
def least (ns:List Int) (n:Int):Int:=ns.foldl (fun m k=>if k < m then k else m) n
def nF (f:List Int→Int→Int) (xs:List Vl) (S:Sto):R Vl:=match xs with
 | [x]=>(match (cb x S).bind intsOf with
  | some (n :: ns)=>.ok (.d (.int (f ns n))) S
  | _=>.bad)
 | _=>.bad
def AN (le:Int→Int→Prop):List V→Hp→VK→Prop:=fun vs H Q=>∃ (p:Addr) (ns:List Int),vs=[.ref p]∧(H p=some (.lst (ns.map V.int))∨H p=some (.tup (ns.map V.int)))∧0 < ns.length∧∀ M,M∈ns→(∀ a∈ns,le a M)→Q (.int M) H
section
variable {prog:Kn} {w:Kq} {A:KD} {E:Value→JU→Prop} {s:JU} {l:Addr} {xs:Array (Int×Tok)}
theorem tW (hl:s.heap.IsTuple l (Ou xs))
  (h:∀ s₂:JU,s₂={ s with heap:=s.heap.push { cls:=.type "tuple_iterator",data:=.fields #[.ref l,.int 0 0] } } →
   (s₂.heap.IsTupleIter s.heap.objs.size l 0∧s₂.heap.IsTuple l (Ou xs))→(∀ b∈[s.heap.objs.size,l],b < s₂.heap.objs.size)→l≠s.heap.objs.size→Q (.ref s.heap.objs.size) s₂) :
  JY (J6 prog w) A (Qn (.ref l)) Q E s:=by
 have hlt:l < s.heap.objs.size:=by obtain ⟨_,e,_⟩:=hl;exact J4 e
 have hl':=hl
 refine Nu hl (h _ rfl ⟨⟨_,Kc _ rfl,rfl,rfl⟩,by obtain ⟨o,e,r⟩:=hl';exact ⟨o,C0 _ e,r⟩⟩ (fun b hb=>?_) (Kf hlt))
 show b < (s.heap.push _).objs.size
 rw [MO]
 rcases J1.mp hb with rfl | hb
 ·exact Tw _
 ·rcases J1.mp hb with rfl | hb
  ·exact OI hlt
  ·cases hb
theorem Ii {h':Heap} (hk:∀ b o,b∉[s.heap.objs.size]→(s.heap.push { cls:=.type "tuple_iterator",data:=.fields #[.ref l,.int 0 0] }).get? b=some o→h'.get? b=some o) :
  ∀ b o,s.heap.get? b=some o→h'.get? b=some o:=fun b o e=>by
 refine hk b o (fun hm=>?_) (C0 _ e)
 rcases J1.mp hm with e1 | hm
 ·exact absurd (e1 ▸ J4 e) (LK _)
 ·cases hm
theorem wq (hh:A.handled=none) (hl:s.heap.IsTuple l (Ou xs)) (hne:0 < xs.size)
  (h:∀ v h' tk,(Ou xs)[argBest (fun i j=>decide (QW xs i > QW xs j)) (xs.size - 1)]?=some v→(∀ b o,s.heap.get? b=some o→h'.get? b=some o)→Q v { s with heap:=h',toks:=tk }) :
  JY (J6 prog w) A (call (.builtin "max") [.ref l]) Q E s:=by
 refine call_max_walk (tW hl fun s₂ e st hfp hlI=>?_)
 subst e
 refine ⟨_,_,_,_,_,_,_,rfl,Tr (A:=A.in1) hh _ l hlI (Ou xs),st,hfp,by simpa [Ou] using hne,CmpOf.ints_gt (QW xs) (fun _ _=>intItems_at),fun v h' tk hP hk=>?_⟩
 exact h v h' tk (by simpa [Ou] using hP) (Ii hk)
end
section
variable {X:Cx}
theorem za (hc:X.calm=true):cc X (.builtin "max") (AN fun a M=>a≤M):=by
 intro pins s σ H xs us Q I r h
 obtain ⟨p,ns,rfl,hq,hl,q⟩:=h
 obtain ⟨u,rfl,rx⟩:=vals1 r
 cases rx
 have main:∀ (its:List Value),Vals (ns.map V.int) its→(∀ xs:Array (Int×Tok),its.toArray=Ou xs→ns=xs.toList.map (·.1)∧(0 < xs.size)):=fun its rv xs e=>by
  have hI:=intsAre_of rv
  have hns:ns=xs.toList.map (·.1):=by rw [← hI.numsOf,← nums_intItems,← e]
  exact ⟨hns,by
   have h3:=hl
   rw [hns,J0,Kh] at h3
   exact h3⟩
 have fin:∀ (xs:Array (Int×Tok)) (v:Value) (h':Heap) (tk:Nat),ns=xs.toList.map (·.1)→0 < xs.size→(Ou xs)[argBest (fun i j=>decide (QW xs i > QW xs j)) (xs.size - 1)]?=some v→(∀ b o,s.heap.get? b=some o→h'.get? b=some o)→∃ x H',Inv X pins σ H' { s with heap:=h',toks:=tk }∧RelV x v∧Q x H':=fun xs v h' tk hns hsz hv hk=>by
  obtain ⟨t,rfl⟩:=intItems_at hv
  obtain ⟨h1,h2⟩:=argBest_gt (QW xs) (xs.size - 1)
  refine ⟨.int (QW xs (argBest (fun i j=>decide (QW xs i > QW xs j)) (xs.size - 1))),H,I.kept hk,⟨t,rfl⟩,q _ ?_ fun a ha=>?_⟩
  ·rw [hns,numAt_eq]
   exact PySem.getD_mem (by rw [J0,Kh];omega)
  ·rw [hns] at ha
   obtain ⟨j,hj,rfl⟩:=mem_getD ha
   rw [J0,Kh] at hj
   rw [← numAt_eq]
   exact h2 j (by omega)
 rcases hq with hq | hq
 ·obtain ⟨its,rv,pl,hz⟩:=I.list (SqL.of hq)
  obtain ⟨xs,e⟩:=(intsAre_of rv).allInts.items
  obtain ⟨hns,hsz⟩:=main its rv xs e
  have hL:=pl.isList
  rw [e] at hL
  exact max_intList (I.ok.hd hc) hL hsz fun v h' tk hv hk=>fin xs v h' tk hns hsz hv hk
 ·obtain ⟨its,rv,pl,hz⟩:=I.tuple (SqT.of hq)
  obtain ⟨xs,e⟩:=(intsAre_of rv).allInts.items
  obtain ⟨hns,hsz⟩:=main its rv xs e
  rw [e] at pl
  exact wq (I.ok.hd hc) pl hsz fun v h' tk hv hk=>fin xs v h' tk hns hsz hv hk
end
section
variable {K:JV} {mg:Str→Option Value}
theorem zF (anti:∀ a b,le a b→le b a→a=b) (hf:∀ ns n,(f ns n=n∨f ns n∈ns)∧le n (f ns n)∧∀ k∈ns,le k (f ns n)):gp K mg (AN le) (nF f):=by
 intro WE μ S H vs xs Q hr rs p
 unfold nF at p
 split at p
 ·obtain ⟨v,rfl,r⟩:=rs.one
  split at p
  ·rename_i n ns e
   obtain ⟨ds,e1,e2⟩:=MK.mp e
   obtain ⟨a,us,rfl,ha,rr⟩:=gk hr r e1
   rw [gU e2] at rr
   rw [aE.jY rr] at ha
   refine ⟨a,n :: ns,rfl,ha,by simp,fun M h1 h2=>?_⟩
   obtain ⟨b1,b2,b3⟩:=hf ns n
   have hM:M=f ns n:=by
    apply anti
    ·rcases J1.mp h1 with h | h
     ·rw [h];exact b2
     ·exact b3 M h
    ·rcases b1 with b1 | b1
     ·rw [b1];exact h2 n Ks
     ·exact h2 _ (Kk _ b1)
   rw [hM]
   exact p.here hr (Rep.int _)
  ·exact p.elim
 ·exact p.elim
theorem yG:gp K mg (AN fun a M=>a≤M) (nF best):=zF (fun _ _=>Int.le_antisymm) o9
end
theorem He:nF f [.d (.tup ((n :: ns).map D.int))] S=.ok (.d (.int (f ns n))) S:=by
 unfold nF
 dsimp only
 rw [show (cb (.d (.tup ((n :: ns).map D.int))) S)=some ((n :: ns).map D.int) from rfl]
 rw [OX,show intsOf ((n :: ns).map D.int)=some (n :: ns) by rw [iY (fun x=>x) (n :: ns)];simp]
set_option maxRecDepth 100000
set_option maxRecDepth 100000
section
variable {X:Cx}
def DM:R2:=fun x y H Q=>∃ d z,Rep H x d∧y=.str z∧Q (.bl (D.eqv d (.str z))) H
theorem fm (hu:X.A.units+64 < cLine):OpR X (Ku .Eq) DM:=by
 intro pins s σ H x y v u Q I rx ry h
 obtain ⟨d,z,r,rfl,q⟩:=h
 obtain ⟨t,rfl⟩:=ry
 have hu':X.A.units < cLine:=by omega
 have go:∀ b,SeqAt.RcAt X.A s v (.str z t) b→D.eqv d (.str z)=b→JY (J6 X.prog X.w) X.A (Ku .Eq v (.str z t)) (EP X pins σ Q) X.xe s:=fun b hr e=>hr X.prog X.w X.xe _ ⟨.bl b,H,I,rfl,by rw [← e];exact q⟩
 cases r with
 | non=>cases rx;exact go _ (SeqAt.RcAt.none_str z t) rfl
 | bl b=>cases rx;exact go _ (SeqAt.RcAt.bool_str b z t) rfl
 | int i=>obtain ⟨t2,rfl⟩:=rx;exact go _ (SeqAt.RcAt.int_str i t2 z t) rfl
 | str a=>obtain ⟨t2,rfl⟩:=rx;exact go _ (SeqAt.RcAt.str_str a t2 z t) rfl
 | tup h r=>
  cases rx
  obtain ⟨its,rv,p,hz⟩:=I.tuple (SqT.of h)
  exact go _ (SeqAt.RcAt.tuple_str z t p hu') rfl
 | lst h r=>
  cases rx
  obtain ⟨its,rv,p,hz⟩:=I.list (SqL.of h)
  exact go _ (SeqAt.RcAt.list_str z t p.isList hu') rfl
def Bo:R2:=fun x y H Q=>∃ (p:Addr) (d:D) (ws:List Str),y=.ref p∧H p=some (.tup (ws.map V.str))∧Rep H x d∧Q (.bl (!ws.any fun e=>D.eqv (.str e) d)) H
theorem CZ (hu:X.A.units+64 < cLine):OpR X (Ku .NotIn) Bo:=by
 classical
 intro pins s σ H x y v u Q I rx ry h
 obtain ⟨p,d,ws,rfl,hq,rd,q⟩:=h
 cases ry
 obtain ⟨its,r,pl,hz⟩:=I.tuple (SqT.of hq)
 have key:∀ w∈its,∃ a∈ws,∃ t,w=Pu a t:=by
  intro w hw
  obtain ⟨j,hj⟩:=MY.mp hw
  have hlt:=(J5.mp hj).1
  have l1:=r.length
  rw [J0] at l1
  have e1:(ws.map V.str)[j]?=some (V.str (ws[j]'(by omega))):=by rw [Kv,JZ (by omega)];rfl
  obtain ⟨a1,b1,c1⟩:=r.get e1
  rw [hj] at b1
  cases b1
  obtain ⟨t,rfl⟩:=c1
  exact ⟨_,L5 _,t,rfl⟩
 refine R6 (fun w=>match w with | .str a _=>D.eqv (.str a) d | _=>false) pl (fun w hw=>?_) ⟨.bl _,H,I,rfl,?_⟩
 ·obtain ⟨a,_,t,rfl⟩:=key w (by simpa using hw)
  exact sT I 60 X.A.in1 (.str a) x (.str a t) v (.str a) d (by show X.A.units+1+60 < cLine;omega) (by simp [D.depth]) ⟨t,rfl⟩ rx (.str a) rd
 ·rw [TB]
  refine cast (LZ (fun b=>Q (.bl (!b)) H) ?_) q
  have:∀ {vs:List V} {its:List Value} {ws:List Str},vs=ws.map V.str→Vals vs its→(ws.any fun e=>D.eqv (.str e) d)=its.any fun w=>match w with | .str a _=>D.eqv (.str a) d | _=>false:=by
   intro vs its ws e r
   induction r generalizing ws with
   | nil=>cases ws with | nil=>rfl | cons a l=>cases e
   | cons h _ ih=>
    cases ws with
    | nil=>cases e
    | cons a l=>
     cases e
     obtain ⟨t,rfl⟩:=h
     rw [Nn,Nn,ih rfl]
  exact this rfl r
end
section
variable {X:Cx} {WE:WX} {K:JV} {mg:Str→Option Value}
def ef (x y:Vl) (S:Sto):R Vl:=match x,y with
 | .d d,.d (.str z)=>.ok (.d (.bl (D.eqv d (.str z)))) S
 | _,_=>.bad
theorem d8:cF K mg DM ef:=by
 intro WE μ S H v w x y Q hr rx ry p
 unfold ef at p
 split at p
 ·cases (show Rep (vh μ S H) w (.str _) from ry)
  exact ⟨_,_,Rep.mono fw rx,rfl,p.here hr (Rep.bl _)⟩
 ·exact p.elim
def wordsOf:List D→Option (List Str)
 | []=>some []
 | .str x :: l=>(wordsOf l).map (x :: ·)
 | _=>none
theorem oU:∀ {ds:List D} {ws:List Str},wordsOf ds=some ws→ds=ws.map D.str
 | [],ws,h=>by cases h;rfl
 | .str x :: l,ws,h=>by
  unfold wordsOf at h
  cases q:wordsOf l with
  | none=>rw [q] at h;cases h
  | some u=>rw [q] at h;cases h;rw [oU q];rfl
 | .non :: _,_,h=>by cases h
 | .bl _ :: _,_,h=>by cases h
 | .int _ :: _,_,h=>by cases h
 | .tup _ :: _,_,h=>by cases h
 | .lst _ :: _,_,h=>by cases h
theorem oX:∀ {vs:List V} {ws:List Str},aE H vs (ws.map D.str)→vs=ws.map V.str
 | [],[],_=>rfl
 | [],_ :: _,h=>by cases h
 | _ :: _,[],h=>by cases h
 | v :: vs,w :: ws,h=>by
  cases h with
  | cons h1 h2=>cases h1;rw [oX h2];rfl
def oS (x y:Vl) (S:Sto):R Vl:=match x,y with
 | .d d,.d (.tup ds)=>(match wordsOf ds with
  | some ws=>.ok (.d (.bl (!ws.any fun e=>D.eqv (.str e) d))) S
  | none=>.bad)
 | _,_=>.bad
theorem zN:cF K mg Bo oS:=by
 intro WE μ S H v w x y Q hr rx ry p
 unfold oS at p
 split at p
 ·split at p
  ·rename_i ws e
   have:=oU e
   subst this
   obtain ⟨a,vs,rfl,h,g,rs⟩:=gQ ry
   have:=oX rs
   subst this
   exact ⟨a,_,ws,rfl,h,Rep.mono fw rx,p.here hr (Rep.bl _)⟩
  ·exact p.elim
 ·exact p.elim
end
set_option maxRecDepth 100000
inductive DL:List (Option Ke)→List Ke→List (Str×Int)→Prop
 | nil:DL [] [] []
 | cons {k:Str} {n:Int} {i j:Nat} {p q:Pos} {ks:List (Option Ke)} {vs:List Ke} {l:List (Str×Int)}:DL ks vs l→DL (some (.Constant (.str k) i p) :: ks) (.Constant (.int n) j q :: vs) ((k,n) :: l)
inductive DLv:List (Str×Int)→List (Value×Value)→Prop
 | nil:DLv [] []
 | cons {k:Str} {n:Int} {t u:Tok} {l:List (Str×Int)} {r:List (Value×Value)}:DLv l r→DLv ((k,n) :: l) ((.str k t,.int n u) :: r)
theorem DLv.all (h:DLv l r):allStrKeys r=true∧(RM r).map (·.1)=l.map (·.1):=by
 induction h with
 | nil=>exact ⟨rfl,rfl⟩
 | cons _ ih=>exact ⟨ih.1,by simp only [RM,Kx,ih.2]⟩
theorem DLv.at (h:DLv l r) (e:l.lookup k=some n):∃ t,valueAt (RM r) k=some (.int n t):=by
 induction h with
 | nil=>cases e
 | @cons k' n' t u l r _ ih=>
  unfold valueAt
  rw [RM,List.find?_cons]
  by_cases q:k'=k
  ·subst q
   rw [List.lookup_cons_self] at e
   cases e
   exact ⟨u,by simp⟩
  ·rw [K4,beq_false_of_ne (fun z=>q z.symm)] at e
   obtain ⟨t',e'⟩:=ih e
   refine ⟨t',?_⟩
   unfold valueAt at e'
   rw [show decide ((k',Mq n' u).1=k)=false from H0 q]
   exact e'
section
variable {X:Cx} {WE:WX} {pins:List (Addr×Obj)} {σ:St} {H:Hp} {s:JU}
theorem Inv.Jk (I:Inv X pins σ H s) (e:s.heap.get? a=some o) (h0:H a=none) (h1:a≠X.env.locals) (h2:a∉X.fs) (h3:∀ v,o.data≠.cell v):Inv X ((a,o) :: pins) σ H s:=
 ⟨I.ok,I.os,I.bare,I.base,I.loc,I.cell,I.free,I.freeC,fun p hp=>by
  rcases Kz.mp hp with z | z
  ·exact I.pin p (LY _ z)
  ·rcases J1.mp z with z | z
   ·subst z;exact ⟨e,h0,h1,h2,h3⟩
   ·exact I.pin p (KJ _ z),I.hok,I.len⟩
theorem Inv.E7 (I:Inv X (p :: pins) σ H s):Inv X pins σ H s:=
 ⟨I.ok,I.os,I.bare,I.base,I.loc,I.cell,I.free,I.freeC,fun q hq=>I.pin q (by
  rcases Kz.mp hq with z | z
  ·exact LY _ z
  ·exact KJ _ (Kk _ z)),I.hok,I.len⟩
theorem De (h:DL ks vs kvs):∀ {s:JU} {pos:Pos} {Q:List (Value×Value)→JU→Prop},
  (∀ (l:List (Value×Value)) (t:Nat),DLv kvs l→Q l { s with toks:=t })→JY (J6 X.prog X.w) X.A (evalPairs (pairTrees ks vs X.env pos)) Q X.xe s:=by
 induction h with
 | nil=>intro s pos Q q;exact pairTrees_nil_walk (q [] s.toks .nil)
 | cons _ ih=>
  intro s pos Q q
  refine pairTrees_cons_walk (Od (Sh (ih fun l t h=>?_)))
  exact q _ t (.cons h)
def tDl (kvs:List (Str×Int)) (ti:TE):TE:=fun σ H Q=>ti σ H fun y H1=>∃ k n,y=.str k∧kvs.lookup k=some n∧Q (.int n) H1
theorem IQ (h:DL ks vs kvs) (hi:PE X ix ti) (hall:ks.all (·.isSome)=true) (hl:ks.length=vs.length) (h0:ks≠[]) (hlen:ks.length≤15) (hn:(kvs.map (·.1)).Nodup) (hs:mw ix) :
  PE X (.Subscript (.Dict ks vs pd) ix pos) (tDl kvs ti):=by
 intro pins s σ H Q I q
 refine RF (wpAny_Dict_walk (knd:=strKind X.prog X.w) hall hl h0 hlen (De h fun l t hv=>?_))
 have hv2:=hv.all
 refine display_done_str hv2.1 (by rw [hv2.2];exact hn) (WZ _) fun h' hm hsb=>?_
 obtain ⟨o,es,ep,ho,hex,hd,r⟩:=id hm
 have I1:Inv X pins σ H { s with heap:=h',toks:=t+l.length }:=I.kept (t':=t+l.length) fun b ob e=>(hsb.2 b (Kf (J4 e))).trans (C0 _ e)
 have fp:=I.nq (J3 _) (I.hok.fresh (J3 _))
 obtain ⟨f0,f1,f2,f3,f4,f5⟩:=fp
 have I2:=I1.Jk ho f0 f1 f2 (fun v z=>by rw [hd] at z;cases z)
 refine thn (hi _ _ σ H _ I2 q) fun u s2 ⟨y,H2,I3,ry,k,n,e,hk,q2⟩=>?_
 subst e
 obtain ⟨tk,rfl⟩:=ry
 obtain ⟨t2,e2⟩:=hv.at hk
 have hp:=(I3.pin (s.heap.objs.size,o) (KJ _ (Ks ..))).1
 have hm2:s2.heap.DictOf (strKind X.prog X.w) s.heap.objs.size (RM l):=⟨o,es,ep,hp,hex,hd,r⟩
 refine Vw (ops:=[.str k tk,.ref s.heap.objs.size]) (T:="dict") hm2.mapOf.typeIs slot_dict_getitem.lookup (wpAny_getItem_of (knd:=strKind X.prog X.w) (k:=k) (by simp [PySem.strKind,UJ]) hm2.mapOf e2 ⟨.int n,H2,I3.E7.tok _,⟨_,rfl⟩,q2⟩) (hs _ _)
def xDl (kvs:List (Str×Int)) (a:XE):XE:=fun τ S=>(a τ S).bind fun z S1=>match z with
 | .d (.str k)=>(match kvs.lookup k with
  | some n=>.ok (.d (.int n)) S1
  | none=>.bad)
 | _=>.bad
theorem Gz (h:DL ks vs kvs) (hi:RE X WE ix xi) (hn:(kvs.map (·.1)).Nodup:=by decide) (hall:ks.all (·.isSome)=true:=by rfl) (hl:ks.length=vs.length:=by rfl) (h0:ks≠[]:=by exact List.cons_ne_nil _ _) (hlen:ks.length≤15:=by decide) (hs:mw ix:=by exact fun _ _=>rfl) :
  RE X WE (.Subscript (.Dict ks vs pd) ix pos) (xDl kvs xi):=
 ⟨(IQ h hi.h hall hl h0 hlen hn hs).weak fun σ H Q ⟨μ,S,τ,hr,sr,p⟩=>⟨μ,S,τ,hr,sr,p.bind fun v x S1 μ1 H1 st1 r1 p1=>by
  try dsimp only at p1
  split at p1
  ·split at p1
   ·cases (show Rep (vh μ1 S1 H1) v (.str _) from r1)
    exact ⟨_,_,rfl,‹_›,p1.here st1.hr (Rep.int _)⟩
   ·exact p1.elim
  ·exact p1.elim⟩⟩
end
section
variable {X:Cx} {WE:WX} {a b c d:Ke} {ta tb tc td:TE} {xa xb xc xd:XE} {pos:Pos}
def uG (r r' r'':R2) (ta tb tc td:TE):TE:=fun σ H Q=>ta σ H fun x H1=>tb σ H1 fun y H2=>r x y H2 fun z H3=>∃ k,z=.bl k ∧
 (if k=true then tc σ H3 fun w H4=>r' y w H4 fun z' H5=>∃ k',z'=.bl k'∧(if k'=true then td σ H5 fun u H6=>r'' w u H6 Q else Q (.bl false) H5) else Q (.bl false) H3)
theorem yY (ho:OpR X (Ku op) r) (ho':OpR X (Ku op') r') (ho'':OpR X (Ku op'') r'') (ha:PE X a ta) (hb:PE X b tb) (hc:PE X c tc) (hd:PE X d td)
  (hm:Pw [op,op',op''] [b,c,d]=false:=by with_unfolding_all rfl):PT X (.Compare a [op,op',op''] [b,c,d] pos) (u9 (uG r r' r'' ta tb tc td)):=by
 intro pins s σ H Q I h
 refine isTrue_chain (thn (ha pins s σ H _ I h) fun v s1 ⟨x,H1,I1,r1,q1⟩=>UA (thn (hb pins s1 σ H1 _ I1 q1) fun u s2 ⟨y,H2,I2,r2,q2⟩=>
  thn (ho pins s2 σ H2 x y v u _ I2 r1 r2 q2) fun d s3 ⟨z,H3,I3,r3,k,e,q3⟩=>?_)) hm
 subst e
 cases r3
 refine Lq ?_
 cases k with
 | false=>
  obtain ⟨k',e',q'⟩:=q3
  cases e'
  exact ite_ff ⟨H3,I3,q'⟩
 | true=>
  refine ite_tt (UA (thn (hc pins s3 σ H3 _ I3 q3) fun w' s4 ⟨z',H4,I4,r4,q4⟩=>thn (ho' pins s4 σ H4 y z' u w' _ I4 r2 r4 q4) fun d' s5 ⟨z2,H5,I5,r5,k2,e2,q5⟩=>?_))
  subst e2
  cases r5
  refine Lq ?_
  cases k2 with
  | false=>
   obtain ⟨k',e',q'⟩:=q5
   cases e'
   exact ite_ff ⟨H5,I5,q'⟩
  | true=>
   refine ite_tt (test_last (thn (hd pins s5 σ H5 _ I5 q5) fun w2 s6 ⟨z3,H6,I6,r6,q6⟩=>thn (ho'' pins s6 σ H6 z' z3 w' w2 _ I6 r4 r6 q6) fun d3 s7 ⟨z4,H7,I7,r7,k3,e3,q7⟩=>?_))
   subst e3
   cases r7
   exact Lq ⟨H7,I7,q7⟩
def jW (f f' f'':Vl→Vl→Sto→R Vl) (a b c d:XE):XE:=fun τ S=>(a τ S).bind fun x S1=>(b τ S1).bind fun y S2=>(f x y S2).bind fun z S3=>match z with
 | .d (.bl k)=>if k=true then (c τ S3).bind fun w S4=>(f' y w S4).bind fun z' S5=>(match z' with
  | .d (.bl k')=>if k'=true then (d τ S5).bind fun u S6=>f'' w u S6 else .ok (.d (.bl false)) S5
  | _=>.bad) else .ok (.d (.bl false)) S3
 | _=>.bad
theorem yj (hf:cF X.K X.mg r f) (hf':cF X.K X.mg r' f') (hf'':cF X.K X.mg r'' f'') (h:trE X.K X.mg WE (jW f f' f'' xa xb xc xd) σ H Q) :
  uG r r' r'' (trE X.K X.mg WE xa) (trE X.K X.mg WE xb) (trE X.K X.mg WE xc) (trE X.K X.mg WE xd) σ H Q:=by
 obtain ⟨μ,S,τ,hr,sr,p⟩:=h
 refine ⟨μ,S,τ,hr,sr,p.bind fun v x S1 μ1 H1 st1 r1 p1=>?_⟩
 refine ⟨μ1,S1,τ,st1.hr,sr.step st1,p1.bind fun w y S2 μ2 H2 st2 r2 p2=>?_⟩
 refine hf WE μ2 S2 H2 v w x y _ st2.hr (r1.step st2) r2 (p2.bind fun z zz S3 μ3 H3 st3 r3 p3=>?_)
 try dsimp only at p3
 split at p3
 ·cases (show Rep (vh μ3 S3 H3) z (.bl _) from r3)
  refine ⟨_,rfl,?_⟩
  split at p3
  ·rename_i k hk
   rw [J2 hk]
   have s3:=st1.trans (st2.trans st3)
   refine ⟨μ3,S3,τ,st3.hr,sr.step s3,p3.bind fun q qq S4 μ4 H4 st4 r4 p4=>?_⟩
   refine hf' WE μ4 S4 H4 w q y qq _ st4.hr (r2.step (st3.trans st4)) r4 (p4.bind fun z2 zz2 S5 μ5 H5 st5 r5 p5=>?_)
   try dsimp only at p5
   split at p5
   ·cases (show Rep (vh μ5 S5 H5) z2 (.bl _) from r5)
    refine ⟨_,rfl,?_⟩
    split at p5
    ·rename_i k2 hk2
     rw [J2 hk2]
     refine ⟨μ5,S5,τ,st5.hr,sr.step (s3.trans (st4.trans st5)),p5.bind fun q2 qq2 S6 μ6 H6 st6 r6 p6=>?_⟩
     exact hf'' WE μ6 S6 H6 q q2 qq qq2 Q st6.hr (r4.step (st5.trans st6)) r6 p6
    ·rename_i k2 hk2
     rw [J9 hk2]
     exact p5.here st5.hr (Rep.bl _)
   ·exact p5.elim
  ·rename_i k hk
   rw [J9 hk]
   exact p3.here st3.hr (Rep.bl _)
 ·exact p3.elim
theorem wU (ho:OpR X (Ku op) r) (hf:cF X.K X.mg r f) (ho':OpR X (Ku op') r') (hf':cF X.K X.mg r' f') (ho'':OpR X (Ku op'') r'') (hf'':cF X.K X.mg r'' f'') (ha:RE X WE a xa) (hb:RE X WE b xb) (hc:RE X WE c xc) (hd:RE X WE d xd)
  (hm:Pw [op,op',op''] [b,c,d]=false:=by with_unfolding_all rfl):RT X WE (.Compare a [op,op',op''] [b,c,d] pos) (aF (jW f f' f'' xa xb xc xd)):=⟨(yY ho ho' ho'' ha.h hb.h hc.h hd.h hm).weak fun _ _ _ h=>yj hf hf' hf'' (pB h)⟩
end
set_option maxRecDepth 100000
def Ck (h B:Heap) (e:Addr) (cls:Value) (od:Option Addr) (fl:Value):Prop:=
 ∃ oe vs T oT ts,h.get? e=some oe∧(oe.cls=cls∧oe.dict=od)∧oe.data=.fields vs∧vs[1]?=some (.ref T)∧B.get? T=none∧T≠e∧h.get? T=some oT∧oT.data=.fields ts∧ts[3]?=some fl
def gx (B:Heap) (l:List Env) (e:Addr) (cls:Value) (od:Option Addr) (fl:Value) (h:Heap):Prop:=B.StaysIn h∧B.get? e=none∧h.FunFrames B l∧Ck h B e cls od fl
theorem gx.there (x:gx B l e cls od fl h):∃ ob,h.get? e=some ob∧ob.cls=cls∧ob.dict=od∧∃ vs,ob.data=.fields vs:=by
 obtain ⟨_,_,_,oe,vs,_,_,_,he,hc,hd,_⟩:=x
 exact ⟨oe,he,hc.1,hc.2,vs,hd⟩
theorem pD (f:Array Value→Array Value) (o:Obj):(o.mapFields f).dict=o.dict:=by
 obtain ⟨c,d,dt,sl⟩:=o
 cases dt<;>rfl
section
variable {M:SM} {A:KD} {E:Value→JU→Prop} {s:JU} {B:Heap} {env:Env} {outer:List Env} {L e:Addr} {Q:Unit→JU→Prop} {cls:Value} {od:Option Addr}
theorem xS (hfr:A.frames=some (env :: outer)) (hl:s.heap.FunFrames B (env :: outer)) (hf:env.frame=some L)
  (he:s.heap.get? e=some oe) (hkb:B.StaysIn s.heap) (hen:B.get? e=none) (hd:oe.data=.fields vs) (hsz:1 < vs.size)
  (h:∀ h',gx B (env :: outer) e oe.cls oe.dict (Mw L) h'→s.heap.UpToSlots h'→Q () { s with heap:=h' }) :
  JY M A (do let a ← frameOf env;let pl ← entryPlaceOf L hadNext;let b ← R_ head a .none (Mw L) .none pl;setField (.ref e) 1 b) Q E s:=by
 have hene:e∉(env :: outer).filterMap (·.frame):=fun hm=>by
  obtain ⟨_,o,ho,hnf⟩:=hl.mem hm
  rw [he] at ho;injection ho with ho;subst ho;exact hnf vs hd
 refine ar (wpAny_frameOf_fun hfr hl hf fun h1 hs1=>?_)
 refine ar (wpAny_entryPlaceOf fun pl hpl=>?_)
 unfold R_ newFields
 refine ar (KN ?_ (hpl.sizeOk5 _ _ _ _ _))
 have he1:h1.get? e=some oe:=(hs1.2.1 e hene).trans he
 have kb1:B.StaysIn h1:=fun b o hbo=>(hs1.2.1 b fun hm=>by rw [(hl.mem hm).1] at hbo;cases hbo).trans (hkb b o hbo)
 have hTe:h1.objs.size≠e:=MC (J4 he1)
 generalize ho:({ cls:=.type "traceback",dict:=none,data:=.fields ([head,.ref L,.none,Mw L,.none]++(if pl.isEmpty then Kb 6 Mt else pl)).toArray }:Obj)=ob
 have he2:=C0 (h:=h1) ob he1
 refine NO he2 hd hsz ?_
 have hd3:=Nt hd (·.setIfInBounds 1 (Kg h1.objs.size))
 have he3:=Ln (OQ (·.setIfInBounds 1 (Kg h1.objs.size))) he2 (O2 hd3)
 have hT3:=(L8 (h1.push ob) (OQ (·.setIfInBounds 1 (Kg h1.objs.size))) (LN hTe)).trans (Kc h1 (by rw [← ho];rfl))
 have keep:∀ b o,b≠e→h1.get? b=some o→((h1.push ob).update e (OQ (·.setIfInBounds 1 (Kg h1.objs.size)))).get? b=some o:=fun b o hbe hb=>by
  rw [L8 _ _ (LN hbe)]
  exact C0 _ hb
 have noRecord:∀ b o,s.heap.get? b=some o→(∀ vs,o.data≠.fields vs)→b≠e:=fun b o hb hnf q=>by
  rw [q,he] at hb;injection hb with hb;subst hb;exact hnf vs hd
 refine h _ ⟨fun b o hbo=>keep b o (fun q=>by rw [q,hen] at hbo;cases hbo) (kb1 b o hbo),hen,hl.of_keeps fun b o hb hnf=>?_,?_⟩ fun b o hb hnf=>?_
 ·obtain ⟨sl,hs⟩:=hs1.2.2 b o hb
  exact ⟨_,keep b _ (noRecord b o hb hnf) hs,rfl⟩
 ·exact ⟨_,_,h1.objs.size,_,_,he3,⟨Tb _ _,pD _ _⟩,hd3,by simp [hsz],kb1.fresh,hTe,hT3,by rw [← ho],by first | (simp;done) | (rcases hpl with rfl | ⟨_,_,_,_,_,_,_,rfl⟩<;>simp)⟩
 ·obtain ⟨sl,hs⟩:=hs1.2.2 b o hb
  exact ⟨sl,keep b _ (noRecord b o hb hnf) hs⟩
theorem En (hfr:A.frames=some (env :: outer)) (hl:s.heap.FunFrames B (env :: outer)) (hf:env.frame=some L)
  (he:s.heap.get? e=some oe) (hkb:B.StaysIn s.heap) (hen:B.get? e=none) (hd:oe.data=.fields vs) (h1:vs[1]?=some .none)
  (h:∀ h',gx B (env :: outer) e oe.cls oe.dict (Mw L) h'→s.heap.UpToSlots h'→Q () { s with heap:=h' }):JY M A (Oj (.ref e) env) Q E s:=by
 unfold Oj
 simp only [hf]
 refine ar (KR he hd h1 ?_)
 rw [J9 (by decide)]
 exact xS hfr hl hf he hkb hen hd (M6.mp h1).1 h
theorem Bb (hfr:A.frames=some (env :: outer)) (hf:env.frame=some L) (hfl:gx B (env :: outer) e cls od .none s.heap)
  (h:∀ h',gx B (env :: outer) e cls od (Mw L) h'→s.heap.UpToSlots h'→Q () { s with heap:=h' }):JY M A (Oj (.ref e) env) Q E s:=by
 obtain ⟨hkb,hen,hl,oe,vs,T,oT,ts,he,⟨rfl,rfl⟩,hd,h1,hnT,hTe,hT,hdT,h3⟩:=hfl
 unfold Oj
 simp only [hf]
 refine ar (KR he hd h1 ?_)
 rw [J2 (show (Kg T != Mt)=true from by simp)]
 refine ar (KR hT hdT h3 ?_)
 rw [J9 (show ¬((Mt == Mw L)=true) from by simp [Mw])]
 refine ar (NO hT hdT (M6.mp h3).1 ?_)
 have other:∀ b,b≠T→(s.heap.update T (OQ (·.setIfInBounds 3 Mt))).get? b=s.heap.get? b:=fun b hb=>L8 _ _ (LN hb)
 have noRecord:∀ b o,s.heap.get? b=some o→(∀ vs,o.data≠.fields vs)→b≠T:=fun b o hb hnf q=>by
  rw [q,hT] at hb;injection hb with hb;subst hb;exact hnf ts hdT
 exact xS hfr (hl.of_keeps fun b o hb hnf=>⟨o,(other b (noRecord b o hb hnf)).trans hb,rfl⟩) hf ((other e (LN hTe)).trans he)
  (fun b o hbo=>(other b fun q=>by rw [q,hnT] at hbo;cases hbo).trans (hkb b o hbo)) hen hd (M6.mp h1).1
  fun h' x1 x4=>h h' x1 fun b o hb hnf=>x4 b o ((other b (noRecord b o hb hnf)).trans hb) hnf
theorem vj (hfl:gx B l e cls od fl s.heap) (h:∀ h',gx B l e cls od .none h'→s.heap.UpToSlots h'→Q () { s with heap:=h' }):JY M A (UH (.ref e) none) Q E s:=by
 obtain ⟨hkb,hen,hl,oe,vs,T,oT,ts,he,hc,hd,h1,hnT,hTe,hT,hdT,h3⟩:=hfl
 have other:∀ b,b≠T→(s.heap.update T (OQ (·.setIfInBounds 3 ((none:Option Addr).elim Mt fun f=>Mw f)))).get? b=s.heap.get? b:=fun b hb=>L8 _ _ (LN hb)
 have noRecord:∀ b o,s.heap.get? b=some o→(∀ vs,o.data≠.fields vs)→b≠T:=fun b o hb hnf q=>by
  rw [q,hT] at hb;injection hb with hb;subst hb;exact hnf ts hdT
 unfold UH
 refine ar (KR he hd h1 ?_)
 rw [J2 (show (Kg T != Mt)=true from by simp)]
 have hz:=(M6.mp h3).1
 refine NO hT hdT hz (h _ ⟨fun b o hbo=>(other b fun q=>by rw [q,hnT] at hbo;cases hbo).trans (hkb b o hbo),hen,hl.of_keeps fun b o hb hnf=>⟨o,(other b (noRecord b o hb hnf)).trans hb,rfl⟩,?_⟩ fun b o hb hnf=>⟨o.slots,(other b (noRecord b o hb hnf)).trans hb⟩)
 exact ⟨oe,vs,T,_,_,(other e (LN hTe)).trans he,hc,hd,h1,hnT,hTe,Ln _ hT (O2 (Nt hdT _)),Nt hdT _,by simp [hz]⟩
theorem yu {up0:Heap} (hn:∀ {Q:Unit→JU→Prop},(∀ h',gx B (env :: outer) e cls od fl h'→up0.UpToSlots h'→Q () { s with heap:=h' })→JY M A (Oj (.ref e) env) Q E s)
  (h:∀ h',gx B outer e cls od .none h'→up0.UpToSlots h'→Q () { s with heap:=h' }):JY M A (SS env (.ref e)) Q E s:=by
 unfold SS
 refine ar (hn fun h1 f1 u1=>vj f1 fun h2 f2 u2=>h h2 ?_ (u1.trans u2))
 obtain ⟨k1,k2,⟨_,_,k3⟩,k4⟩:=f2
 exact ⟨k1,k2,k3,k4⟩
end
structure ka (P:Kn) (w:Kq) (outer:List Env) (H:Hp) (s:JU) (a:Addr) (H':Hp) (s':JU) (B:Heap):Prop where
 os:s'.os=s.os
 bare:Ov s'.gens
 un:Un (frs outer) [] H H' s.heap s'.heap
 hok:HOk P w H' s'.heap
 new:s.heap.get? a=none
 free:H' a=none
 trk:∀ b o,H' b=some o→∃ u,B.get? b=some u
 old:∀ b o,s.heap.get? b=some o→H b=none→b∉frs outer→B.get? b=some o
 dm:∀ b o,H b=some o→∃ o',H' b=some o'
theorem b_.some_at (x:b_ P w H h a o):∃ u,h.get? a=some u:=by
 cases o with
 | lst xs=>obtain ⟨_,_,_,_,e⟩:=x;exact ⟨_,e⟩
 | tup xs=>obtain ⟨_,_,_,ob,e,_⟩:=x;exact ⟨_,e⟩
 | dK kvs=>obtain ⟨_,_,_,_,o,_,_,e,_⟩:=x;exact ⟨_,e⟩
 | dT kvs=>obtain ⟨_,_,_,_,o,_,_,e,_⟩:=x;exact ⟨_,e⟩
 | set S n=>obtain ⟨o,_,_,_,e,_⟩:=x;exact ⟨_,e⟩
 | ins C dx fs=>obtain ⟨_,_,_,e,_⟩:=x;exact ⟨_,e⟩
 | own y=>exact x
 | xd fs=>obtain ⟨_,⟨_,_,_,e,_⟩,_⟩:=x;exact ⟨_,e⟩
 | rng lo hi=>obtain ⟨_,_,_,e⟩:=x;exact ⟨_,e⟩
 | frz ob u=>obtain ⟨e,_⟩:=x;exact ⟨_,e⟩
 | tbl ps=>exact ⟨_,x⟩
 | met f y=>exact ⟨_,x⟩
 | ext φ=>exact x.2.1
theorem HOk.Hv {h h' B:Heap} (x:HOk P w H h) (trk:∀ b o,H b=some o→∃ u,B.get? b=some u) (k:B.StaysIn h) (k':B.StaysIn h'):HOk P w H h':=fun a o e=>
 have st:∀ b o u,H b=some o→h.get? b=some u→h'.get? b=some u:=fun b o u e q=>by
  obtain ⟨v,hv⟩:=trk b o e
  have:=k b v hv
  rw [q] at this
  cases this
  exact k' b u hv
 (x a o e).iW (fun b u hb q=>by
  rcases hb with rfl | hb
  ·exact st _ _ _ e q
  ·exact st _ _ _ hb q) (fun _ q=>q) fun _ _ q=>q
theorem ka.move {s s':JU} {B h':Heap} (F:ka P w outer H s a H' s' B) (hB:B.StaysIn s'.heap) (ff:s'.heap.FunFrames B outer) (hB':B.StaysIn h') (up:s'.heap.UpToSlots h'):ka P w outer H s a H' { s' with heap:=h' } B where
 os:=F.os
 bare:=F.bare
 un:=⟨fun b o e n hb _=>hB' b o (F.old b o e n hb),fun b o e n hb hx=>by
   obtain ⟨sl,e1⟩:=F.un.slot b o e n hb hx
   obtain ⟨_,o2,e2,nf⟩:=ff.mem hb
   rw [e1] at e2
   cases e2
   obtain ⟨sl2,e3⟩:=up b _ e1 nf
   exact ⟨sl2,e3⟩,F.un.free,fun b o e hx=>by
   cases q:H b with
   | some u=>
    obtain ⟨u',q'⟩:=F.dm b u q
    obtain ⟨v,hv⟩:=F.trk b u' q'
    exact ⟨v,hB' b v hv⟩
   | none=>
    by_cases hb:b∈frs outer
    ·obtain ⟨sl,e1⟩:=F.un.slot b o e q hb hx
     obtain ⟨_,o2,e2,nf⟩:=ff.mem hb
     rw [e1] at e2
     cases e2
     obtain ⟨sl2,e3⟩:=up b _ e1 nf
     exact ⟨_,e3⟩
    ·exact ⟨o,hB' b o (F.old b o e q hb)⟩,F.un.tups,F.un.frzs,F.un.tbls⟩
 hok:=F.hok.Hv F.trk hB hB'
 new:=F.new
 free:=F.free
 trk:=F.trk
 old:=F.old
 dm:=F.dm
section
variable {X:Cx} {pins:List (Addr×Obj)} {σ:St} {H H':Hp} {s s':JU} {a:Addr} {B h':Heap}
theorem Inv.vV (I:Inv X pins σ H s) (F:ka X.prog X.w X.stack H s a H' s' B):Inv X pins σ H' s':=I.A1 F.os F.un F.hok F.bare fun b z=>absurd z (by simp)
theorem Inv.Bp (I:Inv X pins σ H' s') (hst:X.stack=X.env :: X.outer) (hex:X.ex=[]) (hB:B.StaysIn s'.heap) (ff:s'.heap.FunFrames B X.outer) (trk:∀ b o,H' b=some o→∃ u,B.get? b=some u)
  (old:∀ b o,X.s₀.heap.get? b=some o→X.H₀ b=none→b∉X.fs→B.get? b=some o) (new:X.s₀.heap.get? a=none) (free:H' a=none) (dm:∀ b o,X.H₀ b=some o→∃ o',H' b=some o') (hB':B.StaysIn h') (up:s'.heap.UpToSlots h') :
  ka X.prog X.w X.outer X.H₀ X.s₀ a H' { s' with heap:=h' } B:=by
 have u:=I.base
 rw [hex] at u
 have F0:ka X.prog X.w X.outer X.H₀ X.s₀ a H' s' B:=⟨I.os,I.bare,u,I.hok,new,free,trk,old,dm⟩
 exact F0.move hB ff hB' up
end
def lZ (G:Hp) (od:Option Addr) (xs:List (Str×D)):Prop:=xs≠[]→∃ (dx:Addr) (vs:List V),od=some dx∧vs.length=xs.length∧G dx=some (.xd ((xs.map (·.1)).zip vs))∧aE G vs (xs.map (·.2))
theorem lZ.mono (h:lZ G od xs) (k:eA G G'):lZ G' od xs:=fun n=>by
 obtain ⟨dx,vs,q1,q2,q3,q4⟩:=h n
 exact ⟨dx,vs,q1,q2,k _ _ q3,q4.mono k⟩
def CXE (P:Kn) (w:Kq):CXT:=fun outer H s E e s'=>∃ (a C:Addr) (od:Option Addr) (H':Hp) (B:Heap),e=.ref a∧ka P w outer H s a H' s' B∧gx B outer a (.ref C) od .none s'.heap∧E (.ref C) od H'
def XOk (X:Cx) (WE:WX):Prop:=∀ (pins:List (Addr×Obj)) (σ:St) (H:Hp) (s:JU) (a C:Addr) (od:Option Addr) (c:Str) (xs:List (Str×D)) (S:Sto) (μ:Nat→Addr) (H':Hp) (s':JU) (B:Heap),
 Inv X pins σ H s→ka X.prog X.w X.stack H s a H' s' B→gx B X.stack a (.ref C) od .none s'.heap→X.mg c=some (.ref C)→HR μ S H'→lZ (vh μ S H') od xs→WE c xs S μ H'→X.xe (.ref a) s'
def XMk (X:Cx) (WE:WX):Prop:=∀ (pins:List (Addr×Obj)) (σ:St) (H:Hp) (s:JU) (a C:Addr) (c:Str) (xs:List (Str×D)) (oe:Obj) (vs:Array Value) (S:Sto) (μ:Nat→Addr),
 Inv X pins σ H s→s.heap.get? a=some oe→oe.cls=.ref C→oe.data=.fields vs→vs[1]?=some .none→H a=none→X.s₀.heap.get? a=none→X.mg c=some (.ref C)→HR μ S H→lZ (vh μ S H) oe.dict xs→WE c xs S μ H→X.xe (.ref a) s
section
variable {P:Kn} {w:Kq} {K:JV} {mg:Str→Option Value} {base:Heap} {N:List Str} {qual:Str} {scope:Scope} {f:Addr} {cd:Value} {A:KD} {outer:List Env} {s:JU} {H:Hp} {E:XK}
def pC (mg:Str→Option Value) (H:Hp) (E:XK):WX:=fun c xs S μ H'=>(∀ b o,H b=some o→∃ o',H' b=some o')∧∀ (C:Addr) (od:Option Addr),mg c=some (.ref C)→lZ (vh μ S H') od xs→E (.ref C) od H'
theorem Ci:XOk (fG (CXE P w) P w K mg base N qual scope f cd A outer s H E) (pC mg H E):=by
 intro pins σ H1 s1 a C od c xs S μ H' s' B I F fl hm hr hx hw
 have I':=I.vV F
 show JY (J6 P w) (A.deeper (Mj qual scope s.heap.objs.size f cd)) (SS (Mj qual scope s.heap.objs.size f cd) (.ref a)) _ _ s'
 refine yu (fun h=>Bb (L:=s.heap.objs.size) I.ok.frames rfl fl h) fun h' fl' up=>?_
 have ff:s'.heap.FunFrames B (Mj qual scope s.heap.objs.size f cd :: outer):=fl.2.2.1
 refine ⟨a,C,od,H',B,rfl,I'.Bp rfl rfl fl.1 ff.2.2 F.trk (fun b o e n hb=>?_) ?_ F.free hw.1 fl'.1 up,fl',hw.2 C od hm hx⟩
 ·have e1:=I.base.keep b o e n hb (by intro z;cases z)
  have n1:=I.base.free b o e n (by intro z;cases z)
  refine F.old b o e1 n1 fun z=>?_
  rcases J1.mp (I.jQ b z) with z | z
  ·rw [z] at e
   exact absurd (J4 e) (LK _)
  ·exact hb z
 ·cases q:s.heap.get? a with
  | none=>exact q
  | some o=>
   obtain ⟨o',e'⟩:=I.base.there a o q (by intro z;cases z)
   rw [F.new] at e'
   cases e'
theorem C7:XMk (fG (CXE P w) P w K mg base N qual scope f cd A outer s H E) (pC mg H E):=by
 intro pins σ H1 s1 a C c xs oe vs S μ I ho hoc hod ho1 fa fn hm hr hx hw
 have st:=I.stack
 have stf:=I.pF
 have naf:a∉frs (Mj qual scope s.heap.objs.size f cd :: outer):=fun z=>by
  obtain ⟨_,o,ho',hnf⟩:=st.mem z
  rw [ho] at ho';cases ho';exact hnf vs hod
 have hin:∀ env∈(Mj qual scope s.heap.objs.size f cd :: outer),∀ b,env.frame=some b→b∈a :: frs (Mj qual scope s.heap.objs.size f cd :: outer):=fun env he b hb=>.tail _ (Oe.mpr ⟨env,he,hb⟩)
 have hl:=PySem.W.funFrames_hide st hin
 have hs:(O4 s1.heap (a :: frs (Mj qual scope s.heap.objs.size f cd :: outer))).StaysIn s1.heap:=fun b o q=>Sf _ q
 have trk:∀ b o,H1 b=some o→∃ u,(O4 s1.heap (a :: frs (Mj qual scope s.heap.objs.size f cd :: outer))).get? b=some u:=fun b o e=>by
  obtain ⟨u,hu⟩:=(I.hok b o e).some_at
  refine ⟨u,Pe _ hu fun z=>?_⟩
  rcases J1.mp z with rfl | z
  ·rw [fa] at e;cases e
  ·rw [stf b z] at e;cases e
 show JY (J6 P w) (A.deeper (Mj qual scope s.heap.objs.size f cd)) (SS (Mj qual scope s.heap.objs.size f cd) (.ref a)) _ _ s1
 refine yu (fun h=>En (L:=s.heap.objs.size) I.ok.frames hl rfl ho hs (Rx _ (.head _)) hod ho1 h) fun h2 fl' up=>?_
 rw [hoc] at fl'
 refine ⟨a,C,oe.dict,H1,_,rfl,I.Bp (B:=O4 s1.heap (a :: frs (Mj qual scope s.heap.objs.size f cd :: outer))) rfl rfl hs hl.2.2 trk (fun b o e n hb=>?_) fn fa hw.1 fl'.1 up,fl',hw.2 C _ hm hx⟩
 have e1:=I.base.keep b o e n hb (by intro z;cases z)
 refine Pe _ e1 fun z=>?_
 rcases J1.mp z with rfl | z
 ·rw [fn] at e;cases e
 rcases J1.mp (I.jQ b z) with z | z
 ·rw [z] at e
  exact absurd (J4 e) (LK _)
 ·exact hb z
end
section
variable {X:Cx} {pins:List (Addr×Obj)} {σ:St} {H:Hp} {s:JU} {a:Addr}
theorem Inv.qP (I:Inv X pins σ H s) (n:s.heap.get? a=none):H a=none:=by
 cases q:H a with
 | none=>rfl
 | some o=>
  obtain ⟨u,hu⟩:=(I.hok a o q).some_at
  rw [n] at hu
  cases hu
theorem Inv.vO (I:Inv X pins σ H s) (n:s.heap.get? a=none) (hex:X.ex=[]:=by exact rfl):X.s₀.heap.get? a=none:=by
 cases q:X.s₀.heap.get? a with
 | none=>rfl
 | some o=>
  obtain ⟨o',e'⟩:=I.base.there a o q (by rw [hex];intro z;cases z)
  rw [n] at e';cases e'
end
def WEx (mg:Str→Option Value) (E:XK):WX:=fun c xs S μ H'=>∀ (C:Addr) (od:Option Addr),mg c=some (.ref C)→lZ (vh μ S H') od xs→E (.ref C) od H'
def spX (K:JV) (mg:Str→Option Value) (F:XF):Sp:=fun vs H Q E=>∃ μ S us,HR μ S H∧bT K mg μ S H vs us∧bg (bh K mg) (WEx mg E) μ S H (F us S) Q
def OkX (P:Kn) (w:Kq) (K:JV) (mg:Str→Option Value) (lev:Nat) (x:Str) (ps:List Str) (M:XF):Prop:=∃ (f:Addr) (fd:Lk),mg x=some (.ref f)∧MM K (.ref f)=true∧(∀ us:List Value,us.length=ps.length→OR fd ⟨us,[]⟩=pure (ps.zip us))∧∀ base,eK P w K mg base (CXE P w) lev f fd ps (spX K mg M)
def dZ (F:XF) (as:XA):XE:=fun τ S=>(as τ S).bind fun us S1=>F us S1
def mf (c:Str) (a:XE):XS:=fun τ S=>(a τ S).bind fun _ S1=>.ex c [] S1
section
variable {X:Cx} {WE:WX} {e:Ke} {es:List Ke} {pos p:Pos} {lev j:Nat} {ps:List Str} {F:XF} {x:Str} {ts:XA}
theorem gE [n:NS e] (G:OkX X.prog X.w X.K X.mg lev x ps F) (hx:XOk X WE) (hr:cG j X.A) (ha:RA X WE (e :: es) ts) (hj:lev≤j:=by decide) (hg:Gl X x:=by exact rfl)
  (hdb:(x == ("__debug__":Str))=false:=by decide) (hpl:(Ly pos (J7 es X.env)).any (·.1)=false:=by rfl):RE X WE (.Call (.Name x p) (e :: es) [] pos) (dZ F ts):=by
 obtain ⟨f,fd,hm,hk,hb,G⟩:=G
 refine ⟨(uI (E:=fun Cv od H'=>∃ c xs S μ,X.mg c=some Cv∧HR μ S H'∧lZ (vh μ S H') od xs∧WE c xs S μ H') (G X.base) (hr.mono hj) hg hm hk (.all hb) .nil ?_ ha.h hdb (n.eq es X.env) hpl).weak fun σ H Q ⟨μ,S,τ,hr,sr,p⟩=>⟨μ,S,τ,hr,sr,p.bind fun vs xs S1 μ1 H1 st1 r1 p1=>?_⟩⟩
 ·rintro pins σ H s e s' I ⟨a,C,od,H',B,rfl,F,fl,c,xs,S,μ,hm,hr,hf,hw⟩
  exact hx pins σ H s a C od c xs S μ H' s' B I F fl hm hr hf hw
 ·rw [N9]
  refine ⟨μ1,S1,xs,st1.hr,r1,?_⟩
  generalize F xs S1=res at p1
  cases res with
  | ok a S'=>exact p1
  | ex c ys S'=>exact fun μ' H' st C od hC hf=>⟨c,ys,S',μ',hC,st.hr,hf,p1 μ' H' st⟩
  | bad=>exact p1
end
def Ec (K:JV) (mg:Str→Option Value) (c:Str):Prop:=∃ C:Addr,mg c=some (.ref C)∧R4 K C [.type "ValueError",.type "Exception",.type "BaseException",.type "object"] "ValueError.__new__"=true
theorem A6 {K:JV} {h:Heap} (X:K.In h) (G:h.Ns KY mg) (a:VI K KY c=some (some (.ref C))) (q:R4 K C [.type "ValueError",.type "Exception",.type "BaseException",.type "object"] "ValueError.__new__"=true):Ec K mg c:=⟨C,U2 X G a,q⟩
open PySem.W in
theorem uS {K:JV} {h:Heap} (X:K.In h) (q:R4 K C bmB newId=true):∃ bm N nm q bs hdct sn sub ab col dd k0 k1 k2 k3 k5 mN,h.get? C=some (Tt nm q C N bs bm hdct sn sub ab col dd k0 k1 k2 k3 k5 newId)∧h.Ns N mN∧mN "__init__"=none∧OwnTail h bmB bm:=by
 unfold excIn at q
 split at q
 ·rename_i dd cd sl ho
  split at q
  ·rename_i C' bm k0 k1 k2 k3 n k5 hm hs
   simp only [Ko,Lv,Bool.not_eq_true'] at q
   obtain ⟨⟨⟨⟨⟨rfl,rfl⟩,hdel⟩,ht⟩,hok⟩,hni⟩:=q
   obtain ⟨nm,bs,mro,ns,qn,hd,sn,sub,ab,col,del⟩:=cd
   dsimp only at hm hdel hok hni
   subst hm hdel
   have hsl:sl=#[k0,k1,k2,k3,some (.builtin n),k5]:=by
    obtain ⟨l⟩:=sl
    simp only at hs
    rw [hs]
   subst hsl
   exact ⟨bm,ns,nm,qn,bs,hd,sn,sub,ab,col,dd,k0,k1,k2,k3,k5,_,X _ _ ho,.of_isNs (isNs_of_in X hok),nsMap_none_of_in X hok hni,tail_of_in X ht⟩
  ·cases q
 ·cases q
section
variable {X:Cx} {WE:WX} {e:Ke} {xe:XE} {c:Str} {np cpos pos:Pos}
theorem rP (O:Ec X.K X.mg c) (hmk:XMk X WE) (he:RA X WE [e] (aa xe aj)) (hex:X.ex=[]:=by exact rfl) (hc:X.calm=true:=by exact rfl) (hg:Gl X c:=by exact rfl) (hd:(c == ("__debug__":Str))=false:=by decide)
  (hs:J7 [e] X.env=[(false,KC e X.env)]:=by rfl):RS X WE (.Raise (some (.Call (.Name c np) [e] [] cpos)) none pos) (mf c xe):=⟨by
 intro pins s σ H D I h
 obtain ⟨μ,S,τ,hr,sr,p⟩:=h
 obtain ⟨C,hm,hq⟩:=O
 obtain ⟨bm,N,nm,q,bs,hdct,sn,sub,ab,col,dd,k0,k1,k2,k3,k5,mN,hC,hN,hni,T⟩:=uS I.mod.kin hq
 refine wpAny_Raise_call_subT (C:=C) (nm:=nm) (q:=q) (N:=N) (bs:=bs) (bm:=bm) (hdct:=hdct) (sn:=sn) (sub:=sub) (ab:=ab) (col:=col) (dd:=dd) (k0:=k0) (k1:=k1) (k2:=k2) (k3:=k3) (k5:=k5)
  M7 (mN:=mN) (T.hasType M7.hasBase) (I.ok.hd hc) (by rw [hs];rfl) hni (jK I hg hm ⟨rfl,?_⟩ hd)
 have ha:=he.h cpos pins s σ H (fun vs H1=>∃ (v:V),vs=[v]∧∃ μ1 S1,HR μ1 S1 H1∧WE c [] S1 μ1 H1) I ⟨μ,S,τ,hr,sr,?_⟩
 ·rw [hs] at ha ⊢
  refine Nc (Me ha (fun us s2 z=>?_) fun _ _ y=>y)
  obtain ⟨vs,H1,I1,r1,v,rfl,μ1,S1,hr1,hw⟩:=z
  have l1:=r1.length
  refine ⟨rfl,?_,I1.bk _ _ hC,hN.keeps I1.bk,T.keeps I1.bk,fun h' a hx=>?_⟩
  ·show us.length≤sizeLine
   rw [← l1]
   exact (by decide:1≤sizeLine)
  ·obtain ⟨t,ht,_⟩:=hx.there
   refine hmk pins σ H1 { s2 with heap:=h' } a C c [] _ _ S1 μ1 (I1.kept (t':=s2.toks) hx.keeps) ht rfl rfl rfl (I1.qP hx.new) (I1.vO hx.new hex) hm hr1 (fun z=>absurd rfl z) hw
 ·unfold mf at p
  unfold aa aj
  have q:bg (RlS X.K X.mg) WE μ S H ((xe τ S).bind fun x S1=>(.ex c [] S1:R (Fl×Nv))) D.at:=p
  generalize xe τ S=res at q ⊢
  cases res with
  | ok x S1=>
   intro b μ' H' st rv
   cases rv with
   | cons r1 r2=>
    cases r2
    exact ⟨_,rfl,μ',S1,st.hr,q μ' H' st⟩
  | ex c' ys S1=>exact q
  | bad=>exact q⟩
end
section
variable {P:Kn} {w:Kq} {K:JV} {mg:Str→Option Value} {base:Heap}
theorem Ho {x qual:Str} {st:Stmt} {f:Addr} {fd:Lk} {N ps:List Str} {lev:Nat} {m:XS} (F:Fun K x qual st f fd) (Sc:fN N ps (bj st))
  (hb:∀ (cdv:Value) (A:KD) (outer:List Env) (s:JU) (H:Hp) (E:XK),cG lev (A.deeper (Mj qual (bj st) s.heap.objs.size f cdv))→RB (fG (CXE P w) P w K mg base N qual (bj st) f cdv A outer s H E) (pC mg H E) (cR st) m) :
  eK P w K mg base (CXE P w) (lev+1) f fd ps (spX K mg (a_ ps.length N.length m)):=by
 obtain ⟨oc,od,kV,doc,pm,an,cdv,ct,osl,rfl,lk,hcd⟩:=F.ex
 refine u7 lk hcd Sc (fun vs H Q E h=>?_) (fun A outer s H vs Q E hr h=>?_)
 ·obtain ⟨μ,S,us,hr,rs,p⟩:=h
  unfold a_ at p
  split at p
  ·rw [rs.length];assumption
  ·exact p.elim
 ·refine ⟨_,(hb cdv A outer s H E hr).h,?_⟩
  obtain ⟨μ,S,us,hr,rs,p⟩:=h
  unfold a_ at p
  split at p
  ·rename_i hl
   have sr:cB K mg μ S H (start N vs) (us.map some++Kb (N.length - ps.length) none):=by
    rw [← hl];exact cB.beg rs
   refine ⟨μ,S,_,hr,sr,?_⟩
   generalize m (us.map some++Kb (N.length - ps.length) none) S=res at p
   cases res with
   | bad=>exact p.elim
   | ex c xs S'=>exact fun μ' H' st=>⟨st.dm,fun C od hC hf=>p μ' H' st.take C od hC (hf.mono fb)⟩
   | ok q S'=>
    obtain ⟨fl,τ'⟩:=q
    rintro ⟨fv,σ'⟩ μ' H' st ⟨sr',fr⟩
    cases fl with
    | nx=>
     cases fv with
     | nx=>exact oF (K:=K) (mg:=mg) (v:=.non) (z:=.d .non) st Rep.non p
     | _=>exact (show False from fr).elim
    | rt z=>
     cases fv with
     | rt v=>exact oF st fr p
     | _=>exact (show False from fr).elim
    | bk=>exact (show False from p).elim
    | ct=>exact (show False from p).elim
  ·exact p.elim
end
theorem vz {K:JV} {mg:Str→Option Value} {P:Kn} {w:Kq} {x:Str} {st:Stmt} {ps:List Str} {lev:Nat} {k n:Nat} {m:XS} {M:XF} (N:List Str) (F:Df K mg x st)
    (hb:∀ (base:Heap) (f:Addr) (cdv:Value) (A:KD) (outer:List Env) (s:JU) (H:Hp) (E:XK),cG lev (A.deeper (Mj x (bj st) s.heap.objs.size f cdv))→LQ (bj st) N→XOk (fG (CXE P w) P w K mg base N x (bj st) f cdv A outer s H E) (pC mg H E)→XMk (fG (CXE P w) P w K mg base N x (bj st) f cdv A outer s H E) (pC mg H E)→RB (fG (CXE P w) P w K mg base N x (bj st) f cdv A outer s H E) (pC mg H E) (cR st) m)
    (hM:M=a_ k n m:=by rfl) (hk:ps.length=k:=by rfl) (hn:N.length=n:=by rfl) (Sc:fN N ps (bj st):=by exact ⟨rfl,rfl,rfl,by decide +kernel,rfl,by decide +kernel,by decide +kernel⟩)
    (hbd:∀ (kV doc pm:Value) (an:Option Addr) (cdv ct:Value) (us:List Value),us.length=ps.length→OR (MD x x (fL st) (cR st) (bj st) .none kV doc pm an cdv ct) ⟨us,[]⟩=pure (ps.zip us):=by
      intro _ _ _ _ _ _ us hl
      rcases us with _ | ⟨a,_ | ⟨b,_ | ⟨c,_ | ⟨d,_ | ⟨e,_ | ⟨f,_ | ⟨g,us⟩⟩⟩⟩⟩⟩⟩<;>first | (simp at hl;done) | rfl):OkX P w K mg (lev+1) x ps M:=by
  subst hM hk hn
  obtain ⟨f,fd,F,hm⟩:=F
  refine ⟨f,fd,hm,F.kp,?_,fun base=>Ho F Sc fun cdv A outer s H E hr=>hb base f cdv A outer s H E hr ⟨Sc.nd⟩ Ci C7⟩
  obtain ⟨oc,od,kV,doc,pm,an,cdv,ct,osl,rfl,lk,hcd⟩:=F.ex
  exact hbd kV doc pm an cdv ct
abbrev Cx.fA (X:Cx) (pins:List (Addr×Obj)) (E:Value→JU→Prop):Cx:={ X with pn:=X.pn++pins,xe:=E }
section
variable {X:Cx} {pins pins':List (Addr×Obj)} {σ:St} {H:Hp} {s:JU} {E:Value→JU→Prop}
theorem Cx.Ok.fA (ok:X.Ok):(X.fA pins E).Ok:=⟨ok.mod,ok.kind,ok.glob,ok.blt,ok.above,ok.inj,ok.has,ok.cab,ok.hd,ok.frames,ok.stk,ok.exf,ok.bs,ok.bsz,ok.noex,ok.exfs,ok.gi,ok.frf⟩
theorem Cx.Ok.eS (ok:(X.fA pins E).Ok):X.Ok:=⟨ok.mod,ok.kind,ok.glob,ok.blt,ok.above,ok.inj,ok.has,ok.cab,ok.hd,ok.frames,ok.stk,ok.exf,ok.bs,ok.bsz,ok.noex,ok.exfs,ok.gi,ok.frf⟩
theorem Inv.fA (I:Inv X pins σ H s):Inv (X.fA pins E) [] σ H s:=⟨I.ok.fA,I.os,I.bare,I.base,I.loc,I.cell,I.free,I.freeC,fun p hp=>I.pin p (by simpa using hp),I.hok,I.len⟩
theorem Inv.eS (I:Inv (X.fA pins E) pins' σ H s):Inv X pins σ H s:=⟨I.ok.eS,I.os,I.bare,I.base,I.loc,I.cell,I.free,I.freeC,fun p hp=>I.pin p (LY _ hp),I.hok,I.len⟩
theorem SP.eS {D:Ends} (h:SP (X.fA pins E) [] D f s'):SP X pins D f s':=by
 cases f with
 | next=>obtain ⟨σ',H',I,q⟩:=h;exact ⟨σ',H',I.eS,q⟩
 | brk=>obtain ⟨σ',H',I,q⟩:=h;exact ⟨σ',H',I.eS,q⟩
 | cont=>obtain ⟨σ',H',I,q⟩:=h;exact ⟨σ',H',I.eS,q⟩
 | ret u=>obtain ⟨v,σ',H',I,r,q⟩:=h;exact ⟨v,σ',H',I.eS,r,q⟩
theorem Inv.u_ (I:Inv X pins σ H s) (n:H a=none) (h0:X.s₀.heap.get? a=none) (hl:a≠X.env.locals) (hc:∀ x c,X.env.cells.lookup x=some c→a≠c) (hp:∀ p∈X.pn++pins,p.1≠a) (new:b_ X.prog X.w (upd H a o) s.heap a o):Inv X pins σ (upd H a o) s:=by
 have sm:∀ b u,H b=some u→upd H a o b=some u:=fun b u q=>by rw [aS (bz q n)];exact q
 refine ⟨I.ok,I.os,I.bare,⟨I.base.keep,I.base.slot,fun b u q n' hx=>?_,I.base.there,fun b xs q=>sm _ _ (I.base.tups b xs q),fun b u xs q=>sm _ _ (I.base.frzs b u xs q),fun b ps q=>?_⟩,I.loc,I.cell,?_,fun x c q=>?_,fun p hpp=>?_,fun b u q=>?_,I.len⟩
 ·rw [aS (fun z=>by rw [z,h0] at q;cases q)]
  exact I.base.free b u q n' hx
 ·obtain ⟨more,e⟩:=I.base.tbls b ps q
  exact ⟨more,sm _ _ e⟩
 ·rw [aS (LN hl)];exact I.free
 ·rw [aS (LN (hc x c q))];exact I.freeC x c q
 ·obtain ⟨e,n1,r⟩:=I.pin p hpp
  exact ⟨e,by rw [aS (hp p hpp)];exact n1,r⟩
 ·by_cases z:b=a
  ·subst z
   rw [b9] at q
   cases q
   exact new
  ·rw [aS z] at q
   exact (I.hok b u q).iW (fun _ _ _ e=>e) (fun c e=>sm _ _ e) fun c xs e=>sm _ _ e
end
section
variable {X:Cx} {pins:List (Addr×Obj)} {σ:St} {H:Hp} {s:JU}
theorem Inv.names (I:Inv X pins σ H s) (hs:K_ X.env.locals s.heap h') (hn:h'.Ns X.env.locals m') (hl:σ'.length=σ.length)
  (hv:∀ (i:Nat) (x:Str) (v:V),X.N[i]?=some x→σ'[i]?=some (some v)→Vis X.env.scope x→∃ u,RelV v u∧Look X.env h' m' x u):Inv X pins σ' H { s with heap:=h',toks:=t' }:=by
 have neL:∀ b o,X.s₀.heap.get? b=some o→b≠X.env.locals:=fun b o e=>Kf (Kt (J4 e) I.ok.above)
 refine ⟨I.ok,I.os,I.bare,⟨fun b o e n hb hx=>(hs.2 b (neL b o e)).trans (I.base.keep b o e n hb hx),fun b o e n hb hx=>?_,I.base.free,fun b o e hx=>?_,I.base.tups,I.base.frzs,I.base.tbls⟩,⟨m',hn,hv⟩,fun x c e=>?_,I.free,I.freeC,fun p hp=>?_,fun b o q=>?_,hl.trans I.len⟩
 ·obtain ⟨sl,e1⟩:=I.base.slot b o e n hb hx
  exact ⟨sl,(hs.2 b (neL b o e)).trans e1⟩
 ·obtain ⟨o',e1⟩:=I.base.there b o e hx
  exact ⟨o',(hs.2 b (neL b o e)).trans e1⟩
 ·obtain ⟨v,z⟩:=I.cell x c e
  exact ⟨v,z.sameBut hs (I.cne x c e)⟩
 ·obtain ⟨e,n,ne,nf,d⟩:=I.pin p hp
  exact ⟨(hs.2 p.1 ne).trans e,n,ne,nf,d⟩
 ·refine (I.hok b o q).iW (fun c u hc e=>(hs.2 c ?_).trans e) (fun _ q=>q) fun _ _ q=>q
  intro z
  have fr:=I.free
  rcases hc with rfl | hc
  ·rw [z,fr] at q;cases q
  ·rw [z,fr] at hc;cases hc
end
def sy (cs:List Str) (len iy:Nat) (m:XS):XS:=fun τ S=>match m τ S with
 | .ok q S'=>.ok q S'
 | .ex c xs S'=>if c∈cs then .ok (.nx,(Kb len none).set iy (some (.xc c xs))) S' else .bad
 | .bad=>.bad
def Hit (K:JV) (mg:Str→Option Value) (c:Str):Prop:=∃ C W:Addr,mg c=some (.ref C)∧mg "WishError"=some (.ref W)∧PySem.W.exmOne K (.ref C) (.ref W)=some true
section
variable {X:Cx} {WE:WX} {body:List Stmt} {m:XS} {np hpos apos py pn pos:Pos} {n y:Str} {cs:List Str}
theorem Gb (ie iy:Nat) (lq:LQ esc EN) (hcs:∀ c∈cs,Hit X.K X.mg c) (hb:∀ (pins:List (Addr×Obj)) (E':Value→JU→Prop) (WE':WX),XOk (X.fA pins E') WE'→RB (X.fA pins E') WE' body m)
  (h2:X.N=EN:=by exact rfl) (hie:X.N[ie]?=some n:=by exact rfl) (hiy:X.N[iy]?=some y:=by exact rfl) (hne:y≠n:=by decide) (hkn:X.env.kindOf n=some .local:=by exact rfl) (hky:X.env.kindOf y=some .local:=by exact rfl) (hst:X.stack=X.env :: X.outer:=by exact rfl) (hfr:X.env.frame=some X.env.locals:=by exact rfl)
  (hln:X.env.scope.names.lookup n=some .local:=by exact rfl) (hly:X.env.scope.names.lookup y=some .local:=by exact rfl) (hdn:(n == ("__debug__":Str))=false:=by decide)
  (hg:Gl X "WishError":=by exact rfl) (hsw:O0 (.Name n pn) (some (.Name y py)) apos.line X.env=pure false:=by rfl) (hlen:X.N.length=len:=by exact rfl) (hex:X.ex=[]:=by exact rfl) :
  RS X WE (.Try body [.ExceptHandler (some (.Name "WishError" np)) (some n) [.Assign [.Name y py] (.Name n pn) apos] hpos] [] [] pos) (sy cs len iy m):=⟨by
 have hN:X.N.Nodup:=h2 ▸ lq.nd
 intro pins s σ H D I h
 obtain ⟨μ,S,τ,hr,sr,p⟩:=h
 refine wpAny_Try_except ?_
 have hx:XOk (X.fA pins fun e s₁=>JY (J6 X.prog X.w) X.A (Oj e X.env) (fun _ s₂=>JY (J6 X.prog X.w) X.A (UH e none) (fun _ s₃=>JY (J6 X.prog X.w) X.A (handleBy e X.env [.ExceptHandler (some (.Name "WishError" np)) (some n) [.Assign [.Name y py] (.Name n pn) apos] hpos]) (SP X pins D) X.xe s₃) X.xe s₂) X.xe s₁)
   (fun c xs S' μ' H'=>Step μ S H μ' S' H'∧m τ S=.ex c xs S'):=by
  intro pins' σ' H1 s1 a C od c xs S2 μ2 H' s' B I1 F fl hm hr2 hf hw
  obtain ⟨st,em⟩:=hw
  replace I1:Inv X pins σ' H1 s1:=I1.eS
  replace F:ka X.prog X.w X.stack H1 s1 a H' s' B:=F
  replace fl:gx B X.stack a (.ref C) od .none s'.heap:=fl
  replace hm:X.mg c=some (.ref C):=hm
  unfold sy at p
  rw [em] at p
  dsimp only at p
  by_cases hc:c∈cs
  case neg=>rw [J9 hc] at p;exact p.elim
  rw [J2 hc] at p
  obtain ⟨C2,W,hm2,hW,hxm⟩:=hcs c hc
  obtain rfl:C=C2:=by rw [hm] at hm2;cases hm2;rfl
  have frm:X.A.frames=some (X.env :: X.outer):=by rw [← hst];exact I.ok.frames
  have aL:a≠X.env.locals:=fun z=>by
   obtain ⟨_,⟨o,_,_,ho,_⟩,_⟩:=I1.loc
   rw [← z,F.new] at ho;cases ho
  show JY (J6 X.prog X.w) X.A (Oj (.ref a) X.env) _ _ s'
  refine Bb frm hfr (hst ▸ fl) fun h3 held up3=>?_
  have F3:=F.move fl.1 fl.2.2.1 held.1 up3
  refine vj (s:={ s' with heap:=h3 }) held fun h4 fl4 up4=>?_
  have F4:=F3.move held.1 (hst ▸ held.2.2.1) fl4.1 up4
  have I4:=I1.vV F4
  refine wpAny_handleBy_cons (codeAny_handlers_test ?_) (by intro q;cases q)
  refine N0 I4.ok.kind hg (QG (by rw [I4.ok.glob];exact I4.mod.glob.keeps I4.bk) hW ?_) (by decide)
  have LT:PySem.W.Looks (J6 X.prog X.w) h4 (Sv (.ref a)) (.ref C):=by
   obtain ⟨ob,hob,hcc,_⟩:=fl4.there
   rw [← hcc]
   exact (WV hob).andThen .now
  refine PySem.W.exm_one I4.kIn LT hxm _ _ _ _ (fun _ _ e=>e) ?_
  refine codeAny_handlers_suite_as ?_
  refine vj fl4 fun h5 fl5 up5=>?_
  have F5:=F4.move fl4.1 (hst ▸ fl4.2.2.1) fl5.1 up5
  have I5:=I1.vV F5
  have I5w:Inv X pins (Kb X.N.length none) H' _:=I5.weak (by rw [LO];exact I5.len.symm) fun i v e=>by
   rw [LW] at e
   split at e<;>cases e
  have I5t:Inv X pins (Kb X.N.length none) (upd H' a (.ext (excAt a C od))) { s' with heap:=h5 }:=I5w.u_ F.free (by
    cases q:X.s₀.heap.get? a with
    | none=>rfl
    | some o=>
     obtain ⟨o',e'⟩:=I1.base.there a o q (by rw [hex];intro z;cases z)
     rw [F.new] at e';cases e') aL (fun x c' q z=>by
    obtain ⟨v,oc,ho,_⟩:=I1.cell x c' q
    rw [← z,F.new] at ho;cases ho) (fun p hp z=>by
    have:=(I1.pin p hp).1
    rw [z,F.new] at this;cases this) (by
    obtain ⟨ob,hob,hcc,hcd,hcf⟩:=fl5.there
    exact ⟨⟨ob,hob,hcc,fun d e=>hcd.trans e,hcf⟩,⟨ob,hob⟩,fun h1 h2 ⟨o,e1,e2,e3⟩ k=>⟨o,k o e1,e2,e3⟩⟩)
  refine kC I5t hN hie (.inl hln) (v:=.ref a) (u:=.ref a) rfl (fun s6 I6=>?_) (.inr hln)
  refine Ql (SW ?_ hsw)
  obtain ⟨m6,hn6,hl6⟩:=id I6.loc
  obtain ⟨u6,ru6,l6⟩:=hl6 ie n (.ref a) hie (by rw [MR (by rw [LO];exact (J5.mp hie).1)]) (.inl hln)
  have l6':m6 n=some u6:=by
   rcases l6 with ⟨_,e⟩ | ⟨k,_⟩
   ·exact e
   ·rcases k with k | k<;>(rw [hkn] at k;cases k)
  refine Ry (Rz I6.ok.kind hkn hn6 l6' ?_) hdn
  refine kC I6 hN hiy (.inl hly) ru6 (fun s7 I7=>?_) (.inr hly)
  refine N7 ?_
  obtain ⟨m7,hn7,hl7⟩:=id I7.loc
  refine wpAny_nameGoes_keeps hkn hn7 (by rw [I7.ok.kind];rfl) fun h8 v8 hn8 hs8=>?_
  have hiyl:iy < X.N.length:=(J5.mp hiy).1
  refine ⟨(Kb X.N.length none).set iy (some (.ref a)),_,I7.names hs8 hn8 (by simp) (fun i x v e1 e2 e3=>?_),?_⟩
  ·have hi:i=iy:=by
    by_cases z:iy=i
    ·exact z.symm
    ·rw [M_ z,LW] at e2
     split at e2<;>cases e2
   subst hi
   rw [MR (by rw [LO];exact hiyl)] at e2
   cases e2
   rw [hiy] at e1
   cases e1
   obtain ⟨u,ru,lu⟩:=hl7 i y (.ref a) hiy (by rw [MR (by simp;exact hiyl)]) e3
   refine ⟨u,ru,?_⟩
   rcases lu with ⟨k,e⟩ | ⟨k,_⟩
   ·exact .inl ⟨k,by simp only [hne,L3];exact e⟩
   ·rcases k with k | k<;>(rw [hky] at k;cases k)
  ·have st2:=Step.new st.hr F.free (.ext (excAt a C od))
   refine p (FlV.nx,(Kb X.N.length none).set iy (some (.ref a))) μ2 _ (st.trans st2) ⟨⟨by simp [hlen],fun i x e=>?_⟩,Kp⟩
   dsimp only at e ⊢
   rw [OL] at e ⊢
   by_cases z:iy=i
   ·subst z
    rw [J2 rfl] at e ⊢
    rw [LO] at e ⊢
    rw [← hlen,J2 hiyl] at e
    cases e
    exact ⟨.ref a,by rw [J2 hiyl],a,C,rfl,hm,od,cn b9 (st.hr.nal F.free),hf.mono st2.vis⟩
   ·rw [J9 z,LW] at e
    split at e<;>cases e
 refine Me ((hb pins _ _ hx).h [] s σ H D I.fA ⟨μ,S,τ,hr,sr,?_⟩) (fun f s1 z=>?_) (fun e s1 z=>z)
 ·unfold sy at p
  generalize em:m τ S=res at p
  cases res with
  | ok q S'=>exact p
  | ex c xs S'=>exact fun μ' H' st=>⟨st,rfl⟩
  | bad=>exact p.elim
 ·have z':=SP.eS z
  cases f with
  | next=>exact N7 z'
  | _=>exact z'⟩
end
end L2
namespace L2
open PySem PySem.Spec PyProof.Rows PySem.W Builtin Builtin.ObjectAttr Builtin.Getset_descriptor
set_option maxRecDepth 100000
structure Cf (K:JV) (mg:Str→Option Value) (c:Str) (C:Addr):Prop where
 bound:mg c=some (.ref C)
 cls:isClsIn K C=true
 ty:Ue K (.ref C)=some (.type "type")
 exc:QX K (.ref C) (.type "BaseException")=some true
 val:QX K (.ref C) (.type "ValueError")=some true
 ga:NB K (.ref C) "__getattribute__"=some (some (.builtin "BaseException.__getattribute__"))
 gn:NB K (.ref C) "__getattr__"=some none
 gc:NB K (.ref C) "__class__"=some (some (.builtin "object.__class__"))
 ob:mroIn K C (.type "object")=some true
section
variable {prog:Kn} {w:Kq} {A:KD} {E:Value→JU→Prop} {h:Heap} {g:Array Pk} {d:SK} {t:Nat} {os:SU} {a C:Addr} {o:Obj} {K:JV} {mg:Str→Option Value} {c:Str}
theorem eQ {M:SM} (hx:h.get? a=some o) (hc:o.cls=.ref C):Looks M h (Sv (.ref a)) (.ref C):=by
 rw [← hc]
 exact (Looks.ld hx).andThen .now
theorem Ef {R:Rg→JU→Prop} (X:K.In h) (F:Cf K mg c C) (hx:h.get? a=some o) (hc:o.cls=.ref C) (hq:R (.ok (.ret (.ref C))) ⟨h,g,d,t,os⟩) :
  NM (J6 prog w) A (.call (.builtin "getset_descriptor.__get__") ⟨[.builtin "object.__class__",.ref a,.ref C],[]⟩) R ⟨h,g,d,t,os⟩:=by
 have L0:=eQ (M:=J6 prog w) hx hc
 have L1:=looks_mroIn (M:=J6 prog w) X F.ob
 refine Mo KF.slot_gs.plain KF.entry_gs (KF.slot_gs.check _ _ _ _ _ _ _ _ KF.type_class (KF.args_gs _ _ _) ?_)
 unfold Builtin.«getset_descriptor.__get__» descrGet
 rw [dga_obj]
 refine ar (tx ?_)
 unfold descrGetter descrCheckInstance descrNameAndClass MH
 simp only [KF.owner_class]
 repeat lk
 refine ⟨MV _ (by decide +kernel),Mh KF.entry_class ?_⟩
 unfold Builtin.«object.__class__» Pt
 repeat lk
 exact hq
theorem z_ {tk:Tok} {Q:Fin→JU→Prop} (X:K.In h) (F:Cf K mg c C) (hx:h.get? a=some o) (hc:o.cls=.ref C) (hq:Q (.done (.ret (.ref C))) ⟨h,g,d,t,os⟩) :
  JY (J6 prog w) A (Builtin.«object.__getattribute__» ⟨[.ref a,.str "__class__" tk],[]⟩) Q E ⟨h,g,d,t,os⟩:=by
 have L0:=eQ (M:=J6 prog w) hx hc
 have L1:=MW (M:=J6 prog w) X F.gc
 have hT5:(⟨h,g,d,t,os⟩:JU).TypeIs (.builtin "object.__class__") "getset_descriptor":=PM
 have f5:=PM
 have f6:=PySem.F.slot_gs_get.lookup
 have f7:=PySem.F.slot_gs_set.lookup
 repeat (any_goals (first | assumption | with_reducible refine L0.at ?_ | with_reducible refine L1.at ?_ | wp_step))
 refine Ef X F hx hc ?_
 repeat (any_goals (first | assumption | wp_step))
theorem sJ {M:SM} {nameV:Value} {Q:Unit→JU→Prop} (X:K.In h) (F:Cf K mg c C) (hx:h.get? a=some o) (hc:o.cls=.ref C) (hq:Q () ⟨h,g,d,t,os⟩):JY M A (QC "BaseException.__getattribute__" ⟨[.ref a,nameV],[]⟩) Q E ⟨h,g,d,t,os⟩:=by
 have hk:builtinKind "BaseException.__getattribute__"=some .slot:=by decide +kernel
 have hsplit:splitId "BaseException.__getattribute__"=some ("BaseException","__getattribute__"):=by decide +kernel
 have L0:=eQ (M:=M) hx hc
 have L1:=looks_subIn (M:=M) X F.exc
 have ha:=PySem.F.args_bexc_ga (.ref a) nameV
 simp only [QC,hk,hsplit]
 refine ar ?_
 ·unfold MH
  repeat (first | with_reducible refine ar (L0.at ?_) | with_reducible refine ar (L1.at ?_) | with_reducible refine L0.at ?_ | with_reducible refine L1.at ?_ | wp_step)
  exact hq
theorem B5 {tk:Tok} {R:Rg→JU→Prop} (X:K.In h) (F:Cf K mg c C) (hx:h.get? a=some o) (hc:o.cls=.ref C) (hq:R (.ok (.ret (.ref C))) ⟨h,g,d,t,os⟩) :
  NM (J6 prog w) A (.call (.builtin "BaseException.__getattribute__") ⟨[.ref a,.str "__class__" tk],[]⟩) R ⟨h,g,d,t,os⟩:=
 Mo (by decide +kernel) Rv (sJ X F hx hc (z_ X F hx hc hq))
theorem Gx {tk:Tok} {Q:Value→JU→Prop} (X:K.In h) (F:Cf K mg c C) (hx:h.get? a=some o) (hc:o.cls=.ref C) (hq:Q (.ref C) ⟨h,g,d,t,os⟩) :
  JY (J6 prog w) A (getAttrBy (.ref a) (.str "__class__" tk) false) Q E ⟨h,g,d,t,os⟩:=by
 have L0:=eQ (M:=J6 prog w) hx hc
 have L1:=MW (M:=J6 prog w) X F.ga
 have L2:=MW (M:=J6 prog w) X F.gn
 have f3:=QJ.ga.bind (.ref a)
 have hx2:(MJ "BaseException.__getattribute__" == MJ "object.__getattribute__")=false:=by decide +kernel
 have hx1:(UI (Kg C) && MJ "BaseException.__getattribute__" == MJ "object.__getattribute__")=false:=by rw [hx2];rfl
 repeat (any_goals (first | assumption | with_reducible refine L0.at ?_ | with_reducible refine L1.at ?_ | with_reducible refine L2.at ?_ | wp_step))
 refine B5 X F hx hc ?_
 repeat (any_goals (first | assumption | wp_step))
theorem CD {Q:Option Value→JU→Prop} (X:K.In h) (F:Cf K mg c C) (hx:h.get? a=some o) (hc:o.cls=.ref C) (hq:Q (some (.ref C)) ⟨h,g,d,t+1,os⟩):JY (J6 prog w) A (getAttr? (.ref a) "__class__") Q E ⟨h,g,d,t,os⟩:=by
 unfold getAttr? getAttrBy?
 repeat (any_goals (first | assumption | with_reducible apply Gx X F hx hc | wp_step))
end
theorem Ee {K:JV} {mg:Str→Option Value} {c:Str} {C a:Addr} (F:Cf K mg c C):KitX K (.ref a) (.ref C) (fun h=>∃ o,h.get? a=some o∧o.cls=.ref C) where
 ty:=fun _ _ _ ⟨o,hx,hc⟩=>eQ hx hc
 it:=fun _ _ X _=>by
  obtain ⟨cdD,hcD⟩:=Nh.mp F.cls
  unfold clsIn at hcD
  split at hcD
  ·rename_i c' d' cd' sl' ho
   intro A' Q' E' s' k q
   unfold isType loadHead
   exact ar (wpAny_loadPart (k _ _ (X _ _ ho)) (tx q))
  ·cases hcD
 ne:=fun h tp dd its n sl X htp=>by
  obtain ⟨cdD,hcD⟩:=Nh.mp F.cls
  refine Bool.eq_false_iff.mpr fun q=>?_
  have e:C=tp:=OP (Lv.mp q)
  subst e
  unfold clsIn at hcD
  split at hcD
  ·rename_i c' d' cd' sl' ho
   have z:=(X _ _ ho).symm.trans htp
   cases z
  ·cases hcD
 ca:=fun {_ _ _ _ _ s} X ⟨o,hx,hc⟩ k=>by
  obtain ⟨h,g,d,t,os⟩:=s
  exact CD X F hx hc k
def Isb (K:JV) (mg:Str→Option Value) (c d:Str) (b:Bool):Prop:=∃ C D:Addr,mg c=some (.ref C)∧mg d=some (.ref D)∧QX K (.ref C) (.ref D)=some b∧(b=true∨(Kg C == Kg D)=false)
def Isa (K:JV) (mg:Str→Option Value) (c:Str) (v:Value) (b:Bool):Prop:=∃ C:Addr,Cf K mg c C∧kitOne K (.ref C) v=some b
theorem Hb {K:JV} {h:Heap} {mg:Str→Option Value} {c:Str} {C:Addr} (X:K.In h) (G:h.Ns KY mg) (a:nsIn K KY c=some (some (.ref C))) (b1:isClsIn K C=true) (b2:Ue K (.ref C)=some (.type "type")) (b3:QX K (.ref C) (.type "BaseException")=some true) (b4:QX K (.ref C) (.type "ValueError")=some true) (b5:NB K (.ref C) "__getattribute__"=some (some (.builtin "BaseException.__getattribute__"))) (b6:NB K (.ref C) "__getattr__"=some none) (b7:NB K (.ref C) "__class__"=some (some (.builtin "object.__class__"))) (b8:mroIn K C (.type "object")=some true):∃ C,Cf K mg c C:=⟨C,mg_of X G a,b1,b2,b3,b4,b5,b6,b7,b8⟩
theorem EK {K:JV} {h:Heap} {mg:Str→Option Value} {c d:Str} {C D:Addr} {b:Bool} (X:K.In h) (G:h.Ns KY mg) (a:nsIn K KY c=some (some (.ref C))) (a':nsIn K KY d=some (some (.ref D))) (q:QX K (.ref C) (.ref D)=some b) (z:b=true∨(Kg C == Kg D)=false):Isb K mg c d b:=⟨C,D,mg_of X G a,mg_of X G a',q,z⟩
theorem ia {K:JV} {mg:Str→Option Value} {c d:Str} {b:Bool} (h1:∃ C,Cf K mg c C) (h2:∃ D,Cf K mg d D) (h:Isb K mg c d b):∃ D,mg d=some (.ref D)∧Isa K mg c (.ref D) b:=by
 obtain ⟨C,F⟩:=h1
 obtain ⟨D,G⟩:=h2
 obtain ⟨C',D',e1,e2,q,z⟩:=h
 obtain rfl:C=C':=by rw [F.bound] at e1;cases e1;rfl
 obtain rfl:D=D':=by rw [G.bound] at e2;cases e2;rfl
 refine ⟨D,G.bound,C,F,?_⟩
 unfold kitOne
 by_cases hb:(Kg C == Kg D)=true
 ·rw [J2 hb]
  rcases z with rfl | z
  ·rfl
  ·rw [z] at hb;cases hb
 ·rw [J9 hb]
  unfold kitCls
  dsimp only
  rw [J2 (by rw [show (clsIn K D).isSome=true from G.cls,G.ty];rfl),q]
theorem EB {K:JV} {mg:Str→Option Value} {c:Str} (h1:∃ C,Cf K mg c C) (h2:∃ D,Cf K mg "WishError" D) (h:Isb K mg c "WishError" true):Hit K mg c:=by
 obtain ⟨C,F⟩:=h1
 obtain ⟨D,G⟩:=h2
 obtain ⟨C',D',e1,e2,q,z⟩:=h
 obtain rfl:C=C':=by rw [F.bound] at e1;cases e1;rfl
 obtain rfl:D=D':=by rw [G.bound] at e2;cases e2;rfl
 refine ⟨C,D,F.bound,G.bound,?_⟩
 unfold exmOne kitCls
 dsimp only
 rw [J2 (by rw [G.exc];rfl),J2 (by rw [show (clsIn K D).isSome=true from G.cls,G.ty];rfl),q]
theorem iv {K:JV} {mg:Str→Option Value} {c:Str} (h1:∃ C,Cf K mg c C):Isa K mg c (.type "ValueError") true:=by
 obtain ⟨C,F⟩:=h1
 refine ⟨C,F,?_⟩
 unfold kitOne kitCls
 rw [J9 (by intro z;cases (Lv.mp z))]
 dsimp only
 rw [J2 (by decide +kernel),F.val]
def bX (c d:Str):Bool:=d == "WishError" || c == d
structure XsF (K:JV) (mg:Str→Option Value) (cs ex:List Str):Prop where
 cf:∀ c∈ex,∃ C,Cf K mg c C
 sb:∀ c∈cs,∀ d∈ex,Isb K mg c d (bX c d)
 le:∀ c∈cs,c∈ex
section
variable {K:JV} {mg:Str→Option Value} {cs ex:List Str}
theorem jC (F:XsF K mg cs ex) {d:Str} (h:d∈ex):∀ c∈cs,∃ D,mg d=some (.ref D)∧Isa K mg c (.ref D) (bX c d):=fun c hc=>ia (F.cf c (F.le c hc)) (F.cf d h) (F.sb c hc d h)
theorem Jg (F:XsF K mg cs ex) (h:("WishError":Str)∈ex):∀ c∈cs,Hit K mg c:=fun c hc=>EB (F.cf c (F.le c hc)) (F.cf _ h) (F.sb c hc _ h)
theorem IW (F:XsF K mg cs ex):∀ c∈cs,Isa K mg c (.type "ValueError") true:=fun c hc=>iv (F.cf c (F.le c hc))
end
theorem CJ {K:JV} {h:Heap} {mg:Str→Option Value} {c d:Str} {C D:Addr} {b b':Bool} (X:K.In h) (G:h.Ns KY mg) (a:nsIn K KY c=some (some (.ref C))) (a':nsIn K KY d=some (some (.ref D))) (q:QX K (.ref C) (.ref D)=some b) (z:b=true∨(Kg C == Kg D)=false) (e:b=b'):Isb K mg c d b':=e ▸ EK X G a a' q z
def isX (cs:List Str) (f:Str→Bool) (z:Vl) (S:Sto):R Vl:=match z with
 | .xc c _=>if c∈cs then .ok (.d (.bl (f c))) S else .bad
 | _=>.bad
section
variable {X:Cx} {WE:WX} {e:Ke} {xa:XE} {nm:Str} {p p2 pos:Pos} {cs:List Str} {f:Str→Bool}
theorem uL {v:Value} {y:V} [n:NS e] (hT:PE X (.Name nm p2) (tC y)) (ry:∀ u,RelV y u→u=v) (hI:∀ c∈cs,Isa X.K X.mg c v (f c)) (hm:X.mg "isinstance"=none) (ha:RE X WE e xa) (hg:Gl X "isinstance":=by exact rfl)
  (hb:Kj "isinstance"=some (.builtin "isinstance"):=by decide +kernel)
  (hs2:J7 [.Name nm p2] X.env=(false,KC (.Name nm p2) X.env) :: J7 [] X.env:=by rfl) (hpl:(Ly pos (J7 [.Name nm p2] X.env)).any (·.1)=false:=by rfl) :
  RE X WE (.Call (.Name "isinstance" p) [e,.Name nm p2] [] pos) (xUn (isX cs f) xa):=⟨by
 have he:=n.eq [.Name nm p2] X.env
 intro pins s σ H Q I h
 refine LV (df I hg hm hb ?_ (by decide) (by decide))
 refine ME (thn ((di ha.h (di hT fY hs2) he) pos pins s σ H (fun vs H1=>∃ x μ1 S1 z,vs=[x,y]∧HR μ1 S1 H1∧bh X.K X.mg μ1 S1 H1 x z∧bg (bh X.K X.mg) WE μ1 S1 H1 (isX cs f z S1) Q) I ?_) fun us s1 ⟨vs,H1,I1,r1,q1⟩=>?_) he hpl
 ·obtain ⟨μ,S,τ,hr,sr,p⟩:=h
  exact ⟨μ,S,τ,hr,sr,p.bind fun v x S1 μ1 H1 st1 r1 p1=>⟨v,μ1,S1,x,rfl,st1.hr,r1,p1⟩⟩
 ·obtain ⟨x,μ1,S1,z,rfl,hr1,rz,p1⟩:=q1
  obtain ⟨u1,u2,rfl,ru,rw'⟩:=r1.two
  cases ry u2 rw'
  unfold isX at p1
  split at p1
  ·rename_i c xs
   split at p1
   ·rename_i hc
    obtain ⟨a,C,rfl,hmc,od,hH,_⟩:=rz
    cases ru
    obtain ⟨C',F,hk⟩:=hI c hc
    obtain rfl:C=C':=OP (KA (hmc.symm.trans F.bound))
    obtain ⟨o,ho,hcls,_⟩:=(I1.hok a _ (bo hH).2).1
    exact kia_one (Ee F) I1.kIn ⟨o,ho,hcls⟩ hk (by intro z;cases z) fun tk=>⟨.bl (f c),H1,I1.tok tk,rfl,p1.here hr1 (Rep.bl _)⟩
   ·exact p1.elim
  ·exact p1.elim⟩
theorem d9 [n:NS e] (hI:∀ c∈cs,∃ D,X.mg nm=some (.ref D)∧Isa X.K X.mg c (.ref D) (f c)) (hD:∃ D,Cf X.K X.mg nm D) (hm:X.mg "isinstance"=none) (ha:RE X WE e xa) (hg:Gl X "isinstance":=by exact rfl) (hg2:Gl X nm:=by exact rfl) (hd:(nm == ("__debug__":Str))=false:=by decide)
  (hb:Kj "isinstance"=some (.builtin "isinstance"):=by decide +kernel)
  (hs2:J7 [.Name nm p2] X.env=(false,KC (.Name nm p2) X.env) :: J7 [] X.env:=by rfl) (hpl:(Ly pos (J7 [.Name nm p2] X.env)).any (·.1)=false:=by rfl) :
  RE X WE (.Call (.Name "isinstance" p) [e,.Name nm p2] [] pos) (xUn (isX cs f) xa):=by
 obtain ⟨D,G⟩:=hD
 exact uL (v:=.ref D) (y:=.ref D) (Ct hg2 G.bound rfl hd) (fun u r=>r) (fun c hc=>by
  obtain ⟨D',e,h⟩:=hI c hc
  rw [G.bound] at e
  cases e
  exact h) hm ha hg hb hs2 hpl
end
theorem jz:∀ bs:List Bool,ReadsAll hp (bs.map Np) (bs.map Rb) []
 | []=>.nil
 | b :: bs=>.cons (as:=[]) (bs:=[]) (.bool b) (jz bs)
theorem pV (bs:List Bool):(bs.map Rb).all Shape.bool.has=true:=by
 rw [Ol,Mv]
 intro b _
 rfl
theorem kW (k:Bool):∀ bs:List Bool,VJ (.bool k) (bs.map Rb)=(bs.count k:Nat)
 | []=>rfl
 | b :: bs=>by
  rw [Kx,VJ,kW k bs,List.count_cons]
  cases b<;>cases k<;>simp [Spec.same]<;>omega
theorem qg:∀ {ns:List Bool} {j:Nat},j < ns.idxOf k→∀ (h2:j < ns.length),(ns[j] == k)=false
 | n :: r,0,h,_=>by
  by_cases e:n=k
  ·subst e;simp at h
  ·simpa using e
 | n :: r,j+1,h,h2=>by
  by_cases e:n=k
  ·subst e;simp at h
  ·have hb:(n == k)=false:=by simpa using e
   have h':j < r.idxOf k:=by
    rw [List.idxOf_cons,hb] at h
    exact Rc h
   exact qg h' (Rc h2)
def uy:V→List V→Hp→VK→Prop:=fun x vs H Q=>∃ (l:Addr) (bs:List Bool) (k:Bool),x=.ref l∧vs=[.bl k]∧H l=some (.lst (bs.map V.bl))∧Q (.int (bs.count k:Nat)) H
def uc:V→List V→Hp→VK→Prop:=fun x vs H Q=>∃ (l:Addr) (bs:List Bool) (k:Bool),x=.ref l∧vs=[.bl k]∧H l=some (.lst (bs.map V.bl))∧k∈bs∧bs.length≤1000∧Q (.int (bs.idxOf k:Nat)) H
section
variable {X:Cx} {WE:WX}
theorem yQ:MtM X "list.count" uy:=by
 intro pins s σ H x vs v us Q I rx rv h
 obtain ⟨l,bs,k,rfl,rfl,hH,q⟩:=h
 cases rx
 obtain ⟨u,rfl,ru⟩:=rv.one
 cases ru
 obtain ⟨its,r,pl,hz⟩:=I.list (SqL.of hH)
 have hits:=mF r
 subst hits
 refine count_list_bools (xs:=bs.map Rb) (hp:=s.heap) pl.isList (jz bs) (pV bs) ?_
 rw [kW]
 exact ⟨.int _,H,I.kept (t':=s.toks+1) fun b o e=>e,⟨_,rfl⟩,q⟩
theorem wX:MtM X "list.index" uc:=by
 intro pins s σ H x vs v us Q I rx rv h
 obtain ⟨l,bs,k,rfl,rfl,hH,hk,hb,q⟩:=h
 cases rx
 obtain ⟨u,rfl,ru⟩:=rv.one
 cases ru
 obtain ⟨its,r,pl,hz⟩:=I.list (SqL.of hH)
 have hits:=mF r
 subst hits
 obtain ⟨⟨cls,dd,data,sl⟩,ho,hc,n,hd⟩:=pl.isList
 simp only at hc hd
 subst hc hd
 have hj:bs.idxOf k < bs.length:=List.idxOf_lt_length_iff.mpr hk
 refine TY QK ⟨_,ho,rfl⟩ PySem.F.entry_list_index (PySem.F.args_list_index_2 _ _)
  (VL l (bs.map Np).toArray n dd sl (.bool k) (VM k) (bs.idxOf k) (by simpa using hj) (by omega) ?_ ?_) ⟨ho,fun y hy=>eq_isBoolOf k (jz (hp:=s.heap) bs) (pV bs) y (by simpa using hy) _ _,?_⟩
 ·simp only [RN,TN,VM]
  simpa using List.getElem_idxOf hj
 ·intro j hjs hlt
  simp only [RN,TN,VM]
  exact qg hlt (by simpa using hjs)
 ·exact ⟨.int _,H,I.kept (t':=s.toks+1) fun b o e=>e,⟨_,rfl⟩,q⟩
end
def vE (xs:List D) (z:D) (S:Sto):R Vl:=match z,fZ xs with
 | .bl k,some bs=>.ok (.d (.int (bs.count k:Nat))) S
 | _,_=>.bad
def vG (xs:List D) (z:D) (S:Sto):R Vl:=match z,fZ xs with
 | .bl k,some bs=>if k∈bs∧bs.length≤1000 then .ok (.d (.int (bs.idxOf k:Nat))) S else .bad
 | _,_=>.bad
theorem yV:zH uy vE:=by
 intro K mg WE μ S H a xs vs w z Q hr h rs rw' p
 unfold vE at p
 split at p
 ·rename_i k bs e1
  cases rw'
  rw [kB e1] at rs
  rw [aE.n6 rs] at h
  exact ⟨_,bs,k,rfl,rfl,h,p.here hr (Rep.int _)⟩
 ·exact p.elim
theorem w4:zH uc vG:=by
 intro K mg WE μ S H a xs vs w z Q hr h rs rw' p
 unfold vG at p
 split at p
 ·rename_i k bs e1
  split at p
  ·rename_i hc
   cases rw'
   rw [kB e1] at rs
   rw [aE.n6 rs] at h
   exact ⟨_,bs,k,rfl,rfl,h,hc.1,hc.2,p.here hr (Rep.int _)⟩
  ·exact p.elim
 ·exact p.elim
end L2
namespace L2
open PySem PySem.Spec PyProof.Rows PySem.W Builtin Builtin.ObjectAttr
set_option maxRecDepth 100000
abbrev veM:List Value:=[.type "ValueError",.type "Exception",.type "BaseException",.type "object"]
def exN (e C:Addr) (od:Option Addr) (h:Heap):Prop:=∃ t,h.get? e=some ⟨.ref C,od,.fields #[.ref t,.none,.none,.none,.bool false,.none],#[]⟩
structure Nw (K:JV) (mg:Str→Option Value) (c qual:Str) (st:Stmt) (C W fI:Addr) (fd:Lk):Prop where
 cf:Cf K mg c C
 we:Ec K mg "WishError"
 w:mg "WishError"=some (.ref W)
 obj:∃ nm q N bs sn sub ab col dd k0 k1 k2 k3 k5,K.lookup C=some (Tt nm q C N bs (.ref W :: veM) true sn sub ab col dd k0 k1 k2 k3 k5 "ValueError.__new__")
 fi:NB K (.ref C) "__init__"=some (some (.ref fI))
 ft:Ue K (.ref fI)=some (.type "function")
 sa:NB K (.ref C) "__setattr__"=some (some (.builtin "object.__setattr__"))
 nu:NB K (.ref C) "number"=some none
 wga:specialIn K (.ref W) "__getattribute__"=some (some (.builtin "type.__getattribute__"))
 wrd:readsIn K W (.type "type")=true
 wfc:findCls K (.ref W) (.type "type") "__init__"=some (.val (.builtin "ValueError.__init__"))
 fn:Fun K "__init__" qual st fI fd
 kp:keepIn K (.ref C)=true
section
variable {K:JV} {mg:Str→Option Value} {c qual:Str} {st:Stmt} {C W fI:Addr} {fd:Lk}
theorem Nw.tail (F:Nw K mg c qual st C W fI fd) (X:K.In h):OwnTail h veM (.ref W :: veM):=by
 obtain ⟨W',hm,hq⟩:=F.we
 obtain rfl:W'=W:=by rw [F.w] at hm;cases hm;rfl
 obtain ⟨bm,N,nm,q,bs,hdct,sn,sub,ab,col,dd,k0,k1,k2,k3,k5,mN,hC,hN,hni,T⟩:=uS X hq
 exact .own hC hN hni .base
variable {prog:Kn} {w:Kq} {A:KD} {E:Value→JU→Prop} {h:Heap} {g:Array Pk} {d:SK} {t:Nat} {os:SU} {v:Value}
theorem Nw.x_ (F:Nw K mg c qual st C W fI fd) (X:K.In h)
  (hq:∀ h' e,Uy h h' e (.ref C) [v]→JY (J6 prog w) A (call (.ref fI) [.ref e,v]) (fun r s'=>r=.none∧Q (.done (.ret (.ref e))) s') E ⟨h',g,d,t,os⟩) :
  JY (J6 prog w) A (Builtin.«type.__call__» ⟨[.ref C,v],[]⟩) Q E ⟨h,g,d,t,os⟩:=by
 have B:=M7
 have T:=F.tail X
 obtain ⟨nm,q,N,bs,sn,sub,ab,col,dd,k0,k1,k2,k3,k5,hC⟩:=F.obj
 replace hC:=X _ _ hC
 repeat (first | with_reducible refine Md hC ?_ | with_reducible refine wpAny_madeBy_exc hC ?_ | wp_step)
 refine codeAny_call_builtin_code (MV _ B.quiet) (wpAny_check_new_subT B T hC ?_)
 refine codeAny_exc_new_subT B T hC ?_ (by show 1≤sizeLine;decide)
 show JY _ _ _ _ _ _
 have kp:∀ b o,h.get? b=some o→((h.push { cls:=.type "tuple",data:=.seq [v].toArray }).push { cls:=.ref C,data:=.fields #[.ref h.objs.size,.none,.none,.none,.bool false,.none] }).get? b=some o:=fun b o e=>C0 _ (C0 _ e)
 have hC1:=kp _ _ hC
 have hget:((h.push { cls:=.type "tuple",data:=.seq [v].toArray }).push { cls:=.ref C,data:=.fields #[.ref h.objs.size,.none,.none,.none,.bool false,.none] }).get? (h.objs.size+1)=some
   { cls:=.ref C,data:=.fields #[.ref h.objs.size,.none,.none,.none,.bool false,.none] }:=by heap_get
 have hcC:(Kg C :: .ref W :: veM).contains (.ref C)=true:=by simp
 have X1:=X.keeps kp
 unfold MH
 repeat (first | with_reducible refine Md hget ?_ | (with_reducible refine wpAny_isSubtype_exc hC1 ?_;rw [hcC]) | wp_step)
 show JY _ _ (typeLookup (.ref C) _) _ _ _
 refine (MW X1 F.fi).at ?_
 refine KG (ar ?_)
 unfold bindSpecial
 refine ar ((looks_typeIn X1 F.ft).at ?_)
 rw [J2 (by decide)]
 refine tx (ar (Me (hq _ (h.objs.size+1) ⟨kp,NV (N5 _),h.objs.size,hget,NV (J3 _),?_⟩) (fun r s' hr=>?_) fun _ _ x=>x))
 ·exact C0 _ (Tn rfl rfl)
 ·obtain ⟨rfl,hQ⟩:=hr
  wp_walk
  exact hQ
theorem Nw.call (F:Nw K mg c qual st C W fI fd) (X:K.In h)
  (hq:∀ h' e,Uy h h' e (.ref C) [v]→JY (J6 prog w) (A.under (.builtin "type.__call__" ⟨[.ref C,v],[]⟩)) (Oy (.ref fI) [.ref e,v]) (fun r s'=>r=.none∧Q (.ref e) s') E ⟨h',g,d,t,os⟩) :
  JY (J6 prog w) A (Oy (.ref C) [v]) Q E ⟨h,g,d,t,os⟩:=by
 obtain ⟨nm,q,N,bs,sn,sub,ab,col,dd,k0,k1,k2,k3,k5,hC⟩:=F.obj
 replace hC:=X _ _ hC
 have f1:=tc_lookup
 have f2:=tc_bind (.ref C)
 have hT:(⟨h,g,d,t,os⟩:JU).TypeIs (.ref C) "type":=⟨_,hC,rfl⟩
 refine Nb (Pa ?_)
 show JY _ _ (callAny (.ref C) _) _ _ _
 repeat (any_goals (first | assumption | with_reducible refine Md hC ?_ | wp_step))
 refine ⟨rfl,?_⟩
 refine codeAny_call_builtin_at (MV _ (by decide +kernel)) entry_typeCall (wpAny_check_type_call_sub hC (F.x_ X fun h' e hm=>?_))
 exact hq h' e hm
theorem Nw.set (F:Nw K mg c qual st C W fI fd) (X:K.In h) (hx:h.get? e=some ⟨.ref C,none,.fields vs,#[]⟩)
  (hq:∀ h' tk,h'.get? e=some ⟨.ref C,some h.objs.size,.fields vs,#[]⟩→h'.Ns1 h.objs.size (fun y=>if y="number" then some v else none)→(∀ b o,b≠e→h.get? b=some o→h'.get? b=some o)→Q () ⟨h',g,d,tk,os⟩) :
  JY (J6 prog w) A (setAttr (.ref e) "number" v) Q E ⟨h,g,d,t,os⟩:=by
 obtain ⟨nm,q,N,bs,sn,sub,ab,col,dd,k0,k1,k2,k3,k5,hC⟩:=F.obj
 replace hC:=X _ _ hC
 have SF:=PySem.F.store_ValueError
 have L0:=eQ (M:=J6 prog w) hx rfl
 have L1:=MW (M:=J6 prog w) X F.sa
 have f3:=SF.slot.bind (.ref e)
 unfold setAttr callSpecial? specialOf
 repeat (any_goals (first | assumption | with_reducible refine L0.at ?_ | with_reducible refine L1.at ?_ | wp_step))
 have sub:Looks (J6 prog w) h (MH (.ref e) (.type "object")) true:=L0.andThen (looks_mroIn X F.cf.ob)
 refine Mo SF.slot.plain SF.entry (@check_slot (J6 prog w) _ _ ⟨h,g,d,t+1,os⟩ "object.__setattr__" "object" "__setattr__" (.ref e) [.str "number" t,v] [] _ SF.kind SF.split sub (SF.args (.ref e) (.str "number" t) v) ?_)
 rw [show ([Kg e]++[Pu (K6 "number") t,v])=[Kg e,Pu (K6 "number") t,v] from rfl,osa_eq,refuse_eq]
 refine ar (ar (L0.at (ar (wpAny_mroOf_exc hC ?_))))
 rw [Uz,Uz,SF.passes]
 refine tx (ar (L0.at (ar ((MW X F.nu).at (ar (tx ?_))))))
 have hx1:(h.push { cls:=.type "dict",data:=.dict #[] }).get? e=some ⟨.ref C,none,.fields vs,#[]⟩:=C0 _ hx
 have hxs:e≠h.objs.size:=Kf (J4 hx)
 refine ar (m:=ownStreamTells (.ref e) (.ref C)) (tx (ar (m:=ownDictForStores (.ref e)) ?_))
 unfold ownDictForStores instanceDict
 repeat (first | with_reducible refine Md hx ?_ | with_reducible refine Md hC ?_ | with_reducible refine ar ?_ | lk)
 refine R0 hx1 ?_
 refine tx ?_
 have hgd:((h.push { cls:=.type "dict",data:=.dict #[] }).update e fun o=>{ cls:=o.cls,dict:=some h.objs.size,data:=o.data,slots:=o.slots }).get? h.objs.size=some { cls:=.type "dict",data:=.dict #[] }:=
  (Sa _ _ _ _ hxs.symm).trans (Tn rfl rfl)
 have hnd:((h.push { cls:=.type "dict",data:=.dict #[] }).update e fun o=>{ cls:=o.cls,dict:=some h.objs.size,data:=o.data,slots:=o.slots }).Ns h.objs.size (fun _=>none):=
  ⟨_,#[],_,hgd,rfl,fun e he=>absurd he (by simp),fun _=>rfl⟩
 show JY _ _ (storeInDict h.objs.size (.str "number" t) "number" v) _ _ _
 unfold storeInDict newKeyGuard
 refine ar (tx (ar (wpAny_nsSet1 (Heap.Ns1.of_empty hnd) fun h' hn' hs=>?_)))
 obtain ⟨oD,esD,epD,hoD,hdD,hcD⟩:=hn'.count (Within.cons "number" v Within.nil)
 refine ar (wpAny_lookBehind hoD (by rw [hdD];exact pastItsLine_dict (Lj hcD (by rw [Km,Pc,N4];omega))) ?_)
 refine tx (tx (tx (hq h' _ ((hs.2 e hxs).trans (Ln _ hx1 rfl)) hn' fun b o hb q=>?_)))
 exact (hs.2 b (Kf (J4 q))).trans ((Sa _ _ _ _ hb).trans (C0 _ q))
variable {a dx:Addr} {o:Obj} {mA:Str→Option Value}
theorem Nw.yo (F:Nw K mg c qual st C W fI fd) (X:K.In h) (hx:h.get? a=some o) (hc:o.cls=.ref C) (hnc:∀ c,o.data≠.cls c) (hd:o.dict=some dx) (hns:h.Ns1 dx mA) (hv:mA "number"=some v) (hq:Q (.done (.ret v)) ⟨h,g,d,t,os⟩) :
  JY (J6 prog w) A (Builtin.«object.__getattribute__» ⟨[.ref a,.str "number" tk],[]⟩) Q E ⟨h,g,d,t,os⟩:=by
 obtain ⟨nm,q,N,bs,sn,sub,ab,col,dd,k0,k1,k2,k3,k5,hC⟩:=F.obj
 replace hC:=X _ _ hC
 have L0:=eQ (M:=J6 prog w) hx hc
 have L1:=MW (M:=J6 prog w) X F.nu
 repeat (any_goals (first | assumption | with_reducible refine L0.at ?_ | with_reducible refine L1.at ?_ | wp_step))
 split
 ·rename_i c hcd
  exact absurd hcd (hnc c)
 unfold instanceDict
 repeat (first | (with_reducible refine Md hx ?_;rw [hc]) | with_reducible refine Md hC ?_ | wp_step)
 rw [hd]
 repeat (first | (with_reducible refine wpAny_nsGet hns.ns ?_;rw [hv]) | wp_step)
 exact hq
theorem Nw.get (F:Nw K mg c qual st C W fI fd) (X:K.In h) (hx:h.get? a=some o) (hc:o.cls=.ref C) (hnc:∀ c,o.data≠.cls c) (hd:o.dict=some dx) (hns:h.Ns1 dx mA) (hv:mA "number"=some v) (hh:handedOut v=pure v) (hq:Q v ⟨h,g,d,t+1,os⟩) :
  JY (J6 prog w) A (getAttr (.ref a) "number" expr) Q E ⟨h,g,d,t,os⟩:=by
 have L0:=eQ (M:=J6 prog w) hx hc
 have L1:=MW (M:=J6 prog w) X F.cf.ga
 have L2:=MW (M:=J6 prog w) X F.cf.gn
 have f3:=QJ.ga.bind (.ref a)
 have hx0:(expr && UI (MJ "BaseException.__getattribute__"))=false:=by cases expr<;>rfl
 have hx2:(MJ "BaseException.__getattribute__" == MJ "object.__getattribute__")=false:=by decide +kernel
 have hx1:(UI (Kg C) && MJ "BaseException.__getattribute__" == MJ "object.__getattribute__")=false:=by rw [hx2];rfl
 unfold getAttr getAttrBy
 repeat (any_goals (first | assumption | with_reducible refine L0.at ?_ | with_reducible refine L1.at ?_ | with_reducible refine L2.at ?_ | wp_step))
 refine Mo (by decide +kernel) Rv (sJ X F.cf hx hc (F.yo X hx hc hnc hd hns hv ?_))
 repeat (any_goals (first | assumption | wp_step))
theorem Nw.HD (F:Nw K mg c qual st C W fI fd) (X:K.In h) (hx:h.get? e=some ⟨.ref C,od,.fields #[.ref t0,.none,.none,.none,.bool false,.none],#[]⟩)
  (hq:∀ h',exN e C od h'→(∀ b o,b≠e→h.get? b=some o→h'.get? b=some o)→Q .none ⟨h',g,d,t,os⟩):JY (J6 prog w) A (Oy (.builtin "ValueError.__init__") [.ref e,x]) Q E ⟨h,g,d,t,os⟩:=by
 have B:=M7
 have T:=F.tail X
 obtain ⟨nm,q,N,bs,sn,sub,ab,col,dd,k0,k1,k2,k3,k5,hC⟩:=F.obj
 replace hC:=X _ _ hC
 refine Nb (Mo B.init.plain B.initEntry (wpAny_check_init_subT B T hC hx rfl ?_))
 wp_walk
 refine hq _ ⟨h.objs.size,?_⟩ fun b o hb q=>?_
 ·rw [Ln _ (C0 _ hx) rfl]
  rfl
 ·rw [L8 _ _ (LN hb)]
  exact C0 _ q
end
end L2
namespace L2
open PySem PySem.Spec PyProof.Rows PySem.W
set_option maxRecDepth 100000
def tFs:TE:=fun σ H Q=>∃ n:Int,σ[1]?=some (some (.int n))∧n.natAbs < 2 ^ 60∧∀ x,Q (.str x) H
section
variable {X:Cx} {a b:Str} {j1 j2:Nat} {p1 p2 p3 p4 p5 p6 p7 p8 p9 p10 q1 q2 q3 q4:Pos} {c qual:Str} {st:Stmt} {C W fI:Addr} {fd:Lk}
theorem IS (hv:PE X (.Name "number" p5) (pq 1)) (ha:a.length≤300:=by decide) (hb:b.length≤300:=by decide):PE X (.JoinedStr [.Constant (.str a) j1 p4,.FormattedValue (.Name "number" p5) (-1) none p6,.Constant (.str b) j2 p7] p8) tFs:=by
 rintro pins s σ H Q I ⟨n,h1,hn,q⟩
 have hl:n.natAbs.log2 < 60:=by
  by_cases z:n.natAbs=0
  ·rw [z];decide
  ·exact (Nat.log2_lt z).mpr hn
 have hz:(K6 (toString n)).length≤61:=by
  rw [PySem.ofString_length]
  exact int_text_length_le (by decide) hl
 have hs:1000≤sizeLine:=by decide
 have l0:(Sj++a).length≤300:=by rw [R5,show Str.empty.length=0 from rfl];omega
 have l1:(Sj++a++K6 (toString n)).length≤361:=by rw [R5];omega
 have l2:(Sj++a++K6 (toString n)++b).length≤661:=by rw [R5];omega
 refine wpAny_JoinedStr ?_
 refine Od ⟨a,_,rfl,by omega,?_⟩
 refine FormattedValue_plain (thn (hv pins _ σ H (fun v H'=>v=.int n∧H'=H) (I.tok _) ⟨_,h1,rfl,rfl⟩) ?_)
 rintro u s1 ⟨v,H1,I1,r,rfl,rfl⟩
 obtain ⟨t,rfl⟩:=r
 refine wpAny_formatField_int (by omega) ⟨_,_,rfl,by omega,?_⟩
 exact Od ⟨b,_,rfl,by omega,by omega,.str _,H1,(I1.tok _),⟨_,rfl⟩,q _⟩
def NwS (C:Addr) (σ:St) (H:Hp) (e:Addr) (n:Int):Prop:=σ[0]?=some (some (.ref e))∧σ[1]?=some (some (.int n))∧n.natAbs < 2 ^ 60∧H e=some (.ext (exN e C none))
theorem rC (x:exN e C od h):b_ P w H h e (.ext (exN e C od)):=by
 obtain ⟨t,ht⟩:=id x
 exact ⟨x,⟨_,ht⟩,fun h1 h2 ⟨t,e1⟩ k=>⟨t,k _ e1⟩⟩
theorem zJ (F:Nw X.K X.mg c qual st C W fI fd) (hs:PE X (.Name "self" p3) (pq 0)) (hf:PE X f tFs) (hg:Gl X "WishError")
  (ht:KC (.Call (.Attribute (.Name "WishError" p1) "__init__" p2) [.Name "self" p3,f] [] p9) X.env=(do
   let ov ← KC (.Name "WishError" p1) X.env
   SQ p2.atName
   let (f',first) ← N3 [ov] (getMethod ov "__init__" pl)
   callWith p9 f' first (Ly p9 (J7 [.Name "self" p3,f] X.env)) (OT p9 (NC [] X.env))))
  (h1:J7 [.Name "self" p3,f] X.env=(false,KC (.Name "self" p3) X.env) :: J7 [f] X.env) (h2:J7 [f] X.env=(false,KC f X.env) :: J7 [] X.env) (h3:(Ly p9 (J7 [f] X.env)).any (·.1)=false) :
  PE X (.Call (.Attribute (.Name "WishError" p1) "__init__" p2) [.Name "self" p3,f] [] p9) (fun σ H Q=>∃ e n,NwS C σ H e n∧Q .non H):=by
 rintro pins s σ H Q I ⟨e,n,⟨e0,e1,hn,hH⟩,q⟩
 refine PySem.W.methodCall_KW (pl:=pl) (jK I hg F.w ?_ (by decide)) ht
 refine method_cls I.kIn F.wga (cls_value I.kIn F.wrd F.wfc (by decide +kernel) ?_)
 refine ME (thn ((di hs (di hf fY h2) h1) p9 pins _ σ H (fun vs H1=>(∃ x,vs=[.ref e,.str x])∧H1=H) (I.tok _) ⟨_,e0,n,e1,hn,fun x=>⟨⟨x,rfl⟩,rfl⟩⟩) ?_) h1 h3
 rintro us s1 ⟨vs,H1,I1,r,⟨x,rfl⟩,rfl⟩
 obtain ⟨u1,u2,rfl,ru,rx⟩:=r.two
 cases ru
 obtain ⟨t0,hx⟩:=(I1.hok e _ hH).1
 refine F.HD I1.kIn hx fun h' y k=>?_
 have I2:Inv X pins σ (upd H1 e (.ext (exN e C none))) { s1 with heap:=h',toks:=s1.toks }:=I1.write (by rw [hH];exact Kp) (.inl rfl) (fun b u hb z=>k b u hb z) (by obtain ⟨t,z⟩:=y;exact ⟨_,z⟩) (rC y)
 rw [show upd H1 e (.ext (exN e C none))=H1 from by funext b;unfold upd;split<;>simp_all] at I2
 exact ⟨.non,H1,I2,rfl,q⟩
theorem Cz (F:Nw X.K X.mg c qual st C W fI fd) (hs:PE X (.Name "self" q1) (pq 0)) (hv:PE X (.Name "number" q3) (pq 1)) (hsw:O0 (.Name "number" q3) (some (.Attribute (.Name "self" q1) "number" q2)) q4.line X.env=pure false):PS X (.Assign [.Attribute (.Name "self" q1) "number" q2] (.Name "number" q3) q4) (fun D σ H=>∃ e n,NwS C σ H e n∧∀ dx,H dx=none→dx≠e→D.nx σ (upd (upd H e (.ext (exN e C (some dx)))) dx (.xd [("number",.int n)]))):=by
 rintro pins s σ H D I ⟨e,n,⟨e0,e1,hn,hH⟩,q⟩
 refine plainObj_wpAny_Assign_Attribute (thn (hv pins s σ H (fun v H'=>v=.int n∧H'=H) I ⟨_,e1,rfl,rfl⟩) ?_) hsw
 rintro u s1 ⟨v,H1,I1,ru,rfl,rfl⟩
 refine thn (hs pins s1 σ H1 (fun v H'=>v=.ref e∧H'=H1) I1 ⟨_,e0,rfl,rfl⟩) ?_
 rintro ov s2 ⟨v,H2,I2,rv,rfl,rfl⟩
 cases rv
 obtain ⟨t0,hx⟩:=(I2.hok e _ hH).1
 refine F.set I2.kIn hx fun h' tk y1 y2 k=>?_
 have I3:Inv X pins σ (upd H2 e (.ext (exN e C (some s2.heap.objs.size)))) { s2 with heap:=h',toks:=tk }:=I2.write (by rw [hH];exact Kp) (.inl rfl) k ⟨_,y1⟩ (rC ⟨t0,y1⟩)
 have nd:H2 s2.heap.objs.size=none:=I2.hok.fresh (J3 _)
 have ne:s2.heap.objs.size≠e:=MC (J4 hx)
 refine ⟨σ,_,I3.u_ (o:=.xd [("number",.int n)]) (by rw [aS ne];exact nd) (NV I2.sz) (MC I2.lt) (fun x c hc=>?_) (fun p hp=>Kf (J4 (I2.pin p hp).1)) ⟨_,y2,fun f=>?_⟩,q _ nd ne⟩
 ·obtain ⟨v,o,ho,_⟩:=I2.cell x c hc
  exact MC (J4 ho)
 ·by_cases z:f="number"
  ·subst z
   rw [J2 rfl]
   exact ru
  ·rw [J9 z,K4,Ms.mpr z]
   exact Kp
end
def spN (C:Addr):Sp:=fun vs H Q _=>∃ (e:Addr) (n:Int),vs=[.ref e,.int n]∧n.natAbs < 2 ^ 60∧H e=some (.ext (exN e C none))∧∀ dx,H dx=none→dx≠e→Q .non (upd (upd H e (.ext (exN e C (some dx)))) dx (.xd [("number",.int n)]))
def OkN (P:Kn) (w:Kq) (K:JV) (mg:Str→Option Value) (lev:Nat) (c:Str):Prop:=∃ (qual:Str) (st:Stmt) (C W fI:Addr) (fd:Lk),Nw K mg c qual st C W fI fd∧(∀ us:List Value,us.length=2→OR fd ⟨us,[]⟩=pure ((["self","number"]:List Str).zip us))∧∀ base CX,eK P w K mg base CX lev fI fd ["self","number"] (spN C)
theorem Jt {K:JV} {mg:Str→Option Value} {P:Kn} {w:Kq} {lev:Nat} {c qual:Str} {st:Stmt} (F:∃ (C W fI:Addr) (fd:Lk),Nw K mg c qual st C W fI fd)
    (hb:∀ (CX:CXT) (base:Heap) (f C W:Addr) (fd:Lk) (cdv:Value) (A:KD) (outer:List Env) (s:JU) (H:Hp) (E:XK),Nw K mg c qual st C W f fd →
      PSs (fG CX P w K mg base ["self","number"] qual (bj st) f cdv A outer s H E) (cR st) (fun D σ H=>∃ e n,NwS C σ H e n∧∀ dx,H dx=none→dx≠e→D.nx σ (upd (upd H e (.ext (exN e C (some dx)))) dx (.xd [("number",.int n)]))))
    (Sc:fN ["self","number"] ["self","number"] (bj st):=by exact ⟨rfl,rfl,rfl,by decide +kernel,rfl,by decide +kernel,by decide +kernel⟩)
    (hbd:∀ (kV doc pm:Value) (an:Option Addr) (cdv ct:Value) (us:List Value),us.length=2→OR (MD "__init__" qual (fL st) (cR st) (bj st) .none kV doc pm an cdv ct) ⟨us,[]⟩=pure ((["self","number"]:List Str).zip us):=by
      intro _ _ _ _ _ _ us hl
      rcases us with _ | ⟨a,_ | ⟨b,_ | ⟨c,us⟩⟩⟩<;>first | (simp at hl;done) | rfl):OkN P w K mg (lev+1) c:=by
  obtain ⟨C,W,fI,fd,F⟩:=F
  obtain ⟨oc,od,kV,doc,pm,an,cdv,ct,osl,rfl,lk,hcd⟩:=F.fn.ex
  refine ⟨qual,st,C,W,fI,_,F,hbd kV doc pm an cdv ct,fun base CX=>u7 lk hcd Sc (fun vs H Q E h=>?_) fun A outer s H vs Q E hr h=>⟨_,hb CX base fI C W _ cdv A outer s H E F,?_⟩⟩
  · obtain ⟨e,n,rfl,_⟩:=h
    rfl
  · obtain ⟨e,n,rfl,hn,hH,q⟩:=h
    exact ⟨e,n,⟨rfl,rfl,hn,hH⟩,q⟩
theorem Co {A:KD} {K:JV} (F:Cf K mg c C) (hh:A.handled=none)
  (h:JY M A x (fun v s1=>∃ e od t,v=.ref e∧K.In s1.heap∧s1.heap.get? e=some ⟨.ref C,od,.fields #[.ref t,.none,.none,.none,.bool false,.none],#[]⟩∧E (.ref e) s1) E s):JY M A (raiseStmt env (some x) none) Q E s:=by
 unfold raiseStmt
 refine ar (Me h (fun v s1 h1=>?_) fun _ _ x=>x)
 obtain ⟨e,od,t,rfl,X,he,hE⟩:=h1
 obtain ⟨hp,g,d,tk,os⟩:=s1
 dsimp only at X he
 have L0:=eQ (M:=M) he rfl
 have L1:=looks_subIn (M:=M) X F.exc
 obtain ⟨oC,hoC,hcC⟩:=LG.mp F.ty
 have hC:=X _ _ hoC
 repeat (first | with_reducible refine L0.at ?_ | with_reducible refine L1.at ?_ | with_reducible refine Md he ?_ | (with_reducible refine Md hC ?_;rw [hcC]) | wp_step)
 exact wpAny_raiseNew_none hh hE
section
variable {X:Cx} {pins:List (Addr×Obj)} {σ:St} {H:Hp} {s:JU} {a:Addr}
theorem Inv.C_ (I:Inv X pins σ H s) (hH:H a=some (.ext φ)) (h0:X.s₀.heap.get? a=none):Inv X pins σ (fun b=>if b=a then none else H b) s:=by
 have sm:∀ b u,H b=some u→(∀ φ,u≠.ext φ)→(fun b=>if b=a then none else H b) b=some u:=fun b u q n=>by
  dsimp only
  rw [J9]
  ·exact q
  ·rintro rfl
   rw [hH] at q
   cases q
   exact n _ rfl
 have sn:∀ b,H b=none→(fun b=>if b=a then none else H b) b=none:=fun b q=>by
  dsimp only
  split
  ·rfl
  ·exact q
 refine ⟨I.ok,I.os,I.bare,⟨I.base.keep,I.base.slot,fun b u q n hx=>sn b (I.base.free b u q n hx),I.base.there,fun b xs q=>sm _ _ (I.base.tups b xs q) (by intro _ z;cases z),fun b u xs q=>sm _ _ (I.base.frzs b u xs q) (by intro _ z;cases z),fun b ps q=>?_⟩,I.loc,I.cell,sn _ I.free,fun x c q=>sn _ (I.freeC x c q),fun p hp=>?_,fun b u q=>?_,I.len⟩
 ·obtain ⟨more,e⟩:=I.base.tbls b ps q
  exact ⟨more,sm _ _ e (by intro _ z;cases z)⟩
 ·obtain ⟨e,n1,r⟩:=I.pin p hp
  exact ⟨e,sn _ n1,r⟩
 ·split at q
  ·cases q
  ·exact (I.hok b u q).iW (fun _ _ _ e=>e) (fun c e=>sm _ _ e (by intro _ z;cases z)) fun c xs e=>sm _ _ e (by intro _ z;cases z)
theorem Inv.DH (I:Inv X pins σ H s) (kp:∀ b o,s.heap.get? b=some o→h'.get? b=some o) (n:s.heap.get? a=none) (new:b_ X.prog X.w (upd H a o) h' a o) (hex:X.ex=[]):Inv X pins σ (upd H a o) { s with heap:=h',toks:=t' }:=by
 refine (I.kept (t':=t') kp).u_ (I.qP n) (I.vO n hex) ?_ (fun x c q z=>?_) (fun p hp z=>?_) new
 ·rintro rfl
  obtain ⟨_,⟨o,_,_,ho,_⟩,_⟩:=I.loc
  rw [n] at ho;cases ho
 ·obtain ⟨v,oc,ho,_⟩:=I.cell x c q
  rw [← z,n] at ho;cases ho
 ·have:=(I.pin p hp).1
  rw [z,n] at this;cases this
theorem Iz {c:Str} {k:Nat} {n:Int} {t:Tok} {qual:Str} {st:Stmt} {C W fI:Addr} {fd:Lk} (F:Nw X.K X.mg c qual st C W fI fd) (hb:∀ us:List Value,us.length=2→OR fd ⟨us,[]⟩=pure ((["self","number"]:List Str).zip us)) (Fn:eK X.prog X.w X.K X.mg X.base CX0 k fI fd ["self","number"] (spN C)) (hr:cG (k+1) X.A) (I:Inv X pins σ H s) (hn:n.natAbs < 2 ^ 60) (hex:X.ex=[]) {Q:Value→JU→Prop}
  (hq:∀ e dx s',s.heap.get? e=none→H dx=none→dx≠e→Inv X pins σ (upd (upd H e (.ext (exN e C (some dx)))) dx (.xd [("number",.int n)])) s'→Q (.ref e) s') :
  JY (J6 X.prog X.w) X.A (Oy (.ref C) [.int n t]) Q X.xe s:=by
 obtain ⟨hp,g,d,tk,os⟩:=s
 refine F.call I.kIn fun h' e hm=>?_
 obtain ⟨t0,ht,_⟩:=hm.there
 have I2:Inv X pins σ (upd H e (.ext (exN e C none))) ⟨h',g,d,tk,os⟩:=I.DH hm.keeps hm.new (rC ⟨t0,ht⟩) hex
 have fe:=I.qP hm.new
 refine Nb (Og (Fn.run _ X.stack _ _ ⟨[.ref e,.int n t],[]⟩ [.ref e,.int n t] [.ref e,.int n] (fun v H'=>v=.non∧∃ dx,H dx=none∧dx≠e∧H'=upd (upd H e (.ext (exN e C (some dx)))) dx (.xd [("number",.int n)])) E0 (hr.make C [.int n t] []) (I2.Fv.make C [.int n t] []) (.of_eq (hb _ rfl)) (.cons rfl (.cons ⟨t,rfl⟩ .nil))
  ⟨e,n,rfl,hn,b9,fun dx h1 h2=>⟨rfl,dx,by rw [aS h2] at h1;exact h1,h2,by rw [C9]⟩⟩) fun r s' hq'=>?_)
 cases r with
 | error e=>exact LB hq'
 | ok fl=>
  cases fl with
  | ret u=>
   obtain ⟨v,H',I3,rv,rfl,dx,d1,d2,rfl⟩:=I2.after hq'
   exact ⟨rv,hq e dx s' hm.new d1 d2 I3⟩
  | next=>exact LB hq'
  | brk=>exact LB hq'
  | cont=>exact LB hq'
end
instance {e:Ke} {x:Str} {p:Pos}:NS (.Attribute e x p):=⟨fun _ _=>rfl⟩
def mn (c:Str) (a:XE):XS:=fun τ S=>(a τ S).bind fun z S1=>match z with
 | .d (.int n)=>if n.natAbs < 2 ^ 60 then .ex c [("number",.int n)] S1 else .bad
 | _=>.bad
section
variable {X:Cx} {WE:WX} {e:Ke} {xe:XE} {c:Str} {np cpos pos:Pos} {k j:Nat}
theorem xu (O:OkN X.prog X.w X.K X.mg k c) (hmk:XMk X WE) (hrm:cG j X.A) (he:RA X WE [e] (aa xe aj)) (hj:k+1≤j:=by decide) (hex:X.ex=[]:=by exact rfl) (hc:X.calm=true:=by exact rfl) (hg:Gl X c:=by exact rfl) (hd:(c == ("__debug__":Str))=false:=by decide)
  (hs:J7 [e] X.env=[(false,KC e X.env)]:=by rfl):RS X WE (.Raise (some (.Call (.Name c np) [e] [] cpos)) none pos) (mn c xe):=⟨by
 intro pins s σ H D I h
 obtain ⟨μ,S,τ,hr,sr,p⟩:=h
 obtain ⟨qual,st,C,W,fI,fd,F,hb,Fn⟩:=O
 have hm:=F.cf.bound
 rw [arm_exec_Raise]
 have hmain:JY (J6 X.prog X.w) X.A (KC (.Call (.Name c np) [e] [] cpos) X.env) (fun v s1=>∃ e od t,v=.ref e∧X.K.In s1.heap∧s1.heap.get? e=some ⟨.ref C,od,.fields #[.ref t,.none,.none,.none,.bool false,.none],#[]⟩∧X.xe (.ref e) s1) X.xe s:=by
  refine LV (jK I hg hm ?_ hd)
  have ha:=he.h cpos pins s σ H (fun vs H1=>∃ (n:Int),vs=[.int n]∧n.natAbs < 2 ^ 60∧∃ μ1 S1,HR μ1 S1 H1∧∀ μ' H',Step μ1 S1 H1 μ' S1 H'→WE c [("number",.int n)] S1 μ' H') I ⟨μ,S,τ,hr,sr,?_⟩
  ·refine Sm (h₀:=X.base) I.ok.mod.kin F.kp (thn ha fun us s1 ⟨vs,H1,I1,r1,n,e0,hn,μ1,S1,hr1,hw⟩=>⟨I1.kIn,?_⟩) hs (by rfl)
   subst e0
   obtain ⟨u,rfl,ru⟩:=vals1 r1
   obtain ⟨t,rfl⟩:=ru
   refine Iz F hb (Fn X.base CX0) (hrm.mono hj) I1 hn hex fun e dx s' ne nd dne I2=>?_
   have fe:=I1.qP ne
   have h2:upd (upd H1 e (.ext (exN e C (some dx)))) dx (.xd [("number",.int n)]) e=some (.ext (exN e C (some dx))):=by rw [aS (LN dne),b9]
   obtain ⟨t0,ht⟩:=(I2.hok e _ h2).1
   have I3:=I2.C_ h2 (I1.vO ne hex)
   rw [show (fun b=>if b=e then none else upd (upd H1 e (.ext (exN e C (some dx)))) dx (.xd [("number",.int n)]) b)=upd H1 dx (.xd [("number",.int n)]) from by
    funext b
    by_cases z:b=e
    ·subst z;rw [J2 rfl,aS (LN dne),fe]
    ·rw [J9 z]
     unfold upd
     simp only [z,L3]] at I3
   have st1:=Step.new hr1 nd (.xd [("number",.int n)])
   exact ⟨e,_,t0,rfl,I3.kIn,ht,hmk pins σ _ s' e C c [("number",.int n)] _ _ S1 μ1 I3 ht rfl rfl rfl (by rw [aS (LN dne)];exact fe) (I1.vO ne hex) hm st1.hr (fun _=>⟨dx,[.int n],rfl,rfl,cn b9 (hr1.nal nd),.cons (Rep.int _) .nil⟩) (hw μ1 _ st1)⟩
  ·unfold mn at p
   unfold aa aj
   have q:bg (RlS X.K X.mg) WE μ S H ((xe τ S).bind fun z S1=>match z with
    | .d (.int n)=>if n.natAbs < 2 ^ 60 then .ex c [("number",.int n)] S1 else .bad
    | _=>(.bad:R (Fl×Nv))) D.at:=p
   generalize xe τ S=res at q ⊢
   cases res with
   | ok x S1=>
    intro b μ' H' st rv
    cases rv with
    | cons r1 r2=>
     cases r2
     unfold R.bind at q
     dsimp only at q
     split at q
     ·split at q
      ·cases (show Rep _ _ (.int _) from r1)
       exact ⟨_,rfl,‹_›,μ',S1,st.hr,fun μ2 H2 st2=>q μ2 H2 (st.trans st2)⟩
      ·exact q.elim
     ·exact q.elim
   | ex c' ys S1=>exact q
   | bad=>exact q
 refine ar (PQ (Co F.cf (I.ok.hd hc) (ar (Me hmain (fun v s3 h3=>ar (PQ (tx h3))) fun _ _ x=>x))))⟩
def AI (c:Str) (a:XE):XE:=fun τ S=>(a τ S).bind fun z S1=>match z with
 | .xc c' [(f,.int n)]=>if c'=c∧f="number" then .ok (.d (.int n)) S1 else .bad
 | _=>.bad
theorem Gr (O:OkN X.prog X.w X.K X.mg k c) (he:RE X WE e xe) (hb:MI e "number" X.env (KC e X.env)=KC e X.env:=by rfl):RE X WE (.Attribute e "number" p) (AI c xe):=⟨by
 intro pins s σ H Q I ⟨μ,S,τ,hr,sr,q⟩
 obtain ⟨qual,st,C,W,fI,fd,F,_⟩:=O
 refine CW hb (thn (he.h pins s σ H (fun v H1=>∃ (μ1:Nat→Addr) (S1:Sto) (n:Int),HR μ1 S1 H1∧bh X.K X.mg μ1 S1 H1 v (.xc c [("number",.int n)])∧Q (.int n) H1) I ⟨μ,S,τ,hr,sr,q.bind fun v z S1 μ1 H1 st1 r1 p1=>?_⟩) ?_)
 ·split at p1
  ·split at p1
   ·rename_i hc
    obtain ⟨rfl,rfl⟩:=hc
    exact ⟨μ1,S1,_,st1.hr,r1,p1.here st1.hr (Rep.int _)⟩
   ·exact p1.elim
  ·exact p1.elim
 ·rintro u s1 ⟨v,H1,I1,ru,μ1,S1,n,hr1,⟨a,C',rfl,hm,od,hG,hx⟩,q1⟩
  cases ru
  obtain rfl:C'=C:=by rw [F.cf.bound] at hm;cases hm;rfl
  obtain ⟨dx,vs,rfl,hl,hd,rs⟩:=hx (by simp)
  obtain ⟨o,ho,hcl,hdd,ws,hdf⟩:=(I1.hok a _ (bo hG).2).1
  obtain ⟨mA,hns,hA⟩:=I1.hok dx _ (bo hd).2
  cases rs with
  | cons r1 r2=>
   cases r2
   cases (show Rep _ _ (.int _) from r1)
   have hn:va (some (V.int n)) (mA "number"):=hA "number"
   generalize e:mA "number"=y at hn
   cases y with
   | none=>exact hn.elim
   | some u=>
    obtain ⟨t,rfl⟩:=(show RelV (.int n) u from hn)
    obtain ⟨hp,g,d,tk,os⟩:=s1
    exact F.get I1.kIn ho hcl (by rw [hdf];intro c z;cases z) (hdd _ rfl) hns e rfl ⟨.int n,H1,I1.tok _,⟨t,rfl⟩,q1⟩⟩
end
theorem GP (h1:PE X ce (fun σ H Q=>∃ e n,NwS C σ H e n∧Q .non H)) (h2:PS X as (fun D σ H=>∃ e n,NwS C σ H e n∧∀ dx,H dx=none→dx≠e→D.nx σ (upd (upd H e (.ext (exN e C (some dx)))) dx (.xd [("number",.int n)])))) (hs:O0 ce none pos.line X.env=pure false:=by rfl) :
  PSs X [.Expr ce pos,as] (fun D σ H=>∃ e n,NwS C σ H e n∧∀ dx,H dx=none→dx≠e→D.nx σ (upd (upd H e (.ext (exN e C (some dx)))) dx (.xd [("number",.int n)]))):=by
 rintro pins s σ H D I ⟨e,n,a,q⟩
 exact nH (uv h1 hs) (nH h2 uB) pins s σ H D I ⟨e,n,a,e,n,a,q⟩
theorem GF {K:JV} {h:Heap} {mg:Str→Option Value} {c qual:Str} {st:Stmt} {C W fI N:Addr} {nm q:Str} {bs sub:List Value} {sn:List Str} {ab:Bool} {col:Option Bool} {dd od an:Option Addr} {k0 k1 k2 k3 k5:Option Value} {oc kV doc pm cdv ct:Value} {osl:Array (Option Value)} (X:K.In h) (G:h.Ns KY mg)
  (a:nsIn K KY c=some (some (.ref C))) (b1:isClsIn K C=true) (b2:Ue K (.ref C)=some (.type "type")) (b3:QX K (.ref C) (.type "BaseException")=some true) (b4:QX K (.ref C) (.type "ValueError")=some true) (b5:NB K (.ref C) "__getattribute__"=some (some (.builtin "BaseException.__getattribute__"))) (b6:NB K (.ref C) "__getattr__"=some none) (b7:NB K (.ref C) "__class__"=some (some (.builtin "object.__class__"))) (b8:mroIn K C (.type "object")=some true)
  (w:nsIn K KY "WishError"=some (some (.ref W))) (xq:excIn K W [.type "ValueError",.type "Exception",.type "BaseException",.type "object"] "ValueError.__new__"=true) (l:K.lookup C=some (Tt nm q C N bs (.ref W :: [.type "ValueError",.type "Exception",.type "BaseException",.type "object"]) true sn sub ab col dd k0 k1 k2 k3 k5 "ValueError.__new__"))
  (d1:NB K (.ref C) "__init__"=some (some (.ref fI))) (d2:Ue K (.ref fI)=some (.type "function")) (d3:NB K (.ref C) "__setattr__"=some (some (.builtin "object.__setattr__"))) (d4:NB K (.ref C) "number"=some none) (d5:specialIn K (.ref W) "__getattribute__"=some (some (.builtin "type.__getattribute__"))) (d6:readsIn K W (.type "type")=true) (d7:findCls K (.ref W) (.type "type") "__init__"=some (.val (.builtin "ValueError.__init__")))
  (e1:K.lookup fI=some ⟨oc,od,.func (MD "__init__" qual (fL st) (cR st) (bj st) .none kV doc pm an cdv ct),osl⟩) (e2:codeIn K cdv qual=true) (e3:keepIn K (.ref fI)=true) (e4:keepIn K (.ref C)=true):∃ (C W fI:Addr) (fd:Lk),Nw K mg c qual st C W fI fd:=
 ⟨C,W,fI,_,⟨mg_of X G a,b1,b2,b3,b4,b5,b6,b7,b8⟩,A6 X G w xq,mg_of X G w,⟨nm,q,N,bs,sn,sub,ab,col,dd,k0,k1,k2,k3,k5,l⟩,d1,d2,d3,d4,d5,d6,d7,xP e1 e2 e3,e4⟩
theorem jT {n d k:Nat}:HT.sIx n d (some (k:Int))=min k n:=by
 unfold HT.sIx
 first | (dsimp only;split<;>omega) | (simp;omega) | omega
theorem nj:HT.sIx n d none=d:=rfl
theorem rO {xs:List D} {k:Nat}:cW xs none (some (k:Int))=xs.take k:=by
 unfold cW
 rw [nj,jT,List.drop_zero,Nat.sub_zero]
 by_cases h:k≤xs.length
 ·rw [Pd h]
 ·rw [OY (by omega),L_ (J3 _),L_ (by omega)]
theorem rl {xs:List D} {k:Nat}:cW xs (some (k:Int)) none=xs.drop k:=by
 unfold cW
 rw [nj,jT]
 by_cases h:k≤xs.length
 ·rw [Pd h,L_ (by simp)]
 ·rw [OY (by omega),NG (J3 _),NG (by omega)]
  simp
theorem Gp {xs:List D} {a b:Nat}:cW xs (some (a:Int)) (some (b:Int))=(xs.drop a).take (b - a):=by
 unfold cW
 rw [jT,jT]
 by_cases h:a≤xs.length
 ·rw [Pd h]
  by_cases hb:b≤xs.length
  ·rw [Pd hb]
  ·rw [OY (by omega),L_ (by simp),L_ (by simp;omega)]
 ·rw [OY (show xs.length≤a by omega),NG (J3 _),NG (by omega)]
  simp
theorem vJ (ns:List Int):D.bK (ns.map D.int)=0:=by
 induction ns with
 | nil=>rfl
 | cons n ns ih=>simp [D.bK,D.depth,ih]
theorem fQ:∀ (xs ys:List Int),D.bQ (xs.map D.int) (ys.map D.int)=decide (xs=ys)
 | [],[]=>by simp [D.bQ]
 | [],y :: ys=>by simp [D.bQ]
 | x :: xs,[]=>by simp [D.bQ]
 | x :: xs,y :: ys=>by
  simp only [Kx,D.bQ,D.eqv,fQ xs ys]
  by_cases h:x=y
  ·by_cases h2:xs=ys<;>simp [h,h2]
  ·simp [h]
theorem bV {xs:List D} {i:Nat} {z:D} (h:xs[i]?=some z):atI xs (i:Int)=some z:=by
 have hi:=(J5.mp h).1
 unfold atI
 rw [qO (by omega) (by omega)]
 show xs[((i:Nat):Int).toNat]?=_
 rw [Lc];exact h
theorem ic {xs:List D} {x:D}:atI (x :: xs) 0=some x:=bV (i:=0) rfl
theorem sg {xs:List D} {i:Int} (h0:0≤i) (h1:i < xs.length):∃ z,atI xs i=some z∧z∈xs:=by
 have hk:i.toNat < xs.length:=by omega
 refine ⟨xs[i.toNat],?_,L5 hk⟩
 have:=bV (xs:=xs) (i:=i.toNat) (JZ hk)
 rw [show ((i.toNat:Nat):Int)=i by omega] at this
 exact this
def lf2 (f:List D→D→Sto→R Vl) (xs:List D) (r:R Vl):R Vl:=r.bind fun y S2=>match y with
 | .d z=>f xs z S2
 | _=>.bad
def lf1 (f:List D→D→Sto→R Vl) (r:R Vl) (e:XE) (τ:Nv):R Vl:=r.bind fun x S1=>match x with
 | .d (.lst xs)=>lf2 f xs (e τ S1)
 | _=>.bad
theorem GI:xLf f o e τ S=lf1 f (o τ S) e τ:=ak rfl
theorem Im:lf1 f (.ok (.d (.lst xs)) S) e τ=lf2 f xs (e τ S):=ak rfl
theorem GR:lf2 f xs (.ok (.d z) S)=f xs z S:=ak rfl
theorem IB {ns:List Int}:Ea (ns.map D.int) (.int k) S=.ok (.d (.int (ns.count k:Nat))) S:=by
 unfold Ea
 rw [show intsOf (ns.map D.int)=some ns by rw [iY (fun x=>x) ns];simp]
def zp1 (r:R (List Vl)):R Its:=r.bind uW
theorem IT:iZp as τ S=zp1 (as τ S):=ak rfl
theorem GL:zp1 (.ok [.d (.tup xs),.d (.tup ys)] S)=.ok ⟨fJ xs ys,none⟩ S:=ak rfl
theorem IK:zp1 (.ok [.d (.lst xs),.d (.tup ys)] S)=.ok ⟨fJ xs ys,none⟩ S:=ak rfl
theorem GX:zp1 (.ok [.d (.lst xs),.d (.lst ys)] S)=.ok ⟨fJ xs ys,none⟩ S:=ak rfl
theorem uU (e:cb x S=some (ns.map D.int)) (h:ns.length≤300):oLX x S=.ok (.d (.int (bJ ns).length)) S:=by
 unfold oLX
 rw [e]
 dsimp only
 rw [show intsOf (ns.map D.int)=some ns by rw [iY (fun x=>x) ns];simp]
 dsimp only
 rw [J2 h]
theorem Ad (e:cb x S=some (ts.map fun t=>D.tup (t.map D.int))) (h:ts.length≤300):oLX x S=.ok (.d (.int (uq ts).length)) S:=by
 unfold oLX
 rw [e]
 dsimp only
 cases ts with
 | nil=>
  rw [show intsOf (([]:List (List Int)).map fun t=>D.tup (t.map D.int))=some [] from rfl]
  rfl
 | cons t ts=>
  rw [show intsOf ((t :: ts).map fun t=>D.tup (t.map D.int))=none from rfl,oP]
  dsimp only
  rw [J2 h]
end L2
set_option maxHeartbeats 4000000
namespace My
open PySem L2
def csX:List Str:=["NoStand","NoWish","TooMany"]
noncomputable def pU:XS:=(d_ (tB (xSl sV (ae 0) (dr (xC (.int 12))) (dr (xC (.int 63))))) (gTu 2 (gCo (gNm 2) (gCo (gNm 3) gN0))) (aR (xOp bq (xOp oIx (ae 1) (xOp oMod (ae 2) (xC (.int 12)))) (ae 3)) (gSb (ae 1) (xOp oMod (ae 2) (xC (.int 12))) eg)))
noncomputable def qs:XS:=(ax (aR (xN jV (aa (xSl sV (ae 0) cI (dr (xC (.int 12)))) aj)) (gNm 1))
 (ax pU
 (aD (xN mkM (aa (xFz (ae 1)) (aa (xC (.int 0)) (aa (xC (.int 0)) aj)))))))
noncomputable def j7:XF:=a_ 1 4 qs
noncomputable def mY:XS:=(ax (xIf (aF (xOp oGe (ae 0) (xOp pH (xC (.int 10)) (xC (.int 18))))) (aD (ae 0)) aI)
 (ax (aR (xOp oMod (xOp bq (xOp bq (xOp f_ (xOp oMod (ae 0) (xC (.int 1000000007))) (xC (.int 69069))) (xOp f_ (ae 1) (xC (.int 40503)))) (xC (.int 977))) (xC (.int 2147483629))) (gNm 2))
 (ax (aR (xOp oMod (xOp bq (xOp bq (xOp f_ (ae 2) (ae 2)) (xOp f_ (ae 1) (xC (.int 7919)))) (xOp oMod (ae 0) (xC (.int 65537)))) (xC (.int 2147483587))) (gNm 3))
 (ax (aR (xOp oMod (xOp bq (xOp bq (xOp f_ (ae 3) (ae 3)) (xOp f_ (ae 2) (xC (.int 31)))) (xC (.int 5))) (xC (.int 2147483563))) (gNm 4))
 (aD (xOp bq (xOp f_ (xOp bq (xOp f_ (ae 2) (xC (.int 2147483659))) (ae 3)) (xC (.int 2147483693))) (ae 4)))))))
noncomputable def fV:XF:=a_ 2 5 mY
noncomputable def qf:XS:=(ax (xIf (aF (xOp oLt (xOp oIx (ae 0) (xC (.int 2))) (ae 1))) (ax (aR (xOp oIx (ae 0) (xC (.int 1))) (gNm 2))
 (ax (aR (xC (.int 0)) (gNm 3))
 (ax (xIf (aF (xOp oLt (ae 2) (xN aU (aa (xOp oIx (ae 0) (xC (.int 0))) aj)))) (aR (xOp oIx (xOp oIx (ae 0) (xC (.int 0))) (ae 2)) (gNm 3)) (xIf (aF (xOp oGt (xN aU (aa (xOp oIx (ae 0) (xC (.int 0))) aj)) (xC (.int 0)))) (aR (xOp oMod (xOp oIx (xOp oIx (ae 0) (xC (.int 0))) (xOp oMod (xOp bq (xOp f_ (ae 2) (xC (.int 5))) (xC (.int 3))) (xN aU (aa (xOp oIx (ae 0) (xC (.int 0))) aj)))) (xOp bq (xOp pH (xC (.int 10)) (xC (.int 17))) (ae 2))) (gNm 3)) aI))
 (ax (aR (xOp bq (ae 2) (xC (.int 1))) (gSb (ae 0) (xC (.int 1)) eg))
 (aR (aw fV (aa (ae 3) (aa (ae 2) aj))) (gSb (ae 0) (xC (.int 2)) eg)))))) aI)
 (ax (aR (xOp oMod (xOp oIx (ae 0) (xC (.int 2))) (ae 1)) (gNm 4))
 (ax (aR (xOp oDiv (xOp oIx (ae 0) (xC (.int 2))) (ae 1)) (gSb (ae 0) (xC (.int 2)) eg))
 (aD (ae 4)))))
noncomputable def aA:XF:=a_ 2 5 qf
noncomputable def mS:XS:=(d_ (gz (aa (xOp bq (xC (.int 1)) (aw aA (aa (ae 0) (aa (ae 1) aj)))) aj)) (gNm 4) (ax (aR (xOp bq (ae 2) (aw aA (aa (ae 0) (aa (xC (.int 5)) aj)))) (gNm 5))
 (ax (xIf (aF (xOp oEq (aw aA (aa (ae 0) (aa (xC (.int 6)) aj))) (xC (.int 0)))) (aR (xOp dQ (aw aA (aa (ae 0) (aa (xC (.int 19)) aj))) (xC (.int 9))) (gNm 5)) aI)
 (xIf (aF (xOp eH (ae 5) (ae 3))) (eB (xLm jw (ae 3) (ae 5))) aI))))
noncomputable def m8:XS:=(ax (aR (xN mkM aj) (gNm 3))
 (ax mS
 (aD (xN c_ (aa (xN kA (aa (ae 3) aj)) aj)))))
noncomputable def ip:XF:=a_ 3 6 m8
noncomputable def nY:XE:=(xLC (gz (aa (xOp bq (xC (.int 1)) (aw aA (aa (ae 0) (aa (ae 1) aj)))) aj)) 1 (gNm 0) (fun _ S=>.ok true S) (aw ip (aa (ae 1) (aa (ae 3) (aa (ae 4) aj)))))
noncomputable def oo:XS:=(ax (aR (xOp dQ (aw aA (aa (ae 0) (aa (xC (.int 15)) aj))) (xC (.int 9))) (gNm 3))
 (aD (xN c_ (aa nY aj))))
noncomputable def jh:XF:=a_ 3 4 oo
noncomputable def pY:XS:=(ax (aR (xC (.int 0)) (gSb (ae 0) (xC (.int 2)) eg))
 (aD (ae 0)))
noncomputable def kc:XF:=a_ 1 1 pY
noncomputable def gf:XE:=(xLC (gz (aa (ae 3) aj)) 1 (gNm 0) (fun _ S=>.ok true S) (xLm tw (ae 3) (aw aA (aa (ae 1) (aa (xN aU (aa (ae 3) aj)) aj)))))
noncomputable def jv:XS:=(ax (aR (xN (lrg zp) (aa (xN aU (aa (ae 1) aj)) aj)) (gNm 2))
 (ax (aR (xOp bq (xC (.int 1)) (aw aA (aa (ae 0) (aa (xN aU (aa (ae 2) aj)) aj)))) (gNm 3))
 (ax (xIf (aF (xOp oGt (aw aA (aa (ae 0) (aa (xC (.int 3)) aj))) (xC (.int 0)))) (aR (xN aU (aa (ae 2) aj)) (gNm 3)) aI)
 (aD (xN c_ (aa gf aj))))))
noncomputable def eW:XF:=a_ 2 4 jv
noncomputable def jr:XS:=(ax (xIf (aF (xOp oEq (aw aA (aa (ae 0) (aa (xC (.int 8)) aj))) (xC (.int 0)))) (aD (xOp dQ (aw aA (aa (ae 0) (aa (xC (.int 19)) aj))) (xC (.int 9)))) aI)
 (ax (aR (xOp oIx (ae 1) (aw aA (aa (ae 0) (aa (xN aU (aa (ae 1) aj)) aj)))) (gNm 2))
 (ax (aR (xOp bq (xOp oIx (ae 2) (aw aA (aa (ae 0) (aa (xN aU (aa (ae 2) aj)) aj)))) (xOp oIx (xN mkL (aa (xC (.int 0)) (aa (xC (.int 0)) (aa (xC (.int 0)) (aa (xC (.int 1)) (aa (xUn cV (xC (.int 1))) aj)))))) (aw aA (aa (ae 0) (aa (xC (.int 5)) aj))))) (gNm 3))
 (aD (xN rq (aa (xUn cV (xC (.int 9))) (aa (xN nz (aa (xC (.int 9)) (aa (ae 3) aj))) aj)))))))
noncomputable def dG:XF:=a_ 2 4 jr
noncomputable def ng:XS:=(d_ (gz (aa (aw aA (aa (ae 0) (aa (xC (.int 5)) aj))) aj)) (gNm 3) (ax (aR (aw dG (aa (ae 0) (aa (ae 1) aj))) (gNm 4))
 (xIf (aF (xOp eH (ae 4) (ae 2))) (eB (xLm jw (ae 2) (ae 4))) aI)))
noncomputable def mX:XS:=(d_ (cX (xN kA (aa (ae 2) aj))) (gNm 4) (ax (aR (xOp oIx (xN mkL (aa (xC (.int 0)) (aa (xC (.int 0)) (aa (xC (.int 1)) (aa (xC (.int 1)) (aa (xC (.int 2)) (aa (aw aA (aa (ae 0) (aa (xC (.int 5)) aj))) aj))))))) (aw aA (aa (ae 0) (aa (xC (.int 6)) aj)))) (gNm 6))
 (eB (xLm jw (ae 5) (xN mkT (aa (ae 4) (aa (ae 6) (aa (xN nz (aa (xC (.int 4)) (aa (xOp bq (ae 6) (xOp oIx (xN mkL (aa (xC (.int 0)) (aa (xC (.int 0)) (aa (xC (.int 1)) (aa (xC (.int 4)) (aa (aw aA (aa (ae 0) (aa (xC (.int 5)) aj))) aj)))))) (aw aA (aa (ae 0) (aa (xC (.int 5)) aj))))) aj))) aj))))))))
noncomputable def m_:XS:=(ax (aR (xN mkM aj) (gNm 2))
 (ax ng
 (ax (aR (xN mkM aj) (gNm 5))
 (ax mX
 (aD (xN c_ (aa (ae 5) aj)))))))
noncomputable def iw:XF:=a_ 2 7 m_
noncomputable def oK:XS:=(d_ (gz (aa (aw aA (aa (ae 0) (aa (xC (.int 13)) aj))) aj)) (gNm 4) (ax (aR (aw aA (aa (ae 0) (aa (ae 2) aj))) (gNm 5))
 (ax (aR (xN mkT (aa (ae 5) (aa (aw dG (aa (ae 0) (aa (ae 1) aj))) (aa (xOp oIx (xN mkL (aa (aw aA (aa (ae 0) (aa (ae 2) aj))) (aa (xOp oMod (xOp bq (ae 5) (xC (.int 1))) (ae 2)) aj))) (aw aA (aa (ae 0) (aa (xC (.int 2)) aj)))) aj)))) (gNm 6))
 (xIf (aF (xOp eH (ae 6) (ae 3))) (eB (xLm jw (ae 3) (ae 6))) aI))))
noncomputable def oh:XS:=(ax (aR (xOp bq (xC (.int 2)) (aw aA (aa (ae 0) (aa (xC (.int 3)) aj)))) (gNm 2))
 (ax (aR (xN mkM aj) (gNm 3))
 (ax oK
 (aD (xN c_ (aa (ae 3) aj))))))
noncomputable def jo:XF:=a_ 2 7 oh
noncomputable def lW:XE:=(xLC (cX (ae 3)) 1 (gNm 0) (fun _ S=>.ok true S) (xOp dQ (aw aA (aa (ae 1) (aa (xC (.int 7)) aj))) (xC (.int 3))))
noncomputable def ma:XS:=(d_ (iZp (aa (ae 3) (aa (ae 4) aj))) (gTu 2 (gCo (gNm 6) (gCo (gNm 7) gN0))) (aR (xOp bq (ae 5) (xOp f_ (ae 7) (xOp oIx (xOp oIx (ae 1) (ae 6)) (aw aA (aa (ae 0) (aa (xN aU (aa (xOp oIx (ae 1) (ae 6)) aj)) aj)))))) (gNm 5)))
noncomputable def lF:XE:=(xLC (gz (aa (xC (.int 4)) aj)) 1 (gNm 0) (aF (xOp oEq (aw aA (aa (ae 1) (aa (xC (.int 3)) aj))) (xC (.int 0)))) (ae 0))
noncomputable def kY:XE:=(xLC (cX (ae 3)) 1 (gNm 0) (fun _ S=>.ok true S) (xOp bq (xC (.int 1)) (aw aA (aa (ae 1) (aa (xOp oIx (xN mkL (aa (xC (.int 4)) (aa (xC (.int 2)) aj))) (aw aA (aa (ae 1) (aa (xC (.int 2)) aj)))) aj)))))
noncomputable def l5:XS:=(ax (aR (aw eW (aa (ae 0) (aa (ae 1) aj))) (gNm 3))
 (ax (xIf (aF (xOp oEq (ae 2) (xC (.int 0)))) (aD (xN mkT (aa (xC (.str "unlike")) (aa (ae 3) aj)))) aI)
 (ax (xIf (aF (xOp oEq (ae 2) (xC (.int 1)))) (aD (xN mkT (aa (xC (.str "many")) (aa (ae 3) (aa (aw iw (aa (ae 0) (aa (ae 1) aj))) aj))))) aI)
 (ax (xIf (aF (xOp oEq (ae 2) (xC (.int 2)))) (ax (aR (xN c_ (aa lW aj)) (gNm 4))
 (ax (aR (xC (.int 0)) (gNm 5))
 (ax ma
 (ax (aR (xN rq (aa (xUn cV (xC (.int 99))) (aa (xN nz (aa (xC (.int 99)) (aa (xOp bq (ae 5) (xOp oIx (xN mkL (aa (xC (.int 0)) (aa (xC (.int 0)) (aa (xC (.int 1)) (aa (xUn cV (xC (.int 4))) (aa (xC (.int 9)) aj)))))) (aw aA (aa (ae 0) (aa (xC (.int 5)) aj))))) aj))) aj))) (gNm 8))
 (ax (aR (xN nz (aa (xC (.int 99)) (aa (xOp bq (ae 8) (xOp oIx (xN mkL (aa (xC (.int 0)) (aa (xC (.int 0)) (aa (xC (.int 1)) (aa (xC (.int 2)) (aa (xC (.int 7)) aj)))))) (aw aA (aa (ae 0) (aa (xC (.int 5)) aj))))) aj))) (gNm 9))
 (ax (xIf (aF (xOp oEq (aw aA (aa (ae 0) (aa (xC (.int 6)) aj))) (xC (.int 0)))) (ax (aR (xOp dQ (aw aA (aa (ae 0) (aa (xC (.int 199)) aj))) (xC (.int 99))) (gNm 8))
 (aR (xOp bq (ae 8) (aw aA (aa (ae 0) (aa (xOp dQ (xC (.int 100)) (ae 8)) aj)))) (gNm 9))) aI)
 (aD (xN mkT (aa (xC (.str "sum")) (aa (ae 3) (aa (ae 4) (aa (ae 8) (aa (ae 9) aj))))))))))))) aI)
 (ax (xIf (aF (xOp oEq (ae 2) (xC (.int 3)))) (ax (aR (xN c_ (aa lF aj)) (gNm 10))
 (aD (xN mkT (aa (xC (.str "row")) (aa (ae 3) (aa (aw jo (aa (ae 0) (aa (ae 1) aj))) (aa (ae 10) aj))))))) aI)
 (aD (xN mkT (aa (xC (.str "hand")) (aa (ae 3) (aa (xN c_ (aa kY aj)) aj))))))))))
noncomputable def gJ:XF:=a_ 3 11 l5
noncomputable def m9:XE:=(xLC (gz (aa (aw aA (aa (ae 0) (aa (xOp bq (ae 2) (xC (.int 1))) aj))) aj)) 1 (gNm 0) (fun _ S=>.ok true S) (aw gJ (aa (ae 1) (aa (ae 2) (aa (aw aA (aa (ae 1) (aa (xC (.int 5)) aj))) aj)))))
noncomputable def mQ:XS:=(aD m9)
noncomputable def eY:XF:=a_ 3 3 mQ
noncomputable def kN:XS:=(aD (bB (xUn (bS "int") (ae 0)) (ow (xUn (bS "bool") (ae 0)))))
noncomputable def de:XF:=a_ 1 1 kN
noncomputable def je (s_l_bent:XF):XS:=(ax (xIf (l9 (bx (xUn (bS "tuple") (ae 1))) (l9 (aF (xOp oNe (ae 1) (xN mkT aj))) (l9 (aF (xOp oGt (ae 2) (xC (.int 0)))) (aF (xOp oGt (aw aA (aa (ae 0) (aa (xC (.int 4)) aj))) (xC (.int 0))))))) (ax (aR (aw aA (aa (ae 0) (aa (xN aU (aa (ae 1) aj)) aj))) (gNm 3))
 (aD (xOp bq (xOp bq (xSl oSl (ae 1) cI (dr (ae 3))) (xN mkT (aa (aw s_l_bent (aa (ae 0) (aa (xOp oIx (ae 1) (ae 3)) (aa (xOp dQ (ae 2) (xC (.int 1))) aj)))) aj))) (xSl oSl (ae 1) (dr (xOp bq (ae 3) (xC (.int 1)))) cI)))) aI)
 (ax (aR (xOp dQ (aw aA (aa (ae 0) (aa (xC (.int 23)) aj))) (xC (.int 11))) (gNm 4))
 (ax (aR (xN mkL (aa (xC .non) (aa (xC (.bl true)) (aa (xC (.bl false)) (aa (xC (.str "")) (aa (xC (.str "unlike")) (aa (xC (.str "many")) (aa (xC (.str "sum")) (aa (xC (.str "row")) (aa (xC (.str "hand")) (aa (xC (.str "-")) (aa (xN mkT aj) (aa (xN mkL aj) (aa (xOp pH (xC (.int 10)) (xC (.int 20))) (aa (xC (.int 100)) (aa (xUn cV (xC (.int 100))) (aa (xN mkT (aa (xC (.int 0)) aj)) (aa (xN mkL (aa (xC (.int 0)) aj)) aj)))))))))))))))))) (gNm 5))
 (ax (xIf (bx (xUn (bS "tuple") (ae 1))) (ax (aR (xN mkL (aa (xN gK (aa (ae 1) aj)) (aa (xOp bq (ae 1) (xSl oSl (ae 1) cI (dr (xC (.int 1))))) (aa (xSl oSl (ae 1) cI (dr (xUn cV (xC (.int 1))))) (aa (xOp tN (ae 1) (xUn cV (xC (.int 1)))) (aa (xOp bq (ae 1) (xN mkT (aa (ae 4) aj))) (aa (xSl oSl (ae 1) (dr (xC (.int 1))) cI) (aa (xN mkT (aa (ae 1) aj)) aj)))))))) (gNm 6))
 (aD (xOp oIx (xOp bq (ae 6) (xN mkL (aa (xOp oIx (ae 5) (aw aA (aa (ae 0) (aa (xC (.int 17)) aj)))) aj))) (aw aA (aa (ae 0) (aa (xC (.int 8)) aj)))))) aI)
 (ax (xIf (bx (aw de (aa (ae 1) aj))) (ax (aR (xN mkL (aa (xOp bq (ae 1) (xC (.int 1))) (aa (xOp dQ (ae 1) (xC (.int 1))) (aa (xOp dQ (xC (.int 0)) (ae 1)) (aa (ae 4) (aa (ae 4) (aa (xOp oEq (ae 1) (xC (.int 1))) (aa (xOp dQ (xC (.int 4)) (ae 1)) aj)))))))) (gNm 6))
 (aD (xOp oIx (xOp bq (ae 6) (xN mkL (aa (xOp oIx (ae 5) (aw aA (aa (ae 0) (aa (xC (.int 17)) aj)))) aj))) (aw aA (aa (ae 0) (aa (xC (.int 8)) aj)))))) aI)
 (aD (xOp oIx (ae 5) (aw aA (aa (ae 0) (aa (xC (.int 17)) aj))))))))))
noncomputable def eL:Nat→XF
 | 0=>a_ 3 7 rk
 | n+1=>a_ 3 7 (je (eL n))
noncomputable def qv (s_l_same:XF):XE:=(xLC (iZp (aa (ae 0) (aa (ae 1) aj))) 2 (gTu 2 (gCo (gNm 0) (gCo (gNm 1) gN0))) (fun _ S=>.ok true S) (aw s_l_same (aa (ae 0) (aa (ae 1) aj))))
noncomputable def qo (s_l_same:XF):XS:=(ax (xIf (aF (xOp oIs (ae 1) (xC .non))) (aD (xOp oIs (ae 0) (xC .non))) aI)
 (ax (xIf (xOr (bx (xUn (bS "bool") (ae 1))) (bx (xUn (bS "bool") (ae 0)))) (aD (bB (xUn (bS "bool") (ae 1)) (bB (xUn (bS "bool") (ae 0)) (xOp oEq (ae 0) (ae 1))))) aI)
 (ax (xIf (bx (xUn (bS "int") (ae 1))) (aD (bB (xUn (bS "int") (ae 0)) (xOp oEq (ae 0) (ae 1)))) aI)
 (ax (xIf (bx (xUn (bS "str") (ae 1))) (aD (bB (xUn (bS "str") (ae 0)) (xOp oEq (ae 0) (ae 1)))) aI)
 (ax (xIf (xOr (aF (xOp oNe (xUn (bS "tuple") (ae 1)) (xUn (bS "tuple") (ae 0)))) (aF (xOp oNe (xUn (bS "list") (ae 1)) (xUn (bS "list") (ae 0))))) (aD (xC (.bl false))) aI)
 (ax (xIf (aF (xOp oNe (xN aU (aa (ae 0) aj)) (xN aU (aa (ae 1) aj)))) (aD (xC (.bl false))) aI)
 (aD (xOp eH (xC (.bl false)) (qv s_l_same)))))))))
noncomputable def c9:Nat→XF
 | 0=>a_ 2 2 rk
 | n+1=>a_ 2 2 (qo (c9 n))
noncomputable def mV:XS:=(aD (bB (xUn (bS "int") (ae 0)) (ow (xUn (bS "bool") (ae 0)))))
noncomputable def iz:XF:=a_ 1 1 mV
noncomputable def lH:XS:=(aD (bB (aw iz (aa (ae 0) aj)) (eJ oLe oLe (ae 1) (ae 0) (ae 2))))
noncomputable def cw:XF:=a_ 3 3 lH
noncomputable def kF:XE:=(xLC (cX (ae 0)) 1 (gNm 0) (fun _ S=>.ok true S) (aw cw (aa (ae 0) (aa (ae 2) (aa (ae 3) aj)))))
noncomputable def kS:XS:=(aD (bB (xUn (bS "tuple") (ae 0)) (xN i9 (aa kF aj))))
noncomputable def cA:XF:=a_ 3 3 kS
noncomputable def dY:XE:=(xLC (zi (aa (xC (.int 1)) (aa (xN aU (aa (ae 0) aj)) aj))) 1 (gNm 0) (fun _ S=>.ok true S) (xOp oLt (xOp oIx (ae 1) (xOp dQ (ae 0) (xC (.int 1)))) (xOp oIx (ae 1) (ae 0))))
noncomputable def hZ:XS:=(aD (xN i9 (aa dY aj)))
noncomputable def cQ:XF:=a_ 1 1 hZ
noncomputable def kG:XS:=(aD (bB (aw cA (aa (ae 0) (aa (xUn cV (xC (.int 9))) (aa (xC (.int 9)) aj)))) (bB (eJ oLe oLe (xC (.int 1)) (xN aU (aa (ae 0) aj)) (xC (.int 4))) (aw cQ (aa (ae 0) aj)))))
noncomputable def fW:XF:=a_ 1 1 kG
noncomputable def mR:XE:=(xLC (cX (ae 0)) 1 (gNm 0) (fun _ S=>.ok true S) (aw fW (aa (ae 0) aj)))
noncomputable def mU:XS:=(ax (xIf (xOr (bH (bx (xUn (bS "tuple") (ae 0)))) (bH (aF (eJ oLe oLe (xC (.int 1)) (xN aU (aa (ae 0) aj)) (xC (.int 4)))))) (aD (xC (.bl false))) aI)
 (aD (xN i9 (aa mR aj))))
noncomputable def ig:XF:=a_ 1 1 mU
noncomputable def kR:XS:=(xIf (bH (bx (aw ig (aa (ae 0) aj)))) (mf "NoStand" (xC (.str "this is no stand"))) aI)
noncomputable def eN:XF:=a_ 1 1 kR
noncomputable def gZ:XS:=(aD (xOp oEq (xUn oLX (ae 0)) (xN aU (aa (ae 0) aj))))
noncomputable def c8:XF:=a_ 1 1 gZ
noncomputable def lU:XS:=(aD (bB (aw cA (aa (ae 0) (aa (xC (.int 0)) (aa (xC (.int 3)) aj)))) (bB (eJ oLe oLe (xC (.int 1)) (xN aU (aa (ae 0) aj)) (xC (.int 4))) (aw c8 (aa (ae 0) aj)))))
noncomputable def gG:XF:=a_ 1 1 lU
noncomputable def oE:XS:=(aD (bB (aw cw (aa (ae 0) (aa (ae 2) (aa (ae 3) aj)))) (bB (aw cw (aa (ae 1) (aa (ae 2) (aa (ae 3) aj)))) (xOp oLe (ae 0) (ae 1)))))
noncomputable def gY:XF:=a_ 4 4 oE
noncomputable def mZ:XS:=(ax (xIf (xOr (bH (bx (xUn (bS "tuple") (ae 0)))) (aF (xOp oNe (xN aU (aa (ae 0) aj)) (xC (.int 3))))) (aD (xC (.bl false))) aI)
 (aD (bB (aw cw (aa (xOp oIx (ae 0) (xC (.int 0))) (aa (xUn cV (xC (.int 9))) (aa (xC (.int 9)) aj)))) (aw gY (aa (xOp oIx (ae 0) (xC (.int 1))) (aa (xOp oIx (ae 0) (xC (.int 2))) (aa (xC (.int 0)) (aa (xC (.int 4)) aj))))))))
noncomputable def ir:XF:=a_ 1 1 mZ
noncomputable def kO:XE:=(xLC (cX (ae 0)) 1 (gNm 0) (fun _ S=>.ok true S) (aw ir (aa (ae 0) aj)))
noncomputable def kT:XE:=(xLC (cX (ae 0)) 1 (gNm 0) (fun _ S=>.ok true S) (xOp oIx (ae 0) (xC (.int 0))))
noncomputable def kK:XS:=(ax (xIf (xOr (bH (bx (xUn (bS "tuple") (ae 0)))) (aF (xOp oGt (xN aU (aa (ae 0) aj)) (xC (.int 4))))) (aD (xC (.bl false))) aI)
 (aD (bB (xN i9 (aa kO aj)) (aw cQ (aa kT aj)))))
noncomputable def gg:XF:=a_ 1 1 kK
noncomputable def oq:XS:=(aD (bB (xOp oEq (xN aU (aa (ae 0) aj)) (xC (.int 3))) (aw gg (aa (xOp oIx (ae 0) (xC (.int 2))) aj))))
noncomputable def jq:XF:=a_ 1 1 oq
noncomputable def qt:XS:=(ax (xIf (xOr (aF (xOp oNe (xN aU (aa (ae 0) aj)) (xC (.int 5)))) (bH (bx (aw cA (aa (xOp oIx (ae 0) (xC (.int 2))) (aa (xUn cV (xC (.int 3))) (aa (xC (.int 3)) aj))))))) (aD (xC (.bl false))) aI)
 (aD (bB (xOp oEq (xN aU (aa (xOp oIx (ae 0) (xC (.int 2))) aj)) (xN aU (aa (xOp oIx (ae 0) (xC (.int 1))) aj))) (aw gY (aa (xOp oIx (ae 0) (xC (.int 3))) (aa (xOp oIx (ae 0) (xC (.int 4))) (aa (xUn cV (xC (.int 99))) (aa (xC (.int 99)) aj))))))))
noncomputable def kx:XF:=a_ 1 1 qt
noncomputable def nZ:XS:=(ax (xIf (xOr (bH (bx (xUn (bS "tuple") (ae 0)))) (aF (xOp oNe (xN aU (aa (ae 0) aj)) (xC (.int 3))))) (aD (xC (.bl false))) aI)
 (aD (bB (aw cw (aa (xOp oIx (ae 0) (xC (.int 0))) (aa (xC (.int 0)) (aa (xC (.int 3)) aj)))) (bB (aw cw (aa (xOp oIx (ae 0) (xC (.int 1))) (aa (xUn cV (xC (.int 9))) (aa (xC (.int 9)) aj)))) (aw cw (aa (xOp oIx (ae 0) (xC (.int 2))) (aa (xC (.int 0)) (aa (xC (.int 3)) aj))))))))
noncomputable def jg:XF:=a_ 1 1 nZ
noncomputable def mi:XE:=(xLC (cX (ae 0)) 1 (gNm 0) (fun _ S=>.ok true S) (aw jg (aa (ae 0) aj)))
noncomputable def lV:XS:=(ax (xIf (xOr (bH (bx (xUn (bS "tuple") (ae 0)))) (aF (xOp oGt (xN aU (aa (ae 0) aj)) (xC (.int 12))))) (aD (xC (.bl false))) aI)
 (aD (bB (xN i9 (aa mi aj)) (aw c8 (aa (ae 0) aj)))))
noncomputable def gH:XF:=a_ 1 1 lV
noncomputable def pZ:XS:=(aD (bB (xOp oEq (xN aU (aa (ae 0) aj)) (xC (.int 4))) (bB (aw gH (aa (xOp oIx (ae 0) (xC (.int 2))) aj)) (bB (aw cA (aa (xOp oIx (ae 0) (xC (.int 3))) (aa (xC (.int 0)) (aa (xC (.int 3)) aj)))) (aw cQ (aa (xOp oIx (ae 0) (xC (.int 3))) aj))))))
noncomputable def kb:XF:=a_ 1 1 pZ
noncomputable def nX:XS:=(aD (bB (xOp oEq (xN aU (aa (ae 0) aj)) (xC (.int 3))) (bB (aw cA (aa (xOp oIx (ae 0) (xC (.int 2))) (aa (xC (.int 1)) (aa (xC (.int 4)) aj)))) (xOp oEq (xN aU (aa (xOp oIx (ae 0) (xC (.int 2))) aj)) (xN aU (aa (xOp oIx (ae 0) (xC (.int 1))) aj))))))
noncomputable def jk:XF:=a_ 1 1 nX
noncomputable def h_:XS:=(ax (aR (xOp oIx (ae 0) (xC (.int 0))) (gNm 1))
 (ax (xIf (aF (xOp ef (ae 1) (xC (.str "unlike")))) (aD (xOp oEq (xN aU (aa (ae 0) aj)) (xC (.int 2)))) aI)
 (ax (xIf (aF (xOp ef (ae 1) (xC (.str "many")))) (aD (aw jq (aa (ae 0) aj))) aI)
 (ax (xIf (aF (xOp ef (ae 1) (xC (.str "sum")))) (aD (aw kx (aa (ae 0) aj))) aI)
 (ax (xIf (aF (xOp ef (ae 1) (xC (.str "row")))) (aD (aw kb (aa (ae 0) aj))) aI)
 (aD (bB (xOp ef (ae 1) (xC (.str "hand"))) (aw jk (aa (ae 0) aj)))))))))
noncomputable def dN:XF:=a_ 1 2 h_
noncomputable def oG:XS:=(ax (xIf (xOr (bH (bx (xUn (bS "tuple") (ae 0)))) (aF (xOp oLt (xN aU (aa (ae 0) aj)) (xC (.int 2))))) (aD (xC (.bl false))) aI)
 (aD (bB (aw gG (aa (xOp oIx (ae 0) (xC (.int 1))) aj)) (aw dN (aa (ae 0) aj)))))
noncomputable def ju:XF:=a_ 1 1 oG
noncomputable def kE:XE:=(xLC (cX (xOp oIx (ae 1) (xC (.int 1)))) 1 (gNm 0) (fun _ S=>.ok true S) (xOp oLt (ae 0) (xN aU (aa (ae 1) aj))))
noncomputable def kJ:XS:=(aD (bB (aw ju (aa (ae 1) aj)) (xN i9 (aa kE aj))))
noncomputable def gj:XF:=a_ 2 2 kJ
noncomputable def kZ:XS:=(xIf (bH (bx (aw gj (aa (ae 0) (aa (ae 1) aj))))) (mn "NoWish" (ae 2)) aI)
noncomputable def c5:XF:=a_ 3 3 kZ
noncomputable def t9:XS:=(ax (eB (dZ eN (aa (ae 0) aj)))
 (eB (dZ c5 (aa (ae 0) (aa (ae 1) (aa (xC (.int 0)) aj))))))
noncomputable def lT:XF:=a_ 2 2 t9
noncomputable def jD:XS:=(d_ (tB (ae 1)) (gTu 2 (gCo (gNm 2) (gCo (gNm 3) gN0))) (eB (dZ c5 (aa (ae 0) (aa (ae 3) (aa (ae 2) aj))))))
noncomputable def mT:XS:=(ax (eB (dZ eN (aa (ae 0) aj)))
 (ax jD
 (xIf (aF (xOp oGt (xN aU (aa (ae 1) aj)) (xC (.int 3)))) (mf "TooMany" (xC (.str "there are more than three wishes"))) aI)))
noncomputable def fR:XF:=a_ 2 4 mT
noncomputable def fU:XS:=(ax (aR (xN mkL (aa (xUn (isX csX (bX · "Free")) (ae 0)) (aa (xUn (isX csX (bX · "NoLine")) (ae 0)) (aa (xUn (isX csX (bX · "NoName")) (ae 0)) aj)))) (gNm 1))
 (ax (aR (xOp bq (ae 1) (xN mkL (aa (xUn (isX csX (bX · "NoStand")) (ae 0)) (aa (xUn (isX csX (bX · "NoText")) (ae 0)) (aa (xUn (isX csX (bX · "NoWish")) (ae 0)) aj))))) (gNm 1))
 (ax (aR (xOp bq (ae 1) (xN mkL (aa (xUn (isX csX (bX · "NoWorth")) (ae 0)) (aa (xUn (isX csX (bX · "Settled")) (ae 0)) (aa (xUn (isX csX (bX · "TooMany")) (ae 0)) aj))))) (gNm 1))
 (ax (xIf (xOr (aF (xOp oNe (xLf vE (ae 1) (xC (.bl true))) (xC (.int 1)))) (xOr (bH (bx (xUn (isX csX (bX · "WishError")) (ae 0)))) (bH (bx (xUn (isX csX (fun _=>true)) (ae 0)))))) (aD (xC (.str "odd"))) aI)
 (aD (xOp oIx (xN mkL (aa (xC (.str "free")) (aa (xC (.str "line")) (aa (xC (.str "name")) (aa (xC (.str "stand")) (aa (xC (.str "text")) (aa (xC (.str "wish")) (aa (xC (.str "worth")) (aa (xC (.str "fixed")) (aa (xC (.str "many")) aj)))))))))) (xLf vG (ae 1) (xC (.bl true)))))))))
noncomputable def cY:XF:=a_ 1 2 fU
noncomputable def pP:XS:=(ax (aR (xC .non) (gNm 3))
 (ax (aR (xC (.int 0)) (gNm 4))
 (ax (sy csX 7 3 (xIf (aF (xOp oEq (ae 0) (xC (.int 0)))) (aR (dZ lT (aa (ae 1) (aa (ae 2) aj))) (gNm 4)) (aR (dZ fR (aa (ae 1) (aa (ae 2) aj))) (gNm 4))))
 (ax (xIf (aF (xOp oIs (ae 3) (xC .non))) (aD (xN mkL (aa (xC (.str "told")) (aa (ae 4) aj)))) aI)
 (ax (aR (aw cY (aa (ae 3) aj)) (gNm 6))
 (aD (wc (aF (xOp ef (ae 6) (xC (.str "wish")))) (xN mkL (aa (ae 6) (aa (AI "NoWish" (ae 3)) aj))) (xN mkL (aa (ae 6) aj)))))))))
noncomputable def fH:XF:=a_ 3 7 pP
noncomputable def kL:XE:=(xLC (cX (ae 1)) 1 (gNm 0) (xOr (bH (bx (aw de (aa (ae 0) aj)))) (xOr (aF (xOp oLt (ae 0) (xUn cV (xC (.int 9))))) (aF (xOp oGt (ae 0) (xC (.int 9)))))) (xC (.int 1)))
noncomputable def hU:XS:=(d_ (cX (ae 0)) (gNm 1) (ax (xIf (xOr (bH (bx (xUn (bS "tuple") (ae 1)))) (xOr (aF (xOp oLt (xN aU (aa (ae 1) aj)) (xC (.int 1)))) (aF (xOp oGt (xN aU (aa (ae 1) aj)) (xC (.int 4)))))) (aD (xC (.bl false))) aI)
 (ax (xIf (aF (xOp oNe kL (xN mkL aj))) (aD (xC (.bl false))) aI)
 (xIf (aF (xOp oNe (xN gK (aa (ae 1) aj)) (xUn oSS (ae 1)))) (aD (xC (.bl false))) aI))))
noncomputable def kI:XS:=(ax (xIf (xOr (bH (bx (xUn (bS "tuple") (ae 0)))) (xOr (aF (xOp oLt (xN aU (aa (ae 0) aj)) (xC (.int 1)))) (aF (xOp oGt (xN aU (aa (ae 0) aj)) (xC (.int 4)))))) (aD (xC (.bl false))) aI)
 (ax hU
 (aD (xC (.bl true)))))
noncomputable def fX:XF:=a_ 1 2 kI
noncomputable def lr:XE:=(xLC (cX (ae 0)) 1 (gNm 0) (xOr (bH (bx (aw de (aa (ae 0) aj)))) (xOr (aF (xOp oLt (ae 0) (ae 2))) (aF (xOp oGt (ae 0) (ae 3))))) (xC (.int 1)))
noncomputable def lj:XS:=(ax (xIf (bH (bx (xUn (bS "tuple") (ae 0)))) (aD (xC (.bl false))) aI)
 (aD (xOp oEq lr (xN mkL aj))))
noncomputable def bF:XF:=a_ 3 3 lj
noncomputable def lK:XE:=(xLC (cX (ae 0)) 1 (gNm 0) (xOr (bH (bx (aw bF (aa (ae 0) (aa (xUn cV (xC (.int 9))) (aa (xC (.int 9)) aj)))))) (aF (xOp oNe (xN aU (aa (ae 0) aj)) (xC (.int 3))))) (xC (.int 1)))
noncomputable def lA:XS:=(ax (xIf (xOr (bH (bx (xUn (bS "tuple") (ae 0)))) (aF (xOp oGt (xN aU (aa (ae 0) aj)) (ae 1)))) (aD (xC (.bl false))) aI)
 (aD (xOp oEq lK (xN mkL aj))))
noncomputable def dz:XF:=a_ 2 2 lA
noncomputable def iP:XE:=(xLC (cX (xOp oIx (ae 0) (xC (.int 2)))) 1 (gNm 0) (bH (aF (jW oLe oLe oLe (xC (.int 0)) (xOp oIx (ae 0) (xC (.int 1))) (xOp oIx (ae 0) (xC (.int 2))) (xC (.int 4))))) (xC (.int 1)))
noncomputable def iZ:XE:=(xLC (cX (xOp oIx (ae 0) (xC (.int 2)))) 1 (gNm 0) (fun _ S=>.ok true S) (xOp oIx (ae 0) (xC (.int 0))))
noncomputable def i_:XE:=(xLC (cX (xOp oIx (ae 0) (xC (.int 2)))) 1 (gNm 0) (fun _ S=>.ok true S) (xOp oIx (ae 0) (xC (.int 0))))
noncomputable def i7:XE:=(xLC (cX (xOp oIx (ae 0) (xC (.int 2)))) 1 (gNm 0) (bH (bx (aw bF (aa (xN mkT (aa (xOp oIx (ae 0) (xC (.int 0))) (aa (xOp oIx (ae 0) (xC (.int 2))) aj))) (aa (xC (.int 0)) (aa (xC (.int 3)) aj)))))) (xC (.int 1)))
noncomputable def l7:XS:=(ax (xIf (xOr (bH (bx (xUn (bS "tuple") (ae 0)))) (xOr (aF (xOp oLt (xN aU (aa (ae 0) aj)) (xC (.int 2)))) (aF (xOp oS (xOp oIx (ae 0) (xC (.int 0))) (xN mkT (aa (xC (.str "unlike")) (aa (xC (.str "many")) (aa (xC (.str "sum")) (aa (xC (.str "row")) (aa (xC (.str "hand")) aj)))))))))) (aD (xC (.bl false))) aI)
 (ax (xIf (xOr (bH (bx (aw bF (aa (xOp oIx (ae 0) (xC (.int 1))) (aa (xC (.int 0)) (aa (xC (.int 3)) aj)))))) (xOr (bH (aF (eJ oLe oLe (xC (.int 1)) (xN aU (aa (xOp oIx (ae 0) (xC (.int 1))) aj)) (xC (.int 4))))) (aF (xOp oLt (xUn oLX (xOp oIx (ae 0) (xC (.int 1)))) (xN aU (aa (xOp oIx (ae 0) (xC (.int 1))) aj)))))) (aD (xC (.bl false))) aI)
 (ax (xIf (aF (xOp oNe (xN aU (aa (ae 0) aj)) (xDl [("unlike",2),("many",3),("sum",5),("row",4),("hand",3)] (xOp oIx (ae 0) (xC (.int 0)))))) (aD (xC (.bl false))) aI)
 (ax (xIf (aF (xOp ef (xOp oIx (ae 0) (xC (.int 0))) (xC (.str "many")))) (ax (xIf (xOr (bH (bx (aw dz (aa (xOp oIx (ae 0) (xC (.int 2))) (aa (xC (.int 4)) aj))))) (aF (xOp oNe iP (xN mkL aj)))) (aD (xC (.bl false))) aI)
 (aD (xOp oEq iZ (xUn oSS i_)))) aI)
 (ax (xIf (aF (xOp ef (xOp oIx (ae 0) (xC (.int 0))) (xC (.str "sum")))) (ax (xIf (xOr (bH (bx (aw bF (aa (xOp oIx (ae 0) (xC (.int 2))) (aa (xUn cV (xC (.int 3))) (aa (xC (.int 3)) aj)))))) (aF (xOp oNe (xN aU (aa (xOp oIx (ae 0) (xC (.int 2))) aj)) (xN aU (aa (xOp oIx (ae 0) (xC (.int 1))) aj))))) (aD (xC (.bl false))) aI)
 (aD (bB (aw bF (aa (xSl oSl (ae 0) (dr (xC (.int 3))) cI) (aa (xUn cV (xC (.int 99))) (aa (xC (.int 99)) aj)))) (xOp oLe (xOp oIx (ae 0) (xC (.int 3))) (xOp oIx (ae 0) (xC (.int 4))))))) aI)
 (ax (xIf (aF (xOp ef (xOp oIx (ae 0) (xC (.int 0))) (xC (.str "row")))) (ax (xIf (xOr (bH (bx (aw dz (aa (xOp oIx (ae 0) (xC (.int 2))) (aa (xC (.int 12)) aj))))) (bH (bx (aw bF (aa (xOp oIx (ae 0) (xC (.int 3))) (aa (xC (.int 0)) (aa (xC (.int 3)) aj))))))) (aD (xC (.bl false))) aI)
 (ax (xIf (aF (xOp oNe i7 (xN mkL aj))) (aD (xC (.bl false))) aI)
 (aD (bB (xOp oEq (xUn oLX (xOp oIx (ae 0) (xC (.int 2)))) (xN aU (aa (xOp oIx (ae 0) (xC (.int 2))) aj))) (xOp oEq (xN gK (aa (xOp oIx (ae 0) (xC (.int 3))) aj)) (xUn oSS (xOp oIx (ae 0) (xC (.int 3))))))))) aI)
 (aD (wu (xOp ef (xOp oIx (ae 0) (xC (.int 0))) (xC (.str "unlike"))) (bB (aw bF (aa (xOp oIx (ae 0) (xC (.int 2))) (aa (xC (.int 1)) (aa (xC (.int 4)) aj)))) (xOp oEq (xN aU (aa (xOp oIx (ae 0) (xC (.int 2))) aj)) (xN aU (aa (xOp oIx (ae 0) (xC (.int 1))) aj))))))))))))
noncomputable def cq:XF:=a_ 1 1 l7
noncomputable def om:XS:=(aD (bB (aw cq (aa (ae 1) aj)) (xOp oLt (xN (nF best) (aa (xOp oIx (ae 1) (xC (.int 1))) aj)) (xN aU (aa (ae 0) aj)))))
noncomputable def fM:XF:=a_ 2 2 om
noncomputable def ni:XS:=(d_ (tB (ae 1)) (gTu 2 (gCo (gNm 2) (gCo (gNm 3) gN0))) (xIf (bH (bx (aw fM (aa (ae 0) (aa (ae 3) aj))))) (aD (xN mkL (aa (xC (.str "wish")) (aa (ae 2) aj)))) aI))
noncomputable def sZ:XS:=(ax (xIf (bH (bx (aw fX (aa (ae 0) aj)))) (aD (xN mkL (aa (xC (.str "stand")) aj))) aI)
 (ax ni
 (aD (wc (aF (xOp oLt (xN aU (aa (ae 1) aj)) (xC (.int 4)))) (xN mkL (aa (xC (.str "told")) (aa (xC .non) aj))) (xN mkL (aa (xC (.str "many")) aj))))))
noncomputable def j4:XF:=a_ 2 4 sZ
noncomputable def tI:XS:=(d_ (gz (aa (xOp f_ (aw aA (aa (ae 1) (aa (xC (.int 3)) aj))) (xN rp (aa (xOp oNe (ae 8) (xN mkL aj)) aj))) aj)) (gNm 9) (ax (aR (aw aA (aa (ae 1) (aa (xN aU (aa (ae 8) aj)) aj))) (gNm 10))
 (aR (aw (eL 10) (aa (ae 1) (aa (xOp oIx (ae 8) (ae 10)) (aa (xC (.int 3)) aj)))) (gSb (ae 8) (ae 10) eg))))
noncomputable def sD:XS:=(d_ (gz (aa (xC (.int 4)) aj)) (gNm 7) (ax (aR (xN jV (aa (ae 5) aj)) (gNm 8))
 (ax tI
 (eB (xLm jw (ae 6) (xN mkT (aa (xOp oIx (xN mkL (aa (ae 3) (aa (aw (eL 10) (aa (ae 1) (aa (ae 3) (aa (xC (.int 2)) aj)))) aj))) (aw aA (aa (ae 1) (aa (xC (.int 2)) aj)))) (aa (xFz (ae 8)) aj))))))))
noncomputable def rG:XS:=(d_ (cX (ae 8)) (gNm 13) (ax (aR (aw j4 (aa (ae 11) (aa (xN mkL (aa (ae 13) aj)) aj))) (gNm 14))
 (xIf (bH (bx (aw (c9 10) (aa (aw fH (aa (xC (.int 0)) (aa (ae 11) (aa (ae 13) aj)))) (aa (ae 14) aj))))) (aD (xC (.bl false))) aI)))
noncomputable def rj:XS:=(d_ (cX (ae 6)) (gTu 2 (gCo (gNm 11) (gCo (gNm 8) gN0))) (ax (aR (xN gK (aa (ae 8) aj)) (gNm 12))
 (ax (xIf (xOr (bH (bx (aw (c9 10) (aa (aw fH (aa (xC (.int 1)) (aa (ae 11) (aa (ae 12) aj)))) (aa (aw j4 (aa (ae 11) (aa (ae 8) aj))) aj))))) (aF (xOp oNe (ae 12) (ae 8)))) (aD (xC (.bl false))) aI)
 rG)))
noncomputable def xK:XS:=(d_ (gz (aa (xC (.int 5)) aj)) (gNm 2) (ax (aR (aw jh (aa (aw kc (aa (ae 1) aj)) (aa (xC (.int 4)) (aa (xC (.int 4)) aj)))) (gNm 3))
 (ax (aR (xOp bq (ae 3) (xOp vk (xN mkT (aa (xN mkT (aa (xC (.int 0)) (aa (xC (.int 1)) aj))) aj)) (xOp dQ (xC (.int 4)) (xN aU (aa (ae 3) aj))))) (gNm 4))
 (ax (aR (aw eY (aa (ae 1) (aa (xOp oIx (xN mkL (aa (ae 3) (aa (ae 4) aj))) (aw aA (aa (ae 1) (aa (xC (.int 2)) aj)))) (aa (xC (.int 5)) aj)))) (gNm 5))
 (ax (aR (xN mkM (aa (xN mkT (aa (ae 3) (aa (ae 5) aj))) aj)) (gNm 6))
 (ax sD
 rj))))))
noncomputable def yz:XS:=(ax (aR (aw j7 (aa (ae 0) aj)) (gNm 1))
 (ax xK
 (aD (xC (.bl true)))))
noncomputable def vp:XF:=a_ 1 15 yz
local macro_rules | `(tactic| walk_at "mx") => do
 let a:=("GI Im GR IB FJ IT GL IK GX Bt Bh Fe H_ A8 zb ye GD G_ zZ GK GC E4 FN pz Ff Dw GY GU G6 HV Hr Eb Ex Dt G0 Hu HF yP EW C3 CV BV DC Dx DJ Cj B1 Fo D6 E1 yI uN A2 Bs Jm JP uh FU A9 Hx Hy EA yE CH JM IM Hn Io Hd Gu Ia HG HU G2 jZ bG iq Hi HH G1 BW Hk sA IP CQ C8 zV dP Dm ll sP qK n4 gL G3 Hc Gy Ib Br A0 AZ wm lD vA tf sY DF Dv GB FQ EO r0 HX Jx DS GH Hq GQ Gs G9 ID HK HC Ed EL Gd D3 zA An zL AS GV xT DY FP FW FC Em C4 ux Ik HB Gv G8 Ha Iy HM JH wa JG JB Fp Fz D8 Ga Fs EI DD D9 DZ EM CO BQ BJ EG Ez Eh FL DV DQ Gi D7 F6 DK C5 C1 B6 DP El EC Ge z0 zE zm Az zR AO Iw Dn Ih Du".splitOn " ").toArray.map fun s=>VN (Lean.Name.mkStr `L2 s)
 let b:=("List.getElem?_cons_zero List.getElem?_cons_succ List.set_cons_zero List.set_cons_succ List.map_cons List.map_nil List.length_cons List.length_nil List.cons_append List.nil_append List.replicate_succ List.replicate_zero List.append_nil Nat.reduceSub Nat.reduceAdd Nat.zero_add Bool.not_true Bool.not_false decide_true decide_false beq_self_eq_true if_true if_false Int.reduceNeg".splitOn " ").toArray.map fun s=>VN s.toName
 `(tactic| simp only [$[$a:term],*,$[$b:term],*,↓reduceIte])
local macro_rules | `(tactic| walk_at "mo") => `(tactic| first
  | rw [A7 (by first | decide | omega)]
  | rw [qI (by first | exact qV (by decide) (by decide) | exact Qu ⟨by omega,by omega⟩ | exact Qv ⟨by omega,by omega⟩)]
  | rw [HE ⟨by first | decide | omega,by first | decide | omega⟩]
  | rw [mI ⟨by decide,by decide,by decide⟩]
  | rw [j6 (by first | (simp only [Km,Pc,J0];omega) | (simp;omega))]
  | rw [q_ (by first | (simp only [Km,Pc,J0];omega) | (simp;omega))]
  | rw [nS (by omega)]
  | rw [vI (by omega)])
local macro_rules | `(tactic| walk_at "mm") => `(tactic| repeat (first | walk_at "mx" | walk_at "mo"))
local macro_rules | `(tactic| erw [$rs,*]) => `(tactic| (rw [$rs,*]; walk_at "mx"))
local macro_rules | `(tactic| simp? [$ls,*]) => `(tactic| repeat (first | walk_at "mx" | simp only [K7, $ls,*]))
def eh (cells:List Int) (at' pool:Int):Ob:=.lst [.lst (cells.map D.int),.int at',.int pool]
def Pen (o:Ob):Prop:=∃ cells at' pool,o=eh cells at' pool∧cells.length≤63∧0≤at'∧0≤pool
theorem ao:leave S (.ok (.rt (.d x),τ) S)=.ok (.d x) S:=by rw [nk,su,Nj]
theorem cv:leave S (.ok (.rt (.d x),τ) S')=.ok (.d x) (S'.take S.length):=by rw [nk,su]
theorem yx (cell at':Int) (h:0≤at') (S:Sto):∃ r:Int,0≤r∧fV [.d (.int cell),.d (.int at')] S=.ok (.d (.int r)) S:=by
 unfold fV
 rw [dI]
 unfold mY
 walk_at "mx"
 erw [mI ⟨by decide,by decide,by decide⟩]
 by_cases hc:(10:Int) ^ (18:Int).toNat≤cell
 ·rw [JW hc]
  refine ⟨cell,Int.le_trans (by decide) hc,?_⟩
  walk_at "mx"
  exact ao
 ·rw [H0 hc]
  walk_at "mm"
  generalize hone:(cell % 1000000007 * 69069+at' * 40503+977) % 2147483629=one
  have o1:0≤one:=by rw [← hone];exact MZ _ (by decide)
  have o2:one < 2147483629:=by rw [← hone];exact Mx _ (by decide)
  walk_at "mm"
  generalize htwo:(one * one+at' * 7919+cell % 65537) % 2147483587=two
  have o3:0≤two:=by rw [← htwo];exact MZ _ (by decide)
  have o4:two < 2147483587:=by rw [← htwo];exact Mx _ (by decide)
  walk_at "mm"
  generalize hthree:(two * two+one * 31+5) % 2147483563=three
  have o5:0≤three:=by rw [← hthree];exact MZ _ (by decide)
  walk_at "mm"
  exact ⟨(one * 2147483659+two) * 2147483693+three,by omega,ao⟩
theorem nW {R:Sto}:oIx (.r 0) (.d (.int 0)) (eh cells at' pool :: R)=.ok (.d (.lst (cells.map D.int))) (eh cells at' pool :: R):=oO rfl rfl
theorem Ig {R:Sto}:oIx (.r 0) (.d (.int 1)) (eh cells at' pool :: R)=.ok (.d (.int at')) (eh cells at' pool :: R):=oO rfl rfl
theorem vU {R:Sto}:oIx (.r 0) (.d (.int 2)) (eh cells at' pool :: R)=.ok (.d (.int pool)) (eh cells at' pool :: R):=oO rfl rfl
theorem Eu {R:Sto}:eg (.r 0) (.d (.int 1)) (.d (.int v)) (eh cells at' pool :: R)=.ok () (eh cells v pool :: R):=ak rfl
theorem rD {R:Sto}:eg (.r 0) (.d (.int 2)) (.d (.int v)) (eh cells at' pool :: R)=.ok () (eh cells at' v :: R):=ak rfl
theorem dj {ns:List Int} {i:Int} (h0:0≤i) (h1:i < ns.length):∃ n,atI (ns.map D.int) i=some (.int n)∧n∈ns:=by
 have hk:i.toNat < ns.length:=by omega
 refine ⟨ns[i.toNat],?_,L5 hk⟩
 unfold atI
 rw [qO h0 (by simpa using h1)]
 show (ns.map D.int)[i.toNat]?=_
 rw [Kv,JZ hk]
 rfl
theorem cj {R:Sto}:(o' :: R).take (o :: R).length=o' :: R:=by rw [show (o :: R).length=(o' :: R).length from rfl,Nj]
theorem aN {o:Ob} {R:Sto} {m:Int} (hp:Pen o) (h0:0 < m) (h1:m < 1073741824):∃ (k:Int) (o':Ob),0≤k∧k < m∧Pen o'∧aA [.r 0,.d (.int m)] (o :: R)=.ok (.d (.int k)) (o' :: R):=by
 obtain ⟨cells,at',pool,rfl,hl,ha,hq⟩:=hp
 unfold aA
 rw [dI]
 unfold qf
 have tail:∀ (at2 pool2:Int) (o2 o3:Option Vl),0≤at2→0≤pool2→∃ (k:Int) (o':Ob),0≤k∧k < m∧Pen o' ∧
   leave (eh cells at' pool :: R) ((ax (aR (xOp oMod (xOp oIx (ae 0) (xC (.int 2))) (ae 1)) (gNm 4)) (ax (aR (xOp oDiv (xOp oIx (ae 0) (xC (.int 2))) (ae 1)) (gSb (ae 0) (xC (.int 2)) eg)) (aD (ae 4)))) [some (.r 0),some (.d (.int m)),o2,o3,none] (eh cells at2 pool2 :: R))=.ok (.d (.int k)) (o' :: R):=by
  intro at2 pool2 o2 o3 g1 g2
  walk_at "mx"
  rw [vU]
  walk_at "mm"
  rw [vU]
  walk_at "mm"
  rw [rD]
  walk_at "mm"
  exact ⟨pool2 % m,_,MZ _ (by omega),Mx _ h0,⟨cells,at2,pool2 / m,rfl,hl,g1,Int.ediv_nonneg g2 (by omega)⟩,by rw [cv,cj]⟩
 erw [bG,dP]
 rw [vU]
 walk_at "mm"
 by_cases hc:pool < m
 ·erw [JW hc]
  rw [Ig]
  walk_at "mm"
  rw [nW]
  walk_at "mm"
  have fin:∀ cell:Int,∃ (k:Int) (o':Ob),0≤k∧k < m∧Pen o'∧leave (eh cells at' pool :: R) (sq1 ((ax (aR (xOp bq (ae 2) (xC (.int 1))) (gSb (ae 0) (xC (.int 1)) eg)) (aR (aw fV (aa (ae 3) (aa (ae 2) aj))) (gSb (ae 0) (xC (.int 2)) eg))) [some (.r 0),some (.d (.int m)),some (.d (.int at')),some (.d (.int cell)),none] (eh cells at' pool :: R))
    (ax (aR (xOp oMod (xOp oIx (ae 0) (xC (.int 2))) (ae 1)) (gNm 4)) (ax (aR (xOp oDiv (xOp oIx (ae 0) (xC (.int 2))) (ae 1)) (gSb (ae 0) (xC (.int 2)) eg)) (aD (ae 4)))))=.ok (.d (.int k)) (o' :: R):=by
   intro cell
   erw [bG,sP]
   rw [Eu]
   rw [wm,n4,iq,sP,uh]
   obtain ⟨r,hr,er⟩:=yx cell at' ha (eh cells (at'+1) pool :: R)
   simp only [uN,yI,Bh,Bt,A2,Bs,FU,er,A9,qK,Br,A0,AZ,Fe,rD,wm,n4,iq]
   exact tail (at'+1) r _ _ (by omega) hr
  by_cases hin:at' < ((cells.map D.int).length:Int)
  ·erw [JW hin]
   rw [nW]
   obtain ⟨n,en,_⟩:=dj (ns:=cells) ha (by simpa using hin)
   walk_at "mx"
   rw [eT en]
   rw [qK,gL,n4,iq]
   exact fin n
  ·erw [H0 hin]
   rw [nW]
   walk_at "mm"
   by_cases hpos:(0:Int) < ((cells.map D.int).length:Int)
   ·erw [JW hpos]
    rw [nW]
    walk_at "mm"
    rw [nW]
    walk_at "mm"
    obtain ⟨n,en,_⟩:=dj (ns:=cells) (i:=(at' * 5+3) % ((cells.map D.int).length:Int)) (MZ _ (by omega)) (by have:=Mx (at' * 5+3) hpos;simpa using this)
    erw [eT en]
    erw [mI ⟨by decide,by decide,by decide⟩]
    rw [A7 (by have:(0:Int) < 10 ^ (17:Int).toNat:=(by decide);omega)]
    rw [qK,gL,n4,iq]
    exact fin _
   ·rw [H0 hpos]
    rw [ll,jZ,iq]
    exact fin 0
 ·rw [H0 hc]
  rw [ll,jZ,iq]
  exact tail at' pool _ _ ha hq
structure GoodW (m:Int) (ws:List Int):Prop where
 rise:ws.Pairwise (· < ·)
 lim:∀ w∈ws,-9≤w∧w≤9
 pos:1≤ws.length
 le:(ws.length:Int)≤m
def aQ (ns:List Int):D:=.tup (ns.map D.int)
theorem zd {R:Sto} (hp:Pen o) (h0:0 < most) (h1:most≤50) (n0:-9≤near) (n1:near≤5):∃ (ws:List Int) (o':Ob),GoodW most ws∧Pen o'∧ip [.r 0,.d (.int most),.d (.int near)] (o :: R)=.ok (.d (aQ ws)) (o' :: R):=by
 unfold ip
 rw [eO]
 unfold m8
 walk_at "mx"
 obtain ⟨k,o1,k0,k1,hp1,e1⟩:=aN (R:=R++[.lst []]) hp h0 (by omega)
 obtain ⟨τ',S',e2,o2,ws,x4,x5,hp2,rfl,rfl,nd,lim,le,pos⟩:=eD (show _=mS [some (.r 0),some (.d (.int most)),some (.d (.int near)),some (.r (R.length+1)),none,none] (o :: (R++[.lst []])) from rfl)
  (S1:=o1 :: (R++[.lst []])) (gd:=none) (items:=(J_ (1+k).toNat).map fun i=>Vl.d (.int (i:Nat))) (by walk_at "mx";rw [e1];walk_at "mm")
  (fun i τ S=>∃ (o':Ob) (ws:List Int) (x4 x5:Option Vl),Pen o'∧τ=[some (.r 0),some (.d (.int most)),some (.d (.int near)),some (.r (R.length+1)),x4,x5]∧S=o' :: (R++[.lst (ws.map D.int)])∧ws.Nodup∧(∀ w∈ws,-9≤w∧w≤9)∧ws.length≤i∧(0 < i→0 < ws.length))
  ⟨o1,[],none,none,hp1,rfl,rfl,Mz,by simp,J3 _,by omega⟩ (by
   rintro i z τ S hz ⟨o',ws,x4,x5,hp',rfl,rfl,nd,lim,le,pos⟩
   have hi:i < (1+k).toNat:=by simpa using (J5.mp hz).1
   obtain ⟨a,oa,a0,a1,hpa,ea⟩:=aN (R:=R++[.lst (ws.map D.int)]) (m:=5) hp' (by decide) (by decide)
   obtain ⟨b,ob,b0,b1,hpb,eb⟩:=aN (R:=R++[.lst (ws.map D.int)]) (m:=6) hpa (by decide) (by decide)
   obtain ⟨c,oc,c0,c1,hpc,ec⟩:=aN (R:=R++[.lst (ws.map D.int)]) (m:=19) hpb (by decide) (by decide)
   have fin:∀ (v:Int) (q:Ob) (x5':Option Vl),-9≤v→v≤9→Pen q→x5'=some (.d (.int v))→∃ fl τ2 S2,(xIf (aF (xOp eH (ae 5) (ae 3))) (eB (xLm jw (ae 3) (ae 5))) aI) [some (.r 0),some (.d (.int most)),some (.d (.int near)),some (.r (R.length+1)),some z,x5'] (q :: (R++[.lst (ws.map D.int)]))=.ok (fl,τ2) S2∧(fl=.nx∨fl=.ct) ∧
     ∃ (o':Ob) (ws:List Int) (x4 x5:Option Vl),Pen o'∧τ2=[some (.r 0),some (.d (.int most)),some (.d (.int near)),some (.r (R.length+1)),x4,x5]∧S2=o' :: (R++[.lst (ws.map D.int)])∧ws.Nodup∧(∀ w∈ws,-9≤w∧w≤9)∧ws.length≤i+1∧(0 < i+1→0 < ws.length):=by
    rintro v q _ v0 v1 hq rfl
    walk_at "mx"
    rw [rQ (ns:=ws) dD]
    by_cases hm:v∈ws
    ·erw [JW hm]
     exact ⟨_,_,_,rfl,.inl rfl,q,ws,_,_,hq,rfl,rfl,nd,lim,by omega,fun _=>Q8 hm⟩
    ·erw [H0 hm]
     erw [oB (by rw [J0];omega)]
     refine ⟨_,_,_,rfl,.inl rfl,q,ws++[v],_,_,hq,rfl,by rw [O_];rfl,?_,?_,by simp;omega,fun _=>by simp⟩
     ·rw [OM]
      refine ⟨nd,by simp,fun x hx y hy=>?_⟩
      rw [Ka.mp hy]
      rintro rfl
      exact hm hx
     ·intro w hw
      rcases Kz.mp hw with e | e
      ·exact lim w e
      ·rw [Ka.mp e];omega
   by_cases hb:b=0
   ·subst hb
    obtain ⟨fl,τ2,S2,f1,f2,f3⟩:=fin (c - 9) oc _ (by omega) (by omega) hpc rfl
    refine ⟨_,_,fl,τ2,S2,gL,?_,f2,Kp,f3⟩
    walk_at "mx"
    erw [ea]
    erw [eb]
    erw [ec]
    erw [← f1]
   ·obtain ⟨fl,τ2,S2,f1,f2,f3⟩:=fin (near+a) ob _ (by omega) (by omega) hpb rfl
    refine ⟨_,_,fl,τ2,S2,gL,?_,f2,Kp,f3⟩
    walk_at "mx"
    erw [ea]
    erw [eb]
    erw [H0 hb]
    rw [← f1]
    walk_at "mx")
 erw [e2]
 rw [e9] at le pos
 erw [uF dD (by omega)]
 refine ⟨sortI ws,o2,⟨rS nd,fun w hw=>lim w ((qk ws w).mp hw),by rw [gR];exact pos (by omega),by rw [gR];omega⟩,hp2,?_⟩
 rw [cv]
 simp [aQ]
structure fT (n m:Int) (wss:List (List Int)):Prop where
 pos:1≤wss.length
 le:(wss.length:Int)≤n
 all:∀ ws∈wss,GoodW m ws
def aX (wss:List (List Int)):D:=.tup (wss.map aQ)
theorem AU {R:Sto} (hp:Pen o) (h0:0 < names) (h1:names≤50) (m0:0 < most) (m1:most≤50):∃ (wss:List (List Int)) (o':Ob),fT names most wss∧Pen o'∧jh [.r 0,.d (.int names),.d (.int most)] (o :: R)=.ok (.d (aX wss)) (o' :: R):=by
 unfold jh
 rw [eO]
 unfold oo
 walk_at "mx"
 obtain ⟨k,o1,k0,k1,hp1,e1⟩:=aN (R:=R) (m:=15) hp (by decide) (by decide)
 erw [e1]
 obtain ⟨j,o2,j0,j1,hp2,e2⟩:=aN (R:=R) hp1 h0 (by omega)
 obtain ⟨acc,Q,e4,hl,o3,wss,hp3,rfl,rfl,hw,hg⟩:=lS (show _=nY [some (.r 0),some (.d (.int names)),some (.d (.int most)),some (.d (.int (k - 9)))] (o1 :: R) from rfl) (S1:=o2 :: R) (items:=(J_ (1+j).toNat).map fun i=>Vl.d (.int (i:Nat))) (by walk_at "mx";rw [e2];walk_at "mm")
  (fun i acc Q=>∃ (o':Ob) (wss:List (List Int)),Pen o'∧acc=wss.map aQ∧Q=o' :: R∧wss.length=i∧∀ ws∈wss,GoodW most ws) ⟨o2,[],hp2,rfl,rfl,rfl,by simp⟩ (by
   rintro i z acc Q hz ⟨o',wss,hp',rfl,rfl,hw,hg⟩ _
   obtain ⟨hi,rfl⟩:=fO hz
   obtain ⟨ws,o3,gw,hp3,e3⟩:=zd (R:=R++[.lst (wss.map aQ)]) (near:=k - 9) hp' m0 m1 (by omega) (by omega)
   refine ⟨aQ ws,o3 :: R,?_,rfl,o3,wss++[ws],hp3,dw.symm,rfl,by simp [hw],fun x hx=>?_⟩
   ·walk_at "mx"
    erw [e3]
   ·rcases Kz.mp hx with e | e
    ·exact hg x e
    ·rw [Ka.mp e];exact gw)
 erw [e4]
 rw [e9] at hw
 exact ⟨wss,o3,⟨by omega,by omega,hg⟩,hp3,by rw [cv,cj];rfl⟩
theorem B_ {R:Sto} (hp:Pen o):∃ o',Pen o'∧kc [.r 0] (o :: R)=.ok (.r 0) (o' :: R):=by
 obtain ⟨cells,at',pool,rfl,hl,ha,hq⟩:=hp
 unfold kc
 rw [bw]
 unfold pY
 walk_at "mx"
 erw [rD]
 refine ⟨eh cells at' 0,⟨cells,at',0,rfl,hl,ha,Ra 0⟩,?_⟩
 rw [nk]
 unfold out
 dsimp only
 rw [J2 (by simp),cj]
theorem zw {xs:List D} {i:Nat} {z:Vl} (h:(cH 0 xs)[i]?=some z):∃ x,xs[i]?=some x∧z=.d (.tup [.int i,x]):=by
 rw [jj] at h
 cases q:xs[i]? with
 | none=>rw [q] at h;cases h
 | some x=>rw [q] at h;cases h;exact ⟨x,rfl,by rw [Ot]⟩
theorem CB (ns:List Int):∃ o,Pen o∧j7 [.sc ns] []=.ok (.r 0) [o]:=by
 unfold j7
 rw [bw]
 unfold qs
 walk_at "mx"
 rw [show (12:Int)=((12:Nat):Int) from rfl,rO,← UZ]
 obtain ⟨τ',S',e2,cs,x2,x3,rfl,rfl,hl⟩:=eD (show _=pU [some (.sc ns),some (.r 0),none,none] [.lst ((ns.take 12).map D.int)] from rfl)
  (S1:=[.lst ((ns.take 12).map D.int)]) (gd:=none) (items:=cH 0 (((ns.map D.int).drop 12).take (63 - 12))) (by
   walk_at "mx"
   rw [show (12:Int)=((12:Nat):Int) from rfl,show (63:Int)=((63:Nat):Int) from rfl,Gp])
  (fun i τ S=>∃ (cs:List Int) (x2 x3:Option Vl),τ=[some (.sc ns),some (.r 0),x2,x3]∧S=[.lst (cs.map D.int)]∧cs.length=(ns.take 12).length) ⟨_,none,none,rfl,rfl,rfl⟩ (by
   rintro i z τ S hz ⟨cs,x2,x3,rfl,rfl,hl⟩
   obtain ⟨x,ex,rfl⟩:=zw hz
   have hx:x∈ns.map D.int:=MF (MG (K0 ex))
   obtain ⟨v,_,rfl⟩:=La.mp hx
   have hlen:12 < ns.length:=by
    have:=(J5.mp ex).1
    simp at this
    omega
   have hcs:cs.length=12:=by rw [hl];simp;omega
   have h0:0≤((i:Nat):Int) % 12:=MZ _ (by decide)
   have h1:((i:Nat):Int) % 12 < 12:=Mx _ (by decide)
   obtain ⟨c,ec,_⟩:=dj (ns:=cs) (i:=((i:Nat):Int) % 12) h0 (by omega)
   have hix:ixN (cs.map D.int).length (((i:Nat):Int) % 12)=some (((i:Nat):Int) % 12).toNat:=qO h0 (by rw [J0];omega)
   refine ⟨_,_,.nx,_,_,by walk_at "mm";rfl,by
    walk_at "mm"
    rw [oO (xs:=cs.map D.int) rfl ec]
    walk_at "mm"
    rw [show eg (.r 0) (.d (.int (((i:Nat):Int) % 12))) (.d (.int (c+v))) [Ob.lst (cs.map D.int)]=.ok () [.lst ((cs.map D.int).set (((i:Nat):Int) % 12).toNat (.int (c+v)))] by
     unfold eg
     simp only [OC,hix]
     rfl]
    walk_at "mx"
    rfl,.inl rfl,Kp,cs.set (((i:Nat):Int) % 12).toNat (c+v),_,_,rfl,by rw [List.map_set],by rw [Mr];exact hl⟩)
 erw [e2]
 refine ⟨eh cs 0 0,⟨cs,0,0,rfl,by rw [hl];simp;omega,Ra 0,Ra 0⟩,?_⟩
 rfl
theorem qy (f:α→β):∀ (l:List α) (k:Nat),(l.eraseIdx k).map f=(l.map f).eraseIdx k
 | [],_=>rfl
 | _ :: _,0=>rfl
 | x :: l,k+1=>by
  rw [OD,Kx,Kx,OD,qy f l k]
structure fz (k:Nat) (ns:List Int):Prop where
 dom:∀ n∈ns,0≤n∧n < (k:Int)
 pos:1≤ns.length
 le:ns.length≤k
 nd:ns.Nodup
theorem qG {R:Sto} (hp:Pen o) (h0:1≤wss.length) (h1:wss.length≤50):∃ (ns:List Int) (o':Ob),fz wss.length ns∧Pen o'∧eW [.r 0,.d (aX wss)] (o :: R)=.ok (.d (aQ ns)) (o' :: R):=by
 unfold eW
 rw [dI]
 unfold jv aX
 walk_at "mx"
 erw [J0,DA (by omega)]
 have hr:(J_ ((wss.length:Nat):Int).toNat).map (fun i=>D.int ((i:Nat):Int))=((J_ wss.length).map fun i=>((i:Nat):Int)).map D.int:=by rw [Lc,L6];rfl
 rw [hr]
 generalize hL:((J_ wss.length).map fun i=>((i:Nat):Int))=L0
 have lL:L0.length=wss.length:=by rw [← hL];simp
 have dL:∀ n∈L0,0≤n∧n < (wss.length:Int):=by
  intro n hn
  rw [← hL] at hn
  obtain ⟨i,hi,rfl⟩:=La.mp hn
  have:=Lb.mp hi
  omega
 have nL:L0.Nodup:=by
  rw [← hL]
  exact WR _ (fun a b (h:a≠b)=>by omega) Qy
 rw [o7 (xs:=L0.map D.int) (by walk_at "mx"),J0,lL]
 obtain ⟨a,o1,a0,a1,hp1,e1⟩:=aN (R:=R++[.lst (L0.map D.int)]) (m:=(wss.length:Int)) hp (by omega) (by omega)
 walk_at "mx"
 erw [e1]
 obtain ⟨b,o2,b0,b1,hp2,e2⟩:=aN (R:=R++[.lst (L0.map D.int)]) (m:=3) hp1 (by decide) (by decide)
 erw [e2]
 have fin:∀ (many:Int),1≤many→many≤wss.length→∃ (ns left:List Int) (o':Ob),fz wss.length ns∧Pen o' ∧
   gf [some (.r 0),some (.d (.tup (wss.map aQ))),some (.r (R.length+1)),some (.d (.int many))] (o2 :: (R++[.lst (L0.map D.int)]))=.ok (.d (.lst (ns.map D.int))) (o' :: (R++[.lst (left.map D.int)])):=by
  intro many m0 m1
  obtain ⟨acc,Q,e4,hl,o3,ns,left,hp3,rfl,rfl,hw,hlen,hmem,hnd⟩:=lS (show _=gf [some (.r 0),some (.d (.tup (wss.map aQ))),some (.r (R.length+1)),some (.d (.int many))] (o2 :: (R++[.lst (L0.map D.int)])) from rfl) (S1:=o2 :: (R++[.lst (L0.map D.int)])) (items:=(J_ many.toNat).map fun i=>Vl.d (.int (i:Nat))) (by walk_at "mm")
   (fun i acc Q=>∃ (o':Ob) (ns left:List Int),Pen o'∧acc=ns.map D.int∧Q=o' :: (R++[.lst (left.map D.int)])∧ns.length=i∧left.length+i=wss.length∧(∀ n,n∈ns++left→0≤n∧n < (wss.length:Int))∧(ns++left).Nodup) ⟨o2,[],L0,hp2,rfl,rfl,rfl,by omega,by simpa using dL,by simpa using nL⟩ (by
    rintro i z acc Q hz ⟨o',ns,left,hp',rfl,rfl,hw,hlen,hmem,hnd⟩ _
    obtain ⟨hi,rfl⟩:=fO hz
    obtain ⟨c,o3,c0,c1,hp3,e3⟩:=aN (R:=R++[.lst (left.map D.int),.lst (ns.map D.int)]) (m:=(left.length:Int)) hp' (by omega) (by omega)
    have hc:c.toNat < left.length:=by omega
    have hge:(left.map D.int)[c.toNat]?=some (.int left[c.toNat]):=by rw [Kv,JZ hc];rfl
    have pe:(left[c.toNat] :: left.eraseIdx c.toNat).Perm left:=kf left c.toNat hc
    have pa:((ns++[left[c.toNat]])++left.eraseIdx c.toNat).Perm (ns++left):=by
     rw [P_]
     exact Rt ns pe
    refine ⟨.int left[c.toNat],o3 :: (R++[.lst ((left.eraseIdx c.toNat).map D.int)]),?_,by simp,o3,ns++[left[c.toNat]],left.eraseIdx c.toNat,hp3,dw.symm,rfl,by simp [hw],?_,fun n hn=>hmem n (pa.mem_iff.mp hn),pa.nodup_iff.mpr hnd⟩
    ·walk_at "mx"
     erw [show (R++[Ob.lst (left.map D.int)]++[Ob.lst (ns.map D.int)])=R++[.lst (left.map D.int),.lst (ns.map D.int)] by simp]
     erw [o7 (xs:=left.map D.int) (by walk_at "mx"),J0]
     erw [e3]
     erw [HQ (by omega) hge]
     rw [qy]
     simp
    ·rw [P5 hc];omega)
  rw [e9] at hw hlen
  exact ⟨ns,left,o3,⟨fun n hn=>hmem n (LY _ hn),by omega,by omega,(OM.mp hnd).1⟩,hp3,e4⟩
 by_cases hb:0 < b
 ·erw [JW hb]
  erw [o7 (xs:=L0.map D.int) (by walk_at "mx"),J0,lL]
  obtain ⟨ns,left,o3,gn,hp3,e4⟩:=fin (wss.length:Int) (by omega) (by omega)
  erw [e4]
  refine ⟨ns,o3,gn,hp3,?_⟩
  rw [cv]
  simp [aQ]
 ·erw [H0 hb]
  obtain ⟨ns,left,o3,gn,hp3,e4⟩:=fin (1+a) (by omega) (by omega)
  erw [e4]
  refine ⟨ns,o3,gn,hp3,?_⟩
  rw [cv]
  simp [aQ]
theorem ints_get {ps:List Int} {i:Nat} {z:Vl} (h:((ps.map D.int).map Vl.d)[i]?=some z):∃ p,ps[i]?=some p∧z=.d (.int p):=by
 rw [Kv,Kv] at h
 cases q:ps[i]? with
 | none=>rw [q] at h;cases h
 | some p=>rw [q] at h;cases h;exact ⟨p,rfl,rfl⟩
theorem take_snoc {α:Type} {ps:List α} {i:Nat} {p:α} (h:ps[i]?=some p):ps.take (i+1)=ps.take i++[p]:=by
 rw [P8,h];rfl
theorem yf (e:S[n]?=some (.lst xs)):c_ [.r n] S=.ok (.d (.tup xs)) S:=by
 unfold c_
 dsimp only
 rw [qS e]
theorem ub {R:Sto} (hp:Pen o) (g:fT n m wss) (hn:n≤50) (hm:m≤50):∃ (w:Int) (o':Ob),(-9≤w∧w≤9)∧Pen o'∧dG [.r 0,.d (aX wss)] (o :: R)=.ok (.d (.int w)) (o' :: R):=by
 have g0:=g.pos
 have g1:=g.le
 unfold dG
 rw [dI]
 unfold jr
 obtain ⟨a,o1,a0,a1,hp1,e1⟩:=aN (R:=R) (m:=8) hp (by decide) (by decide)
 walk_at "mx"
 erw [e1]
 by_cases ha:a=0
 ·rw [JW ha]
  obtain ⟨b,o2,b0,b1,hp2,e2⟩:=aN (R:=R) (m:=19) hp1 (by decide) (by decide)
  walk_at "mx"
  erw [e2]
  exact ⟨b - 9,o2,by omega,hp2,by rw [cv,cj]⟩
 ·rw [H0 ha]
  obtain ⟨b,o2,b0,b1,hp2,e2⟩:=aN (R:=R) (m:=(wss.length:Int)) hp1 (by omega) (by omega)
  unfold aX
  walk_at "mx"
  erw [J0,e2]
  have hb:b.toNat < wss.length:=by omega
  have hat:atI (wss.map aQ) b=some (aQ wss[b.toNat]):=by
   obtain ⟨k,rfl⟩:=Nm b0
   exact bV (by rw [Kv,JZ (by simpa using hb)];rfl)
  have gw:=g.all _ (L5 hb)
  generalize wss[b.toNat]=ws at hat gw
  have w0:=gw.pos
  have w1:=gw.le
  erw [aY hat]
  obtain ⟨c,o3,c0,c1,hp3,e3⟩:=aN (R:=R) (m:=(ws.length:Int)) hp2 (by omega) (by omega)
  erw [show aQ ws=.tup (ws.map D.int) from rfl]
  erw [J0,e3]
  obtain ⟨v,ev,_⟩:=dj (ns:=ws) (i:=c) c0 c1
  rw [aY ev]
  obtain ⟨d,o4,d0,d1,hp4,e4⟩:=aN (R:=R) (m:=5) hp3 (by decide) (by decide)
  walk_at "mx"
  erw [e4]
  obtain ⟨u,eu,_⟩:=dj (ns:=[0,0,0,1,-1]) (i:=d) d0 (by simpa using d1)
  erw [eT (show atI [D.int 0,D.int 0,D.int 0,D.int 1,D.int (-1)] d=some (.int u) from eu)]
  refine ⟨_,o4,?_,hp4,by rw [cv,cj]⟩
  split<;>split at *<;>omega
abbrev Tri:=Int×Int×Int
def bY (t:Tri):D:=.tup [.int t.1,.int t.2.1,.int t.2.2]
structure wC (bs:List Tri):Prop where
 le:bs.length≤4
 rise:(bs.map (·.1)).Pairwise (· < ·)
 lim:∀ b∈bs,(-9≤b.1∧b.1≤9)∧0≤b.2.1∧b.2.1≤b.2.2∧b.2.2≤4
theorem yc {o:Ob} {R:Sto} {wss:List (List Int)} {n m:Int} (hp:Pen o) (g:fT n m wss) (hn:n≤50) (hm:m≤50):∃ (bs:List Tri) (o':Ob),wC bs∧Pen o'∧iw [.r 0,.d (aX wss)] (o :: R)=.ok (.d (.tup (bs.map bY))) (o' :: R):=by
 unfold iw
 rw [dI]
 unfold m_
 walk_at "mx"
 obtain ⟨a,o1,a0,a1,hp1,e1⟩:=aN (R:=R++[.lst []]) (m:=5) hp (by decide) (by decide)
 obtain ⟨τ',S',e2,o2,ws,x3,x4,hp2,rfl,rfl,nd,lim,le⟩:=eD (show _=ng [some (.r 0),some (.d (aX wss)),some (.r (R.length+1)),none,none,none,none] (o :: (R++[.lst []])) from rfl)
  (S1:=o1 :: (R++[.lst []])) (gd:=none) (items:=(J_ a.toNat).map fun i=>Vl.d (.int (i:Nat))) (by
   walk_at "mx"
   rw [e1]
   walk_at "mm")
  (fun i τ S=>∃ (o':Ob) (ws:List Int) (x3 x4:Option Vl),Pen o'∧τ=[some (.r 0),some (.d (aX wss)),some (.r (R.length+1)),x3,x4,none,none]∧S=o' :: (R++[.lst (ws.map D.int)])∧ws.Nodup∧(∀ w∈ws,-9≤w∧w≤9)∧ws.length≤i) ⟨o1,[],none,none,hp1,rfl,rfl,Mz,fun _ h=>(by cases h),J3 0⟩ (by
   rintro i z τ S hz ⟨o',ws,x3,x4,hp',rfl,rfl,nd,lim,le⟩
   obtain ⟨hi,rfl⟩:=fO hz
   obtain ⟨w,o3,hw,hp3,e3⟩:=ub (R:=R++[.lst (ws.map D.int)]) hp' g hn hm
   by_cases hin:w∈ws
   ·refine ⟨_,_,.nx,_,_,by walk_at "mx";rfl,by
     walk_at "mx"
     erw [e3]
     erw [rQ (ns:=ws) dD,JW hin]
     rfl,.inl rfl,Kp,o3,ws,_,_,hp3,rfl,rfl,nd,lim,by omega⟩
   ·refine ⟨_,_,.nx,_,_,by walk_at "mx";rfl,by
     walk_at "mx"
     erw [e3]
     erw [rQ (ns:=ws) dD,H0 hin]
     erw [oB (by rw [J0];omega)]
     rfl,.inl rfl,Kp,o3,ws++[w],_,_,hp3,rfl,by rw [dw],?_,?_,by simp;omega⟩
    ·exact OM.mpr ⟨nd,by simp,fun x hx y hy=>by rw [Ka.mp hy];exact fun e=>hin (e ▸ hx)⟩
    ·intro x hx
     rcases Kz.mp hx with q | q
     ·exact lim x q
     ·rw [Ka.mp q];exact hw)
 rw [e9] at le
 erw [e2]
 obtain ⟨τ',S',e3,o3,bs,x4',x6,hp3,rfl,rfl,hb1,hb2⟩:=eD (show _=mX [some (.r 0),some (.d (aX wss)),some (.r (R.length+1)),x3,x4,some (.r ((R++[Ob.lst (ws.map D.int)]).length+1)),none] (o2 :: (R++[Ob.lst (ws.map D.int)]++[Ob.lst []])) from rfl)
  (S1:=o2 :: (R++[Ob.lst (ws.map D.int)]++[Ob.lst []])) (gd:=none) (items:=((sortI ws).map D.int).map Vl.d) (by
   walk_at "mx"
   rw [uF (ns:=ws) (by simp) (by omega)]
   walk_at "mx")
  (fun i τ S=>∃ (o':Ob) (bs:List Tri) (x4 x6:Option Vl),Pen o'∧τ=[some (.r 0),some (.d (aX wss)),some (.r (R.length+1)),x3,x4,some (.r ((R++[Ob.lst (ws.map D.int)]).length+1)),x6]∧S=o' :: (R++[Ob.lst (ws.map D.int)]++[Ob.lst (bs.map bY)])∧bs.map (·.1)=(sortI ws).take i∧∀ b∈bs,0≤b.2.1∧b.2.1≤b.2.2∧b.2.2≤4) ⟨o2,[],x4,none,hp2,rfl,rfl,rfl,fun _ h=>(by cases h)⟩ (by
   rintro i z τ S hz ⟨o',bs,x4,x6,hp',rfl,rfl,hb1,hb2⟩
   obtain ⟨w,ew,rfl⟩:=ints_get hz
   have hi:=(J5.mp ew).1
   rw [gR] at hi
   have hlb:bs.length≤4:=by
    have:=LZ Tp hb1
    simp only [J0,KS,gR] at this
    omega
   generalize hR:R++[Ob.lst (ws.map D.int)]=R'
   obtain ⟨b,o3,b0,b1,hp3,e3⟩:=aN (R:=R'++[.lst (bs.map bY)]) (m:=5) hp' (by decide) (by decide)
   obtain ⟨c,o4,c0,c1,hp4,e4⟩:=aN (R:=R'++[.lst (bs.map bY)]) (m:=6) hp3 (by decide) (by decide)
   obtain ⟨d,o5,d0,d1,hp5,e5⟩:=aN (R:=R'++[.lst (bs.map bY)]) (m:=5) hp4 (by decide) (by decide)
   obtain ⟨e,o6,f0,f1,hp6,e6⟩:=aN (R:=R'++[.lst (bs.map bY)]) (m:=5) hp5 (by decide) (by decide)
   obtain ⟨low,el,ml⟩:=dj (ns:=[0,0,1,1,2,b]) (i:=c) c0 (by simpa using c1)
   obtain ⟨up,eu,mu⟩:=dj (ns:=[0,0,1,4,d]) (i:=e) f0 (by simpa using f1)
   have hlow:0≤low∧low≤4:=by
    simp only [J1,Kw,LR] at ml
    omega
   have hup:0≤up:=by
    simp only [J1,Kw,LR] at mu
    omega
   refine ⟨_,_,.nx,_,_,by walk_at "mx";rfl,by
    walk_at "mx"
    erw [e3]
    erw [e4]
    erw [eT (show atI [D.int 0,D.int 0,D.int 1,D.int 1,D.int 2,D.int b] c=some (.int low) from el)]
    erw [e5]
    erw [e6]
    erw [eT (show atI [D.int 0,D.int 0,D.int 1,D.int 4,D.int d] e=some (.int up) from eu)]
    erw [oB (by rw [J0];omega)]
    rfl,.inl rfl,Kp,o6,bs++[(w,low,if low+up < 4 then low+up else 4)],some (.d (.int w)),some (.d (.int low)),hp6,rfl,by rw [dw];rfl,?_,?_⟩
   ·rw [dw,hb1,take_snoc ew]
   ·intro x hx
    rcases Kz.mp hx with q | q
    ·exact hb2 x q
    ·rw [Ka.mp q]
     refine ⟨hlow.1,?_,?_⟩<;>dsimp only<;>split<;>omega)
 erw [e3]
 rw [show ((List.map D.int (sortI ws)).map Vl.d).length=(sortI ws).length by simp,Nj] at hb1
 erw [show c_ [.r ((R++[Ob.lst (ws.map D.int)]).length+1)] (o3 :: (R++[Ob.lst (ws.map D.int)]++[Ob.lst (bs.map bY)]))=.ok (.d (.tup (bs.map bY))) (o3 :: (R++[Ob.lst (ws.map D.int)]++[Ob.lst (bs.map bY)])) from yf (by simp)]
 refine ⟨bs,o3,⟨?_,?_,?_⟩,hp3,?_⟩
 ·have:=LZ Tp hb1
  simp only [J0,gR] at this
  omega
 ·rw [hb1];exact rS nd
 ·intro b hb
  refine ⟨lim b.1 ?_,hb2 b hb⟩
  rw [← qk,← hb1]
  exact La.mpr ⟨b,hb,rfl⟩
 ·rw [cv]
  simp
structure vd (ds:List Tri):Prop where
 le:ds.length≤12
 nd:ds.Nodup
 lim:∀ d∈ds,(0≤d.1∧d.1≤3)∧(-9≤d.2.1∧d.2.1≤9)∧0≤d.2.2∧d.2.2≤3
theorem Cg (a b:Tri):D.eqv (bY a) (bY b)=decide (a=b):=by
 obtain ⟨a1,a2,a3⟩:=a
 obtain ⟨b1,b2,b3⟩:=b
 simp only [bY,D.eqv,D.bQ,U3]
 rw [Lm]
 simp only [Ko,Lv,M8,Prod.mk.injEq]
theorem n5:∀ ds:List Tri,D.bK (ds.map bY)≤1
 | []=>by simp [D.bK]
 | d :: ds=>by
  have:=n5 ds
  rw [Kx,D.bK,show D.depth (bY d)=1 from rfl]
  omega
theorem CK (z:Tri) (ds:List Tri):inD (bY z) (ds.map bY)=decide (z∈ds):=by
 unfold inD
 rw [SJ,Lm,OU,M8]
 constructor
 ·rintro ⟨x,hx,e⟩
  have e':D.eqv (bY x) (bY z)=true:=e
  rw [Cg,M8] at e'
  rw [← e'];exact hx
 ·intro h
  exact ⟨z,h,by show D.eqv (bY z) (bY z)=true;exact D.eqv_refl _⟩
theorem yB {ds:List Tri} (e:S[n]?=some (.lst (ds.map bY))):eH (.d (bY z)) (.r n) S=.ok (.d (.bl (!decide (z∈ds)))) S:=by
 have hd:=n5 ds
 unfold eH inX
 dsimp only
 rw [qS e]
 dsimp only
 rw [show D.flat (bY z)=false from rfl,J9 (by simp),HL e]
 dsimp only
 rw [J2 (by omega),CK]
theorem Ax {o:Ob} {R:Sto} {wss:List (List Int)} {n m:Int} (hp:Pen o) (g:fT n m wss) (hn:n≤50) (hm:m≤50):∃ (ds:List Tri) (o':Ob),vd ds∧Pen o'∧jo [.r 0,.d (aX wss)] (o :: R)=.ok (.d (.tup (ds.map bY))) (o' :: R):=by
 unfold jo
 rw [dI]
 unfold oh
 obtain ⟨s,o0,s0,s1,hp0,e0⟩:=aN (R:=R) (m:=3) hp (by decide) (by decide)
 walk_at "mx"
 erw [e0]
 obtain ⟨a,o1,a0,a1,hp1,e1⟩:=aN (R:=R++[.lst []]) (m:=13) hp0 (by decide) (by decide)
 obtain ⟨τ',S',e2,o2,ds,x4,x5,x6,hp2,rfl,rfl,nd,lim,le⟩:=eD (show _=oK [some (.r 0),some (.d (aX wss)),some (.d (.int (2+s))),some (.r (R.length+1)),none,none,none] (o0 :: (R++[.lst []])) from rfl)
  (S1:=o1 :: (R++[.lst []])) (gd:=none) (items:=(J_ a.toNat).map fun i=>Vl.d (.int (i:Nat))) (by
   walk_at "mx"
   rw [e1]
   walk_at "mm")
  (fun i τ S=>∃ (o':Ob) (ds:List Tri) (x4 x5 x6:Option Vl),Pen o'∧τ=[some (.r 0),some (.d (aX wss)),some (.d (.int (2+s))),some (.r (R.length+1)),x4,x5,x6]∧S=o' :: (R++[.lst (ds.map bY)])∧ds.Nodup∧(∀ d∈ds,(0≤d.1∧d.1≤3)∧(-9≤d.2.1∧d.2.1≤9)∧0≤d.2.2∧d.2.2≤3)∧ds.length≤i) ⟨o1,[],none,none,none,hp1,rfl,rfl,Mz,fun _ h=>(by cases h),J3 0⟩ (by
   rintro i z τ S hz ⟨o',ds,x4,x5,x6,hp',rfl,rfl,nd,lim,le⟩
   obtain ⟨hi,rfl⟩:=fO hz
   obtain ⟨q,o3,q0,q1,hp3,e3⟩:=aN (R:=R++[.lst (ds.map bY)]) (m:=2+s) hp' (by omega) (by omega)
   obtain ⟨w,o4,hw,hp4,e4⟩:=ub (R:=R++[.lst (ds.map bY)]) hp3 g hn hm
   obtain ⟨b,o5,b0,b1,hp5,e5⟩:=aN (R:=R++[.lst (ds.map bY)]) (m:=2+s) hp4 (by omega) (by omega)
   obtain ⟨c,o6,c0,c1,hp6,e6⟩:=aN (R:=R++[.lst (ds.map bY)]) (m:=2) hp5 (by decide) (by decide)
   have hq0:0≤(q+1) % (2+s):=MZ _ (by omega)
   have hq1:(q+1) % (2+s) < 2+s:=Mx _ (by omega)
   obtain ⟨p,ep,mp⟩:=dj (ns:=[b,(q+1) % (2+s)]) (i:=c) c0 (by simpa using c1)
   have hp3':0≤p∧p≤3:=by
    simp only [J1,Kw,LR] at mp
    omega
   have pre:∀ (k:XS),True:=fun _=>Kp
   by_cases hin:((q,w,p):Tri)∈ds
   ·refine ⟨_,_,.nx,_,_,by walk_at "mx";rfl,by
     walk_at "mx"
     erw [e3]
     erw [e4]
     rw [e5]
     walk_at "mm"
     erw [e6]
     erw [eT (show atI [D.int b,D.int ((q+1) % (2+s))] c=some (.int p) from ep)]
     erw [show D.tup [D.int q,D.int w,D.int p]=bY (q,w,p) from rfl,yB (ds:=ds) dD,JW hin]
     rfl,.inl rfl,Kp,o6,ds,_,_,_,hp6,rfl,rfl,nd,lim,by omega⟩
   ·refine ⟨_,_,.nx,_,_,by walk_at "mx";rfl,by
     walk_at "mx"
     erw [e3]
     erw [e4]
     rw [e5]
     walk_at "mm"
     erw [e6]
     erw [eT (show atI [D.int b,D.int ((q+1) % (2+s))] c=some (.int p) from ep)]
     erw [show D.tup [D.int q,D.int w,D.int p]=bY (q,w,p) from rfl,yB (ds:=ds) dD,H0 hin]
     erw [oB (by rw [J0];omega)]
     rfl,.inl rfl,Kp,o6,ds++[(q,w,p)],_,_,_,hp6,rfl,by rw [dw],?_,?_,by simp;omega⟩
    ·exact OM.mpr ⟨nd,by simp,fun x hx y hy=>by rw [Ka.mp hy];exact fun e=>hin (e ▸ hx)⟩
    ·intro x hx
     rcases Kz.mp hx with z | z
     ·exact lim x z
     ·rw [Ka.mp z]
      exact ⟨by dsimp only;omega,hw,hp3'⟩)
 rw [e9] at le
 erw [e2]
 erw [yf (xs:=ds.map bY) (by simp)]
 refine ⟨ds,o2,⟨by omega,nd,lim⟩,hp2,?_⟩
 rw [cv]
 simp
inductive Wi where
 | unl (ns:List Int) | man (ns:List Int) (bs:List Tri) | sum (ns ws:List Int) (lo hi:Int) | row (ns:List Int) (ds:List Tri) (es:List Int) | han (ns ls:List Int)
def Wi.names:Wi→List Int
 | .unl ns=>ns
 | .man ns _=>ns
 | .sum ns _ _ _=>ns
 | .row ns _ _=>ns
 | .han ns _=>ns
def wiD:Wi→D
 | .unl ns=>.tup [.str "unlike",aQ ns]
 | .man ns bs=>.tup [.str "many",aQ ns,.tup (bs.map bY)]
 | .sum ns ws lo hi=>.tup [.str "sum",aQ ns,aQ ws,.int lo,.int hi]
 | .row ns ds es=>.tup [.str "row",aQ ns,.tup (ds.map bY),aQ es]
 | .han ns ls=>.tup [.str "hand",aQ ns,aQ ls]
def nT (k:Nat):Wi→Prop
 | .unl ns=>fz k ns
 | .man ns bs=>fz k ns∧wC bs
 | .sum ns ws lo hi=>fz k ns∧ws.length=ns.length∧(∀ w∈ws,-3≤w∧w≤3)∧(-99≤lo∧lo≤hi∧hi≤99)
 | .row ns ds es=>fz k ns∧vd ds∧es.Pairwise (· < ·)∧(∀ e∈es,0≤e∧e≤3)∧es.length≤4
 | .han ns ls=>fz k ns∧ls.length=ns.length∧∀ l∈ls,1≤l∧l≤4
def Wi.kind:Wi→Int
 | .unl _=>0
 | .man _ _=>1
 | .sum _ _ _ _=>2
 | .row _ _ _=>3
 | .han _ _=>4
theorem Aa {wss:List (List Int)} {p:Int} (h0:0≤p) (h1:p < wss.length):atI (wss.map aQ) p=some (aQ (wss.getD p.toNat [])):=by
 obtain ⟨k,rfl⟩:=Nm h0
 have hk:k < wss.length:=by omega
 exact bV (by rw [Kv,JZ hk,Lc,Kd,JZ hk];rfl)
theorem yk {wss:List (List Int)} {p:Int} (h0:0≤p) (h1:p < wss.length):wss.getD p.toNat []∈wss:=by
 have hk:p.toNat < wss.length:=by omega
 rw [Kd,JZ hk]
 exact L5 hk
theorem zW {xs ys:List Int} {i:Nat} {z:Vl} (h:(fJ (xs.map D.int) (ys.map D.int))[i]?=some z):∃ x y,xs[i]?=some x∧ys[i]?=some y∧z=.d (.tup [.int x,.int y]):=by
 obtain ⟨a,b,e1,e2,rfl⟩:=nE h
 rw [Kv] at e1 e2
 cases q1:xs[i]? with
 | none=>rw [q1] at e1;cases e1
 | some x=>
  cases q2:ys[i]? with
  | none=>rw [q2] at e2;cases e2
  | some y=>
   rw [q1] at e1;rw [q2] at e2
   cases e1;cases e2
   exact ⟨x,y,rfl,rfl,rfl⟩
theorem B0 {o:Ob} {R:Sto} {wss:List (List Int)} {n m kind:Int} (hp:Pen o) (g:fT n m wss) (hn:n≤50) (hm:m≤50) (k0:0≤kind) (k1:kind < 5):∃ (wi:Wi) (o':Ob),nT wss.length wi∧wi.kind=kind∧Pen o'∧gJ [.r 0,.d (aX wss),.d (.int kind)] (o :: R)=.ok (.d (wiD wi)) (o' :: R):=by
 have g0:=g.pos
 have g1:=g.le
 obtain ⟨ns,o1,gn,hp1,e1⟩:=qG (R:=R) (wss:=wss) hp g0 (by omega)
 have gl:=gn.le
 unfold gJ
 rw [eO]
 unfold l5
 walk_at "mx"
 erw [e1]
 by_cases h0:kind=0
 ·erw [JW h0]
  exact ⟨.unl ns,o1,gn,h0.symm,hp1,by rw [cv,cj];rfl⟩
 erw [H0 h0]
 by_cases h1:kind=1
 ·erw [JW h1]
  obtain ⟨bs,o2,gb,hp2,e2⟩:=yc (R:=R) hp1 g hn hm
  erw [e2]
  exact ⟨.man ns bs,o2,⟨gn,gb⟩,h1.symm,hp2,by rw [cv,cj];rfl⟩
 erw [H0 h1]
 by_cases h2:kind=2
 ·erw [JW h2]
  obtain ⟨acc,Q,e4,hl,o3,ws,hp3,rfl,rfl,hw,hlim⟩:=lS (show _=lW [some (.r 0),some (.d (aX wss)),some (.d (.int kind)),some (.d (aQ ns)),none,none,none,none,none,none,none] (o1 :: R) from rfl) (S1:=o1 :: R) (items:=(ns.map D.int).map Vl.d) (by unfold aQ;walk_at "mx")
   (fun i acc Q=>∃ (o':Ob) (ws:List Int),Pen o'∧acc=ws.map D.int∧Q=o' :: R∧ws.length=i∧∀ w∈ws,-3≤w∧w≤3) ⟨o1,[],hp1,rfl,rfl,rfl,fun _ h=>by cases h⟩ (by
    rintro i z acc Q hz ⟨o',ws,hp',rfl,rfl,hw,hlim⟩ _
    obtain ⟨c,o3,c0,c1,hp3,e3⟩:=aN (R:=R++[.lst (ws.map D.int)]) (m:=7) hp' (by decide) (by decide)
    refine ⟨.int (c - 3),o3 :: R,?_,rfl,o3,ws++[c - 3],hp3,dw.symm,rfl,by simp [hw],fun w hw=>?_⟩
    ·walk_at "mx"
     erw [e3]
    ·rcases Kz.mp hw with q | q
     ·exact hlim w q
     ·rw [Ka.mp q];omega)
  have hw':ws.length=ns.length:=by simpa using hw
  erw [e4]
  obtain ⟨τ',S',e5,o5,tot,x6,x7,hp5,rfl,rfl⟩:=eD (show _=ma [some (.r 0),some (.d (aX wss)),some (.d (.int kind)),some (.d (aQ ns)),some (.d (.tup (ws.map D.int))),some (.d (.int 0)),none,none,none,none,none] (o3 :: R) from rfl)
   (S1:=o3 :: R) (gd:=none) (items:=fJ (ns.map D.int) (ws.map D.int)) (by unfold aQ;walk_at "mx")
   (fun i τ S=>∃ (o':Ob) (tot:Int) (x6 x7:Option Vl),Pen o'∧τ=[some (.r 0),some (.d (aX wss)),some (.d (.int kind)),some (.d (aQ ns)),some (.d (.tup (ws.map D.int))),some (.d (.int tot)),x6,x7,none,none,none]∧S=o' :: R) ⟨o3,0,none,none,hp3,rfl,rfl⟩ (by
    rintro i z τ S hz ⟨o',tot,x6,x7,hp',rfl,rfl⟩
    obtain ⟨nm,wt,en,ew,rfl⟩:=zW hz
    obtain ⟨p0,p1⟩:=gn.dom nm (K0 en)
    have gw:=g.all _ (yk p0 p1)
    have hat:=Aa p0 p1
    generalize wss.getD nm.toNat []=vs at gw hat
    have w0:=gw.pos
    have w1:=gw.le
    obtain ⟨c,o4,c0,c1,hp4,e4⟩:=aN (R:=R) (m:=(vs.length:Int)) hp' (by omega) (by omega)
    obtain ⟨v,ev,mv⟩:=dj (ns:=vs) (i:=c) c0 c1
    have lv:=gw.lim v mv
    refine ⟨_,_,.nx,_,_,by walk_at "mx";rfl,by
     walk_at "mx"
     unfold aX
     erw [aY hat]
     erw [aY hat,show aQ vs=.tup (vs.map D.int) from rfl]
     erw [J0,e4]
     erw [aY ev]
     erw [qI (qV (by omega) (by omega))]
     rfl,.inl rfl,Kp,o4,_,_,_,hp4,rfl,rfl⟩)
  erw [e5]
  obtain ⟨a,oa,a0,a1,hpa,ea⟩:=aN (R:=R) (m:=5) hp5 (by decide) (by decide)
  obtain ⟨u,eu,_⟩:=dj (ns:=[0,0,1,-4,9]) (i:=a) a0 (by simpa using a1)
  erw [ea]
  erw [eT (show atI [D.int 0,D.int 0,D.int 1,D.int (-4),D.int 9] a=some (.int u) from eu)]
  generalize hlo:(if (if tot+u < 99 then tot+u else 99) > -99 then (if tot+u < 99 then tot+u else 99) else -99)=lo
  have blo:-99≤lo∧lo≤99:=by
   rw [← hlo]
   split<;>split at *<;>omega
  obtain ⟨b,ob,b0,b1,hpb,eb⟩:=aN (R:=R) (m:=5) hpa (by decide) (by decide)
  obtain ⟨v,ev,mv⟩:=dj (ns:=[0,0,1,2,7]) (i:=b) b0 (by simpa using b1)
  have hv:0≤v:=by
   simp only [J1,Kw,LR] at mv
   omega
  erw [eb]
  erw [eT (show atI [D.int 0,D.int 0,D.int 1,D.int 2,D.int 7] b=some (.int v) from ev)]
  generalize hhi:(if lo+v < 99 then lo+v else 99)=hi
  have bhi:lo≤hi∧hi≤99:=by
   rw [← hhi]
   split<;>omega
  obtain ⟨c,oc,c0,c1,hpc,ec⟩:=aN (R:=R) (m:=6) hpb (by decide) (by decide)
  erw [ec]
  by_cases hc:c=0
  ·erw [JW hc]
   obtain ⟨d,od,d0,d1,hpd,ed⟩:=aN (R:=R) (m:=199) hpc (by decide) (by decide)
   erw [ed]
   obtain ⟨e,oe,f0,f1,hpe,ee⟩:=aN (R:=R) (m:=100 - (d - 99)) hpd (by omega) (by omega)
   erw [ee]
   exact ⟨.sum ns ws (d - 99) (d - 99+e),oe,⟨gn,hw',hlim,by omega⟩,h2.symm,hpe,by rw [cv,cj];rfl⟩
  ·erw [H0 hc]
   exact ⟨.sum ns ws lo hi,oc,⟨gn,hw',hlim,by omega⟩,h2.symm,hpc,by rw [cv,cj];rfl⟩
 erw [H0 h2]
 by_cases h3:kind=3
 ·erw [JW h3]
  obtain ⟨acc,Q,e4,hl,o3,es,hp3,rfl,rfl,hr,hlim,hle⟩:=Bx (show _=lF [some (.r 0),some (.d (aX wss)),some (.d (.int kind)),some (.d (aQ ns)),none,none,none,none,none,none,none] (o1 :: R) from rfl) (S1:=o1 :: R) (items:=(J_ 4).map fun i=>Vl.d (.int (i:Nat))) (by walk_at "mm";rfl)
   (fun i acc Q=>∃ (o':Ob) (es:List Int),Pen o'∧acc=es.map D.int∧Q=o' :: R∧es.Pairwise (· < ·)∧(∀ e∈es,0≤e∧e < i)∧es.length≤i) ⟨o1,[],hp1,rfl,rfl,.nil,fun _ h=>(by cases h),J3 0⟩ (by
    rintro i z acc Q hz ⟨o',es,hp',rfl,rfl,hr,hlim,hle⟩ _
    obtain ⟨hi,rfl⟩:=fO hz
    obtain ⟨c,o3,c0,c1,hp3,e3⟩:=aN (R:=R++[.lst (es.map D.int)]) (m:=3) hp' (by decide) (by decide)
    refine ⟨decide (c=0),o3 :: R,?_,rfl,fun _=>⟨.int i,o3 :: R,by walk_at "mx",rfl,o3,es++[(i:Int)],hp3,dw.symm,rfl,?_,?_,by simp;omega⟩,fun _=>⟨o3,es,hp3,rfl,rfl,hr,fun e he=>by have:=hlim e he;omega,by omega⟩⟩
    ·walk_at "mx"
     erw [e3]
    ·refine O9.mpr ⟨hr,by simp,fun x hx y hy=>?_⟩
     rw [Ka.mp hy]
     exact (hlim x hx).2
    ·intro e he
     rcases Kz.mp he with q | q
     ·have:=hlim e q;omega
     ·rw [Ka.mp q];omega)
  rw [e9] at hlim hle
  erw [e4]
  obtain ⟨ds,o5,gd,hp5,e5⟩:=Ax (R:=R) hp3 g hn hm
  erw [e5]
  exact ⟨.row ns ds es,o5,⟨gn,gd,hr,fun e he=>by have:=hlim e he;omega,hle⟩,h3.symm,hp5,by rw [cv,cj];rfl⟩
 erw [H0 h3]
 obtain ⟨acc,Q,e4,hl,o3,ls,hp3,rfl,rfl,hw,hlim⟩:=lS (show _=kY [some (.r 0),some (.d (aX wss)),some (.d (.int kind)),some (.d (aQ ns)),none,none,none,none,none,none,none] (o1 :: R) from rfl) (S1:=o1 :: R) (items:=(ns.map D.int).map Vl.d) (by unfold aQ;walk_at "mx")
  (fun i acc Q=>∃ (o':Ob) (ls:List Int),Pen o'∧acc=ls.map D.int∧Q=o' :: R∧ls.length=i∧∀ l∈ls,1≤l∧l≤4) ⟨o1,[],hp1,rfl,rfl,rfl,fun _ h=>by cases h⟩ (by
   rintro i z acc Q hz ⟨o',ls,hp',rfl,rfl,hw,hlim⟩ _
   obtain ⟨b,o2,b0,b1,hp2,e2⟩:=aN (R:=R++[.lst (ls.map D.int)]) (m:=2) hp' (by decide) (by decide)
   obtain ⟨u,eu,mu⟩:=dj (ns:=[4,2]) (i:=b) b0 (by simpa using b1)
   have hu:2≤u∧u≤4:=by
    simp only [J1,Kw,LR] at mu
    omega
   obtain ⟨c,o3,c0,c1,hp3,e3⟩:=aN (R:=R++[.lst (ls.map D.int)]) (m:=u) hp2 (by omega) (by omega)
   refine ⟨.int (1+c),o3 :: R,?_,rfl,o3,ls++[1+c],hp3,dw.symm,rfl,by simp [hw],fun l hl=>?_⟩
   ·walk_at "mx"
    erw [e2]
    erw [eT (show atI [D.int 4,D.int 2] b=some (.int u) from eu)]
    erw [e3]
   ·rcases Kz.mp hl with q | q
    ·exact hlim l q
    ·rw [Ka.mp q];omega)
 have hw':ls.length=ns.length:=by simpa using hw
 erw [e4]
 exact ⟨.han ns ls,o3,⟨gn,hw',hlim⟩,(by show (4:Int)=kind;omega),hp3,by rw [cv,cj];rfl⟩
theorem xG {R:Sto} (hp:Pen o) (g:fT n m wss) (hn:n≤50) (hm:m≤50) (m0:0≤most) (m1:most≤50):∃ (wis:List Wi) (o':Ob),(∀ wi∈wis,nT wss.length wi)∧(wis.length:Int)≤most∧Pen o'∧eY [.r 0,.d (aX wss),.d (.int most)] (o :: R)=.ok (.d (.lst (wis.map wiD))) (o' :: R):=by
 unfold eY
 rw [eO]
 unfold mQ
 obtain ⟨a,o1,a0,a1,hp1,e1⟩:=aN (R:=R) (m:=most+1) hp (by omega) (by omega)
 obtain ⟨acc,Q,e4,hl,o3,wis,hp3,rfl,rfl,hw,hg⟩:=lS (show _=m9 [some (.r 0),some (.d (aX wss)),some (.d (.int most))] (o :: R) from rfl) (S1:=o1 :: R) (items:=(J_ a.toNat).map fun i=>Vl.d (.int (i:Nat))) (by
   walk_at "mx"
   rw [e1]
   walk_at "mm")
  (fun i acc Q=>∃ (o':Ob) (wis:List Wi),Pen o'∧acc=wis.map wiD∧Q=o' :: R∧wis.length=i∧∀ wi∈wis,nT wss.length wi) ⟨o1,[],hp1,rfl,rfl,rfl,fun _ h=>by cases h⟩ (by
   rintro i z acc Q hz ⟨o',wis,hp',rfl,rfl,hw,hg⟩ _
   obtain ⟨c,o2,c0,c1,hp2,e2⟩:=aN (R:=R++[.lst (wis.map wiD)]) (m:=5) hp' (by decide) (by decide)
   obtain ⟨wi,o3,gw,_,hp3,e3⟩:=B0 (R:=R++[.lst (wis.map wiD)]) (kind:=c) hp2 g hn hm c0 c1
   refine ⟨wiD wi,o3 :: R,?_,rfl,o3,wis++[wi],hp3,dw.symm,rfl,by simp [hw],fun l hl=>?_⟩
   ·walk_at "mx"
    erw [e2]
    erw [e3]
   ·rcases Kz.mp hl with q | q
    ·exact hg l q
    ·rw [Ka.mp q];exact gw)
 rw [e9] at hw
 walk_at "mx"
 erw [e4]
 exact ⟨wis,o3,hg,by omega,hp3,by rw [cv,cj]⟩
theorem cS:isT "tuple" (.tup xs)=true:=rfl
theorem Cm {ns:List Int} (h:∀ k,k+1 < ns.length→ns.getD k 0 < ns.getD (k+1) 0):ns.Pairwise (· < ·):=by
 rw [MA]
 have key:∀ d i,(hd:i+d+1 < ns.length)→ns.getD i 0 < ns.getD (i+d+1) 0:=by
  intro d
  induction d with
  | zero=>intro i hd;exact h i hd
  | succ d ih=>
   intro i hd
   have a:=ih i (by omega)
   have b:=h (i+d+1) (by omega)
   rw [show i+(d+1)+1=i+d+1+1 by omega]
   omega
 intro i j hi hj hij
 have:=key (j - i - 1) i (by omega)
 rw [show i+(j - i - 1)+1=j by omega,Kd,Kd,JZ hi,JZ hj] at this
 simpa using this
theorem BP {ns:List Int} (h:ns.Pairwise (· < ·)) (hk:k+1 < ns.length):ns.getD k 0 < ns.getD (k+1) 0:=by
 rw [MA] at h
 have:=h k (k+1) (by omega) hk (by omega)
 rw [Kd,Kd,JZ hk,JZ (by omega)]
 simpa using this
theorem tF {ns:List Int}:((J_ (ns.length - 1)).all fun k=>decide (ns.getD k 0 < ns.getD (k+1) 0))=decide (ns.Pairwise (· < ·)):=by
 rw [Lm,Mv,PN]
 constructor
 ·intro h
  exact Cm fun k hk=>by simpa using h k (Lb.mpr (by omega))
 ·intro h k hk
  have:=Lb.mp hk
  exact JW (BP h (by omega))
def nbL (ns:List Int):Vl→D
 | .d (.int j)=>.bl (decide (ns.getD (j.toNat - 1) 0 < ns.getD j.toNat 0))
 | _=>.non
theorem vX {ns:List Int} (h:i < ns.length):atI (ns.map D.int) (i:Int)=some (.int (ns.getD i 0)):=bV (by rw [Kv,JZ h,Kd,JZ h];rfl)
theorem kQ {ns:List Int} (h:ns.length≤1000):cQ [.d (aQ ns)] S=.ok (.d (.bl (decide (ns.Pairwise (· < ·))))) S:=by
 unfold cQ
 rw [bw]
 unfold hZ aQ
 walk_at "mx"
 have key:dY [some (.d (.tup (ns.map D.int)))] S=.ok (.d (.lst ((J_ (ns.length - 1)).map fun k=>.bl (decide (ns.getD k 0 < ns.getD (k+1) 0))))) S:=by
  unfold dY
  rw [sX (items:=(J_ ((ns.length:Int) - 1).toNat).map fun k=>Vl.d (.int (1+(k:Nat)))) (S1:=S) (by walk_at "mx";rw [J0,vI (by omega)]) (nbL ns) (by
   intro z hz S
   obtain ⟨k,hk,rfl⟩:=La.mp hz
   have hk:=Lb.mp hk
   walk_at "mx"
   erw [show (1:Int)+(k:Nat) - 1=(k:Nat) by omega,show (1:Int)+(k:Nat)=((k+1:Nat):Int) by omega,aY (vX (by omega))]
   erw [aY (vX (by omega))]
   rfl)]
  rw [L6,show ((ns.length:Int) - 1).toNat=ns.length - 1 by omega]
  congr 3
  refine Pj fun k hk=>?_
  show nbL ns (.d (.int (1+(k:Nat))))=_
  rw [show (1:Int)+(k:Nat)=((k+1:Nat):Int) by omega]
  rfl
 erw [key]
 erw [iV,tF]
 rw [ao]
def cX1 (F:XF) (r:R (List Vl)):R Vl:=r.bind fun us S1=>F us S1
theorem ku:dZ F as τ S=cX1 F (as τ S):=ak rfl
theorem qM:cX1 F (.ok us S)=F us S:=ak rfl
def rz1 (c:Str) (r:R Vl):R (Fl×Nv):=r.bind fun _ S1=>.ex c [] S1
theorem kz:mf c a τ S=rz1 c (a τ S):=ak rfl
theorem qX:rz1 c (.ok z S)=.ex c [] S:=ak rfl
theorem n_:ex1 (.ex c xs S) τ=.ex c xs S:=ak rfl
theorem qR:sq1 (.ex c xs S) b=.ex c xs S:=ak rfl
theorem oV:as1 (.ex c xs S) g τ=.ex c xs S:=ak rfl
theorem mq:leave S (.ex c xs S)=.ex c xs S:=by
 show R.ex c xs (S.take S.length)=_
 rw [Nj]
theorem mD:leave S (.ok (.nx,τ) S)=.ok (.d .non) S:=by rw [zC,su,Nj]
def tq1 (cs:List Str) (len iy:Nat) (r:R (Fl×Nv)):R (Fl×Nv):=match r with
 | .ok q S'=>.ok q S'
 | .ex c xs S'=>if c∈cs then .ok (.nx,(Kb len none).set iy (some (.xc c xs))) S' else .bad
 | .bad=>.bad
theorem l4:sy cs len iy m τ S=tq1 cs len iy (m τ S):=ak rfl
theorem qW:tq1 cs len iy (.ok q S)=.ok q S:=ak rfl
theorem vx (h:c∈cs):tq1 cs len iy (.ex c xs S)=.ok (.nx,(Kb len none).set iy (some (.xc c xs))) S:=J2 h
def rzn (c:Str) (r:R Vl):R (Fl×Nv):=r.bind fun z S1=>match z with
 | .d (.int n)=>if n.natAbs < 2 ^ 60 then .ex c [("number",.int n)] S1 else .bad
 | _=>.bad
theorem jt:mn c a τ S=rzn c (a τ S):=ak rfl
theorem GZ (h:n.natAbs < 2 ^ 60):rzn c (.ok (.d (.int n)) S)=.ex c [("number",.int n)] S:=J2 h
def nu1 (c:Str) (r:R Vl):R Vl:=r.bind fun z S1=>match z with
 | .xc c' [(f,.int n)]=>if c'=c∧f="number" then .ok (.d (.int n)) S1 else .bad
 | _=>.bad
theorem og:AI c a τ S=nu1 c (a τ S):=ak rfl
theorem qJ:nu1 c (.ok (.xc c [("number",.int n)]) S)=.ok (.d (.int n)) S:=J2 ⟨rfl,rfl⟩
local macro_rules | `(tactic| simp! [$ls,*]) => `(tactic| repeat (first | walk_at "mx" | simp only [ku, qM, kz, qX, jt, og, qJ, n_, qR, oV, mq, mD, l4, qW, $ls,*]))
def Iu (r:R (Fl×Nv)):Prop:=(∃ c xs S,r=.ex c xs S)∨∃ v τ S,r=.ok (.rt v,τ) S
open Classical in
theorem lB (ok:D→Bool) (J:Nv→Prop) (St:Nat→R (Fl×Nv)→Prop) (hSt:∀ i r,St i r→Iu r):∀ (ws:List D) (k:Nat) (τ:Nv),k+ws.length≤N→J τ→(∀ i w τ,i < N→w∈ws→J τ→∃ τ1,g (.d (.tup [.int (i:Nat),w])) τ S=.ok τ1 S∧(ok w=true→∃ τ2,J τ2∧b τ1 S=.ok (.nx,τ2) S)∧(ok w=false→St i (b τ1 S))) →
  (ws.findIdx? (fun w=>!ok w)=none∧∃ τ',J τ'∧cK g b none (cH k ws) τ S=.ok (.nx,τ') S)∨∃ i,ws.findIdx? (fun w=>!ok w)=some i∧St (k+i) (cK g b none (cH k ws) τ S)
 | [],k,τ,_,h0,_=>.inl ⟨rfl,τ,h0,rfl⟩
 | w :: ws,k,τ,hN,h0,hs=>by
  rw [Km] at hN
  obtain ⟨τ1,e1,h1,h2⟩:=hs k w τ (by omega) (.head _) h0
  have e0:cK g b none (cH k (w :: ws)) τ S=(b τ1 S).bind fun q S2=>match q.1 with
   | .bk=>.ok (.nx,q.2) S2
   | .rt v=>.ok (.rt v,q.2) S2
   | _=>if gok none S2 then cK g b none (cH (k+1) ws) q.2 S2 else .bad:=by
   rw [show cH k (w :: ws)=.d (.tup [.int (k:Nat),w]) :: cH (k+1) ws from rfl,cK,e1,bI]
   try rfl
  rw [PF,e0]
  cases hw:ok w with
  | false=>
   refine .inr ⟨0,rfl,?_⟩
   have q:=h2 hw
   rcases hSt _ _ q with ⟨c,xs,S',e⟩ | ⟨v,τ',S',e⟩<;>(rw [e] at q ⊢;exact q)
  | true=>
   obtain ⟨τ2,h3,e2⟩:=h1 hw
   rw [e2,bI]
   dsimp only
   rw [J2 (show gok none S from trivial)]
   rcases lB ok J St hSt ws (k+1) τ2 (by omega) h3 fun i w τ l m=>hs i w τ l (.tail _ m) with ⟨q,τ',a,e⟩ | ⟨i,q,e⟩
   ·exact .inl ⟨by rw [q];rfl,τ',a,e⟩
   ·exact .inr ⟨i+1,by rw [q];rfl,by rw [show k+(i+1)=k+1+i by omega];exact e⟩
def eI:D→Bool
 | .int _=>true
 | _=>false
def inB (lo hi:Int):D→Bool
 | .int n=>decide (lo≤n) && decide (n≤hi)
 | _=>false
def intOf:D→Int
 | .int n=>n
 | _=>0
theorem Ba:bB (xUn (bS "int") (ae 0)) (ow (xUn (bS "bool") (ae 0))) [some (.d d)] S=.ok (.d (.bl (eI d))) S:=by
  walk_at "mx"
  cases d<;>first
    | (rw [show ∀ b,isT "int" (.bl b)=true from fun _=>rfl];walk_at "mx";rw [show ∀ b,isT "bool" (.bl b)=true from fun _=>rfl];rfl)
    | (rw [show ∀ b,isT "int" (.int b)=true from fun _=>rfl];walk_at "mx";rw [show ∀ b,isT "bool" (.int b)=false from fun _=>rfl];rfl)
    | rfl
theorem CT:iz [.d d] S=.ok (.d (.bl (eI d))) S:=by
 unfold iz
 rw [bw]
 unfold mV
 rw [sA]
 erw [show ([some (Vl.d d)]++Kb (1 - 1) none:Nv)=[some (.d d)] from rfl,Ba]
 rw [ao]
theorem kv:de [.d d] S=.ok (.d (.bl (eI d))) S:=by
 unfold de
 rw [bw]
 unfold kN
 rw [sA]
 erw [show ([some (Vl.d d)]++Kb (1 - 1) none:Nv)=[some (.d d)] from rfl,Ba]
 rw [ao]
theorem fF:cw [.d d,.d (.int lo),.d (.int hi)] S=.ok (.d (.bl (inB lo hi d))) S:=by
 unfold cw
 rw [eO]
 unfold lH
 walk_at "mx"
 rw [CT]
 cases d with
 | int n=>
  erw [show eI (.int n)=true from rfl]
  show _=R.ok (Vl.d (D.bl (decide (lo≤n) && decide (n≤hi)))) S
  by_cases h:lo≤n
  ·rw [JW h];walk_at "mx";rw [ao,Lp]
  ·rw [H0 h];walk_at "mx";rw [ao,Ls]
 | _=>(rw [show eI _=false from rfl];walk_at "mx";rw [ao];rfl)
theorem cD:isT "tuple" d=(match d with | .tup _=>true | _=>false):=by cases d<;>rfl
theorem lG:cA [.d d,.d (.int lo),.d (.int hi)] S=.ok (.d (.bl (match d with | .tup xs=>xs.all (inB lo hi) | _=>false))) S:=by
 unfold cA
 rw [eO]
 unfold kS
 walk_at "mx"
 rw [cD]
 cases d with
 | tup xs=>
  dsimp only
  walk_at "mx"
  rw [gB (show _=kF [some (.d (.tup xs)),some (.d (.int lo)),some (.d (.int hi))] S from rfl) (xs:=xs) (S1:=S) (by walk_at "mx") (fun d=>.bl (inB lo hi d)) (by
   intro x hx S
   walk_at "mx"
   rw [fF]
   walk_at "mx")]
  walk_at "mx"
  erw [iV]
  rw [ao]
 | _=>(dsimp only;walk_at "mx";rw [ao])
theorem gq:∀ {xs:List D},xs.all (inB lo hi)=true→∃ ns:List Int,xs=ns.map D.int∧∀ n∈ns,lo≤n∧n≤hi
 | [],_=>⟨[],rfl,by simp⟩
 | d :: xs,h=>by
  rw [Lz,Ko] at h
  obtain ⟨ns,rfl,hn⟩:=gq h.2
  cases d with
  | int n=>
   have h1:(decide (lo≤n) && decide (n≤hi))=true:=h.1
   rw [Ko] at h1
   refine ⟨n :: ns,rfl,fun m hm=>?_⟩
   rcases J1.mp hm with e | e
   ·rw [e];exact ⟨Li h1.1,Li h1.2⟩
   ·exact hn m e
  | _=>exact absurd h.1 (by simp [inB])
theorem iE {ns:List Int}:(ns.map D.int).map intOf=ns:=by
 rw [L6]
 exact (Pj fun _ _=>rfl).trans (List.map_id ns)
def cu (lo hi:Int):D→Bool
 | .tup xs=>xs.all (inB lo hi)
 | _=>false
theorem j8:cA [.d d,.d (.int lo),.d (.int hi)] S=.ok (.d (.bl (cu lo hi d))) S:=by
 rw [lG]
 cases d<;>rfl
theorem gv (h:cu lo hi d=true):∃ ns:List Int,d=aQ ns∧∀ n∈ns,lo≤n∧n≤hi:=by
 cases d with
 | tup xs=>
  obtain ⟨ns,rfl,hn⟩:=gq (show xs.all (inB lo hi)=true from h)
  exact ⟨ns,rfl,hn⟩
 | _=>cases h
theorem uK:decide (((bJ ws).length:Int)=(ws.length:Int))=decide ws.Nodup:=by
 rw [Nk]
 constructor
 ·intro h
  have h:(bJ ws).length=ws.length:=by omega
  have key:∀ {ws:List Int},(bJ ws).length=ws.length→ws.Nodup:=by
   intro ws
   induction ws with
   | nil=>intro _;exact Mz
   | cons a l ih=>
    intro h
    have hm:=eG
    rw [LU]
    by_cases ha:a∈l
    ·have e:bJ l=bJ (a :: l):=i8 (fun z=>by rw [eG,J1];exact ⟨.inr,fun q=>q.elim (fun e=>e ▸ ha) id⟩) (dk l)
     rw [← e] at h
     have:=fP l
     simp at h
     omega
    ·refine ⟨ha,ih ?_⟩
     have e:=il (ks:=a :: bJ l) (ns:=a :: l) (LU.mpr ⟨fun z=>ha ((eG a l).mp z),(dk l).imp (fun h=>Int.ne_of_lt h)⟩) (fun x=>by rw [J1,J1,eG])
     simp only [Km] at e h
     omega
  exact key h
 ·intro h
  rw [← il h fun _=>SV]
theorem Ay (h:ns.length≤300):c8 [.d (aQ ns)] S=.ok (.d (.bl (decide ns.Nodup))) S:=by
 unfold c8
 rw [bw]
 unfold gZ
 walk_at "mx"
 rw [uU (ns:=ns) rfl h]
 unfold aQ
 walk_at "mx"
 rw [J0,uK,ao]
def dO:D→Bool
 | .tup xs=>xs.all (inB 0 3) && (decide (1≤(xs.length:Int)) && decide ((xs.length:Int)≤4) && decide ((xs.map intOf).Nodup))
 | _=>false
theorem BU:gG [.d d] S=.ok (.d (.bl (dO d))) S:=by
 unfold gG
 rw [bw]
 unfold lU
 walk_at "mx"
 rw [j8]
 cases d with
 | tup xs=>
  show _=R.ok (Vl.d (D.bl (xs.all (inB 0 3) && _))) S
  rw [show cu 0 3 (.tup xs)=xs.all (inB 0 3) from rfl]
  cases h:xs.all (inB 0 3) with
  | false=>walk_at "mx";rw [ao,Ls]
  | true=>
   obtain ⟨ns,rfl,hn⟩:=gq h
   walk_at "mx"
   rw [iE,J0,Lp]
   by_cases h1:(1:Int)≤(ns.length:Int)
   ·erw [JW h1]
    by_cases h2:(ns.length:Int)≤4
    ·erw [JW h2]
     erw [show D.tup (ns.map D.int)=aQ ns from rfl,Ay (by omega)]
     rw [ao]
     rfl
    ·rw [H0 h2];walk_at "mx";rw [ao];rfl
   ·rw [H0 h1];walk_at "mx";rw [ao];rfl
 | _=>(rw [show cu 0 3 _=false from rfl];walk_at "mx";rw [ao];rfl)
def leB:D→D→Bool
 | .int a,.int b=>decide (a≤b)
 | _,_=>false
def fB (a b:D) (lo hi:Int):Bool:=inB lo hi a && (inB lo hi b && leB a b)
theorem wZ:gY [.d a,.d b,.d (.int lo),.d (.int hi)] S=.ok (.d (.bl (fB a b lo hi))) S:=by
 unfold gY fB
 rw [FO]
 unfold oE
 walk_at "mx"
 rw [fF]
 cases h:inB lo hi a with
 | false=>walk_at "mx";rw [ao];rfl
 | true=>
  walk_at "mx"
  rw [fF]
  cases h2:inB lo hi b with
  | false=>walk_at "mx";rw [ao];rfl
  | true=>
   cases a with
   | int x=>
    cases b with
    | int y=>walk_at "mx";rw [ao];rfl
    | _=>cases h2
   | _=>cases h
def lN:D→Int
 | .tup (a :: _)=>intOf a
 | _=>0
def gu:D→Bool
 | .tup [a,b,c]=>inB (-9) 9 a && fB b c 0 4
 | _=>false
def iR:D→Bool
 | .tup [a,b,c]=>inB 0 3 a && (inB (-9) 9 b && inB 0 3 c)
 | _=>false
theorem Dy (h:(xs.length:Int)=3):∃ a b c,xs=[a,b,c]:=by
 match xs,h with
 | [a,b,c],_=>exact ⟨a,b,c,rfl⟩
 | [],h=>simp at h
 | [_],h=>simp at h
 | [_,_],h=>simp at h
 | _ :: _ :: _ :: _ :: _,h=>simp at h;omega
theorem Ep {xs:List D} {f:D→D→D→Bool} (h:¬(xs.length:Int)=3):(match D.tup xs with | .tup [a,b,c]=>f a b c | _=>false)=false:=by
 match xs,h with
 | [a,b,c],h=>exact absurd rfl h
 | [],_=>rfl
 | [_],_=>rfl
 | [_,_],_=>rfl
 | _ :: _ :: _ :: _ :: _,_=>rfl
theorem CU:ir [.d d] S=.ok (.d (.bl (gu d))) S:=by
 unfold ir
 rw [bw]
 unfold mZ
 erw [bG]
 rw [cD]
 cases d with
 | tup xs=>
  dsimp only
  walk_at "mx"
  by_cases h:(xs.length:Int)=3
  ·rw [JW h]
   obtain ⟨a,b,c,rfl⟩:=Dy h
   walk_at "mx"
   erw [aY (show atI [a,b,c] 0=some a from rfl)]
   rw [fF]
   show _=R.ok (Vl.d (D.bl (inB (-9) 9 a && fB b c 0 4))) S
   cases inB (-9) 9 a with
   | false=>walk_at "mx";rw [ao];rfl
   | true=>
    walk_at "mx"
    erw [aY (show atI [a,b,c] 1=some b from rfl)]
    erw [aY (show atI [a,b,c] 2=some c from rfl)]
    erw [wZ]
    rw [ao]
    rfl
  ·erw [H0 h]
   rw [ao,show gu (.tup xs)=false from Ep (f:=fun a b c=>inB (-9) 9 a && fB b c 0 4) h]
 | _=>(dsimp only;walk_at "mx";rw [ao];rfl)
theorem DT:jg [.d d] S=.ok (.d (.bl (iR d))) S:=by
 unfold jg
 rw [bw]
 unfold nZ
 erw [bG]
 rw [cD]
 cases d with
 | tup xs=>
  dsimp only
  walk_at "mx"
  by_cases h:(xs.length:Int)=3
  ·rw [JW h]
   obtain ⟨a,b,c,rfl⟩:=Dy h
   walk_at "mx"
   erw [aY (show atI [a,b,c] 0=some a from rfl)]
   rw [fF]
   show _=R.ok (Vl.d (D.bl (inB 0 3 a && (inB (-9) 9 b && inB 0 3 c)))) S
   cases inB 0 3 a with
   | false=>walk_at "mx";rw [ao];rfl
   | true=>
    walk_at "mx"
    erw [aY (show atI [a,b,c] 1=some b from rfl)]
    rw [fF]
    cases inB (-9) 9 b with
    | false=>walk_at "mx";rw [ao];rfl
    | true=>
     walk_at "mx"
     erw [aY (show atI [a,b,c] 2=some c from rfl)]
     erw [fF]
     rw [ao]
     rfl
  ·erw [H0 h]
   rw [ao,show iR (.tup xs)=false from Ep (f:=fun a b c=>inB 0 3 a && (inB (-9) 9 b && inB 0 3 c)) h]
 | _=>(dsimp only;walk_at "mx";rw [ao];rfl)
abbrev Tr3:=Int×Int×Int
def trD (t:Tr3):D:=.tup [.int t.1,.int t.2.1,.int t.2.2]
theorem eF (h:inB lo hi d=true):∃ n,d=.int n∧lo≤n∧n≤hi:=by
 cases d with
 | int n=>
  have h1:(decide (lo≤n) && decide (n≤hi))=true:=h
  rw [Ko] at h1
  exact ⟨n,rfl,Li h1.1,Li h1.2⟩
 | _=>cases h
theorem three {f:D→D→D→Bool} {d:D} (h:(match d with | .tup [a,b,c]=>f a b c | _=>false)=true):∃ a b c,d=.tup [a,b,c]∧f a b c=true:=by
 match d,h with
 | .tup [a,b,c],h=>exact ⟨a,b,c,rfl,h⟩
theorem xD {d:D} (h:gu d=true):∃ t:Tr3,d=trD t∧(-9≤t.1∧t.1≤9)∧0≤t.2.1∧t.2.1≤t.2.2∧t.2.2≤4:=by
 obtain ⟨a,b,c,rfl,h'⟩:=three (f:=fun a b c=>inB (-9) 9 a && fB b c 0 4) h
 unfold fB at h'
 simp only [Ko] at h'
 obtain ⟨h1,h2,h3,h4⟩:=h'
 obtain ⟨x,rfl,x1⟩:=eF h1
 obtain ⟨y,rfl,y1⟩:=eF h2
 obtain ⟨z,rfl,z1⟩:=eF h3
 have h4:y≤z:=Li h4
 exact ⟨(x,y,z),rfl,x1,y1.1,h4,z1.2⟩
theorem yL {d:D} (h:iR d=true):∃ t:Tr3,d=trD t∧(0≤t.1∧t.1≤3)∧(-9≤t.2.1∧t.2.1≤9)∧0≤t.2.2∧t.2.2≤3:=by
 obtain ⟨a,b,c,rfl,h'⟩:=three (f:=fun a b c=>inB 0 3 a && (inB (-9) 9 b && inB 0 3 c)) h
 simp only [Ko] at h'
 obtain ⟨h1,h2,h3⟩:=h'
 obtain ⟨x,rfl,x1⟩:=eF h1
 obtain ⟨y,rfl,y1⟩:=eF h2
 obtain ⟨z,rfl,z1⟩:=eF h3
 exact ⟨(x,y,z),rfl,x1,y1,z1⟩
theorem iS {p:D→Bool} {P:Tr3→Prop} (hp:∀ d,p d=true→∃ t,d=trD t∧P t):∀ {xs:List D},xs.all p=true→∃ ts:List Tr3,xs=ts.map trD∧∀ t∈ts,P t
 | [],_=>⟨[],rfl,by simp⟩
 | d :: xs,h=>by
  rw [Lz,Ko] at h
  obtain ⟨ts,rfl,ht⟩:=iS hp h.2
  obtain ⟨t,rfl,h1⟩:=hp d h.1
  refine ⟨t :: ts,rfl,fun m hm=>?_⟩
  rcases J1.mp hm with e | e
  ·rw [e];exact h1
  ·exact ht m e
def si:D→Bool
 | .tup xs=>decide ((xs.length:Int)≤4) && (xs.all gu && decide ((xs.map lN).Pairwise (· < ·)))
 | _=>false
def nJ:D→Bool
 | .tup xs=>decide ((xs.length:Int)≤12) && (xs.all iR && decide ((xs.map fun d=>match d with | .tup ys=>ys.map intOf | _=>[]).Nodup))
 | _=>false
theorem uj {ts:List Tr3}:(ts.map trD).map lN=ts.map (·.1):=by rw [L6];rfl
theorem zj {ns:List Int} (h:ns.length≤1000):cQ [.d (.lst (ns.map D.int))] S=.ok (.d (.bl (decide (ns.Pairwise (· < ·))))) S:=by
 unfold cQ
 rw [bw]
 unfold hZ
 walk_at "mx"
 have key:dY [some (.d (.lst (ns.map D.int)))] S=.ok (.d (.lst ((J_ (ns.length - 1)).map fun k=>.bl (decide (ns.getD k 0 < ns.getD (k+1) 0))))) S:=by
  unfold dY
  rw [sX (items:=(J_ ((ns.length:Int) - 1).toNat).map fun k=>Vl.d (.int (1+(k:Nat)))) (S1:=S) (by walk_at "mx";rw [J0,vI (by omega)]) (nbL ns) (by
   intro z hz S
   obtain ⟨k,hk,rfl⟩:=La.mp hz
   have hk:=Lb.mp hk
   walk_at "mx"
   erw [show (1:Int)+(k:Nat) - 1=(k:Nat) by omega,show (1:Int)+(k:Nat)=((k+1:Nat):Int) by omega,eT (vX (by omega))]
   erw [eT (vX (by omega))]
   rfl)]
  rw [L6,show ((ns.length:Int) - 1).toNat=ns.length - 1 by omega]
  congr 3
  refine Pj fun k hk=>?_
  show nbL ns (.d (.int (1+(k:Nat))))=_
  rw [show (1:Int)+(k:Nat)=((k+1:Nat):Int) by omega]
  rfl
 erw [key]
 erw [iV,tF]
 rw [ao]
theorem zx:gg [.d d] S=.ok (.d (.bl (si d))) S:=by
 unfold gg
 rw [bw]
 unfold kK
 erw [bG]
 rw [cD]
 cases d with
 | tup xs=>
  dsimp only
  walk_at "mx"
  show _=R.ok (Vl.d (D.bl (decide ((xs.length:Int)≤4) && (xs.all gu && decide ((xs.map lN).Pairwise (· < ·)))))) S
  by_cases h:(4:Int) < (xs.length:Int)
  ·erw [JW h,H0 (show ¬(xs.length:Int)≤4 by omega)]
   rw [ao]
   rfl
  ·erw [H0 h,JW (show (xs.length:Int)≤4 by omega)]
   rw [gB (show _=kO [some (.d (.tup xs))] S from rfl) (xs:=xs) (S1:=S) (by walk_at "mx") (fun d=>.bl (gu d)) (by
    intro x hx S
    walk_at "mx"
    rw [CU]
    walk_at "mx")]
   walk_at "mx"
   rw [iV]
   cases ha:xs.all gu with
   | false=>walk_at "mx";rw [ao];rfl
   | true=>
    obtain ⟨ts,rfl,ht⟩:=iS (fun d=>xD) ha
    walk_at "mx"
    rw [gB (show _=kT [some (.d (.tup (ts.map trD)))] S from rfl) (xs:=ts.map trD) (S1:=S) (by walk_at "mx") (fun d=>.int (lN d)) (by
     intro x hx S
     obtain ⟨t,_,rfl⟩:=La.mp hx
     walk_at "mx"
     unfold trD
     rw [aY (show atI [D.int t.1,.int t.2.1,.int t.2.2] 0=some (.int t.1) from rfl)]
     rfl)]
    walk_at "mx"
    rw [J0] at h
    erw [show ((ts.map trD).map fun d=>D.int (lN d))=(ts.map (·.1)).map D.int by rw [L6,L6];rfl,zj (by rw [J0];omega),uj]
    rw [ao]
    rfl
 | _=>(dsimp only;walk_at "mx";rw [ao];rfl)
def nM (t:Tr3):List Int:=[t.1,t.2.1,t.2.2]
def listI:D→List Int
 | .tup ys=>ys.map intOf
 | _=>[]
theorem tG {ts:List Tr3} (h:ts.length≤300):oLX (.d (.tup (ts.map trD))) S=.ok (.d (.int (uq (ts.map nM)).length)) S:=
 Ad (ts:=ts.map nM) (by show some _=some _;rw [L6];rfl) (by rw [J0];exact h)
theorem yM {ts:List Tr3}:decide (((uq (ts.map nM)).length:Int)=(ts.length:Int))=decide ((ts.map nM).Nodup):=by
 rw [Nk,← wM,J0]
 omega
theorem rN {ts:List Tr3}:(ts.map trD).map listI=ts.map nM:=by rw [L6];rfl
theorem Cu {d:D} {S:Sto}:gH [.d d] S=.ok (.d (.bl (nJ d))) S:=by
 unfold gH
 rw [bw]
 unfold lV
 erw [bG]
 rw [cD]
 cases d with
 | tup xs=>
  dsimp only
  walk_at "mx"
  show _=R.ok (Vl.d (D.bl (decide ((xs.length:Int)≤12) && (xs.all iR && decide ((xs.map listI).Nodup))))) S
  by_cases h:(12:Int) < (xs.length:Int)
  ·erw [JW h,H0 (show ¬(xs.length:Int)≤12 by omega)]
   rw [ao]
   rfl
  ·erw [H0 h,JW (show (xs.length:Int)≤12 by omega)]
   rw [gB (show _=mi [some (.d (.tup xs))] S from rfl) (xs:=xs) (S1:=S) (by walk_at "mx") (fun d=>.bl (iR d)) (by
    intro x hx S
    walk_at "mx"
    rw [DT]
    walk_at "mx")]
   walk_at "mx"
   rw [iV]
   cases ha:xs.all iR with
   | false=>walk_at "mx";rw [ao];rfl
   | true=>
    obtain ⟨ts,rfl,ht⟩:=iS (fun d=>yL) ha
    rw [J0] at h
    walk_at "mx"
    have e:c8 [.d (.tup (ts.map trD))] S=.ok (.d (.bl (decide ((ts.map nM).Nodup)))) S:=by
     unfold c8
     rw [bw]
     unfold gZ
     walk_at "mx"
     erw [tG (by omega)]
     rw [J0,yM,ao]
    erw [e,rN]
    rw [ao]
    rfl
 | _=>(dsimp only;walk_at "mx";rw [ao];rfl)
def vR (xs:List D):Bool:=match xs with | [_,_,b]=>si b | _=>false
def fE:D→Int
 | .tup xs=>xs.length
 | _=>-1
def vv (xs:List D):Bool:=match xs with | [_,n,w,l,h]=>cu (-3) 3 w && (decide (fE w=fE n) && fB l h (-99) 99) | _=>false
def zh:D→Bool
 | .tup xs=>decide ((xs.map intOf).Pairwise (· < ·))
 | _=>false
def vy (xs:List D):Bool:=match xs with | [_,_,b,e]=>nJ b && (cu 0 3 e && zh e) | _=>false
def vf (xs:List D):Bool:=match xs with | [_,n,w]=>cu 1 4 w && decide (fE w=fE n) | _=>false
def dh (xs:List D):Bool:=match xs with
 | .str w :: r=>if w="unlike" then decide ((r.length:Int)=1) else if w="many" then vR (.str w :: r) else if w="sum" then vv (.str w :: r) else if w="row" then vy (.str w :: r) else if w="hand" then vf (.str w :: r) else false
 | _=>false
def jy:D→Bool
 | .tup (a :: n :: r)=>dO n && dh (a :: n :: r)
 | _=>false
theorem FE:jq [.d (.tup (a :: n :: r))] S=.ok (.d (.bl (vR (a :: n :: r)))) S:=by
 unfold jq
 rw [bw]
 unfold oq
 walk_at "mx"
 match r with
 | [b]=>
  erw [JW (by simp)]
  erw [aY (show atI [a,n,b] 2=some b from rfl)]
  erw [zx]
  rw [ao]
  rfl
 | []=>rw [H0 (by simp)];walk_at "mx";rw [ao];rfl
 | _ :: _ :: _=>rw [H0 (by simp;omega)];walk_at "mx";rw [ao];rfl
theorem FF (hn:dO n=true):jk [.d (.tup (a :: n :: r))] S=.ok (.d (.bl (vf (a :: n :: r)))) S:=by
 unfold jk
 rw [bw]
 unfold nX
 walk_at "mx"
 match r with
 | [b]=>
  erw [JW (by simp)]
  erw [aY (show atI [a,n,b] 2=some b from rfl)]
  rw [j8]
  show _=R.ok (Vl.d (D.bl (cu 1 4 b && decide (fE b=fE n)))) S
  cases hb:cu 1 4 b with
  | false=>walk_at "mx";rw [ao];rfl
  | true=>
   obtain ⟨ws,rfl,_⟩:=gv hb
   cases n with
   | tup ns=>
    walk_at "mx"
    rw [aY (show atI [a,.tup ns,aQ ws] 2=some (aQ ws) from rfl)]
    unfold aQ
    walk_at "mx"
    erw [aY (show atI [a,.tup ns,.tup (ws.map D.int)] 1=some (.tup ns) from rfl)]
    rw [ao]
    rfl
   | _=>cases hn
 | []=>rw [H0 (by simp)];walk_at "mx";rw [ao];rfl
 | _ :: _ :: _=>rw [H0 (by simp;omega)];walk_at "mx";rw [ao];rfl
theorem Il (hn:dO n=true):kx [.d (.tup (a :: n :: r))] S=.ok (.d (.bl (vv (a :: n :: r)))) S:=by
 unfold kx
 rw [bw]
 unfold qt
 erw [bG]
 match r with
 | [b,l,h]=>
  erw [JW (by simp)]
  erw [aY (show atI [a,n,b,l,h] 2=some b from rfl)]
  rw [j8]
  show _=R.ok (Vl.d (D.bl (cu (-3) 3 b && (decide (fE b=fE n) && fB l h (-99) 99)))) S
  cases hb:cu (-3) 3 b with
  | false=>walk_at "mx";rw [ao];rfl
  | true=>
   obtain ⟨ws,rfl,_⟩:=gv hb
   cases n with
   | tup ns=>
    walk_at "mx"
    rw [aY (show atI [a,.tup ns,aQ ws,l,h] 2=some (aQ ws) from rfl)]
    unfold aQ
    walk_at "mx"
    erw [aY (show atI [a,.tup ns,.tup (ws.map D.int),l,h] 1=some (.tup ns) from rfl)]
    show _=R.ok (Vl.d (D.bl (true && (decide (((ws.map D.int).length:Int)=(ns.length:Int)) && fB l h (-99) 99)))) S
    by_cases hl:((ws.map D.int).length:Int)=(ns.length:Int)
    ·erw [JW hl]
     erw [aY (show atI [a,.tup ns,.tup (ws.map D.int),l,h] 3=some l from rfl)]
     erw [aY (show atI [a,.tup ns,.tup (ws.map D.int),l,h] 4=some h from rfl)]
     erw [wZ]
     rw [ao]
     rfl
    ·erw [H0 hl]
     rw [ao]
     rfl
   | _=>cases hn
 | []=>rw [H0 (by simp)];walk_at "mx";rw [ao];rfl
 | [_]=>rw [H0 (by simp)];walk_at "mx";rw [ao];rfl
 | [_,_]=>rw [H0 (by simp)];walk_at "mx";rw [ao];rfl
 | _ :: _ :: _ :: _ :: _=>rw [H0 (by simp;omega)];walk_at "mx";rw [ao];rfl
def Fit (d:D):Prop:=∀ a n b xs,d=.tup [a,n,b,.tup xs]→xs.length≤60
theorem Gw (hf:Fit (.tup (a :: n :: r))):kb [.d (.tup (a :: n :: r))] S=.ok (.d (.bl (vy (a :: n :: r)))) S:=by
 unfold kb
 rw [bw]
 unfold pZ
 walk_at "mx"
 match r with
 | [b,e]=>
  erw [JW (by simp)]
  erw [aY (show atI [a,n,b,e] 2=some b from rfl)]
  rw [Cu]
  show _=R.ok (Vl.d (D.bl (nJ b && (cu 0 3 e && zh e)))) S
  cases hb:nJ b with
  | false=>walk_at "mx";rw [ao];rfl
  | true=>
   walk_at "mx"
   erw [aY (show atI [a,n,b,e] 3=some e from rfl)]
   rw [j8]
   cases he:cu 0 3 e with
   | false=>walk_at "mx";rw [ao];rfl
   | true=>
    obtain ⟨es,rfl,_⟩:=gv he
    have hl:=hf a n b (es.map D.int) rfl
    rw [J0] at hl
    walk_at "mx"
    erw [aY (show atI [a,n,b,aQ es] 3=some (aQ es) from rfl)]
    erw [kQ (by omega)]
    rw [ao]
    show R.ok (Vl.d (D.bl (decide (es.Pairwise (· < ·))))) S=R.ok (Vl.d (D.bl (true && (true && decide (((es.map D.int).map intOf).Pairwise (· < ·)))))) S
    rw [iE]
    rfl
 | []=>rw [H0 (by simp)];walk_at "mx";rw [ao];rfl
 | [_]=>rw [H0 (by simp)];walk_at "mx";rw [ao];rfl
 | _ :: _ :: _ :: _=>rw [H0 (by simp;omega)];walk_at "mx";rw [ao];rfl
theorem eqw:ef (.d d) (.d (.str z)) S=.ok (.d (.bl (D.eqv d (.str z)))) S:=ak rfl
theorem cN:D.eqv (.str a) (.str z)=decide (a=z):=by
 show (a == z)=_
 by_cases h:a=z
 ·subst h;simp
 ·rw [H0 h,Ms];exact h
def nV:D→Bool
 | .str _=>false
 | _=>true
theorem oy (h:nV d=true):D.eqv d (.str z)=false:=by cases d<;>first | rfl | cases h
theorem Bj (h:nV a=true):dh (a :: r)=false:=by cases a<;>first | rfl | cases h
theorem F7 (hn:dO n=true) (hf:Fit (.tup (a :: n :: r))):dN [.d (.tup (a :: n :: r))] S=.ok (.d (.bl (dh (a :: n :: r)))) S:=by
 unfold dN
 rw [bw]
 unfold h_
 erw [bG]
 erw [aY (show atI (a :: n :: r) 0=some a from ic)]
 rw [eqw]
 cases hs:nV a with
 | true=>
  erw [oy hs,Bj hs]
  erw [eqw,oy hs]
  erw [eqw,oy hs]
  erw [eqw,oy hs]
  erw [eqw,oy hs]
  rw [ao]
 | false=>
  cases a with
  | str w=>
   rw [cN]
   by_cases h1:w="unlike"
   ·erw [JW h1]
    rw [ao,show dh (.str w :: n :: r)=decide (((n :: r).length:Int)=1) from J2 h1]
    congr 4
    exact propext (by simp only [Km];omega)
   ·erw [H0 h1]
    rw [eqw,cN]
    by_cases h2:w="many"
    ·erw [JW h2]
     erw [FE]
     rw [ao,show dh (.str w :: n :: r)=vR (.str w :: n :: r) by unfold dh;dsimp only;rw [J9 h1,J2 h2]]
    ·erw [H0 h2]
     rw [eqw,cN]
     by_cases h3:w="sum"
     ·erw [JW h3]
      erw [Il hn]
      rw [ao,show dh (.str w :: n :: r)=vv (.str w :: n :: r) by unfold dh;dsimp only;rw [J9 h1,J9 h2,J2 h3]]
     ·erw [H0 h3]
      rw [eqw,cN]
      by_cases h4:w="row"
      ·erw [JW h4]
       erw [Gw hf]
       rw [ao,show dh (.str w :: n :: r)=vy (.str w :: n :: r) by unfold dh;dsimp only;rw [J9 h1,J9 h2,J9 h3,J2 h4]]
      ·erw [H0 h4]
       rw [eqw,cN]
       by_cases h5:w="hand"
       ·erw [JW h5]
        erw [FF hn]
        rw [ao,show dh (.str w :: n :: r)=vf (.str w :: n :: r) by unfold dh;dsimp only;rw [J9 h1,J9 h2,J9 h3,J9 h4,J2 h5]]
       ·erw [H0 h5]
        rw [ao,show dh (.str w :: n :: r)=false by unfold dh;dsimp only;rw [J9 h1,J9 h2,J9 h3,J9 h4,J9 h5]]
  | _=>cases hs
theorem yR (hf:Fit d):ju [.d d] S=.ok (.d (.bl (jy d))) S:=by
 unfold ju
 rw [bw]
 unfold oG
 erw [bG]
 rw [cD]
 cases d with
 | tup xs=>
  dsimp only
  walk_at "mx"
  match xs,hf with
  | [],_=>rw [JW (by simp)];walk_at "mx";rw [ao];rfl
  | [_],_=>rw [JW (by simp)];walk_at "mx";rw [ao];rfl
  | a :: n :: r,hf=>
   erw [H0 (by simp only [Km];omega)]
   erw [aY (show atI (a :: n :: r) 1=some n from bV (i:=1) rfl)]
   rw [BU]
   show _=R.ok (Vl.d (D.bl (dO n && dh (a :: n :: r)))) S
   cases hn:dO n with
   | false=>walk_at "mx";rw [ao];rfl
   | true=>
    walk_at "mx"
    erw [F7 hn hf]
    rw [ao]
    rfl
 | _=>(dsimp only;walk_at "mx";rw [ao];rfl)
theorem nN (hf:∀ d,f (.d d)=if p d then none else some (.int 1)):∀ {ys:List D},∃ k:List Int,(ys.map Vl.d).filterMap f=k.map D.int∧decide (k=[])=ys.all p
 | []=>⟨[],rfl,rfl⟩
 | d :: ys=>by
  obtain ⟨k,e,h⟩:=nN hf (ys:=ys)
  rw [Kx]
  cases q:p d with
  | true=>exact ⟨k,by rw [KO,hf,J2 q];exact e,by rw [Lz,q,Lp];exact h⟩
  | false=>exact ⟨1 :: k,by rw [KO,hf,J9 (by rw [q];decide),e];rfl,by rw [Lz,q,Ls];rfl⟩
theorem j3 (k:List Int):D.depth (.lst (k.map D.int))≤50:=by unfold D.depth;rw [vJ];omega
theorem uu (hf:∀ d,f (.d d)=if p d then none else some (.int 1)) {ys:List D}:oEq (.d (.lst ((ys.map Vl.d).filterMap f))) (.d (.lst [])) S=.ok (.d (.bl (ys.all p))) S:=by
 obtain ⟨k,e,h⟩:=nN hf (ys:=ys)
 rw [e,sQ (j3 k),show ([]:List D)=([]:List Int).map D.int from rfl,fQ,h]
theorem pw (hf:∀ d,f (.d d)=if p d then none else some (.int 1)) {ys:List D}:oNe (.d (.lst ((ys.map Vl.d).filterMap f))) (.d (.lst [])) S=.ok (.d (.bl (!ys.all p))) S:=by
 obtain ⟨k,e,h⟩:=nN hf (ys:=ys)
 rw [e,r_ (j3 k),show ([]:List D)=([]:List Int).map D.int from rfl,fQ,h]
theorem jS {p:D→Bool} {a:XE} {t:XT} {τ:Nv} {ys:List D} {S S1:Sto} (ha:a τ S=.ok (.d (.tup ys)) S1) (ht:∀ d∈ys,∀ S,t (some (.d d) :: τ) S=.ok (!p d) S) {f:Vl→Option D} (hf:∀ d,f (.d d)=if p d then none else some (.int 1)):xLC (cX a) 1 (gNm 0) t (xC (.int 1)) τ S=.ok (.d (.lst ((ys.map Vl.d).filterMap f))) S1:=by
 refine uo (by rw [tf,ha,sY]) f ?_
 intro z hz S
 obtain ⟨d,hd,rfl⟩:=La.mp hz
 have key:=ht d hd S
 constructor
 ·intro x hx
  cases q:p d with
  | true=>rw [hf,J2 q] at hx;cases hx
  | false=>
   rw [hf,J9 (by rw [q];decide)] at hx
   cases hx
   exact ⟨by rw [key,q];rfl,rfl⟩
 ·intro hx
  cases q:p d with
  | true=>rw [key,q];rfl
  | false=>rw [hf,J9 (by rw [q];decide)] at hx;cases hx
def onF (p:D→Bool):Vl→Option D
 | .d d=>if p d then none else some (.int 1)
 | _=>none
theorem iL {d:D} {lo hi:Int} {S:Sto}:bF [.d d,.d (.int lo),.d (.int hi)] S=.ok (.d (.bl (cu lo hi d))) S:=by
 unfold bF
 rw [eO]
 unfold lj
 erw [bG]
 rw [cD]
 cases d with
 | tup xs=>
  dsimp only
  walk_at "mx"
  rw [show lr [some (.d (.tup xs)),some (.d (.int lo)),some (.d (.int hi))] S=.ok (.d (.lst ((xs.map Vl.d).filterMap (onF (inB lo hi))))) S from jS (p:=inB lo hi) (by walk_at "mx") (fun d hd S=>by
   walk_at "mx"
   rw [kv]
   cases d with
   | int n=>
    erw [show eI (.int n)=true from rfl,show inB lo hi (.int n)=(decide (lo≤n) && decide (n≤hi)) from rfl]
    by_cases h:n < lo
    ·rw [JW h,H0 (show ¬lo≤n by omega)];walk_at "mx";rfl
    ·rw [H0 h,JW (show lo≤n by omega)];walk_at "mx"
     by_cases h2:hi < n
     ·rw [JW h2,H0 (show ¬n≤hi by omega)];rfl
     ·rw [H0 h2,JW (show n≤hi by omega)];rfl
   | _=>(rw [show eI _=false from rfl];walk_at "mx";rfl)) (fun _=>rfl)]
  walk_at "mx"
  erw [uu (p:=inB lo hi) (fun _=>rfl)]
  rw [ao]
  rfl
 | _=>(dsimp only;walk_at "mx";rw [ao];rfl)
def dg:D→Bool
 | .tup [a,b,c]=>inB (-9) 9 a && (inB (-9) 9 b && inB (-9) 9 c)
 | _=>false
theorem CA:dg d=(cu (-9) 9 d && decide (fE d=3)):=by
 match d with
 | .tup [a,b,c]=>
  show _=([a,b,c].all (inB (-9) 9) && decide (((3:Nat):Int)=3))
  simp [dg]
 | .tup []=>rfl
 | .tup [a]=>rw [show decide (fE (.tup [a])=3)=false from rfl,Mb];rfl
 | .tup [a,b]=>rw [show decide (fE (.tup [a,b])=3)=false from rfl,Mb];rfl
 | .tup (a :: b :: c :: e :: r)=>
  rw [H0 (show ¬fE (.tup (a :: b :: c :: e :: r))=3 by show ¬((a :: b :: c :: e :: r).length:Int)=3;simp only [Km];omega),Mb]
  rfl
 | .non=>rfl
 | .bl _=>rfl
 | .int _=>rfl
 | .str _=>rfl
 | .lst _=>rfl
def zT (most:Int):D→Bool
 | .tup xs=>decide ((xs.length:Int)≤most) && xs.all dg
 | _=>false
theorem yO {d:D} {most:Int} {S:Sto}:dz [.d d,.d (.int most)] S=.ok (.d (.bl (zT most d))) S:=by
 unfold dz
 rw [dI]
 unfold lA
 erw [bG]
 rw [cD]
 cases d with
 | tup xs=>
  dsimp only
  walk_at "mx"
  show _=R.ok (Vl.d (D.bl (decide ((xs.length:Int)≤most) && xs.all dg))) S
  by_cases h:most < (xs.length:Int)
  ·erw [JW h,H0 (show ¬(xs.length:Int)≤most by omega)]
   rw [ao]
   rfl
  ·erw [H0 h,JW (show (xs.length:Int)≤most by omega)]
   rw [show lK [some (.d (.tup xs)),some (.d (.int most))] S=.ok (.d (.lst ((xs.map Vl.d).filterMap (onF dg)))) S from jS (p:=dg) (by walk_at "mx") (fun d hd S=>by
    walk_at "mx"
    rw [iL,CA]
    cases hb:cu (-9) 9 d with
    | false=>walk_at "mx";rfl
    | true=>
     obtain ⟨ns,rfl,_⟩:=gv hb
     walk_at "mx"
     unfold aQ
     walk_at "mx"
     rfl) (fun _=>rfl)]
   walk_at "mx"
   erw [uu (p:=dg) (fun _=>rfl)]
   rw [ao]
   rfl
 | _=>(dsimp only;walk_at "mx";rw [ao];rfl)
noncomputable def rW:XS:=(ax (xIf (aF (xOp ef (xOp oIx (ae 0) (xC (.int 0))) (xC (.str "many")))) (ax (xIf (xOr (bH (bx (aw dz (aa (xOp oIx (ae 0) (xC (.int 2))) (aa (xC (.int 4)) aj))))) (aF (xOp oNe iP (xN mkL aj)))) (aD (xC (.bl false))) aI)
 (aD (xOp oEq iZ (xUn oSS i_)))) aI)
 (ax (xIf (aF (xOp ef (xOp oIx (ae 0) (xC (.int 0))) (xC (.str "sum")))) (ax (xIf (xOr (bH (bx (aw bF (aa (xOp oIx (ae 0) (xC (.int 2))) (aa (xUn cV (xC (.int 3))) (aa (xC (.int 3)) aj)))))) (aF (xOp oNe (xN aU (aa (xOp oIx (ae 0) (xC (.int 2))) aj)) (xN aU (aa (xOp oIx (ae 0) (xC (.int 1))) aj))))) (aD (xC (.bl false))) aI)
 (aD (bB (aw bF (aa (xSl oSl (ae 0) (dr (xC (.int 3))) cI) (aa (xUn cV (xC (.int 99))) (aa (xC (.int 99)) aj)))) (xOp oLe (xOp oIx (ae 0) (xC (.int 3))) (xOp oIx (ae 0) (xC (.int 4))))))) aI)
 (ax (xIf (aF (xOp ef (xOp oIx (ae 0) (xC (.int 0))) (xC (.str "row")))) (ax (xIf (xOr (bH (bx (aw dz (aa (xOp oIx (ae 0) (xC (.int 2))) (aa (xC (.int 12)) aj))))) (bH (bx (aw bF (aa (xOp oIx (ae 0) (xC (.int 3))) (aa (xC (.int 0)) (aa (xC (.int 3)) aj))))))) (aD (xC (.bl false))) aI)
 (ax (xIf (aF (xOp oNe i7 (xN mkL aj))) (aD (xC (.bl false))) aI)
 (aD (bB (xOp oEq (xUn oLX (xOp oIx (ae 0) (xC (.int 2)))) (xN aU (aa (xOp oIx (ae 0) (xC (.int 2))) aj))) (xOp oEq (xN gK (aa (xOp oIx (ae 0) (xC (.int 3))) aj)) (xUn oSS (xOp oIx (ae 0) (xC (.int 3))))))))) aI)
 (aD (wu (xOp ef (xOp oIx (ae 0) (xC (.int 0))) (xC (.str "unlike"))) (bB (aw bF (aa (xOp oIx (ae 0) (xC (.int 2))) (aa (xC (.int 1)) (aa (xC (.int 4)) aj)))) (xOp oEq (xN aU (aa (xOp oIx (ae 0) (xC (.int 2))) aj)) (xN aU (aa (xOp oIx (ae 0) (xC (.int 1))) aj)))))))))
theorem mB:l7=(ax (xIf (xOr (bH (bx (xUn (bS "tuple") (ae 0)))) (xOr (aF (xOp oLt (xN aU (aa (ae 0) aj)) (xC (.int 2)))) (aF (xOp oS (xOp oIx (ae 0) (xC (.int 0))) (xN mkT (aa (xC (.str "unlike")) (aa (xC (.str "many")) (aa (xC (.str "sum")) (aa (xC (.str "row")) (aa (xC (.str "hand")) aj)))))))))) (aD (xC (.bl false))) aI)
 (ax (xIf (xOr (bH (bx (aw bF (aa (xOp oIx (ae 0) (xC (.int 1))) (aa (xC (.int 0)) (aa (xC (.int 3)) aj)))))) (xOr (bH (aF (eJ oLe oLe (xC (.int 1)) (xN aU (aa (xOp oIx (ae 0) (xC (.int 1))) aj)) (xC (.int 4))))) (aF (xOp oLt (xUn oLX (xOp oIx (ae 0) (xC (.int 1)))) (xN aU (aa (xOp oIx (ae 0) (xC (.int 1))) aj)))))) (aD (xC (.bl false))) aI)
 (ax (xIf (aF (xOp oNe (xN aU (aa (ae 0) aj)) (xDl [("unlike",2),("many",3),("sum",5),("row",4),("hand",3)] (xOp oIx (ae 0) (xC (.int 0)))))) (aD (xC (.bl false))) aI) rW))):=rfl
theorem GG (ha:a τ S=.ok (.d (.str k)) S1) (hk:kvs.lookup k=some n):xDl kvs a τ S=.ok (.d (.int n)) S1:=by
 unfold xDl
 rw [ha,bI]
 dsimp only
 rw [hk]
def jU:List Str:=["unlike","many","sum","row","hand"]
theorem vW:oS (.d d) (.d (.tup [.str "unlike",.str "many",.str "sum",.str "row",.str "hand"])) S=.ok (.d (.bl (!jU.any fun e=>D.eqv (.str e) d))) S:=ak rfl
theorem G7 (h:nV d=true):(jU.any fun e=>D.eqv (.str e) d)=false:=by cases d<;>first | rfl | cases h
theorem IJ {w:Str} (h1:¬w="unlike") (h2:¬w="many") (h3:¬w="sum") (h4:¬w="row") (h5:¬w="hand"):(jU.any fun e=>D.eqv (.str e) (.str w))=false:=by
 simp only [jU,Nn,List.any_nil,cN,H0 (LN h1),H0 (LN h2),H0 (LN h3),H0 (LN h4),H0 (LN h5),Bool.or_false]
theorem Et :
  (xOr (bH (bx (aw bF (aa (xOp oIx (ae 0) (xC (.int 1))) (aa (xC (.int 0)) (aa (xC (.int 3)) aj)))))) (xOr (bH (aF (eJ oLe oLe (xC (.int 1)) (xN aU (aa (xOp oIx (ae 0) (xC (.int 1))) aj)) (xC (.int 4))))) (aF (xOp oLt (xUn oLX (xOp oIx (ae 0) (xC (.int 1)))) (xN aU (aa (xOp oIx (ae 0) (xC (.int 1))) aj)))))) [some (.d (.tup (a :: n :: r)))] S=.ok (!dO n) S:=by
 have i1:∀ S,oIx (.d (.tup (a :: n :: r))) (.d (.int 1)) S=.ok (.d n) S:=fun S=>aY (bV (i:=1) rfl)
 walk_at "mx"
 erw [i1]
 rw [iL]
 cases n with
 | tup xs=>
  rw [show cu 0 3 (.tup xs)=xs.all (inB 0 3) from rfl,show dO (.tup xs)=(xs.all (inB 0 3) && (decide (1≤(xs.length:Int)) && decide ((xs.length:Int)≤4) && decide ((xs.map intOf).Nodup))) from rfl]
  cases h:xs.all (inB 0 3) with
  | false=>walk_at "mx";rfl
  | true=>
   obtain ⟨ns,rfl,hn⟩:=gq h
   erw [iE,J0]
   erw [i1]
   rw [J0]
   by_cases h1:(1:Int)≤(ns.length:Int)
   ·erw [JW h1]
    by_cases h2:(ns.length:Int)≤4
    ·erw [JW h2]
     erw [i1]
     erw [uU (ns:=ns) rfl (by omega)]
     erw [i1]
     rw [J0]
     have le:=fP ns
     have iff:=uK (ws:=ns)
     rw [Nk] at iff
     congr 1
     by_cases hd:ns.Nodup
     ·rw [JW hd,H0 (by have:=iff.mpr hd;omega)];rfl
     ·rw [H0 hd,JW (by
       have:¬((bJ ns).length:Int)=(ns.length:Int):=fun z=>hd (iff.mp z)
       omega)];rfl
    ·rw [H0 h2];walk_at "mx";rfl
   ·rw [H0 h1];walk_at "mx";rfl
 | _=>(rw [show cu 0 3 _=false from rfl];walk_at "mx";rfl)
theorem CL (h5:(jU.any fun e=>D.eqv (.str e) (.str w))=true) (hL:[(("unlike":Str),(2:Int)),("many",3),("sum",5),("row",4),("hand",3)].lookup w=some L) :
  cq [.d (.tup (.str w :: n :: r))] S=if dO n=true∧((r.length+2:Nat):Int)=L then leave S (rW [some (.d (.tup (.str w :: n :: r)))] S) else .ok (.d (.bl false)) S:=by
 have i0:∀ S,oIx (.d (.tup (.str w :: n :: r))) (.d (.int 0)) S=.ok (.d (.str w)) S:=fun S=>aY ic
 unfold cq
 erw [bw,mB,bG,dP]
 erw [cS]
 erw [H0 (by omega)]
 erw [i0]
 rw [vW,h5,U4,Ff,ll,jZ,iq,bG,dP,Et]
 cases hn:dO n with
 | false=>
  erw [J9 (by rintro ⟨h,_⟩;cases h)]
  rw [ao]
 | true=>
  rw [U4,ll,jZ,iq,bG,dP,pz,A8]
  rw [show (xN aU (aa (ae 0) aj)) [some (.d (.tup (.str w :: n :: r)))] S=.ok (.d (.int ((r.length+2:Nat):Int))) S by walk_at "mx",zb]
  erw [GG (S1:=S) (by walk_at "mx";exact i0 S) hL,ye]
  by_cases hl:((r.length+2:Nat):Int)=L
  ·erw [J2 ⟨trivial,hl⟩,JW hl]
  ·erw [J9 (fun z=>hl z.2),H0 hl]
   rw [ao]
def chB:D→Bool
 | .tup [_,b,c]=>leB (.int 0) b && (leB b c && leB c (.int 4))
 | _=>false
theorem lI (h:dg d=true):∃ t:Tr3,d=trD t∧(-9≤t.1∧t.1≤9)∧(-9≤t.2.1∧t.2.1≤9)∧-9≤t.2.2∧t.2.2≤9:=by
 obtain ⟨a,b,c,rfl,h'⟩:=three (f:=fun a b c=>inB (-9) 9 a && (inB (-9) 9 b && inB (-9) 9 c)) h
 simp only [Ko] at h'
 obtain ⟨h1,h2,h3⟩:=h'
 obtain ⟨x,rfl,x1⟩:=eF h1
 obtain ⟨y,rfl,y1⟩:=eF h2
 obtain ⟨z,rfl,z1⟩:=eF h3
 exact ⟨(x,y,z),rfl,x1,y1,z1⟩
theorem dS:inB lo hi (.int n)=decide (lo≤n∧n≤hi):=by
 show (decide (lo≤n) && decide (n≤hi))=_
 rw [Bool.decide_and]
theorem t_:gu d=(dg d && chB d):=by
 cases h:dg d with
 | false=>
  rw [Ls]
  cases hb:gu d with
  | false=>rfl
  | true=>
   obtain ⟨t,rfl,h1,h2,h3,h4⟩:=xD hb
   have:dg (trD t)=true:=by
    show (inB (-9) 9 (.int t.1) && (inB (-9) 9 (.int t.2.1) && inB (-9) 9 (.int t.2.2)))=true
    rw [dS,dS,dS,JW h1,JW (by omega),JW (by omega)];rfl
   rw [this] at h
   cases h
 | true=>
  obtain ⟨t,rfl,h1,h2,h3⟩:=lI h
  show (inB (-9) 9 (.int t.1) && (inB 0 4 (.int t.2.1) && (inB 0 4 (.int t.2.2) && decide (t.2.1≤t.2.2))))=(true && (decide (0≤t.2.1) && (decide (t.2.1≤t.2.2) && decide (t.2.2≤4))))
  rw [dS,dS,dS,JW h1,Lm]
  simp only [Lp,Ko,PN]
  omega
def enB:D→Bool
 | .tup [a,_,c]=>inB 0 3 a && inB 0 3 c
 | _=>false
theorem BR:iR d=(dg d && enB d):=by
 cases h:dg d with
 | false=>
  rw [Ls]
  cases hb:iR d with
  | false=>rfl
  | true=>
   obtain ⟨t,rfl,h1,h2,h3⟩:=yL hb
   have:dg (trD t)=true:=by
    show (inB (-9) 9 (.int t.1) && (inB (-9) 9 (.int t.2.1) && inB (-9) 9 (.int t.2.2)))=true
    rw [dS,dS,dS,JW (by omega),JW h2,JW (by omega)];rfl
   rw [this] at h
   cases h
 | true=>
  obtain ⟨t,rfl,h1,h2,h3⟩:=lI h
  show (inB 0 3 (.int t.1) && (inB (-9) 9 (.int t.2.1) && inB 0 3 (.int t.2.2)))=(true && (inB 0 3 (.int t.1) && inB 0 3 (.int t.2.2)))
  rw [dS,dS,dS,JW h2]
  simp only [Lp]
theorem mE:∀ xs:List D,(xs.all fun d=>p d && q d)=(xs.all p && xs.all q)
 | []=>rfl
 | d :: xs=>by
  rw [Lz,Lz,Lz,mE xs]
  cases p d<;>cases q d<;>simp
theorem ch3 (ha:a τ S=.ok (.d (.int x)) S) (hb:b τ S=.ok (.d (.int y)) S) (hc:c τ S=.ok (.d (.int z)) S) (hd:d τ S=.ok (.d (.int u)) S):jW oLe oLe oLe a b c d τ S=.ok (.d (.bl (decide (x≤y) && (decide (y≤z) && decide (z≤u))))) S:=by
 unfold jW
 rw [ha,bI,hb,bI,wa,bI]
 dsimp only
 by_cases h1:x≤y
 ·rw [JW h1,J2 rfl,hc,bI,wa,bI]
  dsimp only
  by_cases h2:y≤z
  ·rw [JW h2,J2 rfl,hd,bI,wa];rfl
  ·rw [H0 h2,J9 (by decide)];rfl
 ·rw [H0 h1,J9 (by decide)];rfl
theorem B2 (hl:((r.length+2:Nat):Int)=3):leave S (rW [some (.d (.tup (.str "many" :: n :: r)))] S)=.ok (.d (.bl (vR (.str "many" :: n :: r)))) S:=by
 obtain ⟨b,rfl⟩:∃ b,r=[b]:=by
  match r,hl with
  | [b],_=>exact ⟨b,rfl⟩
  | [],h=>simp at h
  | _ :: _ :: _,h=>simp at h;omega
 have i0:∀ S,oIx (.d (.tup [.str "many",n,b])) (.d (.int 0)) S=.ok (.d (.str "many")) S:=fun S=>aY ic
 have i2:∀ S,oIx (.d (.tup [.str "many",n,b])) (.d (.int 2)) S=.ok (.d b) S:=fun S=>aY (bV (i:=2) rfl)
 unfold rW
 erw [bG,dP]
 erw [i0]
 erw [eqw,cN,JW rfl]
 erw [i2]
 rw [yO]
 show _=R.ok (Vl.d (D.bl (si b))) S
 cases hb:zT 4 b with
 | false=>
  walk_at "mx"
  rw [ao]
  cases b with
  | tup xs=>
   have hb:(decide ((xs.length:Int)≤4) && xs.all dg)=false:=hb
   rw [show si (.tup xs)=(decide ((xs.length:Int)≤4) && (xs.all gu && decide ((xs.map lN).Pairwise (· < ·)))) from rfl,show (xs.all gu)=(xs.all dg && xs.all chB) by rw [← mE];congr 1;funext d;exact t_]
   congr 3
   cases h1:decide ((xs.length:Int)≤4) with
   | false=>rfl
   | true=>rw [h1,Lp] at hb;rw [hb];rfl
  | _=>rfl
 | true=>
  cases b with
  | tup xs=>
   have hb:(decide ((xs.length:Int)≤4) && xs.all dg)=true:=hb
   rw [Ko] at hb
   have hl4:(xs.length:Int)≤4:=Li hb.1
   have ht:=hb.2
   walk_at "mx"
   rw [show iP [some (.d (.tup [.str "many",n,.tup xs]))] S=.ok (.d (.lst ((xs.map Vl.d).filterMap (onF chB)))) S from jS (p:=chB) (by walk_at "mx";exact i2 S) (fun d hd S=>by
    obtain ⟨t,rfl,_⟩:=lI (Mv.mp ht d hd)
    erw [yP,pz,ch3 (x:=0) (y:=t.2.1) (z:=t.2.2) (u:=4) rfl (by walk_at "mx";exact aY rfl) (by walk_at "mx";exact aY rfl) rfl]
    rfl) (fun _=>rfl)]
   walk_at "mx"
   rw [pw (p:=chB) (fun _=>rfl)]
   rw [show si (.tup xs)=(decide ((xs.length:Int)≤4) && (xs.all gu && decide ((xs.map lN).Pairwise (· < ·)))) from rfl,show (xs.all gu)=(xs.all dg && xs.all chB) by rw [← mE];congr 1;funext d;exact t_,JW hl4,ht]
   cases hc:xs.all chB with
   | false=>walk_at "mx";rw [ao];rfl
   | true=>
    obtain ⟨ts,rfl,_⟩:=iS (fun d=>lI) ht
    rw [J0] at hl4
    walk_at "mx"
    have eC:∀ S,(xLC (cX (xOp oIx (ae 0) (xC (.int 2)))) 1 (gNm 0) (fun _ S=>.ok true S) (xOp oIx (ae 0) (xC (.int 0)))) [some (.d (.tup [.str "many",n,.tup (ts.map trD)]))] S=.ok (.d (.lst ((ts.map (·.1)).map D.int))) S:=fun S=>by
     rw [gB rfl (xs:=ts.map trD) (S1:=S) (by walk_at "mx";exact i2 S) (fun d=>.int (lN d)) (by
      intro x hx S
      obtain ⟨t,_,rfl⟩:=La.mp hx
      walk_at "mx"
      exact aY rfl)]
     rw [L6,L6]
     rfl
    erw [show iZ [some (.d (.tup [.str "many",n,.tup (ts.map trD)]))] S=.ok (.d (.lst ((ts.map (·.1)).map D.int))) S from eC S]
    erw [show i_ [some (.d (.tup [.str "many",n,.tup (ts.map trD)]))] S=.ok (.d (.lst ((ts.map (·.1)).map D.int))) S from eC S]
    erw [vc (ns:=ts.map (·.1)) rfl (by rw [J0];omega) (by have:=fP (ts.map (·.1));rw [J0] at this;omega)]
    erw [sQ (j3 _),fQ,uj]
    rw [ao]
    congr 3
    rw [Lp,Lp,Lp,Nk]
    exact ⟨fun h=>by rw [h];exact dk _,fun h=>i8 (fun _=>SV) h⟩
  | _=>cases hb
theorem Dp (hn:dO n=true) (hl:((r.length+2:Nat):Int)=5):leave S (rW [some (.d (.tup (.str "sum" :: n :: r)))] S)=.ok (.d (.bl (vv (.str "sum" :: n :: r)))) S:=by
  obtain ⟨b,l,h,rfl⟩:∃ b l h,r=[b,l,h]:=by
    match r,hl with
    | [b,l,h],_=>exact ⟨b,l,h,rfl⟩
    | [],h=>simp at h
    | [_],h=>simp at h
    | [_,_],h=>simp at h
    | _ :: _ :: _ :: _ :: _,h=>simp at h;omega
  obtain ⟨ns,rfl⟩:∃ ns,n=.tup ns:=by cases n<;>first | exact ⟨_,rfl⟩ | cases hn
  have i0:∀ S,oIx (.d (.tup [.str "sum",.tup ns,b,l,h])) (.d (.int 0)) S=.ok (.d (.str "sum")) S:=fun S=>aY ic
  have i1:∀ S,oIx (.d (.tup [.str "sum",.tup ns,b,l,h])) (.d (.int 1)) S=.ok (.d (.tup ns)) S:=fun S=>aY (bV (i:=1) rfl)
  have i2:∀ S,oIx (.d (.tup [.str "sum",.tup ns,b,l,h])) (.d (.int 2)) S=.ok (.d b) S:=fun S=>aY (bV (i:=2) rfl)
  have i3:∀ S,oIx (.d (.tup [.str "sum",.tup ns,b,l,h])) (.d (.int 3)) S=.ok (.d l) S:=fun S=>aY (bV (i:=3) rfl)
  have i4:∀ S,oIx (.d (.tup [.str "sum",.tup ns,b,l,h])) (.d (.int 4)) S=.ok (.d h) S:=fun S=>aY (bV (i:=4) rfl)
  unfold rW
  erw [bG,dP]
  erw [i0]
  erw [eqw,cN,show decide (("sum":Str)="many")=false by decide +kernel]
  erw [i0]
  erw [eqw,cN,JW rfl]
  erw [i2]
  rw [iL]
  show _=R.ok (Vl.d (D.bl (cu (-3) 3 b && (decide (fE b=(ns.length:Int)) && fB l h (-99) 99)))) S
  cases hb:cu (-3) 3 b with
  | false=>walk_at "mx";rw [ao];rfl
  | true=>
    obtain ⟨ws,rfl,_⟩:=gv hb
    unfold aQ at i0 i1 i2 i3 i4 ⊢
    walk_at "mx"
    erw [i2]
    erw [i1]
    rw [show fE (.tup (ws.map D.int))=((ws.map D.int).length:Int) from rfl]
    by_cases hd:((ws.map D.int).length:Int)=(ns.length:Int)
    · erw [JW hd]
      rw [show cW [D.str "sum",.tup ns,.tup (ws.map D.int),l,h] (some 3) none=[l,h] from rl (k:=3),iL]
      rw [show cu (-99) 99 (.tup [l,h])=(inB (-99) 99 l && (inB (-99) 99 h && true)) from rfl]
      unfold fB
      cases h1:inB (-99) 99 l with
      | false=>simp only [Ls,Mb];walk_at "mx";rw [ao]
      | true=>
        cases h2:inB (-99) 99 h with
        | false=>simp only [Ls,Mb];walk_at "mx";rw [ao]
        | true=>
          obtain ⟨x,rfl,_⟩:=eF h1
          obtain ⟨y,rfl,_⟩:=eF h2
          erw [show (true && (true && true))=true from rfl]
          erw [i3]
          erw [i4]
          rw [ao]
          rfl
    · erw [H0 hd]
      rw [ao]
      rfl
theorem EX (hf:Fit (.tup (.str "row" :: n :: r))) (hl:((r.length+2:Nat):Int)=4):leave S (rW [some (.d (.tup (.str "row" :: n :: r)))] S)=.ok (.d (.bl (vy (.str "row" :: n :: r)))) S:=by
 obtain ⟨b,e,rfl⟩:∃ b e,r=[b,e]:=by
  match r,hl with
  | [b,e],_=>exact ⟨b,e,rfl⟩
  | [],h=>simp at h
  | [_],h=>simp at h
  | _ :: _ :: _ :: _,h=>simp at h;omega
 have i0:∀ S,oIx (.d (.tup [.str "row",n,b,e])) (.d (.int 0)) S=.ok (.d (.str "row")) S:=fun S=>aY ic
 have i2:∀ S,oIx (.d (.tup [.str "row",n,b,e])) (.d (.int 2)) S=.ok (.d b) S:=fun S=>aY (bV (i:=2) rfl)
 have i3:∀ S,oIx (.d (.tup [.str "row",n,b,e])) (.d (.int 3)) S=.ok (.d e) S:=fun S=>aY (bV (i:=3) rfl)
 unfold rW
 erw [bG,dP]
 erw [i0]
 erw [eqw,cN,show decide (("row":Str)="many")=false by decide +kernel]
 erw [i0]
 erw [eqw,cN,show decide (("row":Str)="sum")=false by decide +kernel]
 erw [i0]
 erw [eqw,cN,JW rfl]
 erw [i2]
 rw [yO]
 show _=R.ok (Vl.d (D.bl (nJ b && (cu 0 3 e && zh e)))) S
 have split:∀ xs:List D,nJ (.tup xs)=(decide ((xs.length:Int)≤12) && ((xs.all dg && xs.all enB) && decide ((xs.map listI).Nodup))):=fun xs=>by
  rw [show nJ (.tup xs)=(decide ((xs.length:Int)≤12) && (xs.all iR && decide ((xs.map listI).Nodup))) from rfl,show (xs.all iR)=(xs.all dg && xs.all enB) by rw [← mE];congr 1;funext d;exact BR]
 cases hb:zT 12 b with
 | false=>
  walk_at "mx"
  rw [ao]
  congr 3
  cases b with
  | tup xs=>
   have hb:(decide ((xs.length:Int)≤12) && xs.all dg)=false:=hb
   rw [split]
   cases h1:decide ((xs.length:Int)≤12) with
   | false=>rfl
   | true=>rw [h1,Lp] at hb;rw [hb];rfl
  | _=>rfl
 | true=>
  walk_at "mx"
  erw [i3]
  rw [iL]
  cases he:cu 0 3 e with
  | false=>walk_at "mx";rw [ao,Ls,Mb]
  | true=>
   obtain ⟨es,rfl,_⟩:=gv he
   have hle:=hf _ n b (es.map D.int) rfl
   rw [J0] at hle
   cases b with
   | tup xs=>
    have hb:(decide ((xs.length:Int)≤12) && xs.all dg)=true:=hb
    rw [Ko] at hb
    have hl4:(xs.length:Int)≤12:=Li hb.1
    have ht:=hb.2
    obtain ⟨ts,rfl,_⟩:=iS (fun d=>lI) ht
    rw [split,JW hl4,ht]
    rw [J0] at hl4
    walk_at "mx"
    rw [show i7 [some (.d (.tup [.str "row",n,.tup (ts.map trD),aQ es]))] S=.ok (.d (.lst (((ts.map trD).map Vl.d).filterMap (onF enB)))) S from jS (p:=enB) (by walk_at "mx";exact i2 S) (fun d hd S=>by
     obtain ⟨t,_,rfl⟩:=La.mp hd
     have j0:∀ S,oIx (.d (trD t)) (.d (.int 0)) S=.ok (.d (.int t.1)) S:=fun S=>aY rfl
     have j2:∀ S,oIx (.d (trD t)) (.d (.int 2)) S=.ok (.d (.int t.2.2)) S:=fun S=>aY rfl
     walk_at "mx"
     erw [j0]
     erw [j2]
     erw [iL]
     show R.ok (!(inB 0 3 (.int t.1) && (inB 0 3 (.int t.2.2) && true))) S=R.ok (!(inB 0 3 (.int t.1) && inB 0 3 (.int t.2.2))) S
     rw [U3]) (fun _=>rfl)]
    walk_at "mx"
    rw [pw (p:=enB) (fun _=>rfl)]
    cases hc:(ts.map trD).all enB with
    | false=>walk_at "mx";rw [ao];rfl
    | true=>
     walk_at "mx"
     erw [i2]
     erw [tG (by omega)]
     erw [i2]
     rw [J0,yM,rN]
     cases hd:decide ((ts.map nM).Nodup) with
     | false=>walk_at "mx";rw [ao];rfl
     | true=>
      walk_at "mx"
      rw [i3]
      unfold aQ
      walk_at "mx"
      erw [show oIx (.d (.tup [.str "row",n,.tup (ts.map trD),.tup (es.map D.int)])) (.d (.int 3)) S=.ok (.d (.tup (es.map D.int))) S from i3 S]
      erw [vc (ns:=es) rfl (by omega) (by have:=fP es;omega)]
      erw [sQ (j3 _),fQ]
      rw [ao]
      show R.ok (Vl.d (D.bl (decide (es=bJ es)))) S=R.ok (Vl.d (D.bl (decide (((es.map D.int).map intOf).Pairwise (· < ·))))) S
      rw [iE]
      congr 3
      rw [Nk]
      exact ⟨fun h=>by rw [h];exact dk _,fun h=>i8 (fun _=>SV) h⟩
   | _=>cases hb
theorem B7 (hn:dO n=true) (hl:((r.length+2:Nat):Int)=3):leave S (rW [some (.d (.tup (.str "hand" :: n :: r)))] S)=.ok (.d (.bl (vf (.str "hand" :: n :: r)))) S:=by
  obtain ⟨b,rfl⟩:∃ b,r=[b]:=by
    match r,hl with
    | [b],_=>exact ⟨b,rfl⟩
    | [],h=>simp at h
    | _ :: _ :: _,h=>simp at h;omega
  obtain ⟨ns,rfl⟩:∃ ns,n=.tup ns:=by cases n<;>first | exact ⟨_,rfl⟩ | cases hn
  have i0:∀ S,oIx (.d (.tup [.str "hand",.tup ns,b])) (.d (.int 0)) S=.ok (.d (.str "hand")) S:=fun S=>aY ic
  have i1:∀ S,oIx (.d (.tup [.str "hand",.tup ns,b])) (.d (.int 1)) S=.ok (.d (.tup ns)) S:=fun S=>aY (bV (i:=1) rfl)
  have i2:∀ S,oIx (.d (.tup [.str "hand",.tup ns,b])) (.d (.int 2)) S=.ok (.d b) S:=fun S=>aY (bV (i:=2) rfl)
  unfold rW
  erw [bG,dP]
  erw [i0]
  erw [eqw,cN,show decide (("hand":Str)="many")=false by decide +kernel]
  erw [i0]
  erw [eqw,cN,show decide (("hand":Str)="sum")=false by decide +kernel]
  erw [i0]
  erw [eqw,cN,show decide (("hand":Str)="row")=false by decide +kernel]
  erw [i0]
  erw [eqw,cN,show decide (("hand":Str)="unlike")=false by decide +kernel]
  erw [i2]
  rw [iL]
  show _=R.ok (Vl.d (D.bl (cu 1 4 b && decide (fE b=(ns.length:Int))))) S
  cases hb:cu 1 4 b with
  | false=>walk_at "mx";rw [ao];rfl
  | true=>
    obtain ⟨ws,rfl,_⟩:=gv hb
    unfold aQ at i0 i1 i2 ⊢
    walk_at "mx"
    erw [i2]
    erw [i1]
    rw [ao]
    rfl
theorem Ey:leave S (rW [some (.d (.tup [.str "unlike",n]))] S)=.ok (.d (.bl true)) S:=by
 have i0:∀ S,oIx (.d (.tup [.str "unlike",n])) (.d (.int 0)) S=.ok (.d (.str "unlike")) S:=fun S=>aY ic
 unfold rW
 erw [bG,dP]
 erw [i0]
 erw [eqw,cN,show decide (("unlike":Str)="many")=false by decide +kernel]
 erw [i0]
 erw [eqw,cN,show decide (("unlike":Str)="sum")=false by decide +kernel]
 erw [i0]
 erw [eqw,cN,show decide (("unlike":Str)="row")=false by decide +kernel]
 erw [i0]
 erw [eqw,cN,JW rfl]
 rw [ao]
theorem uT (hf:Fit d):cq [.d d] S=.ok (.d (.bl (jy d))) S:=by
 cases d with
 | tup xs=>
  match xs,hf with
  | a :: n :: r,hf=>
   cases hs:nV a with
   | true=>
    unfold cq
    erw [bw,mB,bG,dP]
    erw [cS]
    erw [H0 (by omega)]
    erw [aY (show atI (a :: n :: r) 0=some a from ic)]
    erw [vW,G7 hs]
    rw [ao,show jy (.tup (a :: n :: r))=(dO n && dh (a :: n :: r)) from rfl,Bj hs,Mb]
   | false=>
    cases a with
    | str w=>
     have fin:∀ (L:Int) (k:Bool),(jU.any fun e=>D.eqv (.str e) (.str w))=true→[(("unlike":Str),(2:Int)),("many",3),("sum",5),("row",4),("hand",3)].lookup w=some L→dh (.str w :: n :: r)=k→(((r.length+2:Nat):Int)=L→dO n=true→leave S (rW [some (.d (.tup (.str w :: n :: r)))] S)=.ok (.d (.bl k)) S)→(¬((r.length+2:Nat):Int)=L→k=false)→cq [.d (.tup (.str w :: n :: r))] S=.ok (.d (.bl (dO n && dh (.str w :: n :: r)))) S:=by
      intro L k h5 hL ek h1 h2
      rw [CL h5 hL,ek]
      cases hn:dO n with
      | false=>rw [J9 (by rintro ⟨h,_⟩;cases h)];rfl
      | true=>
       by_cases hl:((r.length+2:Nat):Int)=L
       ·rw [J2 ⟨rfl,hl⟩,h1 hl hn];rfl
       ·rw [J9 (fun z=>hl z.2),h2 hl];rfl
     show _=R.ok (Vl.d (D.bl (dO n && dh (.str w :: n :: r)))) S
     by_cases h1:w="unlike"
     ·subst h1
      refine fin 2 _ (by decide +kernel) (by decide +kernel) rfl (fun hl _=>?_) (fun hl=>?_)
      ·match r,hl with
       | [],_=>exact Ey
       | _ :: _,hl=>simp at hl;omega
      ·show decide (((n :: r).length:Int)=1)=false
       rw [H0]
       simp only [Km]
       omega
     ·by_cases h2:w="many"
      ·subst h2
       refine fin 3 _ (by decide +kernel) (by decide +kernel) rfl (fun hl _=>B2 hl) (fun hl=>?_)
       match r,hl with
       | [],_=>rfl
       | [b],hl=>exact absurd rfl hl
       | _ :: _ :: _,_=>rfl
      ·by_cases h3:w="sum"
       ·subst h3
        refine fin 5 _ (by decide +kernel) (by decide +kernel) rfl (fun hl hn=>Dp hn hl) (fun hl=>?_)
        match r,hl with
        | [],_=>rfl
        | [_],_=>rfl
        | [_,_],_=>rfl
        | [_,_,_],hl=>exact absurd rfl hl
        | _ :: _ :: _ :: _ :: _,_=>rfl
       ·by_cases h4:w="row"
        ·subst h4
         refine fin 4 _ (by decide +kernel) (by decide +kernel) rfl (fun hl _=>EX hf hl) (fun hl=>?_)
         match r,hl with
         | [],_=>rfl
         | [_],_=>rfl
         | [_,_],hl=>exact absurd rfl hl
         | _ :: _ :: _ :: _,_=>rfl
        ·by_cases h5:w="hand"
         ·subst h5
          refine fin 3 _ (by decide +kernel) (by decide +kernel) rfl (fun hl hn=>B7 hn hl) (fun hl=>?_)
          match r,hl with
          | [],_=>rfl
          | [_],hl=>exact absurd rfl hl
          | _ :: _ :: _,_=>rfl
         ·unfold cq
          erw [bw,mB,bG,dP]
          erw [cS]
          erw [H0 (by omega)]
          erw [aY (show atI (.str w :: n :: r) 0=some (.str w) from ic)]
          erw [vW,IJ h1 h2 h3 h4 h5]
          rw [ao,show dh (.str w :: n :: r)=false by unfold dh;dsimp only;rw [J9 h1,J9 h2,J9 h3,J9 h4,J9 h5],Mb]
    | _=>cases hs
  | [],_=>
   unfold cq
   erw [bw,mB,bG,dP]
   erw [cS]
   erw [JW (by decide)]
   rw [ao]
   rfl
  | [_],_=>
   unfold cq
   erw [bw,mB,bG,dP]
   erw [cS]
   erw [JW (by decide)]
   rw [ao]
   rfl
 | _=>
  unfold cq
  erw [bw,mB,bG,dP]
  erw [cD]
  rw [ao]
  rfl
def ke:D→Bool
 | .tup xs=>xs.all (inB (-9) 9) && (decide (1≤(xs.length:Int)) && decide ((xs.length:Int)≤4) && decide ((xs.map intOf).Pairwise (· < ·)))
 | _=>false
def stB:D→Bool
 | .tup xs=>decide (1≤(xs.length:Int)) && decide ((xs.length:Int)≤4) && xs.all ke
 | _=>false
theorem ze:fW [.d d] S=.ok (.d (.bl (ke d))) S:=by
 unfold fW
 rw [bw]
 unfold kG
 walk_at "mx"
 rw [lG]
 cases d with
 | tup xs=>
  dsimp only
  show _=R.ok (Vl.d (D.bl (xs.all (inB (-9) 9) && _))) S
  cases h:xs.all (inB (-9) 9) with
  | false=>walk_at "mx";rw [ao,Ls]
  | true=>
   obtain ⟨ns,rfl,hn⟩:=gq h
   walk_at "mx"
   rw [iE,J0,Lp]
   by_cases h1:(1:Int)≤(ns.length:Int)
   ·erw [JW h1]
    by_cases h2:(ns.length:Int)≤4
    ·erw [JW h2]
     erw [show D.tup (ns.map D.int)=aQ ns from rfl,kQ (by omega)]
     rw [ao]
     rfl
    ·erw [H0 h2]
     rw [ao]
     rfl
   ·erw [H0 h1]
    rw [ao]
    rfl
 | _=>(dsimp only;walk_at "mx";rw [ao];rfl)
theorem Dd:ig [.d d] S=.ok (.d (.bl (stB d))) S:=by
 unfold ig
 rw [bw]
 unfold mU
 walk_at "mx"
 rw [cD]
 cases d with
 | tup xs=>
  dsimp only
  walk_at "mx"
  show _=R.ok (Vl.d (D.bl (decide (1≤(xs.length:Int)) && decide ((xs.length:Int)≤4) && xs.all ke))) S
  by_cases h1:(1:Int)≤(xs.length:Int)
  ·erw [JW h1]
   by_cases h2:(xs.length:Int)≤4
   ·erw [JW h2]
    rw [gB (show _=mR [some (.d (.tup xs))] S from rfl) (xs:=xs) (S1:=S) (by walk_at "mx") (fun d=>.bl (ke d)) (by
     intro x hx S
     walk_at "mx"
     rw [ze]
     walk_at "mx")]
    walk_at "mx"
    erw [iV]
    rw [ao]
    rfl
   ·erw [H0 h2]
    rw [ao]
    rfl
  ·erw [H0 h1]
   rw [ao]
   rfl
 | _=>(dsimp only;walk_at "mx";rw [ao];rfl)
theorem E6:if1 (.ok (!b) S) (aD (xC (.bl false))) aI τ=.ok ((if b then .nx else .rt (.d (.bl false))),τ) S:=by cases b<;>rfl
theorem sF {g:XG} {b:XS} {S:Sto} {α:Type} {d:α→Vl} {ok:α→Bool} {J:Nv→Prop}:∀ (xs:List α) (τ:Nv),J τ→(∀ x∈xs,∀ τ,J τ→∃ τ1 τ2,g (d x) τ S=.ok τ1 S∧J τ2∧b τ1 S=.ok ((if ok x then .nx else .rt (.d (.bl false))),τ2) S) →
  ∃ τ',J τ'∧cK g b none (xs.map d) τ S=.ok ((if xs.all ok then .nx else .rt (.d (.bl false))),τ') S
 | [],τ,h,_=>⟨τ,h,rfl⟩
 | x :: xs,τ,h,hs=>by
  obtain ⟨τ1,τ2,e1,h2,e2⟩:=hs x Ks τ h
  cases q:ok x with
  | false=>
   refine ⟨τ2,h2,?_⟩
   rw [Kx,cK,e1,bI,e2,q,bI,Lz,q]
   rfl
  | true=>
   obtain ⟨τ',h',e'⟩:=sF xs τ2 h2 (fun y hy=>hs y (Kk _ hy))
   refine ⟨τ',h',?_⟩
   rw [Kx,cK,e1,bI,e2,q,bI,Lz,q,Lp,← e']
   exact J2 Kp
theorem B9 {it:XI} {g:XG} {b:XS} {τ:Nv} {S:Sto} {r:R (Fl×Nv)} (hL:d_ it g b τ S=r) {α:Type} {d:α→Vl} {xs:List α} (hit:it τ S=.ok ⟨xs.map d,none⟩ S) (ok:α→Bool) (J:Nv→Prop) (h0:J τ)
  (hs:∀ x∈xs,∀ τ,J τ→∃ τ1 τ2,g (d x) τ S=.ok τ1 S∧J τ2∧b τ1 S=.ok ((if ok x then .nx else .rt (.d (.bl false))),τ2) S):∃ τ',J τ'∧r=.ok ((if xs.all ok then .nx else .rt (.d (.bl false))),τ') S:=by
 obtain ⟨τ',h',e⟩:=sF xs τ h0 hs
 refine ⟨τ',h',?_⟩
 rw [← hL,lD,hit,vA]
 exact e
theorem xB:decide (ps=bJ ps)=decide (ps.Pairwise (· < ·)):=by
 rw [Nk]
 exact ⟨fun h=>by rw [h];exact dk ps,fun h=>i8 (fun _=>SV) h⟩
theorem Jb:kL [x0,some (.d (.tup ys))] S=.ok (.d (.lst ((ys.map Vl.d).filterMap (onF (inB (-9) 9))))) S:=by
 refine jS (p:=inB (-9) 9) (by walk_at "mx") (fun d _ S=>?_) fun _=>rfl
 walk_at "mx"
 rw [kv]
 cases d with
 | int n=>
  erw [show eI (.int n)=true from rfl,show inB (-9) 9 (.int n)=(decide (-9≤n) && decide (n≤9)) from rfl]
  by_cases h:n < -9
  ·rw [JW h,H0 (show ¬-9≤n by omega)];walk_at "mx";rfl
  ·rw [H0 h,JW (show -9≤n by omega)];walk_at "mx"
   by_cases h2:9 < n
   ·rw [JW h2,H0 (show ¬n≤9 by omega)];rfl
   ·rw [H0 h2,JW (show n≤9 by omega)];rfl
 | _=>(rw [show eI _=false from rfl];walk_at "mx";rfl)
theorem tR {xs:List D}:∃ τ',(∃ x1,τ'=[some (.d (.tup xs)),x1])∧hU [some (.d (.tup xs)),none] S=.ok ((if xs.all ke then .nx else .rt (.d (.bl false))),τ') S:=by
 refine B9 (show _=hU [some (.d (.tup xs)),none] S from rfl) (d:=Vl.d) (by walk_at "mx") ke (fun τ=>∃ x1,τ=[some (.d (.tup xs)),x1]) ⟨_,rfl⟩ ?_
 rintro d hd τ ⟨x1,rfl⟩
 refine ⟨_,[some (.d (.tup xs)),some (.d d)],gL,⟨_,rfl⟩,?_⟩
 cases d with
 | tup ys=>
  rw [show ke (.tup ys)=(ys.all (inB (-9) 9) && (decide (1≤(ys.length:Int)) && decide ((ys.length:Int)≤4) && decide ((ys.map intOf).Pairwise (· < ·)))) from rfl]
  by_cases h1:(ys.length:Int) < 1
  ·simp? [cS,JW h1,H0 (show ¬(1:Int)≤(ys.length:Int) by omega),Ls,Mb]
  ·by_cases h2:(4:Int) < (ys.length:Int)
   ·simp? [cS,H0 h1,JW h2,H0 (show ¬(ys.length:Int)≤4 by omega),Ls,Mb]
   ·simp? [cS,H0 h1,H0 h2,Jb,pw (p:=inB (-9) 9) (f:=onF (inB (-9) 9)) (fun _=>rfl)]
    cases ha:ys.all (inB (-9) 9) with
    | false=>walk_at "mx";rfl
    | true=>
     obtain ⟨ns,rfl,hn⟩:=gq ha
     rw [J0] at h1 h2
     simp? [vc (x:=.d (.tup (ns.map D.int))) (S:=S) (ns:=ns) rfl (by omega) (by have:=fP ns;omega),r_ (j3 ns),fQ,xB,iE,J0,JW (show (1:Int)≤(ns.length:Int) by omega),JW (show (ns.length:Int)≤4 by omega),Lp]
     exact E6
 | _=>(simp? [cD];rfl)
theorem tu:fX [.d d] S=.ok (.d (.bl (stB d))) S:=by
 unfold fX
 rw [bw]
 unfold kI
 rw [bG]
 cases d with
 | tup xs=>
  rw [show stB (.tup xs)=(decide (1≤(xs.length:Int)) && decide ((xs.length:Int)≤4) && xs.all ke) from rfl]
  by_cases h1:(xs.length:Int) < 1
  ·simp? [cS,JW h1,H0 (show ¬(1:Int)≤(xs.length:Int) by omega),ao,Ls]
  ·by_cases h2:(4:Int) < (xs.length:Int)
   ·simp? [cS,H0 h1,JW h2,H0 (show ¬(xs.length:Int)≤4 by omega),ao,Ls,Mb]
   ·obtain ⟨τ',⟨x1,rfl⟩,e⟩:=tR (xs:=xs) (S:=S)
    simp? [cS,H0 h1,H0 h2,JW (show (1:Int)≤(xs.length:Int) by omega),JW (show (xs.length:Int)≤4 by omega),e,Lp]
    cases xs.all ke with
    | true=>simp? [ao]
    | false=>simp? [ao]
 | _=>(simp? [cD,ao];rfl)
theorem oz:isT "bool" d=(match d with | .bl _=>true | _=>false):=by cases d<;>rfl
theorem qU:isT "int" d=(match d with | .bl _=>true | .int _=>true | _=>false):=by cases d<;>rfl
theorem v9:isT "str" d=(match d with | .str _=>true | _=>false):=by cases d<;>rfl
theorem A5:isT "list" d=(match d with | .lst _=>true | _=>false):=by cases d<;>rfl
theorem zt:fJ xs xs=xs.map fun x=>Vl.d (.tup [x,x]):=by
 induction xs with
 | nil=>rfl
 | cons x xs ih=>rw [Kx,← ih];rfl
theorem rF {α:Type} {l:List α}:eH (.d (.bl false)) (.d (.lst (l.map fun _=>D.bl true))) S=.ok (.d (.bl true)) S:=by
 unfold eH inX
 dsimp only
 rw [show cb (.d (.lst (l.map fun _=>D.bl true))) S=some (l.map fun _=>D.bl true) from rfl]
 dsimp only
 rw [J2 (by rw [show D.flat (.bl false)=true from rfl,Ol];simp [D.flat])]
 unfold inD
 rw [SJ,show l.any ((fun e=>D.eqv e (D.bl false)) ∘ fun _=>D.bl true)=false from SX.mpr fun x _=>by simp [D.eqv]]
 rfl
theorem lcG (hit:it τ S=.ok ⟨items,none⟩ S1) (own:Vl→Nv) (f:Vl→D) (p:Vl→Bool) (hown:∀ z∈items,(own z).length=k) (hg:∀ z∈items,∀ ρ:Nv,ρ.length=k→∀ S:Sto,g z (ρ++τ) S=.ok (own z++τ) S)
  (ht:∀ z∈items,∀ S:Sto,t (own z++τ) S=.ok (p z) S) (he:∀ z∈items,p z=true→∀ S:Sto,e (own z++τ) S=.ok (.d (f z)) S):xLC it k g t e τ S=.ok (.d (.lst ((items.filter p).map f))) S1:=by
 have key:∀ (zs:List Vl) (acc:List D) (ρ:Nv),(∀ z∈zs,z∈items)→ρ.length=k→g_ g t e S1.length none zs acc (ρ++τ) (S1++[.lst acc])=.ok (acc++(zs.filter p).map f) (S1++[.lst (acc++(zs.filter p).map f)]):=by
  intro zs
  induction zs with
  | nil=>
   intro acc ρ _ _
   rw [g_,J2 (by simp)]
   simp
  | cons z zs ih=>
   intro acc ρ hz hl
   have hm:=hz z (Ks ..)
   rw [g_,hg z hm ρ hl,bI,ht z hm,bI]
   by_cases hp:p z=true
   ·rw [J2 hp,he z hm hp,bI]
    dsimp only
    rw [J2 ⟨by simp,Kp⟩]
    rw [show (S1++[Ob.lst acc]).set S1.length (.lst (acc++[f z]))=S1++[.lst (acc++[f z])] by simp]
    rw [ih (acc++[f z]) (own z) (fun y hy=>hz y (Kk _ hy)) (hown z hm),List.filter_cons_of_pos hp,Kx,P_]
    rfl
   ·rw [J9 hp,J2 (show gok none (S1++[Ob.lst acc]) from Kp),ih acc (own z) (fun y hy=>hz y (Kk _ hy)) (hown z hm),List.filter_cons_of_neg hp]
 show (it τ S).bind _=_
 rw [hit,bI]
 dsimp only
 rw [key items [] (Kb k none) (fun _ h=>h) (by simp),bI]
 unfold oW
 rw [J2 (by simp),Ux]
 simp
theorem uf (ha:iZp (aa a (aa b aj)) τ S=.ok ⟨fJ xs xs,none⟩ S) (h:∀ x∈xs,∀ S,c9 n [.d x,.d x] S=.ok (.d (.bl true)) S):xLC (iZp (aa a (aa b aj))) 2 (gTu 2 (gCo (gNm 0) (gCo (gNm 1) gN0))) (fun _ S=>.ok true S) (aw (c9 n) (aa (ae 0) (aa (ae 1) aj))) τ S=.ok (.d (.lst (xs.map fun _=>.bl true))) S:=by
 rw [zt] at ha
 rw [lcG ha (fun z=>match z with | .d (.tup [a,b])=>[some (.d a),some (.d b)] | _=>[none,none]) (fun _=>.bl true) (fun _=>true) ?_ ?_ ?_ ?_,List.filter_eq_self.mpr (fun _ _=>rfl),L6]
 ·rfl
 all_goals intro z hz;obtain ⟨x,hx,rfl⟩:=La.mp hz
 ·rfl
 ·intro ρ hρ S
  match ρ,hρ with
  | [_,_],_=>walk_at "mx"
 ·intro S;rfl
 ·intro _ S
  dsimp only
  simp? [h x hx]
theorem same_self:∀ (n:Nat) (d:D),D.depth d < n→∀ S,c9 n [.d d,.d d] S=.ok (.d (.bl true)) S
 | n+1,d,hd,S=>by
  have sq:∀ xs:List D,D.bK xs < n→∀ x∈xs,∀ S,c9 n [.d x,.d x] S=.ok (.d (.bl true)) S:=by
   intro xs
   induction xs with
   | nil=>simp
   | cons y ys ih=>
    intro h x hx
    have h:max (D.depth y) (D.bK ys) < n:=h
    rcases J1.mp hx with rfl | hx
    ·exact same_self n x (by omega)
    ·exact ih (by omega) x hx
  unfold c9
  rw [dI]
  unfold qo qv
  cases d with
  | tup xs=>simp? [oz,qU,v9,cD,A5,uf (a:=ae 0) (b:=ae 1) (τ:=[some (.d (.tup xs)),some (.d (.tup xs))]) (S:=S) (by walk_at "mx") (sq xs (show D.bK xs < n by have:D.bK xs+1 < n+1:=hd;omega)),rF,ao]
  | lst xs=>simp? [oz,qU,v9,cD,A5,uf (a:=ae 0) (b:=ae 1) (τ:=[some (.d (.lst xs)),some (.d (.lst xs))]) (S:=S) (by walk_at "mx") (sq xs (show D.bK xs < n by have:D.bK xs+1 < n+1:=hd;omega)),rF,ao]
  | non=>simp? [ao]
  | bl b=>simp? [show oIs (.d (.bl b)) (.d .non) S=.ok (.d (.bl false)) S from rfl,oz,ao]
  | int a=>simp? [oz,qU,ao]
  | str a=>simp? [show oIs (.d (.str a)) (.d .non) S=.ok (.d (.bl false)) S from rfl,oz,qU,v9,ao]
def ofB (k:Int):D→Bool
 | .tup (a :: .tup ns :: r)=>jy (.tup (a :: .tup ns :: r)) && ns.all (fun x=>decide (intOf x < k))
 | _=>false
theorem yX (h:jy w=true):∃ a n ns r,w=.tup (a :: aQ (n :: ns) :: r):=by
 match w,h with
 | .tup (a :: .tup xs :: r),h=>
  have h:(dO (.tup xs) && dh (a :: .tup xs :: r))=true:=h
  rw [Ko] at h
  have h:(xs.all (inB 0 3) && (decide (1≤(xs.length:Int)) && decide ((xs.length:Int)≤4) && decide ((xs.map intOf).Nodup)))=true:=h.1
  simp only [Ko,M8] at h
  obtain ⟨ns,rfl,hn⟩:=gq h.1
  match ns,h with
  | n :: ns,_=>exact ⟨a,n,ns,r,rfl⟩
  | [],h=>simp at h
 | .tup (a :: .non :: r),h=>cases h
 | .tup (a :: .bl _ :: r),h=>cases h
 | .tup (a :: .int _ :: r),h=>cases h
 | .tup (a :: .str _ :: r),h=>cases h
 | .tup (a :: .lst _ :: r),h=>cases h
theorem Fm (h:jy w=false):ofB k w=false:=by
 unfold ofB
 split
 ·rw [h];rfl
 ·rfl
theorem C6 {ns:List Int}:(ns.map D.int).all (fun x=>decide (intOf x < k))=decide (∀ n∈ns,n < k):=by
 rw [Ol,Lm,Mv,PN]
 exact ⟨fun h n hn=>Li (h n hn),fun h n hn=>JW (h n hn)⟩
theorem JK (hf:Fit w):gj [.d (.tup xs),.d w] S=.ok (.d (.bl (ofB xs.length w))) S:=by
 unfold gj
 rw [dI]
 unfold kJ
 cases h:jy w with
 | false=>simp? [yR hf,h,Fm h,ao]
 | true=>
  obtain ⟨a,n,ns,r,rfl⟩:=yX h
  rw [show ofB xs.length (.tup (a :: aQ (n :: ns) :: r))=(jy (.tup (a :: aQ (n :: ns) :: r)) && ((n :: ns).map D.int).all (fun x=>decide (intOf x < (xs.length:Int)))) from rfl,h]
  have e:=gB (show _=kE [some (.d (.tup xs)),some (.d (.tup (a :: aQ (n :: ns) :: r)))] S from rfl) (xs:=(n :: ns).map D.int) (S1:=S) (by simp? [aY (show atI (a :: aQ (n :: ns) :: r) 1=some (aQ (n :: ns)) from bV (i:=1) rfl)];rfl) (fun x=>.bl (decide (intOf x < (xs.length:Int)))) (by
   intro x hx S
   obtain ⟨m,_,rfl⟩:=La.mp hx
   simp? []
   rfl)
  generalize (n :: ns).map D.int=l at e
  simp? [yR hf,h,e,iV,ao,Lp]
theorem Bu {xs:List D} (hf:Fit w):fM [.d (.tup xs),.d w] S=.ok (.d (.bl (ofB xs.length w))) S:=by
 unfold fM
 rw [dI]
 unfold om
 cases h:jy w with
 | false=>simp? [uT hf,h,Fm h,ao]
 | true=>
  obtain ⟨a,n,ns,r,rfl⟩:=yX h
  simp? [uT hf,h,aY (show atI (a :: aQ (n :: ns) :: r) 1=some (aQ (n :: ns)) from bV (i:=1) rfl),show nF best [.d (aQ (n :: ns))] S=.ok (.d (.int (best ns n))) S from He,ao]
  rw [show ofB xs.length (.tup (a :: aQ (n :: ns) :: r))=(jy (.tup (a :: aQ (n :: ns) :: r)) && ((n :: ns).map D.int).all (fun x=>decide (intOf x < (xs.length:Int)))) from rfl,h,C6,Lp]
  congr 4
  obtain ⟨h1,h2,h3⟩:=o9 ns n
  refine propext ⟨fun h m hm=>?_,fun h=>?_⟩
  ·rcases J1.mp hm with rfl | hm
   ·omega
   ·have:=h3 m hm;omega
  ·rcases h1 with e | e
   ·rw [e];exact h n (.head _)
   ·exact h _ (.tail _ e)
theorem fS:eN [.d d] S=if stB d=true then .ok (.d .non) S else .ex "NoStand" [] S:=by
 unfold eN
 rw [bw]
 unfold kR
 cases h:stB d<;>simp! [Dd,h,L7,L3,K7]
theorem jE (hf:Fit w) (hi:i < 1000):c5 [.d (.tup xs),.d w,.d (.int (i:Nat))] S=if ofB xs.length w=true then .ok (.d .non) S else .ex "NoWish" [("number",.int (i:Nat))] S:=by
 unfold c5
 rw [eO]
 unfold kZ
 have hz:((i:Nat):Int).natAbs < 2 ^ 60:=by omega
 cases h:ofB xs.length w<;>simp! [JK hf,h,GZ hz,L7,L3,K7]
theorem rK (h:stB d=true):∃ xs,d=.tup xs:=by
 cases d with
 | tup xs=>exact ⟨xs,rfl⟩
 | _=>cases h
def pA:D→Int
 | .tup xs=>xs.length
 | _=>0
def lg (d:D) (ws:List D):Option (Str×List (Str×D)):=if stB d=true then (match ws.findIdx? (fun w=>!ofB (pA d) w) with
  | some i=>some ("NoWish",[("number",.int (i:Nat))])
  | none=>if 3 < ws.length then some ("TooMany",[]) else none) else some ("NoStand",[])
def lX (S:Sto):Option (Str×List (Str×D))→R Vl
 | some p=>.ex p.1 p.2 S
 | none=>.ok (.d .non) S
theorem yK (h:stB d=false):lX S (lg d ws)=.ex "NoStand" [] S:=by
 unfold lg
 rw [h]
 rfl
theorem F8 (hf:Fit w):lT [.d d,.d w] S=lX S (lg d [w]):=by
 unfold lT
 rw [dI]
 unfold t9
 cases h:stB d with
 | false=>simp! [yK h,fS,h,L3,K7]
 | true=>
  obtain ⟨xs,rfl⟩:=rK h
  have q:c5 [.d (.tup xs),.d w,.d (.int 0)] S=if ofB xs.length w=true then .ok (.d .non) S else .ex "NoWish" [("number",.int 0)] S:=jE (i:=0) hf (by decide)
  unfold lg
  rw [J2 h,PF,show pA (.tup xs)=xs.length from rfl]
  cases h2:ofB xs.length w<;>(rw [h2] at q;simp! [fS,h,L7,L3,K7,q,Int.natCast_zero];rfl)
theorem uV (hf:∀ w∈ws,Fit w) (hl:ws.length < 1000):fR [.d d,.d (.lst ws)] S=lX S (lg d ws):=by
 unfold fR
 rw [dI]
 unfold mT
 cases h:stB d with
 | false=>simp! [yK h,fS,h,L3,K7]
 | true=>
  obtain ⟨xs,rfl⟩:=rK h
  unfold lg
  rw [J2 h,show pA (.tup xs)=xs.length from rfl]
  simp! [fS,h,L7]
  have e:jD [some (.d (.tup xs)),some (.d (.lst ws)),none,none] S=cK (gTu 2 (gCo (gNm 2) (gCo (gNm 3) gN0))) (eB (dZ c5 (aa (ae 0) (aa (ae 3) (aa (ae 2) aj))))) none (cH 0 ws) [some (.d (.tup xs)),some (.d (.lst ws)),none,none] S:=by
   unfold jD
   rw [lD,r0]
   simp! []
  rw [e]
  have hs:=lB (g:=gTu 2 (gCo (gNm 2) (gCo (gNm 3) gN0))) (b:=eB (dZ c5 (aa (ae 0) (aa (ae 3) (aa (ae 2) aj))))) (S:=S) (N:=1000) (ofB xs.length) (fun τ=>∃ a b,τ=[some (.d (.tup xs)),some (.d (.lst ws)),a,b]) (fun i r=>r=.ex "NoWish" [("number",.int (i:Nat))] S) (fun i r h=>.inl ⟨_,_,_,h⟩) ws 0 [some (.d (.tup xs)),some (.d (.lst ws)),none,none] (by omega) ⟨_,_,rfl⟩ (by
   rintro i w τ hi hw ⟨a,b,rfl⟩
   refine ⟨[some (.d (.tup xs)),some (.d (.lst ws)),some (.d (.int (i:Nat))),some (.d w)],by walk_at "mx",fun h=>⟨_,⟨some (.d (.int (i:Nat))),some (.d w),rfl⟩,?_⟩,fun h=>?_⟩
   ·simp! [jE (hf w hw) hi,h,L7]
   ·simp! [jE (hf w hw) hi,h,L3,K7])
  rcases hs with ⟨q,τ',⟨a,b,rfl⟩,e⟩ | ⟨i,q,e⟩
  ·rw [e,q]
   by_cases h3:(3:Int) < (ws.length:Int)
   ·simp! [JW h3,J2 (show 3 < ws.length by omega)]
    rfl
   ·simp! [H0 h3,J9 (show ¬3 < ws.length by omega)]
    rfl
  ·rw [e,q]
   simp! [Ot]
   rfl
def iU (d:D) (ws:List D):D:=if stB d=true then (match ws.findIdx? (fun w=>!ofB (pA d) w) with
  | some i=>.lst [.str "wish",.int (i:Nat)]
  | none=>if 3 < ws.length then .lst [.str "many"] else .lst [.str "told",.non]) else .lst [.str "stand"]
theorem GN:cY [.xc "NoStand" []] S=.ok (.d (.str "stand")) S:=by
 unfold cY
 rw [bw,show fU ([some (.xc "NoStand" [])]++Kb (2 - 1) none) S=.ok (.rt (.d (.str "stand")),[some (.xc "NoStand" []),some (.d (.lst ((J_ 9).map fun i=>.bl (decide (i=3)))))]) S by kernel_rfl,ao]
theorem GO:cY [.xc "TooMany" []] S=.ok (.d (.str "many")) S:=by
 unfold cY
 rw [bw,show fU ([some (.xc "TooMany" [])]++Kb (2 - 1) none) S=.ok (.rt (.d (.str "many")),[some (.xc "TooMany" []),some (.d (.lst ((J_ 9).map fun i=>.bl (decide (i=8)))))]) S by kernel_rfl,ao]
theorem IE:cY [.xc "NoWish" xs] S=.ok (.d (.str "wish")) S:=by
 unfold cY
 rw [bw,show fU ([some (.xc "NoWish" xs)]++Kb (2 - 1) none) S=.ok (.rt (.d (.str "wish")),[some (.xc "NoWish" xs),some (.d (.lst ((J_ 9).map fun i=>.bl (decide (i=5)))))]) S by kernel_rfl,ao]
theorem yw (h:(xIf (aF (xOp oEq (ae 0) (xC (.int 0)))) (aR (dZ lT (aa (ae 1) (aa (ae 2) aj))) (gNm 4)) (aR (dZ fR (aa (ae 1) (aa (ae 2) aj))) (gNm 4))) [some (.d (.int a)),some (.d d),some (.d x),some (.d .non),some (.d (.int 0)),none,none] S=as1 (lX S (lg d ws)) (gNm 4) [some (.d (.int a)),some (.d d),some (.d x),some (.d .non),some (.d (.int 0)),none,none]):fH [.d (.int a),.d d,.d x] S=.ok (.d (iU d ws)) S:=by
 unfold fH
 rw [eO]
 unfold pP
 erw [bG]
 rw [l4,h]
 have cx:∀ (c:Str) (xs:List (Str×D)),oIs (.xc c xs) (.d .non) S=.ok (.d (.bl false)) S:=fun _ _=>rfl
 have ew:∀ w:Str,ef (.d (.str w)) (.d (.str "wish")) S=.ok (.d (.bl (decide (w="wish")))) S:=fun w=>by rw [eqw,cN]
 unfold lg iU
 cases stB d with
 | false=>simp! [L3,K7,show lX S (some ("NoStand",[]))=.ex "NoStand" [] S from rfl,vx (show ("NoStand":Str)∈csX by decide),cx,GN,ew,show decide (("stand":Str)="wish")=false by decide,ao]
 | true=>
  cases ws.findIdx? (fun w=>!ofB (pA d) w) with
  | some i=>simp! [L7,show lX S (some ("NoWish",[("number",.int (i:Nat))]))=.ex "NoWish" [("number",.int (i:Nat))] S from rfl,vx (show ("NoWish":Str)∈csX by decide),cx,IE,ew,ao]
  | none=>
   by_cases h3:3 < ws.length
   ·simp! [L7,J2 h3,show lX S (some ("TooMany",[]))=.ex "TooMany" [] S from rfl,vx (show ("TooMany":Str)∈csX by decide),cx,GO,ew,show decide (("many":Str)="wish")=false by decide,ao]
   ·simp! [L7,J9 h3,show lX S none=.ok (.d .non) S from rfl,ao]
theorem A_ (hf:∀ w∈ws,Fit w) (hl:ws.length < 1000):j4 [.d d,.d (.lst ws)] S=.ok (.d (iU d ws)) S:=by
 unfold j4
 rw [dI]
 unfold sZ iU
 cases h:stB d with
 | false=>simp! [tu,h,ao,L3,K7]
 | true=>
  obtain ⟨xs,rfl⟩:=rK h
  rw [show pA (.tup xs)=xs.length from rfl,J2 rfl]
  simp! [tu,h]
  have e:ni [some (.d (.tup xs)),some (.d (.lst ws)),none,none] S=cK (gTu 2 (gCo (gNm 2) (gCo (gNm 3) gN0))) (xIf (bH (bx (aw fM (aa (ae 0) (aa (ae 3) aj))))) (aD (xN mkL (aa (xC (.str "wish")) (aa (ae 2) aj)))) aI) none (cH 0 ws) [some (.d (.tup xs)),some (.d (.lst ws)),none,none] S:=by
   unfold ni
   rw [lD,r0]
   simp! []
  rw [e]
  have hs:=lB (g:=gTu 2 (gCo (gNm 2) (gCo (gNm 3) gN0))) (b:=xIf (bH (bx (aw fM (aa (ae 0) (aa (ae 3) aj))))) (aD (xN mkL (aa (xC (.str "wish")) (aa (ae 2) aj)))) aI) (S:=S) (N:=1000) (ofB xs.length) (fun τ=>∃ a b,τ=[some (.d (.tup xs)),some (.d (.lst ws)),a,b]) (fun i r=>∃ τ,r=.ok (.rt (.d (.lst [.str "wish",.int (i:Nat)])),τ) S) (fun i r ⟨τ,h⟩=>.inr ⟨_,_,_,h⟩) ws 0 [some (.d (.tup xs)),some (.d (.lst ws)),none,none] (by omega) ⟨_,_,rfl⟩ (by
   rintro i w τ hi hw ⟨a,b,rfl⟩
   refine ⟨[some (.d (.tup xs)),some (.d (.lst ws)),some (.d (.int (i:Nat))),some (.d w)],by walk_at "mx",fun h=>⟨_,⟨some (.d (.int (i:Nat))),some (.d w),rfl⟩,?_⟩,fun h=>⟨[some (.d (.tup xs)),some (.d (.lst ws)),some (.d (.int (i:Nat))),some (.d w)],?_⟩⟩
   ·simp! [Bu (hf w hw),h]
   ·simp! [Bu (hf w hw),h])
  rcases hs with ⟨q,τ',⟨a,b,rfl⟩,e⟩ | ⟨i,q,τ,e⟩
  ·rw [e,q]
   by_cases h3:(ws.length:Int) < 4
   ·simp! [JW h3,J9 (show ¬3 < ws.length by omega),ao]
   ·simp! [H0 h3,J2 (show 3 < ws.length by omega),ao]
  ·rw [e,q]
   simp! [Ot,ao]
theorem Fw (hf:∀ w∈ws,Fit w) (hl:ws.length < 1000):fH [.d (.int 1),.d d,.d (.lst ws)] S=.ok (.d (iU d ws)) S:=
 yw (by rw [← uV hf hl];simp! [show decide ((1:Int)=0)=false by decide])
theorem FV (hf:Fit w):fH [.d (.int 0),.d d,.d w] S=.ok (.d (iU d [w])) S:=
 yw (by rw [← F8 hf];simp! [])
theorem Cw:D.depth (iU d ws) < 10:=by
 unfold iU
 split
 ·split
  ·simp [D.depth,D.bK]
  ·split<;>decide
 ·decide
theorem Bv:c9 10 [.d (iU d ws),.d (iU d ws)] S=.ok (.d (.bl true)) S:=same_self 10 _ Cw S
inductive Dk (n:Nat):Nat→D→Prop
 | non {h:Nat}:Dk n h .non
 | bl {h:Nat} {b:Bool}:Dk n h (.bl b)
 | int {h:Nat} {i:Int}:Dk n h (.int i)
 | str {h:Nat} {x:Str}:Dk n h (.str x)
 | tup {h:Nat} {xs:List D}:xs.length≤20+n→(∀ x∈xs,Dk n h x)→Dk n (h+1) (.tup xs)
 | lst {h:Nat} {xs:List D}:(∀ x∈xs,Dk n h x)→Dk n (h+1) (.lst xs)
theorem Dk.mono (k:Dk n h d) (hn:n≤m) (hg:h≤g):Dk m g d:=by
 induction k generalizing g with
 | non=>exact .non
 | bl=>exact .bl
 | int=>exact .int
 | str=>exact .str
 | tup h1 _ ih=>
  obtain ⟨g',rfl⟩:∃ g',g=g'+1:=⟨g - 1,by omega⟩
  exact .tup (by omega) fun x hx=>ih x hx (by omega)
 | lst _ ih=>
  obtain ⟨g',rfl⟩:∃ g',g=g'+1:=⟨g - 1,by omega⟩
  exact .lst fun x hx=>ih x hx (by omega)
theorem jl:∀ {xs:List D},(∀ x∈xs,D.depth x≤h)→D.bK xs≤h
 | [],_=>L9 _
 | x :: xs,hx=>by
  show max (D.depth x) (D.bK xs)≤h
  exact Nat.max_le.mpr ⟨hx x (Ks ..),jl fun y hy=>hx y (Kk _ hy)⟩
theorem Dk.depth (k:Dk n h d):D.depth d≤h:=by
 induction k with
 | tup _ _ ih=>show D.bK _+1≤_;have:=jl ih;omega
 | lst _ ih=>show D.bK _+1≤_;have:=jl ih;omega
 | _=>exact L9 _
theorem Dk.fit (k:Dk n h d) (hn:n≤10):Fit d:=by
 rintro a b c xs rfl
 cases k with
 | tup _ k=>
  have:=k (.tup xs) (by simp)
  cases this with
  | tup h _=>omega
theorem uD (h:z∈cW xs i j):z∈xs:=by
 unfold cW at h
 exact MF (MG h)
theorem t6:(cW xs i j).length≤xs.length:=by
 unfold cW
 rw [KS,OS]
 omega
theorem mm (h0:0≤i) (h1:i < (xs.length:Int)):∃ z∈xs,∀ S,oIx (.d (.lst xs)) (.d (.int i)) S=.ok (.d z) S:=by
 obtain ⟨z,e,hz⟩:=sg h0 h1
 exact ⟨z,hz,fun S=>eT e⟩
theorem zD:mkL [.d a,.d b,.d c,.d d,.d e,.d f,.d g,.d h,.d i,.d j,.d k,.d l,.d m,.d n,.d o,.d p,.d q] S=.ok (.d (.lst [a,b,c,d,e,f,g,h,i,j,k,l,m,n,o,p,q])) S:=ak rfl
noncomputable def bR:XS:=(ax (aR (xOp dQ (aw aA (aa (ae 0) (aa (xC (.int 23)) aj))) (xC (.int 11))) (gNm 4))
 (ax (aR (xN mkL (aa (xC .non) (aa (xC (.bl true)) (aa (xC (.bl false)) (aa (xC (.str "")) (aa (xC (.str "unlike")) (aa (xC (.str "many")) (aa (xC (.str "sum")) (aa (xC (.str "row")) (aa (xC (.str "hand")) (aa (xC (.str "-")) (aa (xN mkT aj) (aa (xN mkL aj) (aa (xOp pH (xC (.int 10)) (xC (.int 20))) (aa (xC (.int 100)) (aa (xUn cV (xC (.int 100))) (aa (xN mkT (aa (xC (.int 0)) aj)) (aa (xN mkL (aa (xC (.int 0)) aj)) aj)))))))))))))))))) (gNm 5))
 (ax (xIf (bx (xUn (bS "tuple") (ae 1))) (ax (aR (xN mkL (aa (xN gK (aa (ae 1) aj)) (aa (xOp bq (ae 1) (xSl oSl (ae 1) cI (dr (xC (.int 1))))) (aa (xSl oSl (ae 1) cI (dr (xUn cV (xC (.int 1))))) (aa (xOp tN (ae 1) (xUn cV (xC (.int 1)))) (aa (xOp bq (ae 1) (xN mkT (aa (ae 4) aj))) (aa (xSl oSl (ae 1) (dr (xC (.int 1))) cI) (aa (xN mkT (aa (ae 1) aj)) aj)))))))) (gNm 6))
 (aD (xOp oIx (xOp bq (ae 6) (xN mkL (aa (xOp oIx (ae 5) (aw aA (aa (ae 0) (aa (xC (.int 17)) aj)))) aj))) (aw aA (aa (ae 0) (aa (xC (.int 8)) aj)))))) aI)
 (ax (xIf (bx (aw de (aa (ae 1) aj))) (ax (aR (xN mkL (aa (xOp bq (ae 1) (xC (.int 1))) (aa (xOp dQ (ae 1) (xC (.int 1))) (aa (xOp dQ (xC (.int 0)) (ae 1)) (aa (ae 4) (aa (ae 4) (aa (xOp oEq (ae 1) (xC (.int 1))) (aa (xOp dQ (xC (.int 4)) (ae 1)) aj)))))))) (gNm 6))
 (aD (xOp oIx (xOp bq (ae 6) (xN mkL (aa (xOp oIx (ae 5) (aw aA (aa (ae 0) (aa (xC (.int 17)) aj)))) aj))) (aw aA (aa (ae 0) (aa (xC (.int 8)) aj)))))) aI)
 (aD (xOp oIx (ae 5) (aw aA (aa (ae 0) (aa (xC (.int 17)) aj)))))))))
theorem Bw:je s=(ax (xIf (l9 (bx (xUn (bS "tuple") (ae 1))) (l9 (aF (xOp oNe (ae 1) (xN mkT aj))) (l9 (aF (xOp oGt (ae 2) (xC (.int 0)))) (aF (xOp oGt (aw aA (aa (ae 0) (aa (xC (.int 4)) aj))) (xC (.int 0))))))) (ax (aR (aw aA (aa (ae 0) (aa (xN aU (aa (ae 1) aj)) aj))) (gNm 3))
 (aD (xOp bq (xOp bq (xSl oSl (ae 1) cI (dr (ae 3))) (xN mkT (aa (aw s (aa (ae 0) (aa (xOp oIx (ae 1) (ae 3)) (aa (xOp dQ (ae 2) (xC (.int 1))) aj)))) aj))) (xSl oSl (ae 1) (dr (xOp bq (ae 3) (xC (.int 1)))) cI)))) aI) bR):=rfl
def lO:List D:=[.non,.bl true,.bl false,.str "",.str "unlike",.str "many",.str "sum",.str "row",.str "hand",.str "-",.tup [],.lst [],.int (10 ^ Int.toNat 20),.int 100,.int (-100),.tup [.int 0],.lst [.int 0]]
theorem vN (hz:z∈lO):Dk n (h+1) z:=by
 simp only [lO,J1,Kw,LR] at hz
 rcases hz with rfl | rfl | rfl | rfl | rfl | rfl | rfl | rfl | rfl | rfl | rfl | rfl | rfl | rfl | rfl | rfl | rfl
 ·exact .non
 ·exact .bl
 ·exact .bl
 ·exact .str
 ·exact .str
 ·exact .str
 ·exact .str
 ·exact .str
 ·exact .str
 ·exact .str
 ·exact .tup (by simp) (by simp)
 ·exact .lst (by simp)
 ·exact .int
 ·exact .int
 ·exact .int
 ·exact .tup (by simp;omega) (fun x hx=>by rw [Ka.mp hx];exact .int)
 ·exact .lst (fun x hx=>by rw [Ka.mp hx];exact .int)
def pj (n h:Nat) (d:D) (r:R Vl) (R:Sto):Prop:=∃ (d':D) (o':Ob),Pen o'∧Dk (n+1) (h+1) d'∧r=.ok (.d d') (o' :: R)
theorem lP {R:Sto} (hp:Pen o) (hn:n≤10) (k:Dk n h (.tup xs)):pj n h (.tup xs) (leave (o :: R) (bR [some (.r 0),some (.d (.tup xs)),some (.d deep),none,none,none,none] (o :: R))) R:=by
 obtain ⟨a,o1,a0,a1,hp1,e1⟩:=aN (R:=R) (m:=23) hp (by decide) (by decide)
 obtain ⟨b,o2,b0,b1,hp2,e2⟩:=aN (R:=R) (m:=17) hp1 (by decide) (by decide)
 obtain ⟨c,o3,c0,c1,hp3,e3⟩:=aN (R:=R) (m:=8) hp2 (by decide) (by decide)
 have c1':cW xs none (some 1)=xs.take 1:=rO (k:=1)
 have cl:(xs.take 1).length≤1:=by rw [KS];omega
 cases k with
 | @tup h' _ hl hx=>
  obtain ⟨z,hz,ez⟩:=mm (xs:=lO) b0 b1
  have ez:=ez (o2 :: R)
  obtain ⟨z2,hz2,ez2⟩:=mm (xs:=[.lst xs,.tup (xs++xs.take 1),.tup (cW xs none (some (-1))),.tup xs.reverse,.tup (xs++[.int (a - 11)]),.tup (cW xs (some 1) none),.tup [.tup xs],z]) c0 c1
  refine ⟨z2,o3,hp3,?_,?_⟩
  ·have up:∀ x∈xs,Dk (n+1) h' x:=fun x m=>(hx x m).mono (by omega) (J3 _)
   have cl2:=t6 (xs:=xs) (i:=none) (j:=some (-1))
   have cl3:=t6 (xs:=xs) (i:=some 1) (j:=none)
   have go:Dk (n+1) (h'+1) z2∨Dk (n+1) (h'+1+1) z2:=by
    simp only [J1,Kw,LR] at hz2
    rcases hz2 with rfl | rfl | rfl | rfl | rfl | rfl | rfl | rfl
    ·exact .inl (.lst up)
    ·exact .inl (.tup (by rw [K5];omega) fun x m=>by
      rcases Kz.mp m with q | q
      ·exact up x q
      ·exact up x (MG q))
    ·exact .inl (.tup (by omega) fun x m=>up x (uD m))
    ·exact .inl (.tup (by rw [Pg];omega) fun x m=>up x (List.mem_reverse.mp m))
    ·exact .inl (.tup (by rw [K5];simp;omega) fun x m=>by
      rcases Kz.mp m with q | q
      ·exact up x q
      ·rw [Ka.mp q];exact .int)
    ·exact .inl (.tup (by omega) fun x m=>up x (uD m))
    ·exact .inr (.tup (by simp;omega) fun x m=>by rw [Ka.mp m];exact .tup (by omega) up)
    ·exact .inl (vN hz)
   rcases go with q | q
   ·exact q.mono (J3 _) (by omega)
   ·exact q
  ·unfold lO at ez
   unfold bR
   walk_at "mx"
   rw [e1]
   repeat (first | walk_at "mx" | rw [zD] | rw [cS] | rw [c1'] | rw [mI ⟨by decide,by decide,by decide⟩] | rw [j6 (by simp;omega)] | rw [j6 (by simp)])
   erw [e2]
   erw [ez]
   erw [q_ (by simp)]
   erw [e3]
   erw [ez2 (o3 :: R)]
   rw [cv,cj]
theorem xF {R:Sto} (hp:Pen o):pj n h (.int i) (leave (o :: R) (bR [some (.r 0),some (.d (.int i)),some (.d deep),none,none,none,none] (o :: R))) R:=by
  obtain ⟨a,o1,a0,a1,hp1,e1⟩:=aN (R:=R) (m:=23) hp (by decide) (by decide)
  obtain ⟨b,o2,b0,b1,hp2,e2⟩:=aN (R:=R) (m:=17) hp1 (by decide) (by decide)
  obtain ⟨c,o3,c0,c1,hp3,e3⟩:=aN (R:=R) (m:=8) hp2 (by decide) (by decide)
  obtain ⟨z,hz,ez⟩:=mm (xs:=lO) b0 b1
  have ez:=ez (o2 :: R)
  obtain ⟨z2,hz2,ez2⟩:=mm (xs:=[.int (i+1),.int (i - 1),.int (0 - i),.int (a - 11),.int (a - 11),.bl (decide (i=1)),.int (4 - i),z]) c0 c1
  refine ⟨z2,o3,hp3,?_,?_⟩
  · simp only [J1,Kw,LR] at hz2
    rcases hz2 with rfl | rfl | rfl | rfl | rfl | rfl | rfl | rfl<;>first | exact .int | exact .bl | exact vN hz
  · unfold lO at ez
    unfold bR
    walk_at "mx"
    rw [e1]
    repeat (first | walk_at "mx" | rw [zD] | rw [show isT "tuple" (.int i)=false from rfl] | rw [kv,show eI (.int i)=true from rfl] | rw [mI ⟨by decide,by decide,by decide⟩])
    erw [e2]
    erw [ez]
    erw [q_ (by simp)]
    erw [e3]
    erw [ez2 (o3 :: R)]
    rw [cv,cj]
theorem gO {R:Sto} (hp:Pen o) (h1:isT "tuple" d=false) (h2:eI d=false):pj n h d (leave (o :: R) (bR [some (.r 0),some (.d d),some (.d deep),none,none,none,none] (o :: R))) R:=by
 obtain ⟨a,o1,a0,a1,hp1,e1⟩:=aN (R:=R) (m:=23) hp (by decide) (by decide)
 obtain ⟨b,o2,b0,b1,hp2,e2⟩:=aN (R:=R) (m:=17) hp1 (by decide) (by decide)
 obtain ⟨z,hz,ez⟩:=mm (xs:=lO) b0 b1
 have ez:=ez (o2 :: R)
 refine ⟨z,o2,hp2,vN hz,?_⟩
 unfold lO at ez
 unfold bR
 walk_at "mx"
 rw [e1]
 repeat (first | walk_at "mx" | rw [zD] | rw [h1] | rw [kv,h2] | rw [mI ⟨by decide,by decide,by decide⟩])
 erw [e2]
 erw [ez]
 rw [cv,cj]
def IG (f n h:Nat) (d:D) (deep:Int):Prop:=∀ (o:Ob) (R:Sto),Pen o→pj n h d (eL f [.r 0,.d d,.d (.int deep)] (o :: R)) R
theorem Bn (hn:n≤2):∀ (f:Nat) (h:Nat) (d:D) (deep:Int),Dk n h d→h≤40→deep≤(f:Int)→IG (f+1) n h d deep:=by
 intro f
 induction f with
 | zero=>
  intro h d deep k hh hd o R hp
  show pj n h d (a_ 3 7 (je (eL 0)) _ _) R
  rw [eO,Bw,bG]
  cases k with
  | @tup h' xs hl hx=>
   have kd:=(Dk.tup hl hx).depth
   walk_at "mx"
   erw [cS]
   rw [Bm (by omega)]
   cases D.bQ xs [] with
   | true=>walk_at "mx";exact lP hp (by omega) (.tup hl hx)
   | false=>
    walk_at "mx"
    erw [H0 (by omega)]
    exact lP hp (by omega) (.tup hl hx)
  | int=>walk_at "mx";rw [show isT "tuple" (.int _)=false from rfl];walk_at "mx";exact xF hp
  | str=>walk_at "mx";rw [show isT "tuple" (.str _)=false from rfl];walk_at "mx";exact gO hp rfl rfl
  | non=>walk_at "mx";rw [show isT "tuple" .non=false from rfl];walk_at "mx";exact gO hp rfl rfl
  | bl=>walk_at "mx";rw [show isT "tuple" (.bl _)=false from rfl];walk_at "mx";exact gO hp rfl rfl
  | lst hx=>walk_at "mx";rw [show isT "tuple" (.lst _)=false from rfl];walk_at "mx";exact gO hp rfl rfl
 | succ f ih=>
  intro h d deep k hh hd o R hp
  show pj n h d (a_ 3 7 (je (eL (f+1))) _ _) R
  rw [eO,Bw,bG]
  cases k with
  | @tup h' xs hl hx=>
   have kd:=(Dk.tup hl hx).depth
   walk_at "mx"
   erw [cS]
   rw [Bm (by omega)]
   cases xs with
   | nil=>
    erw [show D.bQ [] []=true from rfl]
    exact lP hp (by omega) (.tup hl hx)
   | cons y ys=>
    erw [show D.bQ (y :: ys) []=false from rfl]
    by_cases h0:(0:Int) < deep
    ·erw [JW h0]
     obtain ⟨a,o1,a0,a1,hp1,e1⟩:=aN (R:=R) (m:=4) hp (by decide) (by decide)
     erw [e1]
     by_cases h1:(0:Int) < a
     ·rw [JW h1]
      have hpos:(0:Int) < ((y :: ys).length:Int):=by simp only [Km];omega
      have hlt:((y :: ys).length:Int) < 1073741824:=by omega
      generalize y :: ys=xs at hl hx hpos hlt kd
      walk_at "mx"
      obtain ⟨b,o2,b0,b1,hp2,e2⟩:=aN (R:=R) (m:=(xs.length:Int)) hp1 hpos hlt
      obtain ⟨i,rfl⟩:=Nm b0
      obtain ⟨z,ez,hz⟩:=sg b0 b1
      obtain ⟨d',o3,hp3,k3,e3⟩:=ih h' z (deep - 1) (hx z hz) (by omega) (by omega) o2 R hp2
      erw [e2]
      erw [rO,aY ez]
      erw [e3]
      erw [j6 (by simp;omega)]
      erw [show (i:Int)+1=((i+1:Nat):Int) by omega,rl,j6 (by simp;omega)]
      refine ⟨_,o3,hp3,.tup (h:=h'+1) ?_ ?_,by rw [cv,cj]⟩
      ·have hi:i < xs.length:=by omega
       simp only [K5,KS,OS,MX]
       omega
      ·intro x hm
       have up:∀ x∈xs,Dk (n+1) (h'+1) x:=fun x m=>(hx x m).mono (by omega) (by omega)
       rcases Kz.mp hm with q | q
       ·rcases Kz.mp q with q | q
        ·exact up x (MG q)
        ·rw [Ka.mp q];exact k3
       ·exact up x (MF q)
     ·erw [H0 h1]
      exact lP hp1 (by omega) (.tup hl hx)
    ·erw [H0 h0]
     exact lP hp (by omega) (.tup hl hx)
  | int=>walk_at "mx";rw [show isT "tuple" (.int _)=false from rfl];walk_at "mx";exact xF hp
  | str=>walk_at "mx";rw [show isT "tuple" (.str _)=false from rfl];walk_at "mx";exact gO hp rfl rfl
  | non=>walk_at "mx";rw [show isT "tuple" .non=false from rfl];walk_at "mx";exact gO hp rfl rfl
  | bl=>walk_at "mx";rw [show isT "tuple" (.bl _)=false from rfl];walk_at "mx";exact gO hp rfl rfl
  | lst hx=>walk_at "mx";rw [show isT "tuple" (.lst _)=false from rfl];walk_at "mx";exact gO hp rfl rfl
theorem f9 (hl:ns.length≤20):Dk n (h+1) (aQ ns):=.tup (by rw [J0];omega) fun x hx=>by
 obtain ⟨i,_,rfl⟩:=La.mp hx
 exact .int
theorem y0 {ts:List Tri} (hl:ts.length≤20):Dk n (h+2) (.tup (ts.map bY)):=.tup (h:=h+1) (by rw [J0];omega) fun x hx=>by
 obtain ⟨t,_,rfl⟩:=La.mp hx
 exact .tup (by simp;omega) fun x hx=>by
  simp only [J1,Kw,LR] at hx
  rcases hx with rfl | rfl | rfl<;>exact .int
theorem tH (hl:xs.length≤20) (hx:∀ x∈xs,Dk n h x):Dk n (h+1) (.tup xs):=.tup (by omega) hx
theorem Jq (g:nT k wi) (hk:k≤4):Dk n 3 (wiD wi):=by
 cases wi with
 | unl ns=>
  have gn:fz k ns:=g
  have:=gn.le
  exact tH (by simp) fun x hx=>by
   simp only [J1,Kw,LR] at hx
   rcases hx with rfl | rfl
   ·exact .str
   ·exact f9 (by omega)
 | man ns bs=>
  obtain ⟨gn,gb⟩:fz k ns∧wC bs:=g
  have:=gn.le
  have:=gb.le
  exact tH (by simp) fun x hx=>by
   simp only [J1,Kw,LR] at hx
   rcases hx with rfl | rfl | rfl
   ·exact .str
   ·exact f9 (by omega)
   ·exact y0 (by omega)
 | sum ns ws lo hi=>
  obtain ⟨gn,h1,_⟩:fz k ns∧ws.length=ns.length∧_:=g
  have:=gn.le
  exact tH (by simp) fun x hx=>by
   simp only [J1,Kw,LR] at hx
   rcases hx with rfl | rfl | rfl | rfl | rfl
   ·exact .str
   ·exact f9 (by omega)
   ·exact f9 (by omega)
   ·exact .int
   ·exact .int
 | row ns ds es=>
  obtain ⟨gn,gd,_,_,h3⟩:fz k ns∧vd ds∧_∧_∧es.length≤4:=g
  have:=gn.le
  have:=gd.le
  exact tH (by simp) fun x hx=>by
   simp only [J1,Kw,LR] at hx
   rcases hx with rfl | rfl | rfl | rfl
   ·exact .str
   ·exact f9 (by omega)
   ·exact y0 (by omega)
   ·exact f9 (by omega)
 | han ns ls=>
  obtain ⟨gn,h1,_⟩:fz k ns∧ls.length=ns.length∧_:=g
  have:=gn.le
  exact tH (by simp) fun x hx=>by
   simp only [J1,Kw,LR] at hx
   rcases hx with rfl | rfl | rfl
   ·exact .str
   ·exact f9 (by omega)
   ·exact f9 (by omega)
theorem JC (g:fT 4 4 wss):Dk 0 3 (aX wss):=by
 have h1:=g.le
 refine .tup (by rw [J0];omega) fun x hx=>?_
 obtain ⟨ws,hw,rfl⟩:=La.mp hx
 have h2:=(g.all ws hw).le
 exact f9 (by omega)
theorem Dq (k:Dk 2 5 w):Fit w:=k.fit (by decide)
theorem D4 (e:S[n]?=some (.lst xs)) (h:i < xs.length):eg (.r n) (.d (.int (i:Nat))) (.d w) S=.ok () (S.set n (.lst (xs.set i w))):=by
 unfold eg
 dsimp only
 rw [e]
 dsimp only
 rw [qO (by omega) (by omega)]
 rfl
theorem Hh (e:S[n]?=some (.lst xs)) (h:D.depth (.lst xs)≤50):oNe (.r n) (.d (.lst ys)) S=.ok (.d (.bl (!D.bQ xs ys))) S:=by
 have:eqD (.r n) (.d (.lst ys)) S=some (D.bQ xs ys):=by
  unfold eqD
  simp only [dv,e,h,L7]
 unfold oNe
 rw [this]
theorem dks (k:∀ w∈ws,Dk n h w) (hh:h≤40):D.depth (.lst ws)≤50:=by
 show D.bK ws+1≤50
 have:=jl fun w hw=>(k w hw).depth
 omega
theorem lp1 {R:Sto} (hp:Pen o) (k:∀ w∈ws,Dk 0 3 w) (hl:ws.length≤5) :
  ∃ (o':Ob) (ws':List D) (y9 y10:Option Vl),Pen o'∧(∀ w∈ws',Dk 2 5 w)∧ws'.length=ws.length∧tI [x0,some (.r 0),x2,x3,x4,x5,x6,x7,some (.r (R.length+1)),x9,x10,x11,x12,x13,x14] (o :: (R++[.lst ws]))=.ok (.nx,[x0,some (.r 0),x2,x3,x4,x5,x6,x7,some (.r (R.length+1)),y9,y10,x11,x12,x13,x14]) (o' :: (R++[.lst ws'])):=by
 obtain ⟨v,o1,v0,v1,hp1,e1⟩:=aN (R:=R++[.lst ws]) (m:=3) hp (by decide) (by decide)
 obtain ⟨c,hc,hz,hit⟩:∃ c:Nat,c≤2∧(0 < c→0 < ws.length)∧gz (aa (xOp f_ (aw aA (aa (ae 1) (aa (xC (.int 3)) aj))) (xN rp (aa (xOp oNe (ae 8) (xN mkL aj)) aj))) aj) [x0,some (.r 0),x2,x3,x4,x5,x6,x7,some (.r (R.length+1)),x9,x10,x11,x12,x13,x14] (o :: (R++[.lst ws]))=.ok ⟨(J_ c).map fun i=>Vl.d (.int (i:Nat)),none⟩ (o1 :: (R++[.lst ws])):=by
  have ne:=Hh (n:=R.length+1) (xs:=ws) (ys:=[]) (S:=o1 :: (R++[.lst ws])) dD (dks k (by decide))
  cases ws with
  | nil=>
   refine ⟨0,by decide,fun h=>absurd h (by decide),?_⟩
   simp? [e1,ne,show D.bQ [] []=true from rfl,L3,K7]
   rw [qI (qV (by decide) (by decide))]
   simp? [Int.mul_zero,nS (show -100000≤(0:Int)∧(0:Int)≤100000 by decide)]
   rfl
  | cons w ws=>
   refine ⟨v.toNat,by omega,fun _=>by simp,?_⟩
   simp? [e1,ne,show D.bQ (w :: ws) []=false from rfl,L7]
   rw [qI (qV (by decide) (by decide))]
   simp? [VQ,nS (show -100000≤v∧v≤100000 by omega)]
 obtain ⟨τ',S',e,o',ws',y9,y10,hp',k',l',rfl,rfl⟩:=eD (show _=tI [x0,some (.r 0),x2,x3,x4,x5,x6,x7,some (.r (R.length+1)),x9,x10,x11,x12,x13,x14] (o :: (R++[.lst ws])) from rfl) hit
  (fun i τ S=>∃ (o':Ob) (ws':List D) (y9 y10:Option Vl),Pen o'∧(∀ w∈ws',Dk i (3+i) w)∧ws'.length=ws.length∧τ=[x0,some (.r 0),x2,x3,x4,x5,x6,x7,some (.r (R.length+1)),y9,y10,x11,x12,x13,x14]∧S=o' :: (R++[.lst ws'])) ⟨o1,ws,_,_,hp1,k,rfl,rfl,rfl⟩ (by
   rintro i z τ S hz' ⟨o',ws',y9,y10,hp',k',l',rfl,rfl⟩
   obtain ⟨hi,rfl⟩:=fO hz'
   have hw:=hz (by omega)
   obtain ⟨a,o2,a0,a1,hp2,e2⟩:=aN (R:=R++[.lst ws']) (m:=(ws'.length:Int)) hp' (by omega) (by omega)
   obtain ⟨j,rfl⟩:=Nm a0
   obtain ⟨z,ez,hzm⟩:=sg a0 a1
   obtain ⟨d,o3,hp3,k3,e3⟩:=Bn (n:=i) (by omega) 9 (3+i) z 3 (k' z hzm) (by omega) (by decide) o2 (R++[.lst ws']) hp2
   refine ⟨_,_,.nx,[x0,some (.r 0),x2,x3,x4,x5,x6,x7,some (.r (R.length+1)),some (.d (.int (i:Nat))),some (.d (.int (j:Nat))),x11,x12,x13,x14],o3 :: (R++[.lst (ws'.set j d)]),gL,?_,.inl rfl,trivial,o3,ws'.set j d,_,_,hp3,fun w hw=>?_,by rw [Mr];exact l',rfl,rfl⟩
   ·simp? [o7 (n:=R.length+1) (xs:=ws') (S:=o' :: (R++[.lst ws'])) dD,e2,oO (n:=R.length+1) (S:=o2 :: (R++[.lst ws'])) dD ez,e3,D4 (n:=R.length+1) (w:=d) (S:=o3 :: (R++[.lst ws'])) dD (show j < ws'.length by omega),Ca]
   ·rcases List.mem_or_eq_of_mem_set hw with q | rfl
    ·exact (k' w q).mono (by omega) (by omega)
    ·exact k3)
 exact ⟨o',ws',y9,y10,hp',fun w hw=>(k' w hw).mono (by rw [e9];omega) (by rw [e9];omega),l',e⟩
def Cs (cs:List D):Prop:=cs.length≤100∧∀ c∈cs,∃ t ws,c=.tup [t,.lst ws]∧(∀ w∈ws,Dk 2 5 w)∧ws.length≤5
theorem Bi (h0:0≤v) (h1:v < 2):∃ z,(z=a∨z=b)∧∀ S,oIx (.d (.lst [a,b])) (.d (.int v)) S=.ok (.d z) S:=by
 obtain ⟨z,hz,e⟩:=mm (xs:=[a,b]) h0 h1
 exact ⟨z,by simpa using hz,e⟩
theorem Ir (e:S[n]?=some (.lst xs)):frz (.r n) S=.ok (.d (.lst xs)) (S.set n .dead):=by
 unfold frz
 dsimp only
 rw [e]
theorem lp2 {R T:Sto} (hp:Pen o) (g:fT 4 4 wss) (k:∀ w∈ws,Dk 0 3 w) (hl:ws.length≤5) (hc:Cs cs) (hcl:cs.length≤1) :
  ∃ (o':Ob) (cs':List D) (T':Sto) (y7 y8 y9 y10:Option Vl),Pen o'∧Cs cs'∧sD [x0,some (.r 0),x2,some (.d (aX wss)),x4,some (.d (.lst ws)),some (.r (R.length+1)),x7,x8,x9,x10,x11,x12,x13,x14] (o :: (R++.lst cs :: T))=.ok (.nx,[x0,some (.r 0),x2,some (.d (aX wss)),x4,some (.d (.lst ws)),some (.r (R.length+1)),y7,y8,y9,y10,x11,x12,x13,x14]) (o' :: (R++.lst cs' :: T')):=by
 obtain ⟨τ',S',e,o',cs',T',y7,y8,y9,y10,hp',hc',_,rfl,rfl⟩:=eD (show _=sD [x0,some (.r 0),x2,some (.d (aX wss)),x4,some (.d (.lst ws)),some (.r (R.length+1)),x7,x8,x9,x10,x11,x12,x13,x14] (o :: (R++.lst cs :: T)) from rfl) (S1:=o :: (R++.lst cs :: T)) (gd:=none) (items:=(J_ 4).map fun i=>Vl.d (.int (i:Nat))) (by walk_at "mx";rw [nS (by decide)];rfl)
  (fun i τ S=>∃ (o':Ob) (cs':List D) (T':Sto) (y7 y8 y9 y10:Option Vl),Pen o'∧Cs cs'∧cs'.length≤1+i∧τ=[x0,some (.r 0),x2,some (.d (aX wss)),x4,some (.d (.lst ws)),some (.r (R.length+1)),y7,y8,y9,y10,x11,x12,x13,x14]∧S=o' :: (R++.lst cs' :: T')) ⟨o,cs,T,_,_,_,_,hp,hc,hcl,rfl,rfl⟩ (by
   rintro i z τ S hz ⟨o',cs',T',y7,y8,y9,y10,hp',hc',hl',rfl,rfl⟩
   obtain ⟨hi,rfl⟩:=fO hz
   obtain ⟨o1,ws',z9,z10,hp1,k1,l1,e1⟩:=lp1 (R:=R++.lst cs' :: T') (x0:=x0) (x2:=x2) (x3:=some (.d (aX wss))) (x4:=x4) (x5:=some (.d (.lst ws))) (x6:=some (.r (R.length+1))) (x7:=some (.d (.int (i:Nat)))) (x9:=y9) (x10:=y10) (x11:=x11) (x12:=x12) (x13:=x13) (x14:=x14) hp' k hl
   obtain ⟨d,o2,hp2,_,e2⟩:=Bn (n:=0) (by decide) 9 3 (aX wss) 2 (JC g) (by decide) (by decide) o1 (R++.lst cs' :: T'++[.lst ws']) hp1
   obtain ⟨v,o3,v0,v1,hp3,e3⟩:=aN (R:=R++.lst cs' :: T'++[.lst ws']) (m:=2) hp2 (by decide) (by decide)
   obtain ⟨t,_,et⟩:=Bi (a:=aX wss) (b:=d) v0 v1
   refine ⟨_,_,.nx,[x0,some (.r 0),x2,some (.d (aX wss)),x4,some (.d (.lst ws)),some (.r (R.length+1)),some (.d (.int (i:Nat))),some (.r ((R++.lst cs' :: T').length+1)),z9,z10,x11,x12,x13,x14],o3 :: (R++.lst (cs'++[.tup [t,.lst ws']]) :: (T'++[.dead])),gL,?_,.inl rfl,trivial,o3,cs'++[.tup [t,.lst ws']],T'++[.dead],_,_,_,_,hp3,⟨by rw [K5,MX];omega,fun c m=>?_⟩,by rw [K5,MX];omega,rfl,rfl⟩
   ·have m1:∀ o:Ob,(R++.lst cs' :: T'++[o])[R.length]?=some (.lst cs'):=fun o=>by simp
    rw [bG]
    simp? [ux,e1,m1,e2,e3,et,Ir (n:=(R++.lst cs' :: T').length+1) (S:=o3 :: (R++.lst cs' :: T'++[.lst ws'])) (dD (R:=R++.lst cs' :: T')),oB (show cs'.length < 100000 by have:=hc'.1;omega)]
    simp
   ·rcases Kz.mp m with q | q
    ·exact hc'.2 c q
    ·exact ⟨t,ws',Ka.mp q,k1,by omega⟩)
 exact ⟨o',cs',T',y7,y8,y9,y10,hp',hc',e⟩
theorem lp3 (k:∀ w∈ws,Dk 2 5 w) :
  ∃ y13 y14,rG [x0,x1,x2,x3,x4,x5,x6,x7,some (.d (.lst ws)),x9,x10,some (.d t),x12,x13,x14] S=.ok (.nx,[x0,x1,x2,x3,x4,x5,x6,x7,some (.d (.lst ws)),x9,x10,some (.d t),x12,y13,y14]) S:=by
 obtain ⟨τ',S',e,y13,y14,rfl,rfl⟩:=eD (show _=rG [x0,x1,x2,x3,x4,x5,x6,x7,some (.d (.lst ws)),x9,x10,some (.d t),x12,x13,x14] S from rfl) (S1:=S) (gd:=none) (items:=ws.map Vl.d) (by walk_at "mx")
  (fun _ τ S'=>∃ y13 y14,τ=[x0,x1,x2,x3,x4,x5,x6,x7,some (.d (.lst ws)),x9,x10,some (.d t),x12,y13,y14]∧S'=S) ⟨_,_,rfl,rfl⟩ (by
   rintro i z τ S' hz ⟨y13,y14,rfl,rfl⟩
   obtain ⟨w,hw,rfl⟩:=La.mp (K0 hz)
   have hf:=Dq (k w hw)
   refine ⟨_,_,.nx,[x0,x1,x2,x3,x4,x5,x6,x7,some (.d (.lst ws)),x9,x10,some (.d t),x12,some (.d w),some (.d (iU t [w]))],S',gL,?_,.inl rfl,trivial,_,_,rfl,rfl⟩
   simp? [A_ (d:=t) (ws:=[w]) (S:=S') (by simpa using hf) (by simp),FV (d:=t) (S:=S') hf,Bv])
 exact ⟨y13,y14,e⟩
theorem lp4 {R T:Sto} (hc:Cs cs) :
  ∃ y8 y11 y12 y13 y14,rj [x0,x1,x2,x3,x4,x5,some (.r (R.length+1)),x7,x8,x9,x10,x11,x12,x13,x14] (o :: (R++.lst cs :: T))=.ok (.nx,[x0,x1,x2,x3,x4,x5,some (.r (R.length+1)),x7,y8,x9,x10,y11,y12,y13,y14]) (o :: (R++.lst cs :: T)):=by
 have m1:(R++.lst cs :: T)[R.length]?=some (.lst cs):=by simp
 obtain ⟨τ',S',e,y8,y11,y12,y13,y14,rfl,rfl⟩:=eD (show _=rj [x0,x1,x2,x3,x4,x5,some (.r (R.length+1)),x7,x8,x9,x10,x11,x12,x13,x14] (o :: (R++.lst cs :: T)) from rfl) (S1:=o :: (R++.lst cs :: T)) (gd:=some (R.length+1,.lst cs)) (items:=cs.map Vl.d) (by simp? [m1])
  (fun _ τ S'=>∃ y8 y11 y12 y13 y14,τ=[x0,x1,x2,x3,x4,x5,some (.r (R.length+1)),x7,y8,x9,x10,y11,y12,y13,y14]∧S'=o :: (R++.lst cs :: T)) ⟨_,_,_,_,_,rfl,rfl⟩ (by
   rintro i z τ S' hz ⟨y8,y11,y12,y13,y14,rfl,rfl⟩
   obtain ⟨c,hm,rfl⟩:=La.mp (K0 hz)
   obtain ⟨t,ws,rfl,k,hl⟩:=hc.2 c hm
   obtain ⟨z13,z14,e3⟩:=lp3 (S:=o :: (R++.lst cs :: T)) (t:=t) (x0:=x0) (x1:=x1) (x2:=x2) (x3:=x3) (x4:=x4) (x5:=x5) (x6:=some (.r (R.length+1))) (x7:=x7) (x9:=x9) (x10:=x10) (x12:=some (.d (.lst ws))) (x13:=y13) (x14:=y14) k
   have hf:∀ w∈ws,Fit w:=fun w hw=>Dq (k w hw)
   refine ⟨[x0,x1,x2,x3,x4,x5,some (.r (R.length+1)),x7,some (.d (.lst ws)),x9,x10,some (.d t),y12,y13,y14],o :: (R++.lst cs :: T),.nx,_,o :: (R++.lst cs :: T),by walk_at "mx",?_,.inl rfl,(by show (o :: (R++.lst cs :: T))[R.length+1]?=some (.lst cs);simp),some (.d (.lst ws)),some (.d t),some (.d (.lst ws)),z13,z14,rfl,rfl⟩
   simp? [Fw (d:=t) (S:=o :: (R++.lst cs :: T)) hf (by omega),A_ (d:=t) (S:=o :: (R++.lst cs :: T)) hf (by omega),Bv,r_ (dks k (by decide)),D.jb,e3])
 exact ⟨y8,y11,y12,y13,y14,e⟩
theorem IF (h:0≤k∧k≤100):vk (.d (.tup [z])) (.d (.int k)) S=.ok (.d (.tup (Kb k.toNat z))) S:=J2 h
theorem Cq (g:fT 4 4 wss):fT 4 4 (wss++Kb (4 - wss.length) [0,1]):=by
 have h1:=g.le
 have h0:=g.pos
 refine ⟨by rw [K5];omega,by rw [K5,LO];omega,fun ws hw=>?_⟩
 rcases Kz.mp hw with q | q
 ·exact g.all ws q
 ·rw [List.eq_of_mem_replicate q]
  exact ⟨by simp,by simp,by decide,by decide⟩
theorem AE (ns:List Int):vp [.sc ns] []=.ok (.d (.bl true)) []:=by
 unfold vp
 rw [bw]
 unfold yz
 obtain ⟨o,hp,e0⟩:=CB ns
 obtain ⟨τ',S',e,o',R,y2,y3,y4,y5,y6,y7,y8,y9,y10,y11,y12,y13,y14,hp',rfl,rfl⟩:=eD (show _=xK [some (.sc ns),some (.r 0),none,none,none,none,none,none,none,none,none,none,none,none,none] [o] from rfl) (S1:=[o]) (gd:=none) (items:=(J_ 5).map fun i=>Vl.d (.int (i:Nat))) (by walk_at "mx";rw [nS (by decide)];rfl)
  (fun i τ S'=>∃ (o':Ob) (R:Sto) (y2 y3 y4 y5 y6 y7 y8 y9 y10 y11 y12 y13 y14:Option Vl),Pen o'∧τ=[some (.sc ns),some (.r 0),y2,y3,y4,y5,y6,y7,y8,y9,y10,y11,y12,y13,y14]∧S'=o' :: R) ⟨o,[],_,_,_,_,_,_,_,_,_,_,_,_,_,hp,rfl,rfl⟩ (by
   rintro i z τ S' hz ⟨o',R,y2,y3,y4,y5,y6,y7,y8,y9,y10,y11,y12,y13,y14,hp',rfl,rfl⟩
   obtain ⟨hi,rfl⟩:=fO hz
   obtain ⟨o1,hp1,e1⟩:=B_ (R:=R) hp'
   obtain ⟨wss,o2,gs,hp2,e2⟩:=AU (R:=R) (names:=4) (most:=4) hp1 (by decide) (by decide) (by decide) (by decide)
   have g1:=gs.le
   have g0:=gs.pos
   obtain ⟨v,o3,v0,v1,hp3,e3⟩:=aN (R:=R) (m:=2) hp2 (by decide) (by decide)
   generalize hwd:wss++Kb (4 - wss.length) [0,1]=wid
   obtain ⟨z,hz,ez⟩:=Bi (a:=aX wss) (b:=aX wid) v0 v1
   have ew:bq (.d (aX wss)) (.d (.tup (Kb (4 - (wss.length:Int)).toNat (.tup [.int 0,.int 1])))) (o2 :: R)=.ok (.d (aX wid)) (o2 :: R):=by
    unfold aX
    rw [j6 (by simp;omega),← hwd,O_,List.map_replicate,show (4 - (wss.length:Int)).toNat=4 - wss.length by omega]
    rfl
   obtain ⟨wis,o4,gw,hl,hp4,e4⟩:∃ (ws:List D) (o4:Ob),(∀ w∈ws,Dk 0 3 w)∧ws.length≤5∧Pen o4∧eY [.r 0,.d z,.d (.int 5)] (o3 :: R)=.ok (.d (.lst ws)) (o4 :: R):=by
    have go:∀ wss:List (List Int),fT 4 4 wss→∃ (ws:List D) (o4:Ob),(∀ w∈ws,Dk 0 3 w)∧ws.length≤5∧Pen o4∧eY [.r 0,.d (aX wss),.d (.int 5)] (o3 :: R)=.ok (.d (.lst ws)) (o4 :: R):=fun wss g=>by
     obtain ⟨wis,o4,gw,hl,hp4,e4⟩:=xG (R:=R) (most:=5) hp3 g (by decide) (by decide) (by decide) (by decide)
     refine ⟨wis.map wiD,o4,fun w hw=>?_,by rw [J0];omega,hp4,e4⟩
     obtain ⟨wi,hm,rfl⟩:=La.mp hw
     exact Jq (gw wi hm) (by have:=g.le;omega)
    rcases hz with rfl | rfl
    ·exact go wss gs
    ·exact go wid (hwd ▸ Cq gs)
   obtain ⟨o5,cs,T,z7,z8,z9,z10,hp5,hc,e5⟩:=lp2 (R:=R) (T:=[]) (cs:=[.tup [aX wss,.lst wis]]) (x0:=some (.sc ns)) (x2:=some (.d (.int (i:Nat)))) (x4:=some (.d (aX wid))) (x7:=y7) (x8:=y8) (x9:=y9) (x10:=y10) (x11:=y11) (x12:=y12) (x13:=y13) (x14:=y14) hp4 gs gw hl ⟨by simp,fun c hc=>⟨_,_,Ka.mp hc,fun w hw=>(gw w hw).mono (by decide) (by decide),hl⟩⟩ (by simp)
   obtain ⟨u8,u11,u12,u13,u14,e6⟩:=lp4 (o:=o5) (R:=R) (T:=T) (x0:=some (.sc ns)) (x1:=some (.r 0)) (x2:=some (.d (.int (i:Nat)))) (x3:=some (.d (aX wss))) (x4:=some (.d (aX wid))) (x5:=some (.d (.lst wis))) (x7:=z7) (x8:=z8) (x9:=z9) (x10:=z10) (x11:=y11) (x12:=y12) (x13:=y13) (x14:=y14) hc
   refine ⟨_,_,.nx,_,o5 :: (R++.lst cs :: T),gL,?_,.inl rfl,trivial,o5,_,some (.d (.int (i:Nat))),some (.d (aX wss)),some (.d (aX wid)),some (.d (.lst wis)),some (.r (R.length+1)),z7,u8,z9,z10,u11,u12,u13,u14,hp5,rfl,rfl⟩
   simp? [e1,e2,show aU [.d (aX wss)] (o2 :: R)=.ok (.d (.int (wss.length:Int))) (o2 :: R) by unfold aX;rw [xT,J0],IF (show 0≤4 - (wss.length:Int)∧4 - (wss.length:Int)≤100 by omega),ew,e3,ez,e4,e5,e6])
 simp? [e0,e]
 rfl
def exX:List Str:=["Free","NoLine","NoName","NoStand","NoText","NoWish","NoWorth","Settled","TooMany","WishError"]
def top (i:Nat):Stmt:=PySem.Challenge.pw_wishstrike_k05_stands_and_wishes_refused.main.body.getD i (.Pass ⟨0,0,0,0⟩)
def mth (i:Nat):Stmt:=match top i with
 | .ClassDef _ _ _ (s :: _) ..=>s
 | s=>s
structure Txt (K:JV) (mg:Str→Option Value):Prop where
 is_whole:Df K mg "is_whole" (top 12)
 is_within:Df K mg "is_within" (top 13)
 are_within:Df K mg "are_within" (top 14)
 are_rising:Df K mg "are_rising" (top 15)
 are_unlike:Df K mg "are_unlike" (top 16)
 is_span:Df K mg "is_span" (top 17)
 are_names:Df K mg "are_names" (top 18)
 is_bound:Df K mg "is_bound" (top 19)
 are_bounds:Df K mg "are_bounds" (top 20)
 is_door:Df K mg "is_door" (top 21)
 are_doors:Df K mg "are_doors" (top 22)
 is_many:Df K mg "is_many" (top 23)
 is_sum:Df K mg "is_sum" (top 24)
 is_row:Df K mg "is_row" (top 25)
 is_hand:Df K mg "is_hand" (top 26)
 is_of_its_kind:Df K mg "is_of_its_kind" (top 27)
 are_worths:Df K mg "are_worths" (top 29)
 is_stand:Df K mg "is_stand" (top 30)
 is_wish:Df K mg "is_wish" (top 31)
 is_wish_of:Df K mg "is_wish_of" (top 32)
 need_stand:Df K mg "need_stand" (top 33)
 need_wish:Df K mg "need_wish" (top 34)
 need:Df K mg "need" (top 35)
 need_all:Df K mg "need_all" (top 36)
 l_spread:Df K mg "_law_spread" (top 38)
 l_open:Df K mg "_law_open" (top 39)
 l_anew:Df K mg "_law_anew" (top 40)
 l_take:Df K mg "_law_take" (top 41)
 l_is_whole:Df K mg "_law_is_whole" (top 42)
 l_same:Df K mg "_law_same" (top 43)
 l_worths:Df K mg "_law_worths" (top 44)
 l_stand:Df K mg "_law_stand" (top 45)
 l_some_names:Df K mg "_law_some_names" (top 46)
 l_near_worth:Df K mg "_law_near_worth" (top 47)
 l_bounds:Df K mg "_law_bounds" (top 48)
 l_doors:Df K mg "_law_doors" (top 49)
 l_wish_of:Df K mg "_law_wish_of" (top 50)
 l_wishes:Df K mg "_law_wishes" (top 51)
 l_refusal:Df K mg "_law_refusal" (top 52)
 l_is_stand:Df K mg "_law_is_stand" (top 53)
 l_numbers:Df K mg "_law_numbers" (top 54)
 l_triples:Df K mg "_law_triples" (top 55)
 l_is_wish:Df K mg "_law_is_wish" (top 56)
 l_is_of:Df K mg "_law_is_of" (top 57)
 l_bent:Df K mg "_law_bent" (top 58)
 l_told:Df K mg "_law_told" (top 59)
 l_due:Df K mg "_law_due" (top 60)
 law:Df K mg "law" (top 61)
 z_ValueError:mg "ValueError"=none
 z_all:mg "all"=none
 z_bool:mg "bool"=none
 z_enumerate:mg "enumerate"=none
 z_int:mg "int"=none
 z_isinstance:mg "isinstance"=none
 z_len:mg "len"=none
 z_list:mg "list"=none
 z_max:mg "max"=none
 z_min:mg "min"=none
 z_range:mg "range"=none
 z_set:mg "set"=none
 z_sorted:mg "sorted"=none
 z_str:mg "str"=none
 z_tuple:mg "tuple"=none
 z_zip:mg "zip"=none
 xs:XsF K mg csX exX
 ec_NoStand:Ec K mg "NoStand"
 nw_NoWish:∃ (C W fI:Addr) (fd:Lk),Nw K mg "NoWish" "NoWish.__init__" (mth 2) C W fI fd
 ec_TooMany:Ec K mg "TooMany"
theorem qC:Kj "ValueError"=some (.type "ValueError"):=by decide +kernel
theorem j5:Kj "all"=some (.builtin "all"):=by decide +kernel
theorem iC:Kj "bool"=some (.type "bool"):=by decide +kernel
theorem lR:Kj "int"=some (.type "int"):=by decide +kernel
theorem aP:Kj "len"=some (.builtin "len"):=by decide +kernel
theorem eR:Kj "list"=some (.type "list"):=by decide +kernel
theorem qY:Kj "max"=some (.builtin "max"):=by decide +kernel
theorem oH:Kj "min"=some (.builtin "min"):=by decide +kernel
theorem jO:Kj "set"=some (.type "set"):=by decide +kernel
theorem gP:Kj "sorted"=some (.builtin "sorted"):=by decide +kernel
theorem w_:Kj "str"=some (.type "str"):=by decide +kernel
theorem bA:Kj "tuple"=some (.type "tuple"):=by decide +kernel
section
variable {P:Kn} {w:Kq} {K:JV} {mg:Str→Option Value}
theorem qa (T:Txt K mg):OkN P w K mg 1 "NoWish":=Jt T.nw_NoWish fun _ _ _ _ _ _ _ _ _ _ _ _ F=>GP (zJ F (pv 0) (IS (pv 1)) rfl rfl rfl rfl rfl) (Cz F (pv 0) (pv 1) rfl)
theorem wQ (T:Txt K mg):OkE P w K mg 1 "_law_open" ["script"] j7:=by
 refine bE ["script","cells","k","cell"] T.l_open fun _ _ _ _ _ _ _ _ hr q=>?_
 exact (au (aO q (bZ eV oZ T.z_list eR (af (xM (rv 0) gm (eZ ah)) ai)))
 (au (dn (nP rfl T.z_enumerate (xM (rv 0) (eZ ah) (eZ ah))) (jR (cT (aV q) (cT (aV q) iD))) (av (jL (aJ bc ba (aC (rv 1) (aJ eM (ck _) (rv 2) ah)) (rv 3)) (jX (rv 1) (aJ eM (ck _) (rv 2) ah) my iF))))
 (av (ay (iA (af (Bk (rv 1)) (af ah (af ah ai))))))))
theorem tZ (T:Txt K mg):OkE P w K mg 1 "_law_spread" ["cell","at"] fV:=by
 refine bE ["cell","at","one","two","three"] T.l_spread fun _ _ _ _ _ _ _ _ hr q=>?_
 exact (au (aT (aK GS (bf _) (rv 0) (aJ rV (ck _) ah ah)) (av (ay (rv 0))) aM)
 (au (aO q (aJ eM (ck _) (aJ bc ba (aJ bc ba (aJ eP (ck _) (aJ eM (ck _) (rv 0) ah) ah) (aJ eP (ck _) (rv 1) ah)) ah) ah))
 (au (aO q (aJ eM (ck _) (aJ bc ba (aJ bc ba (aJ eP (ck _) (rv 2) (rv 2)) (aJ eP (ck _) (rv 1) ah)) (aJ eM (ck _) (rv 0) ah)) ah))
 (au (aO q (aJ eM (ck _) (aJ bc ba (aJ bc ba (aJ eP (ck _) (rv 3) (rv 3)) (aJ eP (ck _) (rv 2) ah)) ah) ah))
 (av (ay (aJ bc ba (aJ eP (ck _) (aJ bc ba (aJ eP (ck _) (rv 2) ah) (rv 3)) ah) (rv 4))))))))
theorem aG (T:Txt K mg):OkE P w K mg 2 "_law_take" ["pen","many"] aA:=by
 refine bE ["pen","many","at","cell","found"] T.l_take fun _ _ _ _ _ _ _ _ hr q=>?_
 exact (au (aT (aK e_ (bf _) (aC (rv 0) ah) (rv 1)) (au (aO q (aC (rv 0) ah))
 (au (aO q ah)
 (au (aT (aK e_ (bf _) (rv 2) (az aB aH T.z_len aP (af (aC (rv 0) ah) ai))) (av (aO q (aC (aC (rv 0) ah) (rv 2)))) (av (aT (aK fq (bf _) (az aB aH T.z_len aP (af (aC (rv 0) ah) ai)) ah) (av (aO q (aJ eM (ck _) (aC (aC (rv 0) ah) (aJ eM (ck _) (aJ bc ba (aJ eP (ck _) (rv 2) ah) ah) (az aB aH T.z_len aP (af (aC (rv 0) ah) ai)))) (aJ bc ba (aJ rV (ck _) ah ah) (rv 2))))) aM)))
 (au (jL (aJ bc ba (rv 2) ah) (jX (rv 0) ah my iF))
 (av (jL (aq (tZ T) hr (af (rv 3) (af (rv 2) ai))) (jX (rv 0) ah my iF))))))) aM)
 (au (aO q (aJ eM (ck _) (aC (rv 0) ah) (rv 1)))
 (au (jL (aJ Cb (ck _) (aC (rv 0) ah) (rv 1)) (jX (rv 0) ah my iF))
 (av (ay (rv 4))))))
theorem tY (T:Txt K mg):OkE P w K mg 3 "_law_worths" ["pen","most","near"] ip:=by
 refine bE ["pen","most","near","found","k","worth"] T.l_worths fun _ _ _ _ _ _ _ _ hr q=>?_
 have hu:=hr.units
 exact (au (aO q (iA ai))
 (au (dn (c6 rfl T.z_range (af (aJ bc ba ah (aq (aG T) hr (af (rv 0) (af (rv 1) ai)))) ai)) (aV q) (au (aO q (aJ bc ba (rv 2) (aq (aG T) hr (af (rv 0) (af ah ai)))))
 (au (aT (aK (bN hu) bO (aq (aG T) hr (af (rv 0) (af ah ai))) ah) (av (aO q (aJ dH (dC _) (aq (aG T) hr (af (rv 0) (af ah ai))) ah))) aM)
 (av (aT (aK (mJ hu) mr (rv 5) (rv 3)) (av (eU (mh (rv 3) (rv 5)))) aM)))))
 (av (ay (bZ cZ dq T.z_tuple bA (af (az oJ pM T.z_sorted gP (af (rv 3) ai)) ai))))))
theorem vB (T:Txt K mg):OkE P w K mg 4 "_law_stand" ["pen","names","most"] jh:=by
 refine bE ["pen","names","most","near"] T.l_stand fun _ _ _ _ _ _ _ _ hr q=>?_
 refine' (au (aO q (aJ dH (dC _) (aq (aG T) hr (af (rv 0) (af ah ai))) ah))
 (av (ay (bZ cZ dq T.z_tuple bA (af (cJ cm ["name","pen","names","most","near"] q (c6 rfl T.z_range (af (aJ bc ba ah (aq (aG T) hr (af (rv 0) (af (rv 1) ai)))) ai)) ?g0 rt0 ?e0) ai)))))
 (case g0=>intro _ _ _ _ q;exact (aV q))
 (case e0=>intro _ _ _ _;exact (aq (tY T) hr (af (rv 1) (af (rv 3) (af (rv 4) ai)))))
theorem yd (T:Txt K mg):OkE P w K mg 1 "_law_anew" ["pen"] kc:=by
 refine bE ["pen"] T.l_anew fun _ _ _ _ _ _ _ _ hr q=>?_
 exact (au (jL ah (jX (rv 0) ah my iF))
 (av (ay (rv 0))))
theorem n8 (T:Txt K mg):OkE P w K mg 3 "_law_some_names" ["pen","stand"] eW:=by
 refine bE ["pen","stand","left","many"] T.l_some_names fun _ _ _ _ _ _ _ _ hr q=>?_
 refine' (au (aO q (qz rfl rfl T.z_list rfl T.z_range eR (af (az aB aH T.z_len aP (af (rv 1) ai)) ai)))
 (au (aO q (aJ bc ba ah (aq (aG T) hr (af (rv 0) (af (az aB aH T.z_len aP (af (rv 2) ai)) ai)))))
 (au (aT (aK fq (bf _) (aq (aG T) hr (af (rv 0) (af ah ai))) ah) (av (aO q (az aB aH T.z_len aP (af (rv 2) ai)))) aM)
 (av (ay (bZ cZ dq T.z_tuple bA (af (cJ cm ["k","pen","stand","left","many"] q (c6 rfl T.z_range (af (rv 3) ai)) ?g0 rt0 ?e0) ai)))))))
 (case g0=>intro _ _ _ _ q;exact (aV q))
 (case e0=>intro _ _ _ _;exact (Hf PySem.F.slot_list_pop PySem.F.type_list_pop zB zk (rv 3) (aq (aG T) hr (af (rv 1) (af (az aB aH T.z_len aP (af (rv 3) ai)) ai)))))
theorem jn (T:Txt K mg):OkE P w K mg 3 "_law_near_worth" ["pen","stand"] dG:=by
 refine bE ["pen","stand","worths","worth"] T.l_near_worth fun _ _ _ _ _ _ _ _ hr q=>?_
 have hu:=hr.units
 exact (au (aT (aK (bN hu) bO (aq (aG T) hr (af (rv 0) (af ah ai))) ah) (av (ay (aJ dH (dC _) (aq (aG T) hr (af (rv 0) (af ah ai))) ah))) aM)
 (au (aO q (aC (rv 1) (aq (aG T) hr (af (rv 0) (af (az aB aH T.z_len aP (af (rv 1) ai)) ai)))))
 (au (aO q (aJ bc ba (aC (rv 2) (aq (aG T) hr (af (rv 0) (af (az aB aH T.z_len aP (af (rv 2) ai)) ai)))) (aC (br (af ah (af ah (af ah (af ah (af (dA cU cE ah) ai)))))) (aq (aG T) hr (af (rv 0) (af ah ai))))))
 (av (ay (az (qc rfl) rL T.z_max qY (af (dA cU cE ah) (af (az (ji rfl) kn T.z_min oH (af ah (af (rv 3) ai))) ai))))))))
theorem t5 (T:Txt K mg):OkE P w K mg 4 "_law_bounds" ["pen","stand"] iw:=by
 refine bE ["pen","stand","worths","k","worth","found","low"] T.l_bounds fun _ _ _ _ _ _ _ _ hr q=>?_
 have hu:=hr.units
 exact (au (aO q (iA ai))
 (au (dn (c6 rfl T.z_range (af (aq (aG T) hr (af (rv 0) (af ah ai))) ai)) (aV q) (au (aO q (aq (jn T) hr (af (rv 0) (af (rv 1) ai))))
 (av (aT (aK (mJ hu) mr (rv 4) (rv 2)) (av (eU (mh (rv 2) (rv 4)))) aM))))
 (au (aO q (iA ai))
 (au (dn (cC (az oJ pM T.z_sorted gP (af (rv 2) ai))) (aV q) (au (aO q (aC (br (af ah (af ah (af ah (af ah (af ah (af (aq (aG T) hr (af (rv 0) (af ah ai))) ai))))))) (aq (aG T) hr (af (rv 0) (af ah ai)))))
 (av (eU (mh (rv 5) (cz (af (rv 4) (af (rv 6) (af (az (ji rfl) kn T.z_min oH (af ah (af (aJ bc ba (rv 6) (aC (br (af ah (af ah (af ah (af ah (af (aq (aG T) hr (af (rv 0) (af ah ai))) ai)))))) (aq (aG T) hr (af (rv 0) (af ah ai))))) ai))) ai)))))))))
 (av (ay (bZ cZ dq T.z_tuple bA (af (rv 5) ai))))))))
theorem v7 (T:Txt K mg):OkE P w K mg 4 "_law_doors" ["pen","stand"] jo:=by
 refine bE ["pen","stand","states","found","k","q","door"] T.l_doors fun _ _ _ _ _ _ _ _ hr q=>?_
 have hu:=hr.units
 exact (au (aO q (aJ bc ba ah (aq (aG T) hr (af (rv 0) (af ah ai)))))
 (au (aO q (iA ai))
 (au (dn (c6 rfl T.z_range (af (aq (aG T) hr (af (rv 0) (af ah ai))) ai)) (aV q) (au (aO q (aq (aG T) hr (af (rv 0) (af (rv 2) ai))))
 (au (aO q (cz (af (rv 5) (af (aq (jn T) hr (af (rv 0) (af (rv 1) ai))) (af (aC (br (af (aq (aG T) hr (af (rv 0) (af (rv 2) ai))) (af (aJ eM (ck _) (aJ bc ba (rv 5) ah) (rv 2)) ai))) (aq (aG T) hr (af (rv 0) (af ah ai)))) ai)))))
 (av (aT (aK (mJ hu) mr (rv 6) (rv 3)) (av (eU (mh (rv 3) (rv 6)))) aM)))))
 (av (ay (bZ cZ dq T.z_tuple bA (af (rv 3) ai)))))))
theorem sk (T:Txt K mg):OkE P w K mg 5 "_law_wish_of" ["pen","stand","kind"] gJ:=by
 refine bE ["pen","stand","kind","names","weights","total","name","weight","low","high","ends"] T.l_wish_of fun _ _ _ _ _ _ _ _ hr q=>?_
 have hu:=hr.units
 refine' (au (aO q (aq (n8 T) hr (af (rv 0) (af (rv 1) ai))))
 (au (aT (aK (bN hu) bO (rv 2) ah) (av (ay (cz (af aZ (af (rv 3) ai))))) aM)
 (au (aT (aK (bN hu) bO (rv 2) ah) (av (ay (cz (af aZ (af (rv 3) (af (aq (t5 T) hr (af (rv 0) (af (rv 1) ai))) ai)))))) aM)
 (au (aT (aK (bN hu) bO (rv 2) ah) (au (aO q (bZ cZ dq T.z_tuple bA (af (cJ cm ["name","pen","stand","kind","names","weights","total","~6","weight","low","high","ends"] q (cC (rv 3)) ?g0 rt0 ?e0) ai)))
 (au (aO q ah)
 (au (dn (xg rfl T.z_zip (af (rv 3) (af (rv 4) ai))) (jR (cT (aV q) (cT (aV q) iD))) (av (aO q (aJ bc ba (rv 5) (aJ eP (ck _) (rv 7) (aC (aC (rv 1) (rv 6)) (aq (aG T) hr (af (rv 0) (af (az aB aH T.z_len aP (af (aC (rv 1) (rv 6)) ai)) ai)))))))))
 (au (aO q (az (qc rfl) rL T.z_max qY (af (dA cU cE ah) (af (az (ji rfl) kn T.z_min oH (af ah (af (aJ bc ba (rv 5) (aC (br (af ah (af ah (af ah (af (dA cU cE ah) (af ah ai)))))) (aq (aG T) hr (af (rv 0) (af ah ai))))) ai))) ai))))
 (au (aO q (az (ji rfl) kn T.z_min oH (af ah (af (aJ bc ba (rv 8) (aC (br (af ah (af ah (af ah (af ah (af ah ai)))))) (aq (aG T) hr (af (rv 0) (af ah ai))))) ai))))
 (au (aT (aK (bN hu) bO (aq (aG T) hr (af (rv 0) (af ah ai))) ah) (au (aO q (aJ dH (dC _) (aq (aG T) hr (af (rv 0) (af ah ai))) ah))
 (av (aO q (aJ bc ba (rv 8) (aq (aG T) hr (af (rv 0) (af (aJ dH (dC _) ah (rv 8)) ai))))))) aM)
 (av (ay (cz (af aZ (af (rv 3) (af (rv 4) (af (rv 8) (af (rv 9) ai)))))))))))))) aM)
 (au (aT (aK (bN hu) bO (rv 2) ah) (au (aO q (bZ cZ dq T.z_tuple bA (af (cJ cm ["p","pen","stand","kind","names","weights","total","name","weight","low","high","ends"] q (c6 rfl T.z_range (af ah ai)) ?g1 ?t1 ?e1) ai)))
 (av (ay (cz (af aZ (af (rv 3) (af (aq (v7 T) hr (af (rv 0) (af (rv 1) ai))) (af (rv 10) ai)))))))) aM)
 (av (ay (cz (af aZ (af (rv 3) (af (bZ cZ dq T.z_tuple bA (af (cJ cm ["name","pen","stand","kind","names","weights","total","~6","weight","low","high","ends"] q (cC (rv 3)) ?g2 rt0 ?e2) ai)) ai)))))))))))
 (case g0=>intro _ _ _ _ q;exact (aV q))
 (case e0=>intro _ _ _ _;exact (aJ dH (dC _) (aq (aG T) hr (af (rv 1) (af ah ai))) ah))
 (case g1=>intro _ _ _ _ q;exact (aV q))
 (case t1=>intro _ _ _ _;exact (iI (aK (bN hu) bO (aq (aG T) hr (af (rv 1) (af ah ai))) ah)))
 (case e1=>intro _ _ _ _;exact (rv 0))
 (case g2=>intro _ _ _ _ q;exact (aV q))
 (case e2=>intro _ _ _ _;exact (aJ bc ba ah (aq (aG T) hr (af (rv 1) (af (aC (br (af ah (af ah ai))) (aq (aG T) hr (af (rv 1) (af ah ai)))) ai)))))
theorem tX (T:Txt K mg):OkE P w K mg 6 "_law_wishes" ["pen","stand","most"] eY:=by
 refine bE ["pen","stand","most"] T.l_wishes fun _ _ _ _ _ _ _ _ hr q=>?_
 refine' (av (ay (cJ cm ["k","pen","stand","most"] q (c6 rfl T.z_range (af (aq (aG T) hr (af (rv 0) (af (aJ bc ba (rv 2) ah) ai))) ai)) ?g0 rt0 ?e0)))
 (case g0=>intro _ _ _ _ q;exact (aV q))
 (case e0=>intro _ _ _ _;exact (aq (sk T) hr (af (rv 1) (af (rv 2) (af (aq (aG T) hr (af (rv 1) (af ah ai))) ai)))))
theorem h9 (T:Txt K mg):OkE P w K mg 1 "_law_is_whole" ["thing"] de:=by
 refine bE ["thing"] T.l_is_whole fun _ _ _ _ _ _ _ _ hr q=>?_
 exact (av (ay (bu (aW T.z_isinstance T.z_int lR (rv 0)) (bM (yl (aW T.z_isinstance T.z_bool iC (rv 0)))))))
theorem oM (T:Txt K mg):∀ n:Nat,OkE P w K mg (2+n+1) "_law_bent" ["pen","thing","deep"] (eL n)
 | 0=>bE ["pen","thing","deep","at","number","odd","some"] T.l_bent fun _ _ _ _ _ _ _ _ hr q=>rM
 | n+1=>by
  have ih:=oM T n
  have jc:=fun (_:Txt K mg)=>ih
  · refine bE ["pen","thing","deep","at","number","odd","some"] T.l_bent fun _ _ _ _ _ _ _ _ hr q=>?_
    have hu:=hr.units
    exact (au (aT (RW.rt (sU (bp (aW T.z_isinstance T.z_tuple bA (rv 1))) (sU (aK (cO hu) cP (rv 1) (cz ai)) (sU (aK fq (bf _) (rv 2) ah) (B3 (aK fq (bf _) (aq (aG T) hr (af (rv 0) (af ah ai)) (by omega)) ah)))))) (au (aO q (aq (aG T) hr (af (rv 0) (af (az aB aH T.z_len aP (af (rv 1) ai)) ai)) (by omega)))
 (av (ay (aJ bc ba (aJ bc ba (jM (rv 1) gm (eZ (rv 3))) (cz (af (aq (jc T) hr (af (rv 0) (af (aC (rv 1) (rv 3)) (af (aJ dH (dC _) (rv 2) ah) ai))) (by omega)) ai))) (jM (rv 1) (eZ (aJ bc ba (rv 3) ah)) gm))))) aM)
 (au (aO q (aJ dH (dC _) (aq (aG T) hr (af (rv 0) (af ah ai)) (by omega)) ah))
 (au (aO q (br (af jI (af bP (af bP (af aZ (af aZ (af aZ (af aZ (af aZ (af aZ (af aZ (af (cz ai) (af (br ai) (af (aJ rV (ck _) ah ah) (af ah (af (dA cU cE ah) (af (cz (af ah ai)) (af (br (af ah ai)) ai)))))))))))))))))))
 (au (aT (bp (aW T.z_isinstance T.z_tuple bA (rv 1))) (au (aO q (br (af (bZ eV jm T.z_list eR (af (rv 1) ai)) (af (aJ bc ba (rv 1) (jM (rv 1) gm (eZ ah))) (af (jM (rv 1) gm (eZ (dA cU cE ah))) (af (FA (rv 1) (dA cU cE ah)) (af (aJ bc ba (rv 1) (cz (af (rv 4) ai))) (af (jM (rv 1) (eZ ah) gm) (af (cz (af (rv 1) ai)) ai)))))))))
 (av (ay (aC (aJ bc ba (rv 6) (br (af (aC (rv 5) (aq (aG T) hr (af (rv 0) (af ah ai)) (by omega))) ai))) (aq (aG T) hr (af (rv 0) (af ah ai)) (by omega)))))) aM)
 (au (aT (bp (aq (h9 T) hr (af (rv 1) ai) (by omega))) (au (aO q (br (af (aJ bc ba (rv 1) ah) (af (aJ dH (dC _) (rv 1) ah) (af (aJ dH (dC _) ah (rv 1)) (af (rv 4) (af (rv 4) (af (bL (bN hu) bO (rv 1) ah) (af (aJ dH (dC _) ah (rv 1)) ai)))))))))
 (av (ay (aC (aJ bc ba (rv 6) (br (af (aC (rv 5) (aq (aG T) hr (af (rv 0) (af ah ai)) (by omega))) ai))) (aq (aG T) hr (af (rv 0) (af ah ai)) (by omega)))))) aM)
 (av (ay (aC (rv 5) (aq (aG T) hr (af (rv 0) (af ah ai)) (by omega))))))))))
theorem jc (T:Txt K mg):OkE P w K mg 13 "_law_bent" ["pen","thing","deep"] (eL 10):=(oM T 10)
theorem oA (T:Txt K mg):∀ n:Nat,OkE P w K mg (0+n+1) "_law_same" ["found","due"] (c9 n)
 | 0=>bE ["found","due"] T.l_same fun _ _ _ _ _ _ _ _ hr q=>rM
 | n+1=>by
  have ih:=oA T n
  have js:=fun (_:Txt K mg)=>ih
  · refine bE ["found","due"] T.l_same fun _ _ _ _ _ _ _ _ hr q=>?_
    have hu:=hr.units
    refine' (au (aT (aK sG tD (rv 1) jI) (av (ay (bL sG tD (rv 0) jI))) aM)
 (au (aT (RW.rt (bW (bp (aW T.z_isinstance T.z_bool iC (rv 1))) (cg (bp (aW T.z_isinstance T.z_bool iC (rv 0)))))) (av (ay (bu (aW T.z_isinstance T.z_bool iC (rv 1)) (bu (aW T.z_isinstance T.z_bool iC (rv 0)) (bM (bL (bN hu) bO (rv 0) (rv 1))))))) aM)
 (au (aT (bp (aW T.z_isinstance T.z_int lR (rv 1))) (av (ay (bu (aW T.z_isinstance T.z_int lR (rv 0)) (bM (bL (bN hu) bO (rv 0) (rv 1)))))) aM)
 (au (aT (bp (aW T.z_isinstance T.z_str w_ (rv 1))) (av (ay (bu (aW T.z_isinstance T.z_str w_ (rv 0)) (bM (bL (bN hu) bO (rv 0) (rv 1)))))) aM)
 (au (aT (RW.rt (bW (aK (cO hu) cP (aW T.z_isinstance T.z_tuple bA (rv 1)) (aW T.z_isinstance T.z_tuple bA (rv 0))) (cg (aK (cO hu) cP (aW T.z_isinstance T.z_list eR (rv 1)) (aW T.z_isinstance T.z_list eR (rv 0)))))) (av (ay bP)) aM)
 (au (aT (aK (cO hu) cP (az aB aH T.z_len aP (af (rv 0) ai)) (az aB aH T.z_len aP (af (rv 1) ai))) (av (ay bP)) aM)
 (av (ay (bL (mJ hu) mr bP (cJ cm ["one","other","found","due"] q (xg rfl T.z_zip (af (rv 0) (af (rv 1) ai))) ?g0 rt0 ?e0))))))))))
    (case g0=>intro _ _ _ _ q;exact (jR (cT (aV q) (cT (aV q) iD))))
    (case e0=>intro _ _ _ _;exact (aq (js T) hr (af (rv 0) (af (rv 1) ai)) (by omega)))
theorem js (T:Txt K mg):OkE P w K mg 11 "_law_same" ["found","due"] (c9 10):=(oA T 10)
theorem tU (T:Txt K mg):OkE P w K mg 1 "is_whole" ["thing"] iz:=by
 refine bE ["thing"] T.is_whole fun _ _ _ _ _ _ _ _ hr q=>?_
 exact (av (ay (bu (aW T.z_isinstance T.z_int lR (rv 0)) (bM (yl (aW T.z_isinstance T.z_bool iC (rv 0)))))))
theorem dc (T:Txt K mg):OkE P w K mg 2 "is_within" ["thing","low","high"] cw:=by
 refine bE ["thing","low","high"] T.is_within fun _ _ _ _ _ _ _ _ hr q=>?_
 exact (av (ay (bu (aq (tU T) hr (af (rv 0) ai)) (bM (nQ dJ (bf _) dJ (bf _) (rv 1) (rv 0) (rv 2))))))
theorem dU (T:Txt K mg):OkE P w K mg 3 "are_within" ["thing","low","high"] cA:=by
 refine bE ["thing","low","high"] T.are_within fun _ _ _ _ _ _ _ _ hr q=>?_
 refine' (av (ay (bu (aW T.z_isinstance T.z_tuple bA (rv 0)) (bM (az (fK rfl) gD T.z_all j5 (af (cJ cm ["part","thing","low","high"] q (cC (rv 0)) ?g0 rt0 ?e0) ai))))))
 (case g0=>intro _ _ _ _ q;exact (aV q))
 (case e0=>intro _ _ _ _;exact (aq (dc T) hr (af (rv 0) (af (rv 2) (af (rv 3) ai)))))
theorem hV (T:Txt K mg):OkE P w K mg 1 "are_rising" ["things"] cQ:=by
 refine bE ["things"] T.are_rising fun _ _ _ _ _ _ _ _ hr q=>?_
 refine' (av (ay (az (fK rfl) gD T.z_all j5 (af (cJ cm ["at","things"] q (yi rfl T.z_range (af ah (af (az aB aH T.z_len aP (af (rv 0) ai)) ai))) ?g0 rt0 ?e0) ai))))
 (case g0=>intro _ _ _ _ q;exact (aV q))
 (case e0=>intro _ _ _ _;exact (bL e_ (bf _) (aC (rv 1) (aJ dH (dC _) (rv 0) ah)) (aC (rv 1) (rv 0))))
theorem qB (T:Txt K mg):OkE P w K mg 4 "are_worths" ["thing"] fW:=by
 refine bE ["thing"] T.are_worths fun _ _ _ _ _ _ _ _ hr q=>?_
 exact (av (ay (bu (aq (dU T) hr (af (rv 0) (af (dA cU cE ah) (af ah ai)))) (bu (nQ dJ (bf _) dJ (bf _) ah (az aB aH T.z_len aP (af (rv 0) ai)) ah) (bM (aq (hV T) hr (af (rv 0) ai)))))))
theorem tS (T:Txt K mg):OkE P w K mg 5 "is_stand" ["thing"] ig:=by
 refine bE ["thing"] T.is_stand fun _ _ _ _ _ _ _ _ hr q=>?_
 refine' (au (aT (RW.rt (bW (bC (bp (aW T.z_isinstance T.z_tuple bA (rv 0)))) (cg (bC (sO dJ (bf _) dJ (bf _) ah (az aB aH T.z_len aP (af (rv 0) ai)) ah))))) (av (ay bP)) aM)
 (av (ay (az (fK rfl) gD T.z_all j5 (af (cJ cm ["part","thing"] q (cC (rv 0)) ?g0 rt0 ?e0) ai)))))
 (case g0=>intro _ _ _ _ q;exact (aV q))
 (case e0=>intro _ _ _ _;exact (aq (qB T) hr (af (rv 0) ai)))
theorem kD (T:Txt K mg):OkX P w K mg 6 "need_stand" ["stand"] eN:=by
 refine vz ["stand"] T.need_stand fun _ _ _ _ _ _ _ _ hr q hx hmk=>?_
 exact (av (aT (bC (bp (aq (tS T) hr (af (rv 0) ai)))) (av (rP T.ec_NoStand hmk (af aZ ai))) aM))
theorem kP (T:Txt K mg):OkE P w K mg 1 "are_unlike" ["things"] c8:=by
 refine bE ["things"] T.are_unlike fun _ _ _ _ _ _ _ _ hr q=>?_
 have hu:=hr.units
 exact (av (ay (bL (bN hu) bO (v3 rfl rfl T.z_len rfl T.z_set aP jO hu (rv 0)) (az aB aH T.z_len aP (af (rv 0) ai)))))
theorem rB (T:Txt K mg):OkE P w K mg 4 "are_names" ["thing"] gG:=by
 refine bE ["thing"] T.are_names fun _ _ _ _ _ _ _ _ hr q=>?_
 exact (av (ay (bu (aq (dU T) hr (af (rv 0) (af ah (af ah ai)))) (bu (nQ dJ (bf _) dJ (bf _) ah (az aB aH T.z_len aP (af (rv 0) ai)) ah) (bM (aq (kP T) hr (af (rv 0) ai)))))))
theorem oY (T:Txt K mg):OkE P w K mg 3 "is_span" ["low","high","least","most"] gY:=by
 refine bE ["low","high","least","most"] T.is_span fun _ _ _ _ _ _ _ _ hr q=>?_
 exact (av (ay (bu (aq (dc T) hr (af (rv 0) (af (rv 2) (af (rv 3) ai)))) (bu (aq (dc T) hr (af (rv 1) (af (rv 2) (af (rv 3) ai)))) (bM (bL dJ (bf _) (rv 0) (rv 1)))))))
theorem tV (T:Txt K mg):OkE P w K mg 4 "is_bound" ["thing"] ir:=by
 refine bE ["thing"] T.is_bound fun _ _ _ _ _ _ _ _ hr q=>?_
 have hu:=hr.units
 exact (au (aT (RW.rt (bW (bC (bp (aW T.z_isinstance T.z_tuple bA (rv 0)))) (cg (aK (cO hu) cP (az aB aH T.z_len aP (af (rv 0) ai)) ah)))) (av (ay bP)) aM)
 (av (ay (bu (aq (dc T) hr (af (aC (rv 0) ah) (af (dA cU cE ah) (af ah ai)))) (bM (aq (oY T) hr (af (aC (rv 0) ah) (af (aC (rv 0) ah) (af ah (af ah ai))))))))))
theorem qH (T:Txt K mg):OkE P w K mg 5 "are_bounds" ["thing"] gg:=by
 refine bE ["thing"] T.are_bounds fun _ _ _ _ _ _ _ _ hr q=>?_
 refine' (au (aT (RW.rt (bW (bC (bp (aW T.z_isinstance T.z_tuple bA (rv 0)))) (cg (aK fq (bf _) (az aB aH T.z_len aP (af (rv 0) ai)) ah)))) (av (ay bP)) aM)
 (av (ay (bu (az (fK rfl) gD T.z_all j5 (af (cJ cm ["part","thing"] q (cC (rv 0)) ?g0 rt0 ?e0) ai)) (bM (aq (hV T) hr (af (cJ cm ["part","thing"] q (cC (rv 0)) ?g1 rt0 ?e1) ai)))))))
 (case g0=>intro _ _ _ _ q;exact (aV q))
 (case e0=>intro _ _ _ _;exact (aq (tV T) hr (af (rv 0) ai)))
 (case g1=>intro _ _ _ _ q;exact (aV q))
 (case e1=>intro _ _ _ _;exact (aC (rv 0) ah))
theorem wd (T:Txt K mg):OkE P w K mg 6 "is_many" ["wish"] jq:=by
 refine bE ["wish"] T.is_many fun _ _ _ _ _ _ _ _ hr q=>?_
 have hu:=hr.units
 exact (av (ay (bu (bL (bN hu) bO (az aB aH T.z_len aP (af (rv 0) ai)) ah) (bM (aq (qH T) hr (af (aC (rv 0) ah) ai))))))
theorem xx (T:Txt K mg):OkE P w K mg 4 "is_sum" ["wish"] kx:=by
 refine bE ["wish"] T.is_sum fun _ _ _ _ _ _ _ _ hr q=>?_
 have hu:=hr.units
 exact (au (aT (RW.rt (bW (aK (cO hu) cP (az aB aH T.z_len aP (af (rv 0) ai)) ah) (cg (bC (bp (aq (dU T) hr (af (aC (rv 0) ah) (af (dA cU cE ah) (af ah ai))))))))) (av (ay bP)) aM)
 (av (ay (bu (bL (bN hu) bO (az aB aH T.z_len aP (af (aC (rv 0) ah) ai)) (az aB aH T.z_len aP (af (aC (rv 0) ah) ai))) (bM (aq (oY T) hr (af (aC (rv 0) ah) (af (aC (rv 0) ah) (af (dA cU cE ah) (af ah ai))))))))))
theorem v_ (T:Txt K mg):OkE P w K mg 3 "is_door" ["thing"] jg:=by
 refine bE ["thing"] T.is_door fun _ _ _ _ _ _ _ _ hr q=>?_
 have hu:=hr.units
 exact (au (aT (RW.rt (bW (bC (bp (aW T.z_isinstance T.z_tuple bA (rv 0)))) (cg (aK (cO hu) cP (az aB aH T.z_len aP (af (rv 0) ai)) ah)))) (av (ay bP)) aM)
 (av (ay (bu (aq (dc T) hr (af (aC (rv 0) ah) (af ah (af ah ai)))) (bu (aq (dc T) hr (af (aC (rv 0) ah) (af (dA cU cE ah) (af ah ai)))) (bM (aq (dc T) hr (af (aC (rv 0) ah) (af ah (af ah ai))))))))))
theorem rZ (T:Txt K mg):OkE P w K mg 4 "are_doors" ["thing"] gH:=by
 refine bE ["thing"] T.are_doors fun _ _ _ _ _ _ _ _ hr q=>?_
 refine' (au (aT (RW.rt (bW (bC (bp (aW T.z_isinstance T.z_tuple bA (rv 0)))) (cg (aK fq (bf _) (az aB aH T.z_len aP (af (rv 0) ai)) ah)))) (av (ay bP)) aM)
 (av (ay (bu (az (fK rfl) gD T.z_all j5 (af (cJ cm ["part","thing"] q (cC (rv 0)) ?g0 rt0 ?e0) ai)) (bM (aq (kP T) hr (af (rv 0) ai)))))))
 (case g0=>intro _ _ _ _ q;exact (aV q))
 (case e0=>intro _ _ _ _;exact (aq (v_ T) hr (af (rv 0) ai)))
theorem wW (T:Txt K mg):OkE P w K mg 5 "is_row" ["wish"] kb:=by
 refine bE ["wish"] T.is_row fun _ _ _ _ _ _ _ _ hr q=>?_
 have hu:=hr.units
 exact (av (ay (bu (bL (bN hu) bO (az aB aH T.z_len aP (af (rv 0) ai)) ah) (bu (aq (rZ T) hr (af (aC (rv 0) ah) ai)) (bu (aq (dU T) hr (af (aC (rv 0) ah) (af ah (af ah ai)))) (bM (aq (hV T) hr (af (aC (rv 0) ah) ai))))))))
theorem vD (T:Txt K mg):OkE P w K mg 4 "is_hand" ["wish"] jk:=by
 refine bE ["wish"] T.is_hand fun _ _ _ _ _ _ _ _ hr q=>?_
 have hu:=hr.units
 exact (av (ay (bu (bL (bN hu) bO (az aB aH T.z_len aP (af (rv 0) ai)) ah) (bu (aq (dU T) hr (af (aC (rv 0) ah) (af ah (af ah ai)))) (bM (bL (bN hu) bO (az aB aH T.z_len aP (af (aC (rv 0) ah) ai)) (az aB aH T.z_len aP (af (aC (rv 0) ah) ai))))))))
theorem mL (T:Txt K mg):OkE P w K mg 7 "is_of_its_kind" ["wish"] dN:=by
 refine bE ["wish","word"] T.is_of_its_kind fun _ _ _ _ _ _ _ _ hr q=>?_
 have hu:=hr.units
 exact (au (aO q (aC (rv 0) ah))
 (au (aT (aK (fm hu) d8 (rv 1) aZ) (av (ay (bL (bN hu) bO (az aB aH T.z_len aP (af (rv 0) ai)) ah))) aM)
 (au (aT (aK (fm hu) d8 (rv 1) aZ) (av (ay (aq (wd T) hr (af (rv 0) ai)))) aM)
 (au (aT (aK (fm hu) d8 (rv 1) aZ) (av (ay (aq (xx T) hr (af (rv 0) ai)))) aM)
 (au (aT (aK (fm hu) d8 (rv 1) aZ) (av (ay (aq (wW T) hr (af (rv 0) ai)))) aM)
 (av (ay (bu (bL (fm hu) d8 (rv 1) aZ) (bM (aq (vD T) hr (af (rv 0) ai)))))))))))
theorem vT (T:Txt K mg):OkE P w K mg 8 "is_wish" ["thing"] ju:=by
 refine bE ["thing"] T.is_wish fun _ _ _ _ _ _ _ _ hr q=>?_
 exact (au (aT (RW.rt (bW (bC (bp (aW T.z_isinstance T.z_tuple bA (rv 0)))) (cg (aK e_ (bf _) (az aB aH T.z_len aP (af (rv 0) ai)) ah)))) (av (ay bP)) aM)
 (av (ay (bu (aq (rB T) hr (af (aC (rv 0) ah) ai)) (bM (aq (mL T) hr (af (rv 0) ai)))))))
theorem qD (T:Txt K mg):OkE P w K mg 9 "is_wish_of" ["stand","thing"] gj:=by
 refine bE ["stand","thing"] T.is_wish_of fun _ _ _ _ _ _ _ _ hr q=>?_
 refine' (av (ay (bu (aq (vT T) hr (af (rv 1) ai)) (bM (az (fK rfl) gD T.z_all j5 (af (cJ cm ["name","stand","thing"] q (cC (aC (rv 1) ah)) ?g0 rt0 ?e0) ai))))))
 (case g0=>intro _ _ _ _ q;exact (aV q))
 (case e0=>intro _ _ _ _;exact (bL e_ (bf _) (rv 0) (az aB aH T.z_len aP (af (rv 1) ai))))
theorem lM (T:Txt K mg):OkX P w K mg 10 "need_wish" ["stand","wish","number"] c5:=by
 refine vz ["stand","wish","number"] T.need_wish fun _ _ _ _ _ _ _ _ hr q hx hmk=>?_
 exact (av (aT (bC (bp (aq (qD T) hr (af (rv 0) (af (rv 1) ai))))) (av (xu (qa T) hmk hr (af (rv 2) ai))) aM))
theorem CF (T:Txt K mg):OkX P w K mg 11 "need" ["stand","wish"] lT:=by
 refine vz ["stand","wish"] T.need fun _ _ _ _ _ _ _ _ hr q hx hmk=>?_
 exact (au (eU (gE (kD T) hx hr (af (rv 0) ai)))
 (av (eU (gE (lM T) hx hr (af (rv 0) (af (rv 1) (af ah ai)))))))
theorem tP (T:Txt K mg):OkX P w K mg 11 "need_all" ["stand","wishes"] fR:=by
 refine vz ["stand","wishes","number","wish"] T.need_all fun _ _ _ _ _ _ _ _ hr q hx hmk=>?_
 exact (au (eU (gE (kD T) hx hr (af (rv 0) ai)))
 (au (dn (nP rfl T.z_enumerate (rv 1)) (jR (cT (aV q) (cT (aV q) iD))) (av (eU (gE (lM T) hx hr (af (rv 0) (af (rv 3) (af (rv 2) ai)))))))
 (av (aT (aK fq (bf _) (az aB aH T.z_len aP (af (rv 1) ai)) ah) (av (rP T.ec_TooMany hmk (af aZ ai))) aM))))
theorem tO (T:Txt K mg):OkE P w K mg 1 "_law_refusal" ["caught"] cY:=by
 refine bE ["caught","some"] T.l_refusal fun _ _ _ _ _ _ _ _ hr q=>?_
 have hu:=hr.units
 exact (au (aO q (br (af (d9 (jC T.xs (by decide)) (T.xs.cf _ (by decide)) T.z_isinstance (rv 0)) (af (d9 (jC T.xs (by decide)) (T.xs.cf _ (by decide)) T.z_isinstance (rv 0)) (af (d9 (jC T.xs (by decide)) (T.xs.cf _ (by decide)) T.z_isinstance (rv 0)) ai)))))
 (au (aO q (aJ bc ba (rv 1) (br (af (d9 (jC T.xs (by decide)) (T.xs.cf _ (by decide)) T.z_isinstance (rv 0)) (af (d9 (jC T.xs (by decide)) (T.xs.cf _ (by decide)) T.z_isinstance (rv 0)) (af (d9 (jC T.xs (by decide)) (T.xs.cf _ (by decide)) T.z_isinstance (rv 0)) ai))))))
 (au (aO q (aJ bc ba (rv 1) (br (af (d9 (jC T.xs (by decide)) (T.xs.cf _ (by decide)) T.z_isinstance (rv 0)) (af (d9 (jC T.xs (by decide)) (T.xs.cf _ (by decide)) T.z_isinstance (rv 0)) (af (d9 (jC T.xs (by decide)) (T.xs.cf _ (by decide)) T.z_isinstance (rv 0)) ai))))))
 (au (aT (RW.rt (bW (aK (cO hu) cP (Bd PySem.F.slot_list_count PySem.F.type_list_count yQ yV (rv 1) bP) ah) (bW (bC (bp (d9 (jC T.xs (by decide)) (T.xs.cf _ (by decide)) T.z_isinstance (rv 0)))) (cg (bC (bp (uL (uQ (v:=.ty "ValueError") rfl T.z_ValueError qC rfl) (fun u r=>r) (IW T.xs) T.z_isinstance (rv 0)))))))) (av (ay aZ)) aM)
 (av (ay (aC (br (af aZ (af aZ (af aZ (af aZ (af aZ (af aZ (af aZ (af aZ (af aZ ai)))))))))) (Bd QK PySem.F.type_list_index wX w4 (rv 1) bP))))))))
theorem pT (T:Txt K mg):OkE P w K mg 12 "_law_told" ["at","stand","things"] fH:=by
 refine bE ["at","stand","things","caught","found","e","word"] T.l_told fun _ _ _ _ _ _ _ _ hr q=>?_
 have hu:=hr.units
 exact (au (aO q jI)
 (au (aO q ah)
 (au (Gb 5 3 q (Jg T.xs (by decide)) fun _ _ _ hx=>(av (aT (aK (bN hu) bO (rv 0) ah) (av (aO q (gE (CF T) hx hr (af (rv 1) (af (rv 2) ai))))) (av (aO q (gE (tP T) hx hr (af (rv 1) (af (rv 2) ai))))))))
 (au (aT (aK sG tD (rv 3) jI) (av (ay (br (af aZ (af (rv 4) ai))))) aM)
 (au (aO q (aq (tO T) hr (af (rv 3) ai)))
 (av (ay (yq (aK (fm hu) d8 (rv 6) aZ) (br (af (rv 6) (af (Gr (qa T) (rv 3)) ai))) (br (af (rv 6) ai))))))))))
theorem qE (T:Txt K mg):OkE P w K mg 2 "_law_is_stand" ["thing"] fX:=by
 refine bE ["thing","worths"] T.l_is_stand fun _ _ _ _ _ _ _ _ hr q=>?_
 have hu:=hr.units
 refine' (au (aT (RW.rt (bW (bC (bp (aW T.z_isinstance T.z_tuple bA (rv 0)))) (bW (aK e_ (bf _) (az aB aH T.z_len aP (af (rv 0) ai)) ah) (cg (aK fq (bf _) (az aB aH T.z_len aP (af (rv 0) ai)) ah))))) (av (ay bP)) aM)
 (au (dn (cC (rv 0)) (aV q) (au (aT (RW.rt (bW (bC (bp (aW T.z_isinstance T.z_tuple bA (rv 1)))) (bW (aK e_ (bf _) (az aB aH T.z_len aP (af (rv 1) ai)) ah) (cg (aK fq (bf _) (az aB aH T.z_len aP (af (rv 1) ai)) ah))))) (av (ay bP)) aM)
 (au (aT (aK (cO hu) cP (cJ cm ["worth","thing","worths"] q (cC (rv 1)) ?g0 ?t0 ?e0) (br ai)) (av (ay bP)) aM)
 (av (aT (aK (cO hu) cP (bZ eV jm T.z_list eR (af (rv 1) ai)) (vo rfl rfl T.z_sorted rfl T.z_set gP jO (rv 1))) (av (ay bP)) aM)))))
 (av (ay bP))))
 (case g0=>intro _ _ _ _ q;exact (aV q))
 (case t0=>intro _ _ _ _;exact (iI (RW.rt (bW (bC (bp (aq (h9 T) hr (af (rv 0) ai)))) (bW (aK e_ (bf _) (rv 0) (dA cU cE ah)) (cg (aK fq (bf _) (rv 0) ah)))))))
 (case e0=>intro _ _ _ _;exact ah)
theorem da (T:Txt K mg):OkE P w K mg 2 "_law_numbers" ["thing","low","high"] bF:=by
 refine bE ["thing","low","high"] T.l_numbers fun _ _ _ _ _ _ _ _ hr q=>?_
 have hu:=hr.units
 refine' (au (aT (bC (bp (aW T.z_isinstance T.z_tuple bA (rv 0)))) (av (ay bP)) aM)
 (av (ay (bL (bN hu) bO (cJ cm ["one","thing","low","high"] q (cC (rv 0)) ?g0 ?t0 ?e0) (br ai)))))
 (case g0=>intro _ _ _ _ q;exact (aV q))
 (case t0=>intro _ _ _ _;exact (iI (RW.rt (bW (bC (bp (aq (h9 T) hr (af (rv 0) ai)))) (bW (aK e_ (bf _) (rv 0) (rv 2)) (cg (aK fq (bf _) (rv 0) (rv 3))))))))
 (case e0=>intro _ _ _ _;exact ah)
theorem l_ (T:Txt K mg):OkE P w K mg 3 "_law_triples" ["thing","most"] dz:=by
 refine bE ["thing","most"] T.l_triples fun _ _ _ _ _ _ _ _ hr q=>?_
 have hu:=hr.units
 refine' (au (aT (RW.rt (bW (bC (bp (aW T.z_isinstance T.z_tuple bA (rv 0)))) (cg (aK fq (bf _) (az aB aH T.z_len aP (af (rv 0) ai)) (rv 1))))) (av (ay bP)) aM)
 (av (ay (bL (bN hu) bO (cJ cm ["one","thing","most"] q (cC (rv 0)) ?g0 ?t0 ?e0) (br ai)))))
 (case g0=>intro _ _ _ _ q;exact (aV q))
 (case t0=>intro _ _ _ _;exact (iI (RW.rt (bW (bC (bp (aq (da T) hr (af (rv 0) (af (dA cU cE ah) (af ah ai)))))) (cg (aK (cO hu) cP (az aB aH T.z_len aP (af (rv 0) ai)) ah))))))
 (case e0=>intro _ _ _ _;exact ah)
theorem sd (T:Txt K mg):OkE P w K mg 4 "_law_is_wish" ["thing"] cq:=by
 refine bE ["thing"] T.l_is_wish fun _ _ _ _ _ _ _ _ hr q=>?_
 have hu:=hr.units
 refine' (au (aT (RW.rt (bW (bC (bp (aW T.z_isinstance T.z_tuple bA (rv 0)))) (bW (aK e_ (bf _) (az aB aH T.z_len aP (af (rv 0) ai)) ah) (cg (aK (CZ hu) zN (aC (rv 0) ah) (cz (af aZ (af aZ (af aZ (af aZ (af aZ ai))))))))))) (av (ay bP)) aM)
 (au (aT (RW.rt (bW (bC (bp (aq (da T) hr (af (aC (rv 0) ah) (af ah (af ah ai)))))) (bW (bC (sO dJ (bf _) dJ (bf _) ah (az aB aH T.z_len aP (af (aC (rv 0) ah) ai)) ah)) (cg (aK e_ (bf _) (v3 rfl rfl T.z_len rfl T.z_set aP jO hu (aC (rv 0) ah)) (az aB aH T.z_len aP (af (aC (rv 0) ah) ai))))))) (av (ay bP)) aM)
 (au (aT (aK (cO hu) cP (az aB aH T.z_len aP (af (rv 0) ai)) (Gz (.cons (.cons (.cons (.cons (.cons .nil))))) (aC (rv 0) ah))) (av (ay bP)) aM)
 (au (aT (aK (fm hu) d8 (aC (rv 0) ah) aZ) (au (aT (RW.rt (bW (bC (bp (aq (l_ T) hr (af (aC (rv 0) ah) (af ah ai))))) (cg (aK (cO hu) cP (cJ cm ["one","thing"] q (cC (aC (rv 0) ah)) ?g0 ?t0 ?e0) (br ai))))) (av (ay bP)) aM)
 (av (ay (bL (bN hu) bO (cJ cm ["one","thing"] q (cC (aC (rv 0) ah)) ?g1 rt0 ?e1) (vo rfl rfl T.z_sorted rfl T.z_set gP jO (cJ cm ["one","thing"] q (cC (aC (rv 0) ah)) ?g2 rt0 ?e2)))))) aM)
 (au (aT (aK (fm hu) d8 (aC (rv 0) ah) aZ) (au (aT (RW.rt (bW (bC (bp (aq (da T) hr (af (aC (rv 0) ah) (af (dA cU cE ah) (af ah ai)))))) (cg (aK (cO hu) cP (az aB aH T.z_len aP (af (aC (rv 0) ah) ai)) (az aB aH T.z_len aP (af (aC (rv 0) ah) ai)))))) (av (ay bP)) aM)
 (av (ay (bu (aq (da T) hr (af (jM (rv 0) (eZ ah) gm) (af (dA cU cE ah) (af ah ai)))) (bM (bL dJ (bf _) (aC (rv 0) ah) (aC (rv 0) ah))))))) aM)
 (au (aT (aK (fm hu) d8 (aC (rv 0) ah) aZ) (au (aT (RW.rt (bW (bC (bp (aq (l_ T) hr (af (aC (rv 0) ah) (af ah ai))))) (cg (bC (bp (aq (da T) hr (af (aC (rv 0) ah) (af ah (af ah ai))))))))) (av (ay bP)) aM)
 (au (aT (aK (cO hu) cP (cJ cm ["one","thing"] q (cC (aC (rv 0) ah)) ?g3 ?t3 ?e3) (br ai)) (av (ay bP)) aM)
 (av (ay (bu (bL (bN hu) bO (v3 rfl rfl T.z_len rfl T.z_set aP jO hu (aC (rv 0) ah)) (az aB aH T.z_len aP (af (aC (rv 0) ah) ai))) (bM (bL (bN hu) bO (bZ eV jm T.z_list eR (af (aC (rv 0) ah) ai)) (vo rfl rfl T.z_sorted rfl T.z_set gP jO (aC (rv 0) ah))))))))) aM)
 (av (ay (HI (bL (fm hu) d8 (aC (rv 0) ah) aZ) (bM (bu (aq (da T) hr (af (aC (rv 0) ah) (af ah (af ah ai)))) (bM (bL (bN hu) bO (az aB aH T.z_len aP (af (aC (rv 0) ah) ai)) (az aB aH T.z_len aP (af (aC (rv 0) ah) ai)))))))))))))))
 (case g0=>intro _ _ _ _ q;exact (aV q))
 (case t0=>intro _ _ _ _;exact (iI (bC (wU dJ (bf _) dJ (bf _) dJ (bf _) ah (aC (rv 0) ah) (aC (rv 0) ah) ah))))
 (case e0=>intro _ _ _ _;exact ah)
 (case g1=>intro _ _ _ _ q;exact (aV q))
 (case e1=>intro _ _ _ _;exact (aC (rv 0) ah))
 (case g2=>intro _ _ _ _ q;exact (aV q))
 (case e2=>intro _ _ _ _;exact (aC (rv 0) ah))
 (case g3=>intro _ _ _ _ q;exact (aV q))
 (case t3=>intro _ _ _ _;exact (iI (bC (bp (aq (da T) hr (af (cz (af (aC (rv 0) ah) (af (aC (rv 0) ah) ai))) (af ah (af ah ai))))))))
 (case e3=>intro _ _ _ _;exact ah)
theorem wz (T:Txt K mg):OkE P w K mg 5 "_law_is_of" ["stand","wish"] fM:=by
 refine bE ["stand","wish"] T.l_is_of fun _ _ _ _ _ _ _ _ hr q=>?_
 exact (av (ay (bu (aq (sd T) hr (af (rv 1) ai)) (bM (bL e_ (bf _) (az (za rfl) yG T.z_max qY (af (aC (rv 1) ah) ai)) (az aB aH T.z_len aP (af (rv 0) ai)))))))
theorem qZ (T:Txt K mg):OkE P w K mg 6 "_law_due" ["stand","things"] j4:=by
 refine bE ["stand","things","number","thing"] T.l_due fun _ _ _ _ _ _ _ _ hr q=>?_
 exact (au (aT (bC (bp (aq (qE T) hr (af (rv 0) ai)))) (av (ay (br (af aZ ai)))) aM)
 (au (dn (nP rfl T.z_enumerate (rv 1)) (jR (cT (aV q) (cT (aV q) iD))) (av (aT (bC (bp (aq (wz T) hr (af (rv 0) (af (rv 3) ai))))) (av (ay (br (af aZ (af (rv 2) ai))))) aM)))
 (av (ay (yq (aK e_ (bf _) (az aB aH T.z_len aP (af (rv 1) ai)) ah) (br (af aZ (af jI ai))) (br (af aZ ai)))))))
theorem EY (T:Txt K mg):OkE P w K mg 14 "law" ["script"] vp:=by
 refine bE ["script","pen","turn","stand","wide","things","cases","k","some","again","at","thing","handed","one","due"] T.law fun _ _ _ _ _ _ _ _ hr q=>?_
 have hu:=hr.units
 exact (au (aO q (aq (wQ T) hr (af (rv 0) ai)))
 (au (dn (c6 rfl T.z_range (af ah ai)) (aV q) (au (aO q (aq (vB T) hr (af (aq (yd T) hr (af (rv 1) ai)) (af ah (af ah ai)))))
 (au (aO q (aJ bc ba (rv 3) (aJ BK BO (cz (af (cz (af ah (af ah ai))) ai)) (aJ dH (dC _) ah (az aB aH T.z_len aP (af (rv 3) ai))))))
 (au (aO q (aq (tX T) hr (af (rv 1) (af (aC (br (af (rv 3) (af (rv 4) ai))) (aq (aG T) hr (af (rv 1) (af ah ai)))) (af ah ai)))))
 (au (aO q (iA (af (cz (af (rv 3) (af (rv 5) ai))) ai)))
 (au (dn (c6 rfl T.z_range (af ah ai)) (aV q) (au (aO q (bZ eV oZ T.z_list eR (af (rv 5) ai)))
 (au (dn (c6 rfl T.z_range (af (aJ eP (ck _) (aq (aG T) hr (af (rv 1) (af ah ai))) (bZ ya Ah T.z_int lR (af (bL (cO hu) cP (rv 8) (br ai)) ai))) ai)) (aV q) (au (aO q (aq (aG T) hr (af (rv 1) (af (az aB aH T.z_len aP (af (rv 8) ai)) ai))))
 (av (jL (aq (jc T) hr (af (rv 1) (af (aC (rv 8) (rv 10)) (af ah ai)))) (jX (rv 8) (rv 10) my iF)))))
 (av (eU (mh (rv 6) (cz (af (aC (br (af (rv 3) (af (aq (jc T) hr (af (rv 1) (af (rv 3) (af ah ai)))) ai))) (aq (aG T) hr (af (rv 1) (af ah ai)))) (af (Bk (rv 8)) ai)))))))))
 (av (dn (cC (rv 6)) (jR (cT (aV q) (cT (aV q) iD))) (au (aO q (bZ eV jm T.z_list eR (af (rv 8) ai)))
 (au (aT (RW.rt (bW (bC (bp (aq (js T) hr (af (aq (pT T) hr (af ah (af (rv 11) (af (rv 12) ai)))) (af (aq (qZ T) hr (af (rv 11) (af (rv 8) ai))) ai))))) (cg (aK (cO hu) cP (rv 12) (rv 8))))) (av (ay bP)) aM)
 (av (dn (cC (rv 8)) (aV q) (au (aO q (aq (qZ T) hr (af (rv 11) (af (br (af (rv 13) ai)) ai))))
 (av (aT (bC (bp (aq (js T) hr (af (aq (pT T) hr (af ah (af (rv 11) (af (rv 13) ai)))) (af (rv 14) ai))))) (av (ay bP)) aM)))))))))))))))
 (av (ay bP))))
end
end My
namespace PySem.W.Fast
def tw6074527902720386768:=()
def tw3675459669414516955:=()
def tw18406807650585437143:=()
def tw12928442961540101692:=()
def tw9817254535422599414:=()
def tw4015335986336712504:=()
def tw17903966268005219808:=()
def tw8887593686241918753:=()
def tw13179530218832932792:=()
def tw2414163933137255484:=()
def tw13384777908820279591:=()
def tw9971435497092385327:=()
def tw13088358183821089841:=()
def tw271495920088953631:=()
def tw3979323364860057037:=()
def tw1722372742891774843:=()
def tw12805540259797493973:=()
def tw11257555524416985666:=()
def tw8126160686998061654:=()
def tw16046866641673097385:=()
def tw4774605912743840050:=()
def tw14319704921725416851:=()
def tw2060887981942567314:=()
def tw13911425469123672321:=()
def tw5037400289824455530:=()
def tw2038440753321272966:=()
def tw6972704673904665445:=()
def tw8447907144750151851:=()
def tw13879125975658296262:=()
def tw16118211990410016363:=()
def tw9999921890209639783:=()
def tw14569252549613519107:=()
def tw68785045769514794:=()
def tw2292469892830856200:=()
def tw2902922695123470884:=()
def tw12634442937246354010:=()
def tw1801334697670664330:=()
def tw10552937880039048518:=()
def tw12286595206684806656:=()
def tw4212563937376634344:=()
def tw2215740371941158301:=()
def tw4839766796972728150:=()
def tw9588055500240137369:=()
def tw16687278700251210998:=()
def tw2991865245296434670:=()
def tw17557802128974166593:=()
def tw14198005544089372517:=()
def tw12604405811267559100:=()
def tw14801161833332772641:=()
def tw14709908688897332428:=()
def tw14771734459556067438:=()
def tw16961881039238149475:=()
def tw12315609624934411331:=()
def tw4121067639583722924:=()
def tw13563660075651366273:=()
def tw8079091624907566874:=()
def tw15528427159765703622:=()
def tw15962221449549091600:=()
def tw99239106254666305:=()
def tw1982089380545124934:=()
def tw9123278941092053571:=()
def tw8125263142501013172:=()
def tw2409429519962455682:=()
def tw14101331104707357253:=()
def tw18174551857959728399:=()
def tw5576317587206127397:=()
def tw13668197193128726949:=()
def tw14959809950136283023:=()
def tw16972620965898666772:=()
def tw3669924352606204722:=()
def tw2053341843925662111:=()
def tw3084881080306388135:=()
def tw8653200828742254635:=()
def tw41738845568892307:=()
def tw14439626465390059191:=()
def tw18271695497337591428:=()
def tw161348749940072754:=()
def tw2390747806607241127:=()
def tw3325343251156709712:=()
def tw747557112018864574:=()
def tw10254466061945951201:=()
def tw8473193667773163796:=()
def tw8443362274192683015:=()
def tw8245539494679720489:=()
def tw9297230553920858106:=()
def tw9018716687848770223:=()
def tw517362895650739131:=()
def tw7886654938345157604:=()
def tw14972765163060895373:=()
def tw10366985417344836971:=()
def tw9977175238957093365:=()
def tw18114598487230631019:=()
def tw12798366313868514098:=()
def tw9105271139839681874:=()
def tw6577014752642166511:=()
def tw15100153633433521799:=()
def tw2899301632997469668:=()
def tw15909253467023801159:=()
def tw15075420097336646777:=()
def tw18158018309830571820:=()
def tw7670561597144971764:=()
def tw1456548153258315598:=()
def tw4235669484442697631:=()
def tw4042070686466033368:=()
def tw1846088803103195166:=()
def tw9742399289024582475:=()
def tw5018319641564084629:=()
def tw12247151780342812316:=()
def tw7935533855781089879:=()
def tw4481078485740103771:=()
def tw7930801141690842045:=()
def tw16475930018361758725:=()
def tw15481829186971951064:=()
def tw2915534352173169167:=()
def tw11622379659978020960:=()
def tw9711681830849665051:=()
def tw17573231127225453387:=()
def tw17297123987275938797:=()
def tw15223171225553052232:=()
def tw3818030640735096602:=()
def tw1674199321033938112:=()
def tw7467814992196273765:=()
def tw642325347947974295:=()
def tw14236637622509952536:=()
def tw4859550127847308312:=()
def tw2551229201795780646:=()
def tw13506752372083933533:=()
def tw15294418550085968714:=()
def tw17750742958279392032:=()
def tw16540724856892602686:=()
def tw14090890675853685675:=()
def tw11089413231515344630:=()
def tw4509628529723642340:=()
def tw3355126899003204165:=()
def tw12584032946871088860:=()
def tw9471614684472299605:=()
def tw2841653460642080354:=()
def tw2531221321746915422:=()
def tw7769887758013774599:=()
def tw12832549448856578278:=()
def tw6657323851701671157:=()
def tw8918015612745509416:=()
def tw9188360939755389599:=()
def tw12537426635336640166:=()
def tw4470026325722136872:=()
def tw5596552233695700214:=()
def tw14789932191197497515:=()
def tw10896464861320878262:=()
def tw9172050542303473886:=()
def tw3608654023155172658:=()
def tw3605091787493432110:=()
def tw3263368071734594355:=()
def tw17234904639526131474:=()
def tw16923612569784482528:=()
def tw8081210547142039882:=()
def tw11733242393612520373:=()
def tw3691881864688600160:=()
def tw16741034958256296784:=()
def tw10802048327499737709:=()
def tw928710094238910767:=()
def tw15678189801221217271:=()
def tw5831071695509383241:=()
def tw11774903887164999093:=()
def tw876992976580563323:=()
def tw12735941674037543027:=()
def tw6209525384945434916:=()
def tw3445107772741917808:=()
def tw6334621535886263174:=()
def tw15780174820890376342:=()
def tw10354940846387134503:=()
def tw5492195756501798057:=()
def tw16914354595975959948:=()
def tw6540103078437754812:=()
def tw4585986890651914189:=()
def tw3672581975588225343:=()
def tw12306394623067974957:=()
def tw11001131831669556744:=()
def tw14510790027809808882:=()
def tw5500187622326247559:=()
def tw2649373038851389016:=()
def tw347207326033643120:=()
def tw10615979905292317486:=()
def tw18104564695542504795:=()
def tw13601394876488662342:=()
def tw7691020431879754306:=()
def tw18076657564046095863:=()
def tw3765026670384853915:=()
def tw2215819795924247600:=()
def tw11644719894577385039:=()
def tw1758268066723135461:=()
def tw4326046847048821795:=()
def tw6316006989766376588:=()
def tw6116520892839048429:=()
def tw4867514021050593263:=()
def tw11733715051557519931:=()
def tw10766738379496649030:=()
def tw3350777205982323710:=()
def tw11026863365464857825:=()
def tw5497572403591100637:=()
def tw17068241124590482959:=()
end PySem.W.Fast
namespace My
open PySem L2
def wF (K:JV):Sp:=fun vs H Q _=>∃ (l:Addr) (ns:List Int),vs=[.ref l]∧SqL K H l (ns.map V.int)∧ns.length≤63∧∀ H',Q (.bl true) H'
theorem all_mk {l:QR} {w:Kq} {K:JV} {mg:Str→Option Value} {fa:Addr} (hfa:mg "law"=some (.ref fa)) (T:Txt K mg) :
  ∃ fd:Lk,(∀ (s:JU) (v:Value),Qj s fd ⟨[v],[]⟩ [("script",v)])∧∀ base:Heap,K.In base→base.Ns KY mg→eK l.prog w K mg base CX0 14 fa fd ["script"] (wF K):=by
 obtain ⟨f,fd,m,kp,b,F⟩:=EY (P:=l.prog) (w:=w) T
 have e2:f=fa:=(OP (KA (hfa.symm.trans m))).symm
 subst e2
 refine ⟨fd,fun s v=>.of_eq (b [v] rfl),fun base _ _=>(F base).imp fun vs H Q E h=>?_⟩
 obtain ⟨l,ns,rfl,hS,hl,hQ⟩:=h
 refine ⟨fun _=>l,[],[.sc ns],⟨fun n o h=>(by cases h),fun n m o o' h=>(by cases h)⟩,.cons ⟨l,rfl,SqL.mono (fun b o h=>cn h (by rintro ⟨n,o',e,_⟩;cases e)) hS⟩ .nil,?_⟩
 rw [AE ns]
 intro b μ' H' st r
 cases r
 exact hQ H'
theorem walk {l:QR} {q:Kn} {loose:List Str} {XP:(Str→Option Value)→Heap→Prop} {YP:Kq→Heap→Prop} {d:DefRec} {K:Params→JV} (hn:l.most=some 63) (hdf:d.params.defaults=[])
  (hY:∀ (w:Kq) (h:Heap),YP w h→(K w.params).In h)
  (F:∀ (w:Kq) (mg:Str→Option Value) (fa:Addr) (h:Heap),(K w.params).In h→h.Ns KY mg→mg d.name=some (.ref fa) →
   ∃ fd:Lk,(∀ (s:JU) (u:Value),Qj s fd ⟨[u],[]⟩ [("script",u)])∧∀ base:Heap,(K w.params).In base→base.Ns KY mg→eK l.prog w (K w.params) mg base CX0 14 fa fd ["script"] (wF (K w.params))) :
  US q loose XP YP l.row.toRowW d [] (fun f vs=>Oy f vs):=
 L2.Dg (n:=63) (k:=14) (x:="script") (CX:=fun _=>CX0) (sp:=fun w=>wF (K w.params)) hn (by decide) hdf ⟨rfl,by decide,by decide⟩ hY F (fun _ _ a ns hl _ hS=>⟨a,ns,rfl,hS,hl,fun _=>rfl⟩) fun _ _ _ _ _ z=>z
end My
open PySem PySem.W PyProof.Rows
set_option maxRecDepth 100000 in
set_option maxHeartbeats 0 in
theorem PySem.Challenge.cw_wishstrike_k05_stands_and_wishes_refused_holds : PySem.Challenge.rw_wishstrike_k05_stands_and_wishes_refused.Holds := by
  w_on;o_law;k_head;(case hw=>w_witness2)
  k_fill
  refine My.walk (l:=PySem.Challenge.rw_wishstrike_k05_stands_and_wishes_refused) rfl rfl (fun w h Y=>PySem.W.kIn_of Y) ?F
  case F=>
    intro w mg fa h KX G hmg
    refine' My.all_mk hmg ?T
    (case T=>constructor<;>first | (refine' PySem.W.mg_none_of KX G ?z;(case z=>k_is)) | (refine' L2.Hl KX G ?a ?l ?c ?k;(case a=>k_is);(case l=>k_is);(case c=>k_is);(case k=>k_is)) | (refine' L2.A6 KX G ?a ?xq;(case a=>k_is);(case xq=>k_exc)) | (constructor;(case le=>decide);all_goals (repeat' (first | exact (fun _ z=>absurd z Kw) | refine List.forall_mem_cons.mpr ⟨?_,?_⟩));all_goals first | (refine' L2.Hb KX G ?a ?b1 ?b2 ?b3 ?b4 ?b5 ?b6 ?b7 ?b8;(case a=>k_is);(case b1=>k_is);(case b2=>k_is);(case b3=>k_is);(case b4=>k_is);(case b5=>k_is);(case b6=>k_is);(case b7=>k_is);(case b8=>k_is)) | (refine' L2.CJ KX G ?a ?a' ?xq ?z ?e;(case a=>k_is);(case a'=>k_is);(case xq=>k_is);(case z=>first | exact Qu rfl | exact Qv (by decide));(case e=>decide +kernel))) | (refine' L2.GF KX G ?a ?b1 ?b2 ?b3 ?b4 ?b5 ?b6 ?b7 ?b8 ?w ?xq ?l ?d1 ?d2 ?d3 ?d4 ?d5 ?d6 ?d7 ?e1 ?e2 ?e3 ?e4;(case a=>k_is);(case b1=>k_is);(case b2=>k_is);(case b3=>k_is);(case b4=>k_is);(case b5=>k_is);(case b6=>k_is);(case b7=>k_is);(case b8=>k_is);(case w=>k_is);(case xq=>k_exc);(case l=>k_is);(case d1=>k_is);(case d2=>k_is);(case d3=>k_is);(case d4=>k_is);(case d5=>k_is);(case d6=>k_is);(case d7=>k_is);(case e1=>k_is);(case e2=>k_is);(case e3=>k_is);(case e4=>k_is)))
#print axioms PySem.Challenge.cw_wishstrike_k05_stands_and_wishes_refused_holds
