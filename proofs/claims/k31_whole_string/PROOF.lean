import PyProof.Rows.All
import Wide.All
import OpenK.AllK
import Wide.FinOn
import Lean
import PyProof.EqAt
import PyProof.EqKinds
import PyProof.TupleCall
import PySem.Challenge.RW_ripestone_k31_whole_string
open Array renaming length_toList→K3,getElem?_toList→L8,getElem?_eq_getElem→O1,getD→P5,getElem_toList→V3,toList_push→j9,toList→u4
open Bool renaming false_ne_true→E2,and_eq_true→G9,eq_iff_iff→N3,false_eq_true→W8,eq_false_iff→X7,or_eq_true→m8,and_false→o9,or_false→t8
open Int renaming toNat_natCast→C8,emod_nonneg→F6,emod_lt_of_pos→F9,le_of_lt→N0,natCast_nonneg→N9,toNat_of_nonneg→Q2,pow_pos→Q8,natCast_mul→V9,zero_add→Y4,natCast_emod→Y8,natCast_ediv→Y9,le_refl→b9,mul_nonneg→r6
open Int.ofNat renaming inj→u3
open List renaming getElem?_eq_getElem→B6,length_map→B7,getD_eq_getElem?_getD→B8,getElem?_map→C4,mem_cons→C5,mem_cons_of_mem→C6,length_append→C7,mem_cons_self→C9,range→D2,size_toArray→D3,getElem?_eq_some_iff→D4,map_cons→D5,length_cons→D8,mem_singleton→D9,getElem?_eq_none→E1,length_range→E3,mem_of_getElem?→E4,replicate→E7,nodup_cons→E8,mem_append_right→F0,append_nil→F2,length_take→F3,mem_range→F5,mem_append→G0,getElem?_append_left→G3,getElem?_set→G4,mem_map→G5,mem_append_left→G6,getElem?_range→G8,map_append→J0,getElem_of_mem→J1,getElem?_set_self→J3,zipWith_cons_cons→J4,pairwise_cons→J7,length_set→K2,map_map→K4,ext_getElem?→K5,pairwise_iff_getElem→K6,pairwise_append→K7,mem_filter→K9,map_nil→L3,mem_of_mem_take→L5,eq_nil_of_length_eq_zero→L6,getElem?_append_right→M0,take_sublist→M5,take_append_drop→M6,all_eq_true→M8,eraseIdx_cons_succ→N1,filter_nil→N4,length_drop→N6,getElem_mem→N7,take_length→N8,drop_eq_getElem_cons→O0,append_assoc→O3,take_add_one→O4,filter_cons_of_pos→O5,filter_cons_of_neg→O6,take_of_length_le→O7,filter_append→P1,find?_cons→P2,nodup_append→P4,erase_cons_tail→P6,cons_append→Q1,filter_sublist→Q3,filter_eq_self→Q4,erase_eq_eraseIdx_of_idxOf→Q5,getElem?_replicate→Q6,zip_cons_cons→Q7,getElem_take→Q9,length_replicate→R0,zipWith→R1,zipWith_nil_left→R3,idxOf_lt_length_of_mem→R5,lookup→R7,filterMap_cons→R8,map_congr_left→R9,length_pos_iff→S0,foldl_append→T6,pairwise_map→T7,filter_congr→T8,pairwise_lt_range→T9,any_cons→U0,lookup_cons→U2,any_eq_true→U4,drop_length→U5,eraseIdx_sublist→U7,eraseIdxIfInBounds_toArray→U8,getElem?_set_ne→U9,idxOf_cons→V4,getLast?_concat→V5,mem_of_mem_drop→V6,idxOf_cons_self→V7,getD_cons_succ→W3,getElem?_drop→W9,getElem?_take→X0,length_eraseIdx_of_lt→X1,getLast?_eq_getElem?→X9,ext_getElem→Y1,length_erase_of_mem→Y2,set_set→Y3,map_set→Y7,getElem?_cons_succ→Z6,of_mem_zip→a7,nil_append→a8,length_zip→a9,range_succ→b6,filter_eq_nil_iff→c7,nodup_nil→c9,reverse_reverse→d9,range_eq_range'→e9,mem_of_getLast?→f6,forall_mem_cons→f7,map_take→g6,map_drop→g7,take_succ_cons→g8,replicate_succ→g9,forall_mem_nil→h9,mem_filterMap→i4,getElem_idxOf→j0,erase_sublist→j5,reverse_cons→j7,drop_sublist→j8,getLast?_map→k9,length→l0,range'_succ→l5,filter_cons→l7,nodup_range→l8,filter_map→o6,foldl_cons→o7,drop_zero→r0,take_zero→r9,all_cons→t9
open List.Pairwise renaming nil→k7,map→k8
open List.Perm renaming refl→T1,append_left→d6,swap→p6
open Nat renaming le_refl→D1,lt_of_lt_of_le→E5,ne_of_lt→E9,le_trans→G1,not_lt_zero→I0,lt_or_ge→J2,lt_irrefl→L7,le_succ→L9,zero_le→M3,lt_succ_self→M7,lt_succ_of_lt→N2,le_of_lt→O8,zero_add→P0,mul_le_mul→P7,ne_of_gt→P8,le_of_ble_eq_true→R4,mod_lt→T2,succ_le_succ→U1,div_lt_of_lt_mul→V8,mul_pos→W5,lt_of_le_of_lt→W7,sub_self→Z0,le_of_eq→i5,min_self→i8,eq_zero_or_pos→i9,sub_zero→j4,div_add_mod→n9,mod_add_div→o0
open Nat.succ renaming inj→u5
open Option renaming bind_some→B9,map_some→G7,isSome_iff_exists→S5,getD_some→U3,isSome_map→X6,map_eq_none_iff→c6,isSome_some→i7,getD_none→l4,map_map→p7,none→u6
open Option.some renaming inj→F1
open Or renaming inr→D6,inl→D7
open Prod renaming ext→l6
open PyProof.Rows renaming boot_list→J5,callWith_type1→J6,boot_sorted→T0,callWith_builtin1→V2,boot_range→Z8
open PyProof.Rows.F renaming plain_set_update_loop→O9,entry_set_update_loop→S7
open PySem renaming boot_len→F4,mem_of_lookup→N5,Within→i3,call→m9
open PySem.F renaming plainAttrs_list→E6,slot_list_append→J8,type_list_append→J9,called_set→M9,slot_list_remove→S8,type_list_remove→S9,slot_list_index→T3,type_list_index→T4,slot_dict_get→U6,plain_extend_loop→X8,slot_list_insert→Y5,type_list_insert→Y6,args_dict_get_2→Z5,plain_list_iadd→Z7,entry_dict_get→b8,plain_set_new→d7,slot_set_iter→d8
open PySem.W renaming findIn→F8,fnOf→G2,mg_none_of→K0,kitOne→K1,keepIn→K8,kia_one→L0,codeIn→L4,emptyDict→M4,instObj→O2,isFn→P9,plainGet→R6,nsIn→S6,hasDictIn→T5,makesIn→V1,plainGet_of→W0,lookIn→W4,callWith_K→W6,methodObj→X2,plainOver→X3,specialIn→X4,kitx_list→X5,takerIn→Z9,cellsFrom_some→b7,methodCall_KW→c8,mg_of→f9,kitx_tuple→i6,kitx_dict→j6,handedIn→l3,hideAll→l9,takesIn→m7,OpenLaw→n8,typeIn→o8,kitCls→p5,mroIn→t7,WalkO→u0
open Sum renaming inl→F7,inr→Y0
theorem U.{u}{α:Sort u}{a:α}:a=a:=rfl
open Bool renaming true→NG,false→NH
open Option renaming some→ND
open PyProof.Rows renaming envOfC→BT,AllBare→DC,IntsAre→EA,firstMet→FF,subscriptTail_builtinR→FY,seqObj→Fs,subscriptTail→GV,firstMet_succ→GW,firstMet_length_le→HV,Subscript_→IS,firstMet_zero→Kb
open PySem renaming Value→A6,Addr→A7,Shared→A8,wpAny_bind→A9,starEach→AB,Expr→AD,wpAny_pure→AE,wpAny→AF,model→AG,Stmt→AH,Program→AI,World→AL,Heap→AM,Around→AN,eval→AO,compareOp→AS,bootBuiltins→AU,mainGlobals→AV,wpAny_mono→AX,backTo→AZ,wpAny_Call_Name_kw→Ap,cLine→As,foldedSetIterable→B3,Scope→BD,FuncData→BE,wpAny_truthy_bool→BH,wpAny_call_entry→BN,sysModules→BO,wpAny_passesOwn→BQ,wpAny_holding→BS,wpAny_newObj_type→BU,wpAny_setState_of→BY,keywordEach→CA,wpAny_askSetting→CB,wpAny_setEntries_of→CC,wpAny_callSpecial?_slot→CF,codeAny→CH,attributeBase→CI,tupleKind_room_in1→CM,scanBound→CO,codeAny_builtin→CS,wpAny_ite_split→CU,holding→Cb,codeAny_mono→Cf,wpAny_setField→Ch,swapsWith→Co,pyNext→DB,sliceBounds→DD,wpAny_of_eq→DF,Builtin→DH,binaryOp→DI,getMethod→DJ,backToKw→DL,wpAny_pyIter_list→DO,plainId_quiet→DT,bindArgs→DU,standAt→Da,PassesOwn→Dx,wpAny_execs_nil→EB,assignEach→EC,letOwnedTupleGo→ED,rawInt→EE,relayAll→EF,wpAny_fieldsOf→EG,CmpOp→EH,tupleKind→EI,assign→EJ,wpAny_attempt→EM,fits_of_scanBound→ES,call_meets→EU,Keyword→EV,valueAt→EW,callerA→EX,setNext→EZ,Result→Ee,callWith→FB,NameKind→FC,wpAny_comprehension_free→FD,wpAny_isInstance→FH,atKey→FR,sizeLine_eq→FU,seqIndex_of→FV,subscripted→FX,wpAny_isTrue_Compare1→Fh,BindsTo→Fk,getItem→Fm,relabel→Fn,builtinLookup_eq_fast→Fu,isSubtype_type→GA,bindL→GG,bindC→GH,setsByText→GL,wpAny_standAt→GO,rangeSize_one→GU,ExceptHandler→GY,isTrue→HC,pyIter→HE,seqIndex_neg→HL,pickOrder→HU,wpAny_assign_Name→He,wpAny_storeSet_of→IA,wpAny_pyIter_slot→IB,wpAny_setEpoch_of→IC,GenState→IF,wpAny_execs_cons→IG,wpAny_Dict_empty→IH,builtinsNs→II,Drawn→IJ,Model→IL,wpAny_Name→IM,wpAny_load→IP,wpAny_call→IQ,wpAny_specialOf→IT,intKind_is→IY,wpAny_rule→IZ,codeAny_of_tree→Ic,typeLookup_type→Iq,wpAny_updateSeq→Iy,call_list_range→JA,wpAny_Compare1→JE,recursionLimit→JI,fitsIndex_both→JJ,ElemsOf→JO,wpAny_runValue→JY,entryFor_alias→Jn,firstArgMember→KA,isSubtype_stop→KB,wpAny_seqItems→KE,small_one→KF,cellsFrom→KG,seqIndex?→KI,drawOrder→KL,intBits_le_64→KO,evalPart_none→KP,call_list_seq→KS,signature?_of→Kj,call_range_1→Kt,call_range_2→Kx,call_meetsIn→LA,Params→LB,compEnvC→LD,setAddHashed→LG,entryFor→LH,argsOk→LI,wpAny_typeOf→LM
open PySem.Around renaming under_plainId→Bz,under→HG
open PySem.AutoSeq1 renaming list_insert_list_int_val_1→HZ
open PySem.Builtin.Frozenset renaming updateFrom→JU,newClass→KW,addrOf→LJ,sizeOf→LL,slot0→LP
open PySem.Builtin.Int renaming intBits→CD
open PySem.Builtin.List renaming listExtendWith→Ct,listLengthHint→EK,listSameRef→FI
open PySem.Builtin.Range renaming rangeSize→LN
open PySem.Calls renaming spliced_cons→BF,spliced_nil→BI,Name_function_global→EL,callWith_builtin→Fa,evalArgs_plain→GI
open PySem.Code renaming isFrame→HI,frames→LV
open PySem.DictEntry renaming refKey→MV
open PySem.Heap renaming get?_push_of_some→AA,lt_size→AJ,get?_push_size→AK,size_push→AY,get?_update_self→BA,get?_update_other→BC,SameBut→BG
open PySem.Heap.DictOf renaming new→Mb
open PySem.Heap.IsSliceOf renaming new→MI
open PySem.Heap.Ns1 renaming of_empty→MQ
open PySem.Heap.SameBut renaming update→B4,refl→MU
open PySem.IsRange renaming new→IE
open PySem.Manifest renaming sig_set_iterator→Kn,owners→Md
open PySem.MeetsSeq renaming list_pop_at→Ll,list_remove→Lo,EqGives→MY
open PySem.MeetsSeq.EqGives renaming int→Lm
open PySem.NameKind renaming free→Au,cell→Mo
open PySem.Obj renaming data_mapFields→BB,isFreed_of_fields→Cn,mapSeq→DM,cls_mapFields→ET,putSet→IX,mapFields→Kk
open PySem.Paired renaming length→GN,snoc→LW
open PySem.PassesOwn renaming never→AW
open PySem.SeqAt renaming EqAt→LX
open PySem.SeqAt.EqAt renaming int_str→Go,str_int→HA,none_bool→LY,bool_none→LZ,bool_bool→Lc,none_int→Lu,none_str→Lv,bool_int→MA,bool_str→MB,int_none→MC,int_bool→MD,str_none→ME,str_bool→MG,int_int→ML,str_str→MM,same→MZ
open PySem.SetTable renaming below→AR,grown→BM,has→HM,slot→KU,toList_insertAt→LF,fits_plain_off→LO,orStandIn→MO,freeSlot→MR,insertAt→MS,standIn→MW,advance→MX,relaid→Mc,fresh→Me,Probe→Mn,laid→NA,fits→NC
open PySem.SetTable.below renaming go→CY
open PySem.SetTable.probe renaming go→ER
open PySem.Shared renaming TypeIs→Ki
open PySem.Str renaming ofString→FG,empty→MH
open PySem.Value renaming ref→AQ,none→B5,type→Bi,int→CL,bool→DA,isInt_shape→EO,str→FM,float→ID,isStrOf→KM,isInt→LS,bytes→LU
open PySem.Walks renaming list→IU
open PySem.pickOrder renaming go→HP
--HEAD
abbrev aF:=PySem.W.Frag
theorem aX{α:Type u_1}{b:α}{β:Type u_2}{x:Option β}{f:β→Option α}(h:x.bind f=ND b):∃a,x=ND a∧f a=ND b:=Option.bind_eq_some_iff.mp h
theorem lJ{α:Type u_1}{b:α}{β:Type u_2}{x:Option β}{f:β→α}(h:x.map f=ND b):∃a,x=ND a∧f a=b:=Option.map_eq_some_iff.mp h

set_option Elab.async false
set_option linter.all false
set_option maxRecDepth 100000
namespace L2
open PySem PySem.Spec PyProof.Rows
abbrev Key:=Sum Int Str
def Tt:Key→A6→Bool
 | .inl k,v=>LS k v
 | .inr x,v=>KM x v
def aI4(w:AL):Key→Int
 | .inl k=>hashInt k
 | .inr x=>hashStr w x
theorem gK:∀{k:Key} {v:A6},Tt k v=NG→(∃i t,k=F7 i∧v=CL i t)∨(∃x t,k=Y0 x∧v=FM x t)
 | .inl i,v,h=>by obtain⟨t,e⟩:=EO (k:=i) (v:=v) h;exact .inl ⟨i,t,U,e⟩
 | .inr x,v,h=>by obtain⟨t,e⟩:=Value.isStrOf_shape (x:=x) (v:=v) h;exact .inr ⟨x,t,U,e⟩
theorem jx(i:Int)(t:Tok):Tt (.inl i) (.int i t)=NG:=by simp[Tt,LS]
theorem jy(x:Str)(t:Tok):Tt (.inr x) (.str x t)=NG:=by simp[Tt,KM]
theorem aEZ(a b:Int):decide ((F7 a:Key)=F7 b)=(a==b):=by
 by_cases e:a=b
 ·subst e;simp
 ·have h:¬(F7 a:Key)=F7 b:=λq=>e (Sum.inl.inj q);rw[decide_eq_false h];exact(beq_eq_false_iff_ne.mpr e).symm
theorem aE0(a b:Str):decide ((Y0 a:Key)=Y0 b)=decide (a=b):=by
 by_cases e:a=b
 ·subst e;simp
 ·have h:¬(Y0 a:Key)=Y0 b:=λq=>e (Sum.inr.inj q);rw[decide_eq_false h,decide_eq_false e]
theorem aE1(a:Int)(b:Str):decide ((F7 a:Key)=Y0 b)=NH:=decide_eq_false (λq=>nomatch q)
theorem aE2(a:Str)(b:Int):decide ((Y0 a:Key)=F7 b)=NH:=decide_eq_false (λq=>nomatch q)
def iB(prog:AI)(w:AL):PySem.KeyKind prog w Key where
  is:=Tt
  hash:=aI4 w
  inj:=λv a b ha hb=>by
    rcases gK ha with ⟨i,t,rfl,rfl⟩ | ⟨x,t,rfl,rfl⟩
    · rcases gK hb with ⟨j,u,rfl,e⟩ | ⟨y,u,rfl,e⟩
      · injection e with e1 _;rw[e1]
      · exact nomatch e
    · rcases gK hb with ⟨j,u,rfl,e⟩ | ⟨y,u,rfl,e⟩
      · exact nomatch e
      · injection e with e1 _;rw[e1]
  byValue:=λk v h=>by rcases gK h with ⟨i,t,rfl,rfl⟩ | ⟨x,t,rfl,rfl⟩<;>rfl
  pyHash:=λhv h=>by
    rcases gK hv with ⟨i,t,rfl,rfl⟩ | ⟨x,t,rfl,rfl⟩
    · exact wpAny_pyHash_int h
    · exact wpAny_pyHash_str h
  eqBool:=λhu hv h=>by
    rcases gK hu with ⟨i,t,rfl,rfl⟩ | ⟨x,t,rfl,rfl⟩
    · rcases gK hv with ⟨j,u,rfl,rfl⟩ | ⟨y,u,rfl,rfl⟩
      · rw[aEZ]at h;exact wpAny_eqBool_int h
      · rw[aE1]at h;exact Go i t y u _ _ _ _ h
    · rcases gK hv with ⟨j,u,rfl,rfl⟩ | ⟨y,u,rfl,rfl⟩
      · rw[aE2]at h;exact HA x t j u _ _ _ _ h
      · rw[aE0]at h;exact wpAny_eqBool_str h
  «strs»:=λk x t v h=>by
    rcases gK h with ⟨i,u,rfl,e⟩ | ⟨y,u,rfl,e⟩
    · exact nomatch e
    · injection e with e1 _
      subst e1;cases v<;>rfl
theorem CV(prog:AI)(w:AL)(i:Int)(t:Tok):(iB prog w).is (.inl i) (.int i t)=NG:=jx i t
theorem CW(prog:AI)(w:AL)(x:Str)(t:Tok):(iB prog w).is (.inr x) (.str x t)=NG:=jy x t
end L2
namespace L2
open PySem PySem.Spec PyProof.Rows
inductive V where
  | non | bl (b:Bool) | int (i:Int) | str (x:Str) | byt (b:Array UInt8) | flt (b:UInt64) | ref (a:A7) | ty (n:String)
  deriving DecidableEq
def RelV:V→A6→Prop
 | .non,u=>u=B5
 | .bl b,u=>u=DA b
 | .int i,u=>∃t,u=CL i t
 | .str x,u=>∃t,u=FM x t
 | .byt b,u=>∃t,u=LU b t
 | .flt b,u=>∃t,u=ID b t
 | .ref a,u=>u=AQ a
 | .ty n,u=>u=Bi n
abbrev Vals:List V→List A6→Prop:=Paired RelV
theorem Vals.length{xs:List V}{us:List A6}(r:Vals xs us):xs.length=us.length:=GN r
theorem Vals.get:∀{xs:List V} {us:List A6} {i:Nat} {x:V},Vals xs us→xs[i]?=ND x→∃u,us[i]?=ND u∧RelV x u
 | _,_,_,_,.nil,e=>by simp at e
 | _,_,0,_,.cons r _,e=>by simp at e;subst e;exact⟨_,rfl,r⟩
 | _,_,i+1,x,.cons _ t,e=>by obtain⟨u,h1,h2⟩:=Vals.get (i:=i) (x:=x) t (by simpa using e);exact⟨u,by simpa using h1,h2⟩
theorem Vals.set{x:V}{u:A6}(r:RelV x u):∀{xs:List V} {us:List A6} (i:Nat),Vals xs us→Vals (xs.set i x) (us.set i u)
 | _,_,_,.nil=>.nil
 | _,_,0,.cons _ t=>.cons r t
 | _,_,i+1,.cons q t=>.cons q (Vals.set r i t)
theorem Vals.append:∀{xs ys:List V} {us ws:List A6},Vals xs us→Vals ys ws→Vals (xs++ys) (us++ws)
 | _,_,_,_,.nil,s=>s
 | _,_,_,_,.cons r t,s=>.cons r (Vals.append t s)
theorem Vals.take:∀{xs:List V} {us:List A6} (n:Nat),Vals xs us→Vals (xs.take n) (us.take n)
 | _,_,0,_=>.nil
 | _,_,_+1,.nil=>.nil
 | _,_,n+1,.cons r t=>.cons r (Vals.take n t)
theorem Vals.drop:∀{xs:List V} {us:List A6} (n:Nat),Vals xs us→Vals (xs.drop n) (us.drop n)
 | _,_,0,r=>r
 | _,_,_+1,.nil=>.nil
 | _,_,n+1,.cons _ t=>Vals.drop n t
def yD:Option V→Option A6→Prop
 | some v,ND u=>RelV v u
 | none,none=>True
 | _,_=>False
def KV{κ:Type}:List (κ×V)→List (κ×A6)→Prop:=Paired λ(p:κ×V) (q:κ×A6)=>p.1=q.1∧RelV p.2 q.2
def kV:Key→V
 | .inl i=>.int i
 | .inr x=>.str x
inductive HO where
  | lst (xs:List V)
  | tup (xs:List V)
  | dK (kvs:List (Key×V)) | dT (kvs:List (List Key×V))
  | set (S:Int→Bool) (n:Nat)
  | ins (C dx:A7) (fs:List (Str×V))
  | own (x:A7)
  | xd (fs:List (Str×V))
  | met (f x:A7)
  | rng (lo hi:Int)
  | yM (o:Obj) (u:HO)
  | tbl (ps:Array A6)
  | ext (φ:AM→Prop)
abbrev Hp:=A7→Option HO
def upd(H:Hp)(a:A7)(o:HO):Hp:=λb=>if b=a then ND o else H b
theorem cD{H:Hp}{a:A7}{o:HO}:upd H a o a=ND o:=by unfold upd;rw[if_pos rfl]
theorem bN{H:Hp}{a b:A7}{o:HO}(h:b≠a):upd H a o b=H b:=by unfold upd;rw[if_neg h]
theorem aHj{H:Hp}{a b:A7}{o u:HO}(h:H a=ND o)(h':H b=ND u)(d:o≠u):a≠b:=by intro e;subst e;rw[h]at h';exact d (F1 h')
theorem gR{H:Hp}{a b:A7}{o:HO}(h:H a=ND o)(h':H b=none):a≠b:=by intro e;subst e;rw[h]at h';cases h'
section
variable(P:AI)(w:AL)
def iV(H:Hp)(h:AM)(a:A7):HO→Prop
 | .lst xs=>xs.length≤sizeLine∧∃(its:List A6)(n:Nat),Vals xs its∧h.get? a=ND {cls:=.type "list", data:=.seq its.toArray n}
 | .tup xs=>xs.length≤sizeLine∧∃its:List A6,Vals xs its∧IsTup h a its.toArray
 | .dK kvs=>kvs.length≤sizeLine∧(a==BO)=NH∧∃vs,KV kvs vs∧h.DictOf (iB P w) a vs
 | .dT kvs=>kvs.length≤sizeLine∧(a==BO)=NH∧∃xs:List (List Key×A7×A6),
   Paired (λ(p:List Key×V) (q:List Key×A7×A6)=>p.1=q.1∧H q.2.1=ND (.tup (p.1.map kV))∧RelV p.2 q.2.2) kvs xs ∧
   ∃o es ep,h.get? a=ND o∧o.ExactDict∧o.data=.dict es ep∧es.toList=xs.map (entryOfKey (EI (iB P w)))∧(xs.map (·.1)).Nodup
 | .set S n=>h.SetOf (intKind P w) a S n
 | .ins C dx fs=>H dx=ND (.own a)∧fs.length≤1000∧dx≠a∧h.get? a=ND (O2 C dx) ∧
   ∃mA,h.Ns1 dx mA∧(∀f,yD (fs.lookup f) (mA f))∧i3 mA (fs.map (·.1))
 | .own _=>∃o,h.get? a=ND o
 | .xd fs=>∃mA,h.Ns1 a mA∧∀f,yD (fs.lookup f) (mA f)
 | .rng lo hi=>∃t u v,h.get? a=ND {cls:=.type "range", data:=.fields #[.int lo t,.int hi u,.int 1 v]}
 | .yM o u=>h.get? a=ND o∧iV H h a u
 | .tbl ps=>h.get? a=ND {cls:=.none,data:=.fields ps}
 | .met f x=>h.get? a=ND (X2 (.ref f) (.ref x))
 | .ext φ=>φ h∧(∃o,h.get? a=ND o)∧∀h1 h2:AM,φ h1→(∀o,h1.get? a=ND o→h2.get? a=ND o)→φ h2
def Cq(H:Hp)(h:AM):Prop:=∀a o,H a=ND o→iV P w H h a o
end
section
variable{P:AI}{w:AL}{H H':Hp}{h h':AM}{a:A7}{o:HO}
theorem iV.lt(x:iV P w H h a o):a<h.objs.size:=by
 cases o with
 | lst xs=>obtain⟨_,_,_,_,e⟩:=x;exact AJ e
 | tup xs=>obtain⟨_,_,_,p⟩:=x;exact p.lt
 | dK kvs=>obtain⟨_,_,_,_,o,_,_,e,_⟩:=x;exact AJ e
 | dT kvs=>obtain⟨_,_,_,_,o,_,_,e,_⟩:=x;exact AJ e
 | set S n=>obtain⟨o,_,_,_,e,_⟩:=x;exact AJ e
 | ins C dx fs=>obtain⟨_,_,_,e,_⟩:=x;exact AJ e
 | own y=>obtain⟨_,e⟩:=x;exact AJ e
 | xd fs=>obtain⟨_,⟨_,_,_,e,_⟩,_⟩:=x;exact AJ e
 | rng lo hi=>obtain⟨_,_,_,e⟩:=x;exact AJ e
 | yM ob u=>obtain⟨e,_⟩:=x;exact AJ e
 | tbl ps=>exact AJ (show h.get? a=ND _ from x)
 | met f y=>exact AJ (show h.get? a=ND _ from x)
 | ext φ=>obtain⟨_,⟨_,e⟩,_⟩:=x;exact AJ e
theorem Paired.aE3{α β:Type}{F G:α→β→Prop}:∀{l₁:List α} {l₂:List β},Paired F l₁ l₂→(∀a b,F a b→G a b)→Paired G l₁ l₂
 | _,_,.nil,_=>.nil
 | _,_,.cons r t,f=>.cons (f _ _ r) (Paired.aE3 t f)
theorem iV.stay(x:iV P w H h a o)(k:∀b u,(b=a∨H b=ND (.own a))→h.get? b=ND u→h'.get? b=ND u)
  (ho:∀b,H b=ND (.own a)→H' b=ND (.own a)) (ht:∀b xs,H b=ND (.tup xs)→H' b=ND (.tup xs)):iV P w H' h' a o:=by
 induction o with
 | lst xs=>obtain⟨z,its,n,r,e⟩:=x;exact⟨z,its,n,r,k _ _ (.inl U) e⟩
 | tup xs=>obtain⟨z,its,r,ob,e,c⟩:=x;exact⟨z,its,r,ob,k _ _ (.inl U) e,c⟩
 | dK kvs=>obtain⟨z,y,vs,r,ob,es,ep,e,c⟩:=x;exact⟨z,y,vs,r,ob,es,ep,k _ _ (.inl U) e,c⟩
 | dT kvs=>obtain⟨z,y,xs,r,ob,es,ep,e,c⟩:=x;exact⟨z,y,xs,Paired.aE3 r λp q z=>⟨z.1,ht _ _ z.2.1,z.2.2⟩,ob,es,ep,k _ _ (.inl U) e,c⟩
 | set S n=>obtain⟨ob,es,ep,t,e,c⟩:=x;exact⟨ob,es,ep,t,k _ _ (.inl U) e,c⟩
 | ins C dx fs=>obtain⟨d,z,ne,e,mA,⟨od,es,ep,e2,c⟩,r⟩:=x;exact⟨ho _ d,z,ne,k _ _ (.inl U) e,mA,⟨od,es,ep,k _ _ (.inr d) e2,c⟩,r⟩
 | own y=>obtain⟨ob,e⟩:=x;exact⟨ob,k _ _ (.inl U) e⟩
 | xd fs=>obtain⟨mA,⟨od,es,ep,e,c⟩,r⟩:=x;exact⟨mA,⟨od,es,ep,k _ _ (.inl U) e,c⟩,r⟩
 | rng lo hi=>obtain⟨t,u,v,e⟩:=x;exact⟨t,u,v,k _ _ (.inl U) e⟩
 | yM ob u ih=>obtain⟨e,q⟩:=x;exact⟨k _ _ (.inl U) e,ih q⟩
 | tbl ps=>have e:h.get? a=ND {cls:=.none,data:=.fields ps}:=x;show h'.get? a=ND {cls:=.none,data:=.fields ps};exact k a _ (.inl U) e
 | met f y=>have e:h.get? a=ND (X2 (.ref f) (.ref y)):=x;show h'.get? a=ND (X2 (.ref f) (.ref y));exact k a _ (.inl U) e
 | ext φ=>obtain⟨p,⟨o,e⟩,st⟩:=x;exact⟨st _ _ p λo q=>k _ _ (.inl U) q,⟨o,k _ _ (.inl U) e⟩,st⟩
theorem Cq.lt(x:Cq P w H h)(e:H a=ND o):a<h.objs.size:=(x a o e).lt
theorem Cq.fresh(x:Cq P w H h)(e:h.objs.size≤a):H a=none:=by
 cases q:H a with
 | none=>rfl
 | some u=>exact absurd (E5 (x.lt q) e) (L7 _)
theorem Cq.kept(x:Cq P w H h)(k:∀b u,h.get? b=ND u→h'.get? b=ND u):Cq P w H h':=λa o e=>
 (x a o e).stay (λb u _ q=>k b u q) (λ_ q=>q) λ_ _ q=>q
theorem Cq.laid(x:Cq P w H h)(k:∀b u,h.get? b=ND u→h'.get? b=ND u)(hp:h.objs.size≤a)(new:iV P w (upd H a o) h' a o):Cq P w (upd H a o) h':=λb u e=>by
 have hn:=x.fresh hp;by_cases hb:b=a
 ·subst hb;rw[cD]at e;cases e;exact new
 ·rw[bN hb]at e;exact(x b u e).stay (λc v _ q=>k c v q) (λc q=>by rw[bN (gR q hn)];exact q) λc xs q=>by rw[bN (gR q hn)];exact q
end
def Rd(H:Hp)(a:A7)(u:HO):Prop:=H a=ND u∨∃o,H a=ND (.yM o u)
theorem Rd.ok{P:AI}{w:AL}{H:Hp}{h:AM}{a:A7}{u:HO}(r:Rd H a u)(x:Cq P w H h):iV P w H h a u:=by
 rcases r with r | ⟨o,r⟩
 ·exact x a u r
 ·obtain⟨_,q⟩:=x a _ r;exact q
def Mut:Option HO→Prop
 | some (.lst _)=>True
 | some (.dK _)=>True
 | some (.dT _)=>True
 | some (.set _ _)=>True
 | some (.ins _ _ _)=>True
 | some (.ext _)=>True
 | _=>False
section
variable{P:AI}{w:AL}{H:Hp}{h h':AM}{x e:A7}{o':HO}
theorem Cq.write(ok:Cq P w H h)(mu:Mut (H x))(he:e=x∨H e=ND (.own x))(k:∀b u,b≠e→h.get? b=ND u→h'.get? b=ND u)(heo:∃u,h'.get? e=ND u)
  (new:iV P w (upd H x o') h' x o'):Cq P w (upd H x o') h':=λb u q=>by
 have aHl:∀c y,H c=ND (.own y)→c≠x:=λc y r z=>by subst z;rw[r]at mu;exact mu
 have aI5:∀c xs,H c=ND (.tup xs)→c≠x:=λc xs r z=>by subst z;rw[r]at mu;exact mu
 by_cases hb:b=x
 ·subst hb;rw[cD]at q;cases q;exact new
 ·rw[bN hb]at q;by_cases hbe:b=e
  ·have q':H b=ND (.own x):=by
    rcases he with z | z
    ·exact absurd (hbe.trans z) hb
    ·rw[hbe];exact z
   rw[q]at q';cases q';obtain⟨v,hv⟩:=heo;exact⟨v,by rw[hbe];exact hv⟩
  ·refine(ok b u q).stay (λc v hc r=>k c v ?_ r) (λc r=>by rw[bN (aHl c b r)];exact r) λc xs r=>by rw[bN (aI5 c xs r)];exact r
   rcases hc with rfl | hc
   ·exact hbe
   ·rintro rfl;rcases he with z | z
    ·exact aHl c b hc z
    ·rw[hc]at z;cases z;exact hb U
end
structure Un(fs ex:List A7)(H H':Hp)(h h':AM):Prop where
 keep:∀b o,h.get? b=ND o→H b=none→b∉fs→b∉ex→h'.get? b=ND o
 slot:∀b o,h.get? b=ND o→H b=none→b∈fs→b∉ex→∃sl,h'.get? b=ND {o with slots:=sl}
 free:∀b o,h.get? b=ND o→H b=none→b∉ex→H' b=none
 there:∀b o,h.get? b=ND o→b∉ex→∃o',h'.get? b=ND o'
 tups:∀b xs,H b=ND (.tup xs)→H' b=ND (.tup xs)
 Wo:∀b o u,H b=ND (.yM o u)→H' b=ND (.yM o u)
 CZ:∀b ps,H b=ND (.tbl ps)→∃more,H' b=ND (.tbl (ps++more))
section
variable{fs fs' ex ex':List A7}{H H1 H2:Hp}{h h1 h2 h':AM}{a x e:A7}{o:HO}
theorem Un.any(u:Un fs ex H H1 h h1){b:A7}{ob:Obj}(q:h.get? b=ND ob)(n:H b=none)(hx:b∉ex):∃sl,h1.get? b=ND {ob with slots:=sl}:=by
 by_cases hb:b∈fs
 ·exact u.slot b ob q n hb hx
 ·exact⟨ob.slots,u.keep b ob q n hb hx⟩
theorem Un.kept(k:∀b u,h.get? b=ND u→h'.get? b=ND u):Un fs ex H H h h':=
 ⟨λb ob q _ _ _=>k b ob q,λb ob q _ _ _=>⟨ob.slots,k b ob q⟩,λ_ _ _ n _=>n,λb ob q _=>⟨ob,k b ob q⟩,λ_ _ q=>q,λ_ _ _ q=>q,λ_ ps q=>⟨#[],by rw[q];simp⟩⟩
theorem Un.refl:Un fs ex H H h h:=Un.kept λ_ _ q=>q
theorem Un.laid(k:∀b u,h.get? b=ND u→h'.get? b=ND u)(hp:h.objs.size≤a)(hn:H a=none):Un fs ex H (upd H a o) h h' where
 keep:=λb u q _ _ _=>k b u q
 slot:=λb u q _ _ _=>⟨u.slots,k b u q⟩
 free:=λb u q n _=>by rw[bN (E9 (E5 (AJ q) hp))];exact n
 there:=λb u q _=>⟨u,k b u q⟩
 tups:=λb xs q=>by rw[bN (gR q hn)];exact q
 Wo:=λb u xs q=>by rw[bN (gR q hn)];exact q
 CZ:=λb ps q=>⟨#[],by rw[bN (gR q hn),q];simp⟩
theorem Un.write(mu:Mut (H x))(he:e=x∨H e=ND (.own x))(k:∀b u,b≠e→h.get? b=ND u→h'.get? b=ND u)(heo:∃u,h'.get? e=ND u):Un fs ex H (upd H x o) h h':=by
 have hx:∀b,H b=none→b≠x:=λb n z=>by subst z;rw[n]at mu;exact mu
 have hb:∀b,H b=none→b≠e:=λb n z=>by
  subst z;rcases he with r | r
  ·exact hx b n r
  ·rw[n]at r;cases r
 have hm:∀b u,H b=ND u→¬Mut (ND u)→b≠x:=λb u q nm z=>by subst z;rw[q]at mu;exact nm mu
 refine⟨λb u q n _ _=>k b u (hb b n) q,λb u q n _ _=>⟨u.slots,k b u (hb b n) q⟩,λb u q n _=>by rw[bN (hx b n)];exact n,λb u q _=>?_,
  λb xs q=>by rw[bN (hm b _ q λz=>z)];exact q,λb u xs q=>by rw[bN (hm b _ q λz=>z)];exact q,λb ps q=>⟨#[],by rw[bN (hm b _ q λz=>z),q];simp⟩⟩
 by_cases hbe:b=e
 ·subst hbe;exact heo
 ·exact⟨u,k b u hbe q⟩
end
def trk(h:AM)(H:Hp):List A7:=(D2 h.objs.size).filter λa=>(H a).isSome
def Wq(h:AM)(H:Hp):AM:=l9 h (trk h H)
theorem jz(h:AM)(H:Hp):(Wq h H).objs.size=h.objs.size:=PySem.W.hideAll_size _ _
theorem xx{h:AM}{H:Hp}{b:A7}{o:Obj}(e:h.get? b=ND o)(n:H b=none):(Wq h H).get? b=ND o:=
 PySem.W.hideAll_get _ e λhm=>by have q:(H b).isSome=NG:=(K9.mp hm).2;rw[n]at q;simp at q
theorem aCl{h:AM}{H:Hp}{b:A7}{o:Obj}(e:(Wq h H).get? b=ND o):h.get? b=ND o∧H b=none:=by
 have e':h.get? b=ND o:=PySem.W.of_hideAll (trk h H) e;refine⟨e',?_⟩;cases q:H b with
 | none=>rfl
 | some x=>have hm:b∈trk h H:=K9.mpr ⟨F5.mpr (AJ e'),by simp[q]⟩;have z:(Wq h H).get? b=none:=PySem.W.hideAll_none (trk h H) hm;rw[z]at e;cases e
def aCm(g h:AM)(L:A7):List (A7×Obj):=(D2 h.objs.size).filterMap λa=>if a=L∨(g.get? a).isSome=NG then none else(h.get? a).map λo=>(a,o)
def rest(g h:AM)(L d:A7):List (A7×Obj):=(aCm g h L).filter λp=>decide (p.1≠d)
end L2
namespace L2
open PySem PySem.Spec PyProof.Rows
structure Mod(K:aF)(mg:Str→Option A6)(base:AM):Prop where
 kin:K.In base
 glob:base.Ns AV mg
 blt:∃mb,base.Ns II mb∧∀x:Str,x ≠ "__name__" → mb x=AU x
 nolimit:base.NoLimit
structure Cx where
 prog:AI
 w:AL
 K:aF
 mg:Str→Option A6
 base:AM
 A:AN
 N:List Str
 s₀:A8
 H₀:Hp
 env:Env
 outer:List Env
 stack:List Env
 ex:List A7
 fn:Str→Bool
 calm:Bool
 pn:List (A7×Obj)
 xe:A6→A8→Prop
def frs(l:List Env):List A7:=l.filterMap (·.frame)
abbrev Cx.fs(X:Cx):List A7:=frs X.outer
def Ks(sc:BD)(x:Str):Prop:=sc.names.lookup x=ND .local∨sc.names.lookup x=ND .cell∨sc.names.lookup x=ND .free
def Loc(sc:BD)(x:Str):Prop:=sc.names.lookup x=ND .local∨sc.names.lookup x=ND .cell
def Look(env:Env)(h:AM)(m:Str→Option A6)(x:Str)(u:A6):Prop:=
 (env.kindOf x=ND .local∧m x=ND u)∨((env.kindOf x=ND .cell∨env.kindOf x=ND .free)∧∃c,env.cells.lookup x=ND c∧h.IsCell c (ND u))
structure Cx.Ok(X:Cx):Prop where
 mod:Mod X.K X.mg X.base
 kind:X.env.scope.kind=.function
 glob:X.env.globals=AV
 blt:X.env.builtins=II
 above:X.s₀.heap.objs.size≤X.env.locals
 inj:∀x y c,X.env.cells.lookup x=ND c→X.env.cells.lookup y=ND c→x=y
 has:∀x,(X.env.kindOf x=ND .cell∨X.env.kindOf x=ND .free)→∃c,X.env.cells.lookup x=ND c
 cab:∀x c,X.fn x=NG→X.env.cells.lookup x=ND c→X.s₀.heap.objs.size≤c
 hd:X.calm=NG→X.A.handled=none
 frames:X.A.frames=ND X.stack
 stk:X.stack=X.outer∨(X.stack=X.env::X.outer∧X.env.frame=ND X.env.locals)
 exf:∀b∈X.ex,b≠X.env.locals∧∀x c,X.env.cells.lookup x=ND c→c≠b
 bs:∀b o,X.base.get? b=ND o→X.s₀.heap.get? b=ND o∧X.H₀ b=none
 bsz:X.base.objs.size≤X.s₀.heap.objs.size
 yc:∀b o,X.base.get? b=ND o→b∉X.ex
 aCp:∀b∈X.ex,b∉X.fs
 Ku:X.s₀.heap.FunFrames X.base X.outer
 frf:∀b∈X.fs,X.H₀ b=none
structure Inv(X:Cx)(pins:List (A7×Obj))(σ:List (Option V))(H:Hp)(s:A8):Prop where
 ok:X.Ok
 os:s.os=X.s₀.os
 bare:DC s.gens
 base:Un X.fs X.ex X.H₀ H X.s₀.heap s.heap
 loc:∃m,s.heap.Ns X.env.locals m∧∀(i:Nat)(x:Str)(v:V),X.N[i]?=ND x→σ[i]?=ND (ND v)→Ks X.env.scope x→∃u,RelV v u∧Look X.env s.heap m x u
 cell:∀x c,X.env.cells.lookup x=ND c→∃v,s.heap.IsCell c v
 free:H X.env.locals=none
 xQ:∀x c,X.env.cells.lookup x=ND c→H c=none
 pin:∀p∈X.pn++pins,s.heap.get? p.1=ND p.2∧H p.1=none∧p.1≠X.env.locals∧p.1∉X.fs∧∀v,p.2.data≠.cell v
 hok:Cq X.prog X.w H s.heap
 len:σ.length=X.N.length
section
variable{X:Cx}{pins:List (A7×Obj)}{σ:List (Option V)}{H H':Hp}{s:A8}{h':AM}
theorem Cx.Ok.aI6(ok:X.Ok){b:A7}{o:Obj}(e:X.base.get? b=ND o):b∉X.fs:=λhb=>by have:=(ok.Ku.mem hb).1;rw[e]at this;cases this
theorem Inv.bs(I:Inv X pins σ H s):∀b o,X.base.get? b=ND o→s.heap.get? b=ND o∧H b=none:=λb o e=>
 ⟨I.base.keep b o (I.ok.bs b o e).1 (I.ok.bs b o e).2 (I.ok.aI6 e) (I.ok.yc b o e),I.base.free b o (I.ok.bs b o e).1 (I.ok.bs b o e).2 (I.ok.yc b o e)⟩
theorem Inv.bk(I:Inv X pins σ H s):∀b o,X.base.get? b=ND o→s.heap.get? b=ND o:=λb o e=>(I.bs b o e).1
theorem Inv.mod(I:Inv X pins σ H s):Mod X.K X.mg X.base:=I.ok.mod
theorem Inv.Ht(I:Inv X pins σ H s):X.K.In s.heap:=I.ok.mod.kin.keeps I.bk
theorem Inv.lt(I:Inv X pins σ H s):X.env.locals<s.heap.objs.size:=let ⟨_,hn,_⟩:=I.loc;hn.lt
theorem Inv.sz(I:Inv X pins σ H s):X.s₀.heap.objs.size≤s.heap.objs.size:=G1 I.ok.above (O8 I.lt)
theorem Inv.aI7(I:Inv X pins σ H s){a:A7}(h:s.heap.objs.size≤a):a∉X.fs:=λhb=>by obtain⟨_,o,ho,_⟩:=I.ok.Ku.mem hb;exact absurd (E5 (AJ ho) (G1 I.sz h)) (L7 _)
theorem Inv.cne(I:Inv X pins σ H s):∀x c,X.env.cells.lookup x=ND c→c≠X.env.locals:=λx c e z=>by obtain⟨v,o,ho,hd⟩:=I.cell x c e;obtain⟨m,⟨o',es,ep,ho',hd',_⟩,_⟩:=I.loc;rw[z,ho']at ho;cases ho;rw[hd']at hd;cases hd
theorem Inv.Ku(I:Inv X pins σ H s):s.heap.FunFrames X.base X.outer:=by
 have all:∀(l:List Env),(∀b∈frs l,b∈X.fs)→X.s₀.heap.FunFrames X.base l→s.heap.FunFrames X.base l:=by
  intro l
  induction l with
  | nil=>intro _ _;trivial
  | cons env r ih=>intro hs hl;obtain⟨hk,⟨L,o,hf,hn,ho,hd⟩,hr⟩:=hl;have hL:L∈X.fs:=hs L (by unfold frs;rw[R8,hf];exact C9);obtain⟨sl,e⟩:=I.base.slot L o ho (I.ok.frf L hL) hL λz=>I.ok.aCp L z hL;exact⟨hk,⟨L,_,hf,hn,e,hd⟩,ih (λb hb=>hs b (by unfold frs;rw[R8,hf];exact C6 _ hb)) hr⟩
 exact all X.outer (λ_ hb=>hb) I.ok.Ku
theorem Inv.stack(I:Inv X pins σ H s):s.heap.FunFrames X.base X.stack:=by
 rcases I.ok.stk with e | ⟨e,hf⟩
 ·rw[e];exact I.Ku
 ·rw[e];obtain⟨m,hn,_⟩:=I.loc;refine .cons (by rw[I.ok.kind];decide) hf hn ?_ I.Ku;exact Heap.get?_none_of_le (G1 I.ok.bsz I.ok.above)
theorem Inv.Wr(I:Inv X pins σ H s):∀b∈frs X.stack,b∈X.env.locals::X.fs:=λb hb=>by
 rcases I.ok.stk with e | ⟨e,hf⟩
 ·rw[e]at hb;exact C6 _ hb
 ·rw[e]at hb;unfold frs at hb;rw[R8,hf]at hb;exact hb
theorem Inv.ZQ(I:Inv X pins σ H s):∀b∈frs X.stack,H b=none:=λb hb=>by
 rcases C5.mp (I.Wr b hb)with e | hb
 ·rw[e];exact I.free
 ·obtain⟨_,o,ho,_⟩:=I.ok.Ku.mem hb;exact I.base.free b o ho (I.ok.frf b hb) λz=>I.ok.aCp b z hb
theorem Inv.step{g':Array IF}{t':Nat}{d':IJ}{ch:List A7}(I:Inv X pins σ H s)
  (hch:∀b∈ch,(b∈X.ex∨X.s₀.heap.objs.size≤b)∧b≠X.env.locals∧(∀x c,X.env.cells.lookup x=ND c→c≠b)∧∀p∈X.pn++pins,p.1≠b)
  (keep:∀b o,b≠X.env.locals→b∉X.fs→b∉ch→s.heap.get? b=ND o→H b=none→h'.get? b=ND o)
  (slot:∀b o,b≠X.env.locals→b∈X.fs→b∉ch→s.heap.get? b=ND o→H b=none→∃sl,h'.get? b=ND {o with slots:=sl}) (free:∀b o,b∉ch→s.heap.get? b=ND o→H b=none→H' b=none)
  (there:∀b o,b∉ch→s.heap.get? b=ND o→∃o',h'.get? b=ND o')
  (tups:∀b xs,H b=ND (.tup xs)→H' b=ND (.tup xs)) (Wo:∀b o u,H b=ND (.yM o u)→H' b=ND (.yM o u)) (CZ:∀b ps,H b=ND (.tbl ps)→∃more,H' b=ND (.tbl (ps++more)))
  (ns:∀m,s.heap.Ns X.env.locals m→h'.Ns X.env.locals m) (hok:Cq X.prog X.w H' h') (hg:DC g') :
  Inv X pins σ H' {s with heap:=h',gens:=g',drawn:=d',toks:=t'}:=by
 have neL:∀b o,X.s₀.heap.get? b=ND o→b≠X.env.locals:=λb o e=>E9 (E5 (AJ e) I.ok.above);have neC:∀b o,X.s₀.heap.get? b=ND o→b∉X.ex→b∉ch:=λb o e hx hb=>by
  rcases(hch b hb).1 with z | z
  ·exact hx z
  ·exact absurd (E5 (AJ e) z) (L7 _)
 have cellK:∀x c,X.env.cells.lookup x=ND c→∀v,s.heap.IsCell c v→h'.IsCell c v:=λx c e v ⟨o,ho,hd⟩=>by
  have nch:c∉ch:=λz=>(hch c z).2.2.1 x c e U;by_cases hc:c∈X.fs
  ·obtain⟨sl,q⟩:=slot c o (I.cne x c e) hc nch ho (I.xQ x c e);exact⟨_,q,hd⟩
  ·exact⟨o,keep c o (I.cne x c e) hc nch ho (I.xQ x c e),hd⟩
 refine⟨I.ok,I.os,hg,⟨λb o e n hb hx=>?_,λb o e n hb hx=>?_,λb o e n hx=>?_,λb o e hx=>?_,λb xs e=>tups b xs (I.base.tups b xs e),λb o xs e=>Wo b o xs (I.base.Wo b o xs e),λb ps e=>?_⟩,?_,λx c e=>?_,?_,λx c e=>?_,λp hp=>?_,hok,I.len⟩
 ·exact keep b o (neL b o e) hb (neC b o e hx) (I.base.keep b o e n hb hx) (I.base.free b o e n hx)
 ·obtain⟨sl,e1⟩:=I.base.slot b o e n hb hx;obtain⟨sl',e2⟩:=slot b _ (neL b o e) hb (neC b o e hx) e1 (I.base.free b o e n hx);exact⟨sl',e2⟩
 ·obtain⟨o',e1⟩:=I.base.there b o e hx;exact free b o' (neC b o e hx) e1 (I.base.free b o e n hx)
 ·obtain⟨o',e1⟩:=I.base.there b o e hx;exact there b o' (neC b o e hx) e1
 ·obtain⟨m1,e1⟩:=I.base.CZ b ps e;obtain⟨m2,e2⟩:=CZ b _ e1;exact⟨m1++m2,by rw[e2,Array.append_assoc]⟩
 ·obtain⟨m,hn,hl⟩:=I.loc;refine⟨m,ns m hn,λi x v e1 e2 e3=>?_⟩;obtain⟨u,r,l⟩:=hl i x v e1 e2 e3;refine⟨u,r,?_⟩;rcases l with l | ⟨k,c,e,z⟩
  ·exact .inl l
  ·exact .inr ⟨k,c,e,cellK x c e _ z⟩
 ·obtain⟨v,z⟩:=I.cell x c e;exact⟨v,cellK x c e v z⟩
 ·obtain⟨m,⟨o,_,_,ho,_⟩,_⟩:=I.loc;exact free _ o (λz=>(hch _ z).2.1 U) ho I.free
 ·obtain⟨v,o,ho,hd⟩:=I.cell x c e;exact free c o (λz=>(hch c z).2.2.1 x c e U) ho (I.xQ x c e)
 ·obtain⟨e,n,ne,nf,d⟩:=I.pin p hp;have nch:p.1∉ch:=λz=>(hch p.1 z).2.2.2 p hp U;exact⟨keep p.1 p.2 ne nf nch e n,free p.1 p.2 nch e n,ne,nf,d⟩
theorem Inv.un{t':Nat}(I:Inv X pins σ H s)(u:Un X.fs [] H H' s.heap h')(hok:Cq X.prog X.w H' h'):Inv X pins σ H' {s with heap:=h',toks:=t'}:=by
 obtain⟨m,⟨o,es,ep,ho,r⟩,_⟩:=id I.loc;obtain⟨sl,hL⟩:=u.any ho I.free (by simp);exact I.step (g':=s.gens) (d':=s.drawn) (ch:=[]) (λ_ z=>nomatch z) (λb o _ hb _ e n=>u.keep b o e n hb (by simp)) (λb o _ hb _ e n=>u.slot b o e n hb (by simp)) (λb o _ e n=>u.free b o e n (by simp)) (λb o _ e=>u.there b o e (by simp)) u.tups u.Wo u.CZ (λm' hm=>by
  obtain⟨o',es',ep',ho',r'⟩:=hm;rw[ho]at ho';cases ho';exact⟨_,es',ep',hL,r'⟩) hok I.bare
theorem Inv.call{g':Array IF}{t':Nat}{d':IJ}{ch:List A7}(I:Inv X pins σ H s)(u:Un (frs X.stack) ch H H' s.heap h')(hok:Cq X.prog X.w H' h')(hg:DC g')
  (hch:∀b∈ch,(b∈X.ex∨X.s₀.heap.objs.size≤b)∧b≠X.env.locals∧(∀x c,X.env.cells.lookup x=ND c→c≠b)∧∀p∈X.pn++pins,p.1≠b) :
  Inv X pins σ H' {s with heap:=h',gens:=g',drawn:=d',toks:=t'}:=by
 obtain⟨m,⟨o,es,ep,ho,r⟩,_⟩:=id I.loc;obtain⟨sl,hL⟩:=u.any ho I.free λz=>(hch _ z).2.1 U;exact I.step (ch:=ch) hch (λb o hL hb hc e n=>u.keep b o e n (λz=>(C5.mp (I.Wr b z)).elim hL hb) hc) (λb o _ _ hc e n=>u.any e n hc) (λb o hc e n=>u.free b o e n hc) (λb o hc e=>u.there b o e hc) u.tups u.Wo u.CZ (λm' hm=>by
  obtain⟨o',es',ep',ho',r'⟩:=hm;rw[ho]at ho';cases ho';exact⟨_,es',ep',hL,r'⟩) hok hg
theorem Inv.turned{t':Nat}{it:A7}(I:Inv X pins σ H s)(k:∀b o,b≠it→s.heap.get? b=ND o→h'.get? b=ND o)(hn:H it=none)(hL:it≠X.env.locals)
  (h1:it∈X.ex∨X.s₀.heap.objs.size≤it) (h2:∀x c,X.env.cells.lookup x=ND c→c≠it) (h3:∀p∈X.pn++pins,p.1≠it):Inv X pins σ H {s with heap:=h',toks:=t'}:=by
 have nit:∀b u,H b=ND u→b≠it:=λb u e z=>by rw[z,hn]at e;cases e
 refine I.step (g':=s.gens) (d':=s.drawn) (ch:=[it]) (λb hb=>?_) (λb o _ _ hc e _=>k b o (λz=>hc (by simp[z])) e) (λb o _ _ hc e _=>⟨o.slots,k b o (λz=>hc (by simp[z])) e⟩) (λ_ _ _ _ n=>n)
  (λb o hc e=>⟨o,k b o (λz=>hc (by simp[z])) e⟩) (λ_ _ e=>e) (λ_ _ _ e=>e) (λb ps e=>⟨#[],by rw[e];simp⟩) (λm hm=>?_) (λb u e=>?_) I.bare
 ·have e:b=it:=by simpa using hb
  subst e;exact⟨h1,hL,h2,h3⟩
 ·obtain⟨o,es,ep,ho,r⟩:=hm;exact⟨o,es,ep,k _ o (Ne.symm hL) ho,r⟩
 ·refine(I.hok b u e).stay (λc v hc q=>k c v ?_ q) (λ_ q=>q) λ_ _ q=>q;rcases hc with z | z
  ·rw[z];exact nit b u e
  ·exact nit c _ z
theorem Inv.tok(I:Inv X pins σ H s)(t:Nat):Inv X pins σ H {s with toks:=t}:=I.un (h':=s.heap) (t':=t) Un.refl I.hok
theorem Inv.kept{t':Nat}(I:Inv X pins σ H s)(k:∀b u,s.heap.get? b=ND u→h'.get? b=ND u):Inv X pins σ H {s with heap:=h',toks:=t'}:=I.un (Un.kept k) (I.hok.kept k)
theorem Inv.laid{a:A7}{o:HO}{t':Nat}(I:Inv X pins σ H s)(k:∀b u,s.heap.get? b=ND u→h'.get? b=ND u)(hp:s.heap.objs.size≤a)(new:iV X.prog X.w (upd H a o) h' a o) :
  Inv X pins σ (upd H a o) {s with heap:=h',toks:=t'}:=I.un (Un.laid k hp (I.hok.fresh hp)) (I.hok.laid k hp new)
theorem Inv.write{x e:A7}{o:HO}{t':Nat}(I:Inv X pins σ H s)(mu:Mut (H x))(he:e=x∨H e=ND (.own x))(k:∀b u,b≠e→s.heap.get? b=ND u→h'.get? b=ND u)(heo:∃u,h'.get? e=ND u)
  (new:iV X.prog X.w (upd H x o) h' x o):Inv X pins σ (upd H x o) {s with heap:=h',toks:=t'}:=I.un (Un.write mu he k heo) (I.hok.write mu he k heo new)
theorem Inv.weak{σ':List (Option V)}(I:Inv X pins σ H s)(hl:σ'.length=σ.length)(w:∀(i:Nat) v,σ'[i]?=ND (ND v)→σ[i]?=ND (ND v)):Inv X pins σ' H s:=
 ⟨I.ok,I.os,I.bare,I.base,let ⟨m,hn,hl'⟩:=I.loc;⟨m,hn,λi x v e1 e2 e3=>hl' i x v e1 (w i v e2) e3⟩,I.cell,I.free,I.xQ,I.pin,I.hok,hl.trans I.len⟩
theorem Inv.ZR{yd:List (A7×Obj)}(I:Inv X pins σ H s)(h:∀p∈yd,s.heap.get? p.1=ND p.2∧H p.1=none∧p.1≠X.env.locals∧p.1∉X.fs∧∀v,p.2.data≠.cell v):Inv X yd σ H s:=
 ⟨I.ok,I.os,I.bare,I.base,I.loc,I.cell,I.free,I.xQ,λp hp=>(G0.mp hp).elim (λz=>I.pin p (G6 _ z)) (h p),I.hok,I.len⟩
theorem DG{N:List Str}(hN:N.Nodup){i j:Nat}{x:Str}(a:N[i]?=ND x)(b:N[j]?=ND x):i=j:=by obtain⟨h1,e1⟩:=D4.mp a;obtain⟨h2,e2⟩:=D4.mp b;exact(List.getElem_inj hN).mp (e1.trans e2.symm)
theorem Tu{M:IL}{A:AN}{E:A6→A8→Prop}{i:Nat}{x:Str}{v:V}{u:A6}{Q:Unit→A8→Prop}(I:Inv X pins σ H s)(hN:X.N.Nodup)(hi:X.N[i]?=ND x)(hx:Loc X.env.scope x)(r:RelV v u)
  (h:∀s',Inv X pins (σ.set i (ND v)) H s'→(∃a,BG a s.heap s'.heap∧(a=X.env.locals∨X.env.cells.lookup x=ND a))→Q () s') (hf:X.fn x=NG∨X.env.scope.names.lookup x=ND .local:=by first | exact .inl U | exact .inr U | assumption):AF M A (storeName X.env x u) Q E s:=by
 obtain⟨m,hn,hl⟩:=id I.loc;have hcls:(X.env.scope.kind==.class||(X.env.scope.kind==.module&&X.env.locals != X.env.globals))=NH:=by rw[I.ok.kind];rfl
 have hiσ:i<σ.length:=by rw[I.len];exact(D4.mp hi).1
 have cne:=I.cne;have tracked:∀{a:A7} {h':AM},(∃o,s.heap.get? a=ND o∧H a=none)→BG a s.heap h'→Cq X.prog X.w H h':=λ{a h'} ha hs b ob e=>by
  obtain⟨_,_,hfree⟩:=ha;refine(I.hok b ob e).stay (λc w' hc q=>(hs.2 c ?_).trans q) (λ_ q=>q) λ_ _ q=>q;rintro rfl;rcases hc with rfl | hc
  ·rw[hfree]at e;cases e
  ·rw[hfree]at hc;cases hc
 rcases hx with hk | hk
 ·refine wpAny_storeName_local hk hn (λh' hn' hs=>?_) hcls;obtain⟨oL,_,_,hoL,_⟩:=id hn;refine h _ ⟨I.ok,I.os,I.bare,⟨λb o e n hb hx=>?_,λb o e n hb hx=>?_,I.base.free,λb o e hx=>?_,I.base.tups,I.base.Wo,I.base.CZ⟩,⟨_,hn',λj y v' e1 e2 e3=>?_⟩,λy c e=>?_,I.free,I.xQ,λp hp=>?_,tracked ⟨oL,hoL,I.free⟩ hs,by simpa using I.len⟩ ⟨_,hs,.inl U⟩
  ·exact(hs.2 b (E9 (E5 (AJ e) I.ok.above))).trans (I.base.keep b o e n hb hx)
  ·obtain⟨sl,e1⟩:=I.base.slot b o e n hb hx;exact⟨sl,(hs.2 b (E9 (E5 (AJ e) I.ok.above))).trans e1⟩
  ·obtain⟨o',e1⟩:=I.base.there b o e hx;exact⟨o',(hs.2 b (E9 (E5 (AJ e) I.ok.above))).trans e1⟩
  ·by_cases hj:j=i
   ·subst hj;rw[hi]at e1;cases e1;rw[J3 hiσ]at e2;cases e2;exact⟨u,r,.inl ⟨hk,by simp⟩⟩
   ·rw[U9 (Ne.symm hj)]at e2;obtain⟨u',r',q⟩:=hl j y v' e1 e2 e3;refine⟨u',r',?_⟩;rcases q with ⟨k,e⟩ | ⟨k,c,e,z⟩
    ·refine .inl ⟨k,?_⟩;have:y≠x:=λe=>hj (DG hN e1 (e▸hi));simp[this,e]
    ·exact .inr ⟨k,c,e,z.sameBut hs (cne y c e)⟩
  ·obtain⟨w',z⟩:=I.cell y c e;exact⟨w',z.sameBut hs (cne y c e)⟩
  ·obtain⟨e,n,ne,nf,d⟩:=I.pin p hp;exact⟨(hs.2 p.1 ne).trans e,n,ne,nf,d⟩
 ·have hfn:X.fn x=NG:=by
   rcases hf with z | z
   ·exact z
   ·rw[z]at hk;cases hk
  obtain⟨c,hc⟩:=I.ok.has x (.inl hk);obtain⟨w',z⟩:=I.cell x c hc;refine wpAny_storeName_cell I.ok.kind hk hc z (λh' hc' hs=>?_);obtain⟨oc,hoc,aI8⟩:=id z;refine h {s with heap:=h'} ⟨I.ok,I.os,I.bare,⟨λb o e n hb hx=>?_,λb o e n hb hx=>?_,I.base.free,λb o e hx=>?_,I.base.tups,I.base.Wo,I.base.CZ⟩,⟨m,hn.sameBut hs (Ne.symm (cne x c hc)),λj y v' e1 e2 e3=>?_⟩,λy c' e=>?_,I.free,I.xQ,λp hp=>?_,tracked ⟨oc,hoc,I.xQ x c hc⟩ hs,by simpa using I.len⟩ ⟨c,hs,.inr hc⟩
  ·exact(hs.2 b (E9 (E5 (AJ e) (I.ok.cab x c hfn hc)))).trans (I.base.keep b o e n hb hx)
  ·obtain⟨sl,e1⟩:=I.base.slot b o e n hb hx;exact⟨sl,(hs.2 b (E9 (E5 (AJ e) (I.ok.cab x c hfn hc)))).trans e1⟩
  ·obtain⟨o',e1⟩:=I.base.there b o e hx;exact⟨o',(hs.2 b (E9 (E5 (AJ e) (I.ok.cab x c hfn hc)))).trans e1⟩
  ·by_cases hj:j=i
   ·subst hj;rw[hi]at e1;cases e1;rw[J3 hiσ]at e2;cases e2;exact⟨u,r,.inr ⟨.inl hk,c,hc,hc'⟩⟩
   ·rw[U9 (Ne.symm hj)]at e2;obtain⟨u',r',q⟩:=hl j y v' e1 e2 e3;refine⟨u',r',?_⟩;rcases q with q | ⟨k,c',e,z'⟩
    ·exact .inl q
    ·refine .inr ⟨k,c',e,z'.sameBut hs ?_⟩;rintro rfl;exact hj (DG hN e1 (I.ok.inj _ _ _ e hc▸hi))
  ·by_cases hcc:c'=c
   ·subst hcc;exact⟨_,hc'⟩
   ·obtain⟨w2,z2⟩:=I.cell y c' e;exact⟨w2,z2.sameBut hs hcc⟩
  ·obtain⟨e,n,ne,nf,d⟩:=I.pin p hp;refine⟨(hs.2 p.1 ?_).trans e,n,ne,nf,d⟩;intro q;rw[q,hoc]at e;have q':oc=p.2:=F1 e;exact d w' (by rw[←q'];exact aI8)
theorem DK{M:IL}{A:AN}{E:A6→A8→Prop}{i:Nat}{x:Str}{v:V}{u:A6}{Q:Unit→A8→Prop}(I:Inv X pins σ H s)(hN:X.N.Nodup)(hi:X.N[i]?=ND x)(hx:Loc X.env.scope x)(r:RelV v u)
  (h:∀s',Inv X pins (σ.set i (ND v)) H s'→Q () s') (hf:X.fn x=NG∨X.env.scope.names.lookup x=ND .local:=by first | exact .inl U | exact .inr U | assumption):AF M A (storeName X.env x u) Q E s:=
 Tu I hN hi hx r (λs' I' _=>h s' I') hf
theorem Inv.call'{s':A8}{ch:List A7}(I:Inv X pins σ H s)(ho:s'.os=s.os)(u:Un (frs X.stack) ch H H' s.heap s'.heap)(hok:Cq X.prog X.w H' s'.heap)(hg:DC s'.gens)
  (hch:∀b∈ch,(b∈X.ex∨X.s₀.heap.objs.size≤b)∧b≠X.env.locals∧(∀x c,X.env.cells.lookup x=ND c→c≠b)∧∀p∈X.pn++pins,p.1≠b):Inv X pins σ H' s':=by
 obtain⟨h',g',d',t',o'⟩:=s';have e:o'=s.os:=ho;subst e;exact I.call (g':=g') (t':=t') (d':=d') u hok hg hch
end
abbrev XK:=A6→Option A7→Hp→Prop
abbrev St:=List (Option V)
abbrev VK:=V→Hp→Prop
abbrev TE:=St→Hp→VK→Prop
abbrev TT:=St→Hp→(Bool→Hp→Prop)→Prop
abbrev TA:=St→Hp→(List V→Hp→Prop)→Prop
structure Ends where
 nx:St→Hp→Prop
 rt:VK
 bk:St→Hp→Prop:=λ_ _=>False
 ct:St→Hp→Prop:=λ_ _=>False
abbrev TS:=Ends→St→Hp→Prop
def EP(X:Cx)(pins:List (A7×Obj))(σ:St)(Q:VK)(u:A6)(s':A8):Prop:=∃v H',Inv X pins σ H' s'∧RelV v u∧Q v H'
def TP(X:Cx)(pins:List (A7×Obj))(σ:St)(Q:Bool→Hp→Prop)(b:Bool)(s':A8):Prop:=∃H',Inv X pins σ H' s'∧Q b H'
def AP(X:Cx)(pins:List (A7×Obj))(σ:St)(Q:List V→Hp→Prop)(us:List A6)(s':A8):Prop:=∃vs H',Inv X pins σ H' s'∧Vals vs us∧Q vs H'
def SP(X:Cx)(pins:List (A7×Obj))(D:Ends)(f:Flow)(s':A8):Prop:=
 match f with
 | .next=>∃σ' H',Inv X pins σ' H' s'∧D.nx σ' H'
 | .brk=>∃σ' H',Inv X pins σ' H' s'∧D.bk σ' H'
 | .cont=>∃σ' H',Inv X pins σ' H' s'∧D.ct σ' H'
 | .ret u=>∃v σ' H',Inv X pins σ' H' s'∧RelV v u∧D.rt v H'
def PE(X:Cx)(e:AD)(t:TE):Prop:=
 ∀(pins:List (A7×Obj))(s:A8)(σ:St)(H:Hp)(Q:VK),Inv X pins σ H s→t σ H Q→AF (AG X.prog X.w) X.A (AO e X.env) (EP X pins σ Q) X.xe s
def PT(X:Cx)(e:AD)(t:TT):Prop:=
 ∀(pins:List (A7×Obj))(s:A8)(σ:St)(H:Hp)(Q:Bool→Hp→Prop),Inv X pins σ H s→t σ H Q→AF (AG X.prog X.w) X.A (HC e X.env (AO e X.env)) (TP X pins σ Q) X.xe s
def PW(X:Cx)(e:AD)(t:TT):Prop:=
 ∀(whole:Sem A6)(pins:List (A7×Obj))(s:A8)(σ:St)(H:Hp)(Q:Bool→Hp→Prop),Inv X pins σ H s→t σ H Q→AF (AG X.prog X.w) X.A (HC e X.env whole) (TP X pins σ Q) X.xe s
theorem PW.pt{X:Cx}{e:AD}{t:TT}(h:PW X e t):PT X e t:=h _
def PA(X:Cx)(es:List AD)(t:TA):Prop:=
 ∀(pos:Pos)(pins:List (A7×Obj))(s:A8)(σ:St)(H:Hp)(Q:List V→Hp→Prop),Inv X pins σ H s→t σ H Q→AF (AG X.prog X.w) X.A (spliced (AZ pos (AB es X.env))) (AP X pins σ Q) X.xe s
def PS(X:Cx)(st:AH)(t:TS):Prop:=
 ∀(pins:List (A7×Obj))(s:A8)(σ:St)(H:Hp)(D:Ends),Inv X pins σ H s→t D σ H→AF (AG X.prog X.w) X.A (exec st X.env) (SP X pins D) X.xe s
def DN(X:Cx)(st:List AH)(t:TS):Prop:=
 ∀(pins:List (A7×Obj))(s:A8)(σ:St)(H:Hp)(D:Ends),Inv X pins σ H s→t D σ H→AF (AG X.prog X.w) X.A (execs st X.env) (SP X pins D) X.xe s
theorem iM{α:Type}{t:Sem α}{Q Q':α→A8→Prop}{M:IL}{A:AN}{E:A6→A8→Prop}{s:A8}(h:AF M A t Q E s)(hQ:∀a s,Q a s→Q' a s):AF M A t Q' E s:=AX h hQ λ_ _ x=>x
end L2
namespace L2
open PySem PySem.Spec PyProof.Rows
section
variable{X:Cx}
def pH(i:Nat):TE:=λσ H Q=>∃v,σ[i]?=ND (ND v)∧Q v H
def tC(v:V):TE:=λ_ H Q=>Q v H
theorem aE5{i:Nat}{x:Str}{pos:Pos}(hN:X.N[i]?=ND x)(hv:Ks X.env.scope x)(hd:(x==("__debug__" : Str))=NH:=by decide) (hcd:(x==("__classdict__" : Str))=NH:=by decide):PE X (.Name x pos) (pH i):=by
  intro pins s σ H Q I h;obtain⟨v,e,h⟩:=h;obtain⟨m,hn,hl⟩:=I.loc;obtain⟨u,r,l⟩:=hl i x v hN e hv;have fin:EP X pins σ Q u s:=⟨v,H,I,r,h⟩
  rcases l with ⟨hk,hm⟩ | ⟨hk,c,hc,hcell⟩
  · exact IM (wpAny_loadName_local I.ok.kind hk hn hm fin) hd
  · rcases hk with hk | hk
    · exact IM (wpAny_loadName_cell I.ok.kind hk hc hcell fin) hd
    · exact IM (wpAny_loadName_free I.ok.kind hk hc hcell fin hcd) hd
theorem aE6{i j pos}:PE X (.Constant (.int i) j pos) (tC (.int i)):=λ_ _ _ H _ I h=>wpAny_Constant_int ⟨.int i,H,I.tok _,⟨_,U⟩,h⟩
theorem aHn{b j pos}:PE X (.Constant (.bool b) j pos) (tC (.bl b)):=λ_ _ _ H _ I h=>Constant_bool ⟨.bl b,H,I,U,h⟩
theorem aE7{j pos}:PE X (.Constant .none j pos) (tC .non):=λ_ _ _ H _ I h=>Constant_none ⟨.non,H,I,U,h⟩
theorem aE8{x j pos}:PE X (.Constant (.str x) j pos) (tC (.str x)):=λ_ _ _ H _ I h=>Calls.Constant_str ⟨.str x,H,I.tok _,⟨_,U⟩,h⟩
def Gl(X:Cx)(x:Str):Prop:=X.env.kindOf x=ND .globalImplicit
theorem Ws{E:A6→A8→Prop}{pins:List (A7×Obj)}{s:A8}{σ:St}{H:Hp}{x:Str}{u:A6}{pos:Pos}{Q:A6→A8→Prop}(I:Inv X pins σ H s)(hg:Gl X x)(hm:X.mg x=ND u)(h:Q u s)
  (hd:(x==("__debug__" : Str))=NH:=by decide):AF (AG X.prog X.w) X.A (AO (.Name x pos) X.env) Q E s:=
 EL I.ok.kind hg (Calls.loadGlobal_global (by rw[I.ok.glob];exact I.mod.glob.keeps I.bk) hm h) hd
theorem sI{E:A6→A8→Prop}{pins:List (A7×Obj)}{s:A8}{σ:St}{H:Hp}{x:Str}{u:A6}{pos:Pos}{Q:A6→A8→Prop}(I:Inv X pins σ H s)(hg:Gl X x)(hm:X.mg x=none)(hv:AU x=ND u)(h:Q u s)
  (hn:x ≠ "__name__" := by decide) (hd:(x==("__debug__" : Str))=NH:=by decide):AF (AG X.prog X.w) X.A (AO (.Name x pos) X.env) Q E s:=by
 obtain⟨mb,h1,h2⟩:=I.mod.blt;exact EL I.ok.kind hg (Calls.loadGlobal_builtin (by rw[I.ok.glob];exact I.mod.glob.keeps I.bk) hm (by rw[I.ok.blt];exact h1.keeps I.bk) ((h2 x hn).trans hv) h) hd
theorem aCq{x:Str}{v:V}{u:A6}{pos:Pos}(hg:Gl X x)(hm:X.mg x=ND u)(r:RelV v u)(hd:(x==("__debug__" : Str))=NH:=by decide):PE X (.Name x pos) (tC v):=
 λ_ _ _ H _ I h=>Ws I hg hm ⟨v,H,I,r,h⟩ hd
theorem aCr{x:Str}{v:V}{u:A6}{pos:Pos}(hg:Gl X x)(hm:X.mg x=none)(hv:AU x=ND u)(r:RelV v u)(hn:x ≠ "__name__" := by decide) (hd:(x==("__debug__" : Str))=NH:=by decide):PE X (.Name x pos) (tC v):=
 λ_ _ _ H _ I h=>sI I hg hm hv ⟨v,H,I,r,h⟩ hn hd
variable{a b:AD}{ta tb:TE}{pos:Pos}
def PC(X:Cx)(op:EH)(a b:AD)(t:TE):Prop:=
 ∀(pins:List (A7×Obj))(s:A8)(σ:St)(H:Hp)(Q:VK),Inv X pins σ H s→t σ H Q →
  AF (AG X.prog X.w) X.A (AO a X.env) (λv s₁=>AF (AG X.prog X.w) X.A (AO b X.env) (λu s₂=>AF (AG X.prog X.w) X.A (AS op v u) (EP X pins σ Q) X.xe s₂) X.xe s₁) X.xe s
def tB(t:TE):TT:=λσ H Q=>t σ H λx H1=>∃c,x=.bl c∧Q c H1
theorem RG{op:EH}{t:TE}(h:PC X op a b t)(h1:behindInMarks op b=NH:=by first | exact nobehind _ (by decide) (by decide) | rfl):PE X (.Compare a [op] [b] pos) t:=λpins s σ H Q I hw=>JE (h pins s σ H Q I hw) h1
theorem aE9{op:EH}{t:TE}(h:PC X op a b t)(h1:behindInMarks op b=NH:=by first | exact nobehind _ (by decide) (by decide) | rfl):PT X (.Compare a [op] [b] pos) (tB t):=by intro pins s σ H Q I hw;refine Fh (iM (h pins s σ H _ I hw) λv s1 h1=>iM h1 λu s2 h2=>iM h2 λc s3 ⟨x,H1,I1,r1,q1⟩=>?_) h1;obtain⟨d,rfl,q⟩:=q1;cases r1;exact BH ⟨H1,I1,q⟩
theorem aFa{e:AD}{t:TE}(h:PE X e t)(he:∀whole,HC e X.env whole=(do let v ←whole;Da e.pos;Cb [v] (truthy v)):=by intro _;rfl):PT X e (tB t):=by intro pins s σ H Q I hw;refine isTrue_plain (iM (h pins s σ H _ I hw) λv s1 ⟨x,H1,I1,r1,q1⟩=>?_) (he _);obtain⟨d,rfl,q⟩:=q1;cases r1;exact BH ⟨H1,I1,q⟩
variable{tA tB':TT}{rest:List AD}
def aFb(t u:TT):TT:=λσ H Q=>t σ H λc H1=>if c=NG then u σ H1 Q else Q NH H1
def tOr(t u:TT):TT:=λσ H Q=>t σ H λc H1=>if c=NG then Q NG H1 else u σ H1 Q
def aFc(t:TT):TT:=λσ H Q=>t σ H λc H1=>Q (!c) H1
theorem aCs(ha:PT X a tA):PW X (.BoolOp .And [a] pos) tA:=by
 intro wh pins s σ H Q I h;refine isTrue_and (iM (ha pins s σ H Q I h) λc s1 e=>?_);cases c with
 | true=>exact isTrue_and_nil e
 | false=>exact e
theorem aFd(ha:PT X a tA):PW X (.BoolOp .Or [a] pos) tA:=by
 intro wh pins s σ H Q I h;refine isTrue_or (iM (ha pins s σ H Q I h) λc s1 e=>?_);cases c with
 | false=>exact isTrue_or_nil e
 | true=>exact e
theorem aFe(ha:PT X a tA)(hb:PW X (.BoolOp .And (b::rest) pos) tB'):PW X (.BoolOp .And (a::b::rest) pos) (aFb tA tB'):=by
 intro wh pins s σ H Q I h;refine isTrue_and (iM (ha pins s σ H _ I h) λc s1 ⟨H1,I1,q1⟩=>?_);cases c with
 | true=>exact hb wh pins s1 σ H1 Q I1 q1
 | false=>exact⟨H1,I1,q1⟩
theorem aHo(ha:PT X a tA)(hb:PW X (.BoolOp .Or (b::rest) pos) tB'):PW X (.BoolOp .Or (a::b::rest) pos) (tOr tA tB'):=by
 intro wh pins s σ H Q I h;refine isTrue_or (iM (ha pins s σ H _ I h) λc s1 ⟨H1,I1,q1⟩=>?_);cases c with
 | true=>exact⟨H1,I1,q1⟩
 | false=>exact hb wh pins s1 σ H1 Q I1 q1
theorem aFf(ha:PT X a tA):PT X (.UnaryOp .Not a pos) (aFc tA):=by intro pins s σ H Q I h;exact isTrue_not (ha pins s σ H (λc H1=>Q (!c) H1) I h)
def aHp(ta tb:TE):TE:=λσ H Q=>ta σ H λx H1=>∃c,x=.bl c∧if c=NG then Q (.bl NG) H1 else tb σ H1 Q
theorem aFg{op}{t:TE}(h:PE X a t):PE X (.BoolOp op [a] pos) t:=λpins s σ H Q I hw=>BoolOp_one (h pins s σ H Q I hw)
theorem aHq(ha:PE X a ta)(hb:PE X (.BoolOp .Or (b::rest) pos) tb):PE X (.BoolOp .Or (a::b::rest) pos) (aHp ta tb):=by
 intro pins s σ H Q I h;refine BoolOp_or (iM (ha pins s σ H _ I h) λv s1 ⟨x,H1,I1,r1,q1⟩=>?_);obtain⟨c,rfl,q1⟩:=q1;cases r1;refine BH ?_;cases c with
 | false=>exact hb pins s1 σ H1 Q I1 q1
 | true=>exact⟨.bl NG,H1,I1,U,q1⟩
def tIf(t:TT)(ta tb:TE):TE:=λσ H Q=>t σ H λc H1=>if c=NG then ta σ H1 Q else tb σ H1 Q
theorem yf{c:AD}(hc:PT X c tA)(ha:PE X a ta)(hb:PE X b tb):PE X (.IfExp c a b pos) (tIf tA ta tb):=by
 intro pins s σ H Q I h;refine wpAny_IfExp (iM (hc pins s σ H _ I h) λd s1 ⟨H1,I1,q1⟩=>?_);cases d with
 | true=>exact ha pins s1 σ H1 Q I1 q1
 | false=>exact hb pins s1 σ H1 Q I1 q1
end
end L2
namespace L2
open PySem PySem.Spec PyProof.Rows
def pQ(K:aF)(H:Hp)(a:A7)(xs:List V):Prop:=
 Rd H a (.lst xs) ∨
  ∃(o:Obj)(its:Array A6)(n:Nat),K.lookup a=ND o∧o.cls=.type "list" ∧ o.dict=none∧o.data=.seq its n∧its.size≤sizeLine∧Vals xs its.toList
def xR(K:aF)(H:Hp)(a:A7)(xs:List V):Prop:=
 Rd H a (.tup xs) ∨
  ∃(o:Obj)(its:Array A6)(n:Nat),K.lookup a=ND o∧o.cls=.type "tuple" ∧ o.data=.seq its n∧its.size≤sizeLine∧Vals xs its.toList
def aJa:A6→Option V
 | .none=>ND .non
 | .bool b=>ND (.bl b)
 | .int i _=>ND (.int i)
 | .str x _=>ND (.str x)
 | .bytes b _=>ND (.byt b)
 | .float b _=>ND (.flt b)
 | .ref a=>ND (.ref a)
 | .type n=>ND (.ty n)
 | _=>none
theorem RelV.abs{x:V}{u:A6}(r:RelV x u):aJa u=ND x:=by
 cases x with
 | non=>cases r;rfl
 | bl _=>cases r;rfl
 | int _=>obtain⟨t,rfl⟩:=r;rfl
 | str _=>obtain⟨t,rfl⟩:=r;rfl
 | byt _=>obtain⟨t,rfl⟩:=r;rfl
 | flt _=>obtain⟨t,rfl⟩:=r;rfl
 | ref _=>cases r;rfl
 | ty _=>cases r;rfl
theorem RelV.inj{x y:V}{u:A6}(r:RelV x u)(q:RelV y u):x=y:=F1 (r.abs.symm.trans q.abs)
theorem Vals.inj:∀{xs ys:List V} {us:List A6},Vals xs us→Vals ys us→xs=ys
 | _,_,_,.nil,.nil=>rfl
 | _,_,_,.cons r t,.cons r' t'=>by rw[r.inj r',Vals.inj t t']
section
variable{X:Cx}{pins:List (A7×Obj)}{σ:St}{H:Hp}{s:A8}{a:A7}{xs ys:List V}
theorem pQ.of{K:aF}(h:H a=ND (.lst xs)):pQ K H a xs:=.inl (.inl h)
theorem xR.of{K:aF}(h:H a=ND (.tup xs)):xR K H a xs:=.inl (.inl h)
theorem Inv.list(I:Inv X pins σ H s)(h:pQ X.K H a xs):∃its:List A6,Vals xs its∧PlainL s.heap a its.toArray∧xs.length≤sizeLine:=by
 rcases h with h | ⟨o,its,n,hk,hc,hd,hs,hz,r⟩
 ·obtain⟨z,its,n,r,e⟩:=h.ok I.hok;exact⟨its,r,⟨_,n,e,U,U,U⟩,z⟩
 ·refine⟨its.toList,r,⟨o,n,I.Ht a o hk,hc,hd,by simpa using hs⟩,?_⟩;have e:=r.length;simp only[K3]at e;omega
theorem Inv.tuple(I:Inv X pins σ H s)(h:xR X.K H a xs):∃its:List A6,Vals xs its∧IsTup s.heap a its.toArray∧xs.length≤sizeLine:=by
 rcases h with h | ⟨o,its,n,hk,hc,hs,hz,r⟩
 ·obtain⟨z,its,r,p⟩:=h.ok I.hok;exact⟨its,r,p,z⟩
 ·refine⟨its.toList,r,⟨o,I.Ht a o hk,hc,n,by simpa using hs⟩,?_⟩;have e:=r.length;simp only[K3]at e;omega
theorem Inv.DP(I:Inv X pins σ H s)(h:pQ X.K H a xs)(h':pQ X.K H a ys):xs=ys:=by
 obtain⟨its,r,⟨o,n,e,_,_,d⟩,_⟩:=I.list h;obtain⟨its',r',⟨o',n',e',_,_,d'⟩,_⟩:=I.list h';rw[e]at e';cases e';rw[d]at d';injection d' with d1 _;have:its=its':=by simpa using congrArg u4 d1
 subst this;exact r.inj r'
theorem Inv.Tv(I:Inv X pins σ H s)(h:xR X.K H a xs)(h':xR X.K H a ys):xs=ys:=by
 obtain⟨its,r,⟨o,e,_,n,d⟩,_⟩:=I.tuple h;obtain⟨its',r',⟨o',e',_,n',d'⟩,_⟩:=I.tuple h';rw[e]at e';cases e';rw[d]at d';injection d' with d1 _;have:its=its':=by simpa using congrArg u4 d1
 subst this;exact r.inj r'
end
abbrev Cx.wish(X:Cx)(E:A6→A8→Prop):Cx:={X with xe:=E}
abbrev Cx.ZV(X:Cx):Cx:=X.wish λ_ _=>False
theorem Cx.Ok.wish{X:Cx}(ok:X.Ok)(E:A6→A8→Prop):(X.wish E).Ok:=
 ⟨ok.mod,ok.kind,ok.glob,ok.blt,ok.above,ok.inj,ok.has,ok.cab,ok.hd,ok.frames,ok.stk,ok.exf,ok.bs,ok.bsz,ok.yc,ok.aCp,ok.Ku,ok.frf⟩
theorem Cx.Ok.yN{X:Cx}{E:A6→A8→Prop}(ok:(X.wish E).Ok):X.Ok:=
 ⟨ok.mod,ok.kind,ok.glob,ok.blt,ok.above,ok.inj,ok.has,ok.cab,ok.hd,ok.frames,ok.stk,ok.exf,ok.bs,ok.bsz,ok.yc,ok.aCp,ok.Ku,ok.frf⟩
section
variable{X:Cx}{pins:List (A7×Obj)}{σ:St}{H:Hp}{s:A8}{E:A6→A8→Prop}
theorem Inv.wish(I:Inv X pins σ H s)(E:A6→A8→Prop):Inv (X.wish E) pins σ H s:=⟨I.ok.wish E,I.os,I.bare,I.base,I.loc,I.cell,I.free,I.xQ,I.pin,I.hok,I.len⟩
theorem Inv.yN(I:Inv (X.wish E) pins σ H s):Inv X pins σ H s:=⟨I.ok.yN,I.os,I.bare,I.base,I.loc,I.cell,I.free,I.xQ,I.pin,I.hok,I.len⟩
theorem SP.yN{D:Ends}{f:Flow}{s':A8}(h:SP (X.wish E) pins D f s'):SP X pins D f s':=by
 cases f with
 | next=>obtain⟨σ',H',I,q⟩:=h;exact⟨σ',H',I.yN,q⟩
 | brk=>obtain⟨σ',H',I,q⟩:=h;exact⟨σ',H',I.yN,q⟩
 | cont=>obtain⟨σ',H',I,q⟩:=h;exact⟨σ',H',I.yN,q⟩
 | ret u=>obtain⟨v,σ',H',I,r,q⟩:=h;exact⟨v,σ',H',I.yN,r,q⟩
theorem DN.ZV{st:List AH}{t:TS}(h:DN X.ZV st t):DN X st t:=λpins s σ H D I hw=>
 AX (h pins s σ H D (I.wish _) hw) (λ_ _ q=>q.yN) λ_ _ z=>False.elim z
end
section
variable{X:Cx}{st:AH}{rest:List AH}{t u:TS}{e:AD}{te:TE}{pos:Pos}
def aEa:TS:=λD σ H=>D.nx σ H
def aFh(t u:TS):TS:=λD σ H=>t {D with nx:=u D} σ H
theorem aCt:DN X [] aEa:=λ_ _ σ H _ I h=>EB ⟨σ,H,I,h⟩
theorem yg(h1:PS X st t)(h2:DN X rest u):DN X (st::rest) (aFh t u):=by
 intro pins s σ H D I h;refine IG (iM (h1 pins s σ H {D with nx:=u D} I h) λf s1 q=>?_);cases f with
 | next=>obtain⟨σ',H',I',q⟩:=q;exact h2 pins s1 σ' H' D I' q
 | ret v=>exact q
 | brk=>exact q
 | cont=>exact q
theorem aCu(h1:PS X st t):DN X [st] t:=by
 intro pins s σ H D I h;refine IG (iM (h1 pins s σ H D I h) λf s1 q=>?_);cases f with
 | next=>exact EB q
 | ret v=>exact q
 | brk=>exact q
 | cont=>exact q
theorem Inv.quiet{pins:List (A7×Obj)}{σ:St}{H:Hp}{s:A8}(I:Inv X pins σ H s):interactive X.env=NH:=by simp[interactive,I.ok.kind]
def kE(te:TE):TS:=λD σ H=>te σ H λ_ H1=>D.nx σ H1
theorem jJ(he:PE X e te)(hs:Co e none pos.line X.env=pure NH:=by rfl):PS X (.Expr e pos) (kE te):=by intro pins s σ H D I h;exact wpAny_Expr_any (iM (he pins s σ H _ I h) λv s1 ⟨x,H1,I1,r1,q1⟩=>⟨σ,H1,I1,q1⟩) I.quiet hs
def yh(te:TE):TS:=λD σ H=>te σ H D.rt
theorem Wt(he:PE X e te):PS X (.Return (ND e) pos) (yh te):=by intro pins s σ H D I h;exact wpAny_Return_some (iM (he pins s σ H _ I h) λv s1 ⟨x,H1,I1,r1,q1⟩=>⟨x,σ,H1,I1,r1,q1⟩)
def aHr(c:TT)(t u:TS):TS:=λD σ H=>c σ H λb H1=>if b=NG then t D σ H1 else u D σ H1
theorem aHs{c:AD}{a b:List AH}{tc:TT}(hc:PT X c tc)(ha:DN X a t)(hb:DN X b u):PS X (.If c a b pos) (aHr tc t u):=by
 intro pins s σ H D I h;refine wpAny_If (iM (hc pins s σ H _ I h) λd s1 ⟨H1,I1,q1⟩=>?_);cases d with
 | true=>exact ha pins s1 σ H1 D I1 q1
 | false=>exact hb pins s1 σ H1 D I1 q1
def yj:TS:=λ_ _ _=>False
theorem yl:PS X st yj:=λ_ _ _ _ _ _ h=>h.elim
end
abbrev TG:=V→St→Hp→(St→Hp→Prop)→Prop
abbrev TGs:=List V→St→Hp→(St→Hp→Prop)→Prop
def PG(X:Cx)(target:AD)(t:TG):Prop:=
 ∀(pins:List (A7×Obj))(s:A8)(σ:St)(H:Hp)(v:V)(u:A6)(Q:St→Hp→Prop),Inv X pins σ H s→RelV v u→t v σ H Q →
  AF (AG X.prog X.w) X.A (EJ target X.env u) (λ_ s'=>∃σ' H',Inv X pins σ' H' s'∧Q σ' H') X.xe s
def PGs(X:Cx)(ts:List AD)(t:TGs):Prop:=
 ∀(pins:List (A7×Obj))(s:A8)(σ:St)(H:Hp)(vs:List V)(us:List A6)(Q:St→Hp→Prop),Inv X pins σ H s→Vals vs us→t vs σ H Q →
  AF (AG X.prog X.w) X.A (assignInOrder ((EC ts X.env).map (·.2)) us) (λ_ s'=>∃σ' H',Inv X pins σ' H' s'∧Q σ' H') X.xe s
abbrev aFi:=V→V→V→Hp→(Hp→Prop)→Prop
def aHt(X:Cx)(t:aFi):Prop:=
 ∀(pins:List (A7×Obj))(s:A8)(σ:St)(H:Hp)(o i v:V)(ov iv u:A6)(Q:Hp→Prop),Inv X pins σ H s→RelV o ov→RelV i iv→RelV v u→t o i v H Q →
  AF (AG X.prog X.w) X.A (setItem ov iv u) (λ_ s'=>∃H',Inv X pins σ H' s'∧Q H') X.xe s
section
variable{X:Cx}{pos:Pos}
def jR(i:Nat):TG:=λv σ H Q=>Q (σ.set i (ND v)) H
theorem fW{i:Nat}{x:Str}(hN:X.N.Nodup)(hi:X.N[i]?=ND x)(hx:Loc X.env.scope x)(hf:X.fn x=NG∨X.env.scope.names.lookup x=ND .local:=by first | exact .inl U | exact .inr U | assumption):PG X (.Name x pos) (jR i):=by intro pins s σ H v u Q I r h;exact He (DK I hN hi hx r (λs' I'=>⟨_,H,I',h⟩) hf)
def aHu:TGs:=λvs σ H Q=>vs=[]∧Q σ H
def aEc(t:TG)(u:TGs):TGs:=λvs σ H Q=>∃v r,vs=v::r∧t v σ H λσ' H'=>u r σ' H' Q
theorem Wu:PGs X [] aHu:=by intro pins s σ H vs us Q I r h;obtain⟨e,h⟩:=h;subst e;cases r;exact assignInOrder_nil ⟨σ,H,I,h⟩
theorem pZ{e:AD}{es:List AD}{t:TG}{u:TGs}(h1:PG X e t)(h2:PGs X es u)
  (hs:(EC (e::es) X.env).map (·.2)=EJ e X.env::(EC es X.env).map (·.2):=by rfl):PGs X (e::es) (aEc t u):=by
 intro pins s σ H vs us Q I r h;obtain⟨v,vr,e1,h⟩:=h;subst e1;cases r with
 | cons r rr=>rw[hs];refine assignInOrder_cons (iM (h1 pins s σ H _ _ _ I r h) λ_ s1 ⟨σ1,H1,I1,q1⟩=>?_);exact h2 pins s1 σ1 H1 _ _ Q I1 rr q1
def Wv(K:aF)(n:Nat)(t:TGs):TG:=λv σ H Q=>∃a xs,v=.ref a∧xR K H a xs∧xs.length=n∧t xs σ H Q
theorem RJ{es:List AD}{k:Nat}{t:TGs}{n:Nat}(hc:X.calm=NG)(h:PGs X es t)
  (hn:(EC es X.env).length=n:=by rfl) (hst:(EC es X.env).findIdx? (·.1)=none:=by rfl):PG X (.Tuple es k pos) (Wv X.K n t):=by
 intro pins s σ H v u Q I r hw;obtain⟨a,xs,e1,hq,hl,hw⟩:=hw;subst e1;cases r;obtain⟨its,rv,ht,hz⟩:=I.tuple hq;refine assign_Tuple_tuple (I.ok.hd hc) ht (by simp[hn,←hl,rv.length]) hst λh' hx=>?_;have I1:Inv X pins σ H {s with heap:=h'}:=I.kept (t':=s.toks) λb o e=>hx b o (E9 (AJ e)) e;exact h pins _ σ H xs _ Q I1 (by simpa using rv) hw
def kh(to ti:TE)(t:aFi):TG:=λv σ H Q=>to σ H λo H1=>ti σ H1 λi H2=>t o i v H2 λH3=>Q σ H3
theorem Ww{o i:AD}{to ti:TE}{t:aFi}(ho:PE X o to)(hi:PE X i ti)(hs:aHt X t)
  (ha:∀v,EJ (.Subscript o i pos) X.env v=(do
   let ov ←Cb [v] (AO o X.env)
   let iv ←Cb [v,ov] (AO i X.env)
   Da pos
   Cb [v,ov,iv] (setItem ov iv v)
   release [v,ov,iv] []):=by intro _;rfl):PG X (.Subscript o i pos) (kh to ti t):=by
 intro pins s σ H v u Q I r h;rw[ha];refine A9 (BS (iM (ho pins s σ H _ I h) λov s1 ⟨x,H1,I1,r1,q1⟩=>?_));refine A9 (BS (iM (hi pins s1 σ H1 _ I1 q1) λiv s2 ⟨y,H2,I2,r2,q2⟩=>?_));refine A9 (GO (A9 (BS (iM (hs pins s2 σ H2 x y v ov iv u _ I2 r1 r2 r q2) λ_ s3 ⟨H3,I3,q3⟩=>?_))));exact wpAny_release ⟨σ,H3,I3,q3⟩
def wF(te:TE)(g:TG):TS:=λD σ H=>te σ H λx H1=>g x σ H1 D.nx
theorem Hu{tg e:AD}{te:TE}{g:TG}(he:PE X e te)(hg:PG X tg g)(hs:swapsWithSole [tg] e pos.line X.env=pure NH:=by rfl)(hw:swappedStores [tg] e X.env=pure none:=by rfl)
  (h1:(EC [tg] X.env).map (·.2)=[EJ tg X.env]:=by rfl):PS X (.Assign [tg] e pos) (wF te g):=by
 intro pins s σ H D I h;refine wpAny_Assign_stores (iM (he pins s σ H _ I h) λv s1 ⟨x,H1,I1,r1,q1⟩=>?_) hs hw;rw[h1];exact iM (hg pins s1 σ H1 x v _ I1 r1 q1) λ_ s2 q=>q
theorem bH{i:Nat}{x:Str}{e:AD}{te:TE}{pos':Pos}(hN:X.N.Nodup)(hi:X.N[i]?=ND x)(hx:Loc X.env.scope x)(he:PE X e te)(hs:Co e (ND (.Name x pos')) pos.line X.env=pure NH:=by rfl)(hf:X.fn x=NG∨X.env.scope.names.lookup x=ND .local:=by first | exact .inl U | exact .inr U | assumption) :
  PS X (.Assign [.Name x pos'] e pos) (wF te (jR i)):=by
 intro pins s σ H D I h;refine wpAny_Assign_Name (iM (he pins s σ H _ I h) λv s1 ⟨y,H1,I1,r1,q1⟩=>?_) hs;exact DK I1 hN hi hx r1 (λs2 I2=>⟨_,H1,I2,q1⟩) hf
end
section
variable{X:Cx}{pos:Pos}
def RK(c:TT)(tb:TS):TS:=λD σ H=>∃W:Nat→St→Hp→Prop,(∃m,W m σ H)∧∀m σ H,W m σ H →
 c σ H λb H1=>if b=NG then ∃N:St→Hp→Prop,(∀σ' H',N σ' H'→∃m',m'<m∧W m' σ' H')∧tb {D with nx:=N,ct:=N,bk:=D.nx} σ H1 else D.nx σ H1
theorem yo{c:AD}{body:List AH}{tc:TT}{tb:TS}(hp:Dx (AG X.prog X.w) X.A X.env X.xe)(hc:PT X c tc)(hb:DN X body tb):PS X (.While c body [] pos) (RK tc tb):=by
 intro pins s σ H D I h;obtain⟨W,⟨m0,w0⟩,turn⟩:=h;refine wpAny_While (codeAny_whileLoop (λn s'=>∃σ' H',Inv X pins σ' H' s'∧W n σ' H') ?_ m0 ⟨σ,H,I,w0⟩);rintro n s1 ⟨σ1,H1,I1,w1⟩;refine BQ hp (iM (hc pins s1 σ1 H1 _ I1 (turn n σ1 H1 w1)) λb s2 ⟨H2,I2,q2⟩=>?_);cases b with
 | true=>
  obtain⟨N,hN,q2⟩:=q2;rw[if_pos rfl];refine BQ hp (iM (hb pins s2 σ1 H2 _ I2 q2) λf s3 q3=>?_);cases f with
  | next=>obtain⟨σ3,H3,I3,n3⟩:=q3;obtain⟨m',hm,w3⟩:=hN σ3 H3 n3;exact⟨m',hm,σ3,H3,I3,w3⟩
  | cont=>obtain⟨σ3,H3,I3,n3⟩:=q3;obtain⟨m',hm,w3⟩:=hN σ3 H3 n3;exact⟨m',hm,σ3,H3,I3,w3⟩
  | brk=>exact q3
  | ret v=>exact q3
 | false=>rw[if_neg E2];exact EB ⟨σ1,H2,I2,q2⟩
end
structure It where
 go:Nat→Hp→Prop
 yld:Nat→Hp→V→Hp→Prop
 stop:Nat→Hp→Prop
def Wx(X:Cx)(pins:List (A7×Obj))(H:Hp)(b:A7):Prop:=
 H b=none∧b≠X.env.locals∧b∉X.fs∧(b∈X.ex∨X.s₀.heap.objs.size≤b)∧(∀x c,X.env.cells.lookup x=ND c→c≠b)∧∀p∈X.pn++pins,p.1≠b
theorem Inv.aFj{X:Cx}{pins:List (A7×Obj)}{σ:St}{H H':Hp}{s:A8}{b:A7}(I:Inv X pins σ H s)(hb:s.heap.objs.size≤b)(hn:H' b=none):Wx X pins H' b:=by
 refine⟨hn,P8 (E5 I.lt hb),I.aI7 hb,.inr (G1 I.sz hb),λx c e z=>?_,λp hp z=>?_⟩
 ·obtain⟨v,q⟩:=I.cell x c e;exact absurd (E5 q.lt (by rw[z];exact hb)) (L7 _)
 ·exact absurd (E5 (AJ (I.pin p hp).1) (by rw[z];exact hb)) (L7 _)
structure Turn(P:AI)(w:AL)(K:aF)(tg:AD)(J:It)(fp:List A7)(it:A7)(tn:Nat→AM→Prop):Prop where
 mem:it∈fp
 obj:∀i h,tn i h→∀b∈fp,∃o,h.get? b=ND o∧∀v,o.data≠.cell v
 keep:∀i h h',tn i h→(∀b∈fp,∀o,h.get? b=ND o→h'.get? b=ND o)→tn i h'
 item:∀(X:Cx),X.prog=P→X.w=w→X.K=K→X.calm=NG→∀(i:Nat)(pins:List (A7×Obj))(s:A8)(σ:St)(H:Hp)(E:A6→A8→Prop),Inv X pins σ H s→(∀b∈fp,Wx X pins H b)→tn i s.heap→J.go i H →
  AF (AG P w) X.A (DB (.ref it)) (λr s1=>∃u,r=ND u ∧
   AF (AG P w) X.A (ED tg (.ref it) u) (λ_ s2=>∃x H',Inv X pins σ H' s2∧RelV x u∧J.yld i H x H'∧tn (i+1) s2.heap∧∀b∈fp,H' b=none) E s1) E s
 done:∀(X:Cx),X.prog=P→X.w=w→X.K=K→X.calm=NG→∀(i:Nat)(pins:List (A7×Obj))(s:A8)(σ:St)(H:Hp)(E:A6→A8→Prop),Inv X pins σ H s→(∀b∈fp,Wx X pins H b)→tn i s.heap→J.stop i H →
  AF (AG P w) X.A (DB (.ref it)) (λr s1=>r=none∧Inv X pins σ H s1) E s
 self:∀(A:AN)(i:Nat)(s:A8)(Q:A6→A8→Prop)(E:A6→A8→Prop),tn i s.heap→Q (.ref it) s→AF (AG P w) A (HE (.ref it)) Q E s
abbrev TI:=St→Hp→(It→Hp→Prop)→Prop
def PIE(X:Cx)(pins:List (A7×Obj))(σ:St)(tg:AD)(R:It→Hp→Prop)(itv:A6)(s2:A8):Prop:=
 ∃(it:A7)(fp:List A7)(tn:Nat→AM→Prop)(J:It)(H':Hp),itv=.ref it∧Inv X pins σ H' s2∧Turn X.prog X.w X.K tg J fp it tn∧tn 0 s2.heap∧(∀b∈fp,Wx X pins H' b)∧R J H'
def PI(X:Cx)(tg iter:AD)(wi:TI):Prop:=
 ∀(pins:List (A7×Obj))(s:A8)(σ:St)(H:Hp)(R:It→Hp→Prop),Inv X pins σ H s→wi σ H R →
  AF (AG X.prog X.w) X.A (AO iter X.env) (λv s1=>AF (AG X.prog X.w) X.A (HE v) (PIE X pins σ tg R) X.xe s1) X.xe s
theorem yp{M:IL}{A:AN}{E:A6→A8→Prop}{s:A8}{tg:AD}{it:A7}{u:A6}{o:Obj}{n:String}{vs:Array A6}{Q:Unit→A8→Prop}(ho:s.heap.get? it=ND o)(hc:o.cls=.type n)(hd:o.data=.fields vs)
    (hn:["enumerate", "zip", "dict_itemiterator", "dict_reverseitemiterator", "odict_iterator", "itertools.zip_longest", "itertools.pairwise"].contains n=NH) (hQ:Q () s):AF M A (ED tg (.ref it) u) Q E s:=by
  unfold ED;cases tg<;>first
    | exact AE hQ
    | (cases u<;>first
        | exact AE hQ
        | (refine A9 (IP ho ?_)
           rw[hc,hd];show AF M A (if(["enumerate", "zip", "dict_itemiterator", "dict_reverseitemiterator", "odict_iterator", "itertools.zip_longest", "itertools.pairwise"].contains n&&vs[0]?==ND (EE _))=NG then _ else _) Q E s;rw[if_neg (by intro h;rw[hn,Bool.false_and]at h;cases h)];exact AE hQ))
def Itl(K:aF)(a:A7):It:=
 ⟨λi H=>∃xs x,pQ K H a xs∧xs[i]?=ND x,λi H x H'=>H'=H∧∀xs,pQ K H a xs→xs[i]?=ND x,λi H=>∃xs,pQ K H a xs∧xs.length≤i⟩
def Itt(K:aF)(a:A7):It:=
 ⟨λi H=>∃xs x,xR K H a xs∧xs[i]?=ND x,λi H x H'=>H'=H∧∀xs,xR K H a xs→xs[i]?=ND x,λi H=>∃xs,xR K H a xs∧xs.length≤i⟩
def Itr(lo:Int)(n:Nat):It:=⟨λi _=>i<n,λi H x H'=>H'=H∧x=.int (lo+i),λi _=>n≤i⟩
theorem kj{P:AI}{w:AL}{K:aF}{tg:AD}(a it:A7):Turn P w K tg (Itl K a) [it] it (λi h=>h.IsListIter it a i) where
 mem:=by simp
 obj:=λi h st b hb=>by
  have e:b=it:=by simpa using hb
  subst e;obtain⟨o,e,c,d⟩:=st;exact⟨o,e,λv z=>by rw[d]at z;cases z⟩
 keep:=λi h h' st k=>st.at λo e=>k it (by simp) o e
 item:=by intro X hP hw hK hc i pins s σ H E I hf st hg;subst hP hw hK;obtain⟨xs,x,hq,hx⟩:=hg;obtain⟨its,rv,p,hz⟩:=I.list hq;obtain⟨u,hu,ru⟩:=rv.get hx;obtain⟨f0,f1,f2,f3,f4,f5⟩:=hf it (by simp);refine wpAny_pyNext_list_item st p.isList (x:=u) (by simpa using hu) λh' st' sb=>?_;have I1:Inv X pins σ H {s with heap:=h'}:=I.turned (t':=s.toks) (λb o hb e=>(sb.2 b hb).trans e) f0 f1 f3 f4 f5;obtain⟨o,e,c,d⟩:=id st';exact⟨u,U,yp (s:={s with heap:=h'}) e c d (by decide) ⟨x,H,I1,ru,⟨U,λys hy=>by rw[I.DP hy hq];exact hx⟩,st',λb hb=>(hf b hb).1⟩⟩
 done:=by intro X hP hw hK hc i pins s σ H E I hf st hg;subst hP hw hK;obtain⟨xs,hq,hx⟩:=hg;obtain⟨its,rv,p,hz⟩:=I.list hq;obtain⟨f0,f1,f2,f3,f4,f5⟩:=hf it (by simp);have hl:=rv.length;exact wpAny_pyNext_list_end (I.ok.hd hc) st p.isList (by simp;omega) λh' eb=>⟨U,I.turned (t':=s.toks) (λb o hb e=>eb b o hb e) f0 f1 f3 f4 f5⟩
 self:=λ_ _ _ _ _ st h=>wpAny_pyIter_listiter st h
theorem RL{P:AI}{w:AL}{K:aF}{tg:AD}(a it:A7):Turn P w K tg (Itt K a) [it] it (λi h=>h.IsTupleIter it a i) where
 mem:=by simp
 obj:=λi h st b hb=>by
  have e:b=it:=by simpa using hb
  subst e;obtain⟨o,e,c,d⟩:=st;exact⟨o,e,λv z=>by rw[d]at z;cases z⟩
 keep:=λi h h' st k=>st.at λo e=>k it (by simp) o e
 item:=by intro X hP hw hK hc i pins s σ H E I hf st hg;subst hP hw hK;obtain⟨xs,x,hq,hx⟩:=hg;obtain⟨its,rv,p,hz⟩:=I.tuple hq;obtain⟨u,hu,ru⟩:=rv.get hx;obtain⟨f0,f1,f2,f3,f4,f5⟩:=hf it (by simp);refine wpAny_pyNext_tuple_item st (show s.heap.IsTuple a its.toArray from p) (x:=u) (by simpa using hu) λh' st' sb=>?_;have I1:Inv X pins σ H {s with heap:=h'}:=I.turned (t':=s.toks) (λb o hb e=>(sb.2 b hb).trans e) f0 f1 f3 f4 f5;obtain⟨o,e,c,d⟩:=id st';exact⟨u,U,yp (s:={s with heap:=h'}) e c d (by decide) ⟨x,H,I1,ru,⟨U,λys hy=>by rw[I.Tv hy hq];exact hx⟩,st',λb hb=>(hf b hb).1⟩⟩
 done:=by intro X hP hw hK hc i pins s σ H E I hf st hg;subst hP hw hK;obtain⟨xs,hq,hx⟩:=hg;obtain⟨its,rv,p,hz⟩:=I.tuple hq;obtain⟨f0,f1,f2,f3,f4,f5⟩:=hf it (by simp);have hl:=rv.length;exact wpAny_pyNext_tuple_end (I.ok.hd hc) st (show s.heap.IsTuple a its.toArray from p) (by simp;omega) λh' eb=>⟨U,I.turned (t':=s.toks) (λb o hb e=>eb b o hb e) f0 f1 f3 f4 f5⟩
 self:=λ_ _ _ _ _ st h=>wpAny_pyIter_tupleiter st h
theorem RM{P:AI}{w:AL}{K:aF}{tg:AD}(it:A7)(lo:Int)(n:Nat):Turn P w K tg (Itr lo n) [it] it (λi h=>IsRangeIter h it (lo+(i:Nat)*1) ((n:Int)-(i:Nat)) 1) where
 mem:=by simp
 obj:=λi h st b hb=>by
  have e:b=it:=by simpa using hb
  subst e;exact⟨_,st,λv z=>by
   have z':Data.fields _=Data.cell v:=z;cases z'⟩
 keep:=λi h h' st k=>k it (by simp) _ st
 item:=by intro X hP hw hK hc i pins s σ H E I hf st hg;subst hP hw hK;obtain⟨f0,f1,f2,f3,f4,f5⟩:=hf it (by simp);have W:=Walks.range (prog:=X.prog) (w:=X.w) (I.ok.hd hc) it lo 1 n;refine W.item i s _ _ hg st λv h' tk hv st' kk=>?_;obtain⟨t,rfl⟩:=hv;have I1:Inv X pins σ H {s with heap:=h',toks:=tk}:=I.turned (λb o hb e=>kk b o (by simpa using hb) e) f0 f1 f3 f4 f5;refine⟨_,U,yp (s:={s with heap:=h',toks:=tk}) (n := "range_iterator") st' U U (by decide) ⟨.int (lo+i),H,I1,⟨t,?_⟩,⟨U,U⟩,st',λb hb=>(hf b hb).1⟩⟩;rw[Int.mul_one]
 done:=by intro X hP hw hK hc i pins s σ H E I hf st hg;subst hP hw hK;obtain⟨f0,f1,f2,f3,f4,f5⟩:=hf it (by simp);exact wpAny_pyNext_range_end (I.ok.hd hc) st (by have:n≤i:=hg;omega) λh' eb=>⟨U,I.turned (t':=s.toks) (λb o hb e=>eb b o hb e) f0 f1 f3 f4 f5⟩
 self:=λ_ _ _ _ _ st h=>wpAny_pyIter_rangeiter st h
end L2
namespace L2
open PySem PySem.Spec PyProof.Rows
section
variable{X:Cx}{tg:AD}
def aEd(K:aF)(tl:TE):TI:=λσ H R=>tl σ H λx H1=>∃a,x=.ref a∧(∃xs,pQ K H1 a xs)∧R (Itl K a) H1
def aHx(K:aF)(tl:TE):TI:=λσ H R=>tl σ H λx H1=>∃a,x=.ref a∧(∃xs,xR K H1 a xs)∧R (Itt K a) H1
theorem ZW{l:AD}{tl:TE}(hl:PE X l tl):PI X tg l (aEd X.K tl):=by
 intro pins s σ H R I h;refine iM (hl pins s σ H _ I h) λv s1 ⟨x,H1,I1,r1,q1⟩=>?_;obtain⟨a,e,⟨xs,hq⟩,q⟩:=q1;subst e;cases r1;obtain⟨its,rv,p,hz⟩:=I1.list hq;refine DO p.isList ?_;refine⟨s1.heap.objs.size,[s1.heap.objs.size],_,_,H1,U,I1.kept (t':=s1.toks) λb o e=>AA _ e,kj a _,⟨_,AK _ U,U,U⟩,λb hb=>?_,q⟩;have e:b=s1.heap.objs.size:=by simpa using hb
 subst e;exact I1.aFj (D1 _) (I1.hok.fresh (D1 _))
theorem yq{l:AD}{tl:TE}(hl:PE X l tl):PI X tg l (aHx X.K tl):=by
 intro pins s σ H R I h;refine iM (hl pins s σ H _ I h) λv s1 ⟨x,H1,I1,r1,q1⟩=>?_;obtain⟨a,e,⟨xs,hq⟩,q⟩:=q1;subst e;cases r1;obtain⟨its,rv,p,hz⟩:=I1.tuple hq;refine wpAny_pyIter_tuple (show s1.heap.IsTuple a its.toArray from p) ?_;refine⟨s1.heap.objs.size,[s1.heap.objs.size],_,_,H1,U,I1.kept (t':=s1.toks) λb o e=>AA _ e,RL a _,⟨_,AK _ U,U,U⟩,λb hb=>?_,q⟩;have e:b=s1.heap.objs.size:=by simpa using hb
 subst e;exact I1.aFj (D1 _) (I1.hok.fresh (D1 _))
theorem DQ{pins:List (A7×Obj)}{σ:St}{H:Hp}{s:A8}{R:It→Hp→Prop}{E:A6→A8→Prop}{lo hi:Int}{t u v:Tok}{tk:Nat}(I:Inv X pins σ H s)(h1:-(2 ^ 62)≤lo)(h2:lo<2 ^ 62)(h3:-(2 ^ 62)≤hi)(h4:hi<2 ^ 62)
  (q:R (Itr lo (hi-lo).toNat) H):AF (AG X.prog X.w) X.A (HE (.ref s.heap.objs.size)) (PIE X pins σ tg R) E {s with heap:=s.heap.push {cls:=.type "range", data:=.fields #[.int lo t,.int hi u,.int 1 v]},toks:=tk}:=by
 refine wpAny_pyIter_range (IE ..) (KF h1 h2 h3 h4) ?_;have I1:Inv X pins σ H {s with heap:=s.heap.push {cls:=.type "range", data:=.fields #[.int lo t,.int hi u,.int 1 v]},toks:=tk}:=I.kept λb o e=>AA _ e;refine⟨(s.heap.push {cls:=.type "range", data:=.fields #[.int lo t,.int hi u,.int 1 v]}).objs.size,[(s.heap.push {cls:=.type "range", data:=.fields #[.int lo t,.int hi u,.int 1 v]}).objs.size],_,_,H,U,
  I1.kept (t':=tk) λb o e=>AA _ e,RM _ lo (hi-lo).toNat,?_,λb hb=>?_,q⟩
 ·have e1:lo+((0:Nat):Int)*1=lo:=by simp
  have e2:(((hi-lo).toNat:Nat):Int)-((0:Nat):Int)=LN lo hi 1:=by rw[GU];split<;>omega
  show IsRangeIter _ _ (lo+((0:Nat):Int)*1) ((((hi-lo).toNat:Nat):Int)-((0:Nat):Int)) 1;rw[e1,e2];exact AK _ U
 ·have e:b=(s.heap.push {cls:=.type "range", data:=.fields #[.int lo t,.int hi u,.int 1 v]}).objs.size:=by simpa using hb
  subst e;exact I1.aFj (D1 _) (I1.hok.fresh (D1 _))
def yr(ta:TA):TI:=λσ H R=>ta σ H λvs H1=>∃j:Int,vs=[.int j]∧-(2 ^ 62)≤j∧j<2 ^ 62∧R (Itr 0 j.toNat) H1
def yu(ta:TA):TI:=λσ H R=>ta σ H λvs H1=>∃i j:Int,vs=[.int i,.int j]∧(-(2 ^ 62)≤i∧i<2 ^ 62∧-(2 ^ 62)≤j∧j<2 ^ 62)∧R (Itr i (j-i).toNat) H1
theorem Tw{a:AD}{ta:TA}{p pos:Pos}(hg:Gl X "range") (hm:X.mg "range" = none) (ha:PA X [a] ta) (hs:AB [a] X.env=[(NH,AO a X.env)]:=by rfl):PI X tg (.Call (.Name "range" p) [a] [] pos) (yr ta):=by
 intro pins s σ H R I h;refine Call_ (sI I hg hm boot_range (J6 (iM (ha pos pins s σ H _ I h) λus s1 ⟨vs,H1,I1,r1,q1⟩=>?_) hs U));obtain⟨j,e,q1,q2,q⟩:=q1;subst e;cases r1 with
 | cons r rr=>cases rr;obtain⟨t,rfl⟩:=r;exact Kt (DQ I1 (by omega) (by omega) q1 q2 (by simpa using q))
theorem km{a b:AD}{ta:TA}{p pos:Pos}(hg:Gl X "range") (hm:X.mg "range" = none) (ha:PA X [a,b] ta) (hs:AB [a,b] X.env=[(NH,AO a X.env),(NH,AO b X.env)]:=by rfl) (hs2:AB [b] X.env=[(NH,AO b X.env)]:=by rfl) :
  PI X tg (.Call (.Name "range" p) [a,b] [] pos) (yu ta):=by
 intro pins s σ H R I h;refine Call_ (sI I hg hm boot_range (J6 (iM (ha pos pins s σ H _ I h) λus s1 ⟨vs,H1,I1,r1,q1⟩=>?_) (by rw[hs,hs2]) (by rw[hs2];rfl)));obtain⟨i,j,e,⟨q1,q2,q3,q4⟩,q⟩:=q1;subst e;cases r1 with
 | cons r rr=>
  cases rr with
  | cons r' rr=>cases rr;obtain⟨t,rfl⟩:=r;obtain⟨t',rfl⟩:=r';exact Kx (DQ I1 q1 q2 q3 q4 q)
def Wy(wi:TI)(g:TG)(tb:TS):TS:=λD σ H=>wi σ H λJ H1=>∃W:Nat→Nat→St→Hp→Prop,(∃m,W 0 m σ H1)∧∀i m σ H,W i m σ H →
 (J.stop i H∧D.nx σ H)∨(J.go i H∧∃N:St→Hp→Prop,(∀σ' H',N σ' H'→∃m',m'<m∧W (i+1) m' σ' H')∧∀x H',J.yld i H x H'→g x σ H' λσ2 H2=>tb {D with nx:=N,ct:=N,bk:=D.nx} σ2 H2)
def Mw(fp:List A7)(h:AM):List (A7×Obj):=fp.filterMap λb=>(h.get? b).map λo=>(b,o)
theorem wG{fp:List A7}{h:AM}{b:A7}{o:Obj}(hb:b∈fp)(e:h.get? b=ND o):(b,o)∈Mw fp h:=i4.mpr ⟨b,hb,by rw[e];rfl⟩
theorem lg{fp:List A7}{h:AM}{p:A7×Obj}(hp:p∈Mw fp h):p.1∈fp∧h.get? p.1=ND p.2:=by
 obtain⟨b,hb,e⟩:=i4.mp hp;cases q:h.get? b with
 | none=>rw[q]at e;cases e
 | some o=>rw[q]at e;have e':(b,o)=p:=F1 e;subst e';exact⟨hb,q⟩
theorem Inv.pinned{pins:List (A7×Obj)}{σ:St}{H:Hp}{s:A8}{fp:List A7}(I:Inv X pins σ H s)(hf:∀b∈fp,Wx X pins H b)(ho:∀b∈fp,∃o,s.heap.get? b=ND o∧∀v,o.data≠.cell v):Inv X (pins++Mw fp s.heap) σ H s:=
 I.ZR λp hp=>(G0.mp hp).elim (λz=>I.pin p (F0 _ z)) λz=>by obtain⟨hb,e⟩:=lg z;obtain⟨f0,f1,f2,_⟩:=hf p.1 hb;obtain⟨o,e',d⟩:=ho p.1 hb;rw[e]at e';cases e';exact⟨e,f0,f1,f2,d⟩
theorem Inv.Fb{pins pl:List (A7×Obj)}{σ:St}{H:Hp}{s:A8}(I:Inv X (pins++pl) σ H s):Inv X pins σ H s:=I.ZR λp hp=>I.pin p (F0 _ (G6 _ hp))
theorem Wz{iter:AD}{body:List AH}{wi:TI}{g:TG}{tb:TS}{pos:Pos}(hp:Dx (AG X.prog X.w) X.A X.env X.xe)(hc:X.calm=NG)(hi:PI X tg iter wi)(hg:PG X tg g)(hb:DN X body tb)
  (hs:∀x,B3 iter X.env x=pure x:=by intro _;rfl):PS X (.For tg iter body [] pos) (Wy wi g tb):=by
 intro pins s σ H D I h;refine wpAny_For (iM (hi pins s σ H _ I h) λv s1 h1=>iM h1 λitv s2 h2=>?_) hs;obtain⟨it,fp,tn,J,H2,e,I2,T,st2,f2,W,⟨m0,w0⟩,turn⟩:=h2;subst e;have stat:∀{H':Hp},(∀b∈fp,H' b=none)→∀b∈fp,Wx X pins H' b:=λhn b hb=>⟨hn b hb,(f2 b hb).2⟩
 refine codeAny_forLoop_any (λn s'=>∃i σ' H',Inv X pins σ' H' s'∧tn i s'.heap∧(∀b∈fp,H' b=none)∧W i n σ' H') ?_ m0 ⟨0,σ,H2,I2,st2,λb hb=>(f2 b hb).1,w0⟩;rintro n s3 ⟨i,σ3,H3,I3,st3,fr3,w3⟩;rcases turn i n σ3 H3 w3 with ⟨stop,qn⟩ | ⟨go,N,hN,step⟩
 ·refine BQ hp (iM (T.done X U U U hc i pins s3 σ3 H3 X.xe I3 (stat fr3) st3 stop) λr s4 ⟨hr,I4⟩=>?_);subst hr;exact EB ⟨σ3,H3,I4,qn⟩
 ·refine BQ hp (iM (T.item X U U U hc i pins s3 σ3 H3 X.xe I3 (stat fr3) st3 go) λr s4 ⟨u,hr,h4⟩=>?_);subst hr;refine BQ hp (iM h4 λ_ s5 ⟨x,H5,I5,r5,y5,st5,fr5⟩=>?_);have I5':=I5.pinned (stat fr5) (T.obj _ _ st5);refine BQ hp (iM (hg _ s5 σ3 H5 x u _ I5' r5 (step x H5 y5)) λ_ s6 ⟨σ6,H6,I6,q6⟩=>?_);refine BQ hp (iM (hb _ s6 σ6 H6 _ I6 q6) λf s7 q7=>?_);have again:∀{σ7:St} {H7:Hp},Inv X (pins++Mw fp s5.heap) σ7 H7 s7→N σ7 H7→∃m,m<n∧∃i σ' H',Inv X pins σ' H' s7∧tn i s7.heap∧(∀b∈fp,H' b=none)∧W i m σ' H':=λ{σ7 H7} I7 n7=>by obtain⟨m',hm,w7⟩:=hN σ7 H7 n7;refine⟨m',hm,i+1,σ7,H7,I7.Fb,T.keep _ _ _ st5 λb hb o e=>(I7.pin (b,o) (F0 _ (F0 _ (wG hb e)))).1,λb hb=>?_,w7⟩;obtain⟨o,e,d⟩:=T.obj _ _ st5 b hb;exact(I7.pin (b,o) (F0 _ (F0 _ (wG hb e)))).2.1
  cases f with
  | next=>obtain⟨σ7,H7,I7,n7⟩:=q7;exact again I7 n7
  | cont=>obtain⟨σ7,H7,I7,n7⟩:=q7;exact again I7 n7
  | brk=>obtain⟨σ7,H7,I7,q7⟩:=q7;exact⟨σ7,H7,I7.Fb,q7⟩
  | ret v=>obtain⟨x7,σ7,H7,I7,r7,q7⟩:=q7;exact⟨x7,σ7,H7,I7.Fb,r7,q7⟩
end
end L2
namespace L2
open PySem PySem.Spec PyProof.Rows
abbrev R2:=V→V→Hp→VK→Prop
def uM(X:Cx)(f:A6→A6→Sem A6)(r:R2):Prop:=
 ∀(pins:List (A7×Obj))(s:A8)(σ:St)(H:Hp)(x y:V)(v u:A6)(Q:VK),Inv X pins σ H s→RelV x v→RelV y u→r x y H Q →
  AF (AG X.prog X.w) X.A (f v u) (EP X pins σ Q) X.xe s
def UnR(X:Cx)(f:A6→Sem A6)(r:V→Hp→VK→Prop):Prop:=
 ∀(pins:List (A7×Obj))(s:A8)(σ:St)(H:Hp)(x:V)(v:A6)(Q:VK),Inv X pins σ H s→RelV x v→r x H Q →
  AF (AG X.prog X.w) X.A (f v) (EP X pins σ Q) X.xe s
def mZ(X:Cx)(f:A6)(r:List V→Hp→VK→Prop):Prop:=
 ∀(pins:List (A7×Obj))(s:A8)(σ:St)(H:Hp)(xs:List V)(us:List A6)(Q:VK),Inv X pins σ H s→Vals xs us→r xs H Q →
  AF (AG X.prog X.w) X.A (call f us) (EP X pins σ Q) X.xe s
def DR(r:R2)(ta tb:TE):TE:=λσ H Q=>ta σ H λx H1=>tb σ H1 λy H2=>r x y H2 Q
def tUn(r:V→Hp→VK→Prop)(ta:TE):TE:=λσ H Q=>ta σ H λx H1=>r x H1 Q
def rI(C:Int→Int→Prop)(g:Int→Int→V):R2:=λx y H Q=>∃i j,x=.int i∧y=.int j∧C i j∧Q (g i j) H
def lq(g:Int→Int→V):R2:=λx y H Q=>∃i j,x=.int i∧y=.int j∧Q (g i j) H
def rU(g:Int→V):V→Hp→VK→Prop:=λx H Q=>∃i,x=.int i∧Q (g i) H
section
variable{X:Cx}{a b c:AD}{ta tb tc:TE}{pos:Pos}
theorem aFl(ha:PE X a ta)(hb:PE X b tb){pins:List (A7×Obj)}{s:A8}{σ:St}{H:Hp}{R:V→V→Hp→Prop}(I:Inv X pins σ H s)
  (h:ta σ H λx H1=>tb σ H1 λy H2=>R x y H2) {Q:A6→A8→Prop} {f:A6→A6→Sem A6}
  (hf:∀v u s2 x y H2,Inv X pins σ H2 s2→RelV x v→RelV y u→R x y H2→AF (AG X.prog X.w) X.A (f v u) Q X.xe s2) :
  AF (AG X.prog X.w) X.A (AO a X.env) (λv s₁=>AF (AG X.prog X.w) X.A (AO b X.env) (λu s₂=>AF (AG X.prog X.w) X.A (f v u) Q X.xe s₂) X.xe s₁) X.xe s:=by
 refine iM (ha pins s σ H _ I h) λv s1 ⟨x,H1,I1,r1,q1⟩=>?_;refine iM (hb pins s1 σ H1 _ I1 q1) λu s2 ⟨y,H2,I2,r2,q2⟩=>?_;exact hf v u s2 x y H2 I2 r1 r2 q2
theorem aHy{op:Operator}{r:R2}(ho:uM X (DI op) r)(ha:PE X a ta)(hb:PE X b tb):PE X (.BinOp a op b pos) (DR r ta tb):=by intro pins s σ H Q I h;exact wpAny_BinOp (aFl ha hb I h λv u s2 x y H2 I2 rx ry q=>ho pins s2 σ H2 x y v u Q I2 rx ry q)
theorem aHz{op:UnaryOp}{r:V→Hp→VK→Prop}(ho:UnR X (unaryOp op) r)(ha:PE X a ta):PE X (.UnaryOp op a pos) (tUn r ta):=by intro pins s σ H Q I h;exact UnaryOp_ (iM (ha pins s σ H _ I h) λv s1 ⟨x,H1,I1,r1,q1⟩=>ho pins s1 σ H1 x v Q I1 r1 q1)
theorem opI{f:A6→A6→Sem A6}{C:Int→Int→Prop}{g:Int→Int→Int}
  (rule:∀(i j:Int)(t u:Tok)(s:A8)(Q:A6→A8→Prop)(E:A6→A8→Prop),C i j→Q (.int (g i j) s.toks) {s with toks:=s.toks+1}→AF (AG X.prog X.w) X.A (f (.int i t) (.int j u)) Q E s) :
  uM X f (rI C λi j=>.int (g i j)):=by
 intro pins s σ H x y v u Q I rx ry h;obtain⟨i,j,rfl,rfl,hc,q⟩:=h;obtain⟨t,rfl⟩:=rx;obtain⟨t',rfl⟩:=ry;exact rule i j t t' s _ _ hc ⟨.int (g i j),H,I.tok _,⟨_,U⟩,q⟩
theorem aHA{f:A6→A6→Sem A6}{g:Int→Int→Int}
  (rule:∀(i j:Int)(t u:Tok)(s:A8)(Q:A6→A8→Prop)(E:A6→A8→Prop),Q (.int (g i j) s.toks) {s with toks:=s.toks+1}→AF (AG X.prog X.w) X.A (f (.int i t) (.int j u)) Q E s) :
  uM X f (lq λi j=>.int (g i j)):=by
 intro pins s σ H x y v u Q I rx ry h;obtain⟨i,j,rfl,rfl,q⟩:=h;obtain⟨t,rfl⟩:=rx;obtain⟨t',rfl⟩:=ry;exact rule i j t t' s _ _ ⟨.int (g i j),H,I.tok _,⟨_,U⟩,q⟩
theorem aCv{f:A6→A6→Sem A6}{g:Int→Int→Bool}
  (rule:∀(i j:Int)(t u:Tok)(s:A8)(Q:A6→A8→Prop)(E:A6→A8→Prop),Q (.bool (g i j)) s→AF (AG X.prog X.w) X.A (f (.int i t) (.int j u)) Q E s) :
  uM X f (lq λi j=>.bl (g i j)):=by
 intro pins s σ H x y v u Q I rx ry h;obtain⟨i,j,rfl,rfl,q⟩:=h;obtain⟨t,rfl⟩:=rx;obtain⟨t',rfl⟩:=ry;exact rule i j t t' s _ _ ⟨.bl (g i j),H,I,U,q⟩
def lr(i j:Int):Prop:=0<j∧j<1073741824
def lu(i j:Int):Prop:=0≤j∧j≤1000000∧i.natAbs<2 ^ 64
def Rr(i j:Int):Prop:=(-(2 ^ 64)<i∧i<2 ^ 64)∨(-(2 ^ 64)<j∧j<2 ^ 64)
theorem Rr.ok{i j:Int}(h:Rr i j):IntMulOk i j:=by
 rcases h with ⟨h1,h2⟩ | ⟨h1,h2⟩
 ·exact .of_left (KO h1 h2)
 ·exact .of_right (KO h1 h2)
theorem aFm:uM X (DI .Add) (lq λi j=>.int (i+j)):=aHA λ_ _ _ _ _ _ _ q=>add_int q
theorem aFn:uM X (DI .Sub) (lq λi j=>.int (i-j)):=aHA λ_ _ _ _ _ _ _ q=>sub_int q
theorem aFo:uM X (DI .Mult) (rI Rr λi j=>.int (i*j)):=opI λ_ _ _ _ _ _ _ hc q=>mul_int q hc.ok
theorem aCw:uM X (DI .FloorDiv) (rI lr λi j=>.int (i/j)):=opI λi j _ _ _ _ _ hc q=>by have h1:(0:Int)<j:=hc.1;have h2:j<1073741824:=hc.2;exact floordiv_int (by omega) (by rw[Int.fdiv_eq_ediv_of_nonneg i (by omega)];exact q) (.inl (PyProof.noPylong_small (by omega)))
theorem aFp:uM X (DI .Mod) (rI (λ_ j=>0<j) λi j=>.int (i%j)):=opI λi j _ _ _ _ _ hc q=>by have h1:(0:Int)<j:=hc;exact mod_int' (by omega) (by rw[Int.fmod_eq_emod_of_nonneg i (by omega)];exact q)
theorem aFq:uM X (DI .Pow) (rI lu λi j=>.int (i ^ j.toNat)):=opI λ_ _ _ _ _ _ _ hc q=>pow_int_small hc.1 hc.2.1 hc.2.2 q
theorem unI{f:A6→Sem A6}{g:Int→Int}
  (rule:∀(i:Int)(t:Tok)(s:A8)(Q:A6→A8→Prop)(E:A6→A8→Prop),Q (.int (g i) s.toks) {s with toks:=s.toks+1}→AF (AG X.prog X.w) X.A (f (.int i t)) Q E s) :
  UnR X f (rU λi=>.int (g i)):=by
 intro pins s σ H x v Q I rx h;obtain⟨i,rfl,q⟩:=h;obtain⟨t,rfl⟩:=rx;exact rule i t s _ _ ⟨.int (g i),H,I.tok _,⟨_,U⟩,q⟩
theorem aFr:UnR X (unaryOp .USub) (rU λi=>.int (-i)):=unI λ_ _ _ _ _ q=>neg_int q
end
def lz:V→V→Bool
  | .non,.non=>NG | .non,.int _=>NG | .int _,.non=>NG | .non,.bl _=>NG | .bl _,.non=>NG | .non,.str _=>NG | .str _,.non=>NG
  | .int _,.int _=>NG | .bl _,.bl _=>NG | .str _,.str _=>NG | .byt _,.byt _=>NG
  | .int _,.str _=>NG | .str _,.int _=>NG | .bl _,.str _=>NG | .str _,.bl _=>NG
  | _,_=>NH
def rEq:R2:=λx y H Q=>lz x y=NG∧Q (.bl (decide (x=y))) H
def rNe:R2:=λx y H Q=>lz x y=NG∧Q (.bl (!decide (x=y))) H
theorem ZX{i j:Int}:decide (V.int i=V.int j)=(i==j):=by rw[N3];simp
theorem yw{i j:Bool}:decide (V.bl i=V.bl j)=(i==j):=by rw[N3];simp
theorem Xa{i j:Str}:decide (V.str i=V.str j)=(i==j):=by rw[N3];simp
theorem ZZ{i j:Array UInt8}:decide (V.byt i=V.byt j)=(i.toList==j.toList):=by rw[N3];cases i;cases j;simp
section
variable{X:Cx}{a b c:AD}{ta tb tc:TE}{pos:Pos}
theorem dC{pins:List (A7×Obj)}{σ:St}{H:Hp}{s:A8}{Q:VK}{k k':Bool}(I:Inv X pins σ H s)(q:Q (.bl k) H)(e:k=k'):EP X pins σ Q (.bool k') s:=by subst e;exact⟨.bl k,H,I,U,q⟩
theorem aHB:uM X (AS .Eq) rEq:=by
 intro pins s σ H x y v u Q I rx ry h;obtain⟨hs,q⟩:=h;cases x with
 | non=>
  cases rx;cases y with
  | non=>cases ry;exact PySem.EqNone.eq_none_none (dC I q (by simp))
  | bl j=>cases ry;exact PySem.EqNone.eq_none_bool (dC I q (by simp))
  | int j=>obtain⟨t',rfl⟩:=ry;exact PySem.EqNone.eq_none_int (dC I q (by simp))
  | str j=>obtain⟨t',rfl⟩:=ry;exact PySem.EqNone.eq_none_str (dC I q (by simp))
  | _=>exact absurd (show NH=NG from hs) E2
 | bl i=>
  cases rx;cases y with
  | non=>cases ry;exact PySem.EqNone.eq_bool_none (dC I q (by simp))
  | bl j=>cases ry;exact eq_bool (dC I q yw)
  | str j=>obtain⟨t',rfl⟩:=ry;exact PySem.EqMixed.eq_bool_str (dC I q (by simp))
  | _=>exact absurd (show NH=NG from hs) E2
 | int i=>
  obtain⟨t,rfl⟩:=rx;cases y with
  | non=>cases ry;exact PySem.EqNone.eq_int_none (dC I q (by simp))
  | int j=>obtain⟨t',rfl⟩:=ry;exact eq_int (dC I q ZX)
  | str j=>obtain⟨t',rfl⟩:=ry;exact PySem.EqMixed.eq_int_str (dC I q (by simp))
  | _=>exact absurd (show NH=NG from hs) E2
 | str i=>
  obtain⟨t,rfl⟩:=rx;cases y with
  | non=>cases ry;exact PySem.EqNone.eq_str_none (dC I q (by simp))
  | bl j=>cases ry;exact PySem.EqMixed.eq_str_bool (dC I q (by simp))
  | int j=>obtain⟨t',rfl⟩:=ry;exact PySem.EqMixed.eq_str_int (dC I q (by simp))
  | str j=>obtain⟨t',rfl⟩:=ry;exact eq_str (dC I q Xa)
  | _=>exact absurd (show NH=NG from hs) E2
 | byt i=>
  obtain⟨t,rfl⟩:=rx;cases y with
  | byt j=>obtain⟨t',rfl⟩:=ry;exact PySem.W.eq_bytes (dC I q ZZ)
  | _=>exact absurd (show NH=NG from hs) E2
 | _=>cases y<;>exact absurd (show NH=NG from hs) E2
theorem aHC:uM X (AS .NotEq) rNe:=by
 intro pins s σ H x y v u Q I rx ry h;obtain⟨hs,q⟩:=h;cases x with
 | non=>
  cases rx;cases y with
  | non=>cases ry;exact PySem.EqNone.ne_none_none (dC I q (by simp))
  | bl j=>cases ry;exact PySem.EqNone.ne_none_bool (dC I q (by simp))
  | int j=>obtain⟨t',rfl⟩:=ry;exact PySem.EqNone.ne_none_int (dC I q (by simp))
  | str j=>obtain⟨t',rfl⟩:=ry;exact PySem.EqNone.ne_none_str (dC I q (by simp))
  | _=>exact absurd (show NH=NG from hs) E2
 | bl i=>
  cases rx;cases y with
  | non=>cases ry;exact PySem.EqNone.ne_bool_none (dC I q (by simp))
  | bl j=>cases ry;exact ne_bool (dC I q (congrArg not yw))
  | str j=>obtain⟨t',rfl⟩:=ry;exact PySem.EqMixed.ne_bool_str (dC I q (by simp))
  | _=>exact absurd (show NH=NG from hs) E2
 | int i=>
  obtain⟨t,rfl⟩:=rx;cases y with
  | non=>cases ry;exact PySem.EqNone.ne_int_none (dC I q (by simp))
  | int j=>obtain⟨t',rfl⟩:=ry;exact ne_int (dC I q (congrArg not ZX))
  | str j=>obtain⟨t',rfl⟩:=ry;exact PySem.EqMixed.ne_int_str (dC I q (by simp))
  | _=>exact absurd (show NH=NG from hs) E2
 | str i=>
  obtain⟨t,rfl⟩:=rx;cases y with
  | non=>cases ry;exact PySem.EqNone.ne_str_none (dC I q (by simp))
  | bl j=>cases ry;exact PySem.EqMixed.ne_str_bool (dC I q (by simp))
  | int j=>obtain⟨t',rfl⟩:=ry;exact PySem.EqMixed.ne_str_int (dC I q (by simp))
  | str j=>obtain⟨t',rfl⟩:=ry;exact ne_str (dC I q (congrArg not Xa))
  | _=>exact absurd (show NH=NG from hs) E2
 | byt i=>
  obtain⟨t,rfl⟩:=rx;cases y with
  | byt j=>obtain⟨t',rfl⟩:=ry;exact PySem.W.ne_bytes (dC I q (congrArg not ZZ))
  | _=>exact absurd (show NH=NG from hs) E2
 | _=>cases y<;>exact absurd (show NH=NG from hs) E2
theorem Mx:uM X (AS .Lt) (lq λi j=>.bl (decide (i<j))):=aCv λ_ _ _ _ _ _ _ q=>lt_int q
theorem yx:uM X (AS .LtE) (lq λi j=>.bl (decide (i≤j))):=aCv λ_ _ _ _ _ _ _ q=>le_int q
theorem aHD:uM X (AS .Gt) (lq λi j=>.bl (decide (j<i))):=aCv λ_ _ _ _ _ _ _ q=>gt_int q
theorem aHE:uM X (AS .GtE) (lq λi j=>.bl (decide (j≤i))):=aCv λ_ _ _ _ _ _ _ q=>ge_int q
theorem RN:uM X (AS .Is) (λx y H Q=>y=.non∧Q (.bl (decide (x=.non))) H):=by
 intro pins s σ H x y v u Q I rx ry h;obtain⟨rfl,q⟩:=h;cases ry;refine is_none_gen (dC I q ?_);cases x<;>first
  | (cases rx;rfl)
  | (obtain⟨t,rfl⟩:=rx;rfl)
theorem aj:uM X (AS .IsNot) (λx y H Q=>y=.non∧Q (.bl (!decide (x=.non))) H):=by
 intro pins s σ H x y v u Q I rx ry h;obtain⟨rfl,q⟩:=h;cases ry;refine isnot_none_gen (dC I q ?_);cases x<;>first
  | (cases rx;rfl)
  | (obtain⟨t,rfl⟩:=rx;rfl)
theorem uM.or{f:A6→A6→Sem A6}{r r':R2}(h:uM X f r)(h':uM X f r'):uM X f (λx y H Q=>r x y H Q∨r' x y H Q):=by
 intro pins s σ H x y v u Q I rx ry q;rcases q with q | q
 ·exact h pins s σ H x y v u Q I rx ry q
 ·exact h' pins s σ H x y v u Q I rx ry q
theorem dO(b:AD){op:EH}(h:op≠.In:=by decide)(h2:op≠.NotIn:=by decide):behindInMarks op b=NH:=by
 have e1:(op==CmpOp.In)=NH:=by cases op<;>first | rfl | exact absurd U h
 have e2:(op==CmpOp.NotIn)=NH:=by cases op<;>first | rfl | exact absurd U h2
 cases b<;>simp[behindInMarks,e1,e2]
theorem aCx{op:EH}{r:R2}(ho:uM X (AS op) r)(ha:PE X a ta)(hb:PE X b tb)(hm:behindInMarks op b=NH):PE X (.Compare a [op] [b] pos) (DR r ta tb):=by intro pins s σ H Q I h;exact JE (aFl ha hb I h λv u s2 x y H2 I2 rx ry q=>ho pins s2 σ H2 x y v u Q I2 rx ry q) hm
def DW(t:TE):TT:=λσ H Q=>t σ H λx H'=>∃k,x=.bl k∧Q k H'
theorem aCy{op:EH}{r:R2}(ho:uM X (AS op) r)(ha:PE X a ta)(hb:PE X b tb)(hm:behindInMarks op b=NH):PT X (.Compare a [op] [b] pos) (DW (DR r ta tb)):=by
 intro pins s σ H Q I h;refine Fh (iM (ha pins s σ H _ I h) λv s1 ⟨x,H1,I1,r1,q1⟩=>iM (hb pins s1 σ H1 _ I1 q1) λu s2 ⟨y,H2,I2,r2,q2⟩=>
  iM (ho pins s2 σ H2 x y v u _ I2 r1 r2 q2) λc s3 ⟨z,H3,I3,r3,k,e,q3⟩=>?_) hm
 subst e;cases r3;exact BH ⟨H3,I3,q3⟩
def yz(r r':R2)(ta tb tc:TE):TE:=λσ H Q=>ta σ H λx H1=>tb σ H1 λy H2=>r x y H2 λz H3=>∃k,z=.bl k ∧
 (if k=NG then tc σ H3 λw' H4=>r' y w' H4 Q else Q (.bl NH) H3)
theorem zb{op op':EH}{r r':R2}(ho:uM X (AS op) r)(ho':uM X (AS op') r')(ha:PE X a ta)(hb:PE X b tb)(hc:PE X c tc)
  (hm:lastMarks [op,op'] [b,c]=NH:=by with_unfolding_all rfl):PT X (.Compare a [op,op'] [b,c] pos) (DW (yz r r' ta tb tc)):=by
 intro pins s σ H Q I h;refine isTrue_chain (iM (ha pins s σ H _ I h) λv s1 ⟨x,H1,I1,r1,q1⟩=>test_link (iM (hb pins s1 σ H1 _ I1 q1) λu s2 ⟨y,H2,I2,r2,q2⟩=>
  iM (ho pins s2 σ H2 x y v u _ I2 r1 r2 q2) λd s3 ⟨z,H3,I3,r3,k,e,q3⟩=>?_)) hm
 subst e;cases r3;refine BH ?_;cases k with
 | false=>
  obtain⟨k',e',q'⟩:=q3;cases e';exact ite_ff ⟨H3,I3,q'⟩
 | true=>refine ite_tt (test_last (iM (hc pins s3 σ H3 _ I3 q3) λw' s4 ⟨z',H4,I4,r4,q4⟩=>iM (ho' pins s4 σ H4 y z' u w' _ I4 r2 r4 q4) λd' s5 ⟨z2,H5,I5,r5,k2,e2,q5⟩=>?_));subst e2;cases r5;exact BH ⟨H5,I5,q5⟩
theorem My:(sizeLine:Nat)<2 ^ 63:=by rw[FU];decide
theorem vals1{x:V}{us:List A6}(r:Vals [x] us):∃u,us=[u]∧RelV x u:=by
 cases r with
 | cons r1 r2=>cases r2;exact⟨_,U,r1⟩
theorem vals2{x y:V}{us:List A6}(r:Vals [x,y] us):∃u w',us=[u,w']∧RelV x u∧RelV y w':=by
 cases r with
 | cons r1 r2=>
  cases r2 with
  | cons r3 r4=>cases r4;exact⟨_,_,U,r1,r3⟩
theorem mj(hc:X.calm=NG):mZ X (.builtin "max") (λxs H Q=>∃i j,xs=[.int i,.int j]∧Q (.int (if j > i then j else i)) H):=by
 intro pins s σ H xs us Q I r h;obtain⟨i,j,rfl,q⟩:=h;obtain⟨u,w',rfl,⟨t,rfl⟩,⟨t',rfl⟩⟩:=vals2 r;refine max_two_ints (I.ok.hd hc) λh' tk k=>⟨_,H,I.kept k,?_,q⟩
 by_cases hj:j > i
 ·rw[if_pos hj,if_pos hj];exact⟨_,U⟩
 ·rw[if_neg hj,if_neg hj];exact⟨_,U⟩
end
end L2
namespace L2
open PySem PySem.Spec PyProof.Rows
structure RP(h:AM)(x dx C:A7)(mA:Str→Option A6):Prop where
 obj:h.get? x=ND (O2 C dx)
 ns:h.Ns1 dx mA
 ne:dx≠x
theorem mq{h:AM}{dx:A7}{mA:Str→Option A6}(n:h.Ns1 dx mA):∃od,h.get? dx=ND od∧∀name,W4 name od=ND (mA name):=by
 obtain⟨o,es,ep,ho,hd,hk,_,hm⟩:=n;refine⟨o,ho,λname=>?_⟩;have e:=hm name;unfold nsFind findBy at e;rw[←Array.find?_toList]at e;unfold W4;rw[hd];dsimp only;split
 ·rename_i y q;rw[q]at e;exact congrArg ND e
 ·rename_i q;rw[q]at e;have a:es.toList.any (·.refKey)=NH:=by rw[List.any_eq_false];intro y hy;obtain⟨z,t,hkey⟩:=hk y (Array.mem_toList_iff.mp hy);simp[MV,hkey]
  have a':¬es.toList.any (·.refKey)=NG:=by rw[a];exact E2
  rw[if_neg a'];exact congrArg ND e
theorem RP.look{h:AM}{x dx C:A7}{mA:Str→Option A6}(I:RP h x dx C mA):∃od,PySem.W.InstAt h x (O2 C dx) C (ND od)∧∀name,W4 name od=ND (mA name):=
 let ⟨od,ho,hl⟩:=mq I.ns
 ⟨od,⟨I.obj,U,U,ho⟩,hl⟩
section
variable{prog:AI}{w:AL}{A:AN}{E:A6→A8→Prop}{s:A8}{K:aF}{x dx C f:A7}{mA:Str→Option A6}{name:Str}{v:A6}
theorem get_map{expr:Bool}{Q:A6→A8→Prop}(X:K.In s.heap)(I:RP s.heap x dx C mA)(hg:R6 K C name=NG)(hh:T5 K C=NG)
  (ha:F8 K (.ref C) name=ND none) (hv:mA name=ND v) (hv':l3 v=NG) (h:Q v {s with toks:=s.toks+1}) :
  AF (AG prog w) A (getAttr (.ref x) name expr) Q E s:=by
 obtain⟨od,J,hl⟩:=I.look;exact PySem.W.get_value X J (W0 hg).1 (PySem.W.findObj_own hh ha U (by rw[hl,hv])) hv' h
theorem zc{pl:Sem Bool}{Q:A6×List A6→A8→Prop}(X:K.In s.heap)(I:RP s.heap x dx C mA)(hg:R6 K C name=NG)
  (hf:F8 K (.ref C) name=ND (ND (.ref f))) (ht:P9 K (.ref f)=NG) (hv:mA name=none) (h:Q (.ref f,[.ref x]) s) :
  AF (AG prog w) A (DJ (.ref x) name pl) Q E s:=by
 obtain⟨od,J,hl⟩:=I.look;exact PySem.W.method_fn X J (W0 hg).1 (W0 hg).2 hf (beq_iff_eq.mp ht) (by show (W4 name od).map (·.isSome)=ND NH;rw[hl,hv];rfl) h
theorem aCz{ns:List Str}{Q:Unit→A8→Prop}(X:K.In s.heap)(I:RP s.heap x dx C mA)
  (hs:F8 K (.ref C) "__setattr__" = ND (ND (.builtin "object.__setattr__"))) (hp:X3 K C=NG) (ht:Z9 K C name=ND none) (hh:T5 K C=NG)
  (hw:i3 mA ns) (hsz:ns.length≤sizeLine)
  (h:∀h',RP h' x dx C (λy=>if y=name then ND v else mA y)→BG dx s.heap h'→Q () {s with heap:=h',toks:=s.toks+2}) :
  AF (AG prog w) A (setAttr (.ref x) name v) Q E s:=by
 obtain⟨od,J,hl⟩:=I.look;refine PySem.W.set_plain X J hs (PySem.W.osa_open (s:={s with toks:=s.toks+1}) (r:=none) X J hp ht λb=>?_);obtain⟨cd,hc,hd'⟩:=PySem.W.any_some hh;have hx:s.heap.get? x=ND ⟨.ref C,ND dx,.plain,#[]⟩:=I.obj;refine A9 (AE (A9 (A9 (wpAny_loadPart hx (A9 (PySem.W.Looks.here (s:={s with toks:=s.toks+1}) (PySem.W.looks_clsIn X hc) ?_))))));rw[hd'];refine AE (a:=ND dx) (A9 (AE (A9 ?_)));refine wpAny_nsSet1 (s:={s with toks:=s.toks+1}) I.ns λh' hn2 hs2=>?_;obtain⟨oD,esD,epD,hoD,hdD,hcD⟩:=hn2.count (PySem.Within.cons name v hw);refine A9 (wpAny_lookBehind hoD (by rw[hdD];exact pastItsLine_dict (G1 hcD (by rw[D8];omega))) ?_);exact AE (h _ ⟨(hs2.2 _ (Ne.symm I.ne)).trans I.obj,hn2,I.ne⟩ hs2)
theorem zf{R:Ee→A8→Prop}{vs:List A6}{kw:List (Str×A6)}(X:K.In s.heap)(hm:V1 K C=NG)
  (hi:F8 K (.ref C) "__init__" = ND (ND (.ref f))) (hf:o8 K (.ref f)=ND (.type "function"))
  (h:CH (AG prog w) (A.under (.builtin "type.__call__" ⟨.ref C::vs,kw⟩)) (.call (.ref f) ⟨.ref (s.heap.objs.size+1)::vs,kw⟩) (PySem.W.InitBack (s.heap.objs.size+1) R)
   {s with heap:=(s.heap.push M4).push (O2 C s.heap.objs.size)}) :
  CH (AG prog w) A (.call (.ref C) ⟨vs,kw⟩) R s:=by
 obtain⟨hh,g,d,t,os⟩:=s;exact PySem.W.make_core (PySem.W.makes_of X hm) (PySem.W.looks_findIn X hi) (λself=>PySem.W.bind_fn X self hf) (.inl U) h
end
def yE(f:Str)(v:V):List (Str×V)→List (Str×V)
 | []=>[(f,v)]
 | (g,x)::r=>if g=f then(g,v)::r else(g,x)::yE f v r
theorem Jv(f g:Str)(v:V):∀fs:List (Str×V),(yE f v fs).lookup g=if g=f then ND v else fs.lookup g
 | []=>by
  show R7 g [(f,v)]=_;by_cases h:g=f
  ·have hb:(g==f)=NG:=beq_iff_eq.mpr h;simp only[R7,hb,if_pos h]
  ·have hb:(g==f)=NH:=beq_eq_false_iff_ne.mpr h;simp only[R7,hb,if_neg h]
 | (k,x)::r=>by
  have ih:=Jv f g v r;rw[show yE f v ((k,x)::r)=(if k=f then(k,v)::r else(k,x)::yE f v r)from rfl];by_cases hk:k=f
  ·rw[if_pos hk];by_cases h:g=k
   ·have hb:(g==k)=NG:=beq_iff_eq.mpr h;simp only[R7,hb,if_pos (h.trans hk)]
   ·have hb:(g==k)=NH:=beq_eq_false_iff_ne.mpr h;simp only[R7,hb,if_neg (λe:g=f=>h (e.trans hk.symm))]
  ·rw[if_neg hk];by_cases h:g=k
   ·have hb:(g==k)=NG:=beq_iff_eq.mpr h;simp only[R7,hb,if_neg (λe:g=f=>hk (h.symm.trans e))]
   ·have hb:(g==k)=NH:=beq_eq_false_iff_ne.mpr h;simp only[R7,hb];exact ih
theorem Hv(f:Str)(v:V):∀fs:List (Str×V),f∈(yE f v fs).map (·.1)∧∀g,g∈fs.map (·.1)→g∈(yE f v fs).map (·.1)
 | []=>⟨by simp[yE],λg h=>by simp at h⟩
 | (k,x)::r=>by
  obtain⟨i1,i2⟩:=Hv f v r;rw[show yE f v ((k,x)::r)=(if k=f then(k,v)::r else(k,x)::yE f v r)from rfl];by_cases hk:k=f
  ·rw[if_pos hk];subst hk;exact⟨by simp,λg h=>by simpa using h⟩
  ·rw[if_neg hk];refine⟨?_,λg h=>?_⟩
   ·rw[D5];exact C6 _ i1
   ·rw[D5]at h ⊢;rcases C5.mp h with e | e
    ·exact C5.mpr (.inl e)
    ·exact C6 _ (i2 g e)
theorem Jw(f:Str)(v:V):∀fs:List (Str×V),(yE f v fs).length≤fs.length+1
 | []=>by simp[yE]
 | (k,x)::r=>by
  have ih:=Jw f v r;rw[show yE f v ((k,x)::r)=(if k=f then(k,v)::r else(k,x)::yE f v r)from rfl];by_cases hk:k=f
  ·rw[if_pos hk,D8,D8];omega
  ·rw[if_neg hk,D8,D8];omega
theorem yD.some_of{v:V}{o:Option A6}(r:yD (ND v) o):∃u,o=ND u∧RelV v u:=by
 cases o with
 | none=>exact(show False from r).elim
 | some u=>exact⟨u,U,r⟩
theorem yD.none_of{o:Option A6}(r:yD none o):o=none:=by
 cases o with
 | none=>rfl
 | some u=>exact(show False from r).elim
theorem my{v:V}{u:A6}(r:RelV v u):l3 u=NG:=by
 cases v with
 | non=>cases(show u=B5 from r);rfl
 | bl b=>cases(show u=DA b from r);rfl
 | int i=>obtain⟨t,e⟩:=(show ∃t,u=CL i t from r);cases e;rfl
 | str x=>obtain⟨t,e⟩:=(show ∃t,u=FM x t from r);cases e;rfl
 | byt b=>obtain⟨t,e⟩:=(show ∃t,u=LU b t from r);cases e;rfl
 | flt b=>obtain⟨t,e⟩:=(show ∃t,u=ID b t from r);cases e;rfl
 | ref a=>cases(show u=AQ a from r);rfl
 | ty n=>cases(show u=Bi n from r);rfl
section
variable{P:AI}{w:AL}{H H':Hp}{h h':AM}{a C dx:A7}{fs fs':List (Str×V)}
theorem Lk(hok:Cq P w H h)(e:H a=ND (.ins C dx fs)):∃mA,RP h a dx C mA∧(∀f,yD (fs.lookup f) (mA f))∧i3 mA (fs.map (·.1))∧fs.length≤1000∧H dx=ND (.own a):=by
 obtain⟨d,z,ne,ob,mA,n,r,q⟩:=(show iV P w H h a (.ins C dx fs)from hok a _ e)
 exact⟨mA,⟨ob,n,ne⟩,r,q,z,d⟩
end
structure zg(K:aF)(C:A7):Prop where
 pg:R6 K C MH=NG
 hd:T5 K C=NG
 po:X3 K C=NG
 sa:F8 K (.ref C) "__setattr__" = ND (ND (.builtin "object.__setattr__"))
theorem zg.get{K:aF}{C:A7}(c:zg K C)(f:Str):R6 K C f=NG:=c.pg
def De(K:aF)(C:A7)(f:Str):Prop:=F8 K (.ref C) f=ND none
theorem De.taker{K:aF}{C:A7}{f:Str}(n:De K C f):Z9 K C f=ND none:=by unfold Z9;rw[show F8 K (.ref C) f=ND none from n];rfl
structure Con(K:aF)(C:A7)(f:Str)(v:V)(u:A6):Prop where
 at_:F8 K (.ref C) f=ND (ND u)
 rel:RelV v u
 get:X4 K u "__get__" = ND none
 cp:PySem.W.copiedNames.contains f=NH
structure Meth(K:aF)(C:A7)(m:Str)(f:A7):Prop where
 at_:F8 K (.ref C) m=ND (ND (.ref f))
 fn:P9 K (.ref f)=NG
 kp:K8 K (.ref f)=NG
section
variable{X:Cx}{pins:List (A7×Obj)}{σ:St}{H:Hp}{s:A8}{a C dx:A7}{fs:List (Str×V)}{f:Str}{v:V}{A:AN}{E:A6→A8→Prop}
theorem RQ{b:Bool}{Q:A6→A8→Prop}(I:Inv X pins σ H s)(e:H a=ND (.ins C dx fs))(c:zg X.K C)(n:De X.K C f)(l:fs.lookup f=ND v)
  (h:∀u s',Inv X pins σ H s'→RelV v u→Q u s'):AF (AG X.prog X.w) A (getAttr (.ref a) f b) Q E s:=by
 obtain⟨mA,O,r,_,_,_⟩:=Lk I.hok e;obtain⟨u,hu,ru⟩:=yD.some_of (v:=v) (o:=mA f) (by rw[←l];exact r f);exact get_map I.Ht O (c.get f) c.hd n hu (my ru) (h u _ (I.tok _) ru)
theorem Mz{m:Str}{g:A7}{pl:Sem Bool}{Q:A6×List A6→A8→Prop}(I:Inv X pins σ H s)(e:H a=ND (.ins C dx fs))(c:zg X.K C)(k:Meth X.K C m g)(l:fs.lookup m=none)
  (h:Q (.ref g,[.ref a]) s):AF (AG X.prog X.w) A (DJ (.ref a) m pl) Q E s:=by
 obtain⟨mA,O,r,_,_,_⟩:=Lk I.hok e;have hn:mA m=none:=yD.none_of (by rw[←l];exact r m);exact zc I.Ht O (c.get m) k.at_ k.fn hn h
theorem RT{y:V}{u:A6}{Q:Unit→A8→Prop}(I:Inv X pins σ H s)(e:H a=ND (.ins C dx fs))(c:zg X.K C)(n:De X.K C f)(hl:fs.length<1000)(ry:RelV y u)
  (h:∀s',Inv X pins σ (upd H a (.ins C dx (yE f y fs))) s'→Q () s'):AF (AG X.prog X.w) A (setAttr (.ref a) f u) Q E s:=by
 obtain⟨mA,O,r,wi,_,ho⟩:=Lk I.hok e;have hz:(fs.map (·.1)).length≤sizeLine:=by rw[B7,FU];omega
 refine aCz I.Ht O c.sa c.po n.taker c.hd wi hz λh' O' sb=>h _ ?_;have hd:∃o,h'.get? dx=ND o:=let ⟨o,_,_,e',_⟩:=O'.ns;⟨o,e'⟩;refine I.write (x:=a) (e:=dx) (by rw[e];exact True.intro) (.inr ho) (λb q hb z=>(sb.2 b hb).trans z) hd ?_;refine⟨by rw[bN O.ne];exact ho,?_,O.ne,O'.obj,_,O'.ns,λg=>?_,λg hg=>?_⟩
 ·have:=Jw f y fs;omega
 ·show yD ((yE f y fs).lookup g) (if g=f then ND u else mA g);rw[Jv];by_cases q:g=f
  ·rw[if_pos q,if_pos q];exact ry
  ·rw[if_neg q,if_neg q];exact r g
 ·by_cases q:g=f
  ·rw[q];exact(Hv f y fs).1
  ·refine(Hv f y fs).2 g (wi g λz=>hg ?_);show (if g=f then ND u else mA g)=none;rw[if_neg q];exact z
theorem Inv.made(I:Inv X pins σ H s):Inv X pins σ (upd (upd H s.heap.objs.size (.own (s.heap.objs.size+1))) (s.heap.objs.size+1) (.ins C s.heap.objs.size []))
  {s with heap:=(s.heap.push M4).push (O2 C s.heap.objs.size)}:=by
 have e1:(s.heap.push M4).get? s.heap.objs.size=ND M4:=AK s.heap U;have e2:((s.heap.push M4).push (O2 C s.heap.objs.size)).get? (s.heap.objs.size+1)=ND (O2 C s.heap.objs.size):=by
  have:=AK (s.heap.push M4) (o:=O2 C s.heap.objs.size) U
  rwa [AY]at this
 have e3:(s.heap.push M4).Ns s.heap.objs.size (λ_=>none):=⟨M4,#[],_,e1,U,(λe he=>absurd he (by simp)),λ_=>rfl⟩
 have I1:=I.laid (a:=s.heap.objs.size) (o:=.own (s.heap.objs.size+1)) (h':=s.heap.push M4) (t':=s.toks) (λb u q=>AA _ q) (D1 _) ⟨_,e1⟩;refine I1.laid (a:=s.heap.objs.size+1) (o:=.ins C s.heap.objs.size []) (t':=s.toks) (λb u q=>AA _ q) (i5 (AY _ _)) ?_;have ne:s.heap.objs.size≠s.heap.objs.size+1:=E9 (M7 _);refine⟨by rw[bN ne,cD],M3 _,ne,e2,λ_=>none,(MQ e3).at λo q=>AA _ q,λ_=>True.intro,λy hy=>absurd U hy⟩
theorem aCA{prog:AI}{w:AL}{env:Env}{e:AD}{f:Str}{pos:Pos}{s:A8}{Q:A6→A8→Prop}(hb:CI e f env (AO e env)=AO e env)
  (h:AF (AG prog w) A (AO e env) (λo s₁=>AF (AG prog w) A (getAttr o f NG) Q E s₁) E s):AF (AG prog w) A (AO (.Attribute e f pos) env) Q E s:=
 Attribute_any_ h (by rw[arm_eval_Attribute,hb])
end
def aFs(K:aF)(ta:TE)(f:Str):TE:=λσ H Q=>ta σ H λx H1=>∃a C dx fs v,x=.ref a∧H1 a=ND (.ins C dx fs)∧zg K C∧De K C f∧fs.lookup f=ND v∧Q v H1
def aFt(K:aF)(ta tv:TE)(f:Str):TS:=λD σ H=>tv σ H λy H1=>ta σ H1 λx H2=>∃a C dx fs,x=.ref a∧H2 a=ND (.ins C dx fs)∧zg K C∧De K C f∧fs.length<1000 ∧
 D.nx σ (upd H2 a (.ins C dx (yE f y fs)))
section
variable{X:Cx}{o e value:AD}{f:Str}{pos pos' tpos:Pos}{ta tv:TE}
theorem zj(he:PE X e ta)(hb:CI e f X.env (AO e X.env)=AO e X.env):PE X (.Attribute e f pos) (aFs X.K ta f):=by intro pins s σ H Q I h;refine aCA hb (iM (he pins s σ H _ I h) λu s1 ⟨x,H1,I1,rx,a,C,dx,fs,v,ex,ea,c,n,l,q⟩=>?_);subst ex;obtain rfl:u=AQ a:=rx;exact RQ I1 ea c n l λu' s2 I2 ru=>⟨v,H1,I2,ru,q⟩
theorem aFu(ha:PE X o ta)(hv:PE X value tv)(hs:Co value (ND (.Attribute o f pos')) pos.line X.env=pure NH):PS X (.Assign [.Attribute o f pos'] value pos) (aFt X.K ta tv f):=by intro pins s σ H D I h;refine plainObj_wpAny_Assign_Attribute (iM (hv pins s σ H _ I h) λu s1 ⟨y,H1,I1,ry,q⟩=>iM (ha pins s1 σ H1 _ I1 q) λov s2 ⟨x,H2,I2,rx,a,C,dx,fs,ex,ea,c,n,l,q2⟩=>?_) hs;subst ex;obtain rfl:ov=AQ a:=rx;exact RT I2 ea c n l ry λs3 I3=>⟨σ,_,I3,q2⟩
end
section
variable{X:Cx}{pins:List (A7×Obj)}{σ:St}{H:Hp}{s:A8}{A:AN}{E:A6→A8→Prop}{Q:A6→A8→Prop}{c:A6}{b:Bool}
inductive Kv(K:aF)(H:Hp):V→A6→Prop where
 | non:Kv K H .non (.type "NoneType")
 | bl (x:Bool):Kv K H (.bl x) (.type "bool")
 | int (i:Int):Kv K H (.int i) (.type "int")
 | str (x:Str):Kv K H (.str x) (.type "str")
 | flt (x:UInt64):Kv K H (.flt x) (.type "float")
 | lst {a:A7} {xs:List V} (e:H a=ND (.lst xs)):Kv K H (.ref a) (.type "list")
 | yM {a:A7} {o:Obj} {xs:List V} (e:H a=ND (.yM o (.lst xs))):Kv K H (.ref a) (.type "list")
 | tup {a:A7} {xs:List V} (e:H a=ND (.tup xs)):Kv K H (.ref a) (.type "tuple")
 | dK {a:A7} {kvs:List (Key×V)} (e:H a=ND (.dK kvs)):Kv K H (.ref a) (.type "dict")
 | dT {a:A7} {kvs:List (List Key×V)} (e:H a=ND (.dT kvs)):Kv K H (.ref a) (.type "dict")
 | ins {a C dx:A7} {fs:List (Str×V)} (e:H a=ND (.ins C dx fs)) (cl:zg K C) (ha:F8 K (.ref C) "__class__" = ND (ND (.builtin "object.__class__")))
   (hn:X4 K (.builtin "object.__class__") "__get__" = ND (ND (.builtin "getset_descriptor.__get__"))) (htk:m7 K (.builtin "object.__class__")=ND NG)
   (hm:t7 K C (.type "object")=ND NG):Kv K H (.ref a) (.ref C)
theorem Tz{x:V}{u t:A6}(I:Inv X pins σ H s)(rx:RelV x u)(ty:Kv X.K H x t)(e:K1 X.K t c=ND b)(h:∀tk,Q (.bool b) {s with toks:=tk}) :
  AF (AG X.prog X.w) A (call (.builtin "isinstance") [u,c]) Q E s:=by
 cases ty with
 | non=>cases(show u=B5 from rx);exact L0 PySem.W.kitx_none I.Ht True.intro e (λz=>nomatch z) h
 | bl y=>cases(show u=DA y from rx);exact L0 PySem.W.kitx_bool I.Ht True.intro e (λz=>nomatch z) h
 | int i=>obtain⟨t,q⟩:=(show ∃t,u=CL i t from rx);cases q;exact L0 PySem.W.kitx_int I.Ht True.intro e (λz=>nomatch z) h
 | str y=>obtain⟨t,q⟩:=(show ∃t,u=FM y t from rx);cases q;exact L0 PySem.W.kitx_str I.Ht True.intro e (λz=>nomatch z) h
 | flt y=>obtain⟨t,q⟩:=(show ∃t,u=ID y t from rx);cases q;exact L0 PySem.W.kitx_float I.Ht True.intro e (λz=>nomatch z) h
 | @lst a xs ea=>
  cases(show u=AQ a from rx)
  obtain⟨_,_,n,_,h1⟩:=(show iV X.prog X.w H s.heap a (.lst xs)from I.hok a _ ea)
  exact L0 X5 I.Ht ⟨_,h1,rfl⟩ e (λz=>nomatch z) h
 | @yM a ob xs ea=>
  cases(show u=AQ a from rx)
  obtain⟨_,_,_,n,_,h1⟩:=(show iV X.prog X.w H s.heap a (.yM ob (.lst xs))from I.hok a _ ea)
  exact L0 X5 I.Ht ⟨_,h1,rfl⟩ e (λz=>nomatch z) h
 | @tup a xs ea=>
  cases(show u=AQ a from rx)
  obtain⟨_,_,_,p⟩:=(show iV X.prog X.w H s.heap a (.tup xs)from I.hok a _ ea)
  obtain⟨o,h1,h2,_⟩:=p;exact L0 i6 I.Ht ⟨o,h1,h2⟩ e (λz=>nomatch z) h
 | @dK a kvs ea=>
  cases(show u=AQ a from rx)
  obtain⟨_,_,vs,_,p⟩:=(show iV X.prog X.w H s.heap a (.dK kvs)from I.hok a _ ea)
  obtain⟨o,es,ep,h1,h2,_⟩:=p;exact L0 j6 I.Ht ⟨o,h1,h2.1⟩ e (λz=>nomatch z) h
 | @dT a kvs ea=>
  cases(show u=AQ a from rx)
  obtain⟨_,_,xs,_,o,es,ep,h1,h2,_⟩:=(show iV X.prog X.w H s.heap a (.dT kvs)from I.hok a _ ea)
  exact L0 j6 I.Ht ⟨o,h1,h2.1⟩ e (λz=>nomatch z) h
 | @ins a C dx fs ea cl ha hn htk hm=>
  cases(show u=AQ a from rx)
  obtain⟨mA,O,_⟩:=Lk I.hok ea;obtain⟨od,J,_⟩:=O.look;exact L0 (PySem.W.kitx_own (cl.get _) cl.hd ha hn htk hm) I.Ht J e (λz=>nomatch z) h
end
end L2
namespace L2
open PySem PySem.Spec PyProof.Rows
structure jK(k:Nat)(A:AN):Prop where
 hd:A.handled=none
 dp:A.depth+3*k+5<JI
 un:A.units+16*k+200<As
theorem jK.mono{j k:Nat}{A:AN}(r:jK k A)(h:j≤k):jK j A:=⟨r.hd,by have:=r.dp;omega,by have:=r.un;omega⟩
theorem jK.deeper{k:Nat}{A:AN}(r:jK (k+1) A)(env:Env):jK k (A.deeper env):=
 ⟨r.hd,by have:=r.dp;show A.depth+1+3*k+5<_;omega,by have:=r.un;show A.units+3+16*k+200<_;omega⟩
theorem RV{A:AN}{C:A7}{us:List A6}{kw:List (Str×A6)}:(A.under (.builtin "type.__call__" ⟨.ref C::us,kw⟩)).depth=A.depth+1:=by
  first | rfl | simp[HG,Code.weight,Code.isCreation,Code.isGuard,Code.isCaller,LV,HI,guardIds]
theorem RW{A:AN}{C:A7}{us:List A6}{kw:List (Str×A6)}:(A.under (.builtin "type.__call__" ⟨.ref C::us,kw⟩)).units=A.units+1:=by
  first | rfl | simp[HG,Code.cUnits,LV,HI]
theorem jK.make{k:Nat}{A:AN}(r:jK (k+1) A)(C:A7)(us:List A6)(kw:List (Str×A6)):jK k (A.under (.builtin "type.__call__" ⟨.ref C::us,kw⟩)):=
 ⟨r.hd,by have:=r.dp;rw[RV];omega,by have:=r.un;rw[RW];omega⟩
theorem jK.depth{k:Nat}{A:AN}(r:jK k A):A.depth<JI:=by have:=r.dp;omega
theorem jK.units{k:Nat}{A:AN}(r:jK k A):A.units+64<As:=by have:=r.un;omega
def lG:TA:=λ_ H Q=>Q [] H
def cI(ta:TE)(tr:TA):TA:=λσ H Q=>ta σ H λx H1=>tr σ H1 λxs H2=>Q (x::xs) H2
section
variable{X:Cx}{e:AD}{es:List AD}{te:TE}{t:TA}{pos:Pos}
theorem gU:PA X [] lG:=λ_ _ _ _ H Q I h=>BI ⟨[],H,I,.nil,h⟩
theorem cH(ha:PE X e te)(hr:PA X es t)(hs:AB (e::es) X.env=(NH,AO e X.env)::AB es X.env:=by rfl):PA X (e::es) (cI te t):=by intro pos pins s σ H Q I h;rw[hs];show AF _ _ (spliced ((NH,AO e X.env)::AZ pos (AB es X.env))) _ _ s;refine BF (iM (ha pins s σ H _ I h) λu s1 ⟨x,H1,I1,r1,q1⟩=>?_);exact iM (hr pos pins s1 σ H1 _ I1 q1) λus s2 ⟨xs,H2,I2,r2,q2⟩=>⟨x::xs,H2,I2,.cons r1 r2,q2⟩
def DX(t:TA):TE:=λσ H Q=>t σ H λxs H1=>xs.length≤sizeLine∧∀p,H1 p=none→Q (.ref p) (upd H1 p (.tup xs))
def zm(t:TA):TE:=λσ H Q=>t σ H λxs H1=>xs.length≤sizeLine∧∀p,H1 p=none→Q (.ref p) (upd H1 p (.lst xs))
theorem RX{x1}(h:PA X es t):PE X (.Tuple es x1 pos) (DX t):=by intro pins s σ H Q I hq;refine wpAny_Tuple_spliced (iM (h pos pins s σ H _ I hq) λus s1 ⟨xs,H1,I1,r,z,q⟩=>⟨by rw[←r.length];exact z,?_⟩);have hf:H1 s1.heap.objs.size=none:=I1.hok.fresh (D1 _);refine⟨.ref s1.heap.objs.size,upd H1 s1.heap.objs.size (.tup xs),I1.laid (t':=s1.toks) (λb u e=>AA _ e) (D1 _) ?_,U,q _ hf⟩;exact⟨z,us,r,⟨_,AK _ U,U,_,U⟩⟩
theorem zp(h:PA X es t):PE X (.List es pos) (zm t):=by intro pins s σ H Q I hq;refine wpAny_List_spliced (iM (h pos pins s σ H _ I hq) λus s1 ⟨xs,H1,I1,r,z,q⟩=>⟨by rw[←r.length];exact z,?_⟩);have hf:H1 s1.heap.objs.size=none:=I1.hok.fresh (D1 _);refine⟨.ref s1.heap.objs.size,upd H1 s1.heap.objs.size (.lst xs),I1.laid (t':=s1.toks) (λb u e=>AA _ e) (D1 _) ?_,U,q _ hf⟩;exact⟨z,us,0,r,AK _ U⟩
end
abbrev Sp:=List V→Hp→VK→XK→Prop
abbrev mz:=List Env→Hp→A8→XK→A6→A8→Prop
structure RZ(P:AI)(w:AL)(K:aF)(mg:Str→Option A6)(base:AM)(A:AN)(outer:List Env)(s:A8)(H:Hp):Prop where
 frames:A.frames=ND outer
 mod:Mod K mg base
 bs:∀b o,base.get? b=ND o→s.heap.get? b=ND o∧H b=none
 bsz:base.objs.size≤s.heap.objs.size
 Ku:s.heap.FunFrames base outer
 frf:∀b∈frs outer,H b=none
 hok:Cq P w H s.heap
 bare:DC s.gens
def CE(outer:List Env)(P:AI)(w:AL)(H:Hp)(s:A8)(Q:VK)(u:A6)(s':A8):Prop:=
 ∃v H',s'.os=s.os∧DC s'.gens∧Un (frs outer) [] H H' s.heap s'.heap∧Cq P w H' s'.heap∧RelV v u∧Q v H'
def CR(CX:mz)(outer:List Env)(P:AI)(w:AL)(H:Hp)(s:A8)(Q:VK)(E:XK)(r:Ee)(s':A8):Prop:=
 match r with
 | .ok (.ret u)=>CE outer P w H s Q u s'
 | .ok _=>False
 | .error e=>CX outer H s E e s'
structure yF(P:AI)(w:AL)(K:aF)(mg:Str→Option A6)(base:AM)(CX:mz)(k:Nat)(f:A7)(fd:BE)(ps:List Str)(sp:Sp):Prop where
 len:∀vs H Q E,sp vs H Q E→vs.length=ps.length
 run:∀(A:AN)(outer:List Env)(s:A8)(H:Hp)(args:Args)(us:List A6)(vs:List V)(Q:VK)(E:XK),jK k A→RZ P w K mg base A outer s H→Fk s fd args (ps.zip us)→Vals vs us→sp vs H Q E →
  CH (AG P w) A (.call (.ref f) args) (CR CX outer P w H s Q E) s
theorem RZ.make{P:AI}{w:AL}{K:aF}{mg:Str→Option A6}{base:AM}{A:AN}{outer:List Env}{s:A8}{H:Hp}(e:RZ P w K mg base A outer s H)(C:A7)(us:List A6)(kw:List (Str×A6)) :
  RZ P w K mg base (A.under (.builtin "type.__call__" ⟨.ref C::us,kw⟩)) outer s H:=⟨by first | exact e.frames | (simpa[HG,Code.envs,HI,pushEnvs]using e.frames),e.mod,e.bs,e.bsz,e.Ku,e.frf,e.hok,e.bare⟩
section
variable{X:Cx}{pins:List (A7×Obj)}{σ:St}{H:Hp}{s s':A8}
theorem Inv.env0(I:Inv X pins σ H s):RZ X.prog X.w X.K X.mg X.base X.A X.stack s H:=
 ⟨I.ok.frames,I.ok.mod,I.bs,G1 I.ok.bsz I.sz,I.stack,I.ZQ,I.hok,I.bare⟩
theorem Inv.after{Q:VK}{u:A6}(I:Inv X pins σ H s)(h:CE X.stack X.prog X.w H s Q u s'):EP X pins σ Q u s':=by obtain⟨v,H',os,bare,un,hok,r,q⟩:=h;obtain⟨hh,g,d,t,os'⟩:=s';obtain rfl:os'=s.os:=os;exact⟨v,H',I.call (h':=hh) (g':=g) (d':=d) (t':=t) (ch:=[]) un hok bare (λb z=>absurd z (by simp)),r,q⟩
end
def Ua(sp:Sp)(Hs:List V)(E:XK)(t:TA):TE:=λσ H Q=>t σ H λvs H1=>sp (vs++Hs) H1 Q E
def Jx(C:A7)(m:Str)(sp:Sp)(Hs:List V)(E:XK)(ta:TE)(t:TA):TE:=λσ H Q=>ta σ H λx H1=>∃a dx fs,x=.ref a∧H1 a=ND (.ins C dx fs)∧fs.lookup m=none ∧
 t σ H1 λvs H2=>sp (x::(vs++Hs)) H2 Q E
def aEe(C:A7)(sp:Sp)(Hs:List V)(E:XK)(t:TA):TE:=λσ H Q=>t σ H λvs H1=>∀x dx,H1 x=none→H1 dx=none→dx≠x →
 sp (.ref x::(vs++Hs)) (upd (upd H1 dx (.own x)) x (.ins C dx [])) (λv H2=>v=.non∧Q (.ref x) H2) E
def Binds(K:aF)(fd:BE)(ps:List Str)(ds:List A6):Prop:=
 ∀(s:A8)(us:List A6),K.In s.heap→(us++ds).length=ps.length→Fk s fd ⟨us,[]⟩ (ps.zip (us++ds))
theorem Binds.all{K:aF}{fd:BE}{ps:List Str}(h:∀us:List A6,us.length=ps.length→DU fd ⟨us,[]⟩=pure (ps.zip us)):Binds K fd ps []:=λs us _ hl=>by rw[F2]at hl ⊢;exact .of_eq (h us hl)
def Passes(CX:mz)(X:Cx)(E:XK):Prop:=∀(pins:List (A7×Obj))(σ:St)(H:Hp)(s:A8)(e:A6)(s':A8),Inv X pins σ H s→CX X.stack H s E e s'→X.xe e s'
section
variable{X:Cx}{CX:mz}{k:Nat}{f C:A7}{fd:BE}{ps:List Str}{sp:Sp}{Hs:List V}{ds:List A6}{E:XK}{x m:Str}{p pos apos:Pos}{e o:AD}{es:List AD}{ta:TE}{t:TA}
theorem SJ{pins:List (A7×Obj)}{σ:St}{H:Hp}{s:A8}{Q:VK}{us:List A6}{vs:List V}(F:yF X.prog X.w X.K X.mg X.base CX k f fd ps sp)(hr:jK k X.A)(hb:Binds X.K fd ps ds)(hd:Vals Hs ds)(hx:Passes CX X E)
  (I:Inv X pins σ H s) (r:Vals vs us) (h:sp (vs++Hs) H Q E):AF (AG X.prog X.w) X.A (call (.ref f) us) (EP X pins σ Q) X.xe s:=by
 have r2:Vals (vs++Hs) (us++ds):=r.append hd;have hl:(us++ds).length=ps.length:=by rw[←r2.length];exact F.len _ _ _ _ h
 refine IQ (Cf (F.run X.A X.stack s H ⟨us,[]⟩ (us++ds) (vs++Hs) Q E hr I.env0 (hb s us I.Ht hl) r2 h) λr s' hq=>?_);cases r with
 | error e=>exact hx pins σ H s e s' I hq
 | ok fl=>
  cases fl with
  | ret u=>exact I.after hq
  | next=>exact False.elim hq
  | brk=>exact False.elim hq
  | cont=>exact False.elim hq
theorem aCB(F:yF X.prog X.w X.K X.mg X.base CX k f fd ps sp)(hr:jK k X.A)(hg:Gl X x)(hm:X.mg x=ND (.ref f))(hk:K8 X.K (.ref f)=NG)(hb:Binds X.K fd ps ds)(hd:Vals Hs ds)(hx:Passes CX X E)
  (ha:PA X (e::es) t) (hdb:(x==("__debug__" : Str))=NH:=by decide) (he:AB (e::es) X.env=(NH,AO e X.env)::AB es X.env:=by rfl) (hpl:(AZ pos (AB es X.env)).any (·.1)=NH:=by rfl) :
  PE X (.Call (.Name x p) (e::es) [] pos) (Ua sp Hs E t):=by
 intro pins s σ H Q I h;refine Ap (Ws I hg hm ?_ hdb);refine W6 (h₀:=X.base) I.ok.mod.kin hk (iM (ha pos pins s σ H _ I h) λus s1 ⟨vs,H1,I1,r,q⟩=>⟨I1.Ht,?_⟩) he hpl;exact SJ F hr hb hd hx I1 r q
theorem Xb{pl:Sem Bool}(he:PE X o ta)(c:zg X.K C)(hm:Meth X.K C m f)(F:yF X.prog X.w X.K X.mg X.base CX k f fd ps sp)(hr:jK k X.A)(hb:Binds X.K fd ps ds)(hd:Vals Hs ds)(hx:Passes CX X E)(ha:PA X (e::es) t)
  (hst:AB (e::es) X.env=(NH,AO e X.env)::AB es X.env:=by rfl) (hpl:(AZ pos (AB es X.env)).any (·.1)=NH:=by rfl)
  (ht:AO (.Call (.Attribute o m apos) (e::es) [] pos) X.env=(do
   let ov ←AO o X.env
   Da apos.atName
   let (f,first) ←Cb [ov] (DJ ov m pl)
   FB pos f first (AZ pos (AB (e::es) X.env)) (DL pos (CA [] X.env))):=by rfl) :
  PE X (.Call (.Attribute o m apos) (e::es) [] pos) (Jx C m sp Hs E ta t):=by
 intro pins s σ H Q I h;refine c8 (pl:=pl) (iM (he pins s σ H _ I h) λu s1 ⟨x,H1,I1,rx,a,dx,fs,ex,ea,l,q⟩=>?_) ht;subst ex;obtain rfl:u=AQ a:=rx;refine Mz I1 ea c hm l ?_;refine W6 (first:=[.ref a]) (h₀:=X.base) I.ok.mod.kin hm.kp (iM (ha pos pins s1 σ H1 _ I1 q) λus s2 ⟨vs,H2,I2,r,q2⟩=>⟨I2.Ht,?_⟩) hst hpl;exact SJ (us:=.ref a::us) (vs:=.ref a::vs) F hr hb hd hx I2 (.cons U r) q2
theorem zq{pl:Sem Bool}(he:PE X o ta)(c:zg X.K C)(hm:Meth X.K C m f)(F:yF X.prog X.w X.K X.mg X.base CX k f fd ps sp)(hr:jK k X.A)(hb:Binds X.K fd ps ds)(hd:Vals Hs ds)(hx:Passes CX X E)
  (ht:AO (.Call (.Attribute o m apos) [] [] pos) X.env=(do
   let ov ←AO o X.env
   Da apos.atName
   let (f,first) ←Cb [ov] (DJ ov m pl)
   FB pos f first (AZ pos (AB [] X.env)) (DL pos (CA [] X.env))):=by rfl) :
  PE X (.Call (.Attribute o m apos) [] [] pos) (Jx C m sp Hs E ta lG):=by
 intro pins s σ H Q I h;refine c8 (pl:=pl) (iM (he pins s σ H _ I h) λu s1 ⟨x,H1,I1,rx,a,dx,fs,ex,ea,l,q⟩=>?_) ht;subst ex;obtain rfl:u=AQ a:=rx;refine Mz I1 ea c hm l ?_;exact PySem.W.callWith_K0 (first:=[.ref a]) I1.Ht hm.kp (SJ (us:=[.ref a]) (vs:=[.ref a]) F hr hb hd hx I1 (.cons U .nil) q)
structure Mk(K:aF)(C f:A7):Prop where
 makes:V1 K C=NG
 init:F8 K (.ref C) "__init__" = ND (ND (.ref f))
 fn:P9 K (.ref f)=NG
 kp:K8 K (.ref C)=NG
theorem zu{pins:List (A7×Obj)}{σ:St}{H:Hp}{s:A8}{Q:VK}{us:List A6}{vs:List V}(M:Mk X.K C f)(F:yF X.prog X.w X.K X.mg X.base CX k f fd ps sp)(hr:jK (k+1) X.A)(hb:Binds X.K fd ps ds)(hd:Vals Hs ds)
  (hx:Passes CX X E) (I:Inv X pins σ H s) (r:Vals vs us)
  (h:∀x dx,H x=none→H dx=none→dx≠x→sp (.ref x::(vs++Hs)) (upd (upd H dx (.own x)) x (.ins C dx [])) (λv H2=>v=.non∧Q (.ref x) H2) E) :
  AF (AG X.prog X.w) X.A (call (.ref C) us) (EP X pins σ Q) X.xe s:=by
 have hq:=h (s.heap.objs.size+1) s.heap.objs.size (I.hok.fresh (L9 _)) (I.hok.fresh (D1 _)) (E9 (M7 _));have I2:=Inv.made (C:=C) I;have r2:Vals (V.ref (s.heap.objs.size+1)::(vs++Hs)) (AQ (s.heap.objs.size+1)::(us++ds)):=.cons U (r.append hd);have hl:(AQ (s.heap.objs.size+1)::us++ds).length=ps.length:=by have e:=r2.length;rw[F.len _ _ _ _ hq]at e;exact e.symm
 refine IQ (zf (f:=f) I.Ht M.makes M.init (beq_iff_eq.mp M.fn) (Cf (F.run _ X.stack _ _ ⟨AQ (s.heap.objs.size+1)::us,[]⟩ (AQ (s.heap.objs.size+1)::(us++ds)) _ _ E (hr.make C us [])
  (I2.env0.make C us []) (hb _ (AQ (s.heap.objs.size+1)::us) I2.Ht hl) r2 hq) λr s' hq'=>?_))
 cases r with
 | error e=>exact hx pins σ _ _ e s' I2 hq'
 | ok fl=>
  cases fl with
  | ret u=>obtain⟨v,H',I3,rv,ev,q3⟩:=I2.after hq';subst ev;exact⟨rv,⟨V.ref (s.heap.objs.size+1),H',I3,U,q3⟩⟩
  | next=>exact False.elim hq'
  | brk=>exact False.elim hq'
  | cont=>exact False.elim hq'
theorem aCC(M:Mk X.K C f)(F:yF X.prog X.w X.K X.mg X.base CX k f fd ps sp)(hr:jK (k+1) X.A)(hg:Gl X x)(hm:X.mg x=ND (.ref C))(hb:Binds X.K fd ps ds)(hd:Vals Hs ds)(hx:Passes CX X E)
  (ha:PA X (e::es) t) (hdb:(x==("__debug__" : Str))=NH:=by decide) (he:AB (e::es) X.env=(NH,AO e X.env)::AB es X.env:=by rfl) (hpl:(AZ pos (AB es X.env)).any (·.1)=NH:=by rfl) :
  PE X (.Call (.Name x p) (e::es) [] pos) (aEe C sp Hs E t):=by
 intro pins s σ H Q I h;refine Ap (Ws I hg hm ?_ hdb);refine W6 (h₀:=X.base) I.ok.mod.kin M.kp (iM (ha pos pins s σ H _ I h) λus s1 ⟨vs,H1,I1,r,q⟩=>⟨I1.Ht,?_⟩) he hpl;exact zu M F hr hb hd hx I1 r q
end
section
variable{X:Cx}{CX:mz}{k:Nat}{f C:A7}{fd:BE}{ps ks:List Str}{sp:Sp}{E:XK}{x m:Str}{p pos apos kpos:Pos}{e o:AD}{es:List AD}{kws:List EV}{te ta:TE}{t tk:TA}{nm:Option Str}
structure aJf(K:aF)(fd:BE)(ps ks:List Str)(g:List A6→List A6→List A6)(gV:List V→List V→List V):Prop where
 to:∀(s:A8)(us ws:List A6),K.In s.heap→(g us ws).length=ps.length→Fk s fd ⟨us,ks.zip ws⟩ (ps.zip (g us ws))
 rel:∀{vs:List V} {us:List A6} {zs:List V} {ws:List A6},Vals vs us→Vals zs ws→Vals (gV vs zs) (g us ws)
variable{g:List A6→List A6→List A6}{gV:List V→List V→List V}
end
structure bA(N P:List Str)(sc:BD):Prop where
 kind:sc.kind=.function
 co:sc.isCoroutine=NH
 gen:sc.isGenerator=NH
 nd:N.Nodup
 pre:N.take P.length=P
 par:∀x∈P,sc.names.lookup x=ND .local∨sc.names.lookup x=ND .cell
 aFv:∀y∈sc.names,y.2≠.free
theorem Ub{kindOf:Str→Option FC}{x:Str}:∀{binds:List (Str×A6)} {m:Str→Option A6},(∀v,(x,v)∉binds)→GG kindOf binds m x=m x
 | [],_,_=>rfl
 | (n,v)::r,m,h=>by
  unfold GG;rw[Ub λw hw=>h w (C6 _ hw)];split
  ·have:x≠n:=by rintro rfl;exact h v C9
   simp[this]
  ·rfl
theorem Uc{kindOf:Str→Option FC}{x:Str}:∀{binds:List (Str×A6)} {m:Str→Option A6},(∀v,(x,v)∉binds)→GH kindOf binds m x=m x
 | [],_,_=>rfl
 | (n,v)::r,m,h=>by
  unfold GH;rw[Uc λw hw=>h w (C6 _ hw)];split
  ·rfl
  ·have:x≠n:=by rintro rfl;exact h v C9
   simp[this]
theorem Ud{kindOf:Str→Option FC}{x:Str}{v:A6}:∀{P:List Str} {vs:List A6} {i:Nat} {m:Str→Option A6},P.Nodup→P[i]?=ND x→vs[i]?=ND v→kindOf x=ND .local →
  GG kindOf (P.zip vs) m x=ND v
 | [],_,_,_,_,h,_,_=>by simp at h
 | _::_,[],_,_,_,_,h,_=>by simp at h
 | p::P,w::vs,0,m,nd,h1,h2,hk=>by simp at h1 h2;subst h1;subst h2;show GG kindOf ((p,w)::P.zip vs) m p=_;unfold GG;rw[Ub λv hv=>(E8.mp nd).1 (a7 hv).1,if_pos hk];simp
 | p::P,w::vs,i+1,m,nd,h1,h2,hk=>by show GG kindOf ((p,w)::P.zip vs) m x=_;unfold GG;exact Ud (i:=i) (E8.mp nd).2 (by simpa using h1) (by simpa using h2) hk
theorem Ue{kindOf:Str→Option FC}{x:Str}{v:A6}:∀{P:List Str} {vs:List A6} {i:Nat} {m:Str→Option A6},P.Nodup→P[i]?=ND x→vs[i]?=ND v→kindOf x≠ND .local →
  GH kindOf (P.zip vs) m x=ND v
 | [],_,_,_,_,h,_,_=>by simp at h
 | _::_,[],_,_,_,_,h,_=>by simp at h
 | p::P,w::vs,0,m,nd,h1,h2,hk=>by simp at h1 h2;subst h1;subst h2;show GH kindOf ((p,w)::P.zip vs) m p=_;unfold GH;rw[Uc λv hv=>(E8.mp nd).1 (a7 hv).1,if_neg hk];simp
 | p::P,w::vs,i+1,m,nd,h1,h2,hk=>by show GH kindOf ((p,w)::P.zip vs) m x=_;unfold GH;exact Ue (i:=i) (E8.mp nd).2 (by simpa using h1) (by simpa using h2) hk
def start(N:List Str)(vs:List V):St:=vs.map ND++E7 (N.length-vs.length) none
def Fd(CX:mz)(P:AI)(w:AL)(K:aF)(mg:Str→Option A6)(base:AM)(N:List Str)(qual:Str)(scope:BD)(f:A7)(cd:A6)(A:AN)(outer:List Env)(s:A8)(H:Hp)(E:XK):Cx where
 prog:=P
 w:=w
 K:=K
 mg:=mg
 base:=base
 A:=A.deeper (BT qual scope s.heap.objs.size f cd)
 N:=N
 s₀:=s
 H₀:=H
 env:=BT qual scope s.heap.objs.size f cd
 outer:=outer
 stack:=BT qual scope s.heap.objs.size f cd::outer
 ex:=[]
 calm:=NG
 fn:=λ_=>NG
 pn:=[]
 xe:=λe s'=>AF (AG P w) (A.deeper (BT qual scope s.heap.objs.size f cd)) (leaving (BT qual scope s.heap.objs.size f cd) e) (λ_ s''=>CX outer H s E e s'') (λe' s''=>CX outer H s E e' s'') s'
theorem DY{sc:BD}{n:Nat}{x:Str}(h:sc.names.lookup x=ND .cell):∃c,(KG n sc.names []).lookup x=ND c:=by have q:=b7 sc.names n [] (.inl h);exact S5.mp q
theorem ni{CX:mz}{P:AI}{w:AL}{K:aF}{mg:Str→Option A6}{base:AM}{N ps:List Str}{qual:Str}{scope:BD}{f:A7}{cd:A6}{A:AN}{outer:List Env}{s s1:A8}{H:Hp}{E:XK}{us:List A6}{vs:List V}
  (S:bA N ps scope) (hd:A.handled=none) (e0:RZ P w K mg base A outer s H) (hl:vs.length=ps.length) (r:Vals vs us)
  (x:InCallC s s.heap.objs.size (GG (BT qual scope s.heap.objs.size f cd).kindOf (ps.zip us) λ_=>none) (KG (s.heap.objs.size+1) scope.names []) (GH (BT qual scope s.heap.objs.size f cd).kindOf (ps.zip us) λ_=>none) s1) :
  Inv (Fd CX P w K mg base N qual scope f cd A outer s H E) [] (start N vs) H s1:=by
 have hpl:ps.length≤N.length:=by have:=congrArg l0 S.pre;rw[F3]at this;omega
 obtain⟨h1,tk,rfl,hk⟩:=x.done;have noA:∀b:A7,b∉(Fd CX P w K mg base N qual scope f cd A outer s H E).ex:=λb z=>absurd (show b∈([]:List A7)from z) (by simp);refine⟨⟨e0.mod,S.kind,U,U,D1 _,λy z c h1 h2=>?_,λy hy=>?_,λy c _ h=>?_,λ_=>hd,Around.frames_deeper e0.frames,.inr ⟨U,U⟩,λb z=>absurd z (noA b),e0.bs,e0.bsz,λb _ _=>noA b,λb z=>absurd z (noA b),e0.Ku,e0.frf⟩,
  rfl,e0.bare,Un.kept hk,⟨_,x.toInCall.ns,λi y v h1 h2 h3=>?_⟩,λy c h=>⟨_,x.cell y c h⟩,e0.hok.fresh (D1 _),λy c h=>?_,λp hp=>absurd (show p∈([]:List (A7×Obj))from hp) (by simp),e0.hok.kept hk,?_⟩
 ·exact name_of_addr x.apart (N5 h1) (N5 h2)
 ·have hy:scope.names.lookup y=ND .cell∨scope.names.lookup y=ND .free:=hy;rcases hy with hy | hy
  ·exact DY hy
  ·exact absurd U (S.aFv _ (N5 hy))
 ·exact O8 (x.above y c (N5 h))
 ·have hi:i<vs.length:=by
   unfold start at h2;by_cases hi:i<vs.length
   ·exact hi
   ·rw[M0 (by simpa using hi)]at h2;rw[Q6]at h2;split at h2<;>cases h2
  have ha:vs[i]?=ND v:=by
   unfold start at h2;rw[G3 (by simpa using hi),C4]at h2;cases e:vs[i]? with
   | none=>rw[e]at h2;cases h2
   | some a=>rw[e]at h2;cases h2;rfl
  obtain⟨u,hu,rv⟩:=r.get ha;have hp:ps[i]?=ND y:=by rw[←S.pre,List.getElem?_take_of_lt (by omega)];exact h1
  have ndP:ps.Nodup:=by rw[←S.pre];exact S.nd.sublist (M5 _ _)
  refine⟨u,rv,?_⟩;rcases S.par y (E4 hp)with k | k
  ·exact .inl ⟨k,Ud ndP hp hu k⟩
  ·obtain⟨c,e⟩:=DY (n:=s.heap.objs.size+1) k;refine .inr ⟨.inl k,c,e,?_⟩;have q:=x.cell y c e;rw[Ue ndP hp hu (by show scope.names.lookup y≠_;rw[k];decide)]at q;exact q
 ·exact e0.hok.fresh (O8 (x.above y c (N5 h)))
 ·unfold start;show _=N.length;rw[C7,B7,R0];omega
theorem zy{CX:mz}{P:AI}{w:AL}{K:aF}{mg:Str→Option A6}{base:AM}{k:Nat}{f:A7}{name qual:Str}{params:Arguments}{body:List AH}{scope:BD}{dV kV doc pm cdv ct oc:A6}{an od:Option A7}
  {osl:Array (Option A6)} {N ps:List Str} {sp:Sp} (lk:K.lookup f=ND ⟨oc,od,.func (G2 name qual params body scope dV kV doc pm an cdv ct),osl⟩) (hcd:L4 K cdv qual=NG) (S:bA N ps scope)
  (len:∀vs H Q E,sp vs H Q E→vs.length=ps.length)
  (hbody:∀(A:AN)(outer:List Env)(s:A8)(H:Hp)(vs:List V)(Q:VK)(E:XK),jK k (A.deeper (BT qual scope s.heap.objs.size f cdv))→sp vs H Q E →
   ∃t,DN (Fd CX P w K mg base N qual scope f cdv A outer s H E) body t∧t {nx:=λ_ H'=>Q .non H',rt:=Q} (start N vs) H) :
  yF P w K mg base CX (k+1) f (G2 name qual params body scope dV kV doc pm an cdv ct) ps sp:=by
 refine⟨len,λA outer s H args us vs Q E hr e0 hb r hsp=>?_⟩;have hl:=len _ _ _ _ hsp;have KX:K.In s.heap:=e0.mod.kin.keeps λb o e=>(e0.bs b o e).1;have lim:s.heap.NoLimit:=e0.mod.nolimit.keeps λb o e=>(e0.bs b o e).1;have hkind:∀y∈ps.zip us,scope.names.lookup y.1=ND .local∨(scope.names.lookup y.1=ND .cell∧((KG (s.heap.objs.size+1) scope.names []).lookup y.1).isSome=NG):=λ⟨n,v⟩ hy=>by
  rcases S.par n (a7 hy).1 with q | q
  ·exact .inl q
  ·exact .inr ⟨q,b7 _ _ _ (.inl q)⟩
 refine codeAny_call_function hr.depth (KX _ _ lk) U S.co S.gen U (PySem.W.codeRec_of KX hcd) (hb _ _ _ _ ?_);refine wpAny_newFunctionEnv_cells S.kind hkind λenv he s1 x=>?_;subst he;refine⟨lim.keeps x.toInCall.keep,codeAny_func ?_⟩;obtain⟨t,ht,hq⟩:=hbody A outer s H vs Q E (hr.deeper _) hsp;have I:Inv (Fd CX P w K mg base N qual scope f cdv A outer s H E) [] (start N vs) H s1:=ni S hr.hd e0 hl r x;refine AX (ht [] s1 (start N vs) H _ I hq) (λfl s' hs=>?_) λe s' hs=>hs;have fin:∀{σ':St} {H':Hp} {v:V} {u:A6},Inv (Fd CX P w K mg base N qual scope f cdv A outer s H E) [] σ' H' s'→RelV v u→Q v H'→CE outer P w H s Q u s':=
  λ{σ' H' v u} J rv q=>⟨v,H',J.os,J.bare,J.base,J.hok,rv,q⟩
 cases fl with
 | ret u=>obtain⟨v,σ',H',J,rv,q⟩:=hs;exact fin J rv q
 | next=>obtain⟨σ',H',J,q⟩:=hs;exact fin (v:=V.non) (u:=B5) J U q
 | brk=>obtain⟨_,_,_,q⟩:=hs;exact False.elim q
 | cont=>obtain⟨_,_,_,q⟩:=hs;exact False.elim q
end L2
namespace L2
open PySem PySem.Spec PyProof.Rows
section
variable{X:Cx}{x:Str}{p pos:Pos}{e:AD}{es:List AD}{t:TA}{id T:String}{r:List V→Hp→VK→Prop}
def tCB(r:List V→Hp→VK→Prop)(t:TA):TE:=λσ H Q=>t σ H λvs H1=>r vs H1 Q
theorem EY(hc:mZ X (.builtin id) r)(hg:Gl X x)(hm:X.mg x=none)(hv:AU x=ND (.builtin id))(ha:PA X (e::es) t)(hn:x ≠ "__name__" := by decide) (hdb:(x==("__debug__" : Str))=NH:=by decide)
  (he:AB (e::es) X.env=(NH,AO e X.env)::AB es X.env:=by rfl) (hpl:(AZ pos (AB es X.env)).any (·.1)=NH:=by rfl):PE X (.Call (.Name x p) (e::es) [] pos) (tCB r t):=by
 intro pins s σ H Q I h;refine Ap (sI I hg hm hv ?_ hn hdb);exact V2 (iM (ha pos pins s σ H _ I h) λus s1 ⟨vs,H1,I1,r1,q1⟩=>hc pins s1 σ H1 vs us Q I1 r1 q1) he hpl
theorem nq(hc:mZ X (.type T) r)(hg:Gl X x)(hm:X.mg x=none)(hv:AU x=ND (.type T))(ha:PA X (e::es) t)(hn:x ≠ "__name__" := by decide) (hdb:(x==("__debug__" : Str))=NH:=by decide)
  (he:AB (e::es) X.env=(NH,AO e X.env)::AB es X.env:=by rfl) (hpl:(AZ pos (AB es X.env)).any (·.1)=NH:=by rfl):PE X (.Call (.Name x p) (e::es) [] pos) (tCB r t):=by
 intro pins s σ H Q I h;refine Ap (sI I hg hm hv ?_ hn hdb);exact J6 (iM (ha pos pins s σ H _ I h) λus s1 ⟨vs,H1,I1,r1,q1⟩=>hc pins s1 σ H1 vs us Q I1 r1 q1) he hpl
end
end L2
namespace HT
open PySem PyProof.Rows
theorem aAa(A:AN)(s:A8)(a:Int)(t:Tok)(c:Int)(u:Tok)(prog:AI)(w:AL)(E:A6→A8→Prop)(Q:A6→A8→Prop)(h:Q (.bool (decide (a<c))) s) :
  AF (AG prog w) A (richCompare .Lt (.int a t) (.int c u)) Q E s:=
 (PyProof.Rows.lt_int h:AF (AG prog w) A (AS .Lt (.int a t) (.int c u)) Q E s)
section
open PySem.SeqAt
open PySem.AutoSeq1 (wpAny_loadPart')
open PySem.MeetsSeq PySem.MeetsSeq2 PySem.MeetsSeq3
end
section
variable{prog:AI}{w:AL}{A:AN}{E:A6→A8→Prop}{s:A8}
def Kw(n d:Nat):Option Int→Nat
 | none=>d
 | some v=>if v<0 then(v+(n:Int)).toNat else min v.toNat n
theorem aCD(n d k:Nat):Kw n d (ND (k:Int))=min k n:=by show (if(k:Int)<0 then((k:Int)+(n:Int)).toNat else min (k:Int).toNat n)=min k n;rw[if_neg (by omega),C8]
end
end HT
namespace L2
open PySem PySem.Spec PyProof.Rows
abbrev TO:=St→Hp→(Option Int→Hp→Prop)→Prop
def PO(X:Cx)(e:Option AD)(t:TO):Prop:=
 ∀(pins:List (A7×Obj))(s:A8)(σ:St)(H:Hp)(Q:Option Int→Hp→Prop),Inv X pins σ H s→t σ H Q →
  AF (AG X.prog X.w) X.A (evalPart e X.env) (λu s'=>∃o H',Inv X pins σ H' s'∧IsPart u o∧Q o H') X.xe s
def ak:TO:=λ_ H Q=>Q none H
def aEg(t:TE):TO:=λσ H Q=>t σ H λx H1=>∃i,x=.int i∧Q (ND i) H1
theorem intsAre_of{ns:List Int}:∀{us:List A6},Vals (ns.map V.int) us→EA us ns:=by
 induction ns with
 | nil=>intro us r;rw[L3]at r;cases r;exact .nil
 | cons n ns ih=>
  intro us r;rw[D5]at r;cases r with
  | cons r1 r2=>obtain⟨t,e⟩:=r1;subst e;exact .cons n t (ih r2)
section
variable{X:Cx}{e:AD}{te:TE}{lo hi:Option AD}{tl th:TO}{pos p2:Pos}
theorem aCE:PO X none ak:=by intro pins s σ H Q I h;rw[KP];exact AE ⟨none,H,I,.none,h⟩
theorem aCF(h:PE X e te):PO X (ND e) (aEg te):=by intro pins s σ H Q I hw;rw[evalPart_some];refine iM (h pins s σ H _ I hw) λu s1 ⟨x,H1,I1,r1,q1⟩=>?_;obtain⟨i,rfl,q⟩:=q1;obtain⟨t,rfl⟩:=r1;exact⟨ND i,H1,I1,.int i t,q⟩
def SlR(X:Cx)(r:V→Option Int→Option Int→Hp→VK→Prop):Prop:=
 ∀(pins:List (A7×Obj))(s:A8)(σ:St)(H:Hp)(x:V)(v vl vu:A6)(lo hi:Option Int)(sl:A7)(Q:VK),Inv X pins σ H s→RelV x v→s.heap.IsSliceOf sl vl vu .none→IsPart vl lo→IsPart vu hi→r x lo hi H Q →
  ∃T id,typeLookup (.type T) "__getitem__" = pure (ND (.builtin id))∧s.TypeIs v T∧AF (AG X.prog X.w) X.A (Fm v (.ref sl)) (EP X pins σ Q) X.xe s
def tSl(r:V→Option Int→Option Int→Hp→VK→Prop)(te:TE)(tl th:TO):TE:=λσ H Q=>te σ H λx H1=>tl σ H1 λl H2=>th σ H2 λu H3=>r x l u H3 Q
theorem FJ{r:V→Option Int→Option Int→Hp→VK→Prop}(hr:SlR X r)(he:PE X e te)(hl:PO X lo tl)(hu:PO X hi th):PE X (.Subscript e (.Slice lo hi none p2) pos) (tSl r te tl th):=by intro pins s σ H Q I h;refine IS (iM (he pins s σ H _ I h) λv s1 ⟨x,H1,I1,r1,q1⟩=>?_);refine wpAny_Slice (iM (hl pins s1 σ H1 _ I1 q1) λvl s2 ⟨l,H2,I2,pl,q2⟩=>iM (hu pins s2 σ H2 _ I2 q2) λvu s3 ⟨u,H3,I3,pu,q3⟩=>?_);rw[KP];refine AE ?_;have I4:Inv X pins σ H3 {s3 with heap:=s3.heap.push {cls:=.type "slice", data:=.fields #[vl,vu,.none]}}:=I3.kept (t':=s3.toks) λb ob q=>AA _ q;obtain⟨T,id,hT,ht,hg⟩:=hr pins {s3 with heap:=s3.heap.push {cls:=.type "slice", data:=.fields #[vl,vu,.none]}} σ H3 x v vl vu l u s3.heap.objs.size Q I4 r1 (MI ..) pl pu q3;show AF (AG X.prog X.w) X.A (GV e (.Slice lo hi none p2) v (.ref s3.heap.objs.size)) (EP X pins σ Q) X.xe {s3 with heap:=s3.heap.push {cls:=.type "slice", data:=.fields #[vl,vu,.none]}};exact tail_any (ops:=[.ref s3.heap.objs.size,v]) ht hT hg (by with_unfolding_all rfl)
def SM(xs:List V)(lo hi:Option Int):List V:=(xs.drop (HT.Kw xs.length 0 lo)).take (HT.Kw xs.length xs.length hi-HT.Kw xs.length 0 lo)
theorem FN(xs:List V)(lo hi:Option Int):(SM xs lo hi).length≤xs.length:=by unfold SM;rw[F3,N6];omega
end
end L2
namespace L2
open PySem PySem.Spec PyProof.Rows
def QW(n:Nat)(i:Int):Option Nat:=if 0≤i then(if i<n then ND i.toNat else none)else if -(n:Int)≤i then ND (i+n).toNat else none
def QX{α:Type}(xs:List α)(i:Int):Option α:=(QW xs.length i).bind λj=>xs[j]?
theorem ao{n:Nat}{i:Int}{j:Nat}(h:QW n i=ND j):KI i n=ND j∧j<n∧-(n:Int)≤i∧i<n:=by
 unfold QW at h;by_cases h0:0≤i
 ·rw[if_pos h0]at h;by_cases h1:i<n
  ·rw[if_pos h1]at h;have e:i.toNat=j:=F1 h;exact⟨by rw[FV h0 h1,e],by omega,by omega,h1⟩
  ·rw[if_neg h1]at h;cases h
 ·rw[if_neg h0]at h;by_cases h1:-(n:Int)≤i
  ·rw[if_pos h1]at h;have e:(i+n).toNat=j:=F1 h;exact⟨by rw[HL (by omega) h1,e],by omega,h1,by omega⟩
  ·rw[if_neg h1]at h;cases h
theorem Xc{α:Type}{xs:List α}{i:Int}{v:α}(h:QX xs i=ND v):∃j,KI i xs.length=ND j∧xs[j]?=ND v∧j<xs.length∧-(xs.length:Int)≤i∧i<xs.length:=by
 unfold QX at h;cases e:QW xs.length i with
 | none=>rw[e]at h;cases h
 | some j=>rw[e]at h;obtain⟨h1,h2,h3,h4⟩:=ao e;exact⟨j,h1,h,h2,h3,h4⟩
theorem aCG{α:Type}{xs:List α}{j:Nat}{v:α}(h:xs[j]?=ND v):QX xs (j:Int)=ND v:=by
 have hj:j<xs.length:=(D4.mp h).1;have e:QW xs.length (j:Int)=ND j:=by unfold QW;rw[if_pos (by omega),if_pos (by omega)];simp
 unfold QX;rw[e];exact h
def Xd(b:AD):Prop:=∀o i,FX b NH o i=operate [o,i] (Fm o i)
def IxR(X:Cx)(r:R2):Prop:=
 ∀(value slice:AD)(pins:List (A7×Obj))(s:A8)(σ:St)(H:Hp)(x y:V)(v u:A6)(Q:VK),Inv X pins σ H s→RelV x v→RelV y u→r x y H Q →
  FX slice NH v u=operate [v,u] (Fm v u)→AF (AG X.prog X.w) X.A (GV value slice v u) (EP X pins σ Q) X.xe s
def MtR(X:Cx)(id:String)(r:V→List V→Hp→VK→Prop):Prop:=
 ∀(pins:List (A7×Obj))(s:A8)(σ:St)(H:Hp)(x:V)(xs:List V)(v:A6)(us:List A6)(Q:VK),Inv X pins σ H s→RelV x v→Vals xs us→r x xs H Q →
  AF (AG X.prog X.w) X.A (call (.builtin id) (v::us)) (EP X pins σ Q) X.xe s
section
variable{X:Cx}{a b:AD}{ta tb:TE}{pos:Pos}
theorem IxR.or{r r':R2}(h:IxR X r)(h':IxR X r'):IxR X (λx y H Q=>r x y H Q∨r' x y H Q):=by
 intro value slice pins s σ H x y v u Q I rx ry q hs;rcases q with q | q
 ·exact h value slice pins s σ H x y v u Q I rx ry q hs
 ·exact h' value slice pins s σ H x y v u Q I rx ry q hs
theorem aEh{r:R2}(hr:IxR X r)(ha:PE X a ta)(hb:PE X b tb)(hs:Xd b):PE X (.Subscript a b pos) (DR r ta tb):=by intro pins s σ H Q I h;exact IS (aFl ha hb I h λv u s2 x y H2 I2 rx ry q=>hr a b pins s2 σ H2 x y v u Q I2 rx ry q (hs _ _))
def aHG(K:aF):R2:=λx y H Q=>∃p xs i v,x=.ref p∧y=.int i∧pQ K H p xs∧QX xs i=ND v∧Q v H
def aHH(K:aF):R2:=λx y H Q=>∃p xs i v,x=.ref p∧y=.int i∧xR K H p xs∧QX xs i=ND v∧Q v H
def aHI:R2:=λx y H Q=>∃z i c,x=.str z∧y=.int i∧z.length≤sizeLine∧QX z.cps.toList i=ND c∧Q (.str ⟨#[c]⟩) H
theorem aCH:IxR X (aHG X.K):=by
 intro value slice pins s σ H x y v u Q I rx ry h hs;obtain⟨p,xs,i,z,rfl,rfl,hq,he,q⟩:=h;cases rx;obtain⟨t,rfl⟩:=ry;obtain⟨its,r,pl,hz⟩:=I.list hq;obtain⟨j,h1,h2,h3,h4,h5⟩:=Xc he;obtain⟨w,ew,Ru⟩:=r.get h2;have hl:=r.length;have hn:=My;have fin:EP X pins σ Q w s:=⟨z,H,I,Ru,q⟩
 by_cases h0:0≤i
 ·have hj:i.toNat=j:=by rw[FV h0 h5]at h1;exact F1 h1
  exact item_listR pl.isList h0 (by omega) (by rw[hj];simpa using ew) fin hs
 ·have hj:(i+(its.toArray.size:Int)).toNat=j:=by rw[HL (by omega) h4]at h1;rw[D3,←hl];exact F1 h1
  exact FY (x:=w) pl.isList.typeIs slot_list_getitem.lookup
   (wpAny_getItem_list_neg (Q:=λr s'=>r=w∧EP X pins σ Q r s') pl.isList (by omega) (by rw[D3]<;>omega) (by omega) (by rw[hj];simpa using ew) ⟨U,fin⟩) hs
theorem aFw:IxR X (aHH X.K):=by
 intro value slice pins s σ H x y v u Q I rx ry h hs;obtain⟨p,xs,i,z,rfl,rfl,hq,he,q⟩:=h;cases rx;obtain⟨t,rfl⟩:=ry;obtain⟨its,r,pl,hz⟩:=I.tuple hq;obtain⟨j,h1,h2,h3,h4,h5⟩:=Xc he;obtain⟨w,ew,Ru⟩:=r.get h2;have hl:=r.length;have hn:=My;have fin:EP X pins σ Q w s:=⟨z,H,I,Ru,q⟩
 exact FY (x:=w) pl.typeIs slot_tuple_getitem.lookup
  (getItem_tuple (j:=j) (Q:=λr s'=>r=w∧EP X pins σ Q r s') pl (by omega) (by omega) (by rw[D3,←hl];exact h1) (by simpa using ew) ⟨U,fin⟩) hs
theorem aFx:IxR X aHI:=by
 intro value slice pins s σ H x y v u Q I rx ry h hs;obtain⟨z,i,c,rfl,rfl,hz,he,q⟩:=h;obtain⟨t,rfl⟩:=rx;obtain⟨t',rfl⟩:=ry;obtain⟨j,h1,h2,h3,h4,h5⟩:=Xc he;have hl:z.cps.toList.length=z.length:=by simp[Str.length]
 rw[hl]at h1 h4 h5;have hn:=My;exact tail_any (typeIs_str s z t) slot_str_getitem.lookup (getItem_str (c:=c) (by
  have e1:decide (i < -(2 ^ 63:Int))=NH:=decide_eq_false (by omega);have e2:decide (i≥2 ^ 63)=NH:=decide_eq_false (by omega);rw[e1,e2,t8]) (by rw[h1];simpa using h2) ⟨.str ⟨#[c]⟩,H,I.tok _,⟨_,U⟩,q⟩) hs
def rIx(K:aF):R2:=λx y H Q=>aHG K x y H Q∨aHH K x y H Q∨aHI x y H Q
theorem aFy:IxR X (rIx X.K):=aCH.or (aFw.or aFx)
theorem SN(its:List A6)(n j:Nat)(u:A6):DM (·.setIfInBounds j u) {cls:=.type "list", data:=.seq its.toArray n}={cls:=.type "list", data:=.seq (its.set j u).toArray n}:=by simp[DM]
theorem Inv.lst{pins:List (A7×Obj)}{σ:St}{H:Hp}{s:A8}{p:A7}{xs:List V}(I:Inv X pins σ H s)(h:H p=ND (.lst xs)) :
  ∃(its:List A6)(n:Nat),Vals xs its∧s.heap.get? p=ND {cls:=.type "list", data:=.seq its.toArray n}∧xs.length≤sizeLine:=by
 obtain⟨z,its,n,r,e⟩:=I.hok p _ h;exact⟨its,n,r,e,z⟩
theorem Inv.aFz{pins:List (A7×Obj)}{σ:St}{H:Hp}{s:A8}{p:A7}{xs ys:List V}{its its':List A6}{n n':Nat}{f:Obj→Obj}(I:Inv X pins σ H s)(h:H p=ND (.lst xs))
  (ho:s.heap.get? p=ND {cls:=.type "list", data:=.seq its.toArray n}) (hf:f {cls:=.type "list", data:=.seq its.toArray n}={cls:=.type "list", data:=.seq its'.toArray n'}) (r:Vals ys its') (hz:ys.length≤sizeLine) (t:Nat) :
  Inv X pins σ (upd H p (.lst ys)) {s with heap:=s.heap.update p f,toks:=t}:=by
 have e:(s.heap.update p f).get? p=ND {cls:=.type "list", data:=.seq its'.toArray n'}:=by rw[BA f ho (by rw[hf]<;>rfl),hf]
 refine I.write (x:=p) (e:=p) (by rw[h];trivial) (.inl U) (λb u hb q=>(BC _ _ (Ne.symm hb)).trans q) ⟨_,e⟩ ?_;exact⟨hz,its',n',r,e⟩
def Ug:V→V→V→Hp→(Hp→Prop)→Prop:=λo i v H Q=>∃p xs k j,o=.ref p∧i=.int k∧H p=ND (.lst xs)∧QW xs.length k=ND j∧Q (upd H p (.lst (xs.set j v)))
theorem set_list:aHt X Ug:=by
 intro pins s σ H o i v ov iv u Q I ro ri rv h;obtain⟨p,xs,k,j,rfl,rfl,hp,hj,q⟩:=h;cases ro;obtain⟨t,rfl⟩:=ri;obtain⟨its,n,r,ho,hz⟩:=I.lst hp;obtain⟨h1,h2,h3,h4⟩:=ao hj;have hl:=r.length;have hn:=My;have I':Inv X pins σ (upd H p (.lst (xs.set j v))) {s with heap:=s.heap.update p (DM (·.setIfInBounds j u))}:=
  I.aFz hp ho (SN its n j u) (r.set rv j) (by rw[K2];exact hz) s.toks
 by_cases h0:0≤k
 ·have hk:k.toNat=j:=by rw[FV h0 h4]at h1;exact F1 h1
  exact PySem.W.ki_setAt ho h0 (by omega) (by rw[D3,←hl];exact h4) (by rw[hk];exact⟨_,I',q⟩)
 ·have hk:(k+(its.toArray.size:Int)).toNat=j:=by rw[HL (by omega) h3]at h1;rw[D3,←hl];exact F1 h1
  exact PySem.W.ki_setBack ho (by omega) (by rw[D3,←hl];exact h3) (by omega) (by rw[hk];exact⟨_,I',q⟩)
theorem Xe(lo hi:Option Int)(n:Nat):(DD lo hi none n).1=((HT.Kw n 0 lo:Nat):Int)∧(DD lo hi none n).2.1=((HT.Kw n n hi:Nat):Int)∧(DD lo hi none n).2.2=1:=by
 refine⟨?_,?_,U⟩
 ·cases lo with
  | none=>simp[DD,HT.Kw]
  | some i=>
   simp only[DD,HT.Kw,l4,show (1:Int) > 0 by decide,if_true];by_cases h:i<0
   ·simp only[h,if_true]<;>omega
   ·simp only[h,if_false]<;>omega
 ·cases hi with
  | none=>simp[DD,HT.Kw]
  | some i=>
   simp only[DD,HT.Kw,l4,show (1:Int) > 0 by decide,if_true];by_cases h:i<0
   ·simp only[h,if_true]<;>omega
   ·simp only[h,if_false]<;>omega
theorem Rx(its:List A6)(lo hi:Option Int):slicePick its.toArray lo hi none=((its.drop (HT.Kw its.length 0 lo)).take (HT.Kw its.length its.length hi-HT.Kw its.length 0 lo)).toArray:=by obtain⟨h1,h2,h3⟩:=Xe lo hi its.toArray.size;unfold slicePick;rw[h1,h2,h3];simp only[sliceRange_one,pick_run,D3]<;>rfl
def aCI(K:aF):V→Option Int→Option Int→Hp→VK→Prop:=λx lo hi H Q=>∃a xs,x=.ref a∧pQ K H a xs∧∀p,H p=none→Q (.ref p) (upd H p (.lst (SM xs lo hi)))
theorem aCJ:SlR X (aCI X.K):=by intro pins s σ H x v vl vu lo hi sl Q I rx hs pl pu h;obtain⟨a,xs,rfl,hx,q⟩:=h;cases rx;obtain⟨its,r,ht,hz⟩:=I.list hx;have hlen:=r.length;refine⟨"list", _,slot_list_getitem.lookup,ht.isList.typeIs,?_⟩;refine wpAny_getItem_list_slice ht.isList hs pl pu .none (by simp) ?_ (by rw[D3]<;>omega);rw[Rx,←hlen];refine⟨.ref s.heap.objs.size,_,I.laid (t':=s.toks) (o:=.lst (SM xs lo hi)) (λb ob q=>AA _ q) (D1 _) ?_,U,q _ (I.hok.fresh (D1 _))⟩;exact⟨G1 (FN xs lo hi) hz,_,0,(r.drop (HT.Kw xs.length 0 lo)).take (HT.Kw xs.length xs.length hi-HT.Kw xs.length 0 lo),AK _ U⟩
def yO:V→Bool
 | .non=>NG
 | .bl _=>NG
 | .int _=>NG
 | .str _=>NG
 | _=>NH
def eqV:V→V→Bool
 | .non,.non=>NG
 | .bl a,.bl b=>a==b
 | .bl a,.int b=>(if a then 1 else 0)==b
 | .int a,.bl b=>a==(if b then 1 else 0)
 | .int a,.int b=>a==b
 | .str a,.str b=>a==b
 | _,_=>NH
theorem aFA{A:AN}{s:A8}{y x:V}{u v:A6}(ry:RelV y u)(rx:RelV x v)(fy:yO y=NG)(fx:yO x=NG):LX A s u v (eqV y x):=by
 cases y with
 | non=>
  cases ry;cases x with
  | non=>cases rx;exact MZ _
  | bl b=>cases rx;exact LY b
  | int b=>obtain⟨t,rfl⟩:=rx;exact Lu b t
  | str b=>obtain⟨t,rfl⟩:=rx;exact Lv b t
  | _=>exact absurd (show NH=NG from fx) E2
 | bl a=>
  cases ry;cases x with
  | non=>cases rx;exact LZ a
  | bl b=>cases rx;exact Lc a b
  | int b=>obtain⟨t,rfl⟩:=rx;exact MA a b t
  | str b=>obtain⟨t,rfl⟩:=rx;exact MB a b t
  | _=>exact absurd (show NH=NG from fx) E2
 | int a=>
  obtain⟨t',rfl⟩:=ry;cases x with
  | non=>cases rx;exact MC a t'
  | bl b=>cases rx;exact MD a t' b
  | int b=>obtain⟨t,rfl⟩:=rx;exact ML a t' b t
  | str b=>obtain⟨t,rfl⟩:=rx;exact Go a t' b t
  | _=>exact absurd (show NH=NG from fx) E2
 | str a=>
  obtain⟨t',rfl⟩:=ry;cases x with
  | non=>cases rx;exact ME a t'
  | bl b=>cases rx;exact MG a t' b
  | int b=>obtain⟨t,rfl⟩:=rx;exact HA a t' b t
  | str b=>obtain⟨t,rfl⟩:=rx;exact MM a t' b t
  | _=>exact absurd (show NH=NG from fx) E2
 | _=>exact absurd (show NH=NG from fy) E2
def Xf(x:V)(u:A6):Bool:=match u with
 | .none=>eqV .non x
 | .bool b=>eqV (.bl b) x
 | .int i _=>eqV (.int i) x
 | .str z _=>eqV (.str z) x
 | _=>NH
theorem aAb{x y:V}{u:A6}(r:RelV y u)(f:yO y=NG):Xf x u=eqV y x:=by
 cases y with
 | non=>cases r;rfl
 | bl b=>cases r;rfl
 | int i=>obtain⟨t,rfl⟩:=r;rfl
 | str z=>obtain⟨t,rfl⟩:=r;rfl
 | _=>exact absurd (show NH=NG from f) E2
theorem Fe{x:V}:∀{xs:List V} {us:List A6},Vals xs us→xs.all yO=NG→us.any (Xf x)=xs.any λy=>eqV y x
 | _,_,.nil,_=>rfl
 | y::xs,u::us,.cons r t,f=>by rw[t9,G9]at f;rw[U0,U0,aAb r f.1,Fe t f.2]
theorem yP{A:AN}{s:A8}{x:V}{v:A6}(rx:RelV x v)(fx:yO x=NG):∀{xs:List V} {us:List A6},Vals xs us→xs.all yO=NG→∀u∈us,LX A s u v (Xf x u)
 | _,_,.nil,_=>λu hu=>by cases hu
 | y::xs,u::us,.cons r t,f=>λu' hu=>by
  rw[t9,G9]at f;rcases C5.mp hu with rfl | hu
  ·rw[aAb r f.1];exact aFA r rx f.1 fx
  ·exact yP rx fx t f.2 u' hu
def inV(x:V)(xs:List V):Bool:=xs.any λy=>eqV y x
def rIn(K:aF)(neg:Bool):R2:=λx y H Q=>∃p xs,y=.ref p∧(pQ K H p xs∨xR K H p xs)∧yO x=NG∧xs.all yO=NG∧Q (.bl (if neg then !inV x xs else inV x xs)) H
theorem nu:uM X (AS .In) (rIn X.K NH):=by
 intro pins s σ H x y v u Q I rx ry h;obtain⟨p,xs,rfl,hq,fx,fs,q⟩:=h;cases ry;rcases hq with hq | hq
 ·obtain⟨its,r,pl,hz⟩:=I.list hq;refine SeqAt.in_listAt (Xf x) pl.isList (λw hw=>yP rx fx r fs w (by simpa using hw)) ⟨.bl _,H,I,U,?_⟩;rw[show its.toArray.any (Xf x)=its.any (Xf x) by simp,Fe r fs];exact q
 ·obtain⟨its,r,pl,hz⟩:=I.tuple hq;refine SeqAt.in_tupleAt (Xf x) pl (λw hw=>yP rx fx r fs w (by simpa using hw)) ⟨.bl _,H,I,U,?_⟩;rw[show its.toArray.any (Xf x)=its.any (Xf x) by simp,Fe r fs];exact q
theorem Xg:uM X (AS .NotIn) (rIn X.K NG):=by
 intro pins s σ H x y v u Q I rx ry h;obtain⟨p,xs,rfl,hq,fx,fs,q⟩:=h;cases ry;rcases hq with hq | hq
 ·obtain⟨its,r,pl,hz⟩:=I.list hq;refine SeqAt.notIn_listAt (Xf x) pl.isList (λw hw=>yP rx fx r fs w (by simpa using hw)) ⟨.bl _,H,I,U,?_⟩;rw[show its.toArray.any (Xf x)=its.any (Xf x) by simp,Fe r fs];exact q
 ·obtain⟨its,r,pl,hz⟩:=I.tuple hq;refine SeqAt.notIn_tupleAt (Xf x) pl (λw hw=>yP rx fx r fs w (by simpa using hw)) ⟨.bl _,H,I,U,?_⟩;rw[show its.toArray.any (Xf x)=its.any (Xf x) by simp,Fe r fs];exact q
theorem Xh:mZ X (.builtin "len") (λxs H Q=>∃p ys,xs=[.ref p]∧(pQ X.K H p ys∨xR X.K H p ys)∧Q (.int ys.length) H):=by
 intro pins s σ H xs us Q I r h;obtain⟨p,ys,rfl,hq,q⟩:=h;obtain⟨u,rfl,rx⟩:=vals1 r;cases rx;have hn:=My;rcases hq with hq | hq
 ·obtain⟨its,r',pl,hz⟩:=I.list hq;have hlen:=r'.length;exact Calls.call_len_list pl.isList (by simp only[D3]<;>omega) ⟨.int ys.length,H,I.tok _,⟨s.toks+1,by rw[D3,hlen]⟩,q⟩
 ·obtain⟨its,r',pl,hz⟩:=I.tuple hq;have hlen:=r'.length;exact len_tuple pl (by simp only[D3]<;>omega) ⟨.int ys.length,H,I.tok _,⟨s.toks+1,by rw[D3,hlen]⟩,q⟩
theorem Xi:mZ X (.type "list") (λxs H Q=>∃p ys,xs=[.ref p]∧(pQ X.K H p ys∨xR X.K H p ys)∧∀l,H l=none→Q (.ref l) (upd H l (.lst ys))):=by
 intro pins s σ H xs us Q I r h;obtain⟨p,ys,rfl,hq,q⟩:=h;obtain⟨u,rfl,rx⟩:=vals1 r;cases rx;have fin:∀(its:List A6),Vals ys its→ys.length≤sizeLine→∀(h':AM)(c':Nat),(∀b o',s.heap.get? b=ND o'→h'.get? b=ND o') →
   h'.get? s.heap.objs.size=ND {cls:=.type "list", dict:=none,data:=.seq its.toArray c',slots:=#[]}→EP X pins σ Q (.ref s.heap.objs.size) {s with heap:=h'}:=λits r' hz h' c' kp e=>
  ⟨.ref s.heap.objs.size,_,I.laid (t':=s.toks) kp (D1 _) (show iV X.prog X.w _ h' _ (.lst ys)from⟨hz,its,c',r',e⟩),U,q _ (I.hok.fresh (D1 _))⟩
 rcases hq with hq | hq
 ·obtain⟨its,r',pl,hz⟩:=I.list hq;have hlen:=r'.length;obtain⟨o,ho,hc,n,hd⟩:=pl.isList;exact KS p (.inl U) ho hc hd (λh' c' kp e=>fin its r' hz h' c' kp e) (by simp only[D3]<;>omega)
 ·obtain⟨its,r',pl,hz⟩:=I.tuple hq;have hlen:=r'.length;obtain⟨o,ho,hc,n,hd⟩:=pl;exact KS p (.inr U) ho hc hd (λh' c' kp e=>fin its r' hz h' c' kp e) (by simp only[D3]<;>omega)
theorem Ry:mZ X (.type "tuple") (λxs H Q=>∃p ys,xs=[.ref p]∧((pQ X.K H p ys∧∀l,H l=none→Q (.ref l) (upd H l (.tup ys)))∨(xR X.K H p ys∧Q (.ref p) H))):=by
 intro pins s σ H xs us Q I r h;obtain⟨p,ys,rfl,h⟩:=h;obtain⟨u,rfl,rx⟩:=vals1 r;cases rx;rcases h with ⟨hq,q⟩ | ⟨hq,q⟩
 ·obtain⟨its,r',pl,hz⟩:=I.list hq;have hlen:=r'.length;refine call_tuple_list pl.isList (λh' kp=>?_) (by simp only[D3]<;>omega);have I1:Inv X pins σ H {s with heap:=h'}:=I.kept (t':=s.toks) kp;have I2:Inv X pins σ (upd H h'.objs.size (.tup ys)) {s with heap:=h'.push {cls:=.type "tuple", data:=.seq its.toArray}}:=
   I1.laid (t':=s.toks) (λb o e=>AA _ e) (D1 _) (show iV X.prog X.w _ _ _ (.tup ys)from⟨hz,its,r',IsTup.new _ _⟩)
  exact⟨.ref h'.objs.size,_,I2,U,q _ (I1.hok.fresh (D1 _))⟩
 ·obtain⟨its,r',pl,hz⟩:=I.tuple hq;exact call_tuple_same pl ⟨.ref p,H,I,U,q⟩
def tyV(K:aF)(T:String)(x:V)(H:Hp):Prop:=match x with
 | .str _=>T = "str"
 | .int _=>T = "int"
 | .ref p=>(T = "list" ∧ ∃xs,pQ K H p xs)∨(T = "tuple" ∧ ∃o,K.lookup p=ND o∧o.cls=.type "tuple" ∧ o.dict=none) ∨
   (T = "dict" ∧ ((∃kvs,H p=ND (.dK kvs))∨∃kvs,H p=ND (.dT kvs)))∨(T = "set" ∧ ∃S n,H p=ND (.set S n))
 | _=>False
theorem aFC{pins:List (A7×Obj)}{σ:St}{H:Hp}{s:A8}{T:String}{x:V}{v:A6}(I:Inv X pins σ H s)(r:RelV x v)(ty:tyV X.K T x H) :
  s.TypeIs v T∧∀a,v=.ref a→∃ob,s.heap.get? a=ND ob∧ob.dict=none:=by
 cases x with
 | str z=>
  obtain⟨t,rfl⟩:=r
  cases(show T = "str" from ty)
  exact⟨typeIs_str s z t,λ_ e=>nomatch e⟩
 | int i=>
  obtain⟨t,rfl⟩:=r
  cases(show T = "int" from ty)
  exact⟨typeIs_int s i t,λ_ e=>nomatch e⟩
 | ref p=>
  cases r;rcases ty with ⟨rfl,xs,hq⟩ | ⟨rfl,o,hk,hc,hd⟩ | ⟨rfl,hk⟩ | ⟨rfl,S,n,hk⟩
  ·obtain⟨its,_,pl,_⟩:=I.list hq;refine⟨pl.isList.typeIs,λa e=>?_⟩;cases e;obtain⟨o,n,e,c,hd,_⟩:=pl;exact⟨o,e,hd⟩
  ·refine⟨⟨o,I.Ht p o hk,hc⟩,λa e=>?_⟩;cases e;exact⟨o,I.Ht _ o hk,hd⟩
  ·have z:∃o,s.heap.get? p=ND o∧o.ExactDict:=by
    rcases hk with ⟨kvs,hk⟩ | ⟨kvs,hk⟩
    ·obtain⟨_,_,_,_,o,_,_,e,ex,_⟩:=I.hok p _ hk;exact⟨o,e,ex⟩
    ·obtain⟨_,_,_,_,o,_,_,e,ex,_⟩:=I.hok p _ hk;exact⟨o,e,ex⟩
   obtain⟨o,e,ex⟩:=z;refine⟨⟨o,e,ex.1⟩,λa e2=>?_⟩;cases e2;exact⟨o,e,ex.2.1⟩
  ·obtain⟨o,_,_,_,e,ex,_⟩:=I.hok p _ hk;refine⟨⟨o,e,ex.1⟩,λa e2=>?_⟩;cases e2;exact⟨o,e,ex.2.1⟩
 | _=>exact False.elim ty
def Hw(K:aF)(T:String)(r:V→List V→Hp→VK→Prop)(to:TE)(t:TA):TE:=λσ H Q=>to σ H λx H1=>tyV K T x H1∧t σ H1 λxs H2=>r x xs H2 Q
variable{o e:AD}{es:List AD}{to:TE}{t:TA}{name:Str}{apos cpos:Pos}{T id:String}{r:V→List V→Hp→VK→Prop}
theorem pF(pa:PlainAttrs T)(slot:Slot T name id)(hty:typeOf (.builtin id)=pure (.type "method_descriptor")) (hm:MtR X id r) (ho:PE X o to) (ha:PA X (e::es) t)
  (hbase:CI o name X.env (AO o X.env)=AO o X.env:=by rfl)
  (hfew:((AZ cpos (AB (e::es) X.env)).all (λx=>!x.1)&&(DL cpos (CA [] X.env)).all (λx=>x.1.isSome)
   && decide ((e::es).length+([]:List EV).length+(if([]:List EV).isEmpty then 0 else 1)<30))=NG:=by rfl)
  (hline:(apos.endLine==cpos.line)=NG:=by rfl) (hs:AB (e::es) X.env=(NH,AO e X.env)::AB es X.env:=by rfl) (hplain:(AZ cpos (AB es X.env)).any (·.1)=NH:=by rfl) :
  PE X (.Call (.Attribute o name apos) (e::es) [] cpos) (Hw X.K T r to t):=by
 intro pins s σ H Q I h;refine wpAny_Call_method_late hbase hfew hline U (iM (ho pins s σ H _ I h) λv s1 ⟨x,H1,I1,r1,ty,q1⟩=>?_);obtain⟨h1,h2⟩:=aFC I1 r1 ty;refine⟨T,id,pa,slot,hty,h1,h2,?_⟩;have hA:=ha cpos pins s1 σ H1 _ I1 q1;rw[hs]at hA ⊢;refine Fa (by show (NH||(AZ cpos (AB es X.env)).any (·.1))=NH;rw[hplain]<;>rfl) (GI ?_);exact iM hA λus s2 ⟨vs,H2,I2,r2,q2⟩=>hm pins s2 σ H2 x vs v us Q I2 r1 r2 q2
end
end L2
namespace L2
open PySem PySem.Spec PyProof.Rows
def MtM(X:Cx)(id:String)(r:V→List V→Hp→VK→Prop):Prop:=
 ∀(pins:List (A7×Obj))(s:A8)(σ:St)(H:Hp)(x:V)(xs:List V)(v:A6)(us:List A6)(Q:VK),Inv X pins σ H s→RelV x v→Vals xs us→r x xs H Q →
  AF (AG X.prog X.w) X.A (call (.builtin id) (v::us)) (EP X pins σ Q) X.xe s
theorem Vals.one:∀{x:V} {us:List A6},Vals [x] us→∃u,us=[u]∧RelV x u
 | _,_,.cons r .nil=>⟨_,U,r⟩
theorem Vals.two:∀{x y:V} {us:List A6},Vals [x,y] us→∃u v,us=[u,v]∧RelV x u∧RelV y v
 | _,_,_,.cons r (.cons q .nil)=>⟨_,_,U,r,q⟩
theorem Vals.eraseIdx:∀{xs:List V} {us:List A6} (i:Nat),Vals xs us→Vals (xs.eraseIdx i) (us.eraseIdx i)
 | _,_,_,.nil=>.nil
 | _,_,0,.cons _ t=>t
 | _,_,i+1,.cons r t=>.cons r (Vals.eraseIdx i t)
theorem Hx{α:Type}:∀(l:List α)(i:Nat),(l.eraseIdx i).length≤l.length
 | [],_=>D1 _
 | _::_,0=>L9 _
 | _::r,i+1=>U1 (Hx r i)
section
variable{X:Cx}{pins:List (A7×Obj)}{σ:St}{H:Hp}{s:A8}{l b:A7}{xs ys zs:List V}
theorem Inv.aCK{its its':List A6}{n:Nat}{f:Array A6→Array A6}{t':Nat}(I:Inv X pins σ H s)(hH:H l=ND (.lst xs))
  (e:s.heap.get? l=ND {cls:=.type "list", data:=.seq its.toArray n}) (hf:f its.toArray=its'.toArray) (hv:Vals ys its') (hz:ys.length≤sizeLine) :
  Inv X pins σ (upd H l (.lst ys)) {s with heap:=s.heap.update l (DM f),toks:=t'}:=by
 have q:=PySem.IsL.update e f;rw[hf]at q;refine I.write (x:=l) (e:=l) (by rw[hH];exact trivial) (.inl U) (λb' u hb hu=>(BC s.heap (DM f) (Ne.symm hb)).trans hu) ⟨_,q⟩ ?_;exact⟨hz,its',_,hv,q⟩
theorem Inv.aHK{its:List A6}{t':Nat}(I:Inv X pins σ H s)(hv:Vals ys its)(hz:ys.length≤sizeLine) :
  Inv X pins σ (upd H s.heap.objs.size (.lst ys)) {s with heap:=s.heap.push {cls:=.type "list", data:=.seq its.toArray},toks:=t'}:=
 I.laid (λ_ _ q=>AA _ q) (D1 _) ⟨hz,its,0,hv,AK _ U⟩
theorem Inv.fresh(I:Inv X pins σ H s):H s.heap.objs.size=none:=I.hok.fresh (D1 _)
theorem Inv.aCL(I:Inv X pins σ H s)(hH:H l=ND (.lst xs)):xs.length≤sizeLine∧∃(its:List A6)(n:Nat),Vals xs its∧xs.length=its.length∧s.heap.get? l=ND {cls:=.type "list", data:=.seq its.toArray n}:=by obtain⟨z,its,n,r,e⟩:=I.hok l _ hH;exact⟨z,its,n,r,r.length,e⟩
end
section
variable{X:Cx}
def nH:V→List V→Hp→VK→Prop:=λx vs H Q=>∃l xs y,x=.ref l∧vs=[y]∧H l=ND (.lst xs)∧xs.length<sizeLine∧Q .non (upd H l (.lst (xs++[y])))
theorem kW:MtM X "list.append" nH:=by intro pins s σ H x vs v us Q I rx rv h;obtain⟨l,xs,y,rfl,rfl,hH,hz,q⟩:=h;cases rx;obtain⟨u,rfl,ru⟩:=rv.one;obtain⟨z,its,n,r,hl,e⟩:=I.aCL hH;refine EU F.slot_list_append ⟨_,e,U⟩ F.entry_list_append (F.args_list_append_2 _ _) (PySem.list_append l its.toArray n u (by rw[D3];omega)) ⟨e,?_⟩;refine⟨.non,_,I.aCK (its':=its++[u]) hH e (by simp) (r.append (.cons ru .nil)) ?_,U,q⟩;rw[C7,List.length_singleton];omega
def Xj:V→List V→Hp→VK→Prop:=λx vs H Q=>∃l xs i k y,x=.ref l∧vs=[.int i]∧H l=ND (.lst xs)∧-(2 ^ 63)≤i∧i<2 ^ 63∧KI i xs.length=ND k∧xs[k]?=ND y∧Q y (upd H l (.lst (xs.eraseIdx k)))
theorem aAc:MtM X "list.pop" Xj:=by
 intro pins s σ H x vs v us Q I rx rv h;obtain⟨l,xs,i,k,y,rfl,rfl,hH,h1,h2,hk,hy,q⟩:=h;cases rx;obtain⟨u,rfl,ru⟩:=rv.one;obtain⟨t,rfl⟩:=ru;obtain⟨z,its,n,r,hl,e⟩:=I.aCL hH;obtain⟨w,hw,Ru⟩:=r.get hy;refine EU F.slot_list_pop ⟨_,e,U⟩ F.entry_list_pop (F.args_list_pop_2 _ _)
  (Ll l its.toArray n i t k w (JJ h1 h2) (by rw[D3,←hl];exact hk) (by rw[←L8];exact hw) (by rw[D3];omega)) ⟨e,?_⟩
 refine⟨y,_,I.aCK (its':=its.eraseIdx k) hH e ?_ (r.eraseIdx k) ?_,Ru,q⟩
 ·show its.toArray.eraseIdxIfInBounds k=(its.eraseIdx k).toArray;rw[U8]
 ·have:=Hx xs k;omega
end
section
variable{prog:AI}{w:AL}{A:AN}{E:A6→A8→Prop}{s:A8}
end
section
variable{X:Cx}
end
end L2
namespace L2
open PySem PySem.Spec PyProof.Rows
section
variable{κ:Type} [DecidableEq κ]
def wH(kvs:List (κ×V))(k:κ):Option V:=(kvs.find? λkv=>decide (kv.1=k)).map (·.2)
def putK(kvs:List (κ×V))(k:κ)(v:V):List (κ×V):=
 if(kvs.any λkv=>decide (kv.1=k))=NG then kvs.map (λkv=>if kv.1=k then(kv.1,v)else kv)else kvs++[(k,v)]
def aKh(kvs:List (κ×V))(k:κ):List (κ×V):=kvs.filter λkv=>decide (kv.1≠k)
theorem Nb{p:κ×V}{r:List (κ×V)}{k:κ}(e:p.1=k):wH (p::r) k=ND p.2:=by simp[wH,P2,e]
theorem Nf{p:κ×V}{r:List (κ×V)}{k:κ}(e:¬p.1=k):wH (p::r) k=wH r k:=by simp[wH,P2,e]
theorem Ng(k:κ):∀kvs:List (κ×V),(kvs.any λkv=>decide (kv.1=k))=(wH kvs k).isSome
 | []=>rfl
 | p::r=>by
  rw[U0];by_cases e:p.1=k
  ·simp only[Nb e,decide_eq_true e,Bool.true_or,i7]
  ·rw[Nf e,decide_eq_false e,Bool.false_or];exact Ng k r
theorem yQ(kvs:List (κ×V))(k:κ)(v:V):(putK kvs k v).length≤kvs.length+1:=by
 unfold putK;split
 ·rw[B7];omega
 ·rw[C7,D8,List.length_nil];omega
theorem yD.vC{o:Option V}{u:Option A6}(r:yD o u):o.isSome=u.isSome:=by
 cases o with
 | none=>cases u with
  | none=>rfl
  | some _=>exact(show False from r).elim
 | some _=>cases u with
  | none=>exact(show False from r).elim
  | some _=>rfl
theorem yD.getD{o:Option V}{u:Option A6}{d:V}{d':A6}(r:yD o u)(rd:RelV d d'):RelV (o.getD d) (u.getD d'):=by
 cases o with
 | none=>cases u with
  | none=>exact rd
  | some _=>exact(show False from r).elim
 | some _=>cases u with
  | none=>exact(show False from r).elim
  | some _=>exact r
theorem KV.val{kvs:List (κ×V)}{vs:List (κ×A6)}(r:KV kvs vs)(k:κ):yD (wH kvs k) (EW vs k):=by
 unfold KV at r
 induction r with
 | nil=>exact True.intro
 | @cons p q ps qs h t ih=>
  obtain⟨h1,h2⟩:=h;by_cases e:p.1=k
  ·have e':q.1=k:=h1.symm.trans e;have b:EW (q::qs) k=ND q.2:=by simp[EW,P2,e']
   rw[Nb e,b];exact h2
  ·have e':¬q.1=k:=λz=>e (h1.trans z);have b:EW (q::qs) k=EW qs k:=by simp[EW,P2,e']
   rw[Nf e,b];exact ih
theorem KV.any{kvs:List (κ×V)}{vs:List (κ×A6)}(r:KV kvs vs)(k:κ):(kvs.any λkv=>decide (kv.1=k))=vs.any λkv=>decide (kv.1=k):=by
 unfold KV at r
 induction r with
 | nil=>rfl
 | cons h t ih=>rw[U0,U0,ih,h.1]
theorem KV.repl{kvs:List (κ×V)}{vs:List (κ×A6)}(r:KV kvs vs)(k:κ){y:V}{u:A6}(ry:RelV y u) :
  KV (kvs.map λkv=>if kv.1=k then(kv.1,y)else kv) (vs.map λkv=>if kv.1=k then(kv.1,u)else kv):=by
 unfold KV at r ⊢
 induction r with
 | nil=>exact .nil
 | @cons p q ps qs h t ih=>
  rw[D5,D5];refine .cons ?_ ih;obtain⟨h1,h2⟩:=h;by_cases e:p.1=k
  ·rw[if_pos e,if_pos (h1.symm.trans e)];exact⟨h1,ry⟩
  ·rw[if_neg e,if_neg (λz=>e (h1.trans z))];exact⟨h1,h2⟩
theorem KV.put{kvs:List (κ×V)}{vs:List (κ×A6)}(r:KV kvs vs)(k:κ){y:V}{u:A6}(ry:RelV y u):KV (putK kvs k y) (stored vs k u):=by
 unfold putK stored;rw[r.any k];by_cases e:(vs.any λkv=>decide (kv.1=k))=NG
 ·rw[if_pos e,if_pos e];exact r.repl k ry
 ·rw[if_neg e,if_neg e];exact LW r ⟨U,ry⟩
theorem KV.keys{kvs:List (κ×V)}{vs:List (κ×A6)}(r:KV kvs vs):kvs.map (·.1)=vs.map (·.1):=by
 unfold KV at r
 induction r with
 | nil=>rfl
 | cons h t ih=>rw[D5,D5,ih,h.1]
theorem KV.length{kvs:List (κ×V)}{vs:List (κ×A6)}(r:KV kvs vs):kvs.length=vs.length:=GN r
end
theorem Uh{P:AI}{w:AL}{k:Key}{u:A6}(r:RelV (kV k) u):(iB P w).is k u=NG:=by
 cases k with
 | inl i=>obtain⟨t,e⟩:=(show ∃t,u=CL i t from r);subst e;exact CV P w i t
 | inr x=>obtain⟨t,e⟩:=(show ∃t,u=FM x t from r);subst e;exact CW P w x t
theorem Ui{P:AI}{w:AL}:∀{ks:List Key} {us:List A6},Vals (ks.map kV) us→ItemsAre (iB P w) ks us
 | [],_,r=>by rw[L3]at r;cases r;exact .nil
 | k::ks,_,r=>by
  rw[D5]at r;cases r with
  | cons h t=>exact .cons (Uh h) (Ui t)
abbrev KT(H:Hp):List (List Key×V)→List (List Key×A7×A6)→Prop:=Paired λp q=>p.1=q.1∧H q.2.1=ND (.tup (p.1.map kV))∧RelV p.2 q.2.2
theorem KT.val{H:Hp}{kvs:List (List Key×V)}{xs:List (List Key×A7×A6)}(r:KT H kvs xs)(k:List Key):yD (wH kvs k) ((FR xs k).map (·.2)):=by
 induction r with
 | nil=>exact True.intro
 | @cons p q ps qs h t ih=>
  obtain⟨h1,_,h2⟩:=h;by_cases e:p.1=k
  ·have e':q.1=k:=h1.symm.trans e;have b:FR (q::qs) k=ND q.2:=by simp[FR,P2,e']
   rw[Nb e,b];exact h2
  ·have e':¬q.1=k:=λz=>e (h1.trans z);have b:FR (q::qs) k=FR qs k:=by simp[FR,P2,e']
   rw[Nf e,b];exact ih
theorem KT.repl{H:Hp}{kvs:List (List Key×V)}{xs:List (List Key×A7×A6)}(r:KT H kvs xs)(k:List Key){y:V}{u:A6}(ry:RelV y u) :
  KT H (kvs.map λkv=>if kv.1=k then(kv.1,y)else kv) (xs.map (putAt k u)):=by
 induction r with
 | nil=>exact .nil
 | @cons p q ps qs h t ih=>
  rw[D5,D5];refine .cons ?_ ih;obtain⟨h1,h2,h3⟩:=h;unfold putAt;by_cases e:p.1=k
  ·rw[if_pos e,if_pos (h1.symm.trans e)];exact⟨h1,h2,ry⟩
  ·rw[if_neg e,if_neg (λz=>e (h1.trans z))];exact⟨h1,h2,h3⟩
theorem KT.put{H:Hp}{kvs:List (List Key×V)}{xs:List (List Key×A7×A6)}(r:KT H kvs xs)(k:List Key){b:A7}{y:V}{u:A6}(hb:H b=ND (.tup (k.map kV)))(ry:RelV y u) :
  KT H (putK kvs k y) (storedH xs k b u):=by
 have e:(kvs.any λkv=>decide (kv.1=k))=(FR xs k).isSome:=by rw[Ng,(r.val k).vC,X6]
 unfold putK storedH;rw[e];by_cases q:(FR xs k).isSome=NG
 ·rw[if_pos q,if_pos q];exact r.repl k ry
 ·rw[if_neg q,if_neg q];exact LW r ⟨U,hb,ry⟩
theorem KT.keeps{H H':Hp}{kvs:List (List Key×V)}{xs:List (List Key×A7×A6)}(r:KT H kvs xs)(ht:∀b ys,H b=ND (.tup ys)→H' b=ND (.tup ys)):KT H' kvs xs:=
 Paired.aE3 r λ_ _ z=>⟨z.1,ht _ _ z.2.1,z.2.2⟩
section
variable{P:AI}{w:AL}{H:Hp}{h:AM}{a:A7}
theorem aEi{u:HO}(ok:Cq P w H h)(e:Rd H a u):iV P w H h a u:=e.ok ok
theorem Jy{kvs:List (Key×V)}(ok:Cq P w H h)(e:Rd H a (.dK kvs)):kvs.length≤sizeLine∧(a==BO)=NH∧∃vs,KV kvs vs∧h.DictOf (iB P w) a vs:=
 show iV P w H h a (.dK kvs)from aEi ok e
theorem aHL{kvs:List (Key×V)}(ok:Cq P w H h)(e:H a=ND (.dK kvs)):kvs.length≤sizeLine∧(a==BO)=NH∧∃vs,KV kvs vs∧h.DictOf (iB P w) a vs:=Jy ok (.inl e)
theorem Hy{ks:List Key}(ok:Cq P w H h)(e:H a=ND (.tup (ks.map kV))):(EI (iB P w)).is h ks a:=by
 obtain⟨_,its,r,o,h1,h2,n,h3⟩:=(show iV P w H h a (.tup (ks.map kV))from ok a _ e)
 exact⟨o,its.toArray,n,h1,h2,h3,by simpa using Ui r⟩
theorem Nh{kvs:List (List Key×V)}(ok:Cq P w H h)(e:Rd H a (.dT kvs)):kvs.length≤sizeLine∧(a==BO)=NH ∧
  ∃xs,KT H kvs xs∧h.DictOfH (EI (iB P w)) a xs:=by
 obtain⟨z,y,xs,r,o,es,ep,h1,h2,h3,h4,h5⟩:=(show iV P w H h a (.dT kvs)from aEi ok e)
 refine⟨z,y,xs,r,o,es,ep,h1,h2,h3,h4,λx hx=>?_,h5⟩;have all:∀{l:List (List Key×V)} {m:List (List Key×A7×A6)},KT H l m→∀x∈m,(EI (iB P w)).is h x.1 x.2.1:=by
  intro l m q
  induction q with
  | nil=>intro x hx;exact nomatch hx
  | @cons p q ps qs hq t ih=>
   intro x hx;rcases C5.mp hx with e | hx
   ·subst e;exact Hy ok (by rw[←hq.1];exact hq.2.1)
   ·exact ih x hx
 exact all r x hx
theorem aHM{kvs:List (List Key×V)}(ok:Cq P w H h)(e:H a=ND (.dT kvs)):kvs.length≤sizeLine∧(a==BO)=NH ∧
  ∃xs,KT H kvs xs∧h.DictOfH (EI (iB P w)) a xs:=Nh ok (.inl e)
end
def Ky(H:Hp)(a:A7)(y:V)(r:Option V):Prop:=
 (∃kvs k,Rd H a (.dK kvs)∧y=kV k∧r=wH kvs k)∨∃kvs k b,Rd H a (.dT kvs)∧y=.ref b∧H b=ND (.tup (k.map kV))∧r=wH kvs k
def aHN(H:Hp)(a:A7)(y v:V)(H':Hp):Prop:=
 (∃kvs k,H a=ND (.dK kvs)∧y=kV k∧kvs.length<sizeLine∧H'=upd H a (.dK (putK kvs k v))) ∨
 ∃kvs k b,H a=ND (.dT kvs)∧y=.ref b∧H b=ND (.tup (k.map kV))∧kvs.length<sizeLine∧H'=upd H a (.dT (putK kvs k v))
section
variable{X:Cx}{pins:List (A7×Obj)}{σ:St}{H:Hp}{s:A8}{a:A7}{y v:V}{u r:A6}{o:Option V}{A:AN}{E:A6→A8→Prop}
theorem Inv.big(I:Inv X pins σ H s):BO<s.heap.objs.size:=by have h:AV<s.heap.objs.size:=(I.mod.glob.keeps I.bk).lt;exact Nat.lt_trans (by decide) h
theorem oh{Q:A6→A8→Prop}(hu:A.units+1<As)(I:Inv X pins σ H s)(g:Ky H a y (ND v))(ry:RelV y u)(h:∀w' s',Inv X pins σ H s'→RelV v w'→Q w' s') :
  AF (AG X.prog X.w) A (Fm (.ref a) u) Q E s:=by
 rcases g with ⟨kvs,k,e,ey,l⟩ | ⟨kvs,k,b,e,ey,eb,l⟩
 ·subst ey;obtain⟨z,hd,vs,rel,dd⟩:=Jy I.hok e;obtain⟨w',hw,Ru⟩:=yD.some_of (v:=v) (o:=EW vs k) (by rw[l];exact rel.val k);exact wpAny_getItem_of (Uh ry) dd.mapOf hw (h w' _ (I.tok _) Ru)
 ·subst ey
  cases(show u=AQ b from ry)
  obtain⟨z,hd,xs,rel,dd⟩:=Nh I.hok e;obtain⟨w',hw,Ru⟩:=yD.some_of (v:=v) (o:=(FR xs k).map (·.2)) (by rw[l];exact rel.val k);obtain⟨p,hp,hp2⟩:=lJ hw;refine wpAny_getItem_heap (CM hu) (Hy I.hok eb) dd hp ?_;rw[hp2];exact h w' _ (I.tok _) Ru
theorem aHO{Q:A6→A8→Prop}(hu:A.units+1<As)(I:Inv X pins σ H s)(g:Ky H a y o)(ry:RelV y u)(h:∀s',Inv X pins σ H s'→Q (.bool o.isSome) s') :
  AF (AG X.prog X.w) A (AS .In u (.ref a)) Q E s:=by
 rcases g with ⟨kvs,k,e,ey,l⟩ | ⟨kvs,k,b,e,ey,eb,l⟩
 ·subst ey;obtain⟨z,hd,vs,rel,dd⟩:=Jy I.hok e;refine wpAny_in_of (Uh ry) hd dd.mapOf ?_;rw[←(rel.val k).vC,←l];exact h _ (I.tok _)
 ·subst ey
  cases(show u=AQ b from ry)
  obtain⟨z,hd,xs,rel,dd⟩:=Nh I.hok e;refine wpAny_in_heap (CM hu) (Hy I.hok eb) hd dd ?_;have q:=(rel.val k).vC;rw[X6]at q;rw[←q,←l];exact h _ (I.tok _)
theorem aCM{Q:A6→A8→Prop}(hu:A.units+1<As)(I:Inv X pins σ H s)(g:Ky H a y o)(ry:RelV y u)(h:∀s',Inv X pins σ H s'→Q (.bool (!o.isSome)) s') :
  AF (AG X.prog X.w) A (AS .NotIn u (.ref a)) Q E s:=by
 rcases g with ⟨kvs,k,e,ey,l⟩ | ⟨kvs,k,b,e,ey,eb,l⟩
 ·subst ey;obtain⟨z,hd,vs,rel,dd⟩:=Jy I.hok e;refine wpAny_notIn_of (Uh ry) hd dd.mapOf ?_;rw[←(rel.val k).vC,←l];exact h _ (I.tok _)
 ·subst ey
  cases(show u=AQ b from ry)
  obtain⟨z,hd,xs,rel,dd⟩:=Nh I.hok e;refine wpAny_notIn_heap (CM hu) (Hy I.hok eb) hd dd ?_;have q:=(rel.val k).vC;rw[X6]at q;rw[←q,←l];exact h _ (I.tok _)
theorem aq{h':AM}{t':Nat}{ob:HO}(I:Inv X pins σ H s)(mu:Mut (H a))(hs:BG a s.heap h')(he:∃q,h'.get? a=ND q)(new:iV X.prog X.w (upd H a ob) h' a ob) :
  Inv X pins σ (upd H a ob) {s with heap:=h',toks:=t'}:=
 I.write (x:=a) (e:=a) mu (.inl U) (λb q hb z=>(hs.2 b hb).trans z) he new
theorem aFD{P:AI}{w:AL}{H':Hp}{h':AM}{kvs:List (Key×V)}{vs:List (Key×A6)}(z:kvs.length≤sizeLine)(hd:(a==BO)=NH)(rel:KV kvs vs)(dd:h'.DictOf (iB P w) a vs) :
  iV P w H' h' a (.dK kvs):=⟨z,hd,vs,rel,dd⟩
theorem ou{H':Hp}{Q:Unit→A8→Prop}(hu:A.units+1<As)(I:Inv X pins σ H s)(g:aHN H a y v H')(ry:RelV y u)(rv:RelV v r)(h:∀s',Inv X pins σ H' s'→Q () s') :
  AF (AG X.prog X.w) A (setItem (.ref a) u r) Q E s:=by
 rcases g with ⟨kvs,k,e,ey,l,eH⟩ | ⟨kvs,k,b,e,ey,eb,l,eH⟩
 ·subst ey eH;obtain⟨z,hd,vs,rel,dd⟩:=aHL I.hok e;have hz:vs.length≤sizeLine:=by rw[←rel.length];exact z
  have hl:(putK kvs k v).length≤sizeLine:=by have:=yQ kvs k v;omega
  refine wpAny_setItem_pairs (hsz:=hz) (Uh ry) dd λh' dd' hs=>h _ ?_;have he:∃q,h'.get? a=ND q:=let ⟨q,_,_,hq,_⟩:=dd';⟨q,hq⟩;exact aq I (by rw[e];exact True.intro) hs he (aFD hl hd (rel.put k rv) dd')
 ·subst ey eH
  cases(show u=AQ b from ry)
  obtain⟨z,hd,xs,rel,dd⟩:=aHM I.hok e;have hz:xs.length≤sizeLine:=by rw[←GN rel];exact z
  have hl:(putK kvs k v).length≤sizeLine:=by have:=yQ kvs k v;omega
  refine wpAny_setItem_heap (hsz:=hz) (CM hu) (Hy I.hok eb) dd λh' dd' hs=>h _ ?_;obtain⟨q,es,ep,hq,h2,h3,h4,_,h5⟩:=dd';refine aq I (by rw[e];exact True.intro) hs ⟨q,hq⟩ ⟨hl,hd,_,(rel.put k eb rv).keeps λc ys ec=>?_,q,es,ep,hq,h2,h3,h4,h5⟩;rw[bN (aHj ec e (λz=>nomatch z))];exact ec
end
section
variable{X:Cx}{pins:List (A7×Obj)}{σ:St}{H:Hp}{s:A8}{a:A7}{kvs:List (Key×V)}{k:Key}{u:A6}{A:AN}{E:A6→A8→Prop}
end
def aFE(i:AD):Prop:=∀ov iv,FX i NH ov iv=operate [ov,iv] (Fm ov iv)
theorem aCN{prog:AI}{w:AL}{A:AN}{E:A6→A8→Prop}{s:A8}{env:Env}{value slice:AD}{pos:Pos}{T id:String}{Q:A6→A8→Prop}
  (hl:typeLookup (.type T) "__getitem__" = pure (ND (.builtin id))) (hs:aFE slice)
  (h:AF (AG prog w) A (AO value env) (λo s₁=>AF (AG prog w) A (AO slice env) (λi s₂=>s₂.TypeIs o T∧AF (AG prog w) A (Fm o i) Q E s₂) E s₁) E s) :
  AF (AG prog w) A (AO (.Subscript value slice pos) env) Q E s:=by
 refine IS (AX h (λo s₁ h₁=>AX h₁ (λi s₂ h₂=>?_) λ_ _ x=>x) λ_ _ x=>x);obtain⟨hT,h₂⟩:=h₂;unfold GV;refine A9 ?_;rw[getitemInPython_of_ne hT.not_modules];refine A9 (IT hT hl ?_);have fin:AF (AG prog w) A (FX slice NH o i) (λr s₃=>AF (AG prog w) A (letTemporaryGo value o r >>= λ_=>pure r) Q E s₃) E s₂:=by rw[hs o i];exact wpAny_operating (AX h₂ (λr s₃ h₃=>A9 (wpAny_letTemporaryGo (AE h₃))) λ_ _ x=>x)
 first
  | exact AE (A9 fin)
  | exact A9 (AE (A9 fin))
  | exact A9 fin
theorem FQ{X:Cx}{pins:List (A7×Obj)}{σ:St}{H:Hp}{s:A8}{a:A7}{y:V}{o:Option V}(I:Inv X pins σ H s)(g:Ky H a y o):s.TypeIs (.ref a) "dict" := by
 rcases g with ⟨kvs,k,e,_,_⟩ | ⟨kvs,k,b,e,_,_,_⟩
 ·obtain⟨_,_,vs,_,dd⟩:=Jy I.hok e;exact dd.typeIs
 ·obtain⟨_,_,xs,_,dd⟩:=Nh I.hok e;exact dd.typeIs
def aEj(td ty:TE):TE:=λσ H Q=>td σ H λx H1=>ty σ H1 λy H2=>∃a v,x=.ref a∧Ky H2 a y (ND v)∧Q v H2
def aCO(ty td:TE):TE:=λσ H Q=>ty σ H λy H1=>td σ H1 λx H2=>∃a o,x=.ref a∧Ky H2 a y o∧Q (.bl o.isSome) H2
def Xk(ty td:TE):TE:=λσ H Q=>ty σ H λy H1=>td σ H1 λx H2=>∃a o,x=.ref a∧Ky H2 a y o∧Q (.bl (!o.isSome)) H2
def Ff(td ty tv:TE):TS:=λD σ H=>tv σ H λv H1=>td σ H1 λx H2=>ty σ H2 λy H3=>∃a H4,x=.ref a∧aHN H3 a y v H4∧D.nx σ H4
section
variable{X:Cx}{o i e value:AD}{pos pos' tpos:Pos}{td ty tv:TE}
theorem aCP(hu:X.A.units+1<As)(ho:PE X o td)(hi:PE X i ty)(hs:aFE i):PE X (.Subscript o i pos) (aEj td ty):=by intro pins s σ H Q I h;refine aCN PySem.F.slot_dict_getitem.lookup hs (iM (ho pins s σ H _ I h) λu s1 ⟨x,H1,I1,rx,q1⟩=>iM (hi pins s1 σ H1 _ I1 q1) λiv s2 ⟨y,H2,I2,ry,a,v,ex,g,q2⟩=>?_);subst ex;obtain rfl:u=AQ a:=rx;exact⟨FQ I2 g,oh hu I2 g ry λw' s3 I3 Ru=>⟨v,H2,I3,Ru,q2⟩⟩
theorem SQ(hu:X.A.units+1<As)(hi:PE X i ty)(ho:PE X o td):PC X .In i o (aCO ty td):=by intro pins s σ H Q I h;refine iM (hi pins s σ H _ I h) λiv s1 ⟨y,H1,I1,ry,q1⟩=>iM (ho pins s1 σ H1 _ I1 q1) λu s2 ⟨x,H2,I2,rx,a,ov,ex,g,q2⟩=>?_;subst ex;obtain rfl:u=AQ a:=rx;exact aHO hu I2 g ry λs3 I3=>⟨.bl ov.isSome,H2,I3,U,q2⟩
theorem Uj(hu:X.A.units+1<As)(hi:PE X i ty)(ho:PE X o td):PC X .NotIn i o (Xk ty td):=by intro pins s σ H Q I h;refine iM (hi pins s σ H _ I h) λiv s1 ⟨y,H1,I1,ry,q1⟩=>iM (ho pins s1 σ H1 _ I1 q1) λu s2 ⟨x,H2,I2,rx,a,ov,ex,g,q2⟩=>?_;subst ex;obtain rfl:u=AQ a:=rx;exact aCM hu I2 g ry λs3 I3=>⟨.bl (!ov.isSome),H2,I3,U,q2⟩
theorem tX(hu:X.A.units+1<As)(ho:PE X o td)(hi:PE X i ty)(hv:PE X value tv)(hs:Co value (ND (.Subscript o i pos')) pos.line X.env=pure NH) :
  PS X (.Assign [.Subscript o i pos'] value pos) (Ff td ty tv):=by
 intro pins s σ H D I h;refine wpAny_Assign_Subscript (iM (hv pins s σ H _ I h) λr s1 ⟨v,H1,I1,rv,q1⟩=>iM (ho pins s1 σ H1 _ I1 q1) λu s2 ⟨x,H2,I2,rx,q2⟩=>iM (hi pins s2 σ H2 _ I2 q2) λiv s3 ⟨y,H3,I3,ry,a,H4,ex,g,q3⟩=>?_) hs;subst ex;obtain rfl:u=AQ a:=rx;exact ou hu I3 g ry rv λs4 I4=>⟨σ,H4,I4,q3⟩
end
theorem aAd{P:AI}{w:AL}{H:Hp}(h:AM)(hb:BO<h.objs.size):iV P w H (h.push {cls:=.type "dict", data:=.dict #[]}) h.objs.size (.dK []):=
 ⟨M3 _,beq_eq_false_iff_ne.mpr (Ne.symm (E9 hb)),[],.nil,Mb h⟩
theorem aAe{P:AI}{w:AL}{H:Hp}(h:AM)(hb:BO<h.objs.size):iV P w H (h.push {cls:=.type "dict", data:=.dict #[]}) h.objs.size (.dT []):=
 ⟨M3 _,beq_eq_false_iff_ne.mpr (Ne.symm (E9 hb)),[],.nil,_,#[],0,AK _ U,⟨U,U,U⟩,U,U,c9⟩
def SX:TE:=λ_ H Q=>∀p,H p=none→Q (.ref p) (upd H p (.dK []))
def aAf:TE:=λ_ H Q=>∀p,H p=none→Q (.ref p) (upd H p (.dT []))
section
variable{X:Cx}{pos:Pos}
theorem aAg:PE X (.Dict [] [] pos) SX:=λpins s σ H Q I h=>
 IH ⟨.ref s.heap.objs.size,_,I.laid (a:=s.heap.objs.size) (o:=.dK []) (t':=s.toks) (λ_ _ q=>AA _ q) (D1 _) (aAd s.heap I.big),U,h _ (I.hok.fresh (D1 _))⟩
theorem aAh:PE X (.Dict [] [] pos) aAf:=λpins s σ H Q I h=>
 IH ⟨.ref s.heap.objs.size,_,I.laid (a:=s.heap.objs.size) (o:=.dT []) (t':=s.toks) (λ_ _ q=>AA _ q) (D1 _) (aAe s.heap I.big),U,h _ (I.hok.fresh (D1 _))⟩
end
def TF:List (TE×TE)→St→Hp→(List (V×V)→Hp→Prop)→Prop
 | [],_,H,Q=>Q [] H
 | (tk,tv)::r,σ,H,Q=>tk σ H λx H1=>tv σ H1 λy H2=>TF r σ H2 λps H3=>Q ((x,y)::ps) H3
abbrev VV:List (V×V)→List (A6×A6)→Prop:=Paired λp q=>RelV p.1 q.1∧RelV p.2 q.2
def PPs(X:Cx)(pos:Pos)(keys:List (Option AD))(values:List AD)(trs:List (TE×TE)):Prop:=
 ∀(pins:List (A7×Obj))(s:A8)(σ:St)(H:Hp)(Q:List (V×V)→Hp→Prop),Inv X pins σ H s→TF trs σ H Q →
  AF (AG X.prog X.w) X.A (evalPairs (pairTrees keys values X.env pos)) (λvs s'=>∃ps H',Inv X pins σ H' s'∧VV ps vs∧Q ps H') X.xe s
structure M1(X:Cx)(o:AD)(m:Str)(apos:Pos)(e:AD)(cpos:Pos):Prop where
 base:CI o m X.env (AO o X.env)=AO o X.env
 few:((AZ cpos (AB [e] X.env)).all (λx=>!x.1)&&(DL cpos (CA [] X.env)).all (λx=>x.1.isSome)
  && decide (([e]:List AD).length+([]:List EV).length+(if([]:List EV).isEmpty then 0 else 1)<30))=NG
 line:(apos.endLine==cpos.line)=NG
 trees:AZ cpos (AB [e] X.env)=[(NH,AO e X.env)]
structure M2(X:Cx)(o:AD)(m:Str)(apos:Pos)(e f:AD)(cpos:Pos):Prop where
 base:CI o m X.env (AO o X.env)=AO o X.env
 few:((AZ cpos (AB [e,f] X.env)).all (λx=>!x.1)&&(DL cpos (CA [] X.env)).all (λx=>x.1.isSome)
  && decide (([e,f]:List AD).length+([]:List EV).length+(if([]:List EV).isEmpty then 0 else 1)<30))=NG
 line:(apos.endLine==cpos.line)=NG
 trees:AZ cpos (AB [e,f] X.env)=[(NH,AO e X.env),(NH,AO f X.env)]
def IsD(H:Hp)(a:A7):Prop:=(∃kvs,Rd H a (.dK kvs))∨∃kvs,Rd H a (.dT kvs)
theorem aFF{X:Cx}{pins:List (A7×Obj)}{σ:St}{H:Hp}{s:A8}{a:A7}(I:Inv X pins σ H s)(d:IsD H a) :
  s.TypeIs (.ref a) "dict" ∧ (∀b,AQ a=.ref b→∃ob,s.heap.get? b=ND ob∧ob.dict=none)∧(a==BO)=NH:=by
 rcases d with ⟨kvs,e⟩ | ⟨kvs,e⟩
 ·obtain⟨_,hd,vs,_,dd⟩:=Jy I.hok e;refine⟨dd.typeIs,λb q=>?_,hd⟩;cases q;obtain⟨ob,_,_,h1,h2,_⟩:=dd;exact⟨ob,h1,h2.2.1⟩
 ·obtain⟨_,hd,xs,_,dd⟩:=Nh I.hok e;refine⟨dd.typeIs,λb q=>?_,hd⟩;cases q;obtain⟨ob,_,_,h1,h2,_⟩:=dd;exact⟨ob,h1,h2.2.1⟩
section
variable{X:Cx}{pins:List (A7×Obj)}{σ:St}{H:Hp}{s:A8}{a:A7}{y d:V}{u r:A6}{o:Option V}{A:AN}{E:A6→A8→Prop}
theorem aFG{Q:A6→A8→Prop}(hu:A.units+1<As)(I:Inv X pins σ H s)(g:Ky H a y o)(ry:RelV y u)(h:∀w' s',Inv X pins σ H s'→RelV (o.getD .non) w'→Q w' s') :
  AF (AG X.prog X.w) A (call (.builtin "dict.get") [.ref a,u]) Q E s:=by
 rcases g with ⟨kvs,k,e,ey,l⟩ | ⟨kvs,k,b,e,ey,eb,l⟩
 ·subst ey;obtain⟨z,hd,vs,rel,dd⟩:=Jy I.hok e;refine LA U6 dd.typeIs b8 (Z5 _ _) (meets_dict_get (iB X.prog X.w) a (Uh ry) hd) ⟨_,dd.mapOf,h _ _ (I.tok _) ?_⟩;rw[l];exact(rel.val k).getD U
 ·subst ey
  cases(show u=AQ b from ry)
  obtain⟨z,hd,xs,rel,dd⟩:=Nh I.hok e;refine LA U6 dd.typeIs b8 (Z5 _ _) (meetsH_dict_get (EI (iB X.prog X.w)) a b hd) ⟨CM hu,k,xs,Hy I.hok eb,dd,h _ _ (I.tok _) ?_⟩;rw[l];exact(rel.val k).getD U
end
def aAi(td ty:TE):TE:=λσ H Q=>td σ H λx H1=>∃a,x=.ref a∧IsD H1 a∧ty σ H1 λy H2=>∃o,Ky H2 a y o∧Q (o.getD .non) H2
section
variable{X:Cx}{o e f:AD}{apos cpos:Pos}{td ty tx:TE}
theorem aAj(hu:X.A.units+1<As)(ho:PE X o td)(he:PE X e ty)(m:M1 X o "get" apos e cpos):PE X (.Call (.Attribute o "get" apos) [e] [] cpos) (aAi td ty):=by intro pins s σ H Q I h;refine wpAny_Call_method m.base m.few m.line PySem.F.plainAttrs_dict U6 PySem.F.type_dict_get (iM (ho pins s σ H _ I h) λu s1 ⟨x,H1,I1,rx,a,ex,d,q1⟩=>?_);subst ex;obtain rfl:u=AQ a:=rx;obtain⟨t1,t2,_⟩:=aFF I1 d;refine⟨t1,t2,?_⟩;rw[m.trees];refine Fa U (GI (BF (iM (he pins s1 σ H1 _ I1 q1) λiv s2 ⟨y,H2,I2,ry,ov,g,q2⟩=>BI ?_)));exact aFG hu I2 g ry λw' s3 I3 Ru=>⟨_,H2,I3,Ru,q2⟩
end
section
variable{X:Cx}{pins:List (A7×Obj)}{σ:St}{H:Hp}{s:A8}{a:A7}{kvs:List (Key×V)}{A:AN}{E:A6→A8→Prop}
end
section
variable{X:Cx}{pins:List (A7×Obj)}{σ:St}{H:Hp}{s:A8}{a:A7}{y:V}{u:A6}{A:AN}{E:A6→A8→Prop}
end
end L2
namespace Att
open PySem PySem.W PySem.Calls PyProof.Rows
theorem Kz{P:LB}{h:AM}:∀(ns:List Int)(vs:List A6),WellAll P h vs (ns.map WData.int)→EA vs ns:=by
 intro ns
 induction ns with
 | nil=>
  intro vs w;rw[L3]at w;cases w;exact .nil
 | cons n ns ih=>
  intro vs w;rw[D5]at w;cases w with
  | cons a b=>cases a;exact .cons _ _ (ih _ b)
theorem ph{l:OpenLaw}{n:Nat}(hn:l.most=ND n){P:LB}{h:AM}{args:List WData}{vals:List A6}
  (hpre:l.row.toRowW.claim.pre args=NG) (hwl:WellAll P h vals args) :
  ∃a vs ns,vals=[AQ a]∧args=[WData.list (ns.map WData.int)]∧h.get? a=ND {cls:=.type "list", data:=.seq vs.toArray}∧EA vs ns∧ns.length≤n:=by
 have hsh:WShape.hasAll [] args [.list .int]=NG:=(pre_splitW hpre).1;have hc:l.pre.holds [] {args:=args}=NG:=(pre_splitW hpre).2;obtain⟨d,r,rfl,h1,h2⟩:=hasAllW_cons hsh;obtain rfl:=hasAllW_nil h2;obtain⟨xs,rfl,h3⟩:=hasW_list h1;obtain⟨ns,rfl⟩:=items_int h3;have hlen:ns.length≤n:=by
  unfold OpenLaw.pre at hc;have h4:(WTm.not (.lt (.lit (.int (n:Int))) (.len (.arg 0)))).holds [] {args:=[.list (ns.map .int)]}=NG:=by have h4:=(holds_andW hc).1;rw[hn]at h4;exact h4
  have h5:=condW_of h4 (w_not (w_lt w_lit (w_len_list (w_arg U))));rw[B7]at h5;refine Nat.le_of_not_lt λq=>?_;have q':(n:Int)<((ns.length:Nat):Int):=by omega
  first
   | (rw[decide_eq_true q']at h5;exact absurd h5 (by decide))
   | (simp at h5;omega)
 cases hwl with
 | cons w1 w2=>
  cases w2;cases w1 with
  | list ho hall=>exact⟨_,_,ns,U,U,ho,Kz ns _ hall,hlen⟩
theorem pq(l:OpenLaw)(args:List WData):l.row.toRowW.claim.post args (.bool NG) args=NG:=
 postW_of (r:=l.row.toRowW) (X:=(NG==NG))
  (show WShape.has [] (.bool NG) .bool=NG by first | rfl | decide | simp[WShape.has,WShape.arms,WShape.armsAll])
  (show (WTm.eq .res (.lit (.bool NG))).value [] {args:=args,res:=ND (.bool NG),after:=args}=ND (.bool (NG==NG))from w_eq_bool (w_res U) w_lit) U
section
variable{prog:AI}{w:AL}{A:AN}{E:A6→A8→Prop}{s:A8}{K:Frag}
end
end Att
namespace L2
open PySem PySem.Spec PyProof.Rows
theorem Ao:∀{vs:List A6} {ns:List Int},EA vs ns→Vals (ns.map V.int) vs
 | _,_,.nil=>.nil
 | _,_,.cons n t h=>.cons ⟨t,U⟩ (Ao h)
def Only(H:Hp):Prop:=∀b,H b=none∨∃o xs,H b=ND (.yM o (.lst xs))
theorem aAk{P:AI}{w:AL}{K:aF}{mg mb:Str→Option A6}{CX:mz}{k:Nat}{fa a:A7}{fd:BE}{x:Str}{sp:Sp}{s₁:A8}{vs:List A6}{ns:List Int}
  (KX:K.In s₁.heap) (hns:s₁.heap.Ns AV mg) (hb:s₁.heap.Ns II mb) (hbb:∀x:Str,x ≠ "__name__" → mb x=AU x) (hlim:s₁.heap.NoLimit) (hg:s₁.gens=#[])
  (ha:s₁.heap.get? a=ND {cls:=.type "list", data:=.seq vs.toArray}) (hi:EA vs ns) (hl:ns.length≤sizeLine) (hr:jK k EX)
  (F:∀base:AM,K.In base→base.Ns AV mg→yF P w K mg base CX k fa fd [x] sp) (hbind:∀(s:A8)(u:A6),Fk s fd ⟨[u],[]⟩ [(x,u)])
  (hsp:∀H:Hp,Only H→pQ K H a (ns.map V.int)→sp [.ref a] H (λv _=>v=.bl NG) λ_ _ _=>False)
  (hCX:∀H e s',CX [] H s₁ (λ_ _ _=>False) e s'→False) :
  CH (AG P w) EX (.call (.ref fa) ⟨[.ref a],[]⟩) (λr s'=>r=.ok (.ret (.bool NG))∧OldK s₁.heap s'.heap∧s'.os=s₁.os∧DC s'.gens) s₁:=by
 have rv:=Ao hi;have lenV:=hi.length;have core:∀H:Hp,Only H→pQ K H a (ns.map V.int)→Cq P w H s₁.heap→(∀b,H b≠none→b=a)→(H a≠none→K.lookup a=none) →
   CH (AG P w) EX (.call (.ref fa) ⟨[.ref a],[]⟩) (λr s'=>r=.ok (.ret (.bool NG))∧OldK s₁.heap s'.heap∧s'.os=s₁.os∧DC s'.gens) s₁:=by
  intro H hO hS hok hA hK;have au:∀{b:A7} {o:Obj},s₁.heap.get? b=ND o→H b=none→(Wq s₁.heap H).get? b=ND o:=λe n=>xx e n;have noA:∀{b:A7} {o:Obj} {es:Array DictEntry} {ep:Nat},s₁.heap.get? b=ND o→o.data=.dict es ep→H b=none:=λ{b o es ep} e d=>by
   cases q:H b with
   | none=>rfl
   | some u=>have e':b=a:=hA b (by rw[q];simp);subst e';rw[ha]at e;cases e;have d':Data.seq vs.toArray _=Data.dict es ep:=d;cases d'
  have nsK:∀{b:A7} {m:Str→Option A6},s₁.heap.Ns b m→(Wq s₁.heap H).Ns b m:=λ{b m} ⟨o,es,ep,e,d,r⟩=>⟨o,es,ep,au e (noA e d),d,r⟩
  have hKb:K.In (Wq s₁.heap H):=λb o e=>au (KX b o e) (by
   cases q:H b with
   | none=>rfl
   | some u=>
    have e':b=a:=hA b (by rw[q];simp);subst e';rw[hK (by rw[q];simp)]at e;cases e)
  have hM:Mod K mg (Wq s₁.heap H):=⟨hKb,nsK hns,⟨mb,nsK hb,hbb⟩,let ⟨mc,h1,h2⟩:=hlim;⟨mc,nsK h1,h2⟩⟩
  have e0:RZ P w K mg (Wq s₁.heap H) EX [] s₁ H:=⟨U,hM,λb o e=>aCl e,i5 (jz _ _),trivial,λb hb=>absurd (show b∈([]:List A7)from hb) (by simp),hok,.of_eq hg⟩
  refine Cf ((F _ hKb (nsK hns)).run EX [] s₁ H ⟨[.ref a],[]⟩ [.ref a] [.ref a] _ _ hr e0 (hbind s₁ (.ref a)) (.cons U .nil) (hsp H hO hS)) λr s' h=>?_;cases r with
  | error e=>exact(hCX H e s' h).elim
  | ok fl=>
   cases fl with
   | next=>exact False.elim h
   | brk=>exact False.elim h
   | cont=>exact False.elim h
   | ret u=>
    obtain⟨v,H',os,bare,un,hok',r',q⟩:=h;have q':v=.bl NG:=q;subst q';obtain rfl:u=DA NG:=r';refine⟨U,OldK.of_keep λb o e=>?_,os,bare⟩;cases q:H b with
    | none=>exact un.keep b o e q (by intro z;exact absurd (show b∈([]:List A7)from z) (by simp)) (by simp)
    | some u=>
     rcases hO b with z | ⟨ob,xs,z⟩
     ·rw[q]at z;cases z
     ·have z2:=un.Wo b ob _ z;obtain⟨e1,_⟩:=hok b _ z;obtain⟨e2,_⟩:=hok' b _ z2;rw[e]at e1;cases e1;exact e2
 cases hk:K.lookup a with
 | some o=>
  have e:=KX a o hk;rw[ha]at e;cases e;refine core (λ_=>none) (λ_=>.inl U) (.inr ⟨_,vs.toArray,_,hk,U,U,U,by rw[D3,lenV];exact hl,by simpa using rv⟩) (λb u z=>by have z':(none:Option HO)=ND u:=z;cases z') (λb z=>absurd U z) λz=>absurd U z
 | none=>
  refine core (λb=>if b=a then ND (.yM {cls:=.type "list", data:=.seq vs.toArray} (.lst (ns.map V.int)))else none) (λb=>?_) (.inl (.inr ⟨{cls:=.type "list", data:=.seq vs.toArray},if_pos U⟩)) (λb u z=>?_) (λb z=>?_) λ_=>hk
  ·by_cases hb:b=a
   ·exact .inr ⟨_,_,if_pos hb⟩
   ·exact .inl (if_neg hb)
  ·by_cases hb:b=a
   ·have z':=(if_pos hb).symm.trans z;cases z';subst hb;exact⟨ha,by rw[B7];exact hl,vs,_,rv,ha⟩
   ·have z':=(if_neg hb).symm.trans z;cases z'
  ·by_cases hb:b=a
   ·exact hb
   ·exact absurd (if_neg hb) z
end L2
namespace L2
open PySem PySem.Spec PyProof.Rows
end L2
namespace L2
open PySem PySem.Spec PyProof.Rows
def inClass(s:AH)(j:Nat):AH:=match s with
 | .ClassDef _ _ _ body _ _ _ _ _ _ _=>body.getD j (.Pass ⟨0,0,0,0⟩)
 | _=>.Pass ⟨0,0,0,0⟩
def eQ(s:AH):Arguments:=match s with
 | .FunctionDef _ a _ _ _ _ _ _ _ _=>a
 | _=>{posonlyargs:=[],args:=[],vararg:=none,kwonlyargs:=[],kw_defaults:=[],kwarg:=none,defaults:=[]}
def cC(s:AH):List AH:=match s with
 | .FunctionDef _ _ b _ _ _ _ _ _ _=>b
 | _=>[]
def aL(s:AH):BD:=match s with
 | .FunctionDef _ _ _ _ _ _ sc _ _ _=>sc
 | _=>{kind:=.function,names:=[],isGenerator:=NH,isCoroutine:=NH}
abbrev CQ:mz:=λ_ _ _ _ _ _=>False
abbrev E0:XK:=λ_ _ _=>False
theorem Uk{X:Cx}:Passes CQ X E0:=λ_ _ _ _ _ _ _ h=>h.elim
structure Fun(K:aF)(x qual:Str)(st:AH)(f:A7)(fd:BE):Prop where
 ex:∃(oc:A6)(od:Option A7)(kV doc pm:A6)(an:Option A7)(cdv ct:A6)(osl:Array (Option A6)),
  fd=G2 x qual (eQ st) (cC st) (aL st) .none kV doc pm an cdv ct∧K.lookup f=ND ⟨oc,od,.func fd,osl⟩∧L4 K cdv qual=NG
 kp:K8 K (.ref f)=NG
section
variable{P:AI}{w:AL}{K:aF}{mg:Str→Option A6}{base:AM}
theorem Fun.ok{x qual:Str}{st:AH}{f:A7}{fd:BE}{N ps:List Str}{k:Nat}{sp:Sp}(F:Fun K x qual st f fd)(S:bA N ps (aL st))(len:∀vs H Q E,sp vs H Q E→vs.length=ps.length)
  (hbody:∀(cdv:A6)(A:AN)(outer:List Env)(s:A8)(H:Hp)(vs:List V)(Q:VK)(E:XK),jK k (A.deeper (BT qual (aL st) s.heap.objs.size f cdv))→sp vs H Q E →
   ∃t,DN (Fd CQ P w K mg base N qual (aL st) f cdv A outer s H E).ZV (cC st) t∧t {nx:=λ_ H'=>Q .non H',rt:=Q} (start N vs) H):yF P w K mg base CQ (k+1) f fd ps sp:=by
 obtain⟨oc,od,kV,doc,pm,an,cdv,ct,osl,rfl,lk,hcd⟩:=F.ex;refine zy lk hcd S len λA outer s H vs Q E hr hsp=>?_;obtain⟨t,h,q⟩:=hbody cdv A outer s H vs Q E hr hsp;exact⟨t,h.ZV,q⟩
theorem Fun.binds{x qual:Str}{st:AH}{f:A7}{fd:BE}{ps:List Str}(F:Fun K x qual st f fd)
  (h:∀(kV doc pm:A6)(an:Option A7)(cdv ct:A6)(us:List A6),us.length=ps.length→DU (G2 x qual (eQ st) (cC st) (aL st) .none kV doc pm an cdv ct) ⟨us,[]⟩=pure (ps.zip us)):Binds K fd ps []:=by
 obtain⟨oc,od,kV,doc,pm,an,cdv,ct,osl,rfl,lk,hcd⟩:=F.ex;exact .all (h kV doc pm an cdv ct)
theorem aFH{x qual:Str}{st:AH}{f:A7}{oc:A6}{od an:Option A7}{osl:Array (Option A6)}{kV doc pm cdv ct:A6}(l:K.lookup f=ND ⟨oc,od,.func (G2 x qual (eQ st) (cC st) (aL st) .none kV doc pm an cdv ct),osl⟩)
  (c:L4 K cdv qual=NG) (k:K8 K (.ref f)=NG):Fun K x qual st f (G2 x qual (eQ st) (cC st) (aL st) .none kV doc pm an cdv ct):=⟨⟨oc,od,kV,doc,pm,an,cdv,ct,osl,U,l,c⟩,k⟩
end
theorem cY{A:AN}{k:Nat}(hr:jK k A):A.units+1<As:=W7 (Nat.add_le_add_left (by decide:1≤64) _) hr.units
theorem rY{n:Nat}(h:n≤1000):n<sizeLine:=W7 h (by decide)
section
variable{X:Cx}
theorem pv(i:Nat){x:Str}{pos:Pos}(hN:X.N[i]?=ND x:=by rfl)(hv:Ks X.env.scope x:=by first | exact D7 U | exact D6 (D7 U) | exact D6 (D6 U))(hd:(x==("__debug__" : Str))=NH:=by decide)
  (hcd:(x==("__classdict__" : Str))=NH:=by decide):PE X (.Name x pos) (pH i):=aE5 hN hv hd hcd
end
def aU(H H':Hp):Prop:=∀b o,H b=ND o→H' b=ND o
theorem aU.refl(H:Hp):aU H H:=λ_ _ h=>h
theorem aU.trans{H H1 H2:Hp}(a:aU H H1)(b:aU H1 H2):aU H H2:=λc o h=>b c o (a c o h)
theorem aU.free{H H':Hp}(e:aU H H'){l:A7}(h:H' l=u6):H l=u6:=by
 cases q:H l with
 | none=>rfl
 | some o=>rw[e l o q]at h;cases h
theorem aU.seq{K:aF}{H H':Hp}{a:A7}{xs:List V}(e:aU H H')(h:pQ K H a xs):pQ K H' a xs:=by
 rcases h with (h | ⟨o,h⟩) | h
 ·exact .inl (.inl (e _ _ h))
 ·exact .inl (.inr ⟨o,e _ _ h⟩)
 ·exact .inr h
section
variable{κ:Type} [DecidableEq κ]
end
end L2


namespace L2
open PySem PySem.Spec PyProof.Rows
theorem Df(env:Env):∀(names:List (Str×FC))(acc:List (Str×A7)),(∀x∈names,x.2=.free→∃c,env.cells.lookup x.1=ND c) →
    ∃cl:List (Str×A7),(forIn names acc (λ(x:Str×FC) (r:List (Str×A7))=>(match x with
      | (name,kind)=>if(kind==.free)=NG then do let c ←cellOf env name;pure (ForInStep.yield ((name,c)::r))else pure (ForInStep.yield r):Sem (ForInStep (List (Str×A7))))))=pure cl ∧
      (∀x c,cl.lookup x=ND c→(∃k,(x,k)∈names∧k=.free∧env.cells.lookup x=ND c)∨acc.lookup x=ND c) ∧
      (∀x,(x,Au)∈names→∃c,cl.lookup x=ND c)∧(∀x c,acc.lookup x=ND c→∃c',cl.lookup x=ND c')
  | [],acc,_=>⟨acc,U,λx c h=>.inr h,λx h=>by simp at h,λx c h=>⟨c,h⟩⟩
  | (n,k)::r,acc,h=>by
    rw[List.forIn_cons];by_cases hk:k=.free
    · subst hk
      obtain⟨c,hc⟩:=h (n,.free) C9 U;obtain⟨cl,e,h1,h2,h3⟩:=Df env r ((n,c)::acc) λx hx=>h x (C6 _ hx);refine⟨cl,?_,λx d hd=>?_,λx hx=>?_,λx d hd=>?_⟩
      · have e0:cellOf env n=pure c:=by unfold cellOf;rw[hc]
        simp only[beq_self_eq_true,if_true,e0,pure_bind];exact e
      · rcases h1 x d hd with ⟨k',m,q⟩ | q
        · exact .inl ⟨k',C6 _ m,q⟩
        · rw[U2]at q
          by_cases e:x==n
          · rw[e]at q
            have e':=eq_of_beq e;subst e';cases q;exact .inl ⟨.free,C9,U,hc⟩
          · have e':(x==n)=NH:=by simpa using e
            rw[e']at q;exact .inr q
      · rcases C5.mp hx with q | q
        · cases q
          exact h3 n c (by simp)
        · exact h2 x q
      · by_cases e:x==n
        · exact h3 x c (by rw[U2,e])
        · have e':(x==n)=NH:=by simpa using e
          exact h3 x d (by rw[U2,e'];exact hd)
    · obtain⟨cl,e,h1,h2,h3⟩:=Df env r acc λx hx=>h x (C6 _ hx)
      have hb:(k==Au)=NH:=by simpa using hk
      refine⟨cl,?_,λx d hd=>?_,λx hx=>?_,h3⟩
      · simp only[hb,W8,if_false,pure_bind]
        exact e
      · rcases h1 x d hd with ⟨k',m,q⟩ | q
        · exact .inl ⟨k',C6 _ m,q⟩
        · exact .inr q
      · rcases C5.mp hx with q | q
        · cases q
          exact absurd U hk
        · exact h2 x q
theorem Cr(scope:BD)(env:Env)(h:∀x∈scope.names,x.2=.free→∃c,env.cells.lookup x.1=ND c) :
    ∃cl,closureFor scope env=pure cl∧(∀x c,cl.lookup x=ND c→(x,Au)∈scope.names∧env.cells.lookup x=ND c)∧∀x,(x,Au)∈scope.names→∃c,cl.lookup x=ND c:=by
  obtain⟨cl,e,h1,h2,_⟩:=Df env scope.names [] h;refine⟨cl,?_,λx c hx=>?_,h2⟩
  · unfold closureFor
    exact(congrArg (λt=>t >>= pure) e).trans (pure_bind _ _)
  · rcases h1 x c hx with ⟨k,m,rfl,q⟩ | q
    · exact⟨m,q⟩
    · simp at q
theorem Xl{scope:BD}{env:Env}(hcell:∀y∈scope.names,y.2≠.cell){x:Str}(h:(Fn scope env).names.lookup x=ND .cell∨(Fn scope env).names.lookup x=ND .free):(x,Au)∈scope.names:=by
 have m:(x,Mo)∈(Fn scope env).names∨(x,Au)∈(Fn scope env).names:=by
  rcases h with h | h
  ·exact .inl (N5 h)
  ·exact .inr (N5 h)
 unfold Fn at m;rcases m with m | m
 all_goals
  obtain⟨⟨n,k⟩,hm,e⟩:=G5.mp m;dsimp only at e;split at e
  ·rename_i hc;simp only[G9,beq_iff_eq]at hc;cases e
   first
    | (rw[hc.1.1]at hm;exact hm)
    | skip
  ·cases e
   first
    | exact hm
    | exact absurd U (hcell _ hm)
def lD(X:Cx)(scope:BD)(N:List Str)(cl:List (Str×A7))(fp:List A7)(s:A8)(H:Hp)(C:A7):Cx where
 prog:=X.prog
 w:=X.w
 K:=X.K
 mg:=X.mg
 base:=X.base
 A:=X.A
 N:=N
 s₀:=s
 H₀:=H
 env:=LD scope cl C X.env
 outer:=X.stack
 stack:=X.stack
 ex:=fp
 calm:=X.calm
 fn:=λ_=>NH
 pn:=[]
 xe:=λ_ _=>False
def TJ(σ:St)(fr:List Nat):St:=fr.map λi=>σ.getD i none
def blk(k:Nat)(σ:St)(fr:List Nat):St:=E7 k none++TJ σ fr
def Kp(k:Nat)(σ:St)(fr:List Nat)(σ2:St):Prop:=σ2.length=(blk k σ fr).length∧∀(j:Nat) v,(blk k σ fr)[j]?=ND (ND v)→σ2[j]?=ND (ND v)
def PTs(X:Cx)(ifs:List AD)(t:TT):Prop:=
 ∀(pins:List (A7×Obj))(s:A8)(σ:St)(H:Hp)(Q:Bool→Hp→Prop),Inv X pins σ H s→t σ H Q →
  AF (AG X.prog X.w) X.A (forIn ifs NG λc r=>if r=NG then do let ok ←HC c X.env (AO c X.env);pure (ForInStep.yield ok)else pure (ForInStep.yield r)) (TP X pins σ Q) X.xe s
def aHP:TT:=λ_ H Q=>Q NG H
theorem aCQ{X:Cx}:PTs X [] aHP:=λ_ _ _ H _ I h=>wpAny_tests_nil ⟨H,I,h⟩
theorem aCR{X:Cx}{c:AD}{t:TT}(h:PT X c t):PTs X [c] t:=λpins s σ H Q I q=>wpAny_tests_one (h pins s σ H Q I q)
theorem Bv{prog:AI}{w:AL}{A:AN}{R:Ee→A8→Prop}{s:A8}{elt target iter:AD}{ifs:List AD}{scope:BD}{pos:Pos}{it acc:A6}{env:Env}(I:Nat→A8→Prop)
  (turn:∀n s,I n s→AF (AG prog w) A (DB it) (λr s₁=>match r with
   | none=>R (.ok .next) s₁
   | some v=>AF (AG prog w) A (ED target it v) (λ_ s₀=>AF (AG prog w) A (EJ target env v) (λ_ s₂=>
     AF (AG prog w) A (forIn ifs NG λc r=>if r=NG then do let ok ←HC c env (AO c env);pure (ForInStep.yield ok)else pure (ForInStep.yield r)) (λok s₃=>
      if ok=NG then AF (AG prog w) A (AO elt env) (λx s₄=>
       AF (AG prog w) A (call (.builtin "list.append") [acc,x]) (λ_ s₅=>∃m,m<n∧I m s₅) (λ_ _=>False) s₄) (λ_ _=>False) s₃
      else ∃m,m<n∧I m s₃) (λ_ _=>False) s₂) (λ_ _=>False) s₀) (λ_ _=>False) s₁) (λ_ _=>False) s)
  (n:Nat) (h:I n s) :
  CH (AG prog w) A (.compLoop (.ListComp elt [⟨target,iter,ifs,0⟩] scope pos) 0 it acc env) R s:=by
 refine codeAny_loop U I (λn s hI=>?_) n h;show AF _ A ((compTurn (.ListComp elt [⟨target,iter,ifs,0⟩] scope pos) 0 it acc env).onRaise (λx=>do noteFrame x env;theTreesLotGoes x)) _ _ s;refine wpAny_noted ?_;rw[compTurn_list];refine AX (E:=λ_ _=>False) ?_ (λ_ _ q=>q) λ_ _ x=>x.elim;refine A9 (GO (A9 (AX (turn n s hI) (λr s₁ h₁=>?_) λ_ _ h'=>h')));cases r with
 | none=>exact AE h₁
 | some v=>
  refine A9 (AX h₁ (λ_ s₀ h₀=>?_) λ_ _ h'=>h');refine A9 (AX h₀ (λ_ s₂ h₂=>A9 (AX h₂ (λok s₃ h₃=>?_) λ_ _ h'=>h')) λ_ _ h'=>h');cases ok with
  | false=>exact AE ⟨U,h₃⟩
  | true=>exact A9 (A9 (AX h₃ (λx s₄ h₄=>A9 (AX h₄ (λ_ s₅ h₅=>AE (AE ⟨U,h₅⟩)) λ_ _ h'=>h')) λ_ _ h'=>h'))
def aEk(J:It)(k:Nat)(fr:List Nat)(g:TG)(tc:TT)(te:TE)(σ:St)(H1:Hp)(Q:VK)(D:A7):Prop:=∃W:Nat→Nat→List V→Hp→Prop,(∃m,W 0 m [] (upd H1 D (.lst []))) ∧
 ∀i m ys H,W i m ys H→H D=ND (.lst ys)∧((J.stop i H∧Q (.ref D) H)∨(J.go i H∧∀x H',J.yld i H x H'→g x (blk k σ fr) H' λσ2 H2=>Kp k σ fr σ2∧tc σ2 H2 λok H3=>if ok=NG then
  te σ2 H3 λy H4=>H4 D=ND (.lst ys)∧ys.length<sizeLine∧∃m',m'<m∧W (i+1) m' (ys++[y]) (upd H4 D (.lst (ys++[y])))else ∃m',m'<m∧W (i+1) m' ys H3))
def FW(wi:TI)(k:Nat)(fr:List Nat)(g:TG)(tc:TT)(te:TE):TE:=λσ H Q=>wi σ H λJ H1=>∀D,H1 D=none→aEk J k fr g tc te σ H1 Q D
def vD(scope CT:BD):BD:=
 {scope with names:=scope.names.map λ(n,k)=>if(k==.free&&CT.kind==.function&&CT.names.lookup n==ND .cell)then(n,.cell)else(n,k)}
structure kI(CT scope:BD)(oN N:List Str)(k:Nat)(fr:List Nat):Prop where
 kind:scope.kind=.function
 cell:∀y∈scope.names,y.2≠.cell
 loc:∀y∈scope.names,y.2=.local→scope.names.lookup y.1=ND .local
 free:∀y∈scope.names,y.2=.free→CT.names.lookup y.1=ND .cell∨CT.names.lookup y.1=ND .free
 len:N.length=k+fr.length
 slots:∀j∈D2 fr.length,oN[fr.getD j 0]?=N[k+j]?
 from_:∀x∈N.drop k,(x,Au)∈scope.names∧((vD scope CT).names.lookup x=ND .cell∨(vD scope CT).names.lookup x=ND .free)
def az(CT scope:BD)(oN N:List Str)(k:Nat)(fr:List Nat):Bool:=
 decide (scope.kind=.function)&&decide (∀y∈scope.names,y.2≠.cell)&&decide (∀y∈scope.names,y.2=.local→scope.names.lookup y.1=ND .local) &&
 decide (∀y∈scope.names,y.2=.free→CT.names.lookup y.1=ND .cell∨CT.names.lookup y.1=ND .free)&&decide (N.length=k+fr.length) &&
 decide (∀j∈D2 fr.length,oN[fr.getD j 0]?=N[k+j]?) &&
 decide (∀x∈N.drop k,(x,Au)∈scope.names∧((vD scope CT).names.lookup x=ND .cell∨(vD scope CT).names.lookup x=ND .free))
theorem kI.of{CT scope:BD}{oN N:List Str}{k:Nat}{fr:List Nat}(h:az CT scope oN N k fr=NG):kI CT scope oN N k fr:=by unfold az at h;simp only[G9,decide_eq_true_eq]at h;obtain⟨⟨⟨⟨⟨⟨h1,h2⟩,h3⟩,h4⟩,h5⟩,h6⟩,h7⟩:=h;exact⟨h1,h2,h3,h4,h5,h6,h7⟩
section
variable{X:Cx}
theorem aCS{k:Nat}{σ:St}{fr:List Nat}{i:Nat}{v:V}(h:(blk k σ fr)[i]?=ND (ND v)):∃j o,i=k+j∧fr[j]?=ND o∧σ[o]?=ND (ND v):=by
 unfold blk at h;by_cases hi:i<k
 ·rw[G3 (by simpa using hi),Q6]at h;rw[if_pos hi]at h;cases h
 ·rw[M0 (by simpa using hi),R0]at h;unfold TJ at h;rw[C4]at h;cases e:fr[i-k]? with
  | none=>rw[e]at h;cases h
  | some o=>
   rw[e]at h;refine⟨i-k,o,by omega,e,?_⟩;have h:ND (σ.getD o none)=ND (ND v):=h;have h:=F1 h;rw[B8]at h;cases e2:σ[o]? with
   | none=>rw[e2]at h;cases h
   | some z=>rw[e2]at h;exact congrArg ND h
theorem TQ{pins:List (A7×Obj)}{σ:St}{H:Hp}{s:A8}{scope:BD}{N:List Str}{k:Nat}{fr:List Nat}{cl:List (Str×A7)}{fp:List A7}{h₁:AM}{tk:Nat}{m:Str→Option A6}
    (I:Inv X pins σ H s) (B:kI X.env.scope scope X.N N k fr) (hf:∀b∈fp,Wx X pins H b) (hfo:∀b∈fp,b<s.heap.objs.size)
    (hcl:∀x c,cl.lookup x=ND c→(x,Au)∈scope.names∧X.env.cells.lookup x=ND c) (aCT:∀x,(x,Au)∈scope.names→∃c,cl.lookup x=ND c)
    (hn:h₁.Ns (s.heap.objs.size+1) m) (hs:BG (s.heap.objs.size+1) ((s.heap.push {cls:=.type "list", data:=.seq ([]:List A6).toArray}).push {cls:=.type "dict", data:=.dict #[]}) h₁) :
    Inv (lD X scope N cl fp s H (s.heap.objs.size+1)) [] (blk k σ fr) (upd H s.heap.objs.size (.lst [])) {s with heap:=h₁,toks:=tk}:=by
  have I3:=I.aHK (ys:=[]) (its:=[]) (t':=tk) .nil (M3 _);have hD:H s.heap.objs.size=none:=I.fresh;have hC:H (s.heap.objs.size+1)=none:=I.hok.fresh (L9 _);have neC:∀b o,(s.heap.push {cls:=.type "list", data:=.seq ([]:List A6).toArray}).get? b=ND o→b≠s.heap.objs.size+1:=λb o e=>by have:=AJ e;rw[AY]at this;exact E9 this
  have aEm:∀b o,(s.heap.push {cls:=.type "list", data:=.seq ([]:List A6).toArray}).get? b=ND o→h₁.get? b=ND o:=λb o e=>
    hs.extBut b o (neC b o e) (AA _ e)
  have kept:∀b o,s.heap.get? b=ND o→h₁.get? b=ND o:=λb o e=>aEm b o (AA _ e);refine⟨⟨I.ok.mod,B.kind,I.ok.glob,I.ok.blt,L9 _,λx y c h1 h2=>I.ok.inj x y c (hcl x c h1).2 (hcl y c h2).2,λx hx=>aCT x (Xl B.cell hx),λx c h _=>(nomatch h),
      I.ok.hd,I.ok.frames,.inl U,λb hb=>⟨?_,λx c e=>(hf b hb).2.2.2.2.1 x c (hcl x c e).2⟩,λb o e=>I.bs b o e,G1 I.ok.bsz I.sz,λb o e hb=>?_,λb hb hb2=>?_,I.stack,I.ZQ⟩,
    rfl,I.bare,Un.laid kept (D1 _) hD,⟨m,hn,λi x v h1 h2 h3=>?_⟩,λx c e=>?_,?_,λx c e=>?_,λp hp=>absurd (show p∈([]:List (A7×Obj))from hp) (by simp),?_,?_⟩
  · exact E9 (N2 (hfo b hb))
  · rcases(hf b hb).2.2.2.1 with z | z
    · exact I.ok.yc b o e z
    · exact absurd (E5 (AJ e) (G1 I.ok.bsz z)) (L7 _)
  · rcases C5.mp (I.Wr b hb2)with z | z
    · exact(hf b hb).2.1 z
    · exact(hf b hb).2.2.1 z
  · obtain⟨j,o,rfl,h4,h5⟩:=aCS h2
    have h1:N[k+j]?=ND x:=h1;have hj:j<fr.length:=(D4.mp h4).1;have hx:X.N[o]?=ND x:=by have q:=B.slots j (F5.mpr hj);rw[B8,h4]at q;exact q.trans h1
    obtain⟨hfr,hre⟩:=B.from_ x (E4 (i:=j) (by rw[W9];exact h1));have hk:=B.free _ hfr U;obtain⟨m0,hn0,hl0⟩:=I.loc;have hv:Ks X.env.scope x:=by
      rcases hk with q | q
      · exact .inr (.inl q)
      · exact .inr (.inr q)
    obtain⟨u,r,l⟩:=hl0 o x v hx h5 hv;refine⟨u,r,.inr ?_⟩;rcases l with ⟨q,_⟩ | ⟨_,c,e,z⟩
    · rcases hk with q' | q'
      · exact absurd (q.symm.trans q') (by intro z;cases z)
      · exact absurd (q.symm.trans q') (by intro z;cases z)
    · obtain⟨c',e'⟩:=aCT x hfr
      have e2:=(hcl x c' e').2;rw[e]at e2;cases e2;refine⟨hre,c,e',?_⟩;obtain⟨oc,hoc,hd⟩:=z;exact⟨oc,kept c oc hoc,hd⟩
  · obtain⟨v,oc,hoc,hd⟩:=I.cell x c (hcl x c e).2
    exact⟨v,oc,kept c oc hoc,hd⟩
  · show upd H s.heap.objs.size (.lst []) (s.heap.objs.size+1)=none
    rw[bN (P8 (M7 _))];exact hC
  · have hc:=(hcl x c e).2
    obtain⟨v,oc,hoc,hd⟩:=I.cell x c hc;show upd H s.heap.objs.size (.lst []) c=none;rw[bN (E9 (AJ hoc))];exact I.xQ x c hc
  · exact Cq.kept I3.hok aEm
  · show (blk k σ fr).length=N.length
    rw[B.len];unfold blk TJ;simp
theorem FZ{tg elt iter:AD}{ifs:List AD}{scope:BD}{pos:Pos}{N:List Str}{k:Nat}{fr:List Nat}{g:TG}{tc:TT}{te:TE}{cl:List (Str×A7)}{pins:List (A7×Obj)}{σ:St}{H:Hp}{s:A8}{it:A7}{fp:List A7}{tn:Nat→AM→Prop}{J:It}{Q:VK}
    {RR:A6→A7→Ee→A8→Prop} {E:A6→A8→Prop} (hcalm:X.calm=NG) (I:Inv X pins σ H s) (T:Turn X.prog X.w X.K tg J fp it tn) (st:tn 0 s.heap) (hf:∀b∈fp,Wx X pins H b) (B:kI X.env.scope scope X.N N k fr)
    (hcl:∀x c,cl.lookup x=ND c→(x,Au)∈scope.names∧X.env.cells.lookup x=ND c) (aCT:∀x,(x,Au)∈scope.names→∃c,cl.lookup x=ND c)
    (hg:∀cl fp s H C,PG (lD X scope N cl fp s H C) tg g) (hc:∀cl fp s H C,PTs (lD X scope N cl fp s H C) ifs tc) (he:∀cl fp s H C,PE (lD X scope N cl fp s H C) elt te)
    (hw:∀D,H D=none→aEk J k fr g tc te σ H Q D)
    (hRR:∀D C m s' H',s'.heap.Ns C m→s.heap.objs.size≤C→H' C=none→C≠D→Inv X pins σ H' s'→Q (.ref D) H'→RR (.ref D) C (.ok .next) s') :
    AF (AG X.prog X.w) X.A (newList []) (λacc s₃=>AF (AG X.prog X.w) X.A (newFunctionEnv scope X.env.globals cl [] X.env.qual none .none (ND X.env)) (λcenv s₄=>
      CH (AG X.prog X.w) X.A (.compStart (.ListComp elt [⟨tg,iter,ifs,0⟩] scope pos) 0 (.ref it) acc {cenv with scope:=Fn scope X.env}) (RR acc cenv.locals) s₄) E s₃) E s:=by
  refine BU (wpAny_newFunctionEnv B.cell (by intro y hy;simp at hy) (λh₁ hns₁ hsb₁=>?_) B.kind);dsimp only at hns₁ hsb₁ ⊢;rw[AY]at hns₁ hsb₁ ⊢;have hfo:∀b∈fp,b<s.heap.objs.size:=λb hb=>by obtain⟨o,e,_⟩:=T.obj 0 _ st b hb;exact AJ e
  have I4:=TQ (tk:=s.toks+([]:List (Str×A6)).length) I B hf hfo hcl aCT hns₁ hsb₁;generalize hD:s.heap.objs.size=D at *;have hDn:H D=none:=by rw[←hD];exact I.fresh
  obtain⟨W,⟨m0,w0⟩,turn⟩:=hw D hDn;have st1:tn 0 h₁:=T.keep 0 _ _ st λb hb o e=>hsb₁.extBut b o (E9 (N2 (by have:=hfo b hb;exact this))) (AA _ (AA _ e));have fr0:∀b∈fp,(upd H D (.lst [])) b=none:=λb hb=>by rw[bN (E9 (hfo b hb))];exact(hf b hb).1
  generalize hX':lD X scope N cl fp s H (D+1)=X' at I4;have stat:∀{H':Hp},(∀b∈fp,H' b=none)→∀b∈fp,Wx X' [] H' b:=λ{H'} hn b hb=>by
    subst hX';refine⟨hn b hb,?_,λz=>?_,.inl hb,λx c e=>(hf b hb).2.2.2.2.1 x c (hcl x c e).2,λp hp=>absurd (show p∈([]:List (A7×Obj))from hp) (by simp)⟩
    · exact E9 (N2 (hfo b hb))
    · rcases C5.mp (I.Wr b z)with z | z
      · exact(hf b hb).2.1 z
      · exact(hf b hb).2.2.1 z
  have loop:∀s₃:A8,s₃={s with heap:=h₁,toks:=s.toks+([]:List (Str×A6)).length} →
      CH (AG X.prog X.w) X.A (.compLoop (.ListComp elt [⟨tg,iter,ifs,0⟩] scope pos) 0 (.ref it) (.ref D) (LD scope cl (D+1) X.env)) (RR (.ref D) (D+1)) s₃:=by
    rintro s₃ rfl;refine Bv (λn s'=>∃i ys H',Inv X' [] (blk k σ fr) H' s'∧tn i s'.heap∧(∀b∈fp,H' b=none)∧W i n ys H') ?_ m0 ⟨0,[],_,I4,st1,fr0,w0⟩;rintro n s5 ⟨i,ys,H5,I5,st5,fr5,w5⟩;obtain⟨hys,way⟩:=turn i n ys H5 w5;have e1:X'.prog=X.prog:=by rw[←hX'];rfl
    have e2:X'.w=X.w:=by rw[←hX'];rfl
    have e3:X'.K=X.K:=by rw[←hX'];rfl
    have e4:X'.A=X.A:=by rw[←hX'];rfl
    have e5:X'.calm=NG:=by rw[←hX'];exact hcalm
    have e6:X'.env=LD scope cl (D+1) X.env:=by rw[←hX'];rfl
    have e7:X'.xe=λ_ _=>False:=by rw[←hX'];rfl
    rcases way with ⟨stop,q⟩ | ⟨go,step⟩
    · have d:=T.done X' e1 e2 e3 e5 i [] s5 _ H5 (λ_ _=>False) I5 (stat fr5) st5 stop
      rw[e4]at d;refine iM d λr s6 ⟨hr,I6⟩=>?_;subst hr;subst hX';obtain⟨m6,hn6,_⟩:=I6.loc;refine hRR D (D+1) m6 s6 H5 hn6 (L9 _) I6.free (P8 (M7 _)) ?_ q;exact I.call' I6.os I6.base I6.hok I6.bare λb hb=>⟨(hf b hb).2.2.2.1,(hf b hb).2.1,(hf b hb).2.2.2.2.1,(hf b hb).2.2.2.2.2⟩
    · have d:=T.item X' e1 e2 e3 e5 i [] s5 _ H5 (λ_ _=>False) I5 (stat fr5) st5 go
      rw[e4]at d;refine iM d λr s6 ⟨u,hr,h6⟩=>?_;subst hr;refine iM h6 λ_ s7 ⟨x,H7,I7,r7,y7,st7,fr7⟩=>?_;have I7':=I7.pinned (stat fr7) (T.obj _ _ st7);have hg':PG X' tg g:=by rw[←hX'];exact hg _ _ _ _ _
      have hc':PTs X' ifs tc:=by rw[←hX'];exact hc _ _ _ _ _
      have he':PE X' elt te:=by rw[←hX'];exact he _ _ _ _ _
      have a1:=hg' _ s7 _ H7 x u _ I7' r7 (step x H7 y7);rw[e1,e2,e4,e6,e7]at a1;refine iM a1 λ_ s8 ⟨σ8,H8,I8,⟨kl,kk⟩,q8⟩=>?_;have a2:=hc' _ s8 σ8 H8 _ I8 q8;rw[e1,e2,e4,e6,e7]at a2;refine iM a2 λok s9 ⟨H9,I9,q9⟩=>?_;have again:∀{Ha:Hp} {ya:List V} {sa:A8},Inv X' ([]++Mw fp s7.heap) σ8 Ha sa→(∃m',m'<n∧W (i+1) m' ya Ha) →
          ∃m,m<n∧∃i ys H',Inv X' [] (blk k σ fr) H' sa∧tn i sa.heap∧(∀b∈fp,H' b=none)∧W i m ys H':=λ{Ha ya sa} Ia ⟨m',hm,w'⟩=>by
        refine⟨m',hm,i+1,ya,Ha,(Ia.weak kl.symm kk).Fb,T.keep _ _ _ st7 λb hb o e=>(Ia.pin (b,o) (F0 _ (F0 _ (wG hb e)))).1,λb hb=>?_,w'⟩;obtain⟨o,e,d⟩:=T.obj _ _ st7 b hb;exact(Ia.pin (b,o) (F0 _ (F0 _ (wG hb e)))).2.1
      cases ok with
      | false=>exact again I9 q9
      | true=>have a3:=he' _ s9 σ8 H9 _ I9 q9;rw[e1,e2,e4,e6,e7]at a3;show AF _ _ _ _ _ s9;refine iM a3 λv s10 ⟨y,H10,I10,r10,hD10,hz,q10⟩=>?_;have a4:=kW (X:=X') _ s10 σ8 H10 (.ref D) [y] (.ref D) [v] (λ_ H11=>H11=upd H10 D (.lst (ys++[y]))) I10 U (.cons r10 .nil) ⟨D,ys,y,U,U,hD10,hz,U⟩;rw[e1,e2,e4,e7]at a4;refine iM a4 λ_ s11 ⟨_,H11,I11,_,e11⟩=>?_;subst e11;exact again I11 q10
  exact codeAny_compStart_list (loop _ U) (T.self _ 0 _ _ _ st1 (loop _ U))
theorem aCU{tg elt iter:AD}{ifs:List AD}{scope:BD}{pos:Pos}{wi:TI}{g:TG}{tc:TT}{te:TE}(N:List Str)(k:Nat)(fr:List Nat)(hcalm:X.calm=NG)(B:kI X.env.scope scope X.N N k fr)(hi:PI X tg iter wi)
  (hg:∀cl fp s H C,PG (lD X scope N cl fp s H C) tg g) (hc:∀cl fp s H C,PTs (lD X scope N cl fp s H C) ifs tc) (he:∀cl fp s H C,PE (lD X scope N cl fp s H C) elt te)
  (hs:∀x,B3 iter X.env x=pure x:=by intro _;rfl):PE X (.ListComp elt [⟨tg,iter,ifs,0⟩] scope pos) (FW wi k fr g tc te):=by
 intro pins s σ H Q I h;obtain⟨cl,e,h1,h2⟩:=Cr scope X.env λy hy hk=>I.ok.has y.1 (B.free y hy hk);rw[eval_ListComp];refine FD (use:=none) U hs e B.kind B.loc (AX (hi pins s σ H _ I h) (λxv s₁ q₁=>AX q₁ (λitv s₂ q₂=>?_) λ_ _ x=>x) λ_ _ x=>x);obtain⟨it,fp,tn,J,H2,rfl,I2,T,st2,f2,hw⟩:=q₂;refine FZ (Q:=Q) (RR:=λacc C=>compPost (AG X.prog X.w) X.A X.xe none (EP X pins σ Q) acc C) hcalm I2 T st2 f2 B h1 h2 hg hc he hw ?_;intro D C m s' H' hn hC hf hne I' q;refine⟨m,hn,λh' hs'=>⟨.ref D,H',?_,U,q⟩⟩;exact I'.turned (t':=s'.toks) (λb o hb eb=>(hs'.2 b hb).trans eb) hf (P8 (E5 I2.lt hC)) (.inr (G1 I2.sz hC)) (λx c ec z=>by
  obtain⟨v,q⟩:=I2.cell x c ec;exact absurd (E5 q.lt (by rw[z];exact hC)) (L7 _)) λp hp z=>absurd (E5 (AJ (I2.pin p hp).1) (by rw[z];exact hC)) (L7 _)
theorem aCV{tg elt iter:AD}{ifs:List AD}{scope:BD}{pos spos py:Pos}{y:Str}{i:Nat}{wi:TI}{g:TG}{tc:TT}{te:TE}(N:List Str)(k:Nat)(fr:List Nat)(hcalm:X.calm=NG)(B:kI X.env.scope scope X.N N k fr)(hN:X.N.Nodup)(hy:X.N[i]?=ND y)(hx:Loc X.env.scope y)(hi:PI X tg iter wi)
  (hg:∀cl fp s H C,PG (lD X scope N cl fp s H C) tg g) (hc:∀cl fp s H C,PTs (lD X scope N cl fp s H C) ifs tc) (he:∀cl fp s H C,PE (lD X scope N cl fp s H C) elt te)
  (hsw:Co (.ListComp elt [⟨tg,iter,ifs,0⟩] scope pos) (ND (.Name y py)) spos.line X.env=pure NG:=by rfl)
  (hs:∀x,B3 iter X.env x=pure x:=by intro _;rfl) (hf:X.fn y=NG∨X.env.scope.names.lookup y=ND .local:=by first | exact .inl U | exact .inr U | assumption) :
  PS X (.Assign [.Name y py] (.ListComp elt [⟨tg,iter,ifs,0⟩] scope pos) spos) (wF (FW wi k fr g tc te) (jR i)):=by
 intro pins s σ H D I h;obtain⟨cl,e,h1,h2⟩:=Cr scope X.env λy hy hk=>I.ok.has y.1 (B.free y hy hk);rw[exec_Assign_Name_used _ _ _ _ hsw];refine A9 (GO (A9 ?_));show AF _ X.A (do let _ ←comprehension (.ListComp elt [⟨tg,iter,ifs,0⟩] scope pos) scope X.env _ (newList []) NH (AO iter X.env) (ND (EJ (.Name y py) X.env))) _ _ s;refine A9 (AX (FD (use:=ND (EJ (.Name y py) X.env)) (Q:=λ_ s'=>SP X pins D .next s') U hs e B.kind B.loc
  (AX (hi pins s σ H _ I h) (λxv s₁ q₁=>AX q₁ (λitv s₂ q₂=>?_) λ_ _ x=>x) λ_ _ x=>x)) (λ_ s' hq=>AE (AE hq)) λ_ _ x=>x)
 obtain⟨it,fp,tn,J,H2,rfl,I2,T,st2,f2,hw⟩:=q₂;refine FZ (Q:=λx H1=>jR i x σ H1 D.nx) (RR:=λacc C=>compPost (AG X.prog X.w) X.A X.xe (ND (EJ (.Name y py) X.env)) (λ_ s'=>SP X pins D .next s') acc C) hcalm I2 T st2 f2 B h1 h2 hg hc he hw ?_;intro E C m s' H' hn hC hfr hne I' q;show AF _ X.A (EJ (.Name y py) X.env (.ref E)) _ _ _;have cne:∀x c,X.env.cells.lookup x=ND c→c≠C:=λx c ec z=>by obtain⟨v,q⟩:=I2.cell x c ec;exact absurd (E5 q.lt (by rw[z];exact hC)) (L7 _)
 refine He (Tu I' hN hy hx (show RelV (.ref E) (.ref E)from rfl) (λs6 I6 ⟨a,hsb,ha⟩=>?_) hf);have neA:C≠a:=by
  rcases ha with z | z
  ·rw[z];exact P8 (E5 I2.lt hC)
  ·exact λq=>cne _ _ z q.symm
 refine⟨m,hn.sameBut hsb neA,λh'' hs''=>⟨_,H',?_,q⟩⟩;exact I6.turned (t':=s6.toks) (λb o hb eb=>(hs''.2 b hb).trans eb) hfr (P8 (E5 I2.lt hC)) (.inr (G1 I2.sz hC)) cne
  λp hp z=>absurd (E5 (AJ (I2.pin p hp).1) (by rw[z];exact hC)) (L7 _)
end
end L2


set_option maxHeartbeats 4000000
namespace L2
open PySem PySem.Spec PyProof.Rows
def JIs(J:It)(P:Hp→Prop)(xs:List V):Prop:=
 ∀i H,P H→(i<xs.length→J.go i H)∧(∀x H',J.yld i H x H'→H'=H∧(i<xs.length→xs[i]?=ND x))∧(xs.length≤i→J.stop i H)
theorem GC{K:aF}{a:A7}{xs:List V}:JIs (Itl K a) (λH=>pQ K H a xs) xs:=λi H hq=>
 ⟨λh=>⟨xs,xs[i],hq,by simp[h]⟩,λx H' ⟨e,y⟩=>⟨e,λ_=>y xs hq⟩,λh=>⟨xs,hq,h⟩⟩
theorem aCW{K:aF}{a:A7}{xs:List V}:JIs (Itt K a) (λH=>xR K H a xs) xs:=λi H hq=>
 ⟨λh=>⟨xs,xs[i],hq,by simp[h]⟩,λx H' ⟨e,y⟩=>⟨e,λ_=>y xs hq⟩,λh=>⟨xs,hq,h⟩⟩
theorem Hz{lo:Int}{n:Nat}:JIs (Itr lo n) (λ_=>True) ((D2 n).map λi:Nat=>V.int (lo+(i:Int))):=λi H _=>
 ⟨λh=>show i<n by simpa using h,λx H' ⟨e,y⟩=>⟨e,λh=>by
  have h:i<n:=by simpa using h
  subst y;simp[h]⟩,λh=>show n≤i by simpa using h⟩
section
variable{X:Cx}
theorem lW{scope:BD}{N:List Str}{x:Str}{pos:Pos}(hN:N.Nodup)(hi:N[0]?=ND x)(hx:(vD scope X.env.scope).names.lookup x=ND .local) :
  ∀cl fp s H C,PG (lD X scope N cl fp s H C) (.Name x pos) (jR 0):=λ_ _ _ _ _=>fW hN hi (D7 hx) (D6 hx)
theorem aCX{P:AI}{w:AL}{k:Key}{v:A6}(h:(iB P w).is k v=NG):RelV (kV k) v:=by
 rcases gK (k:=k) (v:=v) h with ⟨i,t,rfl,rfl⟩ | ⟨x,t,rfl,rfl⟩
 ·exact⟨t,U⟩
 ·exact⟨t,U⟩
theorem Ln{J:It}{P:Hp→Prop}{xs:List V}(hJ:JIs J P xs){g:TG}{tb:TS}{D:Ends}{σ:St}{H:Hp}(Pv:Nat→St→Hp→Prop)(h0:Pv 0 σ H)(hl:∀i σ H,i≤xs.length→Pv i σ H→P H)
  (hs:∀i x σ H,xs[i]?=ND x→Pv i σ H→g x σ H λσ2 H2=>tb {D with nx:=Pv (i+1),ct:=Pv (i+1),bk:=D.nx} σ2 H2) (hd:∀σ H,Pv xs.length σ H→D.nx σ H) :
  ∃W:Nat→Nat→St→Hp→Prop,(∃m,W 0 m σ H)∧∀i m σ H,W i m σ H →
   (J.stop i H∧D.nx σ H)∨(J.go i H∧∃N:St→Hp→Prop,(∀σ' H',N σ' H'→∃m',m'<m∧W (i+1) m' σ' H')∧∀x H',J.yld i H x H'→g x σ H' λσ2 H2=>tb {D with nx:=N,ct:=N,bk:=D.nx} σ2 H2):=by
 refine⟨λi m σ H=>m=xs.length-i∧i≤xs.length∧Pv i σ H,⟨xs.length,by simp,M3 _,h0⟩,?_⟩;rintro i m σ H ⟨rfl,hi,p⟩;obtain⟨j1,j2,j3⟩:=hJ i H (hl i σ H hi p);by_cases hlt:i<xs.length
 ·refine .inr ⟨j1 hlt,Pv (i+1),λσ' H' p'=>⟨xs.length-(i+1),by omega,U,hlt,p'⟩,λx H' y=>?_⟩;obtain⟨e,ex⟩:=j2 x H' y;subst e;exact hs i x σ _ (ex hlt) p
 ·have e:i=xs.length:=by omega
  subst e;exact .inl ⟨j3 (D1 _),hd σ H p⟩
end
end L2


namespace L2
open PySem PySem.Spec PyProof.Rows
section
variable{X:Cx}
theorem Jz:∀{bs:List Bool} {us:List A6},Vals (bs.map V.bl) us→us=bs.map DA
 | [],us,r=>by rw[L3]at r;cases r;rfl
 | b::bs,us,r=>by
  rw[D5]at r;cases r with
  | cons r1 r2=>
   cases(show _=DA b from r1)
   rw[Jz r2];rfl
theorem TV(bs:List Bool):((D2 bs.length).all λi=>(bs[i]?).getD NG)=bs.all id:=by
 rw[N3,M8,M8];constructor
 ·intro h b hb;obtain⟨i,hi,rfl⟩:=J1 hb;have:=h i (F5.mpr hi);simpa[hi]using this
 ·intro h i hi;have hi':=F5.mp hi;simp only[B6 hi',U3];exact h _ (N7 hi')
theorem bc{s:A8}{h':AM}{o:Obj}(hk:∀b x,b∉[s.heap.objs.size]→(s.heap.push o).get? b=ND x→h'.get? b=ND x):∀b x,s.heap.get? b=ND x→h'.get? b=ND x:=
 λb x e=>hk b x (λhm=>by rw[D9.mp hm]at e;exact L7 _ (AJ e)) (AA _ e)
theorem aAl(hc:X.calm=NG):mZ X (.builtin "all") (λxs H Q=>∃(p:A7)(bs:List Bool),xs=[.ref p]∧pQ X.K H p (bs.map V.bl)∧Q (.bl (bs.all id)) H):=by
 intro pins s σ H xs us Q I r h;obtain⟨p,bs,rfl,hq,q⟩:=h;obtain⟨u,rfl,rx⟩:=vals1 r;cases rx;obtain⟨its,rv,pl,hz⟩:=I.list hq;have hb:=Jz rv;subst hb;have hl:=pl.isList;have hlt:p<s.heap.objs.size:=by obtain⟨_,e,_⟩:=hl;exact AJ e
 refine call_all_walk (DO hl ?_);refine⟨s.heap.objs.size,[s.heap.objs.size,p],[s.heap.objs.size],_,_,_,λi=>(bs[i]?).getD NG,U,IU (A:=X.A.in1) (I.ok.hd hc) _ p (E9 hlt) _,
  ⟨⟨_,AK _ U,U,U⟩,hl.push _⟩,λi v s' Q' E' hP hQ=>?_,λh' tk hk=>?_⟩
 ·have e:(bs.map DA)[i]?=ND v:=by simpa using hP
  rw[C4]at e;cases e2:bs[i]? with
  | none=>rw[e2]at e;cases e
  | some b=>rw[e2]at e;cases e;simp only[e2,U3]at hQ;exact BH hQ
 ·have e:((D2 (bs.map DA).toArray.size).all λi=>(bs[i]?).getD NG)=bs.all id:=by rw[D3,B7];exact TV bs
  rw[e];exact⟨.bl _,H,I.kept (bc hk),U,q⟩
theorem qd{P:AI}{w:AL}{kvs:List (Key×V)}{vs:List (Key×A6)}(rel:KV kvs vs){us:List A6}(hl:us.length=vs.length)(hv:∀(j:Nat)(v:A6),us[j]?=ND v→∃k x,vs[j]?=ND (k,x)∧(iB P w).is k v=NG) :
  Vals (kvs.map λkv=>kV kv.1) us:=by
 have ek:=KV.keys rel;have e0:(kvs.map λkv=>kV kv.1)=(vs.map (·.1)).map kV:=by rw[←ek,K4];rfl
 rw[e0];clear e0 ek rel
 induction vs generalizing us with
 | nil=>
  cases us with
  | nil=>exact .nil
  | cons _ _=>simp at hl
 | cons p r ih=>
  cases us with
  | nil=>simp at hl
  | cons u us=>refine .cons ?_ (ih (by simpa using hl) λj v e=>by simpa using hv (j+1) v (by simpa using e));obtain⟨k,x,e,h⟩:=hv 0 u U;simp at e;subst e;exact aCX h
theorem yR(hc:X.calm=NG):mZ X (.type "list") (λxs H Q=>∃p kvs,xs=[.ref p]∧Rd H p (.dK kvs)∧∀l,H l=none→Q (.ref l) (upd H l (.lst (kvs.map λkv=>kV kv.1)))):=by intro pins s σ H xs us Q I r h;obtain⟨p,kvs,rfl,hq,q⟩:=h;obtain⟨u,rfl,rx⟩:=vals1 r;cases rx;obtain⟨hz,hsm,vs,rel,dd⟩:=Jy I.hok hq;obtain⟨ep,hat⟩:=dd.dictAt;have hl:=KV.length rel;refine PySem.W.kdl_call (PySem.W.kdl_dict (knd:=iB X.prog X.w) (kvs:=vs) (ep:=ep) hsm) (I.ok.hd hc) hat (by omega) ?_;intro h' tk acc c kp e hacc;have hk:=qd (P:=X.prog) (w:=X.w) rel (us:=acc.toList) (by rw[K3];exact hacc.1) λj v ej=>hacc.2 j v (by rw[←L8];exact ej);exact⟨.ref s.heap.objs.size,_,I.laid (t':=tk) kp (D1 _) (show iV X.prog X.w _ h' _ (.lst (kvs.map λkv=>kV kv.1))from⟨by rw[B7];exact hz,acc.toList,c,hk,by simpa using e⟩),U,q _ (I.hok.fresh (D1 _))⟩
def rising(ns ms:List Int):Prop:=ms.Perm ns∧ms.Pairwise (·≤·)
theorem GD:mZ X (.builtin "sorted") (λxs H Q=>∃(p:A7)(ns:List Int),xs=[.ref p]∧pQ X.K H p (ns.map V.int)∧ns.length<64∧∀l ms,H l=none→rising ns ms→Q (.ref l) (upd H l (.lst (ms.map V.int)))):=by
 intro pins s σ H xs us Q I r h;obtain⟨p,ns,rfl,hq,h64,q⟩:=h;obtain⟨u,rfl,rx⟩:=vals1 r;cases rx;obtain⟨its,rv,pl,hz⟩:=I.list hq;have hlen:=rv.length;rw[B7]at hlen;refine sorted_ints pl.isList (intsAre_of rv) (by omega) λout ns' a1 a2 a3=>?_;obtain⟨e,he⟩:=sortedAll_at s.heap its out;have hl2:ns'.length=ns.length:=a2.length_eq;have hs:H (s.heap.objs.size+1)=none:=I.hok.fresh (L9 _);have I2:=I.laid (t':=s.toks) (a:=s.heap.objs.size+1) (o:=.lst (ns'.map V.int)) (h':=sortedAll s.heap its out) (λb o e=>sortedAll_old e) (L9 _)
  ⟨by rw[B7];exact O8 (rY (by omega)),out.toList,e,Ao a1,by simpa[Fs]using he⟩
 exact⟨.ref _,_,I2,U,q _ _ hs ⟨a2,a3⟩⟩
end
inductive DV where
  | int (i:Int) | non | lst (ds:List DV) | tup (ds:List DV)
mutual
def Reads(K:aF)(H:Hp):DV→V→Prop
 | .int i,x=>x=.int i
 | .non,x=>x=.non
 | .lst ds,x=>∃a xs,x=.ref a∧pQ K H a xs∧dR K H ds xs
 | .tup ds,x=>∃a xs,x=.ref a∧xR K H a xs∧dR K H ds xs
def dR(K:aF)(H:Hp):List DV→List V→Prop
 | [],xs=>xs=[]
 | d::ds,xs=>∃y ys,xs=y::ys∧Reads K H d y∧dR K H ds ys
end
mutual
def DV.depth:DV→Nat
 | .int _=>0
 | .non=>0
 | .lst ds=>iI ds+1
 | .tup ds=>iI ds+1
def iI:List DV→Nat
 | []=>0
 | d::ds=>max d.depth (iI ds)
end
theorem dR.length{K:aF}{H:Hp}:∀{ds:List DV} {xs:List V},dR K H ds xs→xs.length=ds.length
 | [],xs,h=>by unfold dR at h;rw[h];rfl
 | d::ds,xs,h=>by unfold dR at h;obtain⟨y,ys,rfl,_,h2⟩:=h;simp[dR.length h2]
theorem dR.get{K:aF}{H:Hp}:∀{ds:List DV} {xs:List V} {i:Nat} {d:DV},dR K H ds xs→ds[i]?=ND d→∃x,xs[i]?=ND x∧Reads K H d x
 | [],xs,i,d,h,e=>by simp at e
 | d'::ds,xs,0,d,h,e=>by unfold dR at h;obtain⟨y,ys,rfl,h1,_⟩:=h;simp at e;subst e;exact⟨y,U,h1⟩
 | d'::ds,xs,i+1,d,h,e=>by unfold dR at h;obtain⟨y,ys,rfl,_,h2⟩:=h;obtain⟨x,e1,e2⟩:=dR.get h2 (by simpa using e);exact⟨x,by simpa using e1,e2⟩
theorem Ni:∀{ds:List DV} {i:Nat} {d:DV},ds[i]?=ND d→d.depth≤iI ds
 | [],i,d,e=>by simp at e
 | d'::ds,0,d,e=>by simp at e;subst e;unfold iI;exact Nat.le_max_left _ _
 | d'::ds,i+1,d,e=>by have:=Ni (ds:=ds) (i:=i) (d:=d) (by simpa using e);unfold iI;exact G1 this (Nat.le_max_right _ _)
theorem TX(A:AN):A.in1.units=A.units+1:=rfl
section
open SeqAt
open Classical in
noncomputable def yS(d e:DV):Bool:=decide (d=e)
theorem vG{d e:DV}:yS d e=NG↔d=e:=by unfold yS;simp
theorem yU(d:DV):yS d d=NG:=vG.mpr U
theorem jT{d e:DV}(h:d≠e):yS d e=NH:=by unfold yS;simp[h]
theorem aCY(a b:Int):yS (.int a) (.int b)=(a==b):=by
 by_cases h:a=b
 ·subst h;simp[yU]
 ·rw[jT (by simpa using h)];simp[h]
open Classical in
theorem pR{ds es:List DV}(hl:ds.length=es.length):((D2 ds.length).all λi=>match ds[i]?,es[i]? with | some d,ND e=>yS d e | _,_=>NG)=decide (ds=es):=by
 rw[N3,M8,decide_eq_true_iff];constructor
 ·intro h;apply Y1 hl;intro i h1 h2;have:=h i (F5.mpr h1);simp only[B6 h1,B6 h2]at this;exact vG.mp this
 ·rintro rfl i hi;have hi':=F5.mp hi;simp only[B6 hi'];exact yU _
variable{X:Cx}{pins:List (A7×Obj)}{σ:St}{H:Hp}{s:A8}
open Classical in
theorem bf(ds es:List DV):yS (.lst ds) (.lst es)=decide (ds=es):=by
 by_cases h:ds=es
 ·subst h;simp[yU]
 ·rw[jT (by intro z;cases z;exact h U)];simp[h]
open Classical in
theorem bh(ds es:List DV):yS (.tup ds) (.tup es)=decide (ds=es):=by
 by_cases h:ds=es
 ·subst h;simp[yU]
 ·rw[jT (by intro z;cases z;exact h U)];simp[h]
theorem Ul(I:Inv X pins σ H s):∀(n:Nat)(d e:DV)(x:V),d.depth≤n→Reads X.K H d x→Reads X.K H e x→d=e:=by
 have lists:∀(n:Nat),(∀(d e:DV)(x:V),d.depth≤n→Reads X.K H d x→Reads X.K H e x→d=e)→∀(ds es:List DV)(xs:List V),iI ds≤n→dR X.K H ds xs→dR X.K H es xs→ds=es:=by
  intro n ih ds
  induction ds with
  | nil=>
   intro es xs _ h1 h2;have l1:=h1.length;have l2:=h2.length;cases es with
   | nil=>rfl
   | cons _ _=>rw[l1]at l2;simp at l2
  | cons d ds ihl=>
   intro es xs hd h1 h2;have hd1:d.depth≤n:=by unfold iI at hd;omega
   have hd2:iI ds≤n:=by unfold iI at hd;omega
   unfold dR at h1;obtain⟨y,ys,rfl,a1,a2⟩:=h1;cases es with
   | nil=>have:=h2.length;simp at this
   | cons e es=>unfold dR at h2;obtain⟨y',ys',q,b1,b2⟩:=h2;cases q;rw[ih d e y hd1 a1 b1,ihl es ys hd2 a2 b2]
 have kinds:∀{a:A7} {xs ys:List V},pQ X.K H a xs→xR X.K H a ys→False:=λ{a xs ys} h1 h2=>by obtain⟨_,_,p1,_⟩:=I.list h1;obtain⟨_,_,p2,_⟩:=I.tuple h2;exact ne_of_list_tuple p1.isList (show s.heap.IsTuple a _ from p2) U
 intro n
 induction n with
 | zero=>
  intro d e x hd h1 h2;cases d with
  | int i=>
   unfold Reads at h1;subst h1;cases e with
   | int j=>unfold Reads at h2;cases h2;rfl
   | non=>unfold Reads at h2;cases h2
   | lst es=>unfold Reads at h2;obtain⟨_,_,q,_⟩:=h2;cases q
   | tup es=>unfold Reads at h2;obtain⟨_,_,q,_⟩:=h2;cases q
  | non=>
   unfold Reads at h1;subst h1;cases e with
   | non=>rfl
   | int j=>unfold Reads at h2;cases h2
   | lst es=>unfold Reads at h2;obtain⟨_,_,q,_⟩:=h2;cases q
   | tup es=>unfold Reads at h2;obtain⟨_,_,q,_⟩:=h2;cases q
  | lst ds=>unfold DV.depth at hd;omega
  | tup ds=>unfold DV.depth at hd;omega
 | succ n ih=>
  intro d e x hd h1 h2;cases d with
  | int i=>
   unfold Reads at h1;subst h1;cases e with
   | int j=>unfold Reads at h2;cases h2;rfl
   | non=>unfold Reads at h2;cases h2
   | lst es=>unfold Reads at h2;obtain⟨_,_,q,_⟩:=h2;cases q
   | tup es=>unfold Reads at h2;obtain⟨_,_,q,_⟩:=h2;cases q
  | non=>
   unfold Reads at h1;subst h1;cases e with
   | non=>rfl
   | int j=>unfold Reads at h2;cases h2
   | lst es=>unfold Reads at h2;obtain⟨_,_,q,_⟩:=h2;cases q
   | tup es=>unfold Reads at h2;obtain⟨_,_,q,_⟩:=h2;cases q
  | lst ds=>
   unfold Reads at h1;obtain⟨a,xs,rfl,hq,r⟩:=h1;cases e with
   | int j=>unfold Reads at h2;cases h2
   | non=>unfold Reads at h2;cases h2
   | lst es=>
    unfold Reads at h2;obtain⟨b,ys,q,hq2,r2⟩:=h2;cases q;have:=I.DP hq hq2;subst this;rw[lists n ih ds es xs (by unfold DV.depth at hd;omega) r r2]
   | tup es=>
    unfold Reads at h2;obtain⟨b,ys,q,hq2,r2⟩:=h2;cases q;exact(kinds hq hq2).elim
  | tup ds=>
   unfold Reads at h1;obtain⟨a,xs,rfl,hq,r⟩:=h1;cases e with
   | int j=>unfold Reads at h2;cases h2
   | non=>unfold Reads at h2;cases h2
   | lst es=>
    unfold Reads at h2;obtain⟨b,ys,q,hq2,r2⟩:=h2;cases q;exact(kinds hq2 hq).elim
   | tup es=>unfold Reads at h2;obtain⟨b,ys,q,hq2,r2⟩:=h2;cases q;have:=I.Tv hq hq2;subst this;rw[lists n ih ds es xs (by unfold DV.depth at hd;omega) r r2]
theorem aAm(I:Inv X pins σ H s)(i:Int)(e:DV)(y:V)(u v:A6)(A:AN)(hu:A.units<As)(r2:Reads X.K H e y)(rx:RelV (.int i) u)(ry:RelV y v):RcAt A s u v (yS (.int i) e)∧EqAt A s u v (yS (.int i) e):=by
 obtain⟨t,rfl⟩:=rx;cases e with
 | int j=>unfold Reads at r2;subst r2;obtain⟨t',rfl⟩:=ry;rw[aCY];exact⟨RcAt.int_int _ _ _ _,EqAt.int_int _ _ _ _⟩
 | non=>
  unfold Reads at r2;subst r2;cases ry;rw[jT (by intro z;cases z)];exact⟨RcAt.int_none _ _,EqAt.int_none _ _⟩
 | lst es=>
  unfold Reads at r2;obtain⟨b,ys,rfl,hq,_⟩:=r2;cases ry;obtain⟨its,_,pl,_⟩:=I.list hq;rw[jT (by intro z;cases z)];exact⟨RcAt.int_list _ _ pl.isList (hu),EqAt.int_list _ _ pl.isList (hu)⟩
 | tup es=>unfold Reads at r2;obtain⟨b,ys,rfl,hq,_⟩:=r2;cases ry;obtain⟨its,_,pl,_⟩:=I.tuple hq;rw[jT (by intro z;cases z)];exact⟨RcAt.int_tuple _ _ pl (hu),EqAt.int_tuple _ _ pl (hu)⟩
theorem aAn(I:Inv X pins σ H s)(e:DV)(y:V)(u v:A6)(A:AN)(hu:A.units<As)(r2:Reads X.K H e y)(rx:RelV .non u)(ry:RelV y v):RcAt A s u v (yS .non e)∧EqAt A s u v (yS .non e):=by
 cases rx;cases e with
 | non=>
  unfold Reads at r2;subst r2;cases ry;rw[yU];exact⟨RcAt.none_none,EqAt.same _⟩
 | int j=>unfold Reads at r2;subst r2;obtain⟨t',rfl⟩:=ry;rw[jT (by intro z;cases z)];exact⟨RcAt.none_int _ _,EqAt.none_int _ _⟩
 | lst es=>
  unfold Reads at r2;obtain⟨b,ys,rfl,hq,_⟩:=r2;cases ry;obtain⟨its,_,pl,_⟩:=I.list hq;rw[jT (by intro z;cases z)];exact⟨RcAt.none_list pl.isList hu,EqAt.none_list pl.isList hu⟩
 | tup es=>unfold Reads at r2;obtain⟨b,ys,rfl,hq,_⟩:=r2;cases ry;obtain⟨its,_,pl,_⟩:=I.tuple hq;rw[jT (by intro z;cases z)];exact⟨RcAt.none_tuple pl hu,EqAt.none_tuple pl hu⟩
theorem Nj(I:Inv X pins σ H s):∀(n:Nat)(A:AN),(∀(d e:DV)(x y:V)(u v:A6)(A:AN),d.depth≤n→A.units+n<As→Reads X.K H d x→Reads X.K H e y→RelV x u→RelV y v→RcAt A s u v (yS d e)∧EqAt A s u v (yS d e)) →
  ∀(ds es:List DV)(xs ys:List V)(us vs:List A6),iI ds≤n→A.units+(n+1)<As→dR X.K H ds xs→dR X.K H es ys→Vals xs us→Vals ys vs →
  ∀j (h1:j<us.toArray.size) (h2:j<vs.toArray.size),EqAt A.in1 s us.toArray[j] vs.toArray[j] (match ds[j]?,es[j]? with | some d,ND e=>yS d e | _,_=>NG):=by
 intro n A ih ds es xs ys us vs hd hu r1 r2 v1 v2 j h1 h2;have l1:j<ds.length:=by rw[←r1.length,v1.length];simpa using h1
 have l2:j<es.length:=by rw[←r2.length,v2.length];simpa using h2
 obtain⟨x,ex,rx⟩:=r1.get (i:=j) (d:=ds[j]) (by simp);obtain⟨y,ey,ry⟩:=r2.get (i:=j) (d:=es[j]) (by simp);obtain⟨u,eu,ru⟩:=v1.get ex;obtain⟨v,ev,rv⟩:=v2.get ey;have e1:us.toArray[j]=u:=by rw[D4]at eu;obtain⟨_,eu⟩:=eu;simpa using eu
 have e2:vs.toArray[j]=v:=by rw[D4]at ev;obtain⟨_,ev⟩:=ev;simpa using ev
 rw[e1,e2];simp only[B6 l1,B6 l2];exact(ih _ _ x y u v A.in1 (G1 (Ni (i:=j) (by simp)) hd) (by rw[TX];omega) rx ry ru rv).2
theorem Xm(I:Inv X pins σ H s):∀(n:Nat)(d e:DV)(x y:V)(u v:A6)(A:AN),d.depth≤n→A.units+n<As→Reads X.K H d x→Reads X.K H e y→RelV x u→RelV y v→RcAt A s u v (yS d e)∧EqAt A s u v (yS d e):=by
 have items:=Nj I;have seqs:∀(n:Nat)(A:AN),(∀(d e:DV)(x y:V)(u v:A6)(A:AN),d.depth≤n→A.units+n<As→Reads X.K H d x→Reads X.K H e y→RelV x u→RelV y v→RcAt A s u v (yS d e)∧EqAt A s u v (yS d e)) →
   ∀(d e:DV)(x y:V)(u v:A6),d.depth≤n+1→A.units+(n+1)<As→Reads X.K H d x→Reads X.K H e y→RelV x u→RelV y v→RcAt A s u v (yS d e)∧EqAt A s u v (yS d e):=by
  intro n A ih d e x y u v hd hu r1 r2 rx ry;have of_same:∀{a b:A7} {k:Bool},(a=b→k=NG)→RcAt A s (.ref a) (.ref b) k→EqAt A s (.ref a) (.ref b) k:=λ{a b k} hk h=>by
   by_cases hab:a=b
   ·subst hab;rw[hk rfl];exact EqAt.same _
   ·exact EqAt.of_refs hab h
  cases d with
  | int i=>unfold Reads at r1;subst r1;exact aAm I i e y u v A (by omega) r2 rx ry
  | non=>unfold Reads at r1;subst r1;exact aAn I e y u v A (by omega) r2 rx ry
  | lst ds=>
   unfold Reads at r1;obtain⟨a,xs,rfl,hq1,qe⟩:=r1;cases rx;obtain⟨Nk,v1,Rz,_⟩:=I.list hq1;have hd':iI ds≤n:=by unfold DV.depth at hd;omega
   cases e with
   | int j=>unfold Reads at r2;subst r2;obtain⟨t',rfl⟩:=ry;rw[jT (by intro z;cases z)];exact⟨RcAt.list_int _ _ Rz.isList (by omega),EqAt.list_int _ _ Rz.isList (by omega)⟩
   | non=>
    unfold Reads at r2;subst r2;cases ry;rw[jT (by intro z;cases z)];exact⟨RcAt.list_none Rz.isList (by omega),EqAt.list_none Rz.isList (by omega)⟩
   | lst es=>
    unfold Reads at r2;obtain⟨b,ys,rfl,hq2,TY⟩:=r2;cases ry;obtain⟨its2,v2,GF,_⟩:=I.list hq2;have e1:Nk.toArray.size=ds.length:=by rw[D3,←v1.length,qe.length]
    have e2:its2.toArray.size=es.length:=by rw[D3,←v2.length,TY.length]
    have rc:RcAt A s (.ref a) (.ref b) (yS (.lst ds) (.lst es)):=by
     by_cases hl:ds.length=es.length
     ·have q:=RcAt.lists (A:=A) (s:=s) Rz.isList GF.isList (by rw[e1,e2];exact hl) (by omega) (items n A ih ds es xs ys Nk its2 hd' hu qe TY v1 v2);rw[e1,pR hl]at q;rw[bf];exact q
     ·rw[jT (by intro z;cases z;exact hl U)];exact RcAt.lists_lengths Rz.isList GF.isList (by rw[e1,e2];simpa using hl) (by omega)
    exact⟨rc,of_same (λhab=>by
     subst hab;refine vG.mpr (Ul I (n+1) _ _ (.ref a) hd ?_ ?_)
     ·unfold Reads;exact⟨a,xs,U,hq1,qe⟩
     ·unfold Reads;exact⟨a,ys,U,hq2,TY⟩) rc⟩
   | tup es=>
    unfold Reads at r2;obtain⟨b,ys,rfl,hq2,TY⟩:=r2;cases ry;obtain⟨its2,v2,GF,_⟩:=I.tuple hq2;rw[jT (by intro z;cases z)];exact⟨RcAt.list_tuple Rz.isList GF (by omega),EqAt.list_tuple Rz.isList GF (by omega)⟩
  | tup ds=>
   unfold Reads at r1;obtain⟨a,xs,rfl,hq1,qe⟩:=r1;cases rx;obtain⟨Nk,v1,Rz,_⟩:=I.tuple hq1;have hd':iI ds≤n:=by unfold DV.depth at hd;omega
   cases e with
   | int j=>unfold Reads at r2;subst r2;obtain⟨t',rfl⟩:=ry;rw[jT (by intro z;cases z)];exact⟨RcAt.tuple_int _ _ Rz (by omega),EqAt.tuple_int _ _ Rz (by omega)⟩
   | non=>
    unfold Reads at r2;subst r2;cases ry;rw[jT (by intro z;cases z)];exact⟨RcAt.tuple_none Rz (by omega),EqAt.tuple_none Rz (by omega)⟩
   | lst es=>
    unfold Reads at r2;obtain⟨b,ys,rfl,hq2,TY⟩:=r2;cases ry;obtain⟨its2,v2,GF,_⟩:=I.list hq2;rw[jT (by intro z;cases z)];exact⟨RcAt.tuple_list Rz GF.isList (by omega),EqAt.tuple_list Rz GF.isList (by omega)⟩
   | tup es=>
    unfold Reads at r2;obtain⟨b,ys,rfl,hq2,TY⟩:=r2;cases ry;obtain⟨its2,v2,GF,_⟩:=I.tuple hq2;have e1:Nk.toArray.size=ds.length:=by rw[D3,←v1.length,qe.length]
    have e2:its2.toArray.size=es.length:=by rw[D3,←v2.length,TY.length]
    have rc:RcAt A s (.ref a) (.ref b) (yS (.tup ds) (.tup es)):=by
     have q:=RcAt.tuples (A:=A) (s:=s) (l:=a) (b:=b) Rz GF (by omega) (items n A ih ds es xs ys Nk its2 hd' hu qe TY v1 v2);rw[e1,e2]at q;by_cases hl:ds.length=es.length
     ·rw[←hl,i8,pR hl]at q;rw[bh];simpa using q
     ·rw[jT (by intro z;cases z;exact hl U)];have z:(ds.length==es.length)=NH:=by simpa using hl
      rw[z,o9]at q;exact q
    exact⟨rc,of_same (λhab=>by
     subst hab;refine vG.mpr (Ul I (n+1) _ _ (.ref a) hd ?_ ?_)
     ·unfold Reads;exact⟨a,xs,U,hq1,qe⟩
     ·unfold Reads;exact⟨a,ys,U,hq2,TY⟩) rc⟩
 intro n
 induction n with
 | zero=>
  intro d e x y u v A hd hu r1 r2 rx ry;cases d with
  | int i=>unfold Reads at r1;subst r1;exact aAm I i e y u v A (by omega) r2 rx ry
  | non=>unfold Reads at r1;subst r1;exact aAn I e y u v A (by omega) r2 rx ry
  | lst ds=>unfold DV.depth at hd;omega
  | tup ds=>unfold DV.depth at hd;omega
 | succ n ih=>intro d e x y u v A hd hu r1 r2 rx ry;exact seqs n A ih d e x y u v hd hu r1 r2 rx ry
end
section
variable{X:Cx}
def aFJ(K:aF)(neg:Bool):R2:=λx y H Q=>∃d e,Reads K H d x∧Reads K H e y∧d.depth≤32∧Q (.bl (if neg then !yS d e else yS d e)) H
theorem aFK(hu:X.A.units+64<As):uM X (AS .Eq) (aFJ X.K NH):=by intro pins s σ H x y v u Q I rx ry h;obtain⟨d,e,r1,r2,hd,q⟩:=h;exact(Xm I 32 d e x y v u X.A hd (by omega) r1 r2 rx ry).1 X.prog X.w X.xe _ ⟨.bl _,H,I,U,q⟩
open SeqAt in
theorem aFL(hu:X.A.units+64<As):uM X (AS .NotEq) (λx y H Q=>∃ds es,Reads X.K H (.lst ds) x∧Reads X.K H (.lst es) y∧iI ds≤32∧Q (.bl (!yS (.lst ds) (.lst es))) H):=by
 intro pins s σ H x y v u Q I rx ry h;obtain⟨ds,es,r1,r2,hd,q⟩:=h;unfold Reads at r1 r2;obtain⟨a,xs,rfl,hq1,qe⟩:=r1;obtain⟨b,ys,rfl,hq2,TY⟩:=r2;cases rx;cases ry;obtain⟨Nk,v1,Rz,_⟩:=I.list hq1;obtain⟨its2,v2,GF,_⟩:=I.list hq2;have e1:Nk.toArray.size=ds.length:=by rw[D3,←v1.length,qe.length]
 have e2:its2.toArray.size=es.length:=by rw[D3,←v2.length,TY.length]
 have rc:RcNeAt X.A s (.ref a) (.ref b) (!yS (.lst ds) (.lst es)):=by
  by_cases hl:ds.length=es.length
  ·have z:=RcNeAt.lists (A:=X.A) (s:=s) Rz.isList GF.isList (by rw[e1,e2];exact hl) (by omega) (Nj I 32 X.A (λd e x y u v A a1 a2 a3 a4 a5 a6=>Xm I 32 d e x y u v A a1 a2 a3 a4 a5 a6) ds es xs ys Nk its2 hd (by omega) qe TY v1 v2);rw[e1,pR hl]at z;rw[bf];exact z
  ·rw[jT (by intro z;cases z;exact hl U)];exact RcNeAt.lists_lengths Rz.isList GF.isList (by rw[e1,e2];simpa using hl) (by omega)
 exact rc X.prog X.w X.xe _ ⟨.bl _,H,I,U,q⟩
end
end L2


namespace L2
open PySem PySem.Spec PyProof.Rows
structure Raw(K:aF)(mg:Str→Option A6)(x:Str)(st:AH):Prop where
 ex:∃f fd,Fun K x x st f fd∧mg x=ND (.ref f)
theorem aFM{K:aF}{h:AM}{mg:Str→Option A6}{x:Str}{st:AH}{f:A7}{oc:A6}{od an:Option A7}{osl:Array (Option A6)}{kV doc pm cdv ct:A6}(X:K.In h)(G:h.Ns AV mg)
  (a:S6 K AV x=ND (ND (.ref f))) (l:K.lookup f=ND ⟨oc,od,.func (G2 x x (eQ st) (cC st) (aL st) .none kV doc pm an cdv ct),osl⟩)
  (c:L4 K cdv x=NG) (k:K8 K (.ref f)=NG):Raw K mg x st:=⟨⟨f,_,aFH l c k,f9 X G a⟩⟩
structure sJ(P:AI)(w:AL)(K:aF)(mg:Str→Option A6)(base:AM)(x:Str)(k:Nat)(n:Nat)(sp:Sp):Prop where
 ex:∃f fd ps,ps.length=n∧yF P w K mg base CQ k f fd ps sp∧Binds K fd ps []∧K8 K (.ref f)=NG∧mg x=ND (.ref f)
theorem Raw.cal{P:AI}{w:AL}{K:aF}{mg:Str→Option A6}{base:AM}{x:Str}{st:AH}{N ps:List Str}{k:Nat}{sp:Sp}(R:Raw K mg x st)(S:bA N ps (aL st))(len:∀vs H Q E,sp vs H Q E→vs.length=ps.length)
  (hb:∀(kV doc pm:A6)(an:Option A7)(cdv ct:A6)(us:List A6),us.length=ps.length→DU (G2 x x (eQ st) (cC st) (aL st) .none kV doc pm an cdv ct) ⟨us,[]⟩=pure (ps.zip us))
  (hbody:∀(f:A7)(cdv:A6)(A:AN)(outer:List Env)(s:A8)(H:Hp)(vs:List V)(Q:VK)(E:XK),jK k (A.deeper (BT x (aL st) s.heap.objs.size f cdv))→sp vs H Q E →
   ∃t,DN (Fd CQ P w K mg base N x (aL st) f cdv A outer s H E).ZV (cC st) t∧t {nx:=λ_ H'=>Q .non H',rt:=Q} (start N vs) H):sJ P w K mg base x (k+1) ps.length sp:=by
 obtain⟨f,fd,F,m⟩:=R.ex;exact⟨f,fd,ps,U,F.ok S len λcdv A outer s H vs Q E hr h=>hbody f cdv A outer s H vs Q E hr h,F.binds hb,F.kp,m⟩
theorem aAo{X:Cx}{x:Str}{k n:Nat}{sp:Sp}{e:AD}{es:List AD}{p pos:Pos}{t:TA}(C:sJ X.prog X.w X.K X.mg X.base x k n sp)(hr:jK k X.A)(hg:Gl X x)
  (ha:PA X (e::es) t) (hdb:(x==("__debug__" : Str))=NH:=by decide) (he:AB (e::es) X.env=(NH,AO e X.env)::AB es X.env:=by rfl) (hpl:(AZ pos (AB es X.env)).any (·.1)=NH:=by rfl) :
  PE X (.Call (.Name x p) (e::es) [] pos) (Ua sp [] E0 t):=by
 obtain⟨f,fd,ps,_,F,hb,hk,hm⟩:=C.ex;exact aCB F hr hg hm hk hb .nil Uk ha hdb he hpl
theorem call_of{sp:Sp}{E:XK}{t:TA}{σ:St}{H:Hp}{Q:VK}(h:t σ H λvs H1=>sp vs H1 Q E):Ua sp [] E t σ H Q:=by
 unfold Ua;have e:(λ(vs:List V) (H1:Hp)=>sp (vs++[]) H1 Q E)=λvs H1=>sp vs H1 Q E:=by funext vs H1;rw[F2]
 rw[e];exact h
theorem cP{H:Hp}{p:A7}(h:H p=none)(o:HO):aU H (upd H p o):=λb u q=>by rw[bN (gR q h)];exact q
theorem aU.tup{K:aF}{H H':Hp}{a:A7}{xs:List V}(e:aU H H')(h:xR K H a xs):xR K H' a xs:=by
 rcases h with (h | ⟨o,h⟩) | h
 ·exact .inl (.inl (e _ _ h))
 ·exact .inl (.inr ⟨o,e _ _ h⟩)
 ·exact .inr h
mutual
theorem aU.reads{K:aF}{H H':Hp}(e:aU H H'):∀(d:DV)(x:V),Reads K H d x→Reads K H' d x
 | .int i,x,h=>by unfold Reads at h ⊢;exact h
 | .non,x,h=>by unfold Reads at h ⊢;exact h
 | .lst ds,x,h=>by unfold Reads at h ⊢;obtain⟨a,xs,r,hq,l⟩:=h;exact⟨a,xs,r,e.seq hq,aU.UG e ds xs l⟩
 | .tup ds,x,h=>by unfold Reads at h ⊢;obtain⟨a,xs,r,hq,l⟩:=h;exact⟨a,xs,r,e.tup hq,aU.UG e ds xs l⟩
theorem aU.UG{K:aF}{H H':Hp}(e:aU H H'):∀(ds:List DV)(xs:List V),dR K H ds xs→dR K H' ds xs
 | [],xs,h=>by unfold dR at h ⊢;exact h
 | d::ds,xs,h=>by unfold dR at h ⊢;obtain⟨y,ys,r,h1,h2⟩:=h;exact⟨y,ys,r,aU.reads e d y h1,aU.UG e ds ys h2⟩
end
theorem Dg:∀ns:List Int,iI (ns.map DV.int)=0
 | []=>by rw[L3];unfold iI;rfl
 | n::ns=>by rw[D5];unfold iI DV.depth;rw[Dg ns];rfl
theorem GJ{ns ms:List Int}:ns.map DV.int=ms.map DV.int↔ns=ms:=by
 constructor
 ·intro h;have:∀(a b:Int),DV.int a=DV.int b→a=b:=λa b e=>by cases e;rfl
  exact(List.map_inj_right this).mp h
 ·rintro rfl;rfl
theorem aJk{xs:List V}{k:Int}{v:V}(h0:0≤k)(h:xs[k.toNat]?=ND v):QX xs k=ND v:=by
 have ek:k=((k.toNat:Nat):Int):=by omega
 rw[ek];exact aCG h
theorem aCZ(z:Int)(ns:List Int):inV (.int z) (ns.map V.int)=decide (z∈ns):=by
 unfold inV;rw[N3,U4,decide_eq_true_iff];constructor
 ·rintro⟨v,hv,e⟩
  obtain⟨m,hm,rfl⟩:=G5.mp hv;have:m=z:=by simpa[eqV]using e
  subst this;exact hm
 ·intro h;exact⟨.int z,G5.mpr ⟨z,h,U⟩,by simp[eqV]⟩
theorem qg(ns:List Int):(ns.map V.int).all yO=NG:=by rw[M8];intro v hv;obtain⟨m,_,rfl⟩:=G5.mp hv;rfl
def mk(ns:List Int):List (Key×V):=ns.foldl (λkvs n=>putK kvs (F7 n) (V.bl NG)) []
theorem aC0(ns:List Int)(n:Int):mk (ns++[n])=putK (mk ns) (F7 n) (V.bl NG):=by unfold mk;rw[T6];rfl
theorem yV(ns:List Int):(mk ns).length≤ns.length:=by
 have h:∀(l:List Int),(mk l.reverse).length≤l.length:=by
  intro l
  induction l with
  | nil=>exact D1 _
  | cons a l ih=>rw[j7,aC0,D8];exact G1 (yQ _ _ _) (U1 ih)
 have q:=h ns.reverse;rw[d9,List.length_reverse]at q;exact q
end L2
namespace L2
theorem kI.at{scope:PySem.Scope}{N:List PySem.Str}{k:Nat}{fr:List Nat}(CT:PySem.Scope)(oN:List PySem.Str)(h:az CT scope oN N k fr=NG):kI CT scope oN N k fr:=kI.of h
end L2
namespace L2
open PySem PySem.Spec PyProof.Rows
def xT(H:Hp)(p:A7):Prop:=(∀xs,H p≠ND (.tup xs))∧∀o xs,H p≠ND (.yM o (.tup xs))
theorem vH{H:Hp}{p:A7}{xs:List V}(h:H p=ND (.lst xs)):xT H p:=⟨λys e=>(by rw[h]at e;cases e),λo ys e=>(by rw[h]at e;cases e)⟩
theorem Nm{H:Hp}{p:A7}{kvs:List (Key×V)}(h:H p=ND (.dK kvs)):xT H p:=⟨λys e=>(by rw[h]at e;cases e),λo ys e=>(by rw[h]at e;cases e)⟩
theorem xR.upd{K:aF}{H:Hp}{a p:A7}{xs:List V}{o:HO}(h:xR K H a xs)(n:xT H p):xR K (upd H p o) a xs:=by
 rcases h with (h | ⟨u,h⟩) | h
 ·exact .inl (.inl (by rw[bN (λz=>n.1 xs (by rw[←z];exact h))];exact h))
 ·exact .inl (.inr ⟨u,by rw[bN (λz=>n.2 u xs (by rw[←z];exact h))];exact h⟩)
 ·exact .inr h
mutual
def jF:DV→Bool
 | .int _=>NG
 | .non=>NG
 | .lst _=>NH
 | .tup ds=>eU ds
def eU:List DV→Bool
 | []=>NG
 | d::ds=>jF d&&eU ds
end
mutual
theorem ql{K:aF}{H:Hp}{p:A7}{o:HO}(n:xT H p):∀(d:DV)(x:V),jF d=NG→Reads K H d x→Reads K (upd H p o) d x
 | .int i,x,_,h=>by unfold Reads at h ⊢;exact h
 | .non,x,_,h=>by unfold Reads at h ⊢;exact h
 | .lst ds,x,hi,h=>by unfold jF at hi;cases hi
 | .tup ds,x,hi,h=>by unfold jF at hi;unfold Reads at h ⊢;obtain⟨a,xs,r,hq,l⟩:=h;exact⟨a,xs,r,hq.upd n,Np n ds xs hi l⟩
theorem Np{K:aF}{H:Hp}{p:A7}{o:HO}(n:xT H p):∀(ds:List DV)(xs:List V),eU ds=NG→dR K H ds xs→dR K (upd H p o) ds xs
 | [],xs,_,h=>by unfold dR at h ⊢;exact h
 | d::ds,xs,hi,h=>by unfold eU at hi;rw[G9]at hi;unfold dR at h ⊢;obtain⟨y,ys,r,h1,h2⟩:=h;exact⟨y,ys,r,ql n d y hi.1 h1,Np n ds ys hi.2 h2⟩
end
theorem Fg{n d:Nat}{k:Nat}:HT.Kw n d (ND (k:Int))=min k n:=HT.aCD n d k
end L2
namespace L2
open PySem PySem.Spec PyProof.Rows
section
variable{X:Cx}
end
end L2
namespace L2
open PySem PySem.Spec PyProof.Rows
end L2
namespace L2
open PySem PySem.Spec PyProof.Rows
section
variable{X:Cx}
end
theorem pU:∀{l m:List Int},l.Pairwise (·<·)→m.Pairwise (·<·)→(∀j,j∈l↔j∈m)→l=m
  | [],[],_,_,_=>rfl
  | [],b::m,_,_,h=>absurd ((h b).mpr C9) (by simp)
  | a::l,[],_,_,h=>absurd ((h a).mp C9) (by simp)
  | a::l,b::m,h1,h2,h=>by
    obtain⟨h1a,h1b⟩:=J7.mp h1;obtain⟨h2a,h2b⟩:=J7.mp h2;have e:a=b:=by
      rcases C5.mp ((h a).mp C9)with q | q
      · exact q
      · rcases C5.mp ((h b).mpr C9)with q' | q'
        · exact q'.symm
        · have:=h2a a q
          have:=h1a b q';omega
    subst e;rw[pU h1b h2b λj=>?_];constructor
    · intro hj
      rcases C5.mp ((h j).mp (C6 _ hj))with q | q
      · have:=h1a j hj
        omega
      · exact q
    · intro hj
      rcases C5.mp ((h j).mpr (C6 _ hj))with q | q
      · have:=h2a j hj
        omega
      · exact q
theorem GK{K:aF}:K1 K (.type "int") (.type "int")=ND NG:=by unfold K1;rfl
theorem Sd{K:aF}:K1 K (.type "bool") (.type "bool")=ND NG:=by unfold K1;rfl
theorem Sg{K:aF}:K1 K (.type "list") (.type "list")=ND NG:=by unfold K1;rfl
theorem La{K:aF}:K1 K (.type "tuple") (.type "tuple")=ND NG:=by unfold K1;rfl
theorem Xn{K:aF}:K1 K (.type "int") (.type "bool")=ND NH:=by
  first | rfl | decide | (unfold K1 p5;rfl) | (unfold K1 p5;simp;decide)
end L2


namespace L2
open PySem PySem.Spec PyProof.Rows
section
variable{X:Cx}
def Lp(ns:List Int)(m:Int):Prop:=m∈ns∧∀a∈ns,m≤a
theorem Cu(ns:List Int):∀k,k<ns.length→argBest (λi j=>decide (ns.getD i 0<ns.getD j 0)) k≤k∧∀i,i≤k→ns.getD (argBest (λi j=>decide (ns.getD i 0<ns.getD j 0)) k) 0≤ns.getD i 0
 | 0,_=>⟨D1 _,λi hi=>by
  have:i=0:=by omega
  subst this;exact b9 _⟩
 | k+1,h=>by
  obtain⟨h1,h2⟩:=Cu ns k (by omega);unfold argBest;split
  ·rename_i c;have c':=of_decide_eq_true c;refine⟨D1 _,λi hi=>?_⟩;rcases J2 i (k+1)with q | q
   ·have:=h2 i (by omega);omega
   ·have:i=k+1:=by omega
    subst this;exact b9 _
  ·rename_i c;have c':=of_decide_eq_false (X7.mpr c);refine⟨by omega,λi hi=>?_⟩;rcases J2 i (k+1)with q | q
   ·exact h2 i (by omega)
   ·have:i=k+1:=by omega
    subst this;omega
theorem qm(hc:X.calm=NG):mZ X (.builtin "min") (λxs H Q=>∃(p:A7)(ns:List Int),xs=[.ref p]∧pQ X.K H p (ns.map V.int)∧0<ns.length∧∀m,Lp ns m→Q (.int m) H):=by
 intro pins s σ H xs us Q I r h;obtain⟨p,ns,rfl,hq,hpos,q⟩:=h;obtain⟨u,rfl,rx⟩:=vals1 r;cases rx;obtain⟨its,rv,pl,hz⟩:=I.list hq;have hl:=pl.isList;have hlen:=rv.length;rw[B7]at hlen;have hlt:p<s.heap.objs.size:=by obtain⟨_,e,_⟩:=hl;exact AJ e
 have item:∀(i:Nat)(v:A6),its.toArray[i]?=ND v→∃t,v=.int (ns.getD i 0) t∧i<ns.length:=λi v e=>by
  have e':its[i]?=ND v:=by simpa using e
  have hi:=(D4.mp e').1;obtain⟨u,eu,ru⟩:=rv.get (i:=i) (x:=.int (ns.getD i 0)) (by rw[C4,B8,B6 (by omega)];rfl);rw[e']at eu;cases eu;obtain⟨t,rfl⟩:=ru;exact⟨t,U,by omega⟩
 refine call_min_walk (DO hl ?_);refine⟨s.heap.objs.size,[s.heap.objs.size,p],[s.heap.objs.size],its.toArray.size,_,_,λi j=>decide (ns.getD i 0<ns.getD j 0),U,IU (A:=X.A.in1) (I.ok.hd hc) _ p (E9 hlt) _,
  ⟨⟨_,AK _ U,U,U⟩,hl.push _⟩,λb hb=>?_,by rw[D3];omega,λi j vi vj s' Q' E' hi hj hQ=>?_,λv h' tk hP hk=>?_⟩
 ·show b<(s.heap.push _).objs.size;rw[AY];rcases C5.mp hb with e | hb
  ·rw[e];exact M7 _
  ·rw[D9.mp hb];exact N2 hlt
 ·obtain⟨t1,rfl,_⟩:=item i vi hi;obtain⟨t2,rfl,_⟩:=item j vj hj;exact HT.aAa _ _ _ _ _ _ _ _ _ _ hQ
 ·obtain⟨t,rfl,hi⟩:=item _ v hP;rw[D3,←hlen]at hi ⊢;obtain⟨h1,h2⟩:=Cu ns (ns.length-1) (by omega);refine⟨.int _,H,I.kept (bc hk),⟨t,U⟩,q _ ⟨?_,λa ha=>?_⟩⟩
  ·rw[B8,B6 hi];exact N7 _
  ·obtain⟨i,hi',rfl⟩:=J1 ha;have:=h2 i (by omega);rw[show ns.getD i 0=ns[i]from by rw[B8,B6 hi'];rfl]at this;exact this
open SeqAt in
theorem aFN(hu:X.A.units+64<As):uM X (AS .NotEq) (λx y H Q=>∃ds es,Reads X.K H (.tup ds) x∧Reads X.K H (.tup es) y∧iI ds≤32∧Q (.bl (!yS (.tup ds) (.tup es))) H):=by
 intro pins s σ H x y v u Q I rx ry h;obtain⟨ds,es,r1,r2,hd,q⟩:=h;unfold Reads at r1 r2;obtain⟨a,xs,rfl,hq1,qe⟩:=r1;obtain⟨b,ys,rfl,hq2,TY⟩:=r2;cases rx;cases ry;obtain⟨Nk,v1,Rz,_⟩:=I.tuple hq1;obtain⟨its2,v2,GF,_⟩:=I.tuple hq2;have e1:Nk.toArray.size=ds.length:=by rw[D3,←v1.length,qe.length]
 have e2:its2.toArray.size=es.length:=by rw[D3,←v2.length,TY.length]
 have rc:RcNeAt X.A s (.ref a) (.ref b) (!yS (.tup ds) (.tup es)):=by
  have z:=RcNeAt.tuples (A:=X.A) (s:=s) (l:=a) (b:=b) Rz GF (by omega) (Nj I 32 X.A (λd e x y u v A a1 a2 a3 a4 a5 a6=>Xm I 32 d e x y u v A a1 a2 a3 a4 a5 a6) ds es xs ys Nk its2 hd (by omega) qe TY v1 v2);rw[e1,e2]at z;by_cases hl:ds.length=es.length
  ·rw[←hl,i8,pR hl]at z;rw[bh];simpa using z
  ·rw[jT (by intro z;cases z;exact hl U)];have zz:(ds.length==es.length)=NH:=by simpa using hl
   rw[zz,o9]at z;exact z
 exact rc X.prog X.w X.xe _ ⟨.bl _,H,I,U,q⟩
end
end L2


namespace L2
open PySem PySem.Spec PyProof.Rows
inductive D where
  | non | bl (b:Bool) | int (i:Int) | str (x:Str)
  | lst (ds:List D) | tup (ds:List D)
  | dk (ks:List Key) (ds:List D)
  | dt (ks:List (List Key)) (ds:List D)
  | ins (C:A7) (nm:List Str) (ds:List D)
abbrev Fp:=A7→Prop
def Apart(A B:Fp):Prop:=∀x,A x→¬B x
def Is(A B:Fp):Prop:=∀x,A x↔B x
def None(A:Fp):Prop:=∀x,¬A x
abbrev fH(A B:Fp):Fp:=λx=>A x∨B x
mutual
def Rv(K:aF)(H:Hp):D→V→Prop
 | .non,v=>v=.non
 | .bl b,v=>v=.bl b
 | .int i,v=>v=.int i
 | .str x,v=>v=.str x
 | .lst ds,v=>∃a xs,v=.ref a∧pQ K H a xs∧dF K H ds xs
 | .tup ds,v=>∃a xs,v=.ref a∧xR K H a xs∧dF K H ds xs
 | .dk ks ds,v=>∃a xs,v=.ref a∧Rd H a (.dK (ks.zip xs))∧ks.length=xs.length∧dF K H ds xs
 | .dt ks ds,v=>∃a xs,v=.ref a∧Rd H a (.dT (ks.zip xs))∧ks.length=xs.length∧dF K H ds xs
 | .ins C nm ds,v=>∃a dx xs,v=.ref a∧H a=ND (.ins C dx (nm.zip xs))∧nm.length=xs.length∧dF K H ds xs
def dF(K:aF)(H:Hp):List D→List V→Prop
 | [],xs=>xs=[]
 | d::ds,xs=>∃y ys,xs=y::ys∧Rv K H d y∧dF K H ds ys
end
theorem aU.rd{H H':Hp}(e:aU H H'){a:A7}{u:HO}(h:Rd H a u):Rd H' a u:=by
 rcases h with h | ⟨o,h⟩
 ·exact .inl (e _ _ h)
 ·exact .inr ⟨o,e _ _ h⟩
mutual
theorem aU.rv{K:aF}{H H':Hp}(e:aU H H'):∀(d:D)(v:V),Rv K H d v→Rv K H' d v
 | .non,v,h=>by unfold Rv at h ⊢;exact h
 | .bl _,v,h=>by unfold Rv at h ⊢;exact h
 | .int _,v,h=>by unfold Rv at h ⊢;exact h
 | .str _,v,h=>by unfold Rv at h ⊢;exact h
 | .lst ds,v,h=>by unfold Rv at h ⊢;obtain⟨a,xs,r,hq,l⟩:=h;exact⟨a,xs,r,e.seq hq,aU.bj e ds xs l⟩
 | .tup ds,v,h=>by unfold Rv at h ⊢;obtain⟨a,xs,r,hq,l⟩:=h;exact⟨a,xs,r,e.tup hq,aU.bj e ds xs l⟩
 | .dk ks ds,v,h=>by unfold Rv at h ⊢;obtain⟨a,xs,r,hq,hl,l⟩:=h;exact⟨a,xs,r,e.rd hq,hl,aU.bj e ds xs l⟩
 | .dt ks ds,v,h=>by unfold Rv at h ⊢;obtain⟨a,xs,r,hq,hl,l⟩:=h;exact⟨a,xs,r,e.rd hq,hl,aU.bj e ds xs l⟩
 | .ins C nm ds,v,h=>by unfold Rv at h ⊢;obtain⟨a,dx,xs,r,hq,hl,l⟩:=h;exact⟨a,dx,xs,r,e _ _ hq,hl,aU.bj e ds xs l⟩
theorem aU.bj{K:aF}{H H':Hp}(e:aU H H'):∀(ds:List D)(xs:List V),dF K H ds xs→dF K H' ds xs
 | [],xs,h=>by unfold dF at h ⊢;exact h
 | d::ds,xs,h=>by unfold dF at h ⊢;obtain⟨y,ys,r,h1,h2⟩:=h;exact⟨y,ys,r,aU.rv e d y h1,aU.bj e ds ys h2⟩
end
theorem dF.length{K:aF}{H:Hp}:∀{ds:List D} {xs:List V},dF K H ds xs→xs.length=ds.length
 | [],xs,h=>by unfold dF at h;subst h;rfl
 | d::ds,xs,h=>by unfold dF at h;obtain⟨y,ys,rfl,_,h2⟩:=h;rw[D8,D8,dF.length h2]
theorem dF.get{K:aF}{H:Hp}:∀{ds:List D} {xs:List V} {i:Nat} {d:D},dF K H ds xs→ds[i]?=ND d→∃x,xs[i]?=ND x∧Rv K H d x
 | [],xs,i,d,h,e=>by simp at e
 | d'::ds,xs,0,d,h,e=>by unfold dF at h;obtain⟨y,ys,rfl,h1,_⟩:=h;simp at e;subst e;exact⟨y,rfl,h1⟩
 | d'::ds,xs,i+1,d,h,e=>by unfold dF at h;obtain⟨y,ys,rfl,_,h2⟩:=h;obtain⟨x,e1,e2⟩:=dF.get (i:=i) (d:=d) h2 (by simpa using e);exact⟨x,by simpa using e1,e2⟩
theorem dF.of{K:aF}{H:Hp}:∀{ds:List D} {xs:List V},xs.length=ds.length→(∀(i:Nat)(d:D)(x:V),ds[i]?=ND d→xs[i]?=ND x→Rv K H d x)→dF K H ds xs
 | [],xs,hl,_=>by unfold dF;exact L6 hl
 | d::ds,[],hl,_=>by simp at hl
 | d::ds,x::xs,hl,h=>by unfold dF;exact⟨x,xs,U,h 0 d x U U,dF.of (by simpa using hl) λi e y h1 h2=>h (i+1) e y (by simpa using h1) (by simpa using h2)⟩
def eN{α β:Type}(R:α→Fp→β→Prop):List α→Fp→List β→Prop
 | [],A,ys=>None A∧ys=[]
 | d::ds,A,ys=>∃y yt A1 A2,ys=y::yt∧Apart A1 A2∧Is A (fH A1 A2)∧R d A1 y∧eN R ds A2 yt
section
variable{α β:Type}{R R':α→Fp→β→Prop}
theorem eN.congr:∀{ds:List α} {A A':Fp} {ys:List β},eN R ds A ys→Is A A'→eN R ds A' ys
 | [],A,A',ys,h,e=>⟨λx q=>h.1 x ((e x).mpr q),h.2⟩
 | d::ds,A,A',ys,⟨y,yt,A1,A2,h1,h2,h3,h4⟩,e=>⟨y,yt,A1,A2,h1,h2,λx=>((e x).symm).trans (h3 x),h4⟩
theorem eN.mono:∀{ds:List α} {A:Fp} {ys:List β},eN R ds A ys→(∀e B z,(∀x,B x→A x)→R e B z→R' e B z)→eN R' ds A ys
 | [],A,ys,h,_=>h
 | d::ds,A,ys,⟨y,yt,A1,A2,h1,h2,h3,h4,h5⟩,m=>
  ⟨y,yt,A1,A2,h1,h2,h3,m _ _ _ (λx q=>(h3 x).mpr (.inl q)) h4,h5.mono λe B z hb=>m e B z λx q=>(h3 x).mpr (.inr (hb x q))⟩
theorem eN.len:∀{ds:List α} {A:Fp} {ys:List β},eN R ds A ys→ys.length=ds.length
 | [],A,ys,h=>by rw[h.2];rfl
 | d::ds,A,ys,⟨y,yt,A1,A2,h1,h2,h3,h4,h5⟩=>by rw[h1,D8,D8,h5.len]
theorem eN.focus:∀{ds:List α} {A:Fp} {ys:List β} {i:Nat} {d:α},eN R ds A ys→ds[i]?=ND d→∃y A1 C,ys[i]?=ND y∧Apart A1 C∧Is A (fH A1 C)∧R d A1 y ∧
    ∀(R':α→Fp→β→Prop),(∀e B z,(∀x,B x→C x)→R e B z→R' e B z)→∀d' y' QZ,Apart QZ C→R' d' QZ y'→eN R' (ds.set i d') (fH QZ C) (ys.set i y')
  | [],A,ys,i,d,h,e=>by simp at e
  | d0::ds,A,ys,0,d,⟨y,yt,A1,A2,h1,h2,h3,h4,h5⟩,e=>by simp at e;subst e h1;exact⟨y,A1,A2,U,h2,h3,h4,λR' m d' y' QZ ap r=>⟨y',yt,QZ,A2,U,ap,λx=>Iff.rfl,r,h5.mono m⟩⟩
  | d0::ds,A,ys,i+1,d,⟨y,yt,A1,A2,h1,h2,h3,h4,h5⟩,e=>by
    subst h1;obtain⟨z,B1,C,e1,ap,hA,r,k⟩:=eN.focus (i:=i) (d:=d) h5 (by simpa using e);refine⟨z,B1,fH A1 C,by simpa using e1,?_,?_,r,λR' m d' y' QZ ap' r'=>?_⟩
    · intro x hx hc
      rcases hc with hc | hc
      · exact h2 x hc ((hA x).mpr (.inl hx))
      · exact ap x hx hc
    · intro x
      rw[h3 x];constructor
      · rintro(q | q)
        · exact .inr (.inl q)
        · rcases(hA x).mp q with q | q
          · exact .inl q
          · exact .inr (.inr q)
      · rintro(q | q | q)
        · exact .inr ((hA x).mpr (.inl q))
        · exact .inl q
        · exact .inr ((hA x).mpr (.inr q))
    · refine⟨y,_,A1,fH QZ C,U,?_,?_,m _ _ _ (λx q=>.inl q) h4,k R' (λe B z hb=>m e B z λx q=>.inr (hb x q)) d' y' QZ (λx q q'=>ap' x q (.inr q')) r'⟩
      · intro x q q'
        rcases q' with q' | q'
        · exact ap' x q' (.inl q)
        · exact h2 x q ((hA x).mpr (.inr q'))
      · intro x
        show (QZ x∨A1 x∨C x)↔(A1 x∨QZ x∨C x)
        constructor
        · rintro(q | q | q)
          · exact .inr (.inl q)
          · exact .inl q
          · exact .inr (.inr q)
        · rintro(q | q | q)
          · exact .inr (.inl q)
          · exact .inl q
          · exact .inr (.inr q)
theorem eN.snoc:∀{ds:List α} {A A1:Fp} {ys:List β} {d:α} {y:β},eN R ds A ys→R d A1 y→Apart A A1→eN R (ds++[d]) (fH A A1) (ys++[y])
 | [],A,A1,ys,d,y,h,r,ap=>by rw[h.2];exact⟨y,[],A1,λ_=>False,U,λ_ _ z=>z,λx=>⟨λq=>q.elim (λq=>absurd q (h.1 x)) .inl,λq=>q.elim .inr False.elim⟩,r,λ_ z=>z,U⟩
 | d0::ds,A,A1,ys,d,y,⟨y0,yt,B1,B2,h1,h2,h3,h4,h5⟩,r,ap=>by
  subst h1;refine⟨y0,yt++[y],B1,fH B2 A1,U,?_,?_,h4,eN.snoc h5 r λx q=>ap x ((h3 x).mpr (.inr q))⟩
  ·intro x q q';rcases q' with q' | q'
   ·exact h2 x q q'
   ·exact ap x ((h3 x).mpr (.inl q)) q'
  ·intro x;show (A x∨A1 x)↔(B1 x∨B2 x∨A1 x)
   rw[h3 x];exact or_assoc
end
mutual
def Ow(K:aF)(H:Hp):D→Fp→V→Prop
 | .non,A,v=>None A∧v=.non
 | .bl b,A,v=>None A∧v=.bl b
 | .int i,A,v=>None A∧v=.int i
 | .str x,A,v=>None A∧v=.str x
 | .lst ds,A,v=>∃a xs B,v=.ref a∧H a=ND (.lst xs)∧¬B a∧Is A (fH (·=a) B)∧dU K H ds B xs
 | .tup ds,A,v=>∃a xs,v=.ref a∧xR K H a xs∧dU K H ds A xs
 | .dk ks ds,A,v=>∃a xs B,v=.ref a∧H a=ND (.dK (ks.zip xs))∧ks.length=xs.length∧¬B a∧Is A (fH (·=a) B)∧dU K H ds B xs
 | .dt ks ds,A,v=>∃a xs B,v=.ref a∧H a=ND (.dT (ks.zip xs))∧ks.length=xs.length∧¬B a∧Is A (fH (·=a) B)∧dU K H ds B xs
 | .ins C nm ds,A,v=>∃a dx xs B,v=.ref a∧H a=ND (.ins C dx (nm.zip xs))∧H dx=ND (.own a)∧nm.length=xs.length∧¬B a∧¬B dx∧Is A (fH (λx=>x=a∨x=dx) B)∧dU K H ds B xs
def dU(K:aF)(H:Hp):List D→Fp→List V→Prop
 | [],A,ys=>None A∧ys=[]
 | d::ds,A,ys=>∃y yt A1 A2,ys=y::yt∧Apart A1 A2∧Is A (fH A1 A2)∧Ow K H d A1 y∧dU K H ds A2 yt
end
theorem cO{K:aF}{H:Hp}:∀{ds:List D} {A:Fp} {ys:List V},dU K H ds A ys↔eN (Ow K H) ds A ys
 | [],A,ys=>by unfold dU eN;exact Iff.rfl
 | d::ds,A,ys=>by
  unfold dU eN;constructor
  ·rintro⟨y,yt,A1,A2,h1,h2,h3,h4,h5⟩;exact⟨y,yt,A1,A2,h1,h2,h3,h4,cO.mp h5⟩
  ·rintro⟨y,yt,A1,A2,h1,h2,h3,h4,h5⟩;exact⟨y,yt,A1,A2,h1,h2,h3,h4,cO.mpr h5⟩
def Dh(K:aF)(H H':Hp):Prop:=∀a xs,xR K H a xs→xR K H' a xs
theorem aU.tk{K:aF}{H H':Hp}(e:aU H H'):Dh K H H':=λ_ _ h=>e.tup h
theorem Ow.congr{K:aF}{H:Hp}{d:D}{A A':Fp}{v:V}(h:Ow K H d A v)(e:Is A A'):Ow K H d A' v:=by
 cases d with
 | non=>unfold Ow at h ⊢;exact⟨λx q=>h.1 x ((e x).mpr q),h.2⟩
 | bl b=>unfold Ow at h ⊢;exact⟨λx q=>h.1 x ((e x).mpr q),h.2⟩
 | int b=>unfold Ow at h ⊢;exact⟨λx q=>h.1 x ((e x).mpr q),h.2⟩
 | str b=>unfold Ow at h ⊢;exact⟨λx q=>h.1 x ((e x).mpr q),h.2⟩
 | lst ds=>unfold Ow at h ⊢;obtain⟨a,xs,B,h1,h2,h3,h4,h5⟩:=h;exact⟨a,xs,B,h1,h2,h3,λx=>(e x).symm.trans (h4 x),h5⟩
 | tup ds=>unfold Ow at h ⊢;obtain⟨a,xs,h1,h2,h3⟩:=h;exact⟨a,xs,h1,h2,cO.mpr ((cO.mp h3).congr e)⟩
 | dk ks ds=>unfold Ow at h ⊢;obtain⟨a,xs,B,h1,h2,h2',h3,h4,h5⟩:=h;exact⟨a,xs,B,h1,h2,h2',h3,λx=>(e x).symm.trans (h4 x),h5⟩
 | dt ks ds=>unfold Ow at h ⊢;obtain⟨a,xs,B,h1,h2,h2',h3,h4,h5⟩:=h;exact⟨a,xs,B,h1,h2,h2',h3,λx=>(e x).symm.trans (h4 x),h5⟩
 | ins C nm ds=>unfold Ow at h ⊢;obtain⟨a,dx,xs,B,h1,h2,h2',h3,h3',h3'',h4,h5⟩:=h;exact⟨a,dx,xs,B,h1,h2,h2',h3,h3',h3'',λx=>(e x).symm.trans (h4 x),h5⟩
mutual
theorem Ow.frame{K:aF}{H H':Hp}(t:Dh K H H'):∀(d:D)(A:Fp)(v:V),Ow K H d A v→(∀a,A a→H' a=H a)→Ow K H' d A v
 | .non,A,v,h,f=>by unfold Ow at h ⊢;exact h
 | .bl _,A,v,h,f=>by unfold Ow at h ⊢;exact h
 | .int _,A,v,h,f=>by unfold Ow at h ⊢;exact h
 | .str _,A,v,h,f=>by unfold Ow at h ⊢;exact h
 | .lst ds,A,v,h,f=>by unfold Ow at h ⊢;obtain⟨a,xs,B,h1,h2,h3,h4,h5⟩:=h;exact⟨a,xs,B,h1,(f a ((h4 a).mpr (.inl U))).trans h2,h3,h4,dU.frame t ds B xs h5 λb q=>f b ((h4 b).mpr (.inr q))⟩
 | .tup ds,A,v,h,f=>by unfold Ow at h ⊢;obtain⟨a,xs,h1,h2,h3⟩:=h;exact⟨a,xs,h1,t _ _ h2,dU.frame t ds A xs h3 f⟩
 | .dk ks ds,A,v,h,f=>by unfold Ow at h ⊢;obtain⟨a,xs,B,h1,h2,h2',h3,h4,h5⟩:=h;exact⟨a,xs,B,h1,(f a ((h4 a).mpr (.inl U))).trans h2,h2',h3,h4,dU.frame t ds B xs h5 λb q=>f b ((h4 b).mpr (.inr q))⟩
 | .dt ks ds,A,v,h,f=>by unfold Ow at h ⊢;obtain⟨a,xs,B,h1,h2,h2',h3,h4,h5⟩:=h;exact⟨a,xs,B,h1,(f a ((h4 a).mpr (.inl U))).trans h2,h2',h3,h4,dU.frame t ds B xs h5 λb q=>f b ((h4 b).mpr (.inr q))⟩
 | .ins C nm ds,A,v,h,f=>by unfold Ow at h ⊢;obtain⟨a,dx,xs,B,h1,h2,h2',h3,h3',h3'',h4,h5⟩:=h;exact⟨a,dx,xs,B,h1,(f a ((h4 a).mpr (.inl (.inl U)))).trans h2,(f dx ((h4 dx).mpr (.inl (.inr U)))).trans h2',h3,h3',h3'',h4,dU.frame t ds B xs h5 λb q=>f b ((h4 b).mpr (.inr q))⟩
theorem dU.frame{K:aF}{H H':Hp}(t:Dh K H H'):∀(ds:List D)(A:Fp)(ys:List V),dU K H ds A ys→(∀a,A a→H' a=H a)→dU K H' ds A ys
 | [],A,ys,h,f=>by unfold dU at h ⊢;exact h
 | d::ds,A,ys,h,f=>by unfold dU at h ⊢;obtain⟨y,yt,A1,A2,h1,h2,h3,h4,h5⟩:=h;exact⟨y,yt,A1,A2,h1,h2,h3,Ow.frame t d A1 y h4 λb q=>f b ((h3 b).mpr (.inl q)),dU.frame t ds A2 yt h5 λb q=>f b ((h3 b).mpr (.inr q))⟩
end
mutual
theorem Ow.rv{K:aF}{H:Hp}:∀(d:D)(A:Fp)(v:V),Ow K H d A v→Rv K H d v
 | .non,A,v,h=>by unfold Ow at h;unfold Rv;exact h.2
 | .bl _,A,v,h=>by unfold Ow at h;unfold Rv;exact h.2
 | .int _,A,v,h=>by unfold Ow at h;unfold Rv;exact h.2
 | .str _,A,v,h=>by unfold Ow at h;unfold Rv;exact h.2
 | .lst ds,A,v,h=>by unfold Ow at h;unfold Rv;obtain⟨a,xs,B,h1,h2,h3,h4,h5⟩:=h;exact⟨a,xs,h1,pQ.of h2,dU.rv ds B xs h5⟩
 | .tup ds,A,v,h=>by unfold Ow at h;unfold Rv;obtain⟨a,xs,h1,h2,h3⟩:=h;exact⟨a,xs,h1,h2,dU.rv ds A xs h3⟩
 | .dk ks ds,A,v,h=>by unfold Ow at h;unfold Rv;obtain⟨a,xs,B,h1,h2,h2',h3,h4,h5⟩:=h;exact⟨a,xs,h1,.inl h2,h2',dU.rv ds B xs h5⟩
 | .dt ks ds,A,v,h=>by unfold Ow at h;unfold Rv;obtain⟨a,xs,B,h1,h2,h2',h3,h4,h5⟩:=h;exact⟨a,xs,h1,.inl h2,h2',dU.rv ds B xs h5⟩
 | .ins C nm ds,A,v,h=>by unfold Ow at h;unfold Rv;obtain⟨a,dx,xs,B,h1,h2,h2',h3,h3',h3'',h4,h5⟩:=h;exact⟨a,dx,xs,h1,h2,h3,dU.rv ds B xs h5⟩
theorem dU.rv{K:aF}{H:Hp}:∀(ds:List D)(A:Fp)(ys:List V),dU K H ds A ys→dF K H ds ys
 | [],A,ys,h=>by unfold dU at h;unfold dF;exact h.2
 | d::ds,A,ys,h=>by unfold dU at h;unfold dF;obtain⟨y,yt,A1,A2,h1,h2,h3,h4,h5⟩:=h;exact⟨y,yt,h1,Ow.rv d A1 y h4,dU.rv ds A2 yt h5⟩
end
def mR(H:Hp)(a:A7):Prop:=(∃o,H a=ND o)∧xT H a
mutual
theorem Ow.cells{K:aF}{H:Hp}:∀(d:D)(A:Fp)(v:V),Ow K H d A v→∀a,A a→mR H a
 | .non,A,v,h,a,q=>by unfold Ow at h;exact absurd q (h.1 a)
 | .bl _,A,v,h,a,q=>by unfold Ow at h;exact absurd q (h.1 a)
 | .int _,A,v,h,a,q=>by unfold Ow at h;exact absurd q (h.1 a)
 | .str _,A,v,h,a,q=>by unfold Ow at h;exact absurd q (h.1 a)
 | .lst ds,A,v,h,a,q=>by
  unfold Ow at h;obtain⟨p,xs,B,h1,h2,h3,h4,h5⟩:=h
  rcases(h4 a).mp q with z | z
  ·cases z;exact⟨⟨_,h2⟩,vH h2⟩
  ·exact dU.cells ds B xs h5 a z
 | .tup ds,A,v,h,a,q=>by unfold Ow at h;obtain⟨p,xs,h1,h2,h3⟩:=h;exact dU.cells ds A xs h3 a q
 | .dk ks ds,A,v,h,a,q=>by
  unfold Ow at h;obtain⟨p,xs,B,h1,h2,h2',h3,h4,h5⟩:=h
  rcases(h4 a).mp q with z | z
  ·cases z;exact⟨⟨_,h2⟩,Nm h2⟩
  ·exact dU.cells ds B xs h5 a z
 | .dt ks ds,A,v,h,a,q=>by
  unfold Ow at h;obtain⟨p,xs,B,h1,h2,h2',h3,h4,h5⟩:=h
  rcases(h4 a).mp q with z | z
  ·cases z;exact⟨⟨_,h2⟩,λys e=>(by rw[h2]at e;cases e),λo ys e=>(by rw[h2]at e;cases e)⟩
  ·exact dU.cells ds B xs h5 a z
 | .ins C nm ds,A,v,h,a,q=>by
  unfold Ow at h;obtain⟨p,dx,xs,B,h1,h2,h2',h3,h3',h3'',h4,h5⟩:=h
  rcases(h4 a).mp q with (z | z) | z
  ·cases z;exact⟨⟨_,h2⟩,λys e=>(by rw[h2]at e;cases e),λo ys e=>(by rw[h2]at e;cases e)⟩
  ·cases z;exact⟨⟨_,h2'⟩,λys e=>(by rw[h2']at e;cases e),λo ys e=>(by rw[h2']at e;cases e)⟩
  ·exact dU.cells ds B xs h5 a z
theorem dU.cells{K:aF}{H:Hp}:∀(ds:List D)(A:Fp)(ys:List V),dU K H ds A ys→∀a,A a→mR H a
 | [],A,ys,h,a,q=>by unfold dU at h;exact absurd q (h.1 a)
 | d::ds,A,ys,h,a,q=>by
  unfold dU at h;obtain⟨y,yt,A1,A2,h1,h2,h3,h4,h5⟩:=h
  rcases(h3 a).mp q with z | z
  ·exact Ow.cells d A1 y h4 a z
  ·exact dU.cells ds A2 yt h5 a z
end
mutual
def D.jF:D→Bool
  | .non=>NG | .bl _=>NG | .int _=>NG | .str _=>NG
  | .tup ds=>D.eU ds
  | _=>NH
def D.eU:List D→Bool
  | []=>NG
  | d::ds=>D.jF d&&D.eU ds
end
abbrev nil:Fp:=λ_=>False
mutual
theorem yW{K:aF}{H:Hp}:∀(d:D)(v:V),d.jF=NG→Rv K H d v→Ow K H d nil v
 | .non,v,_,h=>by unfold Rv at h;unfold Ow;exact⟨λ_ z=>z,h⟩
 | .bl _,v,_,h=>by unfold Rv at h;unfold Ow;exact⟨λ_ z=>z,h⟩
 | .int _,v,_,h=>by unfold Rv at h;unfold Ow;exact⟨λ_ z=>z,h⟩
 | .str _,v,_,h=>by unfold Rv at h;unfold Ow;exact⟨λ_ z=>z,h⟩
 | .tup ds,v,i,h=>by unfold D.jF at i;unfold Rv at h;unfold Ow;obtain⟨a,xs,h1,h2,h3⟩:=h;exact⟨a,xs,h1,h2,wI ds xs i h3⟩
 | .lst ds,v,i,h=>by unfold D.jF at i;cases i
 | .dk _ ds,v,i,h=>by unfold D.jF at i;cases i
 | .dt _ ds,v,i,h=>by unfold D.jF at i;cases i
 | .ins _ _ ds,v,i,h=>by unfold D.jF at i;cases i
theorem wI{K:aF}{H:Hp}:∀(ds:List D)(ys:List V),D.eU ds=NG→dF K H ds ys→dU K H ds nil ys
 | [],ys,_,h=>by unfold dF at h;unfold dU;exact⟨λ_ z=>z,h⟩
 | d::ds,ys,i,h=>by unfold D.eU at i;rw[G9]at i;unfold dF at h;unfold dU;obtain⟨y,yt,h1,h2,h3⟩:=h;exact⟨y,yt,nil,nil,h1,λ_ z _=>z,λx=>⟨False.elim,λz=>z.elim id id⟩,yW d y i.1 h2,wI ds yt i.2 h3⟩
end
open Classical in
noncomputable def out(H:Hp)(A:Fp):Hp:=λa=>if A a then none else H a
theorem aFO{H:Hp}{A:Fp}{a:A7}(h:¬A a):out H A a=H a:=by unfold out;rw[if_neg h]
theorem bB{H:Hp}{A:Fp}{a:A7}{o:HO}:out H A a=ND o↔¬A a∧H a=ND o:=by
 unfold out;split
 ·rename_i h;exact⟨λz=>(by cases z),λz=>absurd h z.1⟩
 ·rename_i h;exact⟨λz=>⟨h,z⟩,λz=>z.2⟩
theorem jL(H:Hp)(A:Fp):aU (out H A) H:=λb o h=>(bB.mp h).2
theorem Nq{K:aF}{H:Hp}{A:Fp}(h:∀a,A a→xT H a):Dh K H (out H A):=λa xs q=>by
 rcases q with (q | ⟨o,q⟩) | q
 ·exact .inl (.inl (bB.mpr ⟨λz=>(h a z).1 _ q,q⟩))
 ·exact .inl (.inr ⟨o,bB.mpr ⟨λz=>(h a z).2 _ _ q,q⟩⟩)
 ·exact .inr q
theorem Ow.out{K:aF}{H:Hp}{d:D}{A A':Fp}{v:V}(h:Ow K H d A' v)(ap:Apart A' A)(c:∀a,A a→xT H a):Rv K (out H A) d v:=
 Ow.rv d A' v (Ow.frame (Nq c) d A' v h λa q=>aFO (ap a q))
end L2


namespace L2
open PySem PySem.Spec PyProof.Rows
abbrev DE:=List (Option D)
abbrev FE:=DE→Option D
abbrev FA:=DE→Option (List D)
abbrev FT:=DE→Option Bool
def yL(K:aF)(H:Hp)(e:DE)(σ:St):Prop:=∀(i:Nat)(d:D),e[i]?=ND (ND d)→∃v,σ[i]?=ND (ND v)∧Rv K H d v
theorem yL.same{K:aF}{H H':Hp}{e:DE}{σ:St}(h:yL K H e σ)(s:aU H H'):yL K H' e σ:=λi d q=>let ⟨v,h1,h2⟩:=h i d q;⟨v,h1,s.rv _ _ h2⟩
structure Zn(K:aF)(N:Fp)(Z H:Hp):Prop where
 sm:aU Z H
 tk:Dh K H Z
 no:∀a,N a→Z a=none∧¬H a=none
theorem Zn.self(K:aF)(H:Hp):Zn K nil H H:=⟨aU.refl _,λ_ _ h=>h,λ_ z=>z.elim⟩
theorem Dh.trans{K:aF}{H H1 H2:Hp}(a:Dh K H H1)(b:Dh K H1 H2):Dh K H H2:=λp xs h=>b p xs (a p xs h)
theorem Ow.same{K:aF}{H H':Hp}{d:D}{A:Fp}{v:V}(h:Ow K H d A v)(s:aU H H'):Ow K H' d A v:=
 Ow.frame s.tk d A v h λa q=>by obtain⟨⟨o,e⟩,_⟩:=Ow.cells d A v h a q;rw[e];exact s a o e
theorem dU.same{K:aF}{H H':Hp}{ds:List D}{A:Fp}{vs:List V}(h:dU K H ds A vs)(s:aU H H'):dU K H' ds A vs:=
 dU.frame s.tk ds A vs h λa q=>by obtain⟨⟨o,e⟩,_⟩:=dU.cells ds A vs h a q;rw[e];exact s a o e
def Nr(K:aF)(H H':Hp)(d:D)(v:V):Prop:=∃A,Ow K H' d A v∧∀a,A a→H a=none
def Sh(K:aF)(H H':Hp)(ds:List D)(vs:List V):Prop:=∃A,dU K H' ds A vs∧∀a,A a→H a=none
theorem Nr.rv{K:aF}{H H':Hp}{d:D}{v:V}(h:Nr K H H' d v):Rv K H' d v:=let ⟨A,o,_⟩:=h;Ow.rv d A v o
theorem Sh.rv{K:aF}{H H':Hp}{ds:List D}{vs:List V}(h:Sh K H H' ds vs):dF K H' ds vs:=let ⟨A,o,_⟩:=h;dU.rv ds A vs o
theorem Nr.same{K:aF}{H H' H2:Hp}{d:D}{v:V}(h:Nr K H H' d v)(s:aU H' H2):Nr K H H2 d v:=let ⟨A,o,f⟩:=h;⟨A,o.same s,f⟩
theorem Nr.back{K:aF}{H0 H H':Hp}{d:D}{v:V}(h:Nr K H H' d v)(s:aU H0 H):Nr K H0 H' d v:=let ⟨A,o,f⟩:=h;⟨A,o,λa q=>s.free (f a q)⟩
theorem Nr.jF{K:aF}{H H':Hp}{d:D}{v:V}(i:d.jF=NG)(h:Rv K H' d v):Nr K H H' d v:=⟨nil,yW d v i h,λ_ z=>z.elim⟩
theorem Sh.eU{K:aF}{H H':Hp}{ds:List D}{vs:List V}(i:D.eU ds=NG)(h:dF K H' ds vs):Sh K H H' ds vs:=⟨nil,wI ds vs i h,λ_ z=>z.elim⟩
open Classical in
noncomputable def Xo(Z H H':Hp):Hp:=λa=>if H a=none then H' a else Z a
theorem Fi{Z H H':Hp}{a:A7}(h:H a=none):Xo Z H H' a=H' a:=by unfold Xo;rw[if_pos h]
theorem Nt{Z H H':Hp}{a:A7}(h:¬H a=none):Xo Z H H' a=Z a:=by unfold Xo;rw[if_neg h]
theorem Ib{K:aF}{N:Fp}{Z H H':Hp}(z:Zn K N Z H):aU Z (Xo Z H H'):=λb o e=>by rw[Nt (by rw[z.sm b o e];intro q;cases q)];exact e
theorem Xp{K:aF}{N:Fp}{Z H H':Hp}(z:Zn K N Z H)(s:aU H H'):Zn K N (Xo Z H H') H' where
  sm:=λb o e=>by
    by_cases c:H b=none
    · rw[Fi c]at e;exact e
    · rw[Nt c]at e;exact s b o (z.sm b o e)
  tk:=λa xs h=>by
    by_cases c:H a=none
    · rcases h with (h | ⟨o,h⟩) | h
      · exact .inl (.inl (by rw[Fi c];exact h))
      · exact .inl (.inr ⟨o,by rw[Fi c];exact h⟩)
      · exact .inr h
    · have q:xR K H a xs:=by
        rcases h with (h | ⟨o,h⟩) | h
        · cases e:H a with
          | none=>exact absurd e c
          | some o=>have:=s a o e;rw[h]at this;cases this;exact .inl (.inl e)
        · cases e:H a with
          | none=>exact absurd e c
          | some o=>have:=s a o e;rw[h]at this;cases this;exact .inl (.inr ⟨_,e⟩)
        · exact .inr h
      exact(Ib z).tup (z.tk a xs q)
  no:=λa q=>⟨by rw[Nt (z.no a q).2];exact(z.no a q).1,λh=>(z.no a q).2 (s.free h)⟩
theorem Nr.zone{K:aF}{N:Fp}{Z H H':Hp}{d:D}{v:V}(h:Nr K H H' d v)(z:Zn K N Z H)(s:aU H H'):Rv K (Xo Z H H') d v:=by obtain⟨A,o,f⟩:=h;exact Ow.rv d A v (Ow.frame (Xp z s).tk d A v o λa q=>Fi (f a q))
def Ka(K:aF)(t:TE)(f:FE):Prop:=∀{N:Fp}(σ:St)(H Z:Hp)(e:DE)(d:D)(Q:VK),Zn K N Z H→yL K Z e σ→f e=ND d →
 (∀v H' Z',aU H H'→aU Z Z'→Zn K N Z' H'→Rv K Z' d v→Q v H')→t σ H Q
def Nu(K:aF)(t:TE)(f:FE):Prop:=∀(σ:St)(H:Hp)(e:DE)(d:D)(Q:VK),yL K H e σ→f e=ND d →
 (∀v H',aU H H'→Nr K H H' d v→Q v H')→t σ H Q
def UJ(K:aF)(t:TT)(f:FT):Prop:=∀(σ:St)(H:Hp)(e:DE)(b:Bool)(Q:Bool→Hp→Prop),yL K H e σ→f e=ND b→(∀H',aU H H'→Q b H')→t σ H Q
def EvA(K:aF)(t:TA)(f:FA):Prop:=∀{N:Fp}(σ:St)(H Z:Hp)(e:DE)(ds:List D)(Q:List V→Hp→Prop),Zn K N Z H→yL K Z e σ→f e=ND ds →
 (∀vs H' Z',aU H H'→aU Z Z'→Zn K N Z' H'→dF K Z' ds vs→Q vs H')→t σ H Q
def EvB(K:aF)(t:TA)(f:FA):Prop:=∀(σ:St)(H:Hp)(e:DE)(ds:List D)(Q:List V→Hp→Prop),yL K H e σ→f e=ND ds →
 (∀vs H',aU H H'→Sh K H H' ds vs→Q vs H')→t σ H Q
theorem Nu.r{K:aF}{t:TE}{f:FE}(h:Nu K t f):Ka K t f:=λσ H Z e d Q z r q k=>
 h σ H e d Q (r.same z.sm) q λv H' s n=>k v H' (Xo Z H H') s (Ib z) (Xp z s) (n.zone z s)
def cN(f:FE):FE:=λe=>(f e).bind λd=>if d.jF=NG then ND d else none
theorem Um{f:FE}{e:DE}{d:D}:cN f e=ND d↔f e=ND d∧d.jF=NG:=by
 unfold cN;cases q:f e with
 | none=>simp
 | some a=>
  simp only[B9];split
  ·rename_i h;constructor
   ·intro z;cases z;exact⟨U,h⟩
   ·rintro⟨z,_⟩;exact z
  ·rename_i h;constructor
   ·intro z;cases z
   ·rintro⟨z,z2⟩;cases z;exact absurd z2 h
theorem Ka.n{K:aF}{t:TE}{f:FE}(h:Ka K t f):Nu K t (cN f):=λσ H e d Q r q k=>by obtain⟨q1,q2⟩:=Um.mp q;exact h σ H H e d Q (Zn.self K H) r q1 λv H' Z' s1 s2 z' rv=>k v H' s1 (.jF q2 (z'.sm.rv _ _ rv))
def aD(i:Nat):FE:=λe=>(e[i]?).getD none
theorem aFR{K:aF}(i:Nat):Ka K (pH i) (aD i):=λσ H Z e d Q z r q k=>by
 have e1:e[i]?=ND (ND d):=by
  unfold aD at q;cases h:e[i]? with
  | none=>rw[h]at q;cases q
  | some o=>rw[h]at q;cases q;rfl
 obtain⟨v,h1,h2⟩:=r i d e1;exact⟨v,h1,k v H Z (aU.refl _) (aU.refl _) z h2⟩
def fC(d:D):FE:=λ_=>ND d
theorem aAp{K:aF}(i:Int):Nu K (tC (.int i)) (fC (.int i)):=λσ H e d Q r q k=>by cases q;exact k _ H (aU.refl _) (.jF U (by unfold Rv;rfl))
theorem aHQ{K:aF}(i:Bool):Nu K (tC (.bl i)) (fC (.bl i)):=λσ H e d Q r q k=>by cases q;exact k _ H (aU.refl _) (.jF U (by unfold Rv;rfl))
theorem aFS{K:aF}:Nu K (tC .non) (fC .non):=λσ H e d Q r q k=>by cases q;exact k _ H (aU.refl _) (.jF U (by unfold Rv;rfl))
theorem aFT{K:aF}(i:Str):Nu K (tC (.str i)) (fC (.str i)):=λσ H e d Q r q k=>by cases q;exact k _ H (aU.refl _) (.jF U (by unfold Rv;rfl))
def f2(φ:D→D→Option D)(f g:FE):FE:=λe=>(f e).bind λa=>(g e).bind λb=>φ a b
theorem Lq{φ:D→D→Option D}{f g:FE}{e:DE}{d:D}(h:f2 φ f g e=ND d):∃a b,f e=ND a∧g e=ND b∧φ a b=ND d:=by unfold f2 at h;obtain⟨a,h1,h2⟩:=aX h;obtain⟨b,h3,h4⟩:=aX h2;exact⟨a,b,h1,h3,h4⟩
def OpD(K:aF)(r:R2)(φ:D→D→Option D):Prop:=∀{N:Fp}(x y:V)(H Z:Hp)(a b d:D)(Q:VK),Zn K N Z H→Rv K Z a x→Rv K Z b y→φ a b=ND d →
 (∀v H' Z',aU H H'→aU Z Z'→Zn K N Z' H'→Rv K Z' d v→Q v H')→r x y H Q
def RB(K:aF)(r:R2)(φ:D→D→Option D):Prop:=∀(x y:V)(H:Hp)(a b d:D)(Q:VK),Rv K H a x→Rv K H b y→φ a b=ND d →
 (∀v H',aU H H'→Nr K H H' d v→Q v H')→r x y H Q
theorem aHR{K:aF}{r:R2}{φ:D→D→Option D}{ta tb:TE}{f g:FE}(o:OpD K r φ)(ha:Ka K ta f)(hb:Ka K tb g):Ka K (DR r ta tb) (f2 φ f g):=λσ H Z e d Q z re q k=>by obtain⟨a,b,h1,h2,h3⟩:=Lq q;refine ha σ H Z e a _ z re h1 λx H1 Z1 s1 t1 z1 rx=>hb σ H1 Z1 e b _ z1 (re.same t1) h2 λy H2 Z2 s2 t2 z2 ry=>?_;exact o x y H2 Z2 a b d Q z2 (t2.rv _ _ rx) ry h3 λv H3 Z3 s3 t3 z3 rv=>k v H3 Z3 (s1.trans (s2.trans s3)) (t1.trans (t2.trans t3)) z3 rv
theorem aAq{K:aF}{r:R2}{φ:D→D→Option D}{ta tb:TE}{f g:FE}(o:RB K r φ)(ha:Ka K ta f)(hb:Ka K tb g):Nu K (DR r ta tb) (f2 φ f g):=λσ H e d Q re q k=>by obtain⟨a,b,h1,h2,h3⟩:=Lq q;refine ha σ H H e a _ (Zn.self K H) re h1 λx H1 Z1 s1 t1 z1 rx=>hb σ H1 Z1 e b _ z1 (re.same t1) h2 λy H2 Z2 s2 t2 z2 ry=>?_;exact o x y H2 a b d Q (z2.sm.rv _ _ (t2.rv _ _ rx)) (z2.sm.rv _ _ ry) h3 λv H3 s3 n=>k v H3 (s1.trans (s2.trans s3)) (n.back (s1.trans s2))
def Lr(C:Int→Int→Prop) [∀i j,Decidable (C i j)] (g:Int→Int→D):D→D→Option D
 | .int i,.int j=>if C i j then ND (g i j)else none
 | _,_=>none
theorem Nv{C:Int→Int→Prop} [∀i j,Decidable (C i j)] {g:Int→Int→D} {a b d:D} (h:Lr C g a b=ND d):∃i j,a=.int i∧b=.int j∧C i j∧d=g i j:=by
 unfold Lr at h;split at h
 ·split at h
  ·rename_i i j c;cases h;exact⟨i,j,U,U,c,U⟩
  ·cases h
 ·cases h
theorem Xq{K:aF}{C:Int→Int→Prop} [∀i j,Decidable (C i j)] {C':Int→Int→Prop} (hC:∀i j,C i j→C' i j) {g:Int→Int→Int}:RB K (rI C' λi j=>.int (g i j)) (Lr C λi j=>.int (g i j)):=λx y H a b d Q ra rb q k=>by obtain⟨i,j,rfl,rfl,c,rfl⟩:=Nv q;unfold Rv at ra rb;exact⟨i,j,ra,rb,hC i j c,k _ H (aU.refl _) (.jF U (by unfold Rv;rfl))⟩
theorem aC1{K:aF}{g:Int→Int→Int}:RB K (lq λi j=>.int (g i j)) (Lr (λ_ _=>True) λi j=>.int (g i j)):=λx y H a b d Q ra rb q k=>by obtain⟨i,j,rfl,rfl,c,rfl⟩:=Nv q;unfold Rv at ra rb;exact⟨i,j,ra,rb,k _ H (aU.refl _) (.jF U (by unfold Rv;rfl))⟩
theorem qN{K:aF}{g:Int→Int→Bool}:RB K (lq λi j=>.bl (g i j)) (Lr (λ_ _=>True) λi j=>.bl (g i j)):=λx y H a b d Q ra rb q k=>by obtain⟨i,j,rfl,rfl,c,rfl⟩:=Nv q;unfold Rv at ra rb;exact⟨i,j,ra,rb,k _ H (aU.refl _) (.jF U (by unfold Rv;rfl))⟩
def aO:FA:=λ_=>ND []
def aB(f:FE)(fs:FA):FA:=λe=>(f e).bind λa=>(fs e).bind λr=>ND (a::r)
theorem Kc{f:FE}{fs:FA}{e:DE}{ds:List D}(h:aB f fs e=ND ds):∃a r,f e=ND a∧fs e=ND r∧ds=a::r:=by unfold aB at h;obtain⟨a,h1,h2⟩:=aX h;obtain⟨b,h3,h4⟩:=aX h2;cases h4;exact⟨a,b,h1,h3,U⟩
theorem aAr{K:aF}:EvA K lG aO:=λσ H Z e ds Q z re q k=>by cases q;exact k [] H Z (aU.refl _) (aU.refl _) z (by unfold dF;rfl)
theorem aC2{K:aF}{te:TE}{t:TA}{f:FE}{fs:FA}(h:Ka K te f)(hs:EvA K t fs):EvA K (cI te t) (aB f fs):=λσ H Z e ds Q z re q k=>by obtain⟨a,r,h1,h2,rfl⟩:=Kc q;refine h σ H Z e a _ z re h1 λx H1 Z1 s1 t1 z1 rx=>hs σ H1 Z1 e r _ z1 (re.same t1) h2 λvs H2 Z2 s2 t2 z2 rs=>?_;exact k _ H2 Z2 (s1.trans s2) (t1.trans t2) z2 (by unfold dF;exact⟨x,vs,U,t2.rv _ _ rx,rs⟩)
theorem aFU{K:aF}:EvB K lG aO:=λσ H e ds Q re q k=>by cases q;exact k [] H (aU.refl _) (.eU U (by unfold dF;rfl))
theorem aC3{K:aF}{te:TE}{t:TA}{f:FE}{fs:FA}(h:Nu K te f)(hs:EvB K t fs):EvB K (cI te t) (aB f fs):=λσ H e ds Q re q k=>by obtain⟨a,r,h1,h2,rfl⟩:=Kc q;refine h σ H e a _ re h1 λx H1 s1 n1=>hs σ H1 e r _ (re.same s1) h2 λvs H2 s2 n2=>?_;refine k _ H2 (s1.trans s2) ?_;obtain⟨A,oA,fA⟩:=n1;obtain⟨B,oB,fB⟩:=n2;refine⟨fH A B,?_,λp q=>q.elim (fA p) λz=>s1.free (fB p z)⟩;unfold dU;refine⟨x,vs,A,B,U,λp qa qb=>?_,λ_=>Iff.rfl,oA.same s2,oB⟩;obtain⟨⟨o,e1⟩,_⟩:=Ow.cells _ _ _ oA p qa;rw[fB p qb]at e1;cases e1
def cap(n:Nat)(d:D):Option D:=if n≤100000 then ND d else none
theorem Nx{n:Nat}{d d':D}(h:cap n d=ND d'):n≤100000∧d'=d:=by
 unfold cap at h;split at h
 ·rename_i c;cases h;exact⟨c,U⟩
 ·cases h
theorem Uo{n:Nat}(h:n≤100000):n≤sizeLine:=by rw[FU];omega
theorem Ny{n:Nat}(h:n≤100000):n<sizeLine:=by rw[FU];omega
def lX(fs:FA):FE:=λe=>(fs e).bind λds=>cap ds.length (.lst ds)
def vI(fs:FA):FE:=λe=>(fs e).bind λds=>cap ds.length (.tup ds)
theorem rH{K:aF}{H H1:Hp}{ds:List D}{xs:List V}{p:A7}(s:aU H H1)(n:Sh K H H1 ds xs)(hp:H1 p=none):Nr K H (upd H1 p (.lst xs)) (.lst ds) (.ref p):=by obtain⟨A,o,f⟩:=n;refine⟨fH (·=p) A,?_,λa q=>q.elim (λz=>by cases z;exact s.free hp) (f a)⟩;unfold Ow;refine⟨p,xs,A,U,cD,λz=>?_,λ_=>Iff.rfl,o.same (cP hp _)⟩;obtain⟨⟨u,e⟩,_⟩:=dU.cells _ _ _ o p z;rw[hp]at e;cases e
theorem bu{K:aF}{H H1:Hp}{ds:List D}{xs:List V}{p:A7}(n:Sh K H H1 ds xs)(hp:H1 p=none):Nr K H (upd H1 p (.tup xs)) (.tup ds) (.ref p):=by obtain⟨A,o,f⟩:=n;refine⟨A,?_,f⟩;unfold Ow;exact⟨p,xs,U,xR.of cD,o.same (cP hp _)⟩
theorem aFV{K:aF}{t:TA}{fs:FA}(h:EvB K t fs):Nu K (zm t) (lX fs):=λσ H e d Q re q k=>by
 unfold lX at q;obtain⟨ds,h1,h2⟩:=aX q;obtain⟨hc,rfl⟩:=Nx h2;refine h σ H e ds _ re h1 λxs H1 s1 n=>⟨Uo (by rw[n.rv.length];exact hc),λp hp=>?_⟩
 exact k _ _ (s1.trans (cP hp _)) (rH s1 n hp)
theorem aFW{K:aF}{t:TA}{fs:FA}(h:EvB K t fs):Nu K (DX t) (vI fs):=λσ H e d Q re q k=>by
 unfold vI at q;obtain⟨ds,h1,h2⟩:=aX q;obtain⟨hc,rfl⟩:=Nx h2;refine h σ H e ds _ re h1 λxs H1 s1 n=>⟨Uo (by rw[n.rv.length];exact hc),λp hp=>?_⟩
 exact k _ _ (s1.trans (cP hp _)) (bu n hp)
theorem aAs{K:aF}{N:Fp}{Z H:Hp}{p:A7}{o:HO}(z:Zn K N Z H)(hp:H p=none):aU Z (upd Z p o)∧Zn K N (upd Z p o) (upd H p o):=by
 have hz:Z p=none:=z.sm.free hp;refine⟨cP hz o,⟨λb u e=>?_,λa xs h=>?_,λa q=>?_⟩⟩
 ·by_cases c:b=p
  ·subst c;rw[cD]at e;rw[cD];exact e
  ·rw[bN c]at e;rw[bN c];exact z.sm b u e
 ·by_cases c:a=p
  ·subst c;rcases h with (h | ⟨u,h⟩) | h
   ·rw[cD]at h;exact .inl (.inl (by rw[cD];exact h))
   ·rw[cD]at h;exact .inl (.inr ⟨u,by rw[cD];exact h⟩)
   ·exact .inr h
  ·have q:xR K H a xs:=by
    rcases h with (h | ⟨u,h⟩) | h
    ·rw[bN c]at h;exact .inl (.inl h)
    ·rw[bN c]at h;exact .inl (.inr ⟨u,h⟩)
    ·exact .inr h
   exact(cP hz o).tup (z.tk a xs q)
 ·have c:a≠p:=λz'=>(z.no a q).2 (by rw[z'];exact hp);rw[bN c,bN c];exact z.no a q
theorem aFX{K:aF}{t:TA}{fs:FA}(h:EvA K t fs):Ka K (zm t) (lX fs):=λσ H Z e d Q z re q k=>by
 unfold lX at q;obtain⟨ds,h1,h2⟩:=aX q;obtain⟨hc,rfl⟩:=Nx h2;refine h σ H Z e ds _ z re h1 λxs H1 Z1 s1 t1 z1 rs=>⟨Uo (by rw[rs.length];exact hc),λp hp=>?_⟩
 obtain⟨a1,a2⟩:=aAs (o:=.lst xs) z1 hp;exact k _ _ _ (s1.trans (cP hp _)) (t1.trans a1) a2 (by unfold Rv;exact⟨p,xs,U,pQ.of cD,a1.bj _ _ rs⟩)
end L2


namespace L2
open PySem PySem.Spec PyProof.Rows
structure XR(K:aF)(X:Cx)(e:AD)(t:TE)(f:FE):Prop where
 hk:X.K=K
 pe:PE X e t
 ev:Ka K t f
structure XN(K:aF)(X:Cx)(e:AD)(t:TE)(f:FE):Prop where
 hk:X.K=K
 pe:PE X e t
 ev:Nu K t f
structure XT(K:aF)(X:Cx)(e:AD)(t:TT)(f:FT):Prop where
 hk:X.K=K
 pt:PT X e t
 ev:UJ K t f
structure XW(K:aF)(X:Cx)(e:AD)(t:TT)(f:FT):Prop where
 hk:X.K=K
 pw:PW X e t
 ev:UJ K t f
structure XA(K:aF)(X:Cx)(es:List AD)(t:TA)(f:FA):Prop where
 hk:X.K=K
 pa:PA X es t
 ev:EvA K t f
structure XB(K:aF)(X:Cx)(es:List AD)(t:TA)(f:FA):Prop where
 hk:X.K=K
 pa:PA X es t
 ev:EvB K t f
section
variable{K:aF}{X:Cx}{e a b c:AD}{es:List AD}{t ta tb:TE}{f g:FE}{tA:TA}{fs:FA}{pos:Pos}
theorem XN.r(h:XN K X e t f):XR K X e t f:=⟨h.hk,h.pe,h.ev.r⟩
theorem XR.n(h:XR K X e t f):XN K X e t (cN f):=⟨h.hk,h.pe,Ka.n h.ev⟩
theorem aH{i:Nat}(h:PE X e (pH i))(hk:X.K=K:=by rfl):XR K X e (pH i) (aD i):=⟨hk,h,aFR i⟩
theorem aM{i:Int}{j:Nat}(hk:X.K=K:=by rfl):XN K X (.Constant (.int i) j pos) (tC (.int i)) (fC (.int i)):=⟨hk,aE6,aAp i⟩
theorem Up{i:Bool}{j:Nat}(hk:X.K=K:=by rfl):XN K X (.Constant (.bool i) j pos) (tC (.bl i)) (fC (.bl i)):=⟨hk,aHn,aHQ i⟩
theorem wJ{j:Nat}(hk:X.K=K:=by rfl):XN K X (.Constant .none j pos) (tC .non) (fC .non):=⟨hk,aE7,aFS⟩
theorem UL{x:Str}{j:Nat}(hk:X.K=K:=by rfl):XN K X (.Constant (.str x) j pos) (tC (.str x)) (fC (.str x)):=⟨hk,aE8,aFT x⟩
theorem Uq{op:Operator}{r:R2}{φ:D→D→Option D}(ho:uM X (DI op) r)(hd:RB K r φ)(ha:XR K X a ta f)(hb:XR K X b tb g):XN K X (.BinOp a op b pos) (DR r ta tb) (f2 φ f g):=⟨ha.hk,aHy ho ha.pe hb.pe,aAq hd ha.ev hb.ev⟩
def Di:D→D→Option D:=Lr (λ_ _=>True) λi j=>.int (i-j)
instance (i j:Int):Decidable (Rr i j):=by unfold Rr;exact inferInstance
instance (i j:Int):Decidable (lr i j):=by unfold lr;exact inferInstance
instance (i j:Int):Decidable (lu i j):=by unfold lu;exact inferInstance
def tR:D→D→Option D:=Lr Rr λi j=>.int (i*j)
def sO:D→D→Option D:=Lr lr λi j=>.int (i/j)
def fO:D→D→Option D:=Lr (λ_ j=>0<j) λi j=>.int (i%j)
def Bw:D→D→Option D:=Lr lu λi j=>.int (i ^ j.toNat)
theorem uN(ha:XR K X a ta f)(hb:XR K X b tb g):XN K X (.BinOp a .Sub b pos) (DR (lq λi j=>.int (i-j)) ta tb) (f2 Di f g):=Uq aFn aC1 ha hb
theorem lK(ha:XR K X a ta f)(hb:XR K X b tb g):XN K X (.BinOp a .Mult b pos) (DR (rI Rr λi j=>.int (i*j)) ta tb) (f2 tR f g):=Uq aFo (Xq λ_ _ h=>h) ha hb
theorem mU(ha:XR K X a ta f)(hb:XR K X b tb g):XN K X (.BinOp a .FloorDiv b pos) (DR (rI lr λi j=>.int (i/j)) ta tb) (f2 sO f g):=Uq aCw (Xq λ_ _ h=>h) ha hb
theorem bT(ha:XR K X a ta f)(hb:XR K X b tb g):XN K X (.BinOp a .Mod b pos) (DR (rI (λ_ j=>0<j) λi j=>.int (i%j)) ta tb) (f2 fO f g):=Uq aFp (Xq λ_ _ h=>h) ha hb
theorem uO(ha:XR K X a ta f)(hb:XR K X b tb g):XN K X (.BinOp a .Pow b pos) (DR (rI lu λi j=>.int (i ^ j.toNat)) ta tb) (f2 Bw f g):=Uq aFq (Xq λ_ _ h=>h) ha hb
theorem aFY{op:EH}{r:R2}{φ:D→D→Option D}(ho:uM X (AS op) r)(hd:RB K r φ)(ha:XR K X a ta f)(hb:XR K X b tb g)(hm:behindInMarks op b=NH):XN K X (.Compare a [op] [b] pos) (DR r ta tb) (f2 φ f g):=⟨ha.hk,aCx ho ha.pe hb.pe hm,aAq hd ha.ev hb.ev⟩
def fB(f:FE):FT:=λe=>(f e).bind λd=>match d with | .bl b=>ND b | _=>none
theorem Xr{f:FE}{e:DE}{b:Bool}(h:fB f e=ND b):f e=ND (.bl b):=by
 unfold fB at h;obtain⟨d,h1,h2⟩:=aX h;split at h2
 ·cases h2;exact h1
 ·cases h2
theorem aC4(h:Ka K t f):UJ K (DW t) (fB f):=λσ H e b Q re q k=>h σ H H e _ _ (Zn.self K H) re (Xr q) λv H' Z' s1 s2 z rv=>by unfold Rv at rv;exact⟨b,rv,k H' s1⟩
theorem aEn(h:Ka K t f):UJ K (tB t) (fB f):=λσ H e b Q re q k=>h σ H H e _ _ (Zn.self K H) re (Xr q) λv H' Z' s1 s2 z rv=>by unfold Rv at rv;exact⟨b,rv,k H' s1⟩
theorem cT{op:EH}{r:R2}{φ:D→D→Option D}(ho:uM X (AS op) r)(hd:RB K r φ)(ha:XR K X a ta f)(hb:XR K X b tb g)(hm:behindInMarks op b=NH):XT K X (.Compare a [op] [b] pos) (DW (DR r ta tb)) (fB (f2 φ f g)):=⟨ha.hk,aCy ho ha.pe hb.pe hm,aC4 (aAq hd ha.ev hb.ev).r⟩
theorem aAt(h:XR K X e t f)(he:∀whole,HC e X.env whole=(do let v ←whole;Da e.pos;Cb [v] (truthy v)):=by intro _;rfl):XT K X e (tB t) (fB f):=⟨h.hk,aFa h.pe he,aEn h.ev⟩
def dLt:D→D→Option D:=Lr (λ_ _=>True) λi j=>.bl (decide (i<j))
def dLe:D→D→Option D:=Lr (λ_ _=>True) λi j=>.bl (decide (i≤j))
def dGt:D→D→Option D:=Lr (λ_ _=>True) λi j=>.bl (decide (j<i))
def dGe:D→D→Option D:=Lr (λ_ _=>True) λi j=>.bl (decide (j≤i))
def toV:D→Option V
  | .non=>ND .non | .bl b=>ND (.bl b) | .int i=>ND (.int i) | .str x=>ND (.str x)
  | _=>none
theorem Dj{H:Hp}{d:D}{v x:V}(h:toV d=ND v)(r:Rv K H d x):x=v:=by cases d<;>unfold toV at h<;>first | (cases h;unfold Rv at r;exact r) | cases h
mutual
def kJ:D→Option DV
 | .int i=>ND (.int i)
 | .non=>ND .non
 | .lst ds=>(tY ds).map DV.lst
 | .tup ds=>(tY ds).map DV.tup
 | _=>none
def tY:List D→Option (List DV)
 | []=>ND []
 | d::ds=>(kJ d).bind λx=>(tY ds).bind λxs=>ND (x::xs)
end
mutual
theorem wK{H:Hp}:∀(d:D)(x:DV)(v:V),kJ d=ND x→Rv K H d v→Reads K H x v
 | .int i,x,v,h,r=>by unfold kJ at h;cases h;unfold Rv at r;unfold Reads;exact r
 | .lst ds,x,v,h,r=>by unfold kJ at h;obtain⟨xs,h1,rfl⟩:=lJ h;unfold Rv at r;unfold Reads;obtain⟨a,vs,r1,r2,r3⟩:=r;exact⟨a,vs,r1,r2,Nz ds xs vs h1 r3⟩
 | .tup ds,x,v,h,r=>by unfold kJ at h;obtain⟨xs,h1,rfl⟩:=lJ h;unfold Rv at r;unfold Reads;obtain⟨a,vs,r1,r2,r3⟩:=r;exact⟨a,vs,r1,r2,Nz ds xs vs h1 r3⟩
 | .non,x,v,h,r=>by unfold kJ at h;cases h;unfold Rv at r;unfold Reads;exact r
 | .bl _,x,v,h,r=>by unfold kJ at h;cases h
 | .str _,x,v,h,r=>by unfold kJ at h;cases h
 | .dk _ _,x,v,h,r=>by unfold kJ at h;cases h
 | .dt _ _,x,v,h,r=>by unfold kJ at h;cases h
 | .ins _ _ _,x,v,h,r=>by unfold kJ at h;cases h
theorem Nz{H:Hp}:∀(ds:List D)(xs:List DV)(vs:List V),tY ds=ND xs→dF K H ds vs→dR K H xs vs
 | [],xs,vs,h,r=>by unfold tY at h;cases h;unfold dF at r;unfold dR;exact r
 | d::ds,xs,vs,h,r=>by unfold tY at h;obtain⟨x,h1,h2⟩:=aX h;obtain⟨xt,h3,h4⟩:=aX h2;cases h4;unfold dF at r;unfold dR;obtain⟨y,ys,r1,r2,r3⟩:=r;exact⟨y,ys,r1,wK d x y h1 r2,Nz ds xt ys h3 r3⟩
end
mutual
theorem aAv:∀(d e:D)(x:DV),kJ d=ND x→kJ e=ND x→d=e
 | .int i,e,x,h,h'=>by
  unfold kJ at h;cases h;cases e<;>unfold kJ at h'<;>first | (cases h';rfl) | cases h' | (obtain⟨xs,q1,q2⟩:=lJ h';cases q2)
 | .lst ds,e,x,h,h'=>by
  unfold kJ at h;obtain⟨xs,h1,rfl⟩:=lJ h;cases e with
  | lst es=>unfold kJ at h';obtain⟨ys,q1,q2⟩:=lJ h';cases q2;rw[Ie ds es xs h1 q1]
  | tup es=>unfold kJ at h';obtain⟨ys,q1,q2⟩:=lJ h';cases q2
  | _=>unfold kJ at h';cases h'
 | .tup ds,e,x,h,h'=>by
  unfold kJ at h;obtain⟨xs,h1,rfl⟩:=lJ h;cases e with
  | tup es=>unfold kJ at h';obtain⟨ys,q1,q2⟩:=lJ h';cases q2;rw[Ie ds es xs h1 q1]
  | lst es=>unfold kJ at h';obtain⟨ys,q1,q2⟩:=lJ h';cases q2
  | _=>unfold kJ at h';cases h'
 | .non,e,x,h,h'=>by
  unfold kJ at h;cases h;cases e<;>unfold kJ at h'<;>first | (cases h';rfl) | cases h' | (obtain⟨xs,q1,q2⟩:=lJ h';cases q2)
 | .bl _,e,x,h,h'=>by unfold kJ at h;cases h
 | .str _,e,x,h,h'=>by unfold kJ at h;cases h
 | .dk _ _,e,x,h,h'=>by unfold kJ at h;cases h
 | .dt _ _,e,x,h,h'=>by unfold kJ at h;cases h
 | .ins _ _ _,e,x,h,h'=>by unfold kJ at h;cases h
theorem Ie:∀(ds es:List D)(xs:List DV),tY ds=ND xs→tY es=ND xs→ds=es
 | [],[],xs,h,h'=>rfl
 | [],e::es,xs,h,h'=>by
  unfold tY at h h';cases h;obtain⟨x,h1,h2⟩:=aX h';obtain⟨xt,h3,h4⟩:=aX h2;cases h4
 | d::ds,[],xs,h,h'=>by
  unfold tY at h h';cases h';obtain⟨x,h1,h2⟩:=aX h;obtain⟨xt,h3,h4⟩:=aX h2;cases h4
 | d::ds,e::es,xs,h,h'=>by unfold tY at h h';obtain⟨x,h1,h2⟩:=aX h;obtain⟨xt,h3,h4⟩:=aX h2;cases h4;obtain⟨y,k1,k2⟩:=aX h';obtain⟨yt,k3,k4⟩:=aX k2;cases k4;rw[aAv d e x h1 k1,Ie ds es xt h3 k3]
end
noncomputable def Ls(a b:D):Option D:=match toV a,toV b with
 | some x,ND y=>if lz x y=NG then ND (.bl (decide (x=y)))else none
 | _,_=>match kJ a,kJ b with
  | some x,ND y=>if x.depth≤32 then ND (.bl (yS x y))else none
  | _,_=>none
theorem vJ:RB K (λx y H Q=>rEq x y H Q∨aFJ K NH x y H Q) Ls:=λx y H a b d Q ra rb q k=>by
 unfold Ls at q;split at q
 ·rename_i u v h1 h2;split at q
  ·rename_i hs;cases q;rw[Dj h1 ra,Dj h2 rb];exact .inl ⟨hs,k _ H (aU.refl _) (.jF U (by unfold Rv;rfl))⟩
  ·cases q
 ·split at q
  ·rename_i u v h1 h2;split at q
   ·rename_i hs;cases q;exact .inr ⟨u,v,wK a u x h1 ra,wK b v y h2 rb,hs,k _ H (aU.refl _) (.jF U (by unfold Rv;rfl))⟩
   ·cases q
  ·cases q
noncomputable def RC(a b:D):Option D:=match toV a,toV b with
 | some x,ND y=>if lz x y=NG then ND (.bl (!decide (x=y)))else none
 | _,_=>match kJ a,kJ b with
  | some (.lst x),ND (.lst y)=>if iI x≤32 then ND (.bl (!yS (.lst x) (.lst y)))else none
  | some (.tup x),ND (.tup y)=>if iI x≤32 then ND (.bl (!yS (.tup x) (.tup y)))else none
  | _,_=>none
def aHS(K:aF):R2:=λx y H Q=>rNe x y H Q∨(∃ds es,Reads K H (.lst ds) x∧Reads K H (.lst es) y∧iI ds≤32∧Q (.bl (!yS (.lst ds) (.lst es))) H)∨(∃ds es,Reads K H (.tup ds) x∧Reads K H (.tup es) y∧iI ds≤32∧Q (.bl (!yS (.tup ds) (.tup es))) H)
theorem Ur:RB K (aHS K) RC:=λx y H a b d Q ra rb q k=>by
 unfold RC at q;split at q
 ·rename_i u v h1 h2;split at q
  ·rename_i hs;cases q;rw[Dj h1 ra,Dj h2 rb];exact .inl ⟨hs,k _ H (aU.refl _) (.jF U (by unfold Rv;rfl))⟩
  ·cases q
 ·split at q
  ·rename_i u v h1 h2;split at q
   ·rename_i hs;cases q;exact .inr (.inl ⟨u,v,wK a _ x h1 ra,wK b _ y h2 rb,hs,k _ H (aU.refl _) (.jF U (by unfold Rv;rfl))⟩)
   ·cases q
  ·rename_i u v h1 h2;split at q
   ·rename_i hs;cases q;exact .inr (.inr ⟨u,v,wK a _ x h1 ra,wK b _ y h2 rb,hs,k _ H (aU.refl _) (.jF U (by unfold Rv;rfl))⟩)
   ·cases q
  ·cases q
theorem or_eq(hu:X.A.units+64<As)(hk:X.K=K):uM X (AS .Eq) (λx y H Q=>rEq x y H Q∨aFJ K NH x y H Q):=by subst hk;exact aHB.or (aFK hu)
theorem Us(hu:X.A.units+64<As)(hk:X.K=K):uM X (AS .NotEq) (aHS K):=by subst hk;exact aHC.or ((aFL hu).or (aFN hu))
def GP:List D→Option (List V)
 | []=>ND []
 | d::ds=>(toV d).bind λx=>(GP ds).bind λxs=>ND (x::xs)
theorem bw{H:Hp}:∀{ds:List D} {vs xs:List V},GP ds=ND vs→dF K H ds xs→xs=vs
 | [],vs,xs,h,r=>by unfold GP at h;cases h;unfold dF at r;exact r
 | d::ds,vs,xs,h,r=>by unfold GP at h;obtain⟨x,h1,h2⟩:=aX h;obtain⟨xt,h3,h4⟩:=aX h2;cases h4;unfold dF at r;obtain⟨y,ys,rfl,r2,r3⟩:=r;rw[Dj h1 r2,bw h3 r3]
def yG:D→Option (List D)
 | .lst ds=>ND ds
 | .tup ds=>ND ds
 | _=>none
theorem Lw{H:Hp}{d:D}{ds:List D}{v:V}(h:yG d=ND ds)(r:Rv K H d v):∃p xs,v=.ref p∧(pQ K H p xs∨xR K H p xs)∧dF K H ds xs:=by
 cases d with
 | lst es=>unfold yG at h;cases h;unfold Rv at r;obtain⟨p,xs,r1,r2,r3⟩:=r;exact⟨p,xs,r1,.inl r2,r3⟩
 | tup es=>unfold yG at h;cases h;unfold Rv at r;obtain⟨p,xs,r1,r2,r3⟩:=r;exact⟨p,xs,r1,.inr r2,r3⟩
 | _=>unfold yG at h;cases h
def xq(neg:Bool)(a b:D):Option D:=(toV a).bind λx=>(yG b).bind λds=>(GP ds).bind λxs=>if yO x=NG∧xs.all yO=NG then ND (.bl (if neg then !inV x xs else inV x xs))else none
theorem GQ(neg:Bool):RB K (rIn K neg) (xq neg):=λx y H a b d Q ra rb q k=>by
 unfold xq at q;obtain⟨u,h1,q⟩:=aX q;obtain⟨ds,h2,q⟩:=aX q;obtain⟨us,h3,q⟩:=aX q;split at q
 ·rename_i c;cases q;obtain⟨p,xs,rfl,r2,r3⟩:=Lw h2 rb;have:=bw h3 r3;subst this;rw[Dj h1 ra];exact⟨p,xs,U,r2,c.1,c.2,k _ H (aU.refl _) (.jF U (by unfold Rv;rfl))⟩
 ·cases q
theorem aEo(hk:X.K=K):uM X (AS .In) (rIn K NH):=by subst hk;exact nu
theorem Oa(hk:X.K=K):uM X (AS .NotIn) (rIn K NG):=by subst hk;exact Xg
end
section
variable{κ:Type} [DecidableEq κ] {K:aF} {H:Hp}
def posK:List κ→κ→Option Nat
 | [],_=>none
 | a::ks,k=>if a=k then ND 0 else(posK ks k).map (·+1)
theorem sS:∀{ks:List κ} {xs:List V} {k:κ},ks.length=xs.length→wH (ks.zip xs) k=(posK ks k).bind λj=>xs[j]?
 | [],xs,k,h=>by unfold posK;rfl
 | a::ks,[],k,h=>by simp at h
 | a::ks,x::xs,k,h=>by
  have ih:=sS (ks:=ks) (xs:=xs) (k:=k) (by simpa using h);unfold posK;rw[Q7];unfold wH at ih ⊢;rw[P2];by_cases c:a=k
  ·rw[if_pos c,decide_eq_true c];rfl
  ·rw[if_neg c,decide_eq_false c];show Option.map _ (List.find? _ (ks.zip xs))=_;rw[ih];cases posK ks k<;>rfl
theorem rJ:∀{ks:List κ} {k:κ} {j:Nat},posK ks k=ND j→j<ks.length∧ks[j]?=ND k
 | [],k,j,h=>by unfold posK at h;cases h
 | a::ks,k,j,h=>by
  unfold posK at h;split at h
  ·rename_i c;cases h;exact⟨by simp,by simp[c]⟩
  ·obtain⟨i,h1,rfl⟩:=lJ h;obtain⟨a1,a2⟩:=rJ h1;exact⟨by simpa using a1,by simpa using a2⟩
theorem Aq:∀{ks:List κ} {k:κ},posK ks k=none↔k∉ks
  | [],k=>by unfold posK;simp
  | a::ks,k=>by
    unfold posK;have ih:=Aq (ks:=ks) (k:=k);split
    · rename_i c;simp[c]
    · rename_i c
      rw[c6,ih,C5];constructor
      · rintro h (q | q)
        · exact c q.symm
        · exact h q
      · intro h q;exact h (.inr q)
def lE(ks:List κ)(k:κ):List κ:=if(posK ks k).isSome then ks else ks++[k]
def putD{β:Type}(ks:List κ)(ds:List β)(k:κ)(d:β):List β:=if(posK ks k).isSome then R1 (λk' d'=>if k'=k then d else d') ks ds else ds++[d]
theorem vK{β:Type}{ks:List κ}{ds:List β}{k:κ}{d:β}(h:ks.length=ds.length):(lE ks k).length=(putD ks ds k d).length:=by
 unfold lE putD;split
 ·rw[List.length_zipWith,h,i8]
 ·rw[C7,C7,h];rfl
theorem GR{ks:List κ}{xs:List V}{k:κ}{v:V}(h:ks.length=xs.length):putK (ks.zip xs) k v=(lE ks k).zip (putD ks xs k v):=by
 have ha:((ks.zip xs).any λkv=>decide (kv.1=k))=(posK ks k).isSome:=by
  rw[Ng,sS h];cases q:posK ks k with
  | none=>rfl
  | some j=>obtain⟨h1,h2⟩:=rJ q;rw[B9,B6 (by omega)];rfl
 unfold putK lE putD;rw[ha];by_cases c:(posK ks k).isSome=NG
 ·rw[if_pos c,if_pos c,if_pos c];clear ha c
  induction ks generalizing xs with
  | nil=>rfl
  | cons a ks ih=>
   cases xs with
   | nil=>simp at h
   | cons x xs=>
    rw[Q7,D5,J4,Q7,ih (by simpa using h)]
    split<;>rfl
 ·rw[if_neg c,if_neg c,if_neg c,List.zip_append h];rfl
end
def Sq:D→Option Key
 | .int i=>ND (.inl i)
 | .str x=>ND (.inr x)
 | _=>none
theorem Lx{K:aF}{H:Hp}{d:D}{k:Key}{v:V}(h:Sq d=ND k)(r:Rv K H d v):v=kV k:=by cases d<;>unfold Sq at h<;>first | (cases h;unfold Rv at r;exact r) | cases h
def kD:Key→D
 | .inl i=>.int i
 | .inr x=>.str x
section
variable{K:aF}{X:Cx}{e a b c:AD}{es:List AD}{t ta tb:TE}{f g:FE}{pos:Pos}
def Dk(neg:Bool)(k d:D):Option D:=match d with
 | .dk ks ds=>(Sq k).bind λk=>ND (.bl (if neg then !(posK ks k).isSome else(posK ks k).isSome))
 | _=>none
def aLd(d k:D):Option D:=match d with
 | .dk ks ds=>(Sq k).bind λk=>(posK ks k).bind λj=>ds[j]?
 | _=>none
theorem UT{ks:List Key}{xs:List V}{k:Key}(h:ks.length=xs.length):(wH (ks.zip xs) k).isSome=(posK ks k).isSome:=by
 rw[sS h];cases q:posK ks k with
 | none=>rfl
 | some j=>obtain⟨h1,h2⟩:=rJ q;rw[B9,B6 (by omega)];rfl
theorem Ob{H:Hp}{x y:V}{ka d r:D}{neg:Bool}(h:Dk neg ka d=ND r)(rk:Rv K H ka y)(rd:Rv K H d x):∃p o,x=.ref p∧Ky H p y o∧r=.bl (if neg then !o.isSome else o.isSome):=by
 unfold Dk at h;split at h
 ·rename_i ks ds;obtain⟨k,h1,h2⟩:=aX h;cases h2;unfold Rv at rd;obtain⟨p,xs,r1,r2,r3,r4⟩:=rd;refine⟨p,wH (ks.zip xs) k,r1,.inl ⟨_,k,r2,Lx h1 rk,U⟩,?_⟩;rw[UT r3]
 ·cases h
theorem aAw(hu:X.A.units+1<As)(ha:XR K X a ta f)(hb:XR K X b tb g)(h1:behindInMarks .In b=NH:=by first | exact nobehind _ (by decide) (by decide) | rfl):XN K X (.Compare a [.In] [b] pos) (aCO ta tb) (f2 (Dk NH) f g):=
 ⟨ha.hk,RG (SQ hu ha.pe hb.pe) h1,λσ H e d Q re q k=>by
  obtain⟨da,db,q1,q2,q3⟩:=Lq q;refine ha.ev σ H H e da _ (Zn.self K H) re q1 λx H1 Z1 s1 t1 z1 rx=>hb.ev σ H1 Z1 e db _ z1 (re.same t1) q2 λy H2 Z2 s2 t2 z2 ry=>?_;obtain⟨p,o,e1,e2,e3⟩:=Ob q3 (z2.sm.rv _ _ (t2.rv _ _ rx)) (z2.sm.rv _ _ ry);subst e3;exact⟨p,o,e1,e2,k _ H2 (s1.trans s2) (.jF U (by unfold Rv;rfl))⟩⟩
theorem qp(hu:X.A.units+1<As)(ha:XR K X a ta f)(hb:XR K X b tb g)(h1:behindInMarks .NotIn b=NH:=by first | exact nobehind _ (by decide) (by decide) | rfl):XN K X (.Compare a [.NotIn] [b] pos) (Xk ta tb) (f2 (Dk NG) f g):=
 ⟨ha.hk,RG (Uj hu ha.pe hb.pe) h1,λσ H e d Q re q k=>by
  obtain⟨da,db,q1,q2,q3⟩:=Lq q;refine ha.ev σ H H e da _ (Zn.self K H) re q1 λx H1 Z1 s1 t1 z1 rx=>hb.ev σ H1 Z1 e db _ z1 (re.same t1) q2 λy H2 Z2 s2 t2 z2 ry=>?_;obtain⟨p,o,e1,e2,e3⟩:=Ob q3 (z2.sm.rv _ _ (t2.rv _ _ rx)) (z2.sm.rv _ _ ry);subst e3;exact⟨p,o,e1,e2,k _ H2 (s1.trans s2) (.jF U (by unfold Rv;rfl))⟩⟩
theorem aEp{op:EH}(h:XN K X (.Compare a [op] [b] pos) t f)(pc:PC X op a b t)(h1:behindInMarks op b=NH):XT K X (.Compare a [op] [b] pos) (tB t) (fB f):=⟨h.hk,aE9 pc h1,aEn h.ev.r⟩
theorem Ut(hu:X.A.units+1<As)(ha:XR K X a ta f)(hb:XR K X b tb g)(h1:behindInMarks .NotIn b=NH:=by first | exact nobehind _ (by decide) (by decide) | rfl):XT K X (.Compare a [.NotIn] [b] pos) (tB (Xk ta tb)) (fB (f2 (Dk NG) f g)):=aEp (qp hu ha hb h1) (Uj hu ha.pe hb.pe) h1
def fJ(a i:D):Option D:=match i with
 | .int i=>(yG a).bind λds=>QX ds i
 | _=>none
theorem aEq{H:Hp}{ds:List D}{xs:List V}{i:Int}{d:D}(r:dF K H ds xs)(h:QX ds i=ND d):∃v,QX xs i=ND v∧Rv K H d v:=by unfold QX at h ⊢;obtain⟨j,h1,h2⟩:=aX h;rw[r.length,h1];exact r.get h2
theorem aEr(hk:X.K=K):IxR X (rIx K):=by subst hk;exact aFy
theorem bQ(ha:XR K X a ta f)(hb:XR K X b tb g)(hs:Xd b):XR K X (.Subscript a b pos) (DR (rIx K) ta tb) (f2 fJ f g):=
 ⟨ha.hk,aEh (aEr ha.hk) ha.pe hb.pe hs,aHR (λx y H Z da db d Q z ra rb q k=>by
  unfold fJ at q;split at q
  ·rename_i i;obtain⟨ds,h1,h2⟩:=aX q;unfold Rv at rb;cases da with
   | lst es=>
    unfold yG at h1;cases h1;unfold Rv at ra;obtain⟨p,xs,r1,r2,r3⟩:=ra;obtain⟨v,e1,e2⟩:=aEq r3 h2;exact .inl ⟨p,xs,i,v,r1,rb,z.sm.seq r2,e1,k v H Z (aU.refl _) (aU.refl _) z e2⟩
   | tup es=>
    unfold yG at h1;cases h1;unfold Rv at ra;obtain⟨p,xs,r1,r2,r3⟩:=ra;obtain⟨v,e1,e2⟩:=aEq r3 h2;exact .inr (.inl ⟨p,xs,i,v,r1,rb,z.sm.tup r2,e1,k v H Z (aU.refl _) (aU.refl _) z e2⟩)
   | _=>unfold yG at h1;cases h1
  ·cases q) ha.ev hb.ev⟩
end
end L2


namespace L2
open PySem PySem.Spec PyProof.Rows
section
variable{K:aF}{X:Cx}{e a b c:AD}{es rest:List AD}{t ta tb:TE}{f g:FE}{tA:TA}{fs:FA}{pos:Pos}{tc:TT}{fc fd:FT}{td:TT}
theorem aP(hk:X.K=K:=by rfl):XA K X [] lG aO:=⟨hk,gU,aAr⟩
theorem aG(h:XR K X e t f)(hs:XA K X es tA fs)(hst:AB (e::es) X.env=(NH,AO e X.env)::AB es X.env:=by rfl):XA K X (e::es) (cI t tA) (aB f fs):=⟨h.hk,cH h.pe hs.pa hst,aC2 h.ev hs.ev⟩
theorem jB(hk:X.K=K:=by rfl):XB K X [] lG aO:=⟨hk,gU,aFU⟩
theorem bI(h:XN K X e t f)(hs:XB K X es tA fs)(hst:AB (e::es) X.env=(NH,AO e X.env)::AB es X.env:=by rfl):XB K X (e::es) (cI t tA) (aB f fs):=⟨h.hk,cH h.pe hs.pa hst,aC3 h.ev hs.ev⟩
theorem yX(h:XB K X es tA fs):XN K X (.List es pos) (zm tA) (lX fs):=⟨h.hk,zp h.pa,aFV h.ev⟩
theorem nT(h:XA K X es tA fs):XR K X (.List es pos) (zm tA) (lX fs):=⟨h.hk,zp h.pa,aFX h.ev⟩
theorem qO{x1:Nat}(h:XB K X es tA fs):XN K X (.Tuple es x1 pos) (DX tA) (vI fs):=⟨h.hk,RX h.pa,aFW h.ev⟩
theorem aC5:Nu K SX (fC (.dk [] [])):=λσ H e d Q re q k=>by cases q;intro p hp;refine k _ _ (cP hp _) ⟨(·=p),?_,λa q=>by cases q;exact hp⟩;unfold Ow;exact⟨p,[],nil,U,cD,U,λz=>z,λx=>⟨.inl,λz=>z.elim id False.elim⟩,by unfold dU;exact⟨λ_ z=>z,U⟩⟩
theorem wL(hk:X.K=K:=by rfl):XN K X (.Dict [] [] pos) SX (fC (.dk [] [])):=⟨hk,aAg,aC5⟩
def Dl(f g:FT):FT:=λe=>(f e).bind λc=>if c=NG then g e else ND NH
def qt(f g:FT):FT:=λe=>(f e).bind λc=>if c=NG then ND NG else g e
def Xu(f:FT):FT:=λe=>(f e).map λc=>!c
theorem aFZ(h1:UJ K tc fc)(h2:UJ K td fd):UJ K (aFb tc td) (Dl fc fd):=λσ H e b Q re q k=>by
 unfold Dl at q;obtain⟨c,q1,q2⟩:=aX q;refine h1 σ H e c _ re q1 λH1 s1=>?_;cases c with
 | true=>rw[if_pos rfl]at q2 ⊢;exact h2 σ H1 e b Q (re.same s1) q2 λH2 s2=>k H2 (s1.trans s2)
 | false=>rw[if_neg (by decide)]at q2 ⊢;cases q2;exact k H1 s1
theorem aHT(h1:UJ K tc fc)(h2:UJ K td fd):UJ K (tOr tc td) (qt fc fd):=λσ H e b Q re q k=>by
 unfold qt at q;obtain⟨c,q1,q2⟩:=aX q;refine h1 σ H e c _ re q1 λH1 s1=>?_;cases c with
 | false=>rw[if_neg (by decide)]at q2 ⊢;exact h2 σ H1 e b Q (re.same s1) q2 λH2 s2=>k H2 (s1.trans s2)
 | true=>rw[if_pos rfl]at q2 ⊢;cases q2;exact k H1 s1
theorem aF0(h1:UJ K tc fc):UJ K (aFc tc) (Xu fc):=λσ H e b Q re q k=>by unfold Xu at q;obtain⟨c,q1,rfl⟩:=lJ q;exact h1 σ H e c _ re q1 k
theorem XW.xt(h:XW K X e tc fc):XT K X e tc fc:=⟨h.hk,h.pw.pt,h.ev⟩
theorem Ly(h:XT K X a tc fc):XW K X (.BoolOp .And [a] pos) tc fc:=⟨h.hk,aCs h.pt,h.ev⟩
theorem UW(h:XT K X a tc fc):XW K X (.BoolOp .Or [a] pos) tc fc:=⟨h.hk,aFd h.pt,h.ev⟩
theorem Xv(h:XT K X a tc fc)(h2:XW K X (.BoolOp .And (b::rest) pos) td fd):XW K X (.BoolOp .And (a::b::rest) pos) (aFb tc td) (Dl fc fd):=⟨h.hk,aFe h.pt h2.pw,aFZ h.ev h2.ev⟩
theorem cg(h:XT K X a tc fc)(h2:XW K X (.BoolOp .Or (b::rest) pos) td fd):XW K X (.BoolOp .Or (a::b::rest) pos) (tOr tc td) (qt fc fd):=⟨h.hk,aHo h.pt h2.pw,aHT h.ev h2.ev⟩
theorem Xw(h:XT K X a tc fc):XT K X (.UnaryOp .Not a pos) (aFc tc) (Xu fc):=⟨h.hk,aFf h.pt,aF0 h.ev⟩
def qu(f g:FE):FE:=λe=>(fB f e).bind λc=>if c=NG then ND (.bl NG)else g e
theorem aC6{op:BoolOp}(h:XN K X a t f):XN K X (.BoolOp op [a] pos) t f:=⟨h.hk,aFg h.pe,h.ev⟩
theorem aHU(h:XR K X a ta f)(h2:XN K X (.BoolOp .Or (b::rest) pos) tb g):XN K X (.BoolOp .Or (a::b::rest) pos) (aHp ta tb) (qu f g):=⟨h.hk,aHq h.pe h2.pe,λσ H e d Q re q k=>by
 unfold qu at q;obtain⟨c,q1,q2⟩:=aX q;refine h.ev σ H H e _ _ (Zn.self K H) re (Xr q1) λv H1 Z1 s1 t1 z1 rv=>?_;unfold Rv at rv;refine⟨c,rv,?_⟩;cases c with
 | false=>rw[if_neg (by decide)]at q2 ⊢;exact h2.ev σ H1 e d Q (re.same s1) q2 λv H2 s2 n=>k v H2 (s1.trans s2) (n.back s1)
 | true=>rw[if_pos rfl]at q2 ⊢;cases q2;exact k _ H1 s1 (.jF U (by unfold Rv;rfl))⟩
def fIf(c:FT)(f g:FE):FE:=λe=>(c e).bind λb=>if b=NG then f e else g e
theorem aEt(hc:XT K X c tc fc)(ha:XN K X a ta f)(hb:XN K X b tb g):XN K X (.IfExp c a b pos) (tIf tc ta tb) (fIf fc f g):=⟨ha.hk,yf hc.pt ha.pe hb.pe,λσ H e d Q re q k=>by
 unfold fIf at q;obtain⟨c,q1,q2⟩:=aX q;refine hc.ev σ H e c _ re q1 λH1 s1=>?_;cases c with
 | true=>rw[if_pos rfl]at q2 ⊢;exact ha.ev σ H1 e d Q (re.same s1) q2 λv H2 s2 n=>k v H2 (s1.trans s2) (n.back s1)
 | false=>rw[if_neg (by decide)]at q2 ⊢;exact hb.ev σ H1 e d Q (re.same s1) q2 λv H2 s2 n=>k v H2 (s1.trans s2) (n.back s1)⟩
theorem aF1(ha:XR K X a ta f):XN K X (.UnaryOp .USub a pos) (tUn (rU λi=>.int (-i)) ta) (λe=>(f e).bind λd=>match d with | .int i=>ND (.int (-i)) | _=>none):=⟨ha.hk,aHz aFr ha.pe,λσ H e d Q re q k=>by
 obtain⟨c,q1,q2⟩:=aX q;split at q2
 ·rename_i i;cases q2;refine ha.ev σ H H e _ _ (Zn.self K H) re q1 λv H1 Z1 s1 t1 z1 rv=>?_;unfold Rv at rv;exact⟨i,rv,k _ H1 s1 (.jF U (by unfold Rv;rfl))⟩
 ·cases q2⟩
def fL(φ:List D→Option D)(fs:FA):FE:=λe=>(fs e).bind φ
def xU(K:aF)(r:List V→Hp→VK→Prop)(φ:List D→Option D):Prop:=∀(vs:List V)(H:Hp)(ds:List D)(d:D)(Q:VK),dF K H ds vs→φ ds=ND d →
 (∀v H',aU H H'→Nr K H H' d v→Q v H')→r vs H Q
theorem aEu{r:List V→Hp→VK→Prop}{φ:List D→Option D}(o:xU K r φ)(h:EvA K tA fs):Nu K (tCB r tA) (fL φ fs):=λσ H e d Q re q k=>by obtain⟨ds,q1,q2⟩:=aX q;exact h σ H H e ds _ (Zn.self K H) re q1 λvs H1 Z1 s1 t1 z1 rs=>o vs H1 ds d Q (z1.sm.bj _ _ rs) q2 λv H2 s2 n=>k v H2 (s1.trans s2) (n.back s1)
theorem iC{r:List V→Hp→VK→Prop}{φ:List D→Option D}{x:Str}{id:String}{p:Pos}(o:xU K r φ)(hc:mZ X (.builtin id) r)(hg:Gl X x)(hm:X.mg x=none)(hv:AU x=ND (.builtin id))(ha:XA K X (e::es) tA fs)(hn:x ≠ "__name__" := by decide) (hdb:(x==("__debug__" : Str))=NH:=by decide)
  (he:AB (e::es) X.env=(NH,AO e X.env)::AB es X.env:=by rfl) (hpl:(AZ pos (AB es X.env)).any (·.1)=NH:=by rfl):XN K X (.Call (.Name x p) (e::es) [] pos) (tCB r tA) (fL φ fs):=⟨ha.hk,EY hc hg hm hv ha.pa hn hdb he hpl,aEu o ha.ev⟩
theorem Fj{r:List V→Hp→VK→Prop}{φ:List D→Option D}{x:Str}{id:String}{p:Pos}(o:xU K r φ)(hc:mZ X (.type id) r)(hg:Gl X x)(hm:X.mg x=none)(hv:AU x=ND (.type id))(ha:XA K X (e::es) tA fs)(hn:x ≠ "__name__" := by decide) (hdb:(x==("__debug__" : Str))=NH:=by decide)
  (he:AB (e::es) X.env=(NH,AO e X.env)::AB es X.env:=by rfl) (hpl:(AZ pos (AB es X.env)).any (·.1)=NH:=by rfl):XN K X (.Call (.Name x p) (e::es) [] pos) (tCB r tA) (fL φ fs):=⟨ha.hk,nq hc hg hm hv ha.pa hn hdb he hpl,aEu o ha.ev⟩
theorem sU{H:Hp}{d:D}{vs:List V}(h:dF K H [d] vs):∃v,vs=[v]∧Rv K H d v:=by unfold dF at h;obtain⟨y,ys,rfl,h1,h2⟩:=h;unfold dF at h2;subst h2;exact⟨y,U,h1⟩
theorem aAx{H:Hp}{d d':D}{vs:List V}(h:dF K H [d,d'] vs):∃v v',vs=[v,v']∧Rv K H d v∧Rv K H d' v':=by unfold dF at h;obtain⟨y,ys,rfl,h1,h2⟩:=h;obtain⟨v,rfl,h3⟩:=sU h2;exact⟨y,v,U,h1,h3⟩
def jU:List D→Option D
 | [d]=>(yG d).map λds=>.int ds.length
 | _=>none
def aHV(K:aF):List V→Hp→VK→Prop:=λxs H Q=>∃p ys,xs=[.ref p]∧(pQ K H p ys∨xR K H p ys)∧Q (.int ys.length) H
theorem gD:xU K (aHV K) jU:=λvs H ds d Q rs q k=>by
 unfold jU at q;split at q
 ·rename_i d0;obtain⟨es,q1,rfl⟩:=lJ q;obtain⟨v,rfl,r⟩:=sU rs;obtain⟨p,xs,rfl,r2,r3⟩:=Lw q1 r;refine⟨p,xs,U,r2,k _ H (aU.refl _) (.jF U ?_)⟩;rw[r3.length];unfold Rv;rfl
 ·cases q
theorem gF(hk:X.K=K):mZ X (.builtin "len") (aHV K):=by subst hk;exact Xh
def dList:List D→Option D
 | [d]=>(yG d).bind λds=>if D.eU ds=NG then ND (.lst ds)else none
 | _=>none
def aEv(K:aF):List V→Hp→VK→Prop:=λxs H Q=>∃p ys,xs=[.ref p]∧(pQ K H p ys∨xR K H p ys)∧∀l,H l=none→Q (.ref l) (upd H l (.lst ys))
theorem Av:xU K (aEv K) dList:=λvs H ds d Q rs q k=>by
 unfold dList at q;split at q
 ·rename_i d0;obtain⟨es,q1,q2⟩:=aX q;split at q2
  ·rename_i hi;cases q2;obtain⟨v,rfl,r⟩:=sU rs;obtain⟨p,xs,rfl,r2,r3⟩:=Lw q1 r;exact⟨p,xs,U,r2,λl hl=>k _ _ (cP hl _) (rH (aU.refl _) (.eU hi r3) hl)⟩
  ·cases q2
 ·cases q
theorem Aw(hk:X.K=K):mZ X (.type "list") (aEv K):=by subst hk;exact Xi
def Oc:List D→Option D
 | [.dk ks ds]=>ND (.lst (ks.map kD))
 | _=>none
theorem Uu:∀ks:List Key,D.eU (ks.map kD)=NG
 | []=>by rw[L3];unfold D.eU;rfl
 | k::ks=>by rw[D5];unfold D.eU;rw[Uu ks];cases k<;>(unfold kD D.jF;rfl)
theorem GX{H:Hp}:∀ks:List Key,dF K H (ks.map kD) (ks.map kV)
 | []=>by rw[L3,L3];unfold dF;rfl
 | k::ks=>by rw[D5,D5];unfold dF;exact⟨_,_,U,by cases k<;>(unfold kD kV Rv;rfl),GX ks⟩
def aF2:List V→Hp→VK→Prop:=λxs H Q=>∃p kvs,xs=[.ref p]∧Rd H p (.dK kvs)∧∀l,H l=none→Q (.ref l) (upd H l (.lst (kvs.map λkv=>kV kv.1)))
theorem aAy{ks:List Key}{xs:List V}(h:ks.length=xs.length):((ks.zip xs).map λkv=>kV kv.1)=ks.map kV:=by
 have:((ks.zip xs).map λkv=>kV kv.1)=((ks.zip xs).map Prod.fst).map kV:=by rw[K4];rfl
 rw[this,List.map_fst_zip (by omega)]
theorem HD:xU K aF2 Oc:=λvs H ds d Q rs q k=>by
 unfold Oc at q;split at q
 ·rename_i ks es;cases q;obtain⟨v,rfl,r⟩:=sU rs;unfold Rv at r;obtain⟨p,xs,rfl,r2,r3,r4⟩:=r;refine⟨p,_,U,r2,λl hl=>?_⟩;rw[aAy r3];exact k _ _ (cP hl _) (rH (aU.refl _) (.eU (Uu ks) (GX ks)) hl)
 ·cases q
def Od:List D→Option D
 | [d]=>(yG d).bind λds=>if D.eU ds=NG then ND (.tup ds)else none
 | _=>none
def aAz(K:aF):List V→Hp→VK→Prop:=λxs H Q=>∃p ys,xs=[.ref p]∧((pQ K H p ys∧∀l,H l=none→Q (.ref l) (upd H l (.tup ys)))∨(xR K H p ys∧Q (.ref p) H))
theorem aAA:xU K (aAz K) Od:=λvs H ds d Q rs q k=>by
 unfold Od at q;split at q
 ·rename_i d0;obtain⟨es,q1,q2⟩:=aX q;split at q2
  ·rename_i hi;cases q2;obtain⟨v,rfl,r⟩:=sU rs;obtain⟨p,xs,rfl,r2,r3⟩:=Lw q1 r;refine⟨p,xs,U,?_⟩;rcases r2 with r2 | r2
   ·exact .inl ⟨r2,λl hl=>k _ _ (cP hl _) (bu (.eU hi r3) hl)⟩
   ·exact .inr ⟨r2,k _ H (aU.refl _) (.jF (by unfold D.jF;exact hi) (by unfold Rv;exact⟨p,xs,U,r2,r3⟩))⟩
  ·cases q2
 ·cases q
theorem aAB(hk:X.K=K):mZ X (.type "tuple") (aAz K):=by subst hk;exact Ry
def intsOf:List D→Option (List Int)
 | []=>ND []
 | .int i::ds=>(intsOf ds).map (i::·)
 | _=>none
theorem jV:∀ns:List Int,intsOf (ns.map D.int)=ND ns
 | []=>rfl
 | n::ns=>by rw[D5];unfold intsOf;rw[jV ns];rfl
theorem tZ:∀{ds:List D} {ns:List Int},intsOf ds=ND ns→ds=ns.map D.int
 | [],ns,h=>by unfold intsOf at h;cases h;rfl
 | d::ds,ns,h=>by
  cases d with
  | int i=>unfold intsOf at h;obtain⟨ms,h1,rfl⟩:=lJ h;rw[D5,←tZ h1]
  | _=>unfold intsOf at h;cases h
theorem jM{H:Hp}:∀{ns:List Int} {xs:List V},dF K H (ns.map D.int) xs↔xs=ns.map V.int
 | [],xs=>by rw[L3,L3];unfold dF;rfl
 | n::ns,xs=>by
  rw[D5,D5];unfold dF;constructor
  ·rintro⟨y,ys,rfl,h1,h2⟩
   unfold Rv at h1;rw[h1,jM.mp h2]
  ·rintro rfl;exact⟨_,_,U,by unfold Rv;rfl,jM.mpr U⟩
theorem dG:∀ns:List Int,D.eU (ns.map D.int)=NG
 | []=>by rw[L3];unfold D.eU;rfl
 | n::ns=>by rw[D5];unfold D.eU D.jF;rw[dG ns];rfl
theorem yZ{H:Hp}{ds:List D}{ns:List Int}{v:V}(h:intsOf ds=ND ns)(r:Rv K H (.lst ds) v):∃p,v=.ref p∧pQ K H p (ns.map V.int):=by rw[tZ h]at r;unfold Rv at r;obtain⟨p,xs,r1,r2,r3⟩:=r;rw[jM.mp r3]at r2;exact⟨p,r1,r2⟩
def sortI(ns:List Int):List Int:=ns.mergeSort λa b=>decide (a≤b)
theorem wM(ns:List Int):rising ns (sortI ns):=⟨List.mergeSort_perm _ _,by
 have h:=List.pairwise_mergeSort (le:=λa b:Int=>decide (a≤b)) (λa b c h1 h2=>decide_eq_true (Int.le_trans (of_decide_eq_true h1) (of_decide_eq_true h2))) (λa b=>by
  rw[m8,decide_eq_true_iff,decide_eq_true_iff];exact Int.le_total a b) ns
 exact h.imp λh=>of_decide_eq_true h⟩
theorem Uv:∀{l m:List Int},l.Pairwise (·≤·)→m.Pairwise (·≤·)→l.Perm m→l=m
  | [],m,_,_,p=>(List.Perm.nil_eq p)
  | a::l,[],_,_,p=>absurd p.symm (by simp)
  | a::l,b::m,h1,h2,p=>by
    obtain⟨h1a,h1b⟩:=J7.mp h1;obtain⟨h2a,h2b⟩:=J7.mp h2;have e:a=b:=by
      have q1:a∈b::m:=p.mem_iff.mp C9;have q2:b∈a::l:=p.mem_iff.mpr C9;rcases C5.mp q1 with q1 | q1
      · exact q1
      · rcases C5.mp q2 with q2 | q2
        · exact q2.symm
        · have:=h1a b q2
          have:=h2a a q1;omega
    subst e;rw[Uv h1b h2b (List.Perm.cons_inv p)]
theorem Fq{ns ms:List Int}(h:rising ns ms):ms=sortI ns:=Uv h.2 (wM ns).2 (h.1.trans (wM ns).1.symm)
def Ft:List D→Option D
 | [.lst ds]=>(intsOf ds).bind λns=>if ns.length<64 then ND (.lst ((sortI ns).map D.int))else none
 | _=>none
def cj(K:aF):List V→Hp→VK→Prop:=λxs H Q=>∃(p:A7)(ns:List Int),xs=[.ref p]∧pQ K H p (ns.map V.int)∧ns.length<64∧∀l ms,H l=none→rising ns ms→Q (.ref l) (upd H l (.lst (ms.map V.int)))
theorem Uw:xU K (cj K) Ft:=λvs H ds d Q rs q k=>by
 unfold Ft at q;split at q
 ·obtain⟨ns,q1,q2⟩:=aX q;split at q2
  ·rename_i hl;cases q2;obtain⟨v,rfl,r⟩:=sU rs;obtain⟨p,rfl,r2⟩:=yZ q1 r;refine⟨p,ns,U,r2,hl,λl ms hl hr=>?_⟩;rw[Fq hr];exact k _ _ (cP hl _) (rH (aU.refl _) (.eU (dG _) (jM.mpr U)) hl)
  ·cases q2
 ·cases q
theorem Ux(hk:X.K=K):mZ X (.builtin "sorted") (cj K):=by subst hk;exact GD
def Cv:List D→Option (List Bool)
 | []=>ND []
 | .bl i::ds=>(Cv ds).map (i::·)
 | _=>none
theorem HF{H:Hp}:∀{ds:List D} {bs:List Bool} {xs:List V},Cv ds=ND bs→dF K H ds xs→xs=bs.map V.bl
 | [],bs,xs,h,r=>by unfold Cv at h;cases h;unfold dF at r;exact r
 | d::ds,bs,xs,h,r=>by
  cases d with
  | bl i=>unfold Cv at h;obtain⟨cs,h1,rfl⟩:=lJ h;unfold dF at r;obtain⟨y,ys,rfl,r1,r2⟩:=r;unfold Rv at r1;rw[r1,HF h1 r2];rfl
  | _=>unfold Cv at h;cases h
theorem Uy{α:Type}(p:α→Bool):∀l:List α,Cv (l.map λx=>D.bl (p x))=ND (l.map p)
 | []=>rfl
 | a::l=>by rw[D5];unfold Cv;rw[Uy p l];rfl
def aC7:List D→Option D
 | [.lst ds]=>(Cv ds).map λbs=>.bl (bs.all id)
 | _=>none
def aHW(K:aF):List V→Hp→VK→Prop:=λxs H Q=>∃(p:A7)(bs:List Bool),xs=[.ref p]∧pQ K H p (bs.map V.bl)∧Q (.bl (bs.all id)) H
theorem aC8{H:Hp}{ds:List D}{bs:List Bool}{v:V}(h:Cv ds=ND bs)(r:Rv K H (.lst ds) v):∃p,v=.ref p∧pQ K H p (bs.map V.bl):=by unfold Rv at r;obtain⟨p,xs,r1,r2,r3⟩:=r;rw[HF h r3]at r2;exact⟨p,r1,r2⟩
theorem aF3:xU K (aHW K) aC7:=λvs H ds d Q rs q k=>by
 unfold aC7 at q;split at q
 ·obtain⟨bs,q1,rfl⟩:=lJ q;obtain⟨v,rfl,r⟩:=sU rs;obtain⟨p,rfl,r2⟩:=aC8 q1 r;exact⟨p,bs,U,r2,k _ H (aU.refl _) (.jF U (by unfold Rv;rfl))⟩
 ·cases q
theorem aF4(hk:X.K=K)(hc:X.calm=NG:=by rfl):mZ X (.builtin "all") (aHW K):=by subst hk;exact aAl hc
def HH:List D→Option D
 | [.int i,.int j]=>ND (.int (if j > i then j else i))
 | _=>none
def aKl:List D→Option D
 | [.int i,.int j]=>ND (.int (if j<i then j else i))
 | _=>none
theorem aC9:xU K (λxs H Q=>∃i j,xs=[.int i,.int j]∧Q (.int (if j > i then j else i)) H) HH:=λvs H ds d Q rs q k=>by
 unfold HH at q;split at q
 ·cases q;obtain⟨v,w,rfl,r1,r2⟩:=aAx rs;unfold Rv at r1 r2;exact⟨_,_,by rw[r1,r2],k _ H (aU.refl _) (.jF U (by unfold Rv;rfl))⟩
 ·cases q
def VB:List Int→Int
 | []=>0
 | [a]=>a
 | a::b::l=>let m:=VB (b::l);if m<a then m else a
theorem Dm:∀{ns:List Int},0<ns.length→Lp ns (VB ns)
 | [],h=>absurd h (by simp)
 | [a],_=>⟨D9.mpr U,λb hb=>by rw[D9.mp hb];exact b9 _⟩
 | a::b::l,_=>by
  obtain⟨h1,h2⟩:=Dm (ns:=b::l) (by simp);unfold VB;dsimp only;split
  ·rename_i c;refine⟨C6 _ h1,λx hx=>?_⟩;rcases C5.mp hx with q | q
   ·omega
   ·exact h2 x q
  ·rename_i c;refine⟨C9,λx hx=>?_⟩;rcases C5.mp hx with q | q
   ·omega
   ·have:=h2 x q;omega
theorem VD{ns:List Int}{m:Int}(h:Lp ns m):m=VB ns:=by obtain⟨h1,h2⟩:=Dm (List.length_pos_of_mem h.1);have:=h.2 _ h1;have:=h2 _ h.1;omega
def cu:List D→Option D
 | [.lst ds]=>(intsOf ds).bind λns=>if 0<ns.length then ND (.int (VB ns))else none
 | _=>none
def aEw(K:aF):List V→Hp→VK→Prop:=λxs H Q=>∃(p:A7)(ns:List Int),xs=[.ref p]∧pQ K H p (ns.map V.int)∧0<ns.length∧∀m,Lp ns m→Q (.int m) H
theorem aDa:xU K (aEw K) cu:=λvs H ds d Q rs q k=>by
 unfold cu at q;split at q
 ·obtain⟨ns,q1,q2⟩:=aX q;split at q2
  ·rename_i hl;cases q2;obtain⟨v,rfl,r⟩:=sU rs;obtain⟨p,rfl,r2⟩:=yZ q1 r;refine⟨p,ns,U,r2,hl,λm hm=>?_⟩;rw[VD hm];exact k _ H (aU.refl _) (.jF U (by unfold Rv;rfl))
  ·cases q2
 ·cases q
theorem aDb(hk:X.K=K)(hc:X.calm=NG:=by rfl):mZ X (.builtin "min") (aEw K):=by subst hk;exact qm hc
end
end L2


namespace L2
open PySem PySem.Spec PyProof.Rows
section
variable{K:aF}{X:Cx}{e a b c:AD}{es rest:List AD}{t ta tb:TE}{f g:FE}{tA:TA}{fs:FA}{pos:Pos}{tc:TT}{fc fd:FT}{td:TT}
abbrev FO:=DE→Option (Option Int)
def EvO(K:aF)(t:TO)(f:FO):Prop:=∀(σ:St)(H:Hp)(e:DE)(o:Option Int)(Q:Option Int→Hp→Prop),yL K H e σ→f e=ND o→(∀H',aU H H'→Q o H')→t σ H Q
structure XO(K:aF)(X:Cx)(e:Option AD)(t:TO)(f:FO):Prop where
 po:PO X e t
 ev:EvO K t f
def Xx:FO:=λ_=>ND none
def pI(f:FE):FO:=λe=>(f e).bind λd=>match d with | .int i=>ND (ND i) | _=>none
theorem cz:XO K X none ak Xx:=⟨aCE,λσ H e o Q re q k=>by cases q;exact k H (aU.refl _)⟩
theorem Lz(h:XR K X e t f):XO K X (ND e) (aEg t) (pI f):=⟨aCF h.pe,λσ H e o Q re q k=>by
 unfold pI at q;obtain⟨d,q1,q2⟩:=aX q;split at q2
 ·rename_i i;cases q2;refine h.ev σ H H e _ _ (Zn.self K H) re q1 λv H1 Z1 s1 t1 z1 rv=>?_;unfold Rv at rv;exact⟨i,rv,k H1 s1⟩
 ·cases q2⟩
def yH{α:Type}(xs:List α)(lo hi:Option Int):List α:=(xs.drop (HT.Kw xs.length 0 lo)).take (HT.Kw xs.length xs.length hi-HT.Kw xs.length 0 lo)
theorem dF.drop{H:Hp}:∀{ds:List D} {xs:List V} (n:Nat),dF K H ds xs→dF K H (ds.drop n) (xs.drop n)
 | ds,xs,0,h=>h
 | [],xs,n+1,h=>by unfold dF at h;subst h;simp;unfold dF;rfl
 | d::ds,xs,n+1,h=>by unfold dF at h;obtain⟨y,ys,rfl,_,h2⟩:=h;simpa using dF.drop n h2
theorem dF.take{H:Hp}:∀{ds:List D} {xs:List V} (n:Nat),dF K H ds xs→dF K H (ds.take n) (xs.take n)
 | ds,xs,0,h=>by simp;unfold dF;rfl
 | [],xs,n+1,h=>by unfold dF at h;subst h;simp;unfold dF;rfl
 | d::ds,xs,n+1,h=>by unfold dF at h;obtain⟨y,ys,rfl,h1,h2⟩:=h;rw[g8,g8];unfold dF;exact⟨y,_,U,h1,dF.take n h2⟩
theorem dg{H:Hp}{ds:List D}{xs:List V}(lo hi:Option Int)(h:dF K H ds xs):dF K H (yH ds lo hi) (SM xs lo hi):=by unfold yH SM;rw[h.length];exact(h.drop _).take _
def qw(jF:Bool)(f:FE)(l h:FO):FE:=λe=>(f e).bind λd=>(l e).bind λlo=>(h e).bind λhi=>match d with
 | .lst ds=>if jF=NH∨D.eU (yH ds lo hi)=NG then ND (.lst (yH ds lo hi))else none
 | _=>none
theorem HJ{jF:Bool}{f:FE}{l h:FO}{e:DE}{d:D}(q:qw jF f l h e=ND d):∃ds lo hi,f e=ND (.lst ds)∧l e=ND lo∧h e=ND hi∧(jF=NH∨D.eU (yH ds lo hi)=NG)∧d=.lst (yH ds lo hi):=by
 unfold qw at q;obtain⟨d0,q1,q⟩:=aX q;obtain⟨lo,q2,q⟩:=aX q;obtain⟨hi,q3,q⟩:=aX q;split at q
 ·split at q
  ·rename_i c;cases q;exact⟨_,lo,hi,q1,q2,q3,c,U⟩
  ·cases q
 ·cases q
theorem dh(hk:X.K=K):SlR X (aCI K):=by subst hk;exact aCJ
variable{lo hi:Option AD}{tl th:TO}{fl fh:FO}{p2:Pos}
theorem aAC(h:XR K X e t f)(hl:XO K X lo tl fl)(hu:XO K X hi th fh):XR K X (.Subscript e (.Slice lo hi none p2) pos) (tSl (aCI K) t tl th) (qw NH f fl fh):=⟨h.hk,FJ (dh h.hk) h.pe hl.po hu.po,λσ H Z e d Q z re q k=>by
 obtain⟨ds,lo,hi,q1,q2,q3,_,rfl⟩:=HJ q;refine h.ev σ H Z e _ _ z re q1 λv H1 Z1 s1 t1 z1 rv=>hl.ev σ H1 e lo _ (re.same (z.sm.trans s1)) q2 λH2 s2=>hu.ev σ H2 e hi _ (re.same (z.sm.trans (s1.trans s2))) q3 λH3 s3=>?_;have z3:=Xp z1 (s2.trans s3);have t3:aU Z1 (Xo Z1 H1 H3):=Ib z1;unfold Rv at rv;obtain⟨p,xs,rfl,r2,r3⟩:=rv;refine⟨p,xs,U,z3.sm.seq (t3.seq r2),λl hl=>?_⟩;obtain⟨a1,a2⟩:=aAs (o:=.lst (SM xs lo hi)) z3 hl;exact k _ _ _ (s1.trans (s2.trans (s3.trans (cP hl _)))) (t1.trans (t3.trans a1)) a2 (by unfold Rv;exact⟨l,_,U,pQ.of cD,a1.bj _ _ (t3.bj _ _ (dg lo hi r3))⟩)⟩
theorem HN(h:XR K X e t f)(hl:XO K X lo tl fl)(hu:XO K X hi th fh):XN K X (.Subscript e (.Slice lo hi none p2) pos) (tSl (aCI K) t tl th) (qw NG f fl fh):=⟨h.hk,FJ (dh h.hk) h.pe hl.po hu.po,λσ H e d Q re q k=>by
 obtain⟨ds,lo,hi,q1,q2,q3,qi,rfl⟩:=HJ q;refine h.ev σ H H e _ _ (Zn.self K H) re q1 λv H1 Z1 s1 t1 z1 rv=>hl.ev σ H1 e lo _ (re.same s1) q2 λH2 s2=>hu.ev σ H2 e hi _ (re.same (s1.trans s2)) q3 λH3 s3=>?_;have rv3:=(z1.sm.trans (s2.trans s3)).rv _ _ rv;unfold Rv at rv3;obtain⟨p,xs,rfl,r2,r3⟩:=rv3;refine⟨p,xs,U,r2,λl hl=>?_⟩;have Xy:=s1.trans (s2.trans s3);exact k _ _ (Xy.trans (cP hl _)) (rH Xy (.eU (qi.resolve_left (by decide)) (dg lo hi r3)) hl)⟩
def aAD(K:aF):R2:=λx y H Q=>∃l b xs zs,x=.ref l∧y=.ref b∧pQ K H l xs∧pQ K H b zs∧xs.length+zs.length≤sizeLine∧∀p,H p=none→Q (.ref p) (upd H p (.lst (xs++zs)))
theorem aDc(hk:X.K=K):uM X (DI .Add) (aAD K):=by
 subst hk;intro pins s σ H x y v u Q I rx ry h;obtain⟨l,b,xs,zs,rfl,rfl,h1,h2,hz,q⟩:=h;cases rx;cases ry;obtain⟨its,r,pl,_⟩:=I.list h1;obtain⟨its2,r2,GF,_⟩:=I.list h2;obtain⟨⟨cl,dd,da,sl⟩,ho,hc,n,hd⟩:=pl.isList;obtain⟨⟨cl2,dd2,da2,sl2⟩,ho2,hc2,n2,hd2⟩:=GF.isList;dsimp only at hc hd hc2 hd2;subst hc hd hc2 hd2;have hlen:its.toArray.size+its2.toArray.size≤sizeLine:=by rw[D3,D3,←r.length,←r2.length];exact hz
 have ea:its.toArray++its2.toArray=(its++its2).toArray:=by simp
 refine concat_meets ⟨_,ho,U⟩ ⟨_,ho2,U⟩ noFill_list_add seq_list_add PySem.F.slot_list_add PySem.F.entry_list_add (PySem.F.args_list_add_2 _ _)
  (list_addW l b its.toArray its2.toArray n n2 dd dd2 sl sl2 hlen) ⟨ho,ho2,?_⟩
 rw[ea];exact⟨.ref _,_,I.aHK (t':=s.toks) (r.append r2) (by rw[C7];exact hz),U,q _ I.fresh⟩
def dD(a b:D):Option D:=match a,b with
 | .int i,.int j=>ND (.int (i+j))
 | .lst x,.lst y=>if D.eU (x++y)=NG∧x.length+y.length≤100000 then ND (.lst (x++y))else none
 | _,_=>none
theorem dF.append{H:Hp}:∀{ds es:List D} {xs ys:List V},dF K H ds xs→dF K H es ys→dF K H (ds++es) (xs++ys)
 | [],es,xs,ys,h,h'=>by unfold dF at h;subst h;exact h'
 | d::ds,es,xs,ys,h,h'=>by unfold dF at h;obtain⟨y,yt,rfl,h1,h2⟩:=h;rw[Q1,Q1];unfold dF;exact⟨y,_,U,h1,dF.append h2 h'⟩
theorem aDd:RB K (λx y H Q=>lq (λi j=>.int (i+j)) x y H Q∨aAD K x y H Q) dD:=λx y H a b d Q ra rb q k=>by
 unfold dD at q;split at q
 ·cases q;unfold Rv at ra rb;exact .inl ⟨_,_,ra,rb,k _ H (aU.refl _) (.jF U (by unfold Rv;rfl))⟩
 ·split at q
  ·rename_i c;cases q;unfold Rv at ra rb;obtain⟨p,xs,rfl,r2,r3⟩:=ra;obtain⟨p',xs',rfl,r2',r3'⟩:=rb;refine .inr ⟨p,p',xs,xs',U,U,r2,r2',Uo (by rw[r3.length,r3'.length];exact c.2),λl hl=>?_⟩;exact k _ _ (cP hl _) (rH (aU.refl _) (.eU c.1 (r3.append r3')) hl)
  ·cases q
 ·cases q
theorem cB(ha:XR K X a ta f)(hb:XR K X b tb g):XN K X (.BinOp a .Add b pos) (DR (λx y H Q=>lq (λi j=>.int (i+j)) x y H Q∨aAD K x y H Q) ta tb) (f2 dD f g):=Uq (aFm.or (aDc ha.hk)) aDd ha hb
def EvI(K:aF)(wi:TI)(fi:FA):Prop:=∀{N:Fp}(σ:St)(H Z:Hp)(e:DE)(ds:List D)(R:It→Hp→Prop),Zn K N Z H→yL K Z e σ→fi e=ND ds →
 (∀J H' Z' P vs,aU H H'→aU Z Z'→Zn K N Z' H'→JIs J P vs→(∀H2,aU Z' H2→P H2)→dF K Z' ds vs→R J H')→wi σ H R
structure XI(K:aF)(X:Cx)(tg iter:AD)(wi:TI)(fi:FA):Prop where
 hk:X.K=K
 pi:PI X tg iter wi
 ev:EvI K wi fi
def oK(f:FE):FA:=λe=>(f e).bind yG
def aF5(K:aF)(t:TE):TI:=λσ H R=>aEd K t σ H R∨aHx K t σ H R
theorem oM{tg:AD}(h:XR K X e t f):XI K X tg e (aF5 K t) (oK f):=⟨h.hk,by
 have hk:=h.hk;subst hk;exact λpins s σ H R I q=>q.elim (ZW h.pe pins s σ H R I) (yq h.pe pins s σ H R I),λσ H Z e ds R z re q k=>by
 unfold oK at q;obtain⟨d,q1,q2⟩:=aX q;cases d with
 | lst es=>
  unfold yG at q2;cases q2;refine .inl (h.ev σ H Z e _ _ z re q1 λv H1 Z1 s1 t1 z1 rv=>?_);unfold Rv at rv;obtain⟨p,xs,rfl,r2,r3⟩:=rv;exact⟨p,U,⟨xs,z1.sm.seq r2⟩,k _ H1 Z1 _ xs s1 t1 z1 GC (λH2 s=>s.seq r2) r3⟩
 | tup es=>
  unfold yG at q2;cases q2;refine .inr (h.ev σ H Z e _ _ z re q1 λv H1 Z1 s1 t1 z1 rv=>?_);unfold Rv at rv;obtain⟨p,xs,rfl,r2,r3⟩:=rv;exact⟨p,U,⟨xs,z1.sm.tup r2⟩,k _ H1 Z1 _ xs s1 t1 z1 aCW (λH2 s=>s.tup r2) r3⟩
 | _=>unfold yG at q2;cases q2⟩
def iJ(lo:Int)(n:Nat):List D:=(D2 n).map λi:Nat=>D.int (lo+(i:Int))
theorem Ig{H:Hp}(lo:Int)(n:Nat):dF K H (iJ lo n) ((D2 n).map λi:Nat=>V.int (lo+(i:Int))):=by
 unfold iJ;refine dF.of (by simp) λi d x h1 h2=>?_;rw[C4]at h1 h2;cases q:(D2 n)[i]? with
 | none=>rw[q]at h1;cases h1
 | some j=>rw[q]at h1 h2;cases h1;cases h2;unfold Rv;rfl
def lim(i:Int):Bool:=decide (-100000≤i∧i≤100000)
def rC(fs:FA):FA:=λe=>(fs e).bind λds=>match ds with
 | [.int n]=>if lim n=NG then ND (iJ 0 n.toNat)else none
 | _=>none
def HQ(fs:FA):FA:=λe=>(fs e).bind λds=>match ds with
 | [.int i,.int j]=>if lim i=NG∧lim j=NG then ND (iJ i (j-i).toNat)else none
 | _=>none
theorem Xz{i:Int}(h:lim i=NG):-100000≤i∧i≤100000:=of_decide_eq_true h
theorem Ih{tg:AD}{p:Pos}(hg:Gl X "range") (hm:X.mg "range" = none) (ha:XA K X [a] tA fs) (hs:AB [a] X.env=[(NH,AO a X.env)]:=by rfl):XI K X tg (.Call (.Name "range" p) [a] [] pos) (yr tA) (rC fs):=⟨ha.hk,Tw hg hm ha.pa hs,λσ H Z e ds R z re q k=>by
 unfold rC at q;obtain⟨es,q1,q2⟩:=aX q;split at q2
 ·rename_i n;split at q2
  ·rename_i hl;cases q2;have hl:=Xz hl;refine ha.ev σ H Z e _ _ z re q1 λvs H1 Z1 s1 t1 z1 rs=>?_;obtain⟨v,rfl,r⟩:=sU rs;unfold Rv at r;subst r;exact⟨n,U,by omega,by omega,k _ H1 Z1 _ _ s1 t1 z1 Hz (λ_ _=>True.intro) (Ig 0 n.toNat)⟩
  ·cases q2
 ·cases q2⟩
def rF(e:DE)(fr:List Nat):DE:=fr.map λi=>(e[i]?).getD none
theorem aDe{H:Hp}{e:DE}{σ:St}{fr:List Nat}{d:D}{x:V}(re:yL K H e σ)(r:Rv K H d x):yL K H (ND d::rF e fr) (ND x::TJ σ fr):=λi d' h=>by
 cases i with
 | zero=>simp at h;subst h;exact⟨x,rfl,r⟩
 | succ i=>
  rw[Z6]at h ⊢;unfold rF at h;unfold TJ;rw[C4]at h ⊢;cases q:fr[i]? with
  | none=>rw[q]at h;cases h
  | some j=>
   rw[q]at h;have h:(e[j]?).getD none=ND d':=F1 h;have h2:e[j]?=ND (ND d'):=by
    cases q2:e[j]? with
    | none=>rw[q2]at h;cases h
    | some o=>rw[q2]at h;rw[show o=ND d' from h]
   obtain⟨v,h3,h4⟩:=re j d' h2;refine⟨v,?_,h4⟩;show ND (σ.getD j none)=_;rw[B8,h3];rfl
def oO(c:D→Option Bool)(el:D→Option D):List D→Option (List D)
 | []=>ND []
 | x::xs=>(c x).bind λb=>if b=NG then(el x).bind λy=>(oO c el xs).map (y::·)else oO c el xs
def jG(fi:FA)(fr:List Nat)(fc:FT)(fe:FE):FE:=λe=>(fi e).bind λxs=>if xs.length≤100000 then(oO (λx=>fc (ND x::rF e fr)) (λx=>fe (ND x::rF e fr)) xs).map D.lst else none
theorem uP{H:Hp}{p:A7}{o:HO}(n:xT H p):Dh K H (upd H p o):=λa xs h=>h.upd n
theorem di{wi:TI}{fi:FA}{fr:List Nat}{te:TE}{fe:FE}(hi:EvI K wi fi)(hc:UJ K tc fc)(he:Nu K te fe):Nu K (FW wi 1 fr (jR 0) tc te) (jG fi fr fc fe):=by
 intro σ H e d Q re q k;unfold jG at q;obtain⟨xs,q1,q⟩:=aX q;split at q
 ·rename_i hlen;obtain⟨ds,q2,rfl⟩:=lJ q;refine hi σ H H e xs _ (Zn.self K H) re q1 λJ H1 Z1 P vs s1 t1 z1 hJ hP rvs=>?_;intro D0 hD;have hl:=rvs.length;have hHD:H D0=none:=s1.free hD;generalize hcc:(λx=>fc (ND x::rF e fr))=cc at q2;generalize hel:(λx=>fe (ND x::rF e fr))=el at q2;refine⟨λi m ys H2=>∃ds1 ds2 A,m=vs.length-i∧i≤vs.length∧ds=ds1++ds2∧oO cc el (xs.drop i)=ND ds2∧aU H1 H2∧H2 D0=ND (.lst ys)∧dU K H2 ds1 A ys∧(∀a,A a→H1 a=none∧a≠D0)∧ys.length≤i,
   ⟨vs.length,[],ds,nil,by simp,M3 _,U,by simpa using q2,cP hD _,cD,by unfold dU;exact⟨λ_ z=>z,U⟩,λ_ z=>z.elim,D1 _⟩,?_⟩
  rintro i m ys H2 ⟨ds1,ds2,A,rfl,hi',hds,hcl,s2,hD2,ow,fr2,hyl⟩;obtain⟨j1,j2,j3⟩:=hJ i H2 (hP H2 (z1.sm.trans s2));refine⟨hD2,?_⟩;by_cases hlt:i<vs.length
  ·refine .inr ⟨j1 hlt,λx H' y=>?_⟩;obtain⟨e1,ex⟩:=j2 x H' y;subst e1;have hx:=ex hlt;have hxi:i<xs.length:=by omega
   have hxs:xs.drop i=xs[i]::xs.drop (i+1):=O0 hxi;obtain⟨x',hx',rx⟩:=rvs.get (B6 hxi);rw[hx]at hx';cases hx';rw[hxs]at hcl;unfold oO at hcl;obtain⟨bb,c1,c2⟩:=aX hcl;show Kp 1 σ fr (ND x::TJ σ fr)∧_;refine⟨⟨by simp[blk],λj v hv=>?_⟩,?_⟩
   ·cases j with
    | zero=>simp[blk]at hv
    | succ j=>simpa[blk]using hv
   have re2:yL K H' (ND xs[i]::rF e fr) (ND x::TJ σ fr):=aDe (re.same (s1.trans s2)) ((z1.sm.trans s2).rv _ _ rx);refine hc _ H' _ bb _ re2 (by rw[←hcc]at c1;exact c1) λH3 s3=>?_;have hD3:=s3 _ _ hD2;cases bb with
   | false=>rw[if_neg (by decide)]at c2 ⊢;exact⟨vs.length-(i+1),by omega,ds1,ds2,A,U,by omega,hds,c2,s2.trans s3,hD3,ow.same s3,fr2,by omega⟩
   | true=>
    rw[if_pos rfl]at c2 ⊢;obtain⟨dy,c3,c4⟩:=aX c2;obtain⟨ds3,c5,rfl⟩:=lJ c4;refine he _ H3 _ dy _ (re2.same s3) (by rw[←hel]at c3;exact c3) λyv H4 s4 n4=>?_;have hD4:=s4 _ _ hD3;refine⟨hD4,Ny (by omega),vs.length-(i+1),by omega,ds1++[dy],ds3,?_⟩;obtain⟨B,oB,fB⟩:=n4;have hB:∀a,B a→H1 a=none∧a≠D0:=λa qa=>⟨(s2.trans s3).free (fB a qa),λz=>by have q0:=fB a qa;rw[z,hD3]at q0;cases q0⟩
    refine⟨fH A B,U,by omega,by rw[hds];simp,c5,λb o eb=>?_,cD,?_,λa qa=>qa.elim (fr2 a) (hB a),by rw[C7];simp;exact hyl⟩
    ·rw[bN (gR eb hD)];exact(s2.trans (s3.trans s4)) b o eb
    ·have o4:=(ow.same s3).same s4;have ap:Apart A B:=λa qa qb=>by obtain⟨⟨u,eu⟩,_⟩:=dU.cells _ _ _ (ow.same s3) a qa;rw[fB a qb]at eu;cases eu
     have all:dU K H4 (ds1++[dy]) (fH A B) (ys++[yv]):=cO.mpr ((cO.mp o4).snoc oB ap);exact dU.frame (uP (vH hD4)) _ _ _ all λa qa=>bN (qa.elim (λz=>(fr2 a z).2) λz=>(hB a z).2)
  ·have ei:i=vs.length:=by omega
   subst ei;have:xs.drop vs.length=[]:=List.drop_eq_nil_of_le (by omega);rw[this]at hcl;unfold oO at hcl;cases hcl;rw[F2]at hds;subst hds;refine .inl ⟨j3 (D1 _),k _ H2 (s1.trans s2) ⟨fH (·=D0) A,?_,λa qa=>qa.elim (λz=>by cases z;exact hHD) λz=>s1.free (fr2 a z).1⟩⟩;unfold Ow;exact⟨D0,ys,A,U,hD2,λz=>(fr2 D0 z).2 U,λ_=>Iff.rfl,ow⟩
 ·cases q
def nY:FT:=λ_=>ND NG
structure XTs(K:aF)(X:Cx)(ifs:List AD)(t:TT)(f:FT):Prop where
 pts:PTs X ifs t
 ev:UJ K t f
theorem rK:XTs K X [] aHP nY:=⟨aCQ,λσ H e b Q re q k=>by cases q;exact k H (aU.refl _)⟩
theorem Ma(h:XT K X c tc fc):XTs K X [c] tc fc:=⟨aCR h.pt,h.ev⟩
theorem oR{tg elt iter:AD}{ifs:List AD}{scope:BD}{wi:TI}{fi:FA}{te:TE}{fe:FE}(N:List Str)(fr:List Nat)(hcalm:X.calm=NG)(B:kI X.env.scope scope X.N N 1 fr)(hi:XI K X tg iter wi fi)
  (hg:∀cl fp s H C,PG (lD X scope N cl fp s H C) tg (jR 0)) (hc:∀cl fp s H C,XTs K (lD X scope N cl fp s H C) ifs tc fc) (he:∀cl fp s H C,XN K (lD X scope N cl fp s H C) elt te fe)
  (hs:∀x,B3 iter X.env x=pure x:=by intro _;rfl):XN K X (.ListComp elt [⟨tg,iter,ifs,0⟩] scope pos) (FW wi 1 fr (jR 0) tc te) (jG fi fr fc fe):=
 ⟨hi.hk,aCU N 1 fr hcalm B hi.pi hg (λcl fp s H C=>(hc cl fp s H C).pts) (λcl fp s H C=>(he cl fp s H C).pe) hs,
  di hi.ev (hc [] [] X.s₀ X.H₀ 0).ev (he [] [] X.s₀ X.H₀ 0).ev⟩
def jA(K:aF)(n:Nat)(F:List D→Option D):Sp:=λvs H Q _=>∃ds d,ds.length=n∧dF K H ds vs∧F ds=ND d∧∀v H',aU H H'→Nr K H H' d v→Q v H'
def dW(n:Nat)(F:List D→Option D)(fs:FA):FE:=λe=>(fs e).bind λds=>if ds.length=n then F ds else none
theorem dH{x:Str}{k n:Nat}{F:List D→Option D}{p:Pos}(C:sJ X.prog X.w X.K X.mg X.base x k n (jA K n F))(hr:jK k X.A)(hg:Gl X x)(ha:XA K X (e::es) tA fs)(hdb:(x==("__debug__" : Str))=NH:=by decide)
  (he:AB (e::es) X.env=(NH,AO e X.env)::AB es X.env:=by rfl) (hpl:(AZ pos (AB es X.env)).any (·.1)=NH:=by rfl):XN K X (.Call (.Name x p) (e::es) [] pos) (Ua (jA K n F) [] E0 tA) (dW n F fs):=
 ⟨ha.hk,aAo C hr hg ha.pa hdb he hpl,λσ H e d Q re q k=>by
  unfold dW at q;obtain⟨ds,q1,q2⟩:=aX q;split at q2
  ·rename_i hl;refine call_of (ha.ev σ H H e ds _ (Zn.self K H) re q1 λvs H1 Z1 s1 t1 z1 rs=>?_);exact⟨ds,d,hl,z1.sm.bj _ _ rs,q2,λv H2 s2 n=>k v H2 (s1.trans s2) (n.back s1)⟩
  ·cases q2⟩
end
end L2


namespace L2
open PySem PySem.Spec PyProof.Rows
inductive SD where
  | no | fro (d:D) | own (d:D) | inn (v:V) (d:D)
def SD.z:SD→Option D
 | .fro d=>ND d
 | .own d=>if d.jF=NG then ND d else none
 | .inn _ d=>if d.jF=NG then ND d else none
 | .no=>none
def SD.r:SD→Option D
 | .fro d=>ND d
 | .own d=>ND d
 | .inn _ d=>ND d
 | .no=>none
abbrev EN:=List SD
def zE(env:EN):DE:=env.map SD.z
def rE(env:EN):DE:=env.map SD.r
def fP(K:aF)(H Z:Hp):SD→Fp→Option V→Prop
 | .no,A,_=>None A
 | .fro d,A,y=>None A∧∃v,y=ND v∧Rv K Z d v
 | .own d,A,y=>∃v,y=ND v∧Ow K H d A v
 | .inn v d,A,y=>y=ND v∧Ow K H d A v
def Rel(K:aF)(B:Hp)(env:EN)(σ:St)(H:Hp):Prop:=∃A,eN (fP K H (out H A)) env A σ∧aU B (out H A)
section
variable{K:aF}{B B' H H' Z Z':Hp}{env:EN}{σ:St}{A:Fp}
theorem eN.all{α β:Type}{R:α→Fp→β→Prop}{Pr:A7→Prop}:∀{ds:List α} {A:Fp} {ys:List β},eN R ds A ys→(∀d B y,R d B y→∀a,B a→Pr a)→∀a,A a→Pr a
 | [],A,ys,h,_,a,q=>absurd q (h.1 a)
 | d::ds,A,ys,⟨y,yt,A1,A2,h1,h2,h3,h4,h5⟩,m,a,q=>((h3 a).mp q).elim (m _ _ _ h4 a) (eN.all h5 m a)
theorem fP.cells{s:SD}{y:Option V}(h:fP K H Z s A y):∀a,A a→mR H a:=by
 cases s with
 | no=>exact λa q=>absurd q (h a)
 | fro d=>exact λa q=>absurd q (h.1 a)
 | own d=>obtain⟨v,_,o⟩:=h;exact Ow.cells d A v o
 | inn v d=>exact Ow.cells d A v h.2
theorem jN(h:eN (fP K H Z) env A σ):∀a,A a→mR H a:=eN.all h λ_ _ _ q=>q.cells
theorem Rel.len(h:Rel K B env σ H):σ.length=env.length:=let ⟨_,s,_⟩:=h;s.len
theorem Rel.mono(h:Rel K B' env σ H)(s:aU B B'):Rel K B env σ H:=let ⟨A,a,b⟩:=h;⟨A,a,s.trans b⟩
theorem bU{A A':Fp}(s:aU H H')(h:∀a,A' a→A a∨H a=none):aU (out H A) (out H' A'):=λb o e=>by
 obtain⟨e1,e2⟩:=bB.mp e;refine bB.mpr ⟨λq=>?_,s b o e2⟩;rcases h b q with q | q
 ·exact e1 q
 ·rw[q]at e2;cases e2
theorem fP.same{s:SD}{y:Option V}(h:fP K H Z s A y)(e:aU H H')(z:aU Z Z'):fP K H' Z' s A y:=by
 cases s with
 | no=>exact h
 | fro d=>obtain⟨h1,v,h2,h3⟩:=h;exact⟨h1,v,h2,z.rv _ _ h3⟩
 | own d=>obtain⟨v,h1,h2⟩:=h;exact⟨v,h1,h2.same e⟩
 | inn v d=>exact⟨h.1,h.2.same e⟩
theorem Rel.same(h:Rel K B env σ H)(s:aU H H'):Rel K B env σ H':=by obtain⟨A,a,b⟩:=h;have g:aU (out H A) (out H' A):=bU s λa q=>.inl q;exact⟨A,a.mono λe C z _ q=>q.same s g,b.trans g⟩
theorem Ii(h:eN (fP K H (out H A)) env A σ):Zn K A (out H A) H:=⟨jL H A,Nq λa q=>(jN h a q).2,λa q=>⟨by
 unfold out;rw[if_pos q],λz=>by obtain⟨⟨o,e⟩,_⟩:=jN h a q;rw[z]at e;cases e⟩⟩
theorem Rel.r(h:Rel K B env σ H):yL K H (rE env) σ:=λi d q=>by
 obtain⟨A,a,b⟩:=h;unfold rE at q;rw[C4]at q;cases e:env[i]? with
 | none=>rw[e]at q;cases q
 | some s=>
  rw[e]at q;obtain⟨y,A1,C,h1,h2,h3,h4,_⟩:=a.focus e;cases s with
  | no=>cases q
  | fro d0=>cases q;obtain⟨_,v,rfl,h5⟩:=h4;exact⟨v,h1,(jL H A).rv _ _ h5⟩
  | own d0=>cases q;obtain⟨v,rfl,h5⟩:=h4;exact⟨v,h1,Ow.rv _ _ _ h5⟩
  | inn v d0=>cases q;obtain⟨rfl,h5⟩:=h4;exact⟨v,h1,Ow.rv _ _ _ h5⟩
theorem aEx(a:eN (fP K H (out H A)) env A σ):yL K (out H A) (zE env) σ:=λi d q=>by
 unfold zE at q;rw[C4]at q;cases e:env[i]? with
 | none=>rw[e]at q;cases q
 | some s=>
  rw[e]at q;obtain⟨y,A1,C,h1,h2,h3,h4,_⟩:=a.focus e;cases s with
  | no=>cases q
  | fro d0=>cases q;obtain⟨_,v,rfl,h5⟩:=h4;exact⟨v,h1,h5⟩
  | own d0=>
   obtain⟨v,rfl,h5⟩:=h4;have q:(if d0.jF=NG then ND d0 else none)=ND d:=F1 q;split at q
   ·rename_i im;cases q;exact⟨v,h1,(yW _ v im (Ow.rv _ _ _ h5)).out (λ_ z=>z.elim) λx hx=>(jN a x hx).2⟩
   ·cases q
  | inn v d0=>
   obtain⟨rfl,h5⟩:=h4;have q:(if d0.jF=NG then ND d0 else none)=ND d:=F1 q;split at q
   ·rename_i im;cases q;exact⟨v,h1,(yW _ v im (Ow.rv _ _ _ h5)).out (λ_ z=>z.elim) λx hx=>(jN a x hx).2⟩
   ·cases q
theorem Rel.own{i:Nat}{d:D}{v:V}(h:Rel K B env σ H)(hi:i<env.length)(s:aU H H')(n:Nr K H H' d v):Rel K B (env.set i (.own d)) (σ.set i (ND v)) H':=by obtain⟨A,a,b⟩:=h;obtain⟨N,o,f⟩:=n;have cl:=jN a;obtain⟨y,A1,C,h1,h2,h3,h4,k⟩:=a.focus (B6 hi);have g:aU (out H A) (out H' (fH N C)):=bU s λx q=>q.elim (λq=>.inr (f x q)) λq=>.inl ((h3 x).mpr (.inr q));refine⟨fH N C,k (fP K H' (out H' (fH N C))) (λe D z _ q=>q.same s g) (.own d) (ND v) N (λx q c=>?_) ⟨v,U,o⟩,b.trans g⟩;obtain⟨⟨u,e⟩,_⟩:=cl x ((h3 x).mpr (.inr c));rw[f x q]at e;cases e
theorem Mf{i:Nat}{d:D}{v:V}(a:eN (fP K H (out H A)) env A σ)(b:aU B (out H A))(hi:i<env.length)(s:aU H H')(t:aU (out H A) Z')(z:Zn K A Z' H')(r:Rv K Z' d v):Rel K B (env.set i (.fro d)) (σ.set i (ND v)) H':=by obtain⟨y,A1,C,h1,h2,h3,h4,k⟩:=a.focus (B6 hi);have hC:∀x,fH nil C x→A x:=λx q=>q.elim False.elim λq=>(h3 x).mpr (.inr q);have g:aU (out H A) (out H' (fH nil C)):=bU s λx q=>.inl (hC x q);have g2:aU Z' (out H' (fH nil C)):=λx o e=>bB.mpr ⟨λq=>(by rw[(z.no x (hC x q)).1]at e;cases e),z.sm x o e⟩;exact⟨fH nil C,k (fP K H' (out H' (fH nil C))) (λe D z _ q=>q.same s g) (.fro d) (ND v) nil (λx q c=>q) ⟨λ_ z=>z,v,U,g2.rv _ _ r⟩,b.trans g⟩
def aAE(env:EN)(j:Nat):EN:=match env[j]? with
 | some (.own d)=>env.set j (.fro d)
 | _=>env
def yM(js:List Nat)(env:EN):EN:=js.foldl aAE env
theorem set_same{α:Type}{l:List α}{i:Nat}{x:α}(h:l[i]?=ND x):l.set i x=l:=by
 apply K5;intro j;rw[G4];by_cases c:i=j
 ·subst c;rw[if_pos U,h];split
  ·rfl
  ·rename_i q;rw[E1 (by omega)]at h;cases h
 ·rw[if_neg c]
theorem Rel.aAE{j:Nat}(h:Rel K B env σ H):Rel K B (aAE env j) σ H:=by
 unfold L2.aAE;cases e:env[j]? with
 | none=>exact h
 | some s=>
  cases s with
  | no=>exact h
  | fro d=>exact h
  | inn v d=>exact h
  | own d=>
   obtain⟨A,a,b⟩:=h;have cl:=jN a;obtain⟨y,A1,C,h1,h2,h3,h4,k⟩:=a.focus e;obtain⟨v,rfl,o⟩:=h4;have g:aU (out H A) (out H (fH nil C)):=bU (aU.refl _) λx q=>q.elim False.elim λq=>.inl ((h3 x).mpr (.inr q));have:=k (fP K H (out H (fH nil C))) (λe D z _ q=>q.same (aU.refl _) g) (.fro d) (ND v) nil (λx q c=>q)
    ⟨λ_ z=>z,v,U,o.out (λx q c=>h2 x q (c.elim False.elim id)) λx q=>(cl x ((h3 x).mpr (.inr (q.elim False.elim id)))).2⟩
   rw[set_same h1]at this;exact⟨fH nil C,this,b.trans g⟩
theorem Rel.yM{js:List Nat}(h:Rel K B env σ H):Rel K B (yM js env) σ H:=by
 unfold L2.yM
 induction js generalizing env with
 | nil=>exact h
 | cons j js ih=>exact ih h.aAE
end
inductive SR where
  | next (env:EN) | ret (d:D) | brk (env:EN) | cont (env:EN) | bad | rete (d:D) (env:EN)
def Lb(K:aF)(B:Hp)(E:Ends):SR→Prop
 | .next env=>∀σ H,Rel K B env σ H→E.nx σ H
 | .ret d=>∀v H A,aU B (out H A)→Ow K H d A v→E.rt v H
 | .brk env=>∀σ H,Rel K B env σ H→E.bk σ H
 | .cont env=>∀σ H,Rel K B env σ H→E.ct σ H
 | .bad=>False
 | .rete d env=>∀v σ H,Rel K B (env++[.own d]) (σ++[ND v]) H→E.rt v H
theorem Lb.mono{K:aF}{B B':Hp}{E:Ends}{r:SR}(h:Lb K B E r)(s:aU B B'):Lb K B' E r:=by
 cases r with
 | next env=>exact λσ H q=>h σ H (q.mono s)
 | ret d=>exact λv H A q=>h v H A (s.trans q)
 | brk env=>exact λσ H q=>h σ H (q.mono s)
 | cont env=>exact λσ H q=>h σ H (q.mono s)
 | bad=>exact h
 | rete d env=>exact λv σ H q=>h v σ H (q.mono s)
abbrev GS:=EN→SR
def DS(K:aF)(t:TS)(g:GS):Prop:=∀(B:Hp)(E:Ends)(σ:St)(H:Hp)(env:EN),Rel K B env σ H→Lb K B E (g env)→t E σ H
def aHX(K:aF)(B:Hp)(E:Ends)(σ:St):SR→Prop
 | .next env=>∀H,Rel K B env σ H→E.nx σ H
 | r=>Lb K B E r
def qy(K:aF)(t:TS)(g:GS):Prop:=∀(B:Hp)(E:Ends)(σ:St)(H:Hp)(env:EN),Rel K B env σ H→aHX K B E σ (g env)→t E σ H
theorem qy.ds{K:aF}{t:TS}{g:GS}(h:qy K t g):DS K t g:=λB E σ H env r p=>h B E σ H env r (by
 cases q:g env with
 | next e=>rw[q]at p;exact λH' r'=>p σ H' r'
 | ret d=>rw[q]at p;exact p
 | brk e=>rw[q]at p;exact p
 | cont e=>rw[q]at p;exact p
 | bad=>rw[q]at p;exact p
 | rete d e=>rw[q]at p;exact p)
structure YS(K:aF)(X:Cx)(st:AH)(t:TS)(g:GS):Prop where
 ps:PS X st t
 ev:DS K t g
structure YB(K:aF)(X:Cx)(st:List AH)(t:TS)(g:GS):Prop where
 ps:DN X st t
 ev:DS K t g
section
variable{K:aF}{X:Cx}{st:AH}{sts:List AH}{t u:TS}{g g1 g2:GS}{e a b c:AD}{te ta tb:TE}{f fa fb:FE}{tc:TT}{fc:FT}{pos:Pos}
def aW(g1 g2:GS):GS:=λenv=>match g1 env with
 | .next env'=>g2 env'
 | r=>r
theorem aF6(h1:DS K t g1)(h2:DS K u g2):DS K (aFh t u) (aW g1 g2):=λB E σ H env r p=>by
 unfold aW at p;refine h1 B {E with nx:=u E} σ H env r ?_;cases q:g1 env with
 | next env'=>rw[q]at p;exact λσ' H' r'=>h2 B E σ' H' env' r' p
 | ret d=>rw[q]at p;exact p
 | brk d=>rw[q]at p;exact p
 | cont d=>rw[q]at p;exact p
 | bad=>rw[q]at p;exact p
 | rete d e=>rw[q]at p;exact p
def fX:GS:=λenv=>.next env
theorem gW:YB K X [] aEa fX:=⟨aCt,λB E σ H env r p=>p σ H r⟩
theorem aV(h:YS K X st t g):YB K X [st] t g:=⟨aCu h.ps,h.ev⟩
theorem aN(h:YS K X st t g1)(h2:YB K X sts u g2):YB K X (st::sts) (aFh t u) (aW g1 g2):=⟨yg h.ps h2.ps,aF6 h.ev h2.ev⟩
def cV(i:Nat)(f:FE):GS:=λenv=>match f (rE env)with
 | some d=>if i<env.length then .next (env.set i (.own d))else .bad
 | none=>.bad
theorem aAF{i:Nat}(h:Nu K te f):DS K (wF te (jR i)) (cV i f):=λB E σ H env r p=>by
 unfold cV at p;split at p
 ·rename_i d q;split at p
  ·rename_i hi;exact h σ H (rE env) d _ r.r q λv H' s n=>p _ _ (r.own hi s n)
  ·exact p.elim
 ·exact p.elim
theorem bL{i:Nat}{x:Str}{pos':Pos}(h:XN K X e te f)(hp:PE X e te→PS X (.Assign [.Name x pos'] e pos) (wF te (jR i))):YS K X (.Assign [.Name x pos'] e pos) (wF te (jR i)) (cV i f):=⟨hp h.pe,aAF h.ev⟩
def gB(f:FE):GS:=λenv=>match f (rE env)with
 | some d=>.ret d
 | none=>.bad
theorem cG(h:XN K X e te f):YS K X (.Return (ND e) pos) (yh te) (gB f):=⟨Wt h.pe,λB E σ H env r p=>by
 unfold gB at p;split at p
 ·rename_i d q;refine h.ev σ H (rE env) d _ r.r q λv H' s ⟨N,o,fr⟩=>p v H' N (λx u ex=>?_) o;obtain⟨A,a,b⟩:=r;have h1:=(bB.mp (b x u ex)).2;exact bB.mpr ⟨λz=>(by rw[fr x z]at h1;cases h1),s x u h1⟩
 ·exact p.elim⟩
def Kd(i:Nat):GS:=λenv=>match env[i]? with
 | some (.own d)=>.ret d
 | some (.fro d)=>if d.jF=NG then .ret d else .bad
 | _=>.bad
theorem Yb{i:Nat}(h:PE X e (pH i)):YS K X (.Return (ND e) pos) (yh (pH i)) (Kd i):=⟨Wt h,λB E σ H env r p=>by
 unfold Kd at p;obtain⟨A,a,b⟩:=r;split at p
 ·rename_i d q;obtain⟨y,A1,C,h1,h2,h3,h4,_⟩:=a.focus q;obtain⟨v,rfl,o⟩:=h4;exact⟨v,h1,p v H A1 (b.trans (bU (aU.refl _) λx z=>.inl ((h3 x).mpr (.inl z)))) o⟩
 ·rename_i d q;split at p
  ·rename_i im;obtain⟨y,A1,C,h1,h2,h3,h4,_⟩:=a.focus q;obtain⟨_,v,rfl,rv⟩:=h4;exact⟨v,h1,p v H nil (b.trans (bU (aU.refl _) λx z=>z.elim)) (yW d v im ((jL H A).rv _ _ rv))⟩
  ·exact p.elim
 ·exact p.elim⟩
def xV(f:FE):GS:=λenv=>match f (rE env)with
 | some _=>.next env
 | none=>.bad
theorem aDf(h:Ka K te f):DS K (kE te) (xV f):=λB E σ H env r p=>by
 unfold xV at p;split at p
 ·rename_i d q;exact h σ H H (rE env) d _ (Zn.self K H) r.r q λv H' Z' s t z rv=>p _ _ (r.same s)
 ·exact p.elim
def qP(f:FT)(g1 g2:GS):GS:=λenv=>match f (rE env)with
 | some NG=>g1 env
 | some NH=>g2 env
 | none=>.bad
theorem jH{s1 s2:List AH}(hc:XT K X c tc fc)(h1:YB K X s1 t g1)(h2:YB K X s2 u g2):YS K X (.If c s1 s2 pos) (aHr tc t u) (qP fc g1 g2):=⟨aHs hc.pt h1.ps h2.ps,λB E σ H env r p=>by
 unfold qP at p;split at p
 ·rename_i q;refine hc.ev σ H (rE env) NG _ r.r q λH' s=>?_;rw[if_pos rfl];exact h1.ev B E σ H' env (r.same s) p
 ·rename_i q;refine hc.ev σ H (rE env) NH _ r.r q λH' s=>?_;rw[if_neg (by decide)];exact h2.ev B E σ H' env (r.same s) p
 ·exact p.elim⟩
def By(i:Nat)(g:GS):List D→EN→SR
 | [],env=>.next env
 | x::xs,env=>if i<env.length then match g (env.set i (.fro x))with
   | .next env'=>By i g xs env'
   | .cont env'=>By i g xs env'
   | .brk env'=>.next env'
   | r=>r
  else .bad
def Oe(js:List Nat)(i:Nat)(fi:FA)(g:GS):GS:=λenv=>match fi (zE (yM js env))with
 | some xs=>By i g xs (yM js env)
 | none=>.bad
theorem aF7{js:List Nat}{i:Nat}{wi:TI}{fi:FA}{tb:TS}(hi:EvI K wi fi)(h:DS K tb g):DS K (Wy wi (jR i) tb) (Oe js i fi g):=λB E σ H env r p=>by
 unfold Oe at p;have r':Rel K B (yM js env) σ H:=r.yM;generalize yM js env=Ca at r' p;split at p
 ·rename_i xs q;obtain⟨A,a,b⟩:=r';refine hi σ H (out H A) (zE Ca) xs _ (Ii a) (aEx a) q λJ H1 Z1 P vs s t z hJ hP rvs=>?_;have hl:=rvs.length;have g0:aU Z1 (out H1 A):=λx o e=>bB.mpr ⟨λqa=>(by rw[(z.no x qa).1]at e;cases e),z.sm x o e⟩;have aF8:Rel K Z1 Ca σ H1:=⟨A,a.mono λe D y _ qq=>qq.same s (bU s λx q=>.inl q),g0⟩
  have bz:aU B Z1:=b.trans t;have p':=p.mono bz;refine Ln hJ (λk σ2 H2=>∃cZ,Rel K Z1 cZ σ2 H2∧Lb K Z1 E (By i g (xs.drop k) cZ)) ⟨Ca,aF8,by simpa using p'⟩ (λk σ2 H2 _ ⟨cZ,⟨A2,a2,b2⟩,_⟩=>hP H2 (b2.trans (jL H2 A2))) ?_ ?_
  ·rintro k x σ2 H2 hx ⟨cZ,r2,p2⟩;have hk:k<xs.length:=by have:=D4.mp hx;obtain⟨h1,_⟩:=this;omega
   rw[O0 hk]at p2;unfold By at p2;obtain⟨x',hx',rx⟩:=rvs.get (B6 hk);rw[hx]at hx';cases hx';split at p2
   ·rename_i hlen;obtain⟨A2,a2,b2⟩:=r2;have r3:Rel K Z1 (cZ.set i (.fro xs[k])) (σ2.set i (ND x)) H2:=Mf a2 b2 hlen (aU.refl _) (aU.refl _) (Ii a2) (b2.rv _ _ rx);refine h Z1 _ _ H2 _ r3 ?_;split at p2
    ·rename_i env' q2;rw[q2];exact λσ' H' r'=>⟨env',r',p2⟩
    ·rename_i env' q2;rw[q2];exact λσ' H' r'=>⟨env',r',p2⟩
    ·rename_i env' q2;rw[q2];exact p2
    ·rename_i n1 n2 n3;cases q2:g (cZ.set i (.fro xs[k]))with
     | next e=>exact absurd q2 (n1 e)
     | cont e=>exact absurd q2 (n2 e)
     | brk e=>exact absurd q2 (n3 e)
     | ret d=>rw[q2]at p2;exact p2
     | bad=>rw[q2]at p2;exact p2
     | rete d e=>rw[q2]at p2;exact p2
   ·exact p2.elim
  ·rintro σ2 H2 ⟨cZ,r2,p2⟩;rw[hl,U5]at p2;exact p2 σ2 H2 r2
 ·exact p.elim
def qQ(c:FT)(g:GS):Nat→EN→SR
 | 0,_=>.bad
 | n+1,env=>match c (rE env)with
  | some NG=>(match g env with
   | .next env'=>qQ c g n env'
   | .cont env'=>qQ c g n env'
   | .brk env'=>.next env'
   | r=>r)
  | some NH=>.next env
  | none=>.bad
theorem aAG{n:Nat}{tb:TS}(hc:UJ K tc fc)(h:DS K tb g):DS K (RK tc tb) (qQ fc g n):=λB E σ H env r p=>by
 refine⟨λm σ2 H2=>∃cZ,Rel K B cZ σ2 H2∧Lb K B E (qQ fc g m cZ),⟨n,env,r,p⟩,?_⟩;rintro m σ2 H2 ⟨cZ,r2,p2⟩;cases m with
 | zero=>exact p2.elim
 | succ m=>
  unfold qQ at p2;split at p2
  ·rename_i q;refine hc σ2 H2 (rE cZ) NG _ r2.r q λH3 s=>?_;rw[if_pos rfl];refine⟨λσ' H'=>∃env',Rel K B env' σ' H'∧Lb K B E (qQ fc g m env'),λσ' H' ⟨env',a1,a2⟩=>⟨m,M7 m,env',a1,a2⟩,?_⟩;refine h B _ σ2 H3 cZ (r2.same s) ?_;split at p2
   ·rename_i env' q2;rw[q2];exact λσ' H' r'=>⟨env',r',p2⟩
   ·rename_i env' q2;rw[q2];exact λσ' H' r'=>⟨env',r',p2⟩
   ·rename_i env' q2;rw[q2];exact p2
   ·rename_i n1 n2 n3;cases q2:g cZ with
    | next e=>exact absurd q2 (n1 e)
    | cont e=>exact absurd q2 (n2 e)
    | brk e=>exact absurd q2 (n3 e)
    | ret d=>rw[q2]at p2;exact p2
    | bad=>rw[q2]at p2;exact p2
    | rete d e=>rw[q2]at p2;exact p2
  ·rename_i q;refine hc σ2 H2 (rE cZ) NH _ r2.r q λH3 s=>?_;rw[if_neg (by decide)];exact p2 σ2 H3 (r2.same s)
  ·exact p2.elim
theorem Yc{tg iter:AD}{body:List AH}{wi:TI}{fi:FA}{tb:TS}{i:Nat}(js:List Nat)(hp:Dx (AG X.prog X.w) X.A X.env X.xe)(VF:X.calm=NG)(hi:XI K X tg iter wi fi)(hg:PG X tg (jR i))(hb:YB K X body tb g)
  (hs:∀x,B3 iter X.env x=pure x:=by intro _;rfl):YS K X (.For tg iter body [] pos) (Wy wi (jR i) tb) (Oe js i fi g):=⟨Wz hp VF hi.pi hg hb.ps hs,aF7 hi.ev hb.ev⟩
theorem aAH{body:List AH}{tb:TS}(n:Nat)(hp:Dx (AG X.prog X.w) X.A X.env X.xe)(hc:XT K X c tc fc)(hb:YB K X body tb g):YS K X (.While c body [] pos) (RK tc tb) (qQ fc g n):=⟨yo hp hc.pt hb.ps,aAG hc.ev hb.ev⟩
end
end L2


namespace L2
open PySem PySem.Spec PyProof.Rows
inductive Step where
  | ix (k:Nat) | key (k:Key) | fld (C:A7) (f:Str)
def kids:D→List D
 | .lst ds=>ds
 | .dk _ ds=>ds
 | .ins _ _ ds=>ds
 | _=>[]
def Fv:D→List D→D
 | .lst _,ds=>.lst ds
 | .dk ks _,ds=>.dk ks ds
 | .ins C nm _,ds=>.ins C nm ds
 | d,_=>d
def Cd:Step→D→Option Nat
 | .ix k,.lst ds=>ND k
 | .key k,.dk ks _=>posK ks k
 | .fld C f,.ins C' nm _=>if C'=C then posK nm f else none
 | _,_=>none
def eV:List Step→D→Option D
 | [],d=>ND d
 | s::p,d=>(Cd s d).bind λj=>((kids d)[j]?).bind (eV p)
def eO:List Step→D→D→D
 | [],_,d'=>d'
 | s::p,d,d'=>match Cd s d with
  | some j=>(match (kids d)[j]? with
   | some c=>Fv d ((kids d).set j (eO p c d'))
   | none=>d)
  | none=>d
def stepV(H:Hp)(s:Step)(v:V):Option V:=match v with
 | .ref a=>(match s,H a with
  | .ix k,ND (.lst xs)=>xs[k]?
  | .key k,ND (.dK kvs)=>wH kvs k
  | .fld C f,ND (.ins C' _ fs)=>if C'=C then fs.lookup f else none
  | _,_=>none)
 | _=>none
def Ld(H:Hp):List Step→V→Option V
 | [],v=>ND v
 | s::p,v=>(stepV H s v).bind (Ld H p)
theorem VG{H H':Hp}(e:aU H H'){s:Step}{v w:V}(h:stepV H s v=ND w):stepV H' s v=ND w:=by
 cases v with
 | ref a=>
  unfold stepV at h ⊢;dsimp only at h ⊢;cases q:H a with
  | none=>rw[q]at h;cases s<;>cases h
  | some o=>rw[e a o q];rw[q]at h;exact h
 | _=>unfold stepV at h;cases h
theorem zA{H H':Hp}(e:aU H H'):∀{p:List Step} {v w:V},Ld H p v=ND w→Ld H' p v=ND w
 | [],v,w,h=>h
 | s::p,v,w,h=>by unfold Ld at h ⊢;obtain⟨u,h1,h2⟩:=aX h;rw[VG e h1];exact zA e h2
theorem Dp{nm:List Str}{xs:List V}{f:Str}(h:nm.length=xs.length):(nm.zip xs).lookup f=(posK nm f).bind λj=>xs[j]?:=by
 induction nm generalizing xs with
 | nil=>unfold posK;rfl
 | cons a nm ih=>
  cases xs with
  | nil=>simp at h
  | cons x xs=>
   have ih:=ih (xs:=xs) (by simpa using h);unfold posK;rw[Q7,U2];by_cases c:a=f
   ·subst c;simp
   ·have c2:(f==a)=NH:=by rw[beq_eq_false_iff_ne];exact λz=>c z.symm
    rw[c2,if_neg c,ih];cases posK nm f<;>rfl
theorem Ow.kids{K:aF}{H:Hp}{d:D}{A:Fp}{v:V}{s:Step}{j:Nat}(h:Ow K H d A v)(q:Cd s d=ND j):∃xs T Bt,(∀x,xs[j]?=ND x→stepV H s v=ND x)∧dU K H (kids d) Bt xs∧Is A (fH T Bt)∧Apart T Bt ∧
  ∀H' ds' B',ds'.length=(kids d).length→dU K H' ds' B' xs→(∀a,T a→H' a=H a)→Apart T B'→Ow K H' (Fv d ds') (fH T B') v:=by
 cases d with
 | lst ds=>
  unfold Ow at h;obtain⟨a,xs,B,rfl,h2,h3,h4,h5⟩:=h;cases s with
  | ix k=>
   unfold Cd at q;cases q;refine⟨xs,(·=a),B,λx hx=>?_,h5,h4,λx qx qb=>h3 (qx▸qb),λH' ds' B' hl o f ap=>?_⟩
   ·unfold stepV;dsimp only;rw[h2];exact hx
   ·show Ow K H' (.lst ds') _ _;unfold Ow;exact⟨a,xs,B',U,(f a U).trans h2,ap a U,λ_=>Iff.rfl,o⟩
  | _=>unfold Cd at q;cases q
 | dk ks ds=>
  unfold Ow at h;obtain⟨a,xs,B,rfl,h2,h2',h3,h4,h5⟩:=h;cases s with
  | key k=>
   have q:posK ks k=ND j:=q;refine⟨xs,(·=a),B,λx hx=>?_,h5,h4,λx qx qb=>h3 (qx▸qb),λH' ds' B' hl o f ap=>?_⟩
   ·unfold stepV;dsimp only;rw[h2];show wH (ks.zip xs) k=_;rw[sS h2',q];exact hx
   ·show Ow K H' (.dk ks ds') _ _;unfold Ow;exact⟨a,xs,B',U,(f a U).trans h2,h2',ap a U,λ_=>Iff.rfl,o⟩
  | _=>unfold Cd at q;cases q
 | ins C nm ds=>
  unfold Ow at h;obtain⟨a,dx,xs,B,rfl,h2,h2',h3,h3',h3'',h4,h5⟩:=h;cases s with
  | fld C0 k=>
   have q:(if C=C0 then posK nm k else none)=ND j:=q;by_cases hc:C=C0
   rotate_left
   ·rw[if_neg hc]at q;cases q
   rw[if_pos hc]at q;refine⟨xs,(λx=>x=a∨x=dx),B,λx hx=>?_,h5,h4,λx qx qb=>qx.elim (λz=>h3' (z▸qb)) λz=>h3'' (z▸qb),λH' ds' B' hl o f ap=>?_⟩
   ·unfold stepV;dsimp only;rw[h2];show (if C=C0 then(nm.zip xs).lookup k else none)=_;rw[if_pos hc,Dp h3,q];exact hx
   ·show Ow K H' (.ins C nm ds') _ _;unfold Ow;exact⟨a,dx,xs,B',U,(f a (.inl U)).trans h2,(f dx (.inr U)).trans h2',h3,ap a (.inl U),ap dx (.inr U),λ_=>Iff.rfl,o⟩
  | _=>unfold Cd at q;cases q
 | _=>cases s<;>(unfold Cd at q;cases q)
theorem Ow.at{K:aF}{H:Hp}:∀{p:List Step} {d d1:D} {A:Fp} {v:V},Ow K H d A v→eV p d=ND d1→∃w A1 C,Ld H p v=ND w∧Apart A1 C∧Is A (fH A1 C)∧Ow K H d1 A1 w ∧
    ∀H' d' A',Apart A' C→(∀a,C a→H' a=H a)→Dh K H H'→Ow K H' d' A' w→Ow K H' (eO p d d') (fH A' C) v
  | [],d,d1,A,v,h,q=>by
    unfold eV at q;cases q;exact⟨v,A,nil,U,λ_ _ z=>z,λx=>⟨.inl,λz=>z.elim id False.elim⟩,h,λH' d' A' _ _ _ o=>o.congr λx=>⟨.inl,λz=>z.elim id False.elim⟩⟩
  | s::p,d,d1,A,v,h,q=>by
    unfold eV at q;obtain⟨j,q1,q2⟩:=aX q;obtain⟨c,q3,q4⟩:=aX q2;obtain⟨xs,T,Bt,k1,k2,k3,k4,k5⟩:=h.kids q1;obtain⟨y,B1,C1,f1,f2,f3,f4,f5⟩:=(cO.mp k2).focus q3;obtain⟨w,A1,C2,g1,g2,g3,g4,g5⟩:=Ow.at f4 q4;refine⟨w,A1,fH T (fH C1 C2),?_,?_,?_,g4,λH' d' A' ap fr tk o=>?_⟩
    · unfold Ld
      rw[k1 y f1];exact g1
    · intro x qx qc
      have b1:B1 x:=(g3 x).mpr (.inl qx);rcases qc with qc | qc | qc
      · exact k4 x qc ((f3 x).mpr (.inl b1))
      · exact f2 x b1 qc
      · exact g2 x qx qc
    · intro x
      rw[k3 x];constructor
      · rintro(z | z)
        · exact .inr (.inl z)
        · rcases(f3 x).mp z with z | z
          · rcases(g3 x).mp z with z | z
            · exact .inl z
            · exact .inr (.inr (.inr z))
          · exact .inr (.inr (.inl z))
      · rintro(z | z | z | z)
        · exact .inr ((f3 x).mpr (.inl ((g3 x).mpr (.inl z))))
        · exact .inl z
        · exact .inr ((f3 x).mpr (.inr z))
        · exact .inr ((f3 x).mpr (.inl ((g3 x).mpr (.inr z))))
    · have o1:Ow K H' (eO p c d') (fH A' C2) y:=g5 H' d' A' (λx a b=>ap x a (.inr (.inr b))) (λa z=>fr a (.inr (.inr z))) tk o
      have ap1:Apart (fH A' C2) C1:=λx a b=>a.elim (λz=>ap x z (.inr (.inl b))) λz=>f2 x ((g3 x).mpr (.inr z)) b;have o2:=f5 (Ow K H') (λe B z hb qq=>Ow.frame tk e B z qq λa za=>fr a (.inr (.inl (hb a za)))) (eO p c d') y (fH A' C2) ap1 o1;rw[set_same f1]at o2;have o3:=k5 H' ((L2.kids d).set j (eO p c d')) _ (by rw[K2]) (cO.mpr o2) (λa z=>fr a (.inl z)) (λx a b=>by
        rcases b with (b | b) | b
        · exact ap x b (.inl a)
        · exact k4 x a ((f3 x).mpr (.inl ((g3 x).mpr (.inr b))))
        · exact k4 x a ((f3 x).mpr (.inr b)))
      have e:eO (s::p) d d'=Fv d ((L2.kids d).set j (eO p c d')):=by show (match Cd s d with | some j=>_ | none=>_)=_;rw[q1];show (match (L2.kids d)[j]? with | some c=>_ | none=>_)=_;rw[q3]
      rw[e];refine o3.congr λx=>?_;show (T x∨(A' x∨C2 x)∨C1 x)↔(A' x∨T x∨C1 x∨C2 x)
      constructor
      · rintro(z | (z | z) | z)
        · exact .inr (.inl z)
        · exact .inl z
        · exact .inr (.inr (.inr z))
        · exact .inr (.inr (.inl z))
      · rintro(z | z | z | z)
        · exact .inr (.inl (.inl z))
        · exact .inl z
        · exact .inr (.inr z)
        · exact .inr (.inl (.inr z))
section
variable{K:aF}{B H:Hp}{env:EN}{σ:St}
theorem Rel.at{i:Nat}{p:List Step}{d0 d:D}(h:Rel K B env σ H)(e:env[i]?=ND (.own d0))(q:eV p d0=ND d):∃v0 w A1 C,σ[i]?=ND (ND v0)∧Ld H p v0=ND w∧Ow K H d A1 w∧Apart A1 C∧(∀a,C a→mR H a) ∧
    ∀H' d' A',Apart A' C→(∀a,C a→H' a=H a)→Dh K H H'→Ow K H' d' A' w→aU (out H (fH A1 C)) (out H' (fH A' C))→Rel K B (env.set i (.own (eO p d0 d'))) σ H':=by
  obtain⟨A,a,b⟩:=h;have cl:=jN a;obtain⟨y,A1,C,h1,h2,h3,h4,k⟩:=a.focus e;obtain⟨v0,rfl,o⟩:=h4;obtain⟨w,B1,C1,g1,g2,g3,g4,g5⟩:=o.at q;refine⟨v0,w,B1,fH C1 C,h1,g1,g4,λx z1 z2=>?_,λx z=>?_,λH' d' A' ap fr tk o' sm=>?_⟩
  · exact z2.elim (g2 x z1) (h2 x ((g3 x).mpr (.inl z1)))
  · exact cl x ((h3 x).mpr (z.elim (λz=>.inl ((g3 x).mpr (.inr z))) .inr))
  · have o2:=g5 H' d' A' (λx z1 z2=>ap x z1 (.inl z2)) (λx z=>fr x (.inl z)) tk o'
    have ap2:Apart (fH A' C1) C:=λx z1 z2=>z1.elim (λz=>ap x z (.inr z2)) λz=>h2 x ((g3 x).mpr (.inr z)) z2;have hA:Is A (fH B1 (fH C1 C)):=λx=>by
      rw[h3 x];constructor
      · rintro(z | z)
        · exact((g3 x).mp z).elim .inl λz=>.inr (.inl z)
        · exact .inr (.inr z)
      · rintro(z | z | z)
        · exact .inl ((g3 x).mpr (.inl z))
        · exact .inl ((g3 x).mpr (.inr z))
        · exact .inr z
    have g:aU (out H A) (out H' (fH (fH A' C1) C)):=λx u ex=>by obtain⟨e1,e2⟩:=bB.mp ex;have:=sm x u (bB.mpr ⟨λz=>e1 ((hA x).mpr z),e2⟩);obtain⟨e3,e4⟩:=bB.mp this;exact bB.mpr ⟨λz=>e3 (z.elim (λz=>z.elim .inl λz=>.inr (.inl z)) λz=>.inr (.inr z)),e4⟩
    have s:=k (fP K H' (out H' (fH (fH A' C1) C))) (λs D z hb qq=>by
      cases s with
      | no=>exact qq
      | fro d=>obtain⟨q1,v,q2,q3⟩:=qq;exact⟨q1,v,q2,g.rv _ _ q3⟩
      | inn v d=>exact⟨qq.1,Ow.frame tk _ _ _ qq.2 λx zx=>fr x (.inr (hb x zx))⟩
      | own d=>obtain⟨v,q1,q2⟩:=qq;exact⟨v,q1,Ow.frame tk _ _ _ q2 λx zx=>fr x (.inr (hb x zx))⟩) (.own (eO p d0 d')) (ND v0) (fH A' C1) ap2 ⟨v0,U,o2⟩
    rw[set_same h1]at s;exact⟨_,s,b.trans g⟩
theorem Rel.Yd{i:Nat}{p:List Step}{d0:D}{ds:List D}(h:Rel K B env σ H)(e:env[i]?=ND (.own d0))(q:eV p d0=ND (.lst ds)):∃v0 a xs Bs,σ[i]?=ND (ND v0)∧Ld H p v0=ND (.ref a)∧H a=ND (.lst xs)∧¬Bs a∧dU K H ds Bs xs ∧
    ∀H2 ds' xs' Bn,aU H H2→dU K H2 ds' Bn xs'→(∀b,Bn b→Bs b∨H b=none)→Rel K B (env.set i (.own (eO p d0 (.lst ds')))) σ (upd H2 a (.lst xs')):=by
  obtain⟨v0,w,A1,C,h1,h2,h3,h4,h5,h6⟩:=h.at e q;unfold Ow at h3;obtain⟨a,xs,Bs,rfl,o2,o3,o4,o5⟩:=h3;refine⟨v0,a,xs,Bs,h1,h2,o2,o3,o5,λH2 ds' xs' Bn s o hb=>?_⟩;have nBa:¬Bn a:=λz=>(hb a z).elim o3 λz=>by rw[o2]at z;cases z
  have hC:∀x,C x→¬x=a:=λx z y=>h4 x ((o4 x).mpr (.inl y)) z;have Ss:H2 a=ND (.lst xs):=s a _ o2;refine h6 _ (.lst ds') (fH (·=a) Bn) (λx z1 z2=>?_) (λx z=>?_) (s.tk.trans (uP (vH Ss))) ?_ (λx u ex=>?_)
  · rcases z1 with z1 | z1
    · exact hC x z2 z1
    · rcases hb x z1 with z | z
      · exact h4 x ((o4 x).mpr (.inr z)) z2
      · obtain⟨⟨u,eu⟩,_⟩:=h5 x z2
        rw[z]at eu;cases eu
  · obtain⟨⟨u,eu⟩,_⟩:=h5 x z
    rw[bN (hC x z),eu,s x u eu]
  · unfold Ow
    refine⟨a,xs',Bn,U,cD,nBa,λ_=>Iff.rfl,dU.frame (uP (vH Ss)) _ _ _ o λx zx=>bN λy=>nBa (y▸zx)⟩
  · obtain⟨e1,e2⟩:=bB.mp ex
    have na:x≠a:=λy=>e1 (.inl ((o4 x).mpr (.inl y)));refine bB.mpr ⟨λz=>?_,by rw[bN na];exact s x u e2⟩;rcases z with (z | z) | z
    · exact na z
    · rcases hb x z with z | z
      · exact e1 (.inl ((o4 x).mpr (.inr z)))
      · rw[z]at e2;cases e2
    · exact e1 (.inr z)
theorem Rel.aJr{i:Nat}{p:List Step}{d0:D}{ks:List Key}{ds:List D}(h:Rel K B env σ H)(e:env[i]?=ND (.own d0))(q:eV p d0=ND (.dk ks ds)):∃v0 a xs Bs,σ[i]?=ND (ND v0)∧Ld H p v0=ND (.ref a)∧H a=ND (.dK (ks.zip xs))∧ks.length=xs.length∧¬Bs a∧dU K H ds Bs xs ∧
    ∀H2 ks' ds' xs' Bn,aU H H2→ks'.length=xs'.length→dU K H2 ds' Bn xs'→(∀b,Bn b→Bs b∨H b=none)→Rel K B (env.set i (.own (eO p d0 (.dk ks' ds')))) σ (upd H2 a (.dK (ks'.zip xs'))):=by
  obtain⟨v0,w,A1,C,h1,h2,h3,h4,h5,h6⟩:=h.at e q;unfold Ow at h3;obtain⟨a,xs,Bs,rfl,o2,o2',o3,o4,o5⟩:=h3;refine⟨v0,a,xs,Bs,h1,h2,o2,o2',o3,o5,λH2 ks' ds' xs' Bn s hl o hb=>?_⟩;have nBa:¬Bn a:=λz=>(hb a z).elim o3 λz=>by rw[o2]at z;cases z
  have hC:∀x,C x→¬x=a:=λx z y=>h4 x ((o4 x).mpr (.inl y)) z;have Ss:H2 a=ND (.dK (ks.zip xs)):=s a _ o2;refine h6 _ (.dk ks' ds') (fH (·=a) Bn) (λx z1 z2=>?_) (λx z=>?_) (s.tk.trans (uP (Nm Ss))) ?_ (λx u ex=>?_)
  · rcases z1 with z1 | z1
    · exact hC x z2 z1
    · rcases hb x z1 with z | z
      · exact h4 x ((o4 x).mpr (.inr z)) z2
      · obtain⟨⟨u,eu⟩,_⟩:=h5 x z2
        rw[z]at eu;cases eu
  · obtain⟨⟨u,eu⟩,_⟩:=h5 x z
    rw[bN (hC x z),eu,s x u eu]
  · unfold Ow
    refine⟨a,xs',Bn,U,cD,hl,nBa,λ_=>Iff.rfl,dU.frame (uP (Nm Ss)) _ _ _ o λx zx=>bN λy=>nBa (y▸zx)⟩
  · obtain⟨e1,e2⟩:=bB.mp ex
    have na:x≠a:=λy=>e1 (.inl ((o4 x).mpr (.inl y)));refine bB.mpr ⟨λz=>?_,by rw[bN na];exact s x u e2⟩;rcases z with (z | z) | z
    · exact na z
    · rcases hb x z with z | z
      · exact e1 (.inl ((o4 x).mpr (.inr z)))
      · rw[z]at e2;cases e2
    · exact e1 (.inr z)
end
end L2


namespace L2
open PySem PySem.Spec PyProof.Rows
abbrev FP:=DE→Option (List Step)
def EvP(K:aF)(t:TE)(i:Nat)(π:FP):Prop:=∀(σ:St)(H:Hp)(e:DE)(v0:V)(p:List Step)(v:V)(Q:VK),yL K H e σ→σ[i]?=ND (ND v0)→π e=ND p→Ld H p v0=ND v→(∀H',aU H H'→Q v H')→t σ H Q
structure XP(K:aF)(X:Cx)(e:AD)(t:TE)(i:Nat)(π:FP):Prop where
 hk:X.K=K
 pe:PE X e t
 ev:EvP K t i π
theorem Og{H:Hp}{s:Step}:∀{p:List Step} {v0 v:V},Ld H (p++[s]) v0=ND v→∃w,Ld H p v0=ND w∧stepV H s w=ND v
 | [],v0,v,h=>by
  rw[a8]at h;unfold Ld at h;obtain⟨w,h1,h2⟩:=aX h;unfold Ld at h2;cases h2;exact⟨v0,U,h1⟩
 | s'::p,v0,v,h=>by rw[Q1]at h;unfold Ld at h;obtain⟨u,h1,h2⟩:=aX h;obtain⟨w,h3,h4⟩:=Og h2;refine⟨w,?_,h4⟩;unfold Ld;rw[h1];exact h3
theorem aAJ{H:Hp}{k:Nat}{w v:V}(h:stepV H (.ix k) w=ND v):∃a xs,w=.ref a∧H a=ND (.lst xs)∧xs[k]?=ND v:=by
 cases w with
 | ref a=>
  unfold stepV at h;dsimp only at h;cases q:H a with
  | none=>rw[q]at h;cases h
  | some o=>
   rw[q]at h;cases o with
   | lst xs=>exact⟨a,xs,U,q,h⟩
   | _=>cases h
 | _=>unfold stepV at h;cases h
def cR:FP:=λ_=>ND []
def dm(π:FP)(g:FE):FP:=λe=>(π e).bind λp=>(g e).bind λd=>match d with
 | .int k=>if 0≤k then ND (p++[.ix k.toNat])else none
 | _=>none
section
variable{K:aF}{X:Cx}{e a b c:AD}{es:List AD}{t ta tb te:TE}{f g:FE}{tA:TA}{fs:FA}{pos:Pos}{i j:Nat}{π:FP}{st:AH}
theorem gG(h:PE X e (pH i))(hk:X.K=K:=by rfl):XP K X e (pH i) i cR:=⟨hk,h,λσ H e v0 p v Q re h1 h2 h3 k=>by
 cases h2;unfold Ld at h3;cases h3;exact⟨v0,h1,k H (aU.refl _)⟩⟩
theorem HR(h:XP K X a ta i π)(hb:XR K X b tb g)(hs:Xd b):XP K X (.Subscript a b pos) (DR (rIx K) ta tb) i (dm π g):=⟨h.hk,aEh (aEr h.hk) h.pe hb.pe hs,λσ H e v0 p v Q re h1 h2 h3 k=>by
 unfold dm at h2;obtain⟨p0,q1,q2⟩:=aX h2;obtain⟨d,q3,q4⟩:=aX q2;split at q4
 ·rename_i n;split at q4
  ·rename_i hn;cases q4;obtain⟨w,w1,w2⟩:=Og h3;obtain⟨ad,xs,rfl,w3,w4⟩:=aAJ w2;refine h.ev σ H e v0 p0 _ _ re h1 q1 w1 λH1 s1=>hb.ev σ H1 H1 e _ _ (Zn.self K H1) (re.same s1) q3 λy H2 Z2 s2 t2 z2 ry=>?_;unfold Rv at ry;exact .inl ⟨ad,xs,n,v,U,ry,pQ.of (s2 _ _ (s1 _ _ w3)),aJk hn w4,k H2 (s1.trans s2)⟩
  ·cases q4
 ·cases q4⟩
def zB(i:Nat)(π:FP)(f:FE):GS:=λenv=>match env[i]?,π (rE env),f (rE env)with
 | some (.own d0),ND p,ND d=>(match eV p d0 with
  | some (.lst ds)=>if ds.length<100000 then .next (env.set i (.own (eO p d0 (.lst (ds++[d])))))else .bad
  | _=>.bad)
 | _,_,_=>.bad
theorem Ye{H H1:Hp}{A:Fp}{ds:List D}{xs:List V}{N:Fp}(o:dU K H ds A xs)(fr:∀a,N a→H a=none):Apart A N:=λx q1 q2=>by obtain⟨⟨u,eu⟩,_⟩:=dU.cells _ _ _ o x q1;rw[fr x q2]at eu;cases eu
theorem aAK(h:EvP K ta i π)(he:Nu K te f):qy K (kE (Hw K "list" nH ta (cI te lG))) (zB i π f):=λB E σ H env r p=>by
 unfold zB at p;split at p
 ·rename_i d0 pp d q1 q2 q3;split at p
  ·rename_i ds q4;split at p
   ·rename_i hl;obtain⟨v0,a,xs,Bs,k1,k2,k3,k4,k5,k6⟩:=r.Yd q1 q4;refine h σ H (rE env) v0 pp _ _ r.r k1 q2 k2 λH1 s1=>⟨.inl ⟨U,xs,pQ.of (s1 _ _ k3)⟩,?_⟩
    refine he σ H1 (rE env) d _ (r.r.same s1) q3 λy H2 s2 n=>?_;obtain⟨N,o,fr⟩:=n.back s1;have s12:=s1.trans s2;refine⟨a,xs,y,U,U,s12 _ _ k3,Ny (by rw[(dU.rv _ _ _ k5).length];omega),p _ ?_⟩;exact k6 H2 (ds++[d]) (xs++[y]) (fH Bs N) s12 (cO.mpr ((cO.mp (k5.same s12)).snoc o (Ye (H1:=H) k5 fr))) λb z=>z.imp id (fr b)
   ·exact p.elim
  ·exact p.elim
 ·exact p.elim
theorem VH{m:Str}{apos cpos:Pos}(h:XP K X a ta i π)(he:XN K X e te f)(hp:PE X a ta→PE X e te→PS X (.Expr (.Call (.Attribute a m apos) [e] [] cpos) pos) (kE (Hw K "list" nH ta (cI te lG)))):YS K X (.Expr (.Call (.Attribute a m apos) [e] [] cpos) pos) (kE (Hw K "list" nH ta (cI te lG))) (zB i π f):=⟨hp h.pe he.pe,(aAK h.ev he.ev).ds⟩
def vL(i:Nat)(π:FP)(g f:FE):GS:=λenv=>match env[i]?,π (rE env),g (rE env),f (rE env)with
 | some (.own d0),ND p,ND (.int k),ND d=>(match eV p d0 with
  | some (.lst ds)=>(match QW ds.length k with
   | some j=>.next (env.set i (.own (eO p d0 (.lst (ds.set j d)))))
   | none=>.bad)
  | _=>.bad)
 | _,_,_,_=>.bad
theorem aF9{n:Nat}{k:Int}{j:Nat}(h:QW n k=ND j):j<n:=by
 unfold QW at h;split at h
 ·split at h
  ·cases h;omega
  ·cases h
 ·split at h
  ·cases h;omega
  ·cases h
theorem dq(h:EvP K ta i π)(hx:Ka K tb g)(he:Nu K te f):qy K (wF te (kh ta tb Ug)) (vL i π g f):=λB E σ H env r p=>by
 unfold vL at p;split at p
 ·rename_i d0 pp k d q1 q2 q3 q3';split at p
  ·rename_i ds q4;split at p
   ·rename_i j q5;obtain⟨v0,a,xs,Bs,k1,k2,k3,k4,k5,k6⟩:=r.Yd q1 q4;refine he σ H (rE env) d _ r.r q3' λy H1 s1 n=>?_;refine h σ H1 (rE env) v0 pp _ _ (r.r.same s1) k1 q2 (zA s1 k2) λH2 s2=>hx σ H2 H2 (rE env) _ _ (Zn.self K H2) (r.r.same (s1.trans s2)) q3 λy' H3 Z3 s3 t3 z3 ry=>?_;unfold Rv at ry;have Xy:=s1.trans (s2.trans s3);obtain⟨N,o,fr⟩:=n.same (s2.trans s3);have hlen:=(dU.rv _ _ _ k5).length;refine⟨a,xs,k,j,U,ry,Xy _ _ k3,by rw[hlen];exact q5,p _ ?_⟩;obtain⟨y0,A1,C,f1,f2,f3,f4,f5⟩:=(cO.mp (k5.same Xy)).focus (B6 (aF9 q5));have ap:Apart N C:=λx q1 q2=>Ye (H1:=H) k5 fr x ((f3 x).mpr (.inr q2)) q1;exact k6 H3 (ds.set j d) (xs.set j y) (fH N C) Xy (cO.mpr (f5 (Ow K H3) (λ_ _ _ _ qq=>qq) d y N ap o)) λb z=>z.elim (λz=>.inr (fr b z)) λz=>.inl ((f3 b).mpr (.inr z))
   ·exact p.elim
  ·exact p.elim
 ·exact p.elim
theorem du{pos':Pos}(h:XP K X a ta i π)(hx:XR K X b tb g)(he:XN K X e te f)(hp:PE X a ta→PE X b tb→PE X e te→PS X (.Assign [.Subscript a b pos'] e pos) (wF te (kh ta tb Ug))):YS K X (.Assign [.Subscript a b pos'] e pos) (wF te (kh ta tb Ug)) (vL i π g f):=⟨hp h.pe hx.pe he.pe,(dq h.ev hx.ev he.ev).ds⟩
def pG(i:Nat)(π:FP)(g f:FE):GS:=λenv=>match env[i]?,π (rE env),g (rE env),f (rE env)with
 | some (.own d0),ND p,ND k,ND d=>(match eV p d0,Sq k with
  | some (.dk ks ds),ND k=>if d.jF=NG∧ks.length<100000 then .next (env.set i (.own (eO p d0 (.dk (lE ks k) (putD ks ds k d)))))else .bad
  | _,_=>.bad)
 | _,_,_,_=>.bad
theorem HS{H:Hp}{d:D}{v:V}(o:Ow K H d nil v)(k:Key):∀{ks:List Key} {ds:List D} {A:Fp} {xs:List V},ks.length=xs.length→dU K H ds A xs→∃A',(∀x,A' x→A x)∧dU K H (R1 (λk' d'=>if k'=k then d else d') ks ds) A' (R1 (λk' d'=>if k'=k then v else d') ks xs)
 | [],ds,A,xs,hl,h=>by
  cases xs with
  | nil=>exact⟨nil,λ_ z=>z.elim,by rw[R3,R3];unfold dU;exact⟨λ_ z=>z,U⟩⟩
  | cons x xs=>simp at hl
 | k0::ks,[],A,xs,hl,h=>by unfold dU at h;rw[h.2]at hl;simp at hl
 | k0::ks,d0::ds,A,xs,hl,h=>by
  unfold dU at h;obtain⟨y,yt,A1,A2,rfl,h2,h3,h4,h5⟩:=h;obtain⟨A',a1,a2⟩:=HS o k (by simpa using hl) h5;by_cases c:k0=k
  ·refine⟨A',λx q=>(h3 x).mpr (.inr (a1 x q)),?_⟩;rw[J4,J4,if_pos c,if_pos c];unfold dU;exact⟨v,_,nil,A',U,λ_ z=>z.elim,λx=>⟨.inr,λz=>z.elim False.elim id⟩,o,a2⟩
  ·refine⟨fH A1 A',λx q=>(h3 x).mpr (q.imp id (a1 x)),?_⟩;rw[J4,J4,if_neg c,if_neg c];unfold dU;exact⟨y,_,A1,A',U,λx z1 z2=>h2 x z1 (a1 x z2),λ_=>Iff.rfl,h4,a2⟩
theorem dw(h:EvP K ta i π)(hx:Ka K tb g)(he:Ka K te f):qy K (Ff ta tb te) (pG i π g f):=λB E σ H env r p=>by
 unfold pG at p;split at p
 ·rename_i d0 pp kd d q1 q2 q3 q3';split at p
  ·rename_i ks ds k q4 q5;split at p
   ·rename_i hc;obtain⟨v0,a,xs,Bs,k1,k2,k3,k3',k4,k5,k6⟩:=r.aJr q1 q4;refine he σ H H (rE env) d _ (Zn.self K H) r.r q3' λy H1 Z1 s1 t1 z1 ry=>?_;refine h σ H1 (rE env) v0 pp _ _ (r.r.same s1) k1 q2 (zA s1 k2) λH2 s2=>hx σ H2 H2 (rE env) _ _ (Zn.self K H2) (r.r.same (s1.trans s2)) q3 λy' H3 Z3 s3 t3 z3 ry'=>?_;have Xy:=s1.trans (s2.trans s3);have o:Ow K H3 d nil y:=yW d y hc.1 ((z1.sm.trans (s2.trans s3)).rv _ _ ry);have ek:=Lx q5 (z3.sm.rv _ _ ry');refine⟨a,_,U,.inl ⟨ks.zip xs,k,Xy _ _ k3,ek,Ny (by rw[a9];omega),U⟩,p _ ?_⟩;rw[GR k3'];have ow3:=k5.same Xy;have hl3:=(dU.rv _ _ _ k5).length;by_cases c:(posK ks k).isSome=NG
    ·obtain⟨A',a1,a2⟩:=HS o k k3' ow3;refine k6 H3 (lE ks k) (putD ks ds k d) (putD ks xs k y) A' Xy (vK k3') ?_ λb z=>.inl (a1 b z);unfold putD;rw[if_pos c,if_pos c];exact a2
    ·refine k6 H3 (lE ks k) (putD ks ds k d) (putD ks xs k y) (fH Bs nil) Xy (vK k3') ?_ λb z=>z.elim .inl False.elim;unfold putD;rw[if_neg c,if_neg c];exact cO.mpr ((cO.mp ow3).snoc o λ_ _ z=>z)
   ·exact p.elim
  ·exact p.elim
 ·exact p.elim
theorem Yg{pos':Pos}(h:XP K X a ta i π)(hx:XR K X b tb g)(he:XR K X e te f)(hp:PE X a ta→PE X b tb→PE X e te→PS X (.Assign [.Subscript a b pos'] e pos) (Ff ta tb te)):YS K X (.Assign [.Subscript a b pos'] e pos) (Ff ta tb te) (pG i π g f):=⟨hp h.pe hx.pe he.pe,(dw h.ev hx.ev he.ev).ds⟩
theorem Uz{α β:Type}{R:α→Fp→β→Prop}:∀{ds:List α} {A:Fp} {ys:List β} (k:Nat),eN R ds A ys→∃A',(∀x,A' x→A x)∧eN R (ds.eraseIdx k) A' (ys.eraseIdx k)
 | [],A,ys,k,h=>⟨A,λ_ z=>z,by rw[h.2];exact⟨h.1,U⟩⟩
 | d::ds,A,ys,0,⟨y,yt,A1,A2,h1,h2,h3,h4,h5⟩=>⟨A2,λx z=>(h3 x).mpr (.inr z),by rw[h1];exact h5⟩
 | d::ds,A,ys,k+1,⟨y,yt,A1,A2,h1,h2,h3,h4,h5⟩=>by obtain⟨A',a1,a2⟩:=Uz k h5;refine⟨fH A1 A',λx z=>(h3 x).mpr (z.imp id (a1 x)),?_⟩;rw[h1,N1,N1];exact⟨y,_,A1,A',U,λx z1 z2=>h2 x z1 (a1 x z2),λ_=>Iff.rfl,h4,a2⟩
def Ax(i j:Nat)(f:FE):GS:=λenv=>match env[i]?,env[j]?,f (rE env)with
 | some (.own (.lst ds)),ND (.own (.lst es)),ND (.int k)=>if i≠j∧ds.length<100000∧0≤k∧k<es.length∧es.length≤100000 then(match es[k.toNat]? with
   | some d=>if d.jF=NG then .next ((env.set j (.own (.lst (es.eraseIdx k.toNat)))).set i (.own (.lst (ds++[d]))))else .bad
   | none=>.bad)else .bad
 | _,_,_=>.bad
theorem qz(he:Ka K te f):DS K (kE (Hw K "list" nH (pH i) (cI (Hw K "list" Xj (pH j) (cI te lG)) lG))) (Ax i j f):=λB E σ H env r p=>by
 unfold Ax at p;split at p
 ·rename_i ds es k q1 q2 q3;split at p
  ·rename_i hc;obtain⟨c1,c2,c3,c4,c5⟩:=hc;split at p
   ·rename_i d q4;split at p
    ·rename_i im;obtain⟨w0,b,ys,Cs,m1,m2,m3,m4,m5,m6⟩:=r.Yd (p:=[]) q2 U;obtain⟨v0,a,xs,Bs,k1,k2,k3,k4,k5,k6⟩:=r.Yd (p:=[]) q1 U;have e1:v0=.ref a:=by unfold Ld at k2;exact F1 k2
     have e2:w0=.ref b:=by unfold Ld at m2;exact F1 m2
     subst e1 e2;refine⟨_,k1,.inl ⟨U,xs,pQ.of k3⟩,⟨_,m1,.inl ⟨U,ys,pQ.of m3⟩,?_⟩⟩;refine he σ H H (rE env) _ _ (Zn.self K H) r.r q3 λy H1 Z1 s1 t1 z1 ry=>?_;unfold Rv at ry;have hly:=(dU.rv _ _ _ m5).length;have hlx:=(dU.rv _ _ _ k5).length;obtain⟨x',hx',rx'⟩:=(dU.rv _ _ _ m5).get q4;refine⟨b,ys,k,k.toNat,x',U,by rw[ry],s1 _ _ m3,by omega,by omega,FV c3 (by rw[hly];exact c4),hx',?_⟩;have o1:=m5.same s1;obtain⟨A',a1,a2⟩:=Uz k.toNat (cO.mp o1);have r1:=m6 H1 (es.eraseIdx k.toNat) (ys.eraseIdx k.toNat) A' s1 (cO.mpr a2) λx z=>.inl (a1 x z);have r1':Rel K B (env.set j (.own (.lst (es.eraseIdx k.toNat)))) σ (upd H1 b (.lst (ys.eraseIdx k.toNat))):=r1;have q1':(env.set j (.own (.lst (es.eraseIdx k.toNat))))[i]?=ND (.own (.lst ds)):=by rw[G4,if_neg (Ne.symm c1)];exact q1
     obtain⟨v0',a',xs',Bs',n1,n2,n3,n4,n5,n6⟩:=r1'.Yd (p:=[]) q1' U;rw[k1]at n1;cases n1;have e3:a'=a:=by unfold Ld at n2;cases n2;rfl
     subst e3;have ne:a'≠b:=by
      intro z;subst z;obtain⟨A0,sA,_⟩:=r;obtain⟨y1,A1,C,f1,f2,f3,f4,f5⟩:=sA.focus q1;obtain⟨v1,ev1,o1⟩:=f4;have g1:=f5 (fP K H (out H A0)) (λ_ _ _ _ qq=>qq) (.own (.lst ds)) (ND v1) A1 f2 ⟨v1,U,o1⟩;rw[k1]at f1;cases f1;cases ev1;unfold Ow at o1;obtain⟨p1,_,_,ep1,_,_,ip1,_⟩:=o1;cases ep1;have other:∀{l:EN} {A:Fp} {ys:St} (i j:Nat),eN (fP K H (out H A0)) l A ys→i≠j→∀s s',l[i]?=ND s→l[j]?=ND s'→∃y y' A1 A2,ys[i]?=ND y∧ys[j]?=ND y'∧fP K H (out H A0) s A1 y∧fP K H (out H A0) s' A2 y'∧Apart A1 A2:=by
       intro l
       induction l with
       | nil=>intro A ys i j _ _ s s' h1 _;simp at h1
       | cons d l ih=>
        rintro A ys i j ⟨y,yt,B1,B2,rfl,h2,h3,h4,h5⟩ hij s s' h6 h7;cases i with
        | zero=>
         cases j with
         | zero=>exact absurd U hij
         | succ j=>simp at h6;subst h6;obtain⟨y2,A3,C3,w1,w2,w3,w4,_⟩:=h5.focus (i:=j) (d:=s') (by simpa using h7);exact⟨y,y2,B1,A3,U,by simpa using w1,h4,w4,λx z1 z2=>h2 x z1 ((w3 x).mpr (.inl z2))⟩
        | succ i=>
         cases j with
         | zero=>simp at h7;subst h7;obtain⟨y2,A3,C3,w1,w2,w3,w4,_⟩:=h5.focus (i:=i) (d:=s) (by simpa using h6);exact⟨y2,y,A3,B1,by simpa using w1,U,w4,h4,λx z1 z2=>h2 x z2 ((w3 x).mpr (.inl z1))⟩
         | succ j=>obtain⟨y2,y3,A3,A4,w1,w2,w3,w4,w5⟩:=ih i j h5 (λz=>hij (by rw[z])) s s' (by simpa using h6) (by simpa using h7);exact⟨y2,y3,A3,A4,by simpa using w1,by simpa using w2,w3,w4,w5⟩
      obtain⟨y2,y3,A3,A4,w1,w2,w3,w4,w5⟩:=other i j sA c1 _ _ q1 q2;rw[k1]at w1;cases w1;rw[m1]at w2;cases w2;obtain⟨_,ea,oa⟩:=w3;obtain⟨_,eb,ob⟩:=w4;cases ea;cases eb;unfold Ow at oa ob;obtain⟨p1,_,_,e1,_,_,i1,_⟩:=oa;obtain⟨p2,_,_,e2,_,_,i2,_⟩:=ob;cases e1;cases e2;exact w5 _ ((i1 _).mpr (.inl U)) ((i2 _).mpr (.inl U))
     have n3':H1 a'=ND (.lst xs'):=by rw[bN ne]at n3;exact n3
     have exx:xs'=xs:=by have:=s1 _ _ k3;rw[n3']at this;cases this;rfl
     subst exx;have imo:Ow K (upd H1 b (.lst (ys.eraseIdx k.toNat))) d nil x':=Ow.frame (uP (vH (s1 _ _ m3))) _ _ _ (yW d x' im (s1.rv _ _ rx')) λ_ z=>z.elim;refine⟨a',xs',x',U,U,n3,Ny (by omega),p _ _ ?_⟩;exact n6 _ (ds++[d]) (xs'++[x']) (fH Bs' nil) (aU.refl _) (cO.mpr ((cO.mp n5).snoc imo λ_ _ z=>z)) λx z=>z.elim .inl False.elim
    ·exact p.elim
   ·exact p.elim
  ·exact p.elim
 ·exact p.elim
end
end L2


namespace L2
open PySem PySem.Spec PyProof.Rows
def VJ(K:aF)(B:Hp)(R:Fp)(env:EN)(σ:St)(H:Hp):Prop:=∃A,eN (fP K H (out H (fH A R))) env A σ∧Apart A R∧aU B (out H (fH A R))
section
variable{K:aF}{B H H':Hp}{env:EN}{σ:St}{R R' A1:Fp}
theorem Rel.x(h:Rel K B env σ H)(s:aU H H')(f:∀a,R a→H a=none):VJ K B R env σ H':=by obtain⟨A,a,b⟩:=h;have cl:=jN a;have g:aU (out H A) (out H' (fH A R)):=bU s λx q=>q.imp id (f x);refine⟨A,a.mono λe C z _ q=>q.same s g,λx q1 q2=>?_,b.trans g⟩;obtain⟨⟨u,eu⟩,_⟩:=cl x q1;rw[f x q2]at eu;cases eu
theorem VJ.own{i:Nat}{d:D}{v:V}(h:VJ K B R env σ H)(e:Is R (fH A1 R'))(ap:Apart A1 R')(o:Ow K H d A1 v)(hi:i<env.length):VJ K B R' (env.set i (.own d)) (σ.set i (ND v)) H:=by
 obtain⟨A,a,aR,b⟩:=h;obtain⟨y,A0,C,h1,h2,h3,h4,k⟩:=a.focus (B6 hi);have g:aU (out H (fH A R)) (out H (fH (fH A1 C) R')):=bU (aU.refl _) λx q=>by
  rcases q with (q | q) | q
  ·exact .inl (.inr ((e x).mpr (.inl q)))
  ·exact .inl (.inl ((h3 x).mpr (.inr q)))
  ·exact .inl (.inr ((e x).mpr (.inr q)))
 refine⟨fH A1 C,k _ (λs D z _ q=>q.same (aU.refl _) g) (.own d) (ND v) A1 (λx q1 q2=>aR x ((h3 x).mpr (.inr q2)) ((e x).mpr (.inl q1))) ⟨v,U,o⟩,λx q1 q2=>?_,b.trans g⟩;rcases q1 with q1 | q1
 ·exact ap x q1 q2
 ·exact aR x ((h3 x).mpr (.inr q1)) ((e x).mpr (.inr q2))
theorem VJ.done(h:VJ K B R env σ H)(e:None R):Rel K B env σ H:=by obtain⟨A,a,aR,b⟩:=h;have g:aU (out H (fH A R)) (out H A):=bU (aU.refl _) λx q=>.inl (.inl q);exact⟨A,a.mono λs D z _ q=>q.same (aU.refl _) g,b.trans g⟩
end
def nU:List Nat→TGs
 | []=>aHu
 | i::is=>aEc (jR i) (nU is)
def oU:EN→List Nat→List D→EN
 | env,i::is,d::ds=>oU (env.set i (.own d)) is ds
 | env,_,_=>env
theorem Oh{K:aF}{B H:Hp}{Q:St→Hp→Prop}:∀{is:List Nat} {ds:List D} {xs:List V} {R:Fp} {env:EN} {σ:St},VJ K B R env σ H→dU K H ds R xs→is.length=ds.length→(∀i∈is,i<env.length) →
  (∀σ',Rel K B (oU env is ds) σ' H→Q σ' H)→nU is xs σ H Q
 | [],ds,xs,R,env,σ,r,o,hl,hi,k=>by
  cases ds with
  | cons d ds=>simp at hl
  | nil=>unfold dU at o;unfold nU;exact⟨o.2,k σ (by unfold oU;exact r.done o.1)⟩
 | i::is,ds,xs,R,env,σ,r,o,hl,hi,k=>by
  cases ds with
  | nil=>simp at hl
  | cons d ds=>unfold dU at o;obtain⟨y,yt,A1,A2,rfl,h2,h3,h4,h5⟩:=o;unfold nU;refine⟨y,yt,U,?_⟩;have hi0:=hi i C9;exact Oh (r.own h3 h2 h4 hi0) h5 (by simpa using hl) (λj hj=>by rw[K2];exact hi j (C6 _ hj)) λσ' r'=>k σ' (by unfold oU;exact r')
def wN(is:List Nat)(f:FE):GS:=λenv=>match f (rE env)with
 | some (.tup ds)=>if is.length=ds.length∧is.all (λi=>decide (i<env.length))=NG then .next (oU env is ds)else .bad
 | _=>.bad
section
variable{K:aF}{X:Cx}{e a b c:AD}{es:List AD}{t ta tb te:TE}{f g:FE}{tA:TA}{fs:FA}{pos:Pos}{i j:Nat}{π:FP}{st:AH}
theorem rm{is:List Nat}{n:Nat}(h:Nu K te f)(hn:n=is.length):DS K (wF te (Wv K n (nU is))) (wN is f):=λB E σ H env r p=>by
 unfold wN at p;split at p
 ·rename_i ds q;split at p
  ·rename_i hc;refine h σ H (rE env) _ _ r.r q λv H' s ⟨N,o,fr⟩=>?_;unfold Ow at o;obtain⟨ad,xs,rfl,o1,o2⟩:=o;refine⟨ad,xs,U,o1,by rw[(dU.rv _ _ _ o2).length,hn,hc.1],?_⟩;exact Oh (r.x s fr) o2 hc.1 (λi hi=>of_decide_eq_true (M8.mp hc.2 i hi)) λσ' r'=>p σ' H' r'
  ·exact p.elim
 ·exact p.elim
theorem rn{is:List Nat}{n:Nat}{tg:AD}(h:XN K X e te f)(hp:PE X e te→PS X (.Assign [tg] e pos) (wF te (Wv K n (nU is))))(hn:n=is.length:=by rfl):YS K X (.Assign [tg] e pos) (wF te (Wv K n (nU is))) (wN is f):=⟨hp h.pe,rm h.ev hn⟩
def aAL:EN→List Nat→Option (List D)
 | _,[]=>ND []
 | env,i::is=>(match env[i]? with
  | some (.own d)=>(aAL env is).map (d::·)
  | _=>none)
inductive TyS(K:aF)(H:Hp):V→A6→Prop where
 | bl (x:Bool):TyS K H (.bl x) (.type "bool")
 | int (i:Int):TyS K H (.int i) (.type "int")
 | lst {a:A7} {xs:List V} (e:pQ K H a xs):TyS K H (.ref a) (.type "list")
 | tup {a:A7} {xs:List V} (e:xR K H a xs):TyS K H (.ref a) (.type "tuple")
theorem Yh:mZ X (.builtin "isinstance") (λxs H Q=>∃x T t b,xs=[x,.ty T]∧TyS X.K H x t∧K1 X.K t (.type T)=ND b∧Q (.bl b) H):=by
 intro pins s σ H xs us Q I r h;obtain⟨x,T,t,b,rfl,ty,hk,q⟩:=h;obtain⟨u,w',rfl,rx,rt⟩:=vals2 r;cases rt;cases ty with
 | bl y=>exact Tz I rx (.bl y) hk λtk=>⟨.bl b,H,I.tok _,U,q⟩
 | int i=>exact Tz I rx (.int i) hk λtk=>⟨.bl b,H,I.tok _,U,q⟩
 | @lst a xs e=>
  cases(show u=AQ a from rx)
  obtain⟨its,_,pl,_⟩:=I.list e;obtain⟨o,n,h1,h2,_⟩:=pl;exact L0 X5 I.Ht ⟨o,h1,h2⟩ hk (λz=>nomatch z) λtk=>⟨.bl b,H,I.tok _,rfl,q⟩
 | @tup a xs e=>
  cases(show u=AQ a from rx)
  obtain⟨its,_,pl,_⟩:=I.tuple e;obtain⟨o,h1,h2,_⟩:=pl;exact L0 i6 I.Ht ⟨o,h1,h2⟩ hk (λz=>nomatch z) λtk=>⟨.bl b,H,I.tok _,rfl,q⟩
def HW(T:String)(d:D):Option D:=match d with
 | .int _=>if T = "int" then ND (.bl NG)else if T = "bool" then ND (.bl NH)else none
 | .bl _=>if T = "bool" then ND (.bl NG)else none
 | .lst _=>if T = "list" then ND (.bl NG)else none
 | .tup _=>if T = "tuple" then ND (.bl NG)else none
 | _=>none
def aAM(T:String)(f:FE):FE:=λe=>(f e).bind (HW T)
def aH0(K:aF):List V→Hp→VK→Prop:=λxs H Q=>∃x T t b,xs=[x,.ty T]∧TyS K H x t∧K1 K t (.type T)=ND b∧Q (.bl b) H
theorem aGc{H:Hp}{T:String}{d r:D}{v:V}(h:HW T d=ND r)(rv:Rv K H d v):∃t b,TyS K H v t∧K1 K t (.type T)=ND b∧r=.bl b:=by
 cases d with
 | int i=>
  unfold HW at h;dsimp only at h;unfold Rv at rv;subst rv;split at h
  ·rename_i c;cases h;subst c;exact⟨_,_,.int i,GK,rfl⟩
  ·split at h
   ·rename_i c;cases h;subst c;exact⟨_,_,.int i,Xn,rfl⟩
   ·cases h
 | bl b=>
  unfold HW at h;dsimp only at h;unfold Rv at rv;subst rv;split at h
  ·rename_i c;cases h;subst c;exact⟨_,_,.bl b,Sd,rfl⟩
  ·cases h
 | lst ds=>
  unfold HW at h;dsimp only at h;unfold Rv at rv;obtain⟨a,xs,rfl,r2,_⟩:=rv;split at h
  ·rename_i c;cases h;subst c;exact⟨_,_,.lst r2,Sg,rfl⟩
  ·cases h
 | tup ds=>
  unfold HW at h;dsimp only at h;unfold Rv at rv;obtain⟨a,xs,rfl,r2,_⟩:=rv;split at h
  ·rename_i c;cases h;subst c;exact⟨_,_,.tup r2,La,rfl⟩
  ·cases h
 | _=>unfold HW at h;cases h
theorem aGd(hk:X.K=K):mZ X (.builtin "isinstance") (aH0 K):=by subst hk;exact Yh
theorem aGe{T:String}{p:Pos}{eT:AD}(h:XR K X e t f)(hT:PE X eT (tC (.ty T)))(hg:Gl X "isinstance") (hm:X.mg "isinstance" = none) (hst:AB (e::[eT]) X.env=(NH,AO e X.env)::AB [eT] X.env:=by rfl) (hst2:AB [eT] X.env=(NH,AO eT X.env)::AB [] X.env:=by rfl)
  (hpl:(AZ pos (AB [eT] X.env)).any (·.1)=NH:=by rfl):XN K X (.Call (.Name "isinstance" p) [e,eT] [] pos) (tCB (aH0 K) (cI t (cI (tC (.ty T)) lG))) (aAM T f):=
 ⟨h.hk,EY (aGd h.hk) hg hm PyProof.Rows.boot_isinstance (cH h.pe (cH hT gU hst2) hst) (by decide) (by decide) hst hpl,λσ H e d Q re q k=>by
  unfold aAM at q;obtain⟨d0,q1,q2⟩:=aX q;refine h.ev σ H H e d0 _ (Zn.self K H) re q1 λv H1 Z1 s1 t1 z1 rv=>?_;obtain⟨ty,b,b1,b2,rfl⟩:=aGc q2 (z1.sm.rv _ _ rv);exact⟨v,T,ty,b,U,b1,b2,k _ H1 s1 (.jF U (by unfold Rv;rfl))⟩⟩
structure iD(mg:Str→Option A6)(x:Str)(i:Int):Prop where
 ex:∃t,mg x=ND (.int i t)
structure aKq(K:aF)(mg:Str→Option A6)(x:Str)(ns:List Int):Prop where
 ex:∃a,mg x=ND (.ref a)∧∀H:Hp,xR K H a (ns.map V.int)
theorem nZ{x:Str}{i:Int}(G:iD X.mg x i)(hg:Gl X x)(hd:(x==("__debug__" : Str))=NH:=by decide) (hk:X.K=K:=by rfl):XN K X (.Name x pos) (tC (.int i)) (fC (.int i)):=by obtain⟨t,h⟩:=G.ex;exact⟨hk,aCq hg h ⟨t,U⟩ hd,aAp i⟩
def dTup(ns:List Int):D:=.tup (ns.map D.int)
end
def qR(n m:Nat)(g:GS):List D→Option D:=λds=>if ds.length=m then(match g (ds.map SD.fro++E7 (n-m) SD.no)with
  | .ret d=>ND d
  | .next _=>ND .non
  | _=>none)else none
theorem Oi{K:aF}{H Z:Hp}{k:Nat}:∀{ds:List D} {vs:List V},dF K Z ds vs→eN (fP K H Z) (ds.map SD.fro++E7 k SD.no) nil (vs.map ND++E7 k none)
 | [],vs,h=>by
  unfold dF at h;subst h;simp only[L3,a8]
  induction k with
  | zero=>exact⟨λ_ z=>z,U⟩
  | succ k ih=>rw[g9,g9];exact⟨none,_,nil,nil,U,λ_ z=>z.elim,λx=>⟨.inl,λz=>z.elim id id⟩,λ_ z=>z,ih⟩
 | d::ds,vs,h=>by unfold dF at h;obtain⟨y,ys,rfl,h1,h2⟩:=h;rw[D5,D5,Q1,Q1];exact⟨ND y,_,nil,nil,U,λ_ z=>z.elim,λx=>⟨.inl,λz=>z.elim id id⟩,⟨λ_ z=>z,y,U,h1⟩,Oi h2⟩
theorem Ij{K:aF}{H:Hp}{k:Nat}{ds:List D}{vs:List V}(h:dF K H ds vs):Rel K H (ds.map SD.fro++E7 k SD.no) (vs.map ND++E7 k none) H:=by have g:aU H (out H nil):=λx u e=>bB.mpr ⟨λz=>z,e⟩;exact⟨nil,Oi (g.bj _ _ h),g⟩
theorem Raw.zF{P:AI}{w:AL}{K:aF}{mg:Str→Option A6}{base:AM}{x:Str}{st:AH}{N ps:List Str}{k:Nat}{g:GS}(R:Raw K mg x st)(S:bA N ps (aL st))
  (hb:∀(kV doc pm:A6)(an:Option A7)(cdv ct:A6)(us:List A6),us.length=ps.length→DU (G2 x x (eQ st) (cC st) (aL st) .none kV doc pm an cdv ct) ⟨us,[]⟩=pure (ps.zip us))
  (hbody:∀(f:A7)(cdv:A6)(A:AN)(outer:List Env)(s:A8)(H:Hp)(E:XK),jK k (A.deeper (BT x (aL st) s.heap.objs.size f cdv)) →
   ∃t,YB K (Fd CQ P w K mg base N x (aL st) f cdv A outer s H E).ZV (cC st) t g):sJ P w K mg base x (k+1) ps.length (jA K ps.length (qR N.length ps.length g)):=by
 refine R.cal S (λvs H Q E h=>?_) hb (λf cdv A outer s H vs Q E hr h=>?_)
 ·obtain⟨ds,d,h1,h2,_⟩:=h;rw[h2.length];exact h1
 obtain⟨ds,d,h1,h2,h3,kk⟩:=h;obtain⟨t,yb⟩:=hbody f cdv A outer s H E hr;refine⟨t,yb.ps,yb.ev H _ _ H (ds.map SD.fro++E7 (N.length-ps.length) SD.no) ?_ ?_⟩
 ·have hl:vs.length=ps.length:=by rw[h2.length];exact h1
  have:=Ij (k:=N.length-ps.length) h2;unfold start;rw[hl];exact this
 ·unfold qR at h3;rw[if_pos h1]at h3;cases q:g (ds.map SD.fro++E7 (N.length-ps.length) SD.no)with
  | ret d'=>
   rw[q]at h3;cases h3;refine λv H' A' s' o=>kk v H' (s'.trans (jL _ _)) ⟨A',o,λa qa=>?_⟩;cases e:H a with
   | none=>rfl
   | some u=>exact absurd qa (bB.mp (s' a u e)).1
  | next env'=>
   rw[q]at h3;cases h3;refine λσ' H' ⟨A',_,s'⟩=>kk .non H' (s'.trans (jL _ _)) (.jF U (by unfold Rv;rfl))
  | brk env'=>rw[q]at h3;cases h3
  | cont env'=>rw[q]at h3;cases h3
  | bad=>rw[q]at h3;cases h3
  | rete d e=>rw[q]at h3;cases h3
end L2


namespace L2
open PySem PySem.Spec PyProof.Rows
section
variable{K:aF}{X:Cx}{e a b c:AD}{es:List AD}{t ta tb te:TE}{f g:FE}{tA:TA}{fs:FA}{pos:Pos}{i j:Nat}{π:FP}{st:AH}{gb:GS}{tc:TT}{fc:FT}
def Dq(f:FE):FE:=λe=>(f e).bind λd=>match d with | .int i=>ND (.int (-i)) | _=>none
theorem wO(ha:XR K X a ta f):XN K X (.UnaryOp .USub a pos) (tUn (rU λi=>.int (-i)) ta) (Dq f):=aF1 ha
theorem dz{tg elt iter:AD}{ifs:List AD}{scope:BD}{spos py:Pos}{y:Str}{wi:TI}{fi:FA}{fe:FE}(N:List Str)(fr:List Nat)(hcalm:X.calm=NG)(B:kI X.env.scope scope X.N N 1 fr)(hN:X.N.Nodup)(hy:X.N[i]?=ND y)(hx:Loc X.env.scope y)(hi:XI K X tg iter wi fi)
  (hg:∀cl fp s H C,PG (lD X scope N cl fp s H C) tg (jR 0)) (hc:∀cl fp s H C,XTs K (lD X scope N cl fp s H C) ifs tc fc) (he:∀cl fp s H C,XN K (lD X scope N cl fp s H C) elt te fe)
  (hsw:Co (.ListComp elt [⟨tg,iter,ifs,0⟩] scope pos) (ND (.Name y py)) spos.line X.env=pure NG:=by rfl)
  (hs:∀x,B3 iter X.env x=pure x:=by intro _;rfl) (hf:X.fn y=NG∨X.env.scope.names.lookup y=ND .local:=by first | exact .inl U | exact .inr U | assumption) :
  YS K X (.Assign [.Name y py] (.ListComp elt [⟨tg,iter,ifs,0⟩] scope pos) spos) (wF (FW wi 1 fr (jR 0) tc te) (jR i)) (cV i (jG fi fr fc fe)):=
 ⟨aCV N 1 fr hcalm B hN hy hx hi.pi hg (λcl fp s H C=>(hc cl fp s H C).pts) (λcl fp s H C=>(he cl fp s H C).pe) hsw hs hf,aAF (di hi.ev (hc [] [] X.s₀ X.H₀ 0).ev (he [] [] X.s₀ X.H₀ 0).ev)⟩
def EvJ(K:aF)(wi:TI)(fi:FA):Prop:=∀(σ:St)(H:Hp)(e:DE)(ds:List D)(R:It→Hp→Prop),yL K H e σ→fi e=ND ds →
 (∀J H' P vs,aU H H'→JIs J P vs→(∀H2,P H2)→(∀Z,dF K Z ds vs)→R J H')→wi σ H R
structure XJ(K:aF)(X:Cx)(tg iter:AD)(wi:TI)(fi:FA):Prop where
 pi:PI X tg iter wi
 ev:EvJ K wi fi
theorem Ay{tg:AD}{p:Pos}(hg:Gl X "range") (hm:X.mg "range" = none) (ha:XA K X [a] tA fs) (hs:AB [a] X.env=[(NH,AO a X.env)]:=by rfl):XJ K X tg (.Call (.Name "range" p) [a] [] pos) (yr tA) (rC fs):=⟨Tw hg hm ha.pa hs,λσ H e ds R re q k=>by
 unfold rC at q;obtain⟨es,q1,q2⟩:=aX q;split at q2
 ·rename_i n;split at q2
  ·rename_i hl;cases q2;have hl:=Xz hl;refine ha.ev σ H H e _ _ (Zn.self K H) re q1 λvs H1 Z1 s1 t1 z1 rs=>?_;obtain⟨v,rfl,r⟩:=sU rs;unfold Rv at r;subst r;exact⟨n,U,by omega,by omega,k _ H1 _ _ s1 Hz (λ_=>True.intro) λZ=>Ig 0 n.toNat⟩
  ·cases q2
 ·cases q2⟩
theorem aH1{tg:AD}{p:Pos}(hp:PA X [a,b] tA→PI X tg (.Call (.Name "range" p) [a,b] [] pos) (yu tA)) (ha:XA K X [a,b] tA fs):XI K X tg (.Call (.Name "range" p) [a,b] [] pos) (yu tA) (HQ fs):=⟨ha.hk,hp ha.pa,λσ H Z e ds R z re q k=>by
 unfold HQ at q;obtain⟨es,q1,q2⟩:=aX q;split at q2
 ·rename_i i j;split at q2
  ·rename_i hl;cases q2;have hl1:=Xz hl.1;have hl2:=Xz hl.2;refine ha.ev σ H Z e _ _ z re q1 λvs H1 Z1 s1 t1 z1 rs=>?_;obtain⟨v,w,rfl,r,r'⟩:=aAx rs;unfold Rv at r r';subst r r';exact⟨i,j,U,⟨by omega,by omega,by omega,by omega⟩,k _ H1 Z1 _ _ s1 t1 z1 Hz (λ_ _=>True.intro) (Ig i (j-i).toNat)⟩
  ·cases q2
 ·cases q2⟩
def xW(i:Nat)(fi:FA)(g:GS):GS:=λenv=>match fi (rE env)with
 | some xs=>By i g xs env
 | none=>.bad
theorem aDh{wi:TI}{fi:FA}{tb:TS}(hi:EvJ K wi fi)(h:DS K tb gb):DS K (Wy wi (jR i) tb) (xW i fi gb):=λB E σ H env r p=>by
 unfold xW at p;split at p
 ·rename_i xs q;refine hi σ H (rE env) xs _ r.r q λJ H1 P vs s hJ hP rvs=>?_;have hl:=(rvs H).length;refine Ln hJ (λk σ2 H2=>∃cZ,Rel K B cZ σ2 H2∧Lb K B E (By i gb (xs.drop k) cZ)) ⟨env,r.same s,by simpa using p⟩ (λk σ2 H2 _ _=>hP H2) ?_ ?_
  ·rintro k x σ2 H2 hx ⟨cZ,r2,p2⟩;have hk:k<xs.length:=by obtain⟨h1,_⟩:=D4.mp hx;omega
   rw[O0 hk]at p2;unfold By at p2;split at p2
   ·rename_i hlen;obtain⟨A2,a2,b2⟩:=r2;obtain⟨x',hx',rx⟩:=(rvs (out H2 A2)).get (B6 hk);rw[hx]at hx';cases hx';have r3:Rel K B (cZ.set i (.fro xs[k])) (σ2.set i (ND x)) H2:=Mf a2 b2 hlen (aU.refl _) (aU.refl _) (Ii a2) rx;refine h B _ _ H2 _ r3 ?_;split at p2
    ·rename_i env' q2;rw[q2];exact λσ' H' r'=>⟨env',r',p2⟩
    ·rename_i env' q2;rw[q2];exact λσ' H' r'=>⟨env',r',p2⟩
    ·rename_i env' q2;rw[q2];exact p2
    ·rename_i n1 n2 n3;cases q2:gb (cZ.set i (.fro xs[k]))with
     | next e=>exact absurd q2 (n1 e)
     | cont e=>exact absurd q2 (n2 e)
     | brk e=>exact absurd q2 (n3 e)
     | ret d=>rw[q2]at p2;exact p2
     | bad=>rw[q2]at p2;exact p2
     | rete d e=>rw[q2]at p2;exact p2
   ·exact p2.elim
  ·rintro σ2 H2 ⟨cZ,r2,p2⟩;rw[hl,U5]at p2;exact p2 σ2 H2 r2
 ·exact p.elim
theorem Mg{tg iter:AD}{body:List AH}{wi:TI}{fi:FA}{tb:TS}(hp:Dx (AG X.prog X.w) X.A X.env X.xe)(VF:X.calm=NG)(hi:XJ K X tg iter wi fi)(hg:PG X tg (jR i))(hb:YB K X body tb gb)
  (hs:∀x,B3 iter X.env x=pure x:=by intro _;rfl):YS K X (.For tg iter body [] pos) (Wy wi (jR i) tb) (xW i fi gb):=⟨Wz hp VF hi.pi hg hb.ps hs,aDh hi.ev hb.ev⟩
theorem sr{m m':Str}{apos cpos aEy aEz:Pos}(he:XR K X e te f)(hp:PE X e te→PS X (.Expr (.Call (.Attribute a m apos) [.Call (.Attribute b m' aEy) [e] [] aEz] [] cpos) pos) (kE (Hw K "list" nH (pH i) (cI (Hw K "list" Xj (pH j) (cI te lG)) lG)))):YS K X (.Expr (.Call (.Attribute a m apos) [.Call (.Attribute b m' aEy) [e] [] aEz] [] cpos) pos) (kE (Hw K "list" nH (pH i) (cI (Hw K "list" Xj (pH j) (cI te lG)) lG))) (Ax i j f):=⟨hp he.pe,qz he.ev⟩
end
theorem VL{K:aF}{st:AH}{f:A7}{fd:BE}(F:Fun K "law" "law" st f fd) (hb:∀(kV doc pm:A6)(an:Option A7)(cdv ct:A6)(u:A6),DU (G2 "law" "law" (eQ st) (cC st) (aL st) .none kV doc pm an cdv ct) ⟨[u],[]⟩=pure [(("script" : Str),u)]):∀(s:A8)(u:A6),Fk s fd ⟨[u],[]⟩ [("script", u)]:=by obtain⟨oc,od,kV,doc,pm,an,cdv,ct,osl,rfl,lk,hcd⟩:=F.ex;exact λs u=>.of_eq (hb kV doc pm an cdv ct u)
theorem nA{K:aF}{h:AM}{mg:Str→Option A6}{x:Str}{i:Int}{t:Tok}(X:K.In h)(G:h.Ns AV mg)(a:S6 K AV x=ND (ND (.int i t))):iD mg x i:=⟨t,f9 X G a⟩
end L2


namespace L2
open PySem PySem.Spec PyProof.Rows
section
variable{K:aF}{X:Cx}{e a b c:AD}{es:List AD}{t ta tb te:TE}{f g:FE}{tA:TA}{fs:FA}{pos:Pos}{i j:Nat}{π:FP}{st:AH}
variable{lo hi:Option AD}{tl th:TO}{fl fh:FO}{p2:Pos}
def aKs(a b:D):Option D:=match a,b with
 | .tup x,.tup y=>if D.eU x=NG∧D.eU y=NG∧x.length+y.length≤100000 then ND (.tup (x++y))else none
 | _,_=>none
end
end L2


namespace L2
open PySem PySem.Spec PyProof.Rows
theorem bgo(xs:Array Nat)(j:Nat):∀(fuel lo hi:Nat),hi-lo≤fuel→lo≤hi→hi≤xs.size→xs.toList.Pairwise (·<·) →
  (∀i,i<lo→xs.getD i 0<j)→(∀i,hi≤i→i<xs.size→j≤xs.getD i 0) →
  CY xs j fuel lo hi≤xs.size∧(∀i,i<CY xs j fuel lo hi→xs.getD i 0<j)∧(∀i,CY xs j fuel lo hi≤i→i<xs.size→j≤xs.getD i 0)
 | 0,lo,hi,h1,h2,h3,up,h4,h5=>by
  unfold CY;have e:lo=hi:=by omega
  subst e;exact⟨h3,h4,h5⟩
 | fuel+1,lo,hi,h1,h2,h3,up,h4,h5=>by
  unfold CY;have mono:∀a b,a<b→b<xs.size→xs.getD a 0<xs.getD b 0:=λa b q q'=>by have:=K6.mp up a b (by simp;omega) (by simpa using q') q;simp only[V3]at this;simpa[P5,q',show a<xs.size by omega]using this
  split
  ·rename_i c;have hm:(lo+hi)/2<xs.size:=by omega
   have e:xs.getD ((lo+hi)/2) j=xs.getD ((lo+hi)/2) 0:=by simp[P5,hm]
   dsimp only;rw[e];by_cases c2:xs.getD ((lo+hi)/2) 0<j
   ·rw[if_pos c2];refine bgo xs j fuel ((lo+hi)/2+1) hi (by omega) (by omega) h3 up (λi hi'=>?_) h5;rcases J2 i ((lo+hi)/2)with z | z
    ·have:=mono i _ z hm;omega
    ·have z':i=(lo+hi)/2:=by omega
     subst z';exact c2
   ·rw[if_neg c2];refine bgo xs j fuel lo ((lo+hi)/2) (by omega) (by omega) (by omega) up h4 λi hi' hs=>?_;rcases J2 ((lo+hi)/2) i with z | z
    ·have:=mono _ i z hs;omega
    ·have z':i=(lo+hi)/2:=by omega
     subst z';omega
  ·have e:lo=hi:=by omega
   subst e;exact⟨h3,h4,h5⟩
theorem below_at{xs:Array Nat}(up:xs.toList.Pairwise (·<·))(j:Nat) :
  AR xs j≤xs.size∧(∀i,i<AR xs j→xs.getD i 0<j)∧(∀i,AR xs j≤i→i<xs.size→j≤xs.getD i 0):=by
 unfold AR;exact bgo xs j xs.size 0 xs.size (by omega) (M3 _) (D1 _) up (λi h=>absurd h (I0 _)) λi h h'=>by omega
def Led(b:Bool)(t:SetTable):Prop:=t.led=b∧(t.plain=NG→t.place.toList.Pairwise (·<·)∧t.dummies=#[])
theorem Led.fresh(b:Bool):Led b (.fresh 0 0 b):=⟨U,λ_=>⟨by simp[Me],U⟩⟩
theorem Led.standIn{b:Bool}{t:SetTable}(h:Led b t)(n:Nat):Led b (t.standIn n):=⟨h.1,λq=>by simp[MW]at q⟩
theorem Led.off{b:Bool}{t:SetTable}(h:Led b t):Led b {t with plain:=NH}:=⟨h.1,λq=>by simp at q⟩
theorem pgo{t:SetTable}(hd:t.dummies=#[]){g:Nat→Int}{h:Int}:∀(fuel:Nat)(p:Mn)(j:Nat)(d:Option Nat),p.dummy=none→ER t g h fuel p=ND (.empty j d)→d=none∧t.slot j=.empty
 | 0,p,j,d,_,q=>by simp[ER]at q
 | fuel+1,p,j,d,e,q=>by
  unfold ER at q;have adv:(t.advance p).dummy=none:=by
   unfold MX;split
   ·exact e
   ·exact e
  split at q
  ·rename_i c;injection q with q;injection q with q1 q2;rw[←q1,←q2];exact⟨e,c⟩
  ·rename_i c;exfalso;unfold KU at c;dsimp only at c;split at c
   ·cases c
   ·split at c
    ·rename_i z;rw[hd]at z;simp[HM]at z
    ·cases c
  ·split at q
   ·cases q
   ·exact pgo hd fuel _ j d adv q
theorem Va{t:SetTable}(hd:t.dummies=#[]){h:Int}{j:Nat}{w:Bool}(q:t.freeSlot h=ND (j,w)):t.slot j=.empty∧w=NH:=by
 unfold MR at q;split at q
 ·rename_i j' d e;obtain⟨rfl,e2⟩:=pgo hd _ _ _ _ (by rfl) e;simp at q;obtain⟨rfl,rfl⟩:=q;exact⟨e2,U⟩
 ·cases q
theorem aAN{t:SetTable}(hd:t.dummies=#[])(up:t.place.toList.Pairwise (·<·)){j:Nat}(q:t.slot j=.empty):(t.put j).1.place.toList.Pairwise (·<·)∧(t.put j).1.dummies=#[]:=by
 obtain⟨b1,b2,b3⟩:=below_at up j;refine⟨?_,?_⟩
 ·show (MS t.place (AR t.place j) j).toList.Pairwise (·<·);rw[LF];have ne:t.place[AR t.place j]?≠ND j:=λz=>by unfold KU at q;dsimp only at q;rw[z]at q;simp at q
  have lo:∀x∈t.place.toList.take (AR t.place j),x<j:=λx hx=>by
   obtain⟨i,hi,rfl⟩:=J1 hx;rw[F3]at hi;have hs:i<t.place.size:=by simp at hi;omega
   have:=b2 i (by omega);simpa[P5,hs]using this
  have hi:∀x∈t.place.toList.drop (AR t.place j),j<x:=λx hx=>by
   obtain⟨i,hi,rfl⟩:=J1 hx;rw[N6,K3]at hi;have hs:AR t.place j+i<t.place.size:=by omega
   have h1:=b3 (AR t.place j+i) (by omega) hs;have e:(t.place.toList.drop (AR t.place j))[i]=t.place.getD (AR t.place j+i) 0:=by simp[P5,hs]
   rw[e];rcases i9 i with z | z
   ·subst z;rcases J2 j (t.place.getD (AR t.place j+0) 0)with y | y
    ·exact y
    ·refine absurd ?_ ne;have e2:t.place.getD (AR t.place j) 0=j:=by simp only[Nat.add_zero]at y h1;omega
     rw[O1 (by omega)];simpa[P5,show AR t.place j<t.place.size by omega]using e2
   ·have h0:=b3 (AR t.place j) (D1 _) (by omega);have:=K6.mp up (AR t.place j) (AR t.place j+i) (by simp;omega) (by simpa using hs) (by omega);simp only[V3]at this;have e3:t.place.getD (AR t.place j) 0<t.place.getD (AR t.place j+i) 0:=by simpa[P5,hs,show AR t.place j<t.place.size by omega]using this
    omega
  refine K7.mpr ⟨up.sublist (M5 _ _),J7.mpr ⟨hi,up.sublist (j8 _ _)⟩,λx hx y hy=>?_⟩;have h1:=lo x hx;rcases C5.mp hy with z | z
  ·omega
  ·have:=hi y z;omega
 ·show (if HM t.dummies j then _ else t.dummies)=#[];rw[hd];simp[HM]
theorem Led.lay{b:Bool}{t:SetTable}(h:Led b t)(es:Array (Int×A6))(k:Int)(x:A6):Led b (layNew t es k x).2.1:=by
 unfold layNew;split
 ·rename_i j w e;dsimp only;unfold MO;split
  ·refine⟨h.1,λq=>?_⟩;obtain⟨u,d⟩:=h.2 q;exact aAN d u (Va d e).1
  ·exact Led.standIn (t:=(t.put j).1) ⟨h.1,λq=>by
    obtain⟨u,d⟩:=h.2 q;exact aAN d u (Va d e).1⟩ _
 ·exact h.standIn _
theorem aEA{β:Type}(f:Nat→Option β):∀l:List Nat,l.Pairwise (·<·)→((l.filterMap λj=>(f j).map λy=>(j,y)).map (·.1)).Pairwise (·<·)∧∀x∈((l.filterMap λj=>(f j).map λy=>(j,y)).map (·.1)),x∈l
 | [],_=>⟨.nil,λx h=>by simp at h⟩
 | a::l,h=>by
  obtain⟨h1,h2⟩:=J7.mp h;obtain⟨i1,i2⟩:=aEA f l h2;rw[R8];cases e:f a with
  | none=>exact⟨i1,λx hx=>C6 _ (i2 x hx)⟩
  | some y=>
   refine⟨J7.mpr ⟨λx hx=>h1 x (i2 x hx),i1⟩,λx hx=>?_⟩;rcases C5.mp hx with z | z
   ·exact z▸C9
   ·exact C6 _ (i2 x z)
theorem Led.aH2{b:Bool}{t:SetTable}(h:Led b t)(es:Array (Int×A6))(n:Nat):Led b (EF t es n).2.1:=by
 unfold EF;split
 ·rename_i t' order e;dsimp only;split
  ·dsimp only;unfold Mc NA at e;obtain⟨ow,e1,e2⟩:=aX e;injection e2 with e2;injection e2 with e3 e4;rw[←e3];exact⟨h.1,λ_=>⟨by simpa using (aEA (λj=>ow.getD j none) _ T9).1,U⟩⟩
  ·exact h.standIn _
 ·exact h.standIn _
theorem Dr{α:Type}:∀(l:List α)(i:Nat)(h:i<l.length),(l[i]::l.eraseIdx i).Perm l
 | [],i,h=>absurd h (by simp)
 | a::l,0,h=>T1 _
 | a::l,i+1,h=>by have:=Dr l i (by simpa using h);simp only[List.getElem_cons_succ,N1];exact(p6 a _ _).trans (this.cons a)
theorem fj{α:Type}(next:Nat→Nat):∀(n:Nat)(left:List α)(k:Nat)(out:Array α),left.length=n→((HP next n k left out).toList).Perm (out.toList++left)
 | 0,left,k,out,hn=>by have:left=[]:=L6 hn;subst this;simp[HP]
 | n+1,left,k,out,hn=>by
  unfold HP;have hl:next k%left.length<left.length:=T2 _ (by omega)
  rw[B6 hl];dsimp only;refine(fj next n (left.eraseIdx (next k%left.length)) (k+1) _ (by rw[X1 hl];omega)).trans ?_;rw[j9,O3];exact d6 _ (Dr _ _ hl)
theorem su{α:Type}(next:Nat→Nat)(xs:Array α):(HU next xs).toList.Perm xs.toList:=by
 have:=fj next xs.size xs.toList 0 #[] (by simp)
 simpa[HU]using this
end L2


namespace L2
open PySem PySem.Spec PyProof.Rows
section
variable{prog:AI}{w:AL}{A:AN}{E:A6→A8→Prop}{s:A8}{b:Bool}
def Ds(prog:AI)(w:AL)(b:Bool)(h:AM)(a:A7)(S:Int→Bool)(n:Nat):Prop:=
 ∃o es ep t,h.get? a=ND o∧o.ExactSet∧o.data=.set es ep t∧JO (intKind prog w) es.toList∧(∀k,S k=NG↔∃e∈es.toList,(intKind prog w).is k e.2=NG)∧es.size<CO∧t.fits es.size=NG∧es.size=n∧Led b t
theorem Ds.at_{h h':AM}{a:A7}{S:Int→Bool}{n:Nat}(x:Ds prog w b h a S n)(e:∀o,h.get? a=ND o→h'.get? a=ND o):Ds prog w b h' a S n:=
 let ⟨o,es,ep,t,ho,r⟩:=x;⟨o,es,ep,t,e o ho,r⟩
theorem Ds.to{h:AM}{a:A7}{S S':Int→Bool}{n n':Nat}(x:Ds prog w b h a S n)(e:∀k,S k=S' k)(en:n=n'):Ds prog w b h a S' n':=by subst en;have:S=S':=funext e;rw[←this];exact x
theorem aEB{h:AM}{a:A7}{o:Obj}{es es':Array (Int×A6)}{ep:Nat}{t t':SetTable}{S':Int→Bool}(ho:h.get? a=ND o)(hex:o.ExactSet)(hd:o.data=.set es ep t)(hel:JO (intKind prog w) es'.toList)
  (hm:∀k,S' k=NG↔∃e∈es'.toList,(intKind prog w).is k e.2=NG) (hz:es'.size<CO) (hf:t'.fits es'.size=NG) (hl:Led b t') :
  (h.update a (IX es' t')).get? a=ND {o with data:=.set es' (ep+1) t'}∧Ds prog w b (h.update a (IX es' t')) a S' es'.size:=
 have g:=(SetOf_store (knd:=intKind prog w) ho hex hd hel hm hz hf).1
 ⟨g,_,es',ep+1,t',g,hex,U,hel,hm,hz,hf,U,hl⟩
theorem aAO{g:Bool→Sem Unit}(hg:∀(c:Bool)(s₁:A8)(Q':Unit→A8→Prop),Q' () s₁→AF (AG prog w) A (g c) Q' E s₁){a:A7}{o:Obj}{es e1:Array (Int×A6)}{ep:Nat}{t t2:SetTable}{S':Int→Bool}
  (ho:s.heap.get? a=ND o) (hex:o.ExactSet) (hd:o.data=.set es ep t) (hel:JO (intKind prog w) e1.toList) (hm:∀k,S' k=NG↔∃e∈e1.toList,(intKind prog w).is k e.2=NG) (hz:e1.size<CO) (hf:t2.fits e1.size=NG) (hl:Led b t2)
  {wd:Bool} {R:Option Bool→A8→Prop} (h:∀h',BG a s.heap h'→Ds prog w b h' a S' e1.size→R (ND NG) {s with heap:=h'}) :
  AF (AG prog w) A (do
    storeSet a e1 t2
    if(!wd&&t2.tooFull)=NG then do
      g (EF t2 e1 (BM e1.size)).2.2
      storeSet a (EF t2 e1 (BM e1.size)).1 (EF t2 e1 (BM e1.size)).2.1
      pure (ND NG)
     else pure (ND NG)) R E s:=by
 obtain⟨g1,s1⟩:=aEB (prog:=prog) (w:=w) ho hex hd hel hm hz hf hl;refine A9 (IA ho hd ?_ (ES hz));have sb:=B4 s.heap a (IX e1 t2);split
 ·have pm:=relayAll_perm t2 e1 (BM e1.size);have ff:=relayAll_fits t2 e1 (BM e1.size);have ll:=hl.aH2 e1 (BM e1.size);have sz:(EF t2 e1 (BM e1.size)).1.size=e1.size:=by rw[←K3,pm.length_eq,K3]
  have zz:(EF t2 e1 (BM e1.size)).1.size<CO:=by rw[sz];exact hz
  refine A9 (hg _ _ _ (A9 (IA g1 U ?_ (ES zz))));obtain⟨_,s2⟩:=aEB (prog:=prog) (w:=w) (S':=S') g1 hex U (hel.perm pm) (λk=>(hm k).trans ⟨λ⟨e,he,q⟩=>⟨e,pm.mem_iff.mpr he,q⟩,λ⟨e,he,q⟩=>⟨e,pm.mem_iff.mp he,q⟩⟩) zz ff ll;rw[sz]at s2;exact AE (h _ (sb.trans (B4 _ a _)) s2)
 ·exact AE (h _ sb s1)
theorem aH3{a:A7}{S:Int→Bool}{n:Nat}{k:Int}{tk:Tok}{Q:Bool→A8→Prop}(hS:Ds prog w b s.heap a S n)(room:n+1<CO)
  (h:∀h',BG a s.heap h'→Ds prog w b h' a (λj=>S j||decide (j=k)) (if S k then n else n+1)→Q (!S k) {s with heap:=h'}) :
  AF (AG prog w) A (LG a (.int k tk) ((intKind prog w).hash k)) Q E s:=by
 obtain⟨o,es,ep,t,ho,hex,hd,hel,hm,hb,hf,hn,hl⟩:=hS;have key:(intKind prog w).is k (.int k tk)=NG:=IY _ _ _ _;have sc:(CL k tk).scannable=NG:=rfl;unfold LG setAddHashedIn;refine BS (A9 (BY ho hd hf ?_));dsimp only;rw[byScan_of sc hb hel];simp only[↓reduceIte];unfold setAddByScan;refine A9 (A9 (IZ (A9 (wpAny_setScan_of key ho hd hf hel ?_))));cases hr:List.findIdx? (λe=>(intKind prog w).is k e.2) es.toList with
 | some j=>
  dsimp only;obtain⟨hj,pj,_⟩:=List.findIdx?_eq_some_iff_getElem.mp hr;have hk:S k=NG:=(hm k).mpr ⟨es.toList[j],N7 hj,pj⟩;have z:=h s.heap (MU a s.heap) ⟨o,es,ep,t,ho,hex,hd,hel,λj=>by
   rw[m8,decide_eq_true_eq,←hm j];exact⟨λq=>q.elim id λe=>by rw[e];exact hk,.inl⟩,hb,hf,by rw[hk];exact hn,hl⟩
  rw[hk]at z;exact AE (AE z)
 | none=>
  dsimp only;have hk:S k=NH:=by
   cases e:S k with
   | false=>rfl
   | true=>obtain⟨x,hx,px⟩:=(hm k).mp e;have:=List.findIdx?_eq_none_iff.mp hr x hx;rw[px]at this;cases this
  have hgw:∀(c:Bool) {s₁:A8} {Q':Unit→A8→Prop},Q' () s₁→AF (AG prog w) A (match c with | true=>rule "set.scan.the-table-gave-way" | false=>pure ()) Q' E s₁:=λc s₁ Q' q=>by
   cases c
   ·exact AE q
   ·exact IZ q
  have pm:=layNew_perm t es ((intKind prog w).hash k) (.int k tk);have ff:=layNew_fits t es ((intKind prog w).hash k) (.int k tk);have ll:=hl.lay es ((intKind prog w).hash k) (.int k tk);generalize layNew t es ((intKind prog w).hash k) (.int k tk)=Y at pm ff ll ⊢;obtain⟨e1,t1,wd,gave⟩:=Y;dsimp only at pm ff ll ⊢;rw[j9]at pm;have sz:e1.size=n+1:=by rw[←K3,pm.length_eq,C7,K3,hn];rfl
  have zz:e1.size<CO:=by omega
  have el1:=(hel.push key sc).perm pm;have m1:=mem_push_iff (k:=k) key hm pm;refine A9 (hgw _ ?_);have fin:∀h',BG a s.heap h'→Ds prog w b h' a (λj=>S j||decide (j=k)) e1.size→Q NG {s with heap:=h'}:=λh' q1 q2=>by have z:=h h' q1;rw[hk]at z;rw[sz]at q2;exact z q2
  split
  ·rw[hashByValue_scannable 8 sc];refine A9 (AE ?_);refine aAO (b:=b) (λc s₁ Q' q=>hgw c q) ho hex hd el1 m1 zz ?_ ?_ λh' q1 q2=>?_
   ·split
    ·exact ff
    ·exact LO ff
   ·split
    ·exact ll
    ·exact ll.off
   ·dsimp only;exact AE (fin h' q1 q2)
  ·refine A9 (AE ?_);simp only[↓reduceIte];refine aAO (b:=b) (λc s₁ Q' q=>hgw c q) ho hex hd el1 m1 zz ff ll λh' q1 q2=>?_;dsimp only;exact AE (fin h' q1 q2)
end
section
variable{prog:AI}{w:AL}{A:AN}{R:Ee→A8→Prop}{I:A7}{fp wr:List A7}{G:Array IF→Array IF→Prop}{n:Nat}{P:Nat→A6→Prop}{St:Nat→A8→Prop}{b:Bool}
abbrev VM(prog:AI)(w:AL)(b:Bool)(h:AM)(a:A7)(val:Nat→Int)(i:Nat):Prop:=Ds prog w b h a (λk=>(FF val i).any (·==k)) (FF val i).length
theorem aGf(W:WalksS prog w A.in1 I fp wr G n P St)(a:A7)(hf:a∉fp)(val:Nat→Int)(hval:∀i v,P i v→∃t,v=.int (val i) t)(hz:n+1<CO) :
  ∀(m i:Nat)(s:A8),n-i=m→i≤n→St i s→VM prog w b s.heap a val i→(∀s',Moved (a::wr) G s s'→VM prog w b s'.heap a val n→R (.ok (.ret .none)) s') →
   CH (AG prog w) A (.builtin "set.update.loop" ⟨[.ref a,.ref I],[]⟩) R s:=by
 have hw:a∉wr:=λz=>hf (W.sub _ z);have sub:∀c∈wr,c∈a::wr:=λc hc=>C6 _ hc;intro m
 induction m with
 | zero=>
  intro i s hk hi hst hS hR;have e:i=n:=by omega
  subst e;refine CS S7 ?_;rw[Bz O9 _];show AF _ A.in1 (DB (.ref I) >>= _) _ _ s;refine A9 (W.done s _ _ hst λs' mv=>?_);show AF _ A.in1 (ret B5) _ _ s';exact AE (hR s' (mv.mono sub) (hS.at_ λo e=>mv.heap a o hw e))
 | succ m ih=>
  intro i s hk hi hst hS hR;have lt:i<n:=by omega
  refine CS S7 ?_;rw[Bz O9 _];show AF _ A.in1 (DB (.ref I) >>= _) _ _ s;refine A9 (W.item i s _ _ lt hst λv s1 hP st1 mv=>?_);obtain⟨tk,rfl⟩:=hval i v hP;have S1:VM prog w b s1.heap a val i:=hS.at_ λo e=>mv.heap a o hw e;show AF _ A.in1 (Cb [CL (val i) tk] (setAdd a (.int (val i) tk)) >>= _) _ _ s1;unfold setAdd;refine A9 (BS (BS (A9 ((intKind prog w).pyHash (k:=val i) (IY _ _ _ _) ?_))));have room:(FF val i).length+1<CO:=by have:=HV val i;omega
  refine aH3 (s:={s1 with toks:=s1.toks+1}) S1 room λh' sb S2=>?_;have S3:VM prog w b h' a val (i+1):=S2.to (λj=>by rw[GW,step_any]) (by rw[GW,step_length]);refine AE ⟨DT O9 _,ih (i+1) _ (by omega) lt (W.frame _ s1 _ _ st1 (L9 _) λc hc o e=>?_) S3 λs2 mv2 S4=>?_⟩
  ·rw[sb.2 c λz=>hf (by rw[←z];exact hc)];exact e
  ·refine hR s2 (Moved.trans W.gtrans ((mv.mono sub).then_heap (L9 _) λc o hc e=>?_) mv2) S4;rw[sb.2 c λz=>hc (by rw[z];exact C9)];exact e
end
end L2


namespace L2
open PySem PySem.Spec PyProof.Rows
section
variable{prog:AI}{w:AL}{A:AN}{E:A6→A8→Prop}{s:A8}
abbrev uQ(b:Bool):Obj:={cls:=.type "set", dict:=none,data:=.set #[] 0 (.fresh 0 0 b)}
abbrev uR(w:AL):Bool:=!w.params.followText "set-order"
theorem aH4(a:A6){Q:A6→A8→Prop}(h:Q (.ref s.heap.objs.size) {s with heap:=s.heap.push (uQ (uR w))}) :
  CH (AG prog w) A (.call (.builtin "set.__new__") ⟨[.type "set", a],[]⟩) (wants Q E) s:=by
 refine Ic ?_;show AF _ A.in1 (checkBuiltinCall "set.__new__" ⟨[.type "set", a],[]⟩ >>= λ_=>again (.builtin "set.__new__" ⟨[.type "set", a],[]⟩)) _ _ s;refine A9 (DF (PySem.F.newCall_set_1 a) (AE ⟨DT d7 _,CS PySem.F.entry_set_new ?_⟩));rw[Bz d7 _];unfold DH.«set.__new__» KW;have sub:=sub_set_self;obtain⟨hp,g,d,tk,os⟩:=s;dsimp only
 wp_walk
 refine CB (AE ?_);dsimp only;simp only[newObj];exact A9 (wpAny_alloc (AE (AE h)))
theorem aDi(b:Bool){h:AM}{a:A7}{val:Nat→Int}(e:h.get? a=ND (uQ b)):VM prog w b h a val 0:=
 ⟨_,#[],0,_,e,⟨U,U,U⟩,U,λx hx=>by simp at hx,λk=>by simp[Kb],by decide,by rfl,U,Led.fresh b⟩
theorem aH5{l:A7}{its:Array A6}{ns:List Int}{Q:A6→A8→Prop}(hh:A.handled=none)(hl:s.heap.IsList l its)(hi:EA its.toList ns)(hz:its.size+1<CO)
  (h:∀(h':AM)(tk:Nat),VM prog w (uR w) h' s.heap.objs.size (λi=>ns.getD i 0) its.size→(∀b o,s.heap.get? b=ND o→h'.get? b=ND o)→Q (.ref s.heap.objs.size) {s with heap:=h',toks:=tk}) :
  AF (AG prog w) A (call (.type "set") [.ref l]) Q E s:=by
 obtain⟨c,tl,hmro⟩:=M9.mro;have hmade:=M9.made;have hsub:=M9.sub;refine IQ (Ic ?_);show AF _ _ (callAny (.type "set") _) _ _ _;refine AE ⟨Code.quiet_builtin _ (by decide +kernel),CS PySem.F.entry_type_call ?_⟩;rw[Around.under_plain (weight_type_call_type "set" [.ref l] []) rfl];have h1:=M9.notType;have h2:=M9.canCreate;have hct:=PySem.F.typeCall_set_1 (.ref l)
 repeat (any_goals (first | assumption | wp_step))
 refine Cf (aH4 (.ref l) (E:=E) (Q:=λv s1=>v=.ref s.heap.objs.size∧s1={s with heap:=s.heap.push (uQ (uR w))}) ⟨U,U⟩) λr s1 hr=>?_;cases r with
 | error e=>exact hr
 | ok fl=>
  cases fl with
  | ret obj=>
   obtain⟨rfl,rfl⟩:=hr;have g0:(s.heap.push (uQ (uR w))).get? s.heap.objs.size=ND (uQ (uR w)):=AK _ U;have hT:Ki {s with heap:=s.heap.push (uQ (uR w))} (.ref s.heap.objs.size) "set" := ⟨_,g0,U⟩
   have hli:=M9.init.lookup;have hbi:=M9.init.bind (.ref s.heap.objs.size)
   repeat (any_goals (first | assumption | wp_step))
   refine Cf (codeAny_call_builtin (R:=wants (λr s2=>r=.none∧∃h' tk,s2={s with heap:=h',toks:=tk}∧VM prog w (uR w) h' s.heap.objs.size (λi=>ns.getD i 0) its.size∧(∀b o,s.heap.get? b=ND o→h'.get? b=ND o)) E) M9.init.plain PySem.F.entry_set_init (check_set_init_1 hT ?_)) λr2 s2 hr2=>?_
   ·obtain⟨ol,hol,hcl,nl,hdl⟩:=hl;obtain⟨ocls,odict,odata,oslots⟩:=ol;simp only at hcl hdl;subst hcl hdl;have hol':(s.heap.push (uQ (uR w))).get? l=ND {cls:=.type "list", dict:=odict,data:=.seq its nl,slots:=oslots}:=AA _ hol;have q1:=PySem.F.sub_list_set;have q2:=PySem.F.sub_list_frozenset;have q3:(Bi "list" == Bi "dict")=NH:=by decide
    have L1:(s.heap.push (uQ (uR w))).IsList l its:=⟨_,hol',U,nl,U⟩
    unfold DH.«set.__init__» noKeywords JU;generalize hPI:HE=PI
    wp_walk
    subst hPI;refine DO L1 (A9 (JY ?_));have lt:=AJ hol;have hh3:A.in1.in1.in1.handled=none:=by simp[hh]
    have ne:l≠(s.heap.push (uQ (uR w))).objs.size:=by rw[AY];exact E9 (N2 lt)
    have nf:s.heap.objs.size∉[(s.heap.push (uQ (uR w))).objs.size,l]:=by
     rw[AY];intro z;rcases C5.mp z with z | z
     ·exact absurd z (E9 (M7 _))
     ·exact absurd (D9.mp z) (P8 lt)
    have hval:∀(i:Nat)(v:A6),its[i]?=ND v→∃t,v=.int ((λi=>ns.getD i 0) i) t:=λi v hv=>hi.int_at i v (by rw[L8];exact hv);refine aGf ((IU hh3 _ l ne its).toS) s.heap.objs.size nf (λi=>ns.getD i 0) hval hz (its.size-0) 0 _ (by omega) (M3 _) ⟨⟨_,AK _ U,U,U⟩,(L1.push _)⟩ (aDi (uR w) (AA _ g0)) λs' mv S'=>?_;obtain⟨h',g',d',tk',os'⟩:=s';have eg:g'=s.gens:=mv.gens;have ed:d'=s.drawn:=mv.drawn;have eo:os'=s.os:=mv.os;subst eg ed eo;show AF _ _ _ _ _ _;refine AE ?_;show AF _ _ (ret B5) _ _ _;refine AE ⟨U,h',tk',U,S',λb o e=>?_⟩;have lb:=AJ e;refine mv.heap b o (λz=>?_) (AA _ (AA _ e));rcases C5.mp z with z | z
    ·exact absurd z (E9 lb)
    ·have:=D9.mp z;rw[AY]at this;exact absurd this (E9 (N2 lb))
   ·cases r2 with
    | error e=>exact hr2
    | ok f2=>
     cases f2 with
     | ret r=>
      obtain⟨rfl,h',tk,rfl,S',kp⟩:=hr2
      repeat (any_goals (first | assumption | wp_step))
      exact h _ _ S' kp
     | _=>exact hr2.elim
  | _=>exact hr.elim
end
end L2


namespace L2
open PySem PySem.Spec PyProof.Rows
theorem aAP:Md.lookup (String.ofList ['r','o','t','a','r','e','t','i','_','t','e','s'].reverse)=ND Kn:=by kernel_rfl
theorem oV:Slot "set_iterator" "__next__" "set_iterator.__next__" := Slot.of (owner := "set_iterator") (n := "__next__") (by rw[Iq,Fu];kernel_rfl) (by decide +kernel) (by decide +kernel) (by decide +kernel) (by first | exact .inl (by decide +kernel) | exact .inr (by decide +kernel)) (by rw[GA];kernel_rfl)
theorem Az:LH table "set_iterator.__next__" = ND DH.«set_iterator.__next__»:=entryFor_of_tree (by kernel_rfl)
theorem Ba(a:A6):LI "set_iterator.__next__" ⟨[a],[]⟩:=by unfold LI;rw[Kj (id := "set_iterator.__next__") (n:=['_','_','t','x','e','n','_','_']) (o:=['r','o','t','a','r','e','t','i','_','t','e','s']) (by kernel_rfl) aAP];kernel_rfl
theorem gf:Slot "set_iterator" "__iter__" "set_iterator.__iter__" := Slot.of (owner := "set_iterator") (n := "__iter__") (by rw[Iq,Fu];kernel_rfl) (by decide +kernel) (by decide +kernel) (by decide +kernel) (by first | exact .inl (by decide +kernel) | exact .inr (by decide +kernel)) (by rw[GA];kernel_rfl)
theorem sy(a:A6):LI "set_iterator.__iter__" ⟨[a],[]⟩:=by unfold LI;rw[Kj (id := "set_iterator.__iter__") (n:=['_','_','r','e','t','i','_','_']) (o:=['r','o','t','a','r','e','t','i','_','t','e','s']) (by kernel_rfl) aAP];kernel_rfl
theorem tu:LH table "set_iterator.__iter__" = ND DH.«dict_keyiterator.__iter__»:=Jn (id' := "dict_keyiterator.__iter__") (by kernel_rfl) (by first | rfl | decide +kernel | (unfold String.splitOn;simp +decide [String.splitOnAux])) (by decide +kernel) (by kernel_rfl)
theorem uc:LH table "set.__iter__" = ND DH.«frozenset.__iter__»:=Jn (id' := "frozenset.__iter__") (by kernel_rfl) U (by decide +kernel) (by kernel_rfl)
def gj(h:AM)(I:A7)(f:A6)(i:Nat)(a:A7)(n ep:Nat):Prop:=∃o,h.get? I=ND o∧o.cls=.type "set_iterator" ∧ o.data=.fields #[f,.int (i:Int) 0,.ref a,.int (n:Int) 0,.int (ep:Int) 0]
def VN(h:AM)(a:A7)(es:Array (Int×A6))(ep:Nat)(t:SetTable):Prop:=∃o,h.get? a=ND o∧o.cls=.type "set" ∧ o.data=.set es ep t∧t.fits es.size=NG
theorem gj.at_{h h':AM}{I a:A7}{f:A6}{i n ep:Nat}(x:gj h I f i a n ep)(e:∀o,h.get? I=ND o→h'.get? I=ND o):gj h' I f i a n ep:=let ⟨o,ho,r⟩:=x;⟨o,e o ho,r⟩
theorem VN.at_{h h':AM}{a:A7}{es:Array (Int×A6)}{ep:Nat}{t:SetTable}(x:VN h a es ep t)(e:∀o,h.get? a=ND o→h'.get? a=ND o):VN h' a es ep t:=let ⟨o,ho,r⟩:=x;⟨o,e o ho,r⟩
section
variable{prog:AI}{w:AL}{A:AN}{E:A6→A8→Prop}{s:A8}{I a T:A7}{f:A6}{i n ep:Nat}{es:Array (Int×A6)}{t:SetTable}
theorem gj.ty(x:gj s.heap I f i a n ep):s.TypeIs (.ref I) "set_iterator" := let ⟨o,ho,hc,_⟩:=x;⟨o,ho,hc⟩
theorem VN.ty(x:VN s.heap a es ep t):s.TypeIs (.ref a) "set" := let ⟨o,ho,hc,_⟩:=x;⟨o,ho,hc⟩
theorem gq{Q:A6→A8→Prop}(x:gj s.heap I f i a n ep)(h:Q (.ref I) s):AF (AG prog w) A (HE (.ref I)) Q E s:=by refine IB x.ty gf (BN gf x.ty tu ?_ (sy _));show AF _ _ (ret (.ref I)) _ _ s;exact AE ⟨_,U, "set_iterator", _,x.ty,oV.lookup,h⟩
theorem HX{α:Type}{h1:AM}{Q0:α→A8→Prop}{E':A6→A8→Prop}(hh:A.handled=none)(hQ:∀(v:A6) h',Ki {s with heap:=h'} v "StopIteration" → (∀b o,h1.get? b=ND o→h'.get? b=ND o)→E' v {s with heap:=h'}) :
  AF (AG prog w) A.in1 (newExc (.type "StopIteration") [] >>= λe=>(raiseNew e:Sem α)) Q0 E' {s with heap:=h1}:=by
 refine A9 ?_;simp only[newExc,newTuple];refine A9 (BU (A9 (m:=KA _ _) (DF (a:=B5) (by first | rfl | (simp only[KA];rfl)) (BU ?_ (by size_fits)))) (by size_fits));simp only[raiseNew];refine A9 (wpAny_handled ?_);rw[show A.in1.handled=none from hh];refine A9 (AE (wpAny_throw ?_));refine hQ (.ref _) _ ?_ λb o e=>AA _ (AA _ e);exact⟨_,AK _ U,U⟩
theorem aDj{slot nxt:Nat}{x:A6}{Q:Option A6→A8→Prop}(hit:gj s.heap I (.int (slot:Int) 0) i a es.size ep)(hs:VN s.heap a es ep t)
  (hN:∀(Q':Option (A6×Nat)→A8→Prop) E',Q' (ND (x,nxt)) s→AF (AG prog w) A.in1 (EZ a slot i ep) Q' E' s)
  (hQ:∀h',gj h' I (.int (nxt:Int) 0) (i+1) a es.size ep→BG I s.heap h'→Q (ND x) {s with heap:=h'}):AF (AG prog w) A (DB (.ref I)) Q E s:=by
 obtain⟨o,ho,hc,hd⟩:=id hit;obtain⟨oa,ha,_,hda,hf⟩:=id hs;unfold DB;refine A9 (EM (CF (name:=FG "__next__") hit.ty oV (BN oV hit.ty Az ?_ (Ba _))));unfold DH.«set_iterator.__next__»;refine A9 (DF (a:=(AQ I,[])) U ?_);dsimp only;refine A9 (EG ho hd ?_);dsimp only;refine A9 (CC ha hda hf ?_);rw[if_neg (by simp)];dsimp only[C8];refine A9 (hN _ _ ?_);dsimp only;refine A9 (Ch ho hd (by simp) ?_);have g1:=BA (Kk (·.setIfInBounds 0 (EE (nxt:Int)))) ho (Cn (BB hd _));have d1:=BB hd (·.setIfInBounds 0 (EE (nxt:Int)));refine A9 (Ch g1 d1 (by simp) (AE ⟨x,U,AE (hQ _ ?_ ((B4 ..).trans (B4 ..)))⟩));refine⟨_,BA _ g1 (Cn (BB d1 _)),(ET ..).trans ((ET ..).trans hc),?_⟩;rw[BB d1];simp[EE]
theorem aGg{slot:Nat}{Q:Option A6→A8→Prop}(hh:A.handled=none)(hit:gj s.heap I (.int (slot:Int) 0) i a es.size ep)(hs:VN s.heap a es ep t)
  (hN:∀(Q':Option (A6×Nat)→A8→Prop) E',Q' none s→AF (AG prog w) A.in1 (EZ a slot i ep) Q' E' s)
  (hQ:∀h',(∀b o,b≠I→s.heap.get? b=ND o→h'.get? b=ND o)→Q none {s with heap:=h'}):AF (AG prog w) A (DB (.ref I)) Q E s:=by
 obtain⟨o,ho,hc,hd⟩:=id hit;obtain⟨oa,ha,_,hda,hf⟩:=id hs;unfold DB;refine A9 (EM (CF (name:=FG "__next__") hit.ty oV (BN oV hit.ty Az ?_ (Ba _))));unfold DH.«set_iterator.__next__»;refine A9 (DF (a:=(AQ I,[])) U ?_);dsimp only;refine A9 (EG ho hd ?_);dsimp only;refine A9 (CC ha hda hf ?_);rw[if_neg (by simp)];dsimp only[C8];refine A9 (hN _ _ ?_);dsimp only;refine A9 (Ch ho hd (by simp) ?_);refine HX hh λv h' ty kp=>A9 (FH ty KB ?_);exact AE (hQ h' λb o nb e=>kp b o ((B4 s.heap I _).extBut b o nb e))
theorem aDk{ps:Array A6}{c p:Nat}{tk:Tok}{hx:Int}{x:A6}{oT:Obj}{Q:Option A6→A8→Prop}(hit:gj s.heap I (.ref T) i a es.size ep)(hs:VN s.heap a es ep t)(hT:s.heap.get? T=ND oT)(hTd:oT.data=.seq ps c)(hp:ps[i]?=ND (.int (p:Int) tk))(he:es[p]?=ND (hx,x))
  (hQ:∀h',gj h' I (.ref T) (i+1) a es.size ep→BG I s.heap h'→Q (ND x) {s with heap:=h'}):AF (AG prog w) A (DB (.ref I)) Q E s:=by
 obtain⟨o,ho,hc,hd⟩:=id hit;obtain⟨oa,ha,_,hda,hf⟩:=id hs;unfold DB;refine A9 (EM (CF (name:=FG "__next__") hit.ty oV (BN oV hit.ty Az ?_ (Ba _))));unfold DH.«set_iterator.__next__»;refine A9 (DF (a:=(AQ I,[])) U ?_);dsimp only;refine A9 (EG ho hd ?_);dsimp only;refine A9 (CC ha hda hf ?_);rw[if_neg (by simp)];dsimp only[C8];refine A9 (KE hT hTd ?_);dsimp only;rw[hp];dsimp only[C8];unfold setNextDrawn;refine A9 (A9 (BY ha hda hf ?_));dsimp only;rw[if_neg (by simp),he];dsimp only;refine AE (A9 (Ch ho hd (by simp) (AE ⟨x,U,AE (hQ _ ?_ (B4 ..))⟩)));refine⟨_,BA _ ho (Cn (BB hd _)),(ET ..).trans hc,?_⟩;rw[BB hd];simp[EE]
theorem aGh{ps:Array A6}{c:Nat}{oT:Obj}{Q:Option A6→A8→Prop}(hh:A.handled=none)(hit:gj s.heap I (.ref T) i a es.size ep)(hs:VN s.heap a es ep t)(hT:s.heap.get? T=ND oT)(hTd:oT.data=.seq ps c)(hp:ps[i]?=none)
  (hQ:∀h',(∀b o,b≠I→s.heap.get? b=ND o→h'.get? b=ND o)→Q none {s with heap:=h'}):AF (AG prog w) A (DB (.ref I)) Q E s:=by
 obtain⟨o,ho,hc,hd⟩:=id hit;obtain⟨oa,ha,_,hda,hf⟩:=id hs;unfold DB;refine A9 (EM (CF (name:=FG "__next__") hit.ty oV (BN oV hit.ty Az ?_ (Ba _))));unfold DH.«set_iterator.__next__»;refine A9 (DF (a:=(AQ I,[])) U ?_);dsimp only;refine A9 (EG ho hd ?_);dsimp only;refine A9 (CC ha hda hf ?_);rw[if_neg (by simp)];dsimp only[C8];refine A9 (KE hT hTd ?_);dsimp only;rw[hp];dsimp only;refine A9 (Ch ho hd (by simp) ?_);have g1:=BA (Kk (·.setIfInBounds 0 (EE 0))) ho (Cn (BB hd _));have d1:=BB hd (·.setIfInBounds 0 (EE 0));refine A9 (Ch g1 d1 (by simp) ?_);refine HX hh λv h' ty kp=>A9 (FH ty KB ?_);exact AE (hQ h' λb o nb e=>kp b o (((B4 s.heap I _).trans (B4 _ I _)).extBut b o nb e))
theorem aGi{slot:Nat}{Q:Option (A6×Nat)→A8→Prop}(hb:uR w=NH)(hs:VN s.heap a es ep t)(h:Q (((HU (w.params.setOrder a ep) es)[i]?).map λe=>(e.2,slot)) s):AF (AG prog w) A (EZ a slot i ep) Q E s:=by
 obtain⟨oa,ha,_,hda,hf⟩:=id hs;have ft:w.params.followText "set-order" = NG:=by simpa using hb
 unfold EZ;refine A9 (BY ha hda hf ?_);dsimp only;unfold GL;refine A9 (A9 (CB (AE ?_)));dsimp only;rw[show (AG prog w).w.params.followText "set-order" = NG from ft,if_pos U,if_neg (by simp)];unfold setWalk GL;refine A9 (A9 (BY ha hda hf ?_));dsimp only;refine A9 (A9 (CB (AE ?_)));dsimp only;rw[show (AG prog w).w.params.followText "set-order" = NG from ft,if_pos rfl];refine A9 (CB (AE (AE ?_)));exact h
def Fw(t:SetTable):Nat→Nat
 | 0=>0
 | i+1=>t.place.getD i 0+1
theorem VP(up:t.place.toList.Pairwise (·<·))(hi:i≤t.place.size):AR t.place (Fw t i)=i:=by
 obtain⟨b1,b2,b3⟩:=below_at up (Fw t i);have mono:∀a b,a<b→b<t.place.size→t.place.getD a 0<t.place.getD b 0:=λa b q q'=>by have:=K6.mp up a b (by simp;omega) (by simpa using q') q;simp only[V3]at this;simpa[P5,q',show a<t.place.size by omega]using this
 rcases Nat.lt_trichotomy (AR t.place (Fw t i)) i with z | z | z
 ·cases i with
  | zero=>omega
  | succ i=>have h1:=b3 i (by omega) (by omega);rw[show Fw t (i+1)=t.place.getD i 0+1 from rfl]at h1;omega
 ·exact z
 ·have h1:=b2 i z;cases i with
  | zero=>exact absurd h1 (I0 _)
  | succ i=>rw[show Fw t (i+1)=t.place.getD i 0+1 from rfl]at h1;have:=mono i (i+1) (by omega) (by omega);omega
theorem aGj{Q:Option (A6×Nat)→A8→Prop}(hb:uR w=NG)(hs:VN s.heap a es ep t)(hl:Led (uR w) t)(hdr:(!t.plain&&decide (es.size > 1))=NH)(hi:i≤es.size)(h:Q ((es[i]?).map λe=>(e.2,Fw t (i+1))) s):AF (AG prog w) A (EZ a (Fw t i) i ep) Q E s:=by
 obtain⟨oa,ha,_,hda,hf⟩:=id hs;have ft:w.params.followText "set-order" = NH:=by simpa using hb
 have hz:t.place.size=es.size:=by simp only[NC,G9,beq_iff_eq]at hf;exact hf.1
 have up:t.place.toList.Pairwise (·<·):=by
  cases e:t.plain with
  | true=>exact(hl.2 e).1
  | false=>
   rw[e]at hdr;have:es.size≤1:=by simpa using hdr
   match h:t.place.toList with
   | []=>exact .nil
   | [x]=>simp
   | x::y::r=>have:=congrArg l0 h;simp at this;omega
 unfold EZ;refine A9 (BY ha hda hf ?_);dsimp only;unfold GL;refine A9 (A9 (CB (AE ?_)));dsimp only;rw[show (AG prog w).w.params.followText "set-order" = NH from ft,if_neg (by simp)];refine CU (λq=>?_) λ_=>?_
 ·exfalso;have q':(!t.plain&&decide (es.size > 1))=NG:=q;rw[hdr]at q';cases q'
 ·refine A9 ?_;refine CU (λq=>?_) λ_=>AE ?_
  ·exfalso;have:t.led=NG:=by rw[hl.1,hb]
   rw[this]at q;simp at q
  ·rw[VP up (by omega)];refine AE ?_;rcases J2 i es.size with z | z
   ·rw[O1 z]at h ⊢;rw[O1 (by omega)];have e:t.place[i]'(by omega)=t.place.getD i 0:=by simp[P5,show i<t.place.size by omega]
    simpa[Fw,e]using h
   ·rw[Array.getElem?_eq_none z]at h ⊢;exact h
end
end L2


namespace L2
open PySem PySem.Spec PyProof.Rows
section
variable{prog:AI}{w:AL}{A:AN}{E:A6→A8→Prop}{s:A8}{I a T:A7}{f:A6}{i n ep:Nat}{es:Array (Int×A6)}{t:SetTable}
theorem aDl{M:IL}{src:Source}{m:Nat}{Q:Nat→A8→Prop}(hm:m≠0)(h:∀i dr,i<m→Q i {s with drawn:=dr}):AF M A (choose src m) Q E s:=λ_ _ _=>⟨hm,h _ _ (T2 _ (Nat.pos_of_ne_zero hm))⟩
theorem Vb{M:IL}{α:Type}:∀(m:Nat)(xs:List α)(s:A8)(Q:List α→A8→Prop),xs.length=m→(∀ys dr,ys.Perm xs→Q ys {s with drawn:=dr})→AF M A (KL m xs) Q E s
 | 0,xs,s,Q,hn,h=>by have:xs=[]:=L6 hn;subst this;unfold KL;exact AE (h [] s.drawn (T1 _))
 | m+1,[],s,Q,hn,h=>absurd hn (by simp)
 | m+1,x::xs,s,Q,hn,h=>by unfold KL;refine A9 (aDl (by simp) λi dr hi=>?_);rw[B6 hi];dsimp only;refine A9 (Vb m ((x::xs).eraseIdx i) _ _ (by rw[X1 hi];omega) λys dr' pm=>AE ?_);exact h _ dr' ((pm.cons _).trans (Dr _ _ hi))
def Ord(S:Int→Bool)(n:Nat)(ord:List A6):Prop:=ord.length=n∧∃ns,EA ord ns∧∀k,S k=NG↔k∈ns
theorem VR{S:Int→Bool}{l:List (Int×A6)}{ord:List A6}(hel:JO (intKind prog w) l)(hm:∀k,S k=NG↔∃e∈l,(intKind prog w).is k e.2=NG)(hn:l.length=n)(pm:ord.Perm (l.map (·.2))):Ord S n ord:=by
  refine⟨by rw[pm.length_eq,B7,hn],?_⟩;have allI:∀v∈ord,∃k t,v=CL k t:=λv hv=>by obtain⟨e,he,rfl⟩:=G5.mp (pm.mem_iff.mp hv);obtain⟨⟨k,hk,_⟩,_⟩:=hel e he;obtain⟨t,ht⟩:=EO hk;exact⟨k,t,ht⟩
  have mk:∀vs:List A6,(∀v∈vs,∃k t,v=CL k t)→∃ns,EA vs ns∧∀k,k∈ns↔∃t,CL k t∈vs:=by
    intro vs
    induction vs with
    | nil=>exact λ_=>⟨[],.nil,λk=>by simp⟩
    | cons v vs ih=>
      intro hv;obtain⟨ns,h1,h2⟩:=ih λv q=>hv v (C6 _ q);obtain⟨k,t,rfl⟩:=hv v C9;refine⟨k::ns,.cons k t h1,λj=>?_⟩;rw[C5,h2];constructor
      · rintro(rfl | ⟨t',q⟩)
        · exact⟨t,C9⟩
        · exact⟨t',C6 _ q⟩
      · rintro⟨t',q⟩
        rcases C5.mp q with q | q
        · injection q with q
          exact .inl q
        · exact .inr ⟨t',q⟩
  obtain⟨ns,h1,h2⟩:=mk ord allI;refine⟨ns,h1,λk=>?_⟩;rw[hm,h2];constructor
  · rintro⟨e,he,hk⟩
    obtain⟨t,ht⟩:=EO hk;exact⟨t,pm.mem_iff.mpr (G5.mpr ⟨e,he,ht⟩)⟩
  · rintro⟨t,q⟩
    obtain⟨e,he,q⟩:=G5.mp (pm.mem_iff.mp q);exact⟨e,he,by rw[q];exact IY _ _ _ _⟩
theorem Oj(hh:A.handled=none)(ne:a≠I){slot:Nat→Nat}{ord:List A6}(hz:ord.length=es.size)
  (hN:∀(s:A8)(i:Nat)(Q':Option (A6×Nat)→A8→Prop) E',i≤es.size→VN s.heap a es ep t→Q' ((ord[i]?).map λv=>(v,slot (i+1))) s→AF (AG prog w) A.in1 (EZ a (slot i) i ep) Q' E' s) :
  Walks prog w A I [I,a] [I] es.size (λi v=>ord[i]?=ND v) (λi h=>gj h I (.int (slot i:Int) 0) i a es.size ep∧VN h a es ep t) where
 sub:=λb hb=>by simp at hb;simp[hb]
 frame:=λ_ _ _ x kp=>⟨x.1.at_ λo e=>kp I (by simp) o e,x.2.at_ λo e=>kp a (by simp) o e⟩
 item:=λi s Q E hi x hQ=>by have e:ord[i]?=ND (ord[i]'(by omega)):=B6 (by omega);refine aDj (x:=ord[i]'(by omega)) (nxt:=slot (i+1)) x.1 x.2 (λQ' E' q=>hN s i Q' E' (by omega) x.2 (by rw[e];exact q)) λh' st sb=>?_;exact hQ _ h' s.toks e ⟨st,x.2.at_ λo eo=>sb.extBut a o ne eo⟩ λb o hb eo=>sb.extBut b o (λz=>hb (by simp[z])) eo
 done:=λs Q E x hQ=>aGg hh x.1 x.2 (λQ' E' q=>hN s es.size Q' E' (D1 _) x.2 (by rw[E1 (by omega)];exact q)) λh' kp=>hQ h' s.toks λb o hb e=>kp b o (λz=>hb (by simp[z])) e
 self:=λ_ _ _ _ x hQ=>gq x.1 hQ
theorem WD(hh:A.handled=none)(ne:a≠I)(neT:T≠I){ps:List Nat}(hz:ps.length=es.size)(hp:∀p∈ps,p<es.size) :
  Walks prog w A I [I,a,T] [I] es.size (λi v=>(ps.map λp=>(es.getD p (0,.none)).2)[i]?=ND v) (λi h=>gj h I (.ref T) i a es.size ep∧VN h a es ep t∧∃o c,h.get? T=ND o∧o.data=.seq (ps.map λ(p:Nat)=>EE p).toArray c) where
 sub:=λb hb=>by simp at hb;simp[hb]
 frame:=λ_ _ _ x kp=>⟨x.1.at_ λo e=>kp I (by simp) o e,x.2.1.at_ λo e=>kp a (by simp) o e,let ⟨o,c,ho,hd⟩:=x.2.2;⟨o,c,kp T (by simp) o ho,hd⟩⟩
 item:=λi s Q E hi x hQ=>by
  obtain⟨h1,h2,oT,c,hT,hTd⟩:=x;have lt:i<ps.length:=by omega
  have lp:=hp ps[i] (N7 lt);refine aDk (p:=ps[i]) (tk:=0) (hx:=es[ps[i]].1) (x:=es[ps[i]].2) h1 h2 hT hTd (by simp[lt,EE]) (by rw[O1 lp]) λh' st sb=>?_;exact hQ _ h' s.toks (by simp[lt,P5,lp]) ⟨st,h2.at_ λo eo=>sb.extBut a o ne eo,oT,c,sb.extBut T oT neT hT,hTd⟩ λb o hb eo=>sb.extBut b o (λz=>hb (by simp[z])) eo
 done:=λs Q E x hQ=>by obtain⟨h1,h2,oT,c,hT,hTd⟩:=x;exact aGh hh h1 h2 hT hTd (by simp[hz]) λh' kp=>hQ h' s.toks λb o hb e=>kp b o (λz=>hb (by simp[z])) e
 self:=λ_ _ _ _ x hQ=>gq x.1 hQ
theorem aAQ{S:Int→Bool}{Q:A6→A8→Prop}(hh:A.handled=none)(hs:Ds prog w (uR w) s.heap a S n)
    (h:∀(h1:AM)(dr:IJ)(I:A7)(fp:List A7)(ord:List A6)(St:Nat→AM→Prop),(∀b o,s.heap.get? b=ND o→h1.get? b=ND o)→Walks prog w A I fp [I] n (λi v=>ord[i]?=ND v) St→St 0 h1→(∀x∈fp,x=a∨s.heap.objs.size≤x)→s.heap.objs.size≤I→Ord S n ord→Q (.ref I) {s with heap:=h1,drawn:=dr}) :
    AF (AG prog w) A (HE (.ref a)) Q E s:=by
  obtain⟨o,es,ep,t,ho,hex,hd,hel,hm,hz,hf,hn,hl⟩:=hs;have sat:VN s.heap a es ep t:=⟨o,ho,hex.1,hd,hf⟩
  have lt:=AJ ho;subst hn;refine IB sat.ty d8 (BN d8 sat.ty uc ?_ (PySem.F.args_set_iter_1 _));unfold DH.«frozenset.__iter__» LP;refine A9 (A9 (DF (a:=(AQ a,[])) U ?_));unfold LJ LL;refine AE (A9 (A9 (CC ho hd hf (AE ?_))));unfold setDrawn GL;refine A9 (A9 (BY ho hd hf ?_));dsimp only;refine A9 (A9 (CB (AE ?_)));refine AE ?_;refine CU (λc=>?_) λc=>?_
  · have c':(uR w&&(!t.plain&&decide (es.size > 1)))=NG:=c
    rw[G9]at c';refine A9 (Vb es.size (D2 es.size) s _ (by simp) λps dr pm=>?_);have lps:ps.length=es.size:=by rw[pm.length_eq,E3]
    have hp:∀p∈ps,p<es.size:=λp hp=>F5.mp (pm.mem_iff.mp hp);refine A9 (wpAny_newTuple ?_ (by rw[B7,lps];exact ES hz));have g1:(s.heap.push {cls:=.type "tuple", data:=.seq (ps.map λ(i:Nat)=>EE i).toArray}).get? a=ND o:=AA _ ho;refine A9 (IC g1 hd hf ?_);refine A9 (BU (AE ⟨_,U, "set_iterator", _,⟨_,AK _ U,U⟩,oV.lookup,?_⟩));refine h _ dr _ _ (ps.map λp=>(es.getD p (0,.none)).2) _ (λb o e=>AA _ (AA _ e)) (WD (T:=s.heap.objs.size) (t:=t) (ep:=ep) hh ?_ ?_ lps hp) ⟨⟨_,AK _ U,U,U⟩,sat.at_ λo e=>AA _ (AA _ e),_,_,AA _ (AK _ U),U⟩ ?_ ?_ ?_
    · show a≠(s.heap.push _).objs.size
      rw[AY];exact E9 (N2 lt)
    · show s.heap.objs.size≠(s.heap.push _).objs.size
      rw[AY];exact E9 (M7 _)
    · intro x hx
      rcases C5.mp hx with z | z
      · rw[z]
        show _∨s.heap.objs.size≤(s.heap.push _).objs.size;rw[AY];exact .inr (L9 _)
      · rcases C5.mp z with z | z
        · exact .inl z
        · rw[D9.mp z]
          exact .inr (D1 _)
    · show s.heap.objs.size≤(s.heap.push _).objs.size
      rw[AY];exact L9 _
    · refine VR (prog:=prog) (w:=w) hel hm (by simp) ?_
      have e:es.toList.map (·.2)=(D2 es.size).map λp=>(es.getD p (0,.none)).2:=by refine Y1 (by simp) λk k1 k2=>?_;simp at k1;simp[P5,k1]
      rw[e];exact pm.map _
  · refine A9 (AE ?_)
    refine A9 (IC ho hd hf ?_);refine A9 (BU (AE ⟨_,U, "set_iterator", _,⟨_,AK _ U,U⟩,oV.lookup,?_⟩));have ne:a≠s.heap.objs.size:=E9 lt;have fp':∀x∈[s.heap.objs.size,a],x=a∨s.heap.objs.size≤x:=λx hx=>by
      rcases C5.mp hx with z | z
      · exact .inr (i5 z.symm)
      · exact .inl (D9.mp z)
    cases hb:uR w with
    | false=>have pm:=su (w.params.setOrder a ep) es;refine h _ s.drawn _ _ ((HU (w.params.setOrder a ep) es).toList.map (·.2)) _ (λb o e=>AA _ e) (Oj (t:=t) (ep:=ep) (slot:=λ_=>0) hh ne (by rw[B7,pm.length_eq,K3]) λs i Q' E' hi x q=>?_) ⟨⟨_,AK _ U,U,U⟩,sat.at_ λo e=>AA _ e⟩ fp' (D1 _) (VR (prog:=prog) (w:=w) hel hm (by simp) (pm.map _));refine aGi hb x ?_;rw[C4,L8,p7]at q;exact q
    | true=>
      have c':(!t.plain&&decide (es.size > 1))=NH:=by have c2:¬(uR w&&(!t.plain&&decide (es.size > 1)))=NG:=c;rw[hb,Bool.true_and]at c2;simpa using c2
      refine h _ s.drawn _ _ (es.toList.map (·.2)) _ (λb o e=>AA _ e) (Oj (t:=t) (ep:=ep) (slot:=Fw t) hh ne (by simp) λs i Q' E' hi x q=>?_) ⟨⟨_,AK _ U,U,U⟩,sat.at_ λo e=>AA _ e⟩ fp' (D1 _) (VR (prog:=prog) (w:=w) hel hm (by simp) (T1 _));refine aGj hb x hl c' hi ?_;rw[C4,L8,p7]at q;exact q
end
end L2


namespace L2
open PySem PySem.Spec PySem.Calls PyProof.Rows PyProof.V
section
variable{prog:AI}{w:AL}{A:AN}{E:A6→A8→Prop}{s:A8}{I a T:A7}{n:Nat}{S:Int→Bool}
theorem aAR{Q:Bool→A8→Prop}(hT:s.TypeIs (.ref a) "set") (h:Q NH s):AF (AG prog w) A (EK (.ref a)) Q E s:=by
 unfold EK;refine A9 (IT hT PySem.F.slot_set_len.lookup ?_);generalize hid:("set.__len__" : String)=id0
 wp_delta
 rw[show splitId id0=ND ("set", "__len__")from by subst hid;decide +kernel];subst hid;refine A9 (FH (T := "set") (b:=NG) hT (by rw[GA];kernel_rfl) (CU (λz=>absurd z (by decide)) λ_=>CU (λ_=>?_) λz=>absurd (by decide +kernel) z));exact A9 (LM hT (AE h))
theorem aDm{R:Ee→A8→Prop}(hh:A.handled=none)(hs:Ds prog w (uR w) s.heap a S n)(hz:n≤sizeLine)(L:A7)(ne:L≠a)(hL:s.heap.get? L=ND {cls:=.type "list", data:=.seq #[] 0})
    (hR:∀h' dr tk acc c,(∀b o,b≠L→s.heap.get? b=ND o→h'.get? b=ND o)→h'.get? L=ND {cls:=.type "list", dict:=none,data:=.seq acc c,slots:=#[]}→Ord S n acc.toList→R (.ok (.ret (.ref L))) {s with heap:=h',drawn:=dr,toks:=tk}) :
    AF (AG prog w) A.in1 (Ct (.ref L) (.ref a) (.ref L)) (λfin s'=>match fin with | .done f=>R (.ok f) s' | .again c'=>c'.quiet=NG∧CH (AG prog w) A c' R s') (λe s'=>R (.error e) s') s:=by
  have lt:L<s.heap.objs.size:=AJ hL;have ty:s.TypeIs (.ref a) "set" := let ⟨o,_,_,_,ho,hex,_⟩:=hs;⟨o,ho,hex.1⟩;unfold Ct;refine A9 (LM (T := "set") ty ?_);have h1:FI (.ref L) (.ref a)=NH:=by simp[FI,ne]
  have h2:(Bi "set" == Bi "list")=NH:=by decide
  have h3:(Bi "set" == Bi "tuple")=NH:=by decide
  simp only[h1,h2,h3,t8,W8,if_false];refine A9 (aAQ (A:=A.in1) hh hs λh0 dr I fp ord St kp W st fpo lI od=>?_);have hL1:=kp _ _ hL;have nf:L∉fp:=λz=>by
    rcases fpo L z with z | z
    · exact ne z
    · exact absurd lt (Nat.not_lt.mpr z)
  have nI:∀b o,s.heap.get? b=ND o→b≠I:=λb o e=>E9 (E5 (AJ e) lI);have key:∀(h:AM)(c1 tk:Nat),St 0 h→(∀b o,b≠L→s.heap.get? b=ND o→h.get? b=ND o)→h.get? L=ND {cls:=.type "list", data:=.seq #[] c1}→CH (AG prog w) A (.builtin "list.extend.loop" ⟨[.ref L,.ref I,.ref L],[]⟩) R {s with heap:=h,drawn:=dr,toks:=tk}:=by
    intro h c1 tk st0 k0 g0;refine codeAny_extend_loopS W.toS hz L nf (.ref L) n 0 _ #[] c1 U (M3 _) st0 g0 (ItemsOf.nil _) λs' acc c mv g' it=>?_;rw[Moved.eq_with mv];refine hR s'.heap dr s'.toks acc c (λb o nb e=>mv.heap b o (λz=>?_) (k0 b o nb e)) g' ?_
    · rcases C5.mp z with z | z
      · exact nb z
      · exact nI b o e (D9.mp z)
    · have e:acc.toList=ord:=by
        refine K5 λj=>?_;rcases J2 j acc.size with z | z
        · have e1:acc[j]?=ND acc[j]:=O1 z
          rw[L8,e1,it.2 j _ e1]
        · rw[E1 (by simpa using z),E1 (by have:=it.1;have:=od.1;omega)]
      rw[e];exact od
  refine A9 (BS (aAR (hT:=let ⟨o,ho,hc⟩:=ty;⟨o,kp _ _ ho,hc⟩) ?_));refine CU (λ_=>?_) λ_=>AE ⟨DT X8 _,key _ 0 _ st (λb o _ e=>kp b o e) hL1⟩;refine A9 (IZ (A9 ?_));show AF _ _ (updateSeq L (·.push .none) >>= λ_=>updateSeq L (·.pop)) _ _ _;refine A9 (Iy hL1 U ?_);have g2:=BA (DM (·.push B5)) hL1 U;refine Iy (hz:=by seq_fits) g2 U ?_;have g3:=BA (DM (·.pop)) g2 U;refine AE ⟨DT X8 _,key _ _ _ (W.frame 0 _ _ st λb hb o e=>?_) (λb o hb e=>?_) g3⟩
  · have nb:b≠L:=λz=>nf (z▸hb)
    exact(BC _ _ (Ne.symm nb)).trans ((BC _ _ (Ne.symm nb)).trans e)
  · exact(BC _ _ (Ne.symm hb)).trans ((BC _ _ (Ne.symm hb)).trans (kp b o e))
theorem HY{R:List A6→A8→Prop}(hh:A.handled=none)(hs:Ds prog w (uR w) s.heap a S n)(hz:n≤sizeLine)
  (h:∀(h':AM)(dr:IJ)(tk:Nat)(acc:List A6),(∀b o,s.heap.get? b=ND o→h'.get? b=ND o)→Ord S n acc→R acc {s with heap:=h',drawn:=dr,toks:=tk}):AF (AG prog w) A (collect (.ref a)) R E s:=by
 have lt:a<s.heap.objs.size:=let ⟨o,_,_,_,ho,_⟩:=hs;AJ ho;unfold collect;refine A9 (JY (CS entry_proto_collect' ?_));rw[Bz PySem.F.plain_proto_collect _];show AF _ A.in1 (newList [] >>= λl=>again (.builtin "list.__iadd__" ⟨[l,.ref a],[]⟩)) _ _ s;refine A9 (BU (AE ⟨DT Z7 _,CS entry_list_iadd' ?_⟩));rw[Bz Z7 _];have g1:(s.heap.push {cls:=.type "list", data:=.seq ([]:List A6).toArray}).get? s.heap.objs.size=ND {cls:=.type "list", data:=.seq #[]}:=AK _ U;show AF _ A.in1 (Ct (.ref s.heap.objs.size) (.ref a) (.ref s.heap.objs.size)) _ _ _;have key:=aDm (A:=A) (s:={s with heap:=s.heap.push {cls:=.type "list", data:=.seq ([]:List A6).toArray}})
  (R:=λ(q:Ee) (s':A8)=>∃(h':AM)(dr:IJ)(tk:Nat)(acc:Array A6)(c:Nat),q=.ok (.ret (.ref s.heap.objs.size))∧s'={s with heap:=h',drawn:=dr,toks:=tk}∧(∀b o,s.heap.get? b=ND o→h'.get? b=ND o)∧h'.get? s.heap.objs.size=ND {cls:=.type "list", dict:=none,data:=.seq acc c,slots:=#[]}∧Ord S n acc.toList)
  hh (hs.at_ λo e=>AA _ e) hz s.heap.objs.size (P8 lt) g1 λh' dr tk acc c kp g od=>⟨h',dr,tk,acc,c,U,U,λb o e=>kp b o (E9 (AJ e)) (AA _ e),g,od⟩
 refine AX key (λfin s' x=>?_) λe s' x=>?_
 ·cases fin with
  | done f=>
   obtain⟨h',dr,tk,acc,c,e,rfl,kp,g,od⟩:=x;cases e;show AF _ A (load s.heap.objs.size >>= _) _ _ _;exact A9 (IP g (AE (h h' dr tk acc.toList kp od)))
  | again c1=>refine⟨x.1,Cf x.2 λq s2 y=>?_⟩;obtain⟨h',dr,tk,acc,c,rfl,rfl,kp,g,od⟩:=y;show AF _ A (load s.heap.objs.size >>= _) _ _ _;exact A9 (IP g (AE (h h' dr tk acc.toList kp od)))
 ·obtain⟨_,_,_,_,_,e',_⟩:=x;cases e'
end
end L2


namespace L2
open PySem PySem.Spec PySem.Calls PyProof.Rows PyProof.V
def Ol(k:Int):List Int→List Int
 | []=>[k]
 | a::l=>if k<a then k::a::l else if k=a then a::l else a::Ol k l
theorem Om(k j:Int):∀l:List Int,j∈Ol k l↔j=k∨j∈l
  | []=>by simp[Ol]
  | a::l=>by
    unfold Ol;split
    · simp
    · split
      · rename_i e
        subst e;simp
      · rw[C5,Om k j l,C5]
        constructor
        · rintro(h | h | h)
          · exact .inr (.inl h)
          · exact .inl h
          · exact .inr (.inr h)
        · rintro(h | h | h)
          · exact .inr (.inl h)
          · exact .inl h
          · exact .inr (.inr h)
theorem gr(k:Int):∀l:List Int,l.Pairwise (·<·)→(Ol k l).Pairwise (·<·)
 | [],_=>by simp[Ol]
 | a::l,h=>by
  obtain⟨h1,h2⟩:=J7.mp h;unfold Ol;split
  ·rename_i c;refine J7.mpr ⟨λx hx=>?_,h⟩;rcases C5.mp hx with z | z
   ·omega
   ·have:=h1 x z;omega
  ·split
   ·exact h
   ·refine J7.mpr ⟨λx hx=>?_,gr k l h2⟩
    rcases(Om k x l).mp hx with z | z
    ·omega
    ·exact h1 x z
def RD:List Int→List Int
 | []=>[]
 | a::l=>Ol a (RD l)
theorem Bb(j:Int):∀ns:List Int,j∈RD ns↔j∈ns
 | []=>Iff.rfl
 | a::l=>by rw[RD,Om,Bb j l,C5]
theorem WK:∀ns:List Int,(RD ns).Pairwise (·<·)
 | []=>.nil
 | a::l=>gr a _ (WK l)
theorem aGk{ns ms:List Int}(h:ms.Pairwise (·<·))(m:∀k,k∈ms↔k∈ns):ms=RD ns:=pU h (WK ns) λj=>(m j).trans (Bb j ns).symm
theorem IK(k:Int):∀l:List Int,(Ol k l).length≤l.length+1
 | []=>by simp[Ol]
 | a::l=>by
  unfold Ol;split
  ·simp
  ·split
   ·simp
   ·have:=IK k l;simp only[D8];omega
theorem gw:∀ns:List Int,(RD ns).length≤ns.length
 | []=>D1 _
 | a::l=>by have:=IK a (RD l);have:=gw l;simp only[RD,D8];omega
theorem Oo{α:Type} [DecidableEq α]:∀{l m:List α},l.Nodup→(∀x∈l,x∈m)→m.length≤l.length→l.Perm m
 | [],m,_,_,h=>by have:m=[]:=L6 (by simpa using h);subst this;exact T1 _
 | a::l,m,hn,hs,hl=>by
  obtain⟨h1,h2⟩:=E8.mp hn;have ha:=hs a C9;have e:=List.perm_cons_erase ha;refine List.Perm.trans (List.Perm.cons a (Oo h2 (λx hx=>?_) ?_)) e.symm
  ·have ne:x≠a:=λz=>by rw[z]at hx;exact h1 hx
   exact(List.mem_erase_of_ne ne).mpr (hs x (C6 _ hx))
  ·rw[Y2 ha];simp only[D8]at hl;omega
theorem sV(val:Nat→Int):∀i,(FF val i).Nodup
 | 0=>by rw[Kb];exact c9
 | i+1=>by
  rw[GW];unfold step_dedup;have ih:=sV val i;split
  ·exact ih
  ·rename_i c;refine P4.mpr ⟨ih,by simp,λx hx y hy=>?_⟩;rw[D9.mp hy];intro z;subst z;exact c (U4.mpr ⟨_,hx,by simp⟩)
theorem ud{ns ks ms:List Int}(hk:∀k,(FF (λi=>ns.getD i 0) ns.length).any (·==k)=NG↔k∈ks)(hl:ks.length=(FF (λi=>ns.getD i 0) ns.length).length)(hm:ms.Perm ks)(hs:ms.Pairwise (·≤·)):ms=RD ns:=by
 have hmem:∀k,k∈ks↔k∈ns:=λk=>by
  rw[←hk,firstMet_any];have e:(D2 ns.length).map (λi=>ns.getD i 0)=ns:=by refine Y1 (by simp) λi h1 h2=>?_;simp[B8,h2]
  rw[e,U4];exact⟨λ⟨x,hx,q⟩=>by rw[←(beq_iff_eq.mp q)];exact hx,λh=>⟨k,h,by simp⟩⟩
 have nd:ks.Nodup:=by have p:=Oo (sV (λi=>ns.getD i 0) ns.length) (m:=ks) (λx hx=>(hk x).mp (U4.mpr ⟨x,hx,by simp⟩)) (by omega);exact p.nodup_iff.mp (sV _ _)
 refine aGk ?_ λk=>(hm.mem_iff).trans (hmem k);have ndm:=hm.nodup_iff.mpr nd;exact(hs.and ndm).imp λq=>by have:=q.1;have:=q.2;omega
section
variable{X:Cx}{e:AD}{t:TE}{x y:Str}{p p2 pos pos2:Pos}
theorem aDn{T id:String}{r:V→Hp→VK→Prop}(hc:∀(pins:List (A7×Obj))(s:A8)(σ:St)(H:Hp)(v:V)(u:A6)(Q:VK),Inv X pins σ H s→RelV v u→r v H Q→AF (AG X.prog X.w) X.A (call (.type T) [u]) (λu' s'=>AF (AG X.prog X.w) X.A (call (.builtin id) [u']) (EP X pins σ Q) X.xe s') X.xe s)
  (ha:PE X e t) (hg:Gl X x) (hm:X.mg x=none) (hv:AU x=ND (.builtin id)) (hg2:Gl X y) (hm2:X.mg y=none) (hv2:AU y=ND (.type T)) (hn:x ≠ "__name__" := by decide) (hdb:(x==("__debug__" : Str))=NH:=by decide) (hn2:y ≠ "__name__" := by decide) (Oq:(y==("__debug__" : Str))=NH:=by decide)
  (he:AB [e] X.env=[(NH,AO e X.env)]:=by rfl) (he2:AB [.Call (.Name y p2) [e] [] pos2] X.env=[(NH,AO (.Call (.Name y p2) [e] [] pos2) X.env)]:=by rfl) :
  PE X (.Call (.Name x p) [.Call (.Name y p2) [e] [] pos2] [] pos) (tUn r t):=by
 intro pins s σ H Q I h;refine Ap (sI I hg hm hv ?_ hn hdb);refine V2 ?_ he2 U;rw[he2];refine BF (Ap (sI I hg2 hm2 hv2 ?_ hn2 Oq));refine J6 ?_ he U;rw[he];exact BF (iM (ha pins s σ H _ I h) λu s1 ⟨v,H1,I1,r1,q1⟩=>BI (iM (hc pins s1 σ H1 v u Q I1 r1 q1) λu' s' z=>BI z))
theorem aDo{T id:String}{r:V→Hp→VK→Prop}(hc:∀(pins:List (A7×Obj))(s:A8)(σ:St)(H:Hp)(v:V)(u:A6)(Q:VK),Inv X pins σ H s→RelV v u→r v H Q→AF (AG X.prog X.w) X.A (call (.type T) [u]) (λu' s'=>AF (AG X.prog X.w) X.A (call (.type id) [u']) (EP X pins σ Q) X.xe s') X.xe s)
  (ha:PE X e t) (hg:Gl X x) (hm:X.mg x=none) (hv:AU x=ND (.type id)) (hg2:Gl X y) (hm2:X.mg y=none) (hv2:AU y=ND (.type T)) (hn:x ≠ "__name__" := by decide) (hdb:(x==("__debug__" : Str))=NH:=by decide) (hn2:y ≠ "__name__" := by decide) (Oq:(y==("__debug__" : Str))=NH:=by decide)
  (he:AB [e] X.env=[(NH,AO e X.env)]:=by rfl) (he2:AB [.Call (.Name y p2) [e] [] pos2] X.env=[(NH,AO (.Call (.Name y p2) [e] [] pos2) X.env)]:=by rfl) :
  PE X (.Call (.Name x p) [.Call (.Name y p2) [e] [] pos2] [] pos) (tUn r t):=by
 intro pins s σ H Q I h;refine Ap (sI I hg hm hv ?_ hn hdb);refine J6 ?_ he2 U;rw[he2];refine BF (Ap (sI I hg2 hm2 hv2 ?_ hn2 Oq));refine J6 ?_ he U;rw[he];exact BF (iM (ha pins s σ H _ I h) λu s1 ⟨v,H1,I1,r1,q1⟩=>BI (iM (hc pins s1 σ H1 v u Q I1 r1 q1) λu' s' z=>BI z))
theorem Inv.drew{pins:List (A7×Obj)}{σ:St}{H:Hp}{s:A8}(J:Inv X pins σ H s)(dr:IJ):Inv X pins σ H {s with drawn:=dr}:=⟨J.ok,J.os,J.bare,J.base,J.loc,J.cell,J.free,J.xQ,J.pin,J.hok,J.len⟩
def aEC(K:aF):V→Hp→VK→Prop:=λv H Q=>∃(p:A7)(ns:List Int),v=.ref p∧pQ K H p (ns.map V.int)∧ns.length<64∧∀l,H l=none→Q (.ref l) (upd H l (.lst ((RD ns).map V.int)))
theorem aGl(hc:X.calm=NG)(pins:List (A7×Obj))(s:A8)(σ:St)(H:Hp)(v:V)(u:A6)(Q:VK)(I:Inv X pins σ H s)(rv:RelV v u)(h:aEC X.K v H Q) :
  AF (AG X.prog X.w) X.A (call (.type "set") [u]) (λu' s'=>AF (AG X.prog X.w) X.A (call (.builtin "sorted") [u']) (EP X pins σ Q) X.xe s') X.xe s:=by
 obtain⟨p,ns,rfl,hq,h64,q⟩:=h;cases rv;obtain⟨its,r,pl,hz⟩:=I.list hq;have hlen:=r.length;rw[B7]at hlen;refine aH5 (its:=its.toArray) (ns:=ns) (I.ok.hd hc) pl.isList (by simpa using intsAre_of r) (by rw[D3];unfold CO;omega) λh1 tk1 S1 kp1=>?_;have I1:Inv X pins σ H {s with heap:=h1,toks:=tk1}:=I.kept (t':=tk1) kp1;have ez:its.toArray.size=ns.length:=by simp[hlen]
 rw[ez]at S1;have hfl:=HV (λi=>ns.getD i 0) ns.length;refine Calls.call_function_entry kind_sorted plain_sorted entry_sorted (args_sorted1 _) ?_;unfold DH.«sorted»;refine A9 (m:=checkCount "sorted" 1 1 _) (AE (A9 (HY (A:=X.A.in1) (I.ok.hd hc) S1 (O8 (rY (by omega))) λh2 dr tk2 acc kp2 od=>?_)));obtain⟨al,ks,ik,mk⟩:=od;have hla:ks.length=acc.length:=(IntsAre.length ik).symm;refine A9 (wpAny_newList ?_ (by rw[al];exact O8 (rY (by omega))));have hoL:(h2.push (Fs "list" acc.toArray 0)).get? h2.objs.size=ND (Fs "list" acc.toArray 0):=AK _ U;refine A9 (BS (BN slot_list_sort ⟨_,hoL,U⟩ entry_list_sort (list_sort_tree hoL ik (by omega) λout ns' a1 a2 a3=>⟨_,U,?_⟩) (args_list_sort _)));refine AE ⟨_,U,?_⟩;obtain⟨e,he⟩:=sortedHeap_at (out:=out) hoL;have I2:Inv X pins σ H {s with heap:=h2,drawn:=dr,toks:=tk2}:=(I1.kept (t':=tk2) kp2).drew dr;have hs:H h2.objs.size=none:=I2.hok.fresh (D1 _);have hl2:ns'.length=ks.length:=a2.length_eq;have I3:=I2.laid (t':=tk2) (a:=h2.objs.size) (o:=.lst (ns'.map V.int)) (h':=sortedHeap (h2.push (Fs "list" acc.toArray 0)) h2.objs.size acc out)
  (λb o eb=>by
   have hlt:=AJ eb;rw[sortedHeap_old (E9 hlt) (by rw[AY];exact N2 hlt)];exact AA _ eb) (D1 _)
  ⟨by rw[B7];exact O8 (rY (by omega)),out.toList,e,Ao a1,by simpa[Fs]using he⟩
 rw[ud mk (by omega) a2 a3]at I3;exact⟨.ref _,_,I3,U,q _ hs⟩
end
end L2


namespace L2
open PySem PySem.Spec PySem.Calls PyProof.Rows PyProof.V
section
variable{prog:AI}{w:AL}{A:AN}{E:A6→A8→Prop}{s:A8}{I l:A7}
end
section
variable{K:aF}{X:Cx}{e:AD}{t:TE}{f:FE}{x y:Str}{p p2 pos pos2:Pos}
def pJ(φ:D→Option D)(f:FE):FE:=λe=>(f e).bind φ
def ie:D→Option D
 | .lst ds=>(intsOf ds).bind λns=>if ns.length<64 then ND (.lst ((RD ns).map D.int))else none
 | _=>none
theorem aDp(h:XR K X e t f)(hg:Gl X x)(hm:X.mg x=none)(hv:AU x=ND (.builtin "sorted")) (hg2:Gl X y) (hm2:X.mg y=none) (hv2:AU y=ND (.type "set")) (hc:X.calm=NG:=by rfl) (hn:x ≠ "__name__" := by decide) (hdb:(x==("__debug__" : Str))=NH:=by decide) (hn2:y ≠ "__name__" := by decide) (Oq:(y==("__debug__" : Str))=NH:=by decide)
  (he:AB [e] X.env=[(NH,AO e X.env)]:=by rfl) (he2:AB [.Call (.Name y p2) [e] [] pos2] X.env=[(NH,AO (.Call (.Name y p2) [e] [] pos2) X.env)]:=by rfl) :
  XN K X (.Call (.Name x p) [.Call (.Name y p2) [e] [] pos2] [] pos) (tUn (aEC K) t) (pJ ie f):=⟨h.hk,aDn (by have:=h.hk;subst this;exact aGl hc) h.pe hg hm hv hg2 hm2 hv2 hn hdb hn2 Oq he he2,λσ H e d Q re q k=>by
 obtain⟨d0,q1,q2⟩:=aX q;unfold ie at q2;split at q2
 ·obtain⟨ns,q3,q4⟩:=aX q2;split at q4
  ·rename_i hl;cases q4;refine h.ev σ H H e _ _ (Zn.self K H) re q1 λv H1 Z1 s1 t1 z1 rv=>?_;obtain⟨p,rfl,r2⟩:=yZ q3 (z1.sm.rv _ _ rv);exact⟨p,ns,U,r2,hl,λl hl=>k _ _ (s1.trans (cP hl _)) ((rH (aU.refl _) (.eU (dG _) (jM.mpr U)) hl).back s1)⟩
  ·cases q4
 ·cases q2⟩
end
end L2


namespace L2
open PySem PySem.Spec PySem.Calls PyProof.Rows PyProof.V PySem.W Att
abbrev Small(k:Int):Prop:=CD k≤1048576
theorem aAS{ns:List Int}(h:WData.layableAll [WData.list (ns.map WData.int)]=NG):∀k∈ns,Small k:=λk hk=>by
 have h1:(WData.list (ns.map WData.int)).layable=NG:=by simpa[WData.layableAll]using h
 obtain⟨c,_,w⟩:=layableW_iff.mp h1;have c':WData.canLayAll (ns.map WData.int)=NG:=by simpa[WData.canLay]using c
 have w':WData.weightAll (ns.map WData.int)≤2 ^ 20:=by simpa[WData.weight]using w
 have:=(items_part (G5.mpr ⟨k,hk,U⟩) c').2.2;have e:(WData.int k).weight=CD k:=by simp only[WData.weight,CD]
 rw[e]at this;exact G1 this w'
theorem IV{l:OpenLaw}{n:Nat}{q:AI}{loose:List Str}{XP:(Str→Option A6)→AM→Prop}{YP:AL→AM→Prop}{d:DefRec}(hn:l.most=ND n)(hdf:d.params.defaults=[])
  (call:∀(w:AL)(s₀ s₁:A8)(mg mb:Str→Option A6)(fa:A7)(o:Obj)(pm cd doc:A6)(a:A7)(vs:List A6)(ns:List Int),Ground q loose [] XP w s₀ mg mb s₁.heap→YP w s₁.heap →
   s₁.heap.get? fa=ND o→o.data=.func (docDef d.name d.params d.body d.scope pm cd doc)→s₁.heap.CodeRec cd d.name→mg d.name=ND (.ref fa) →
   s₁.heap.get? a=ND {cls:=.type "list", data:=.seq vs.toArray}→EA vs ns→ns.length≤n→(∀k∈ns,Small k)→s₁.gens=#[] →
   CH (AG l.prog w) EX (.call (.ref fa) ⟨[.ref a],[]⟩) (λr s'=>r=.ok (.ret (.bool NG))∧OldK s₁.heap s'.heap∧s'.os=s₁.os∧DC s'.gens) s₁) :
  WalkO q loose XP YP l.row.toRowW d [] (λf vs=>m9 f vs):=by
 intro w s₀ s₁ mg mb G Y fa o pm cd doc dV kV ho hd hcd hD hmg hg args vals as hpre hlay hrd hwl hlo;obtain rfl:dV=.none:=Dflts.none hD hdf;obtain rfl:kV=.none:=Dflts.noKw hD;obtain⟨a,vs,ns,rfl,rfl,hobj,hints,hlen⟩:=ph hn hpre hwl;refine enter_call (Cf (call w s₀ s₁ mg mb fa o pm cd doc a vs ns G Y ho (fd_plain hd) hcd hmg hobj hints hlen (aAS hlay) hg) λr s' hq=>?_);obtain⟨rfl,h2,h3,h4⟩:=hq;exact⟨.inl ⟨.bool NG,.bool NG,[],rfl,λ_=>rfl,.bool NG,pq l _,λ_=>⟨k7,λ_ hm=>(nomatch hm)⟩⟩,h2,h3,h4⟩
theorem ue{l:n8}{n k:Nat}{q:AI}{loose:List Str}{XP:(Str→Option A6)→AM→Prop}{YP:AL→AM→Prop}{d:DefRec}{K:LB→aF}{CX:AL→mz}{sp:AL→Sp}{x:Str}(hn:l.most=ND n)(hn2:n≤sizeLine)(hdf:d.params.defaults=[])(hr:jK k EX)
  (hY:∀(w:AL)(h:AM),YP w h→(K w.params).In h)
  (F:∀(w:AL)(mg:Str→Option A6)(fa:A7)(h:AM),(K w.params).In h→h.Ns AV mg→mg d.name=ND (.ref fa)→∃fd:BE,(∀(s:A8)(u:A6),Fk s fd ⟨[u],[]⟩ [(x,u)])∧∀base:AM,(K w.params).In base→base.Ns AV mg→yF l.prog w (K w.params) mg base (CX w) k fa fd [x] (sp w))
  (hsp:∀(w:AL)(H:Hp)(a:A7)(ns:List Int),ns.length≤n→(∀k∈ns,Small k)→Only H→pQ (K w.params) H a (ns.map V.int)→sp w [.ref a] H (λv _=>v=.bl NG) λ_ _ _=>False)
  (hCX:∀(w:AL)(H:Hp)(s:A8)(e:A6)(s':A8),CX w [] H s (λ_ _ _=>False) e s'→False) :
  u0 q loose XP YP l.row.toRowW d [] (λf vs=>m9 f vs):=by
 refine IV hn hdf λw s₀ s₁ mg mb fa o pm cd doc a vs ns G Y ho hd hcd hmg hobj hints hlen hsm hg=>?_;have KX:=hY w _ Y;obtain⟨fd,hb,hF⟩:=F w mg fa _ KX G.T.g hmg;exact aAk KX G.T.g G.T.b G.T.builtins G.T.nolimit hg hobj hints (G1 hlen hn2) hr hF hb (λH hO hS=>hsp w H a ns hlen hsm hO hS) λH e s'=>hCX w H s₁ e s'
def spB(K:aF):Sp:=λvs H Q _=>∃(a:A7)(ns:List Int),vs=[.ref a]∧pQ K H a (ns.map V.int)∧ns.length≤63∧(∀k∈ns,Small k)∧∀H',Q (.bl NG) H'
theorem Fun.okB{P:AI}{w:AL}{K:aF}{mg:Str→Option A6}{base:AM}{x:Str}{st:AH}{N:List Str}{k:Nat}{g:GS}{f:A7}{fd:BE}(F:Fun K x x st f fd)(S:bA N ["script"] (aL st))
  (hbody:∀(cdv:A6)(A:AN)(outer:List Env)(s:A8)(H:Hp)(E:XK),jK k (A.deeper (BT x (aL st) s.heap.objs.size f cdv))→∃t,YB K (Fd CQ P w K mg base N x (aL st) f cdv A outer s H E).ZV (cC st) t g)
  (aGm:∀ns:List Int,ns.length≤63→(∀k∈ns,Small k)→qR N.length 1 g [.lst (ns.map D.int)]=ND (.bl NG)):yF P w K mg base CQ (k+1) f fd ["script"] (spB K):=by
 refine F.ok S (λvs H Q E h=>?_) (λcdv A outer s H vs Q E hr h=>?_)
 ·obtain⟨a,ns,rfl,_⟩:=h;rfl
 obtain⟨a,ns,rfl,hS,hl,hb,q⟩:=h;obtain⟨t,yb⟩:=hbody cdv A outer s H E hr;have h3:=aGm ns hl hb;have rv:dF K H [.lst (ns.map D.int)] [.ref a]:=by unfold dF;exact⟨_,_,U,by unfold Rv;exact⟨a,_,U,hS,jM.mpr U⟩,by unfold dF;rfl⟩
 refine⟨t,yb.ps,yb.ev H _ _ H ([D.lst (ns.map D.int)].map SD.fro++E7 (N.length-1) SD.no) (Ij rv) ?_⟩;unfold qR at h3;rw[if_pos (show [D.lst (ns.map D.int)].length=1 from rfl)]at h3;cases qq:g ([D.lst (ns.map D.int)].map SD.fro++E7 (N.length-1) SD.no)with
 | ret d'=>
  rw[qq]at h3;cases h3;refine λv H' A' s' o=>?_;have:=Ow.rv _ _ _ o;unfold Rv at this;subst this;exact q _
 | _=>rw[qq]at h3;cases h3
section
variable{K:aF}{X:Cx}{e a b c:AD}{es:List AD}{t ta tb te:TE}{f g:FE}{pos:Pos}
def aAT(i j:Int):Prop:=CD i≤4000000∧CD j≤4000000
instance (i j:Int):Decidable (aAT i j):=by unfold aAT;exact inferInstance
def aKw:D→D→Option D:=Lr aAT λi j=>.int (i*j)
variable{lo hi:Option AD}{tl th:TO}{fl fh:FO}{p2:Pos}
end
end L2


namespace L2
open PySem PySem.Spec PySem.Calls PyProof.Rows PyProof.V
section
variable{K:aF}{X:Cx}
def aKx:List D→Option D
 | [.bl c]=>ND (.int (if c then 1 else 0))
 | _=>none
end
end L2


namespace L2
open PySem PySem.Spec PySem.Calls PyProof.Rows PyProof.V
section
variable{X:Cx}{pins:List (A7×Obj)}{σ:St}{H:Hp}{s:A8}{h':AM}
end
section
variable{K:aF}{X:Cx}{e a b c:AD}{es:List AD}{t ta tb te:TE}{f g fe:FE}{tc:TT}{fc:FT}{pos p p2:Pos}{x:Str}
end
end L2


namespace L2
open PySem PySem.Spec PySem.Calls PyProof.Rows PyProof.V
section
variable{K:aF}{B H:Hp}{env:EN}{σ:St}{i:Nat}{v:V}{d:D}
theorem Rel.aAU(h:Rel K B env σ H)(e:env[i]?=ND (.inn v d)):Rel K B (env.set i (.own d)) σ H∧σ[i]?=ND (ND v):=by obtain⟨A,a,b⟩:=h;obtain⟨y,A1,C,h1,h2,h3,h4,k⟩:=a.focus e;obtain⟨rfl,o⟩:=h4;have eA:A=fH A1 C:=funext λx=>propext (h3 x);subst eA;have s:=k _ (λ_ _ _ _ q=>q) (.own d) (ND v) A1 h2 ⟨v,U,o⟩;rw[set_same h1]at s;exact⟨⟨_,s,b⟩,h1⟩
theorem Rel.aAV(h:Rel K B env σ H)(e:env[i]?=ND (.own d))(hv:σ[i]?=ND (ND v)):Rel K B (env.set i (.inn v d)) σ H:=by obtain⟨A,a,b⟩:=h;obtain⟨y,A1,C,h1,h2,h3,h4,k⟩:=a.focus e;obtain⟨v',rfl,o⟩:=h4;rw[hv]at h1;cases h1;have eA:A=fH A1 C:=funext λx=>propext (h3 x);subst eA;have s:=k _ (λ_ _ _ _ q=>q) (.inn v d) (ND v) A1 h2 ⟨U,o⟩;rw[set_same hv]at s;exact⟨_,s,b⟩
end
section
variable{K:aF}{X:Cx}{st:AH}{sts:List AH}{t u tb:TS}{g g1 g2:GS}{e a b c:AD}{es:List AD}{te ta t0:TE}{f f0 fa fb:FE}{gk:FE}{tA:TA}{fs:FA}{tc:TT}{fc:FT}{pos:Pos}{i:Nat}{π:FP}
theorem aDq(hc:X.calm=NG)(pins:List (A7×Obj))(s:A8)(σ:St)(H:Hp)(v:V)(u:A6)(Q:VK)(I:Inv X pins σ H s)(rv:RelV v u)(h:∃n:Nat,v=.int n∧n≤1000∧∀l,H l=none→Q (.ref l) (upd H l (.lst ((D2 n).map λk=>V.int ((k:Nat):Int))))) :
  AF (AG X.prog X.w) X.A (call (.type "range") [u]) (λu' s'=>AF (AG X.prog X.w) X.A (call (.type "list") [u']) (EP X pins σ Q) X.xe s') X.xe s:=by
 obtain⟨n,rfl,hn,q⟩:=h;obtain⟨t,rfl⟩:=rv;refine Kt ?_;refine JA (n:=n) (I.ok.hd hc) (IE _ _ _ _ _ _ _) (KF (by decide) (by decide) (by omega) (by omega)) (by rw[GU];split<;>omega) (by omega) λh' tk acc c kp g it=>?_;have I1:Inv X pins σ H {s with heap:=s.heap.push {cls:=.type "range", data:=.fields #[.int 0 s.toks,.int (n:Int) t,.int 1 (s.toks+1)]},toks:=s.toks+1+1}:=I.kept (t':=s.toks+1+1) λb o e=>AA _ e;generalize hg':s.heap.push {cls:=.type "range", data:=.fields #[.int 0 s.toks,.int (n:Int) t,.int 1 (s.toks+1)]}=hp at *;have hs:H hp.objs.size=none:=I1.hok.fresh (D1 _);have rr:Vals ((D2 n).map λk=>V.int ((k:Nat):Int)) acc.toList:=by
  have al:acc.toList.length=n:=by rw[K3];exact it.1
  have mk:∀(m:Nat)(us:List A6)(lo:Nat),us.length=m→(∀(j:Nat)(w:A6),us[j]?=ND w→∃t,w=.int ((lo+j:Nat):Int) t)→Vals ((List.range' lo m).map λk=>V.int ((k:Nat):Int)) us:=by
   intro m
   induction m with
   | zero=>intro us lo hl _;have:us=[]:=L6 hl;subst this;exact .nil
   | succ m ih=>
    intro us lo hl hw;cases us with
    | nil=>cases hl
    | cons w us=>rw[l5,D5];obtain⟨t0,e0⟩:=hw 0 w U;refine .cons ⟨t0,by rw[e0];rfl⟩ (ih us (lo+1) (by simpa using hl) λj w' hj=>?_);obtain⟨t1,e1⟩:=hw (j+1) w' (by simpa using hj);exact⟨t1,by rw[e1,show lo+(j+1)=lo+1+j by omega]⟩
  rw[e9];refine mk n acc.toList 0 al λj w hj=>?_;obtain⟨t1,e1⟩:=it.2 j w (by rw[←L8];exact hj);exact⟨t1,by rw[e1];congr 1;omega⟩
 exact⟨.ref _,_,I1.laid (t':=tk) (a:=hp.objs.size) (o:=.lst ((D2 n).map λk=>V.int ((k:Nat):Int))) kp (D1 _) ⟨by rw[B7,E3];exact O8 (rY hn),acc.toList,c,rr,by simpa[Fs]using g⟩,U,q _ hs⟩
def Ik:D→Option D
 | .int n=>if 0≤n∧n≤1000 then ND (.lst ((D2 n.toNat).map λk=>D.int ((k:Nat):Int)))else none
 | _=>none
theorem aAW{x y:Str}{p p2 pos2:Pos}(h:XR K X e te f)(hg:Gl X x)(hm:X.mg x=none)(hv:AU x=ND (.type "list")) (hg2:Gl X y) (hm2:X.mg y=none) (hv2:AU y=ND (.type "range")) (hc:X.calm=NG:=by rfl) (hn:x ≠ "__name__" := by decide) (hdb:(x==("__debug__" : Str))=NH:=by decide) (hn2:y ≠ "__name__" := by decide) (Oq:(y==("__debug__" : Str))=NH:=by decide)
  (he:AB [e] X.env=[(NH,AO e X.env)]:=by rfl) (he2:AB [.Call (.Name y p2) [e] [] pos2] X.env=[(NH,AO (.Call (.Name y p2) [e] [] pos2) X.env)]:=by rfl) :
  XN K X (.Call (.Name x p) [.Call (.Name y p2) [e] [] pos2] [] pos) (tUn (λv H Q=>∃n:Nat,v=.int n∧n≤1000∧∀l,H l=none→Q (.ref l) (upd H l (.lst ((D2 n).map λk=>V.int ((k:Nat):Int))))) te) (pJ Ik f):=⟨h.hk,aDo (by have:=h.hk;subst this;exact aDq hc) h.pe hg hm hv hg2 hm2 hv2 hn hdb hn2 Oq he he2,λσ H e d Q re q k=>by
 obtain⟨d0,q1,q2⟩:=aX q;unfold Ik at q2;split at q2
 ·rename_i n;split at q2
  ·rename_i hl;cases q2;refine h.ev σ H H e _ _ (Zn.self K H) re q1 λv H1 Z1 s1 t1 z1 rv=>?_;unfold Rv at rv;refine⟨n.toNat,by rw[rv,Q2 hl.1],by omega,λl hl=>k _ _ (s1.trans (cP hl _)) ((rH (aU.refl _) (.eU ?_ ?_) hl).back s1)⟩
   ·have:=dG ((D2 n.toNat).map λk=>((k:Nat):Int));rw[K4]at this;exact this
   ·have:=(jM (K:=K) (H:=H1) (ns:=(D2 n.toNat).map λk=>((k:Nat):Int)) (xs:=((D2 n.toNat).map λk=>((k:Nat):Int)).map V.int)).mpr U;rw[K4,K4]at this;exact this
  ·cases q2
 ·cases q2⟩
end
end L2


namespace L2
open PySem PySem.Spec PySem.Calls PyProof.Rows PyProof.V
section
variable{α β:Type}{R:α→Fp→β→Prop}
theorem eN.Il:∀{ds:List α} {A:Fp} {ys:List β} {d:α} {y:β},eN R (ds++[d]) A (ys++[y])→∃A0 A1,eN R ds A0 ys∧R d A1 y∧Apart A0 A1∧Is A (fH A0 A1)
  | [],A,ys,d,y,h=>by
    obtain⟨y0,yt,A1,A2,h1,h2,h3,h4,h5,h6⟩:=h;subst h6;cases ys with
    | nil=>
      cases h1;exact⟨nil,A1,⟨λ_ z=>z,U⟩,h4,λ_ z=>z.elim,λx=>⟨λq=>((h3 x).mp q).elim .inr λz=>absurd z (h5 x),λq=>q.elim False.elim λz=>(h3 x).mpr (.inl z)⟩⟩
    | cons z zs=>
      injection h1 with _ h1;cases zs<;>cases h1
  | d0::ds,A,ys,d,y,h=>by
    obtain⟨y0,yt,A1,A2,h1,h2,h3,h4,h5⟩:=h;have hl:=h5.len;cases ys with
    | nil=>injection h1 with _ h1;subst h1;have hl:0=(ds++[d]).length:=hl;rw[C7]at hl;simp at hl
    | cons z zs=>
      injection h1 with e1 e2;subst e1 e2;obtain⟨B0,B1,k1,k2,k3,k4⟩:=eN.Il h5;refine⟨fH A1 B0,B1,⟨z,zs,A1,B0,U,λx q q'=>h2 x q ((k4 x).mpr (.inl q')),λx=>Iff.rfl,h4,k1⟩,k2,λx q q'=>?_,λx=>?_⟩
      · rcases q with q | q
        · exact h2 x q ((k4 x).mpr (.inr q'))
        · exact k3 x q q'
      · rw[h3 x]
        constructor
        · rintro(q | q)
          · exact .inl (.inl q)
          · exact((k4 x).mp q).elim (λz=>.inl (.inr z)) .inr
        · rintro((q | q) | q)
          · exact .inl q
          · exact .inr ((k4 x).mpr (.inl q))
          · exact .inr ((k4 x).mpr (.inr q))
end
section
variable{K:aF}{B H H':Hp}{env:EN}{σ:St}{i:Nat}{v:V}{d:D}
theorem Rel.snoc(h:Rel K B env σ H)(s:aU H H')(n:Nr K H H' d v):Rel K B (env++[.own d]) (σ++[ND v]) H':=by obtain⟨A,a,b⟩:=h;obtain⟨N,o,f⟩:=n;have cl:=jN a;have g:aU (out H A) (out H' (fH A N)):=bU s λx q=>q.elim .inl λq=>.inr (f x q);refine⟨fH A N,eN.snoc (a.mono λe D z _ q=>q.same s g) ⟨v,U,o⟩ λx q1 q2=>?_,b.trans g⟩;obtain⟨⟨u,e⟩,_⟩:=cl x q1;rw[f x q2]at e;cases e
theorem Rel.pop{s:SD}{y:Option V}(h:Rel K B (env++[s]) (σ++[y]) H):Rel K B env σ H:=by obtain⟨A,a,b⟩:=h;obtain⟨A0,A1,k1,k2,k3,k4⟩:=a.Il;have g:aU (out H A) (out H A0):=bU (aU.refl _) λx q=>.inl ((k4 x).mpr (.inl q));exact⟨A0,k1.mono λe D z _ q=>q.same (aU.refl _) g,b.trans g⟩
theorem Rel.aAX(h:Rel K B (env++[.own d]) (σ++[ND v]) H):Rv K H d v:=by obtain⟨A,a,b⟩:=h;obtain⟨A0,A1,k1,⟨v',e,o⟩,k3,k4⟩:=a.Il;cases e;exact Ow.rv _ _ _ o
theorem Rel.move(h:Rel K B (env++[.own d]) (σ++[ND v]) H)(hi:i<env.length):Rel K B (env.set i (.own d)) (σ.set i (ND v)) H:=by obtain⟨A,a,b⟩:=h;obtain⟨A0,A1,k1,⟨v',e,o⟩,k3,k4⟩:=a.Il;cases e;obtain⟨y,B1,C,f1,f2,f3,f4,f5⟩:=k1.focus (B6 hi);have g:aU (out H A) (out H (fH A1 C)):=bU (aU.refl _) λx q=>.inl ((k4 x).mpr (q.elim .inr λq=>.inl ((f3 x).mpr (.inr q))));exact⟨fH A1 C,f5 (fP K H (out H (fH A1 C))) (λe D z _ q=>q.same (aU.refl _) g) (.own d) (ND v) A1 (λx q q'=>k3 x ((f3 x).mpr (.inr q')) q) ⟨v,U,o⟩,b.trans g⟩
theorem Rel.give(h:Rel K B env σ H)(e:env[i]?=ND (.own d)):∃v,σ[i]?=ND (ND v)∧Rel K B (env.set i .no++[.own d]) (σ++[ND v]) H:=by obtain⟨A,a,b⟩:=h;obtain⟨y,A1,C,h1,h2,h3,h4,k⟩:=a.focus e;obtain⟨v,rfl,o⟩:=h4;have eA:A=fH A1 C:=funext λx=>propext (h3 x);subst eA;have s:=k _ (λ_ _ _ _ q=>q) .no (ND v) nil (λ_ z=>z.elim) (λ_ z=>z);rw[set_same h1]at s;have s2:=eN.snoc (d:=SD.own d) (y:=ND v) (A1:=A1) s ⟨v,U,o⟩ (λx q q'=>q.elim False.elim (h2 x q'));have eA2:(fH (fH nil C) A1)=fH A1 C:=funext λx=>propext ⟨λq=>q.elim (λq=>q.elim False.elim .inr) .inl,λq=>q.elim .inr λq=>.inl (.inr q)⟩;rw[eA2]at s2;exact⟨v,h1,_,s2,b⟩
end
def iW(i:Nat)(g:GS):GS:=λenv=>match env[i]? with
 | some (.inn v d)=>(match g (env.set i (.own d))with
  | .next env'=>(match env'[i]? with
   | some (.own d')=>.next (env'.set i (.inn v d'))
   | _=>.bad)
  | _=>.bad)
 | _=>.bad
theorem aAY{K:aF}{t:TS}{g:GS}{i:Nat}(h:qy K t g):qy K t (iW i g):=λB E σ H env r p=>by
 unfold iW at p;split at p
 ·rename_i v d q1;obtain⟨r',hσ⟩:=r.aAU q1;refine h B E σ H _ r' ?_;split at p
  ·rename_i env' q2;rw[q2];split at p
   ·rename_i d' q3;exact λH' r2=>p H' (r2.aAV q3 hσ)
   ·exact p.elim
  ·exact p.elim
 ·exact p.elim
theorem Dt{K:aF}{X:Cx}{st:AH}{t:TS}{g:GS}(i:Nat)(hp:PS X st t)(h:qy K t g):YS K X st t (iW i g):=⟨hp,(aAY h).ds⟩
def aAZ:GS:=λ_=>.bad
theorem Yi{K:aF}{X:Cx}{st:AH}:YS K X st yj aAZ:=⟨yl,λ_ _ _ _ _ _ p=>p.elim⟩
section
variable{K:aF}{X:Cx}{st:AH}{sts:List AH}{t u tb:TS}{g g1 g2:GS}{e a b c o:AD}{es:List AD}{te ta t0 tv:TE}{f f0 fa fb:FE}{gk:FE}{tA:TA}{fs:FA}{tc:TT}{fc:FT}{pos apos:Pos}{i:Nat}{π:FP}
structure jC(K:aF)(C:A7)(nm:List Str):Prop where
 cl:zg K C
 no:∀f∈nm,De K C f
def dJ(C:A7)(x:Str)(d:D):Option D:=match d with
 | .ins C' nm ds=>if C'=C then(posK nm x).bind λj=>ds[j]? else none
 | _=>none
theorem aDr{H:Hp}{C:A7}{x:Str}{d r:D}{v:V}(q:dJ C x d=ND r)(rv:Rv K H d v):∃a dx fs y,v=.ref a∧H a=ND (.ins C dx fs)∧fs.lookup x=ND y∧Rv K H r y:=by
 unfold dJ at q;split at q
 ·rename_i C' nm ds;split at q
  ·rename_i hc;subst hc;obtain⟨j,q1,q2⟩:=aX q;unfold Rv at rv;obtain⟨a,dx,xs,rfl,h1,h2,h3⟩:=rv;obtain⟨y,h4,h5⟩:=h3.get q2;exact⟨a,dx,_,y,U,h1,by rw[Dp h2,q1];exact h4,h5⟩
  ·cases q
 ·cases q
theorem cU{C:A7}{nm:List Str}{x:Str}(F:jC K C nm)(h:XR K X e ta f)(hx:x∈nm)(hb:CI e x X.env (AO e X.env)=AO e X.env):XR K X (.Attribute e x pos) (aFs K ta x) (pJ (dJ C x) f):=⟨h.hk,by have:=h.hk;subst this;exact zj h.pe hb,λσ H Z e d Q z re q k=>by
 obtain⟨d0,q1,q2⟩:=aX q;refine h.ev σ H Z e d0 _ z re q1 λv H1 Z1 s1 t1 z1 rv=>?_;obtain⟨a,dx,fs,y,rfl,h1,h2,h3⟩:=aDr q2 rv;exact⟨a,C,dx,fs,y,U,z1.sm _ _ h1,F.cl,F.no x hx,h2,k y H1 Z1 s1 t1 z1 h3⟩⟩
theorem uf{H:Hp}{C:A7}{x:Str}{w v:V}(h:stepV H (.fld C x) w=ND v):∃a dx fs,w=.ref a∧H a=ND (.ins C dx fs)∧fs.lookup x=ND v:=by
 cases w with
 | ref a=>
  cases q:H a with
  | none=>unfold stepV at h;dsimp only at h;rw[q]at h;cases h
  | some u=>
   unfold stepV at h;dsimp only at h;rw[q]at h;cases u with
   | ins C' dx fs=>
    have h2:(if C'=C then fs.lookup x else none)=ND v:=h;by_cases hc:C'=C
    ·rw[if_pos hc]at h2;rw[←hc];exact⟨a,dx,fs,U,q,h2⟩
    ·rw[if_neg hc]at h2;cases h2
   | _=>cases h
 | _=>unfold stepV at h;cases h
def yI(C:A7)(x:Str)(π:FP):FP:=λe=>(π e).bind λp=>ND (p++[.fld C x])
theorem mV{C:A7}{nm:List Str}{x:Str}(F:jC K C nm)(h:XP K X a ta i π)(hx:x∈nm)(hb:CI a x X.env (AO a X.env)=AO a X.env):XP K X (.Attribute a x pos) (aFs K ta x) i (yI C x π):=⟨h.hk,by have:=h.hk;subst this;exact zj h.pe hb,λσ H e v0 p v Q re h1 h2 h3 k=>by
 unfold yI at h2;obtain⟨p0,q1,q2⟩:=aX h2;cases q2;obtain⟨w,w1,w2⟩:=Og h3;obtain⟨ad,dx,fs,rfl,w3,w4⟩:=uf w2;exact h.ev σ H e v0 p0 _ _ re h1 q1 w1 λH1 s1=>⟨ad,C,dx,fs,v,U,s1 _ _ w3,F.cl,F.no x hx,w4,k H1 s1⟩⟩
end
theorem IW{x:Str}{y:V}:∀{nm:List Str} {xs:List V},nm.length=xs.length→yE x y (nm.zip xs)=(match posK nm x with | some j=>nm.zip (xs.set j y) | none=>(nm++[x]).zip (xs++[y]))
 | [],xs,h=>by
  cases xs with
  | nil=>rfl
  | cons=>simp at h
 | a::nm,[],h=>by simp at h
 | a::nm,z::xs,h=>by
  have ih:=IW (x:=x) (y:=y) (nm:=nm) (xs:=xs) (by simpa using h);rw[Q7];unfold yE posK;by_cases c:a=x
  ·rw[if_pos c,if_pos c];rfl
  ·rw[if_neg c,if_neg c,ih];cases q:posK nm x with
   | none=>rfl
   | some j=>rfl
section
variable{K:aF}{B H:Hp}{env:EN}{σ:St}
theorem ug{H:Hp}{a C dx:A7}{fs:List (Str×V)}(h:H a=ND (.ins C dx fs)):xT H a:=⟨λys e=>(by rw[h]at e;cases e),λo ys e=>(by rw[h]at e;cases e)⟩
theorem Rel.aJw{i:Nat}{p:List Step}{d0:D}{C:A7}{nm:List Str}{ds:List D}(h:Rel K B env σ H)(e:env[i]?=ND (.own d0))(q:eV p d0=ND (.ins C nm ds)):∃v0 a dx xs Bs,σ[i]?=ND (ND v0)∧Ld H p v0=ND (.ref a)∧H a=ND (.ins C dx (nm.zip xs))∧nm.length=xs.length∧dU K H ds Bs xs ∧
    ∀H2 nm' ds' xs' Bn,aU H H2→nm'.length=xs'.length→dU K H2 ds' Bn xs'→(∀b,Bn b→Bs b∨H b=none)→Rel K B (env.set i (.own (eO p d0 (.ins C nm' ds')))) σ (upd H2 a (.ins C dx (nm'.zip xs'))):=by
  obtain⟨v0,w,A1,Cc,h1,h2,h3,h4,h5,h6⟩:=h.at e q;have hc:=Ow.cells _ _ _ h3;unfold Ow at h3;obtain⟨a,dx,xs,Bs,rfl,o2,o2',o3,o3',aJx,o4,o5⟩:=h3;refine⟨v0,a,dx,xs,Bs,h1,h2,o2,o3,o5,λH2 nm' ds' xs' Bn s hl o hb=>?_⟩;have nad:dx≠a:=λz=>by rw[z,o2]at o2';cases o2'
  have nBa:¬Bn a:=λz=>(hb a z).elim o3' λz=>by rw[o2]at z;cases z
  have nBd:¬Bn dx:=λz=>(hb dx z).elim aJx λz=>by rw[o2']at z;cases z
  have hC:∀x,Cc x→¬(x=a∨x=dx):=λx z y=>h4 x ((o4 x).mpr (.inl y)) z;have Ss:H2 a=ND (.ins C dx (nm.zip xs)):=s a _ o2;have nt:xT H2 a:=ug Ss;refine h6 _ (.ins C nm' ds') (fH (λx=>x=a∨x=dx) Bn) (λx z1 z2=>?_) (λx z=>?_) (s.tk.trans (uP nt)) ?_ (λx u ex=>?_)
  · rcases z1 with z1 | z1
    · exact hC x z2 z1
    · rcases hb x z1 with z | z
      · exact h4 x ((o4 x).mpr (.inr z)) z2
      · obtain⟨⟨u,eu⟩,_⟩:=h5 x z2
        rw[z]at eu;cases eu
  · obtain⟨⟨u,eu⟩,_⟩:=h5 x z
    rw[bN (λy=>hC x z (.inl y)),eu,s x u eu]
  · unfold Ow
    refine⟨a,dx,xs',Bn,U,cD,by rw[bN nad];exact s dx _ o2',hl,nBa,nBd,λ_=>Iff.rfl,dU.frame (uP nt) _ _ _ o λx zx=>bN λy=>nBa (y▸zx)⟩
  · obtain⟨e1,e2⟩:=bB.mp ex
    have na:x≠a:=λy=>e1 (.inl ((o4 x).mpr (.inl (.inl y))));refine bB.mpr ⟨λz=>?_,by rw[bN na];exact s x u e2⟩;rcases z with (z | z) | z
    · exact e1 (.inl ((o4 x).mpr (.inl z)))
    · rcases hb x z with z | z
      · exact e1 (.inl ((o4 x).mpr (.inr z)))
      · rw[z]at e2;cases e2
    · exact e1 (.inr z)
end
section
variable{K:aF}{X:Cx}{st:AH}{sts:List AH}{t u tb:TS}{g g1 g2:GS}{e a b c o:AD}{es:List AD}{te ta t0 tv:TE}{f f0 fa fb:FE}{gk:FE}{tA:TA}{fs:FA}{tc:TT}{fc:FT}{pos apos:Pos}{i:Nat}{π:FP}
def Vc(nm:List Str)(ds:List D)(x:Str)(d:D):List Str×List D:=match posK nm x with
 | some j=>(nm,ds.set j d)
 | none=>(nm++[x],ds++[d])
def vM(C:A7)(i:Nat)(π:FP)(x:Str)(f:FE):GS:=λenv=>match env[i]?,π (rE env),f (rE env)with
 | some (.own d0),ND p,ND d=>(match eV p d0 with
  | some (.ins C' nm ds)=>if C'=C∧nm.length<900 then .next (env.set i (.own (eO p d0 (.ins C' (Vc nm ds x d).1 (Vc nm ds x d).2))))else .bad
  | _=>.bad)
 | _,_,_=>.bad
theorem aGn{C:A7}{uh:List Str}{x:Str}(F:jC K C uh)(hx:x∈uh)(h:EvP K ta i π)(he:Nu K te f):qy K (aFt K ta te x) (vM C i π x f):=λB E σ H env r p=>by
 unfold vM at p;split at p
 ·rename_i d0 pp d q1 q2 q3;split at p
  ·rename_i C' nm ds q4;split at p
   ·rename_i hc;obtain⟨rfl,hl⟩:=hc;obtain⟨v0,a,dx,xs,Bs,k1,k2,k3,k4,k5,k6⟩:=r.aJw q1 q4;refine he σ H (rE env) d _ r.r q3 λy H1 s1 n=>?_;refine h σ H1 (rE env) v0 pp _ _ (r.r.same s1) k1 q2 (zA s1 k2) λH2 s2=>?_;have s12:=s1.trans s2;obtain⟨N,o,fr⟩:=n.same s2;refine⟨a,C',dx,_,U,s12 _ _ k3,F.cl,F.no x hx,by rw[a9];omega,p _ ?_⟩;rw[IW k4];unfold Vc;cases qj:posK nm x with
    | none=>exact k6 H2 (nm++[x]) (ds++[d]) (xs++[y]) (fH Bs N) s12 (by simp[k4]) (cO.mpr ((cO.mp (k5.same s12)).snoc o (Ye (H1:=H) k5 fr))) λb z=>z.imp id (fr b)
    | some j=>have hj:=(rJ qj).1;have hlen:=(dU.rv _ _ _ k5).length;obtain⟨y0,A1,Cc,f1,f2,f3,f4,f5⟩:=(cO.mp (k5.same s12)).focus (B6 (show j<ds.length by omega));have ap:Apart N Cc:=λx q1 q2=>Ye (H1:=H) k5 fr x ((f3 x).mpr (.inr q2)) q1;exact k6 H2 nm (ds.set j d) (xs.set j y) (fH N Cc) s12 (by rw[K2];exact k4) (cO.mpr (f5 (Ow K H2) (λ_ _ _ _ qq=>qq) d y N ap o)) λb z=>z.elim (λz=>.inr (fr b z)) λz=>.inl ((f3 b).mpr (.inr z))
   ·exact p.elim
  ·exact p.elim
 ·exact p.elim
end
end L2


namespace L2
open PySem PySem.Spec PySem.Calls PyProof.Rows PyProof.V
section
variable{K:aF}{B H H':Hp}{env:EN}{σ:St}{i:Nat}{p:List Step}{d0 d:D}
theorem mR.same{a:A7}(h:mR H a)(s:aU H H'):mR H' a:=by obtain⟨⟨o,e⟩,n⟩:=h;have e':=s _ _ e;exact⟨⟨o,e'⟩,λxs z=>n.1 xs (by rw[e,←e'];exact z),λu xs z=>n.2 u xs (by rw[e,←e'];exact z)⟩
theorem aA0{A:Fp}(c:∀x,A x→mR H x):Zn K A (out H A) H:=⟨jL H A,Nq λx q=>(c x q).2,λx q=>⟨by unfold out;rw[if_pos q],λz=>by obtain⟨⟨o,e⟩,_⟩:=c x q;rw[z]at e;cases e⟩⟩
theorem aED{A:Fp}{Z:Hp}(z:Zn K A Z H):aU Z (out H A):=λx o e=>bB.mpr ⟨λq=>(by rw[(z.no x q).1]at e;cases e),z.sm x o e⟩
theorem Rel.atR(h:Rel K B env σ H)(e:env[i]?=ND (.own d0))(q:eV p d0=ND d):∃v0 w A1 C,σ[i]?=ND (ND v0)∧Ld H p v0=ND w∧Ow K H d A1 w∧Apart A1 C∧(∀a,C a→mR H a)∧yL K (out H A1) (rE (env.set i .no)) σ ∧
    ∀H' d' r x A' A2,Apart A' C→Apart A2 C→Apart A' A2→(∀a,C a→H' a=H a)→Dh K H H'→Ow K H' d' A' w→Ow K H' r A2 x→aU (out H (fH A1 C)) (out H' (fH (fH A' A2) C))→Rel K B (env.set i (.own (eO p d0 d'))++[.own r]) (σ++[ND x]) H':=by
  obtain⟨A,a,b⟩:=h;have cl:=jN a;obtain⟨y,A1,C,h1,h2,h3,h4,k⟩:=a.focus e;obtain⟨v0,rfl,o⟩:=h4;obtain⟨w,B1,C1,g1,g2,g3,g4,g5⟩:=o.at q;refine⟨v0,w,B1,fH C1 C,h1,g1,g4,λx z1 z2=>?_,λx z=>?_,?_,λH' d' r x A' A2 ap apr apx fr tk o' o'' sm=>?_⟩
  · exact z2.elim (g2 x z1) (h2 x ((g3 x).mpr (.inl z1)))
  · exact cl x ((h3 x).mpr (z.elim (λz=>.inl ((g3 x).mpr (.inr z))) .inr))
  · intro j dj qj
    unfold rE at qj;rw[C4]at qj;cases ej:(env.set i .no)[j]? with
    | none=>rw[ej]at qj;cases qj
    | some sd=>
      rw[ej]at qj;have ne:i≠j:=λz=>by subst z;rw[J3 (D4.mp e).1]at ej;cases ej;cases qj
      have S':=k (fP K H (out H A)) (λ_ _ _ _ q=>q) .no none nil (λ_ z=>z.elim) λ_ z=>z;obtain⟨y,Ak,Ck,f1,f2,f3,f4,_⟩:=S'.focus ej;rw[G4,if_neg ne]at f1;have hB:∀x,B1 x→A x:=λx z=>(h3 x).mpr (.inl ((g3 x).mpr (.inl z)));have apk:Apart Ak B1:=λx z1 z2=>h2 x ((g3 x).mpr (.inl z2)) (((f3 x).mpr (.inl z1)).elim False.elim id);cases sd with
      | no=>cases qj
      | fro d1=>
        cases qj;obtain⟨_,v1,rfl,f5⟩:=f4;exact⟨v1,f1,(bU (aU.refl _) λx q=>.inl (hB x q):aU (out H A) (out H B1)).rv _ _ f5⟩
      | own d1=>
        cases qj;obtain⟨v1,rfl,f5⟩:=f4;exact⟨v1,f1,f5.out apk λx q=>(cl x (hB x q)).2⟩
      | inn v1 d1=>cases qj;obtain⟨rfl,f5⟩:=f4;exact⟨v1,f1,f5.out apk λx q=>(cl x (hB x q)).2⟩
  · have o2:=g5 H' d' A' (λx z1 z2=>ap x z1 (.inl z2)) (λx z=>fr x (.inl z)) tk o'
    have ap2:Apart (fH A' C1) C:=λx z1 z2=>z1.elim (λz=>ap x z (.inr z2)) λz=>h2 x ((g3 x).mpr (.inr z)) z2;have hA:Is A (fH B1 (fH C1 C)):=λx=>by
      rw[h3 x];constructor
      · rintro(z | z)
        · exact((g3 x).mp z).elim .inl λz=>.inr (.inl z)
        · exact .inr (.inr z)
      · rintro(z | z | z)
        · exact .inl ((g3 x).mpr (.inl z))
        · exact .inl ((g3 x).mpr (.inr z))
        · exact .inr z
    have g:aU (out H A) (out H' (fH (fH (fH A' C1) C) A2)):=λx u ex=>by
      obtain⟨e1,e2⟩:=bB.mp ex;have:=sm x u (bB.mpr ⟨λz=>e1 ((hA x).mpr z),e2⟩);obtain⟨e3,e4⟩:=bB.mp this;refine bB.mpr ⟨λz=>e3 ?_,e4⟩;rcases z with ((z | z) | z) | z
      · exact .inl (.inl z)
      · exact .inr (.inl z)
      · exact .inr (.inr z)
      · exact .inl (.inr z)
    have s:=k (fP K H' (out H' (fH (fH (fH A' C1) C) A2))) (λs D z hb qq=>by
      cases s with
      | no=>exact qq
      | fro d=>obtain⟨q1,v,q2,q3⟩:=qq;exact⟨q1,v,q2,g.rv _ _ q3⟩
      | inn v d=>exact⟨qq.1,Ow.frame tk _ _ _ qq.2 λx zx=>fr x (.inr (hb x zx))⟩
      | own d=>obtain⟨v,q1,q2⟩:=qq;exact⟨v,q1,Ow.frame tk _ _ _ q2 λx zx=>fr x (.inr (hb x zx))⟩) (.own (eO p d0 d')) (ND v0) (fH A' C1) ap2 ⟨v0,U,o2⟩
    rw[set_same h1]at s;refine⟨_,eN.snoc s ⟨x,U,o''⟩ λy z1 z2=>?_,b.trans g⟩;rcases z1 with (z | z) | z
    · exact apx y z z2
    · exact apr y z2 (.inl z)
    · exact apr y z2 (.inr z)
def spS(K:aF)(m:Nat)(F:List D→Option (D×D)):Sp:=λvs H Q _=>∃d es v ws A r d',vs=v::ws∧es.length+1=m∧Ow K H d A v∧dF K (out H A) es ws∧F (d::es)=ND (r,d')∧∀w H' A' A2,Ow K H' d' A' v→Ow K H' r A2 w→Apart A' A2→aU (out H A) (out H' (fH A' A2))→Q w H'
theorem JB{m:Nat}{F:List D→Option (D×D)}{E:XK}{Q:VK}{es:List D}{r d':D}(h:Rel K B env σ H)(e:env[i]?=ND (.own d0))(q:eV p d0=ND d)(hl:es.length+1=m)(hF:F (d::es)=ND (r,d'))(k:∀w H',Rel K B (env.set i (.own (eO p d0 d'))++[.own r]) (σ++[ND w]) H'→Q w H') :
  ∃v0 w0 A1,σ[i]?=ND (ND v0)∧Ld H p v0=ND w0∧Ow K H d A1 w0∧yL K (out H A1) (rE (env.set i .no)) σ∧∀H2 vs,aU H H2→dF K (out H2 A1) es vs→spS K m F (w0::vs) H2 Q E:=by
 obtain⟨v0,w,A1,C,h1,h2,h3,h4,h5,h6,h7⟩:=h.atR e q;have c1:=Ow.cells _ _ _ h3;refine⟨v0,w,A1,h1,h2,h3,h6,λH2 vs s rvs=>⟨d,es,w,vs,A1,r,d',U,hl,h3.same s,rvs,hF,λx H3 A' A2 o1 o2 ap sm=>k x H3 ?_⟩⟩;have hC:∀y,C y→¬A' y∧¬A2 y∧H3 y=H y:=λy hy=>by obtain⟨⟨u,eu⟩,_⟩:=h5 y hy;obtain⟨n1,n2⟩:=bB.mp (sm y u (bB.mpr ⟨λz=>h4 y z hy,s y u eu⟩));exact⟨λz=>n1 (.inl z),λz=>n1 (.inr z),n2.trans eu.symm⟩
 have tk:Dh K H H3:=(Nq λx q=>(c1 x q).2).trans ((bU s λx q=>.inl q:aU (out H A1) (out H2 A1)).trans (sm.trans (jL _ _))).tk;refine h7 H3 d' r x A' A2 (λy z1 z2=>(hC y z2).1 z1) (λy z1 z2=>(hC y z2).2.1 z1) ap (λy hy=>(hC y hy).2.2) tk o1 o2 λy u ey=>?_;obtain⟨e1,e2⟩:=bB.mp ey;obtain⟨n1,n2⟩:=bB.mp (sm y u (bB.mpr ⟨λz=>e1 (.inl z),s y u e2⟩));exact bB.mpr ⟨λz=>z.elim n1 λz=>e1 (.inr z),n2⟩
def SD.hold:SD→Option (D×(D→SD))
 | .own d=>ND (d,.own)
 | .inn v d=>ND (d,.inn v)
 | _=>none
theorem aA1{m:Nat}{F:List D→Option (D×D)}{E:XK}{Q:VK}{es:List D}{r d':D}{back:D→SD}(h:Rel K B env σ H)(e:env[i]?.bind SD.hold=ND (d0,back))(q:eV p d0=ND d)(hl:es.length+1=m)(hF:F (d::es)=ND (r,d'))(k:∀w H',Rel K B (env.set i (back (eO p d0 d'))++[.own r]) (σ++[ND w]) H'→Q w H') :
  ∃v0 w0 A1,σ[i]?=ND (ND v0)∧Ld H p v0=ND w0∧Ow K H d A1 w0∧yL K (out H A1) (rE (env.set i .no)) σ∧∀H2 vs,aU H H2→dF K (out H2 A1) es vs→spS K m F (w0::vs) H2 Q E:=by
 obtain⟨s,e1,e2⟩:=aX e;cases s with
 | no=>cases e2
 | fro d=>cases e2
 | own d=>cases e2;exact JB h e1 q hl hF k
 | inn v d=>
  cases e2;obtain⟨r',hσ⟩:=h.aAU e1;have hi:i<env.length:=(D4.mp e1).1;have:=JB (E:=E) (Q:=Q) r' (J3 hi) q hl hF λw H' rr=>by
   rw[Y3]at rr;have r2:=rr.aAV (i:=i) (v:=v) (d:=eO p d0 d') (by rw[G3 (by rw[K2];exact hi)];exact J3 hi) (by
    have hl:=h.len;rw[G3 (by omega)];exact hσ)
   rw[List.set_append_left _ _ (by rw[K2];exact hi),Y3]at r2;exact k w H' r2
  rw[Y3]at this;exact this
end
abbrev GM:=EN→Option (D×EN)
def EvM(K:aF)(t:TE)(g:GM):Prop:=∀(B:Hp)(σ:St)(H:Hp)(env:EN)(d:D)(env':EN)(Q:VK),Rel K B env σ H→g env=ND (d,env')→(∀v H',Rel K B (env'++[.own d]) (σ++[ND v]) H'→Q v H')→t σ H Q
structure XM(K:aF)(X:Cx)(e:AD)(t:TE)(g:GM):Prop where
 hk:X.K=K
 pe:PE X e t
 ev:EvM K t g
abbrev GB:=EN→Option (Bool×EN)
def aH7(K:aF)(t:TT)(g:GB):Prop:=∀(B:Hp)(σ:St)(H:Hp)(env:EN)(b:Bool)(env':EN)(Q:Bool→Hp→Prop),Rel K B env σ H→g env=ND (b,env')→(∀H',Rel K B env' σ H'→Q b H')→t σ H Q
structure XTM(K:aF)(X:Cx)(e:AD)(t:TT)(g:GB):Prop where
 hk:X.K=K
 pt:PT X e t
 ev:aH7 K t g
structure XWM(K:aF)(X:Cx)(e:AD)(t:TT)(g:GB):Prop where
 hk:X.K=K
 pw:PW X e t
 ev:aH7 K t g
abbrev FA2:=DE→DE→Option (List D)
def aH8(K:aF)(t:TA)(fs:FA2):Prop:=∀(A1:Fp)(σ:St)(H:Hp)(eF eZ:DE)(ds:List D)(Q:List V→Hp→Prop),(∀x,A1 x→mR H x)→yL K H eF σ→yL K (out H A1) eZ σ→fs eF eZ=ND ds →
 (∀vs H',aU H H'→dF K (out H' A1) ds vs→Q vs H')→t σ H Q
structure XAB(K:aF)(X:Cx)(es:List AD)(t:TA)(fs:FA2):Prop where
 hk:X.K=K
 pa:PA X es t
 ev:aH8 K t fs
section
variable{K:aF}{X:Cx}{st:AH}{sts:List AH}{t u tb:TS}{g:GM}{g1 g2:GS}{e a b c o:AD}{es rest:List AD}{te ta t0 tv:TE}{f f0 fa fb:FE}{tA:TA}{fs:FA2}{tc td:TT}{fc:FT}{gb gc:GB}{pos apos:Pos}{i:Nat}{π:FP}
def mW:FA2:=λ_ _=>ND []
def zG(f:FE)(fs:FA2):FA2:=λeF eZ=>(f eZ).bind λd=>(fs eF eZ).map λr=>d::r
def faN(f:FE)(fs:FA2):FA2:=λeF eZ=>(f eF).bind λd=>(fs eF eZ).map λr=>d::r
theorem lY(hk:X.K=K:=by rfl):XAB K X [] lG mW:=⟨hk,gU,λA1 σ H eF eZ ds Q c re rz q k=>by
 cases q;exact k [] H (aU.refl _) (by unfold dF;rfl)⟩
theorem iG(h:XR K X e te f)(hs:XAB K X es tA fs)(hst:AB (e::es) X.env=(NH,AO e X.env)::AB es X.env:=by rfl):XAB K X (e::es) (cI te tA) (zG f fs):=⟨h.hk,cH h.pe hs.pa hst,λA1 σ H eF eZ ds Q c re rz q k=>by
 obtain⟨d,q1,q2⟩:=aX q;obtain⟨ds',q3,rfl⟩:=lJ q2;refine h.ev σ H (out H A1) eZ d _ (aA0 c) rz q1 λv H1 Z1 s1 t1 z1 rv=>?_;refine hs.ev A1 σ H1 eF eZ ds' _ (λx q=>(c x q).same s1) (re.same s1) (rz.same (bU s1 λx q=>.inl q)) q3 λvs H2 s2 rvs=>?_;refine k (v::vs) H2 (s1.trans s2) ?_;unfold dF;exact⟨v,vs,U,((aED z1).trans (bU s2 λx q=>.inl q)).rv _ _ rv,rvs⟩⟩
theorem JC(h:XN K X e te f)(hs:XAB K X es tA fs)(hst:AB (e::es) X.env=(NH,AO e X.env)::AB es X.env:=by rfl):XAB K X (e::es) (cI te tA) (faN f fs):=⟨h.hk,cH h.pe hs.pa hst,λA1 σ H eF eZ ds Q c re rz q k=>by
 obtain⟨d,q1,q2⟩:=aX q;obtain⟨ds',q3,rfl⟩:=lJ q2;refine h.ev σ H eF d _ re q1 λv H1 s1 n=>?_;have c1:∀x,A1 x→mR H1 x:=λx q=>(c x q).same s1;refine hs.ev A1 σ H1 eF eZ ds' _ c1 (re.same s1) (rz.same (bU s1 λx q=>.inl q)) q3 λvs H2 s2 rvs=>?_;refine k (v::vs) H2 (s1.trans s2) ?_;obtain⟨N,o,fr⟩:=n;unfold dF;refine⟨v,vs,U,(bU s2 λx q=>.inl q:aU (out H1 A1) (out H2 A1)).rv _ _ (o.out (λx z1 z2=>?_) λx q=>(c1 x q).2),rvs⟩;obtain⟨⟨u,eu⟩,_⟩:=c x z2;rw[fr x z1]at eu;cases eu⟩
structure dB(P:AI)(w:AL)(K:aF)(mg:Str→Option A6)(base:AM)(C:A7)(m:Str)(k n:Nat)(df:Bool)(sp:Sp):Prop where
 ex:∃f fd ps,ps.length=n∧yF P w K mg base CQ k f fd ps sp∧Binds K fd ps []∧(df=NG→Binds K fd ps [B5])∧Meth K C m f
theorem Vd{nm:List Str}{xs:List V}{m:Str}(h:nm.length=xs.length)(n:m∉nm):(nm.zip xs).lookup m=none:=by rw[Dp h,Aq.mpr n];rfl
def oE(C:A7)(m:Str)(i:Nat)(π:FP)(F:List D→Option (D×D))(fs:FA2):GM:=λenv=>match env[i]?.bind SD.hold,π (rE env),fs (rE env) (rE (env.set i .no))with
 | some (d0,back),ND p,ND es=>(match eV p d0 with
  | some (.ins C' nm ds)=>if C'=C∧m∉nm then(F (.ins C' nm ds::es)).map λrd=>(rd.1,env.set i (back (eO p d0 rd.2)))else none
  | _=>none)
 | _,_,_=>none
theorem ig{C:A7}{m:Str}{n:Nat}{F:List D→Option (D×D)}{Hs:List V}{um:List D}(hF:∀d es p,F (d::es)=ND p→es.length+1=n)(hd:∀H,dF K H um Hs)(ho:EvP K ta i π)(ha:aH8 K tA fs):EvM K (Jx C m (spS K n F) Hs E0 ta tA) (oE C m i π F (λeF eZ=>(fs eF eZ).map (·++um))):=λB σ H env d env' Q r q k=>by
 unfold oE at q;split at q
 ·rename_i d0 back p es' q1 q2 q3;obtain⟨es,q3a,rfl⟩:=lJ q3;split at q
  ·rename_i C' nm ds q4;split at q
   ·rename_i hc;obtain⟨rfl,hm⟩:=hc;obtain⟨⟨r1,d1⟩,q5,q6⟩:=lJ q;cases q6;obtain⟨v0,w0,A1,k1,k2,k3,k4,k5⟩:=aA1 (E:=E0) (Q:=Q) r q1 q4 (hF _ _ _ q5) q5 k;have c1:=Ow.cells _ _ _ k3;have k3':=k3;unfold Ow at k3;obtain⟨a,dx,xs,Bs,rfl,o2,o2',o3,_⟩:=k3;refine ho σ H (rE env) v0 p _ _ r.r k1 q2 k2 λH1 s1=>⟨a,dx,_,U,s1 _ _ o2,Vd o3 hm,?_⟩
    refine ha A1 σ H1 (rE env) (rE (env.set i .no)) es _ (λx q=>(c1 x q).same s1) (r.r.same s1) (k4.same (bU s1 λx q=>.inl q)) q3a λvs H2 s2 rvs=>?_;exact k5 H2 (vs++Hs) (s1.trans s2) (rvs.append (hd _))
   ·cases q
  ·cases q
 ·cases q
theorem rN{C:A7}{m:Str}{k n:Nat}{df:Bool}{F:List D→Option (D×D)}{uh:List Str}{pl:Sem Bool}(Cm:dB X.prog X.w X.K X.mg X.base C m k n df (spS K n F))(Fc:jC K C uh)(hF:∀d es p,F (d::es)=ND p→es.length+1=n)(hr:jK k X.A)(ho:XP K X o ta i π)(ha:XAB K X (e::es) tA fs)
  (hst:AB (e::es) X.env=(NH,AO e X.env)::AB es X.env:=by rfl) (hpl:(AZ pos (AB es X.env)).any (·.1)=NH:=by rfl)
  (ht:AO (.Call (.Attribute o m apos) (e::es) [] pos) X.env=(do
   let ov ←AO o X.env
   Da apos.atName
   let (f,first) ←Cb [ov] (DJ ov m pl)
   FB pos f first (AZ pos (AB (e::es) X.env)) (DL pos (CA [] X.env))):=by rfl):XM K X (.Call (.Attribute o m apos) (e::es) [] pos) (Jx C m (spS K n F) [] E0 ta tA) (oE C m i π F (λeF eZ=>(fs eF eZ).map (·++[]))):=by
 have hk:=ho.hk;subst hk;obtain⟨f,fd,ps,_,Fo,hb,_,hm⟩:=Cm.ex;exact⟨U,Xb (pl:=pl) ho.pe Fc.cl hm Fo hr hb .nil Uk ha.pa hst hpl ht,ig hF (λH=>by unfold dF;rfl) ho.ev ha.ev⟩
theorem Fx{C:A7}{m:Str}{k n:Nat}{F:List D→Option (D×D)}{uh:List Str}{pl:Sem Bool}(Cm:dB X.prog X.w X.K X.mg X.base C m k n NG (spS K n F))(Fc:jC K C uh)(hF:∀d es p,F (d::es)=ND p→es.length+1=n)(hr:jK k X.A)(ho:XP K X o ta i π)(ha:XAB K X (e::es) tA fs)
  (hst:AB (e::es) X.env=(NH,AO e X.env)::AB es X.env:=by rfl) (hpl:(AZ pos (AB es X.env)).any (·.1)=NH:=by rfl)
  (ht:AO (.Call (.Attribute o m apos) (e::es) [] pos) X.env=(do
   let ov ←AO o X.env
   Da apos.atName
   let (f,first) ←Cb [ov] (DJ ov m pl)
   FB pos f first (AZ pos (AB (e::es) X.env)) (DL pos (CA [] X.env))):=by rfl):XM K X (.Call (.Attribute o m apos) (e::es) [] pos) (Jx C m (spS K n F) [.non] E0 ta tA) (oE C m i π F (λeF eZ=>(fs eF eZ).map (·++[.non]))):=by
 have hk:=ho.hk;subst hk;obtain⟨f,fd,ps,_,Fo,_,hb,hm⟩:=Cm.ex;exact⟨U,Xb (pl:=pl) ho.pe Fc.cl hm Fo hr (hb U) (.cons U .nil) Uk ha.pa hst hpl ht,ig hF (λH=>by unfold dF;exact⟨_,_,U,by unfold Rv;rfl,by unfold dF;rfl⟩) ho.ev ha.ev⟩
def fD(C:A7)(m:Str)(n:Nat)(F:List D→Option D)(fo:FE)(fs:FA)(um:List D):FE:=λe=>(fo e).bind λd0=>match d0 with
 | .ins C' nm ds=>if C'=C∧m∉nm then(fs e).bind λes=>if es.length+um.length+1=n then F (.ins C' nm ds::(es++um))else none else none
 | _=>none
theorem il{fsA:FA}{C:A7}{m:Str}{n:Nat}{F:List D→Option D}{Hs:List V}{um:List D}(hd:∀H,dF K H um Hs)(ho:Ka K ta f)(ha:EvA K tA fsA):Nu K (Jx C m (jA K n F) Hs E0 ta tA) (fD C m n F f fsA um):=λσ H e d Q re q k=>by
 obtain⟨d0,q1,q2⟩:=aX q;split at q2
 ·rename_i C' nm ds;split at q2
  ·rename_i hc;obtain⟨rfl,hm⟩:=hc;obtain⟨es,q3,q4⟩:=aX q2;split at q4
   ·rename_i hl;refine ho σ H H e _ _ (Zn.self K H) re q1 λv H1 Z1 s1 t1 z1 rv=>?_;have rv1:=z1.sm.rv _ _ rv;have aJA:=rv1;unfold Rv at rv1;obtain⟨a,dx,xs,rfl,h1,h2,h3⟩:=rv1;refine⟨a,dx,_,U,h1,Vd h2 hm,?_⟩;refine ha σ H1 H1 e es _ (Zn.self K H1) (re.same s1) q3 λvs H2 Z2 s2 t2 z2 rvs=>?_;refine⟨_::(es++um),d,by rw[D8,C7];omega,?_,q4,λw H3 s3 nw=>k w H3 (s1.trans (s2.trans s3)) (nw.back (s1.trans s2))⟩;unfold dF;exact⟨_,_,U,s2.rv _ _ aJA,(z2.sm.bj _ _ rvs).append (hd _)⟩
   ·cases q4
  ·cases q2
 ·cases q2
theorem fK{fsA:FA}{C:A7}{m:Str}{k n:Nat}{df:Bool}{F:List D→Option D}{uh:List Str}{pl:Sem Bool}(Cm:dB X.prog X.w X.K X.mg X.base C m k n df (jA K n F))(Fc:jC K C uh)(hr:jK k X.A)(ho:XR K X o ta f)(ha:XA K X (e::es) tA fsA)
  (hst:AB (e::es) X.env=(NH,AO e X.env)::AB es X.env:=by rfl) (hpl:(AZ pos (AB es X.env)).any (·.1)=NH:=by rfl)
  (ht:AO (.Call (.Attribute o m apos) (e::es) [] pos) X.env=(do
   let ov ←AO o X.env
   Da apos.atName
   let (f,first) ←Cb [ov] (DJ ov m pl)
   FB pos f first (AZ pos (AB (e::es) X.env)) (DL pos (CA [] X.env))):=by rfl):XN K X (.Call (.Attribute o m apos) (e::es) [] pos) (Jx C m (jA K n F) [] E0 ta tA) (fD C m n F f fsA []):=by
 have hk:=ho.hk;subst hk;obtain⟨f,fd,ps,_,Fo,hb,_,hm⟩:=Cm.ex;exact⟨U,Xb (pl:=pl) ho.pe Fc.cl hm Fo hr hb .nil Uk ha.pa hst hpl ht,il (λH=>by unfold dF;rfl) ho.ev ha.ev⟩
theorem vN{C:A7}{m:Str}{k n:Nat}{df:Bool}{F:List D→Option D}{uh:List Str}{pl:Sem Bool}(Cm:dB X.prog X.w X.K X.mg X.base C m k n df (jA K n F))(Fc:jC K C uh)(hr:jK k X.A)(ho:XR K X o ta f)
  (ht:AO (.Call (.Attribute o m apos) [] [] pos) X.env=(do
   let ov ←AO o X.env
   Da apos.atName
   let (f,first) ←Cb [ov] (DJ ov m pl)
   FB pos f first (AZ pos (AB [] X.env)) (DL pos (CA [] X.env))):=by rfl):XN K X (.Call (.Attribute o m apos) [] [] pos) (Jx C m (jA K n F) [] E0 ta lG) (fD C m n F f aO []):=by
 have hk:=ho.hk;subst hk;obtain⟨f,fd,ps,_,Fo,hb,_,hm⟩:=Cm.ex;exact⟨U,zq (pl:=pl) ho.pe Fc.cl hm Fo hr hb .nil Uk ht,il (λH=>by unfold dF;rfl) ho.ev aAr⟩
structure uo(P:AI)(w:AL)(K:aF)(mg:Str→Option A6)(base:AM)(x:Str)(C:A7)(k n:Nat)(sp:Sp):Prop where
 ex:∃f fd ps,ps.length=n∧yF P w K mg base CQ k f fd ps sp∧Binds K fd ps []∧Mk K C f∧mg x=ND (.ref C)
def JD(C:A7)(F:List D→Option (D×D))(fs:FA):FE:=λe=>(fs e).bind λes=>match F (.ins C [] []::es)with
 | some (.non,d')=>ND d'
 | _=>none
theorem ir{fsA:FA}{x:Str}{C:A7}{k n:Nat}{F:List D→Option (D×D)}{p:Pos}(Ci:uo X.prog X.w X.K X.mg X.base x C k n (spS K n F))(hF:∀d es p,F (d::es)=ND p→es.length+1=n)(hr:jK (k+1) X.A)(hg:Gl X x)(ha:XA K X (e::es) tA fsA)(hdb:(x==("__debug__" : Str))=NH:=by decide)
  (he:AB (e::es) X.env=(NH,AO e X.env)::AB es X.env:=by rfl) (hpl:(AZ pos (AB es X.env)).any (·.1)=NH:=by rfl):XN K X (.Call (.Name x p) (e::es) [] pos) (aEe C (spS K n F) [] E0 tA) (JD C F fsA):=by
 have hk:=ha.hk;subst hk;obtain⟨f,fd,ps,_,Fo,hb,M,hm⟩:=Ci.ex;refine⟨U,aCC M Fo hr hg hm hb .nil Uk ha.pa hdb he hpl,λσ H e d Q re q k=>?_⟩;obtain⟨es,q1,q2⟩:=aX q;split at q2
 ·rename_i d' q3;cases q2;refine ha.ev σ H H e es _ (Zn.self _ H) re q1 λvs H1 Z1 s1 t1 z1 rvs=>λx dx nx ndx ne=>?_;have s0:aU H1 (upd (upd H1 dx (.own x)) x (.ins C dx [])):=λb o eb=>by rw[bN (gR eb nx),bN (gR eb ndx)];exact eb
  have so:aU H1 (out (upd (upd H1 dx (.own x)) x (.ins C dx [])) (λy=>y=x∨y=dx)):=λb o eb=>bB.mpr ⟨λz=>z.elim (gR eb nx) (gR eb ndx),s0 b o eb⟩;refine⟨.ins C [] [],es,.ref x,vs++[],(λy=>y=x∨y=dx),.non,_,U,hF _ _ _ q3,?_,?_,q3,λw H2 A' A2 o1 o2 ap sm=>⟨?_,k (.ref x) H2 (λb o eb=>?_) ⟨A',o1,λb hb=>?_⟩⟩⟩
  ·unfold Ow;refine⟨x,dx,[],nil,U,cD,by rw[bN ne,cD],U,λz=>z,λz=>z,λy=>⟨.inl,λz=>z.elim id False.elim⟩,?_⟩;unfold dU;exact⟨λ_ z=>z,U⟩
  ·rw[F2];exact(z1.sm.trans so).bj _ _ rvs
  ·have:=Ow.rv _ _ _ o2;unfold Rv at this;exact this
  ·exact(bB.mp (sm b o ((s1.trans so) b o eb))).2
  ·cases eb:H b with
   | none=>rfl
   | some o=>exact absurd (.inl hb) (bB.mp (sm b o ((s1.trans so) b o eb))).1
 ·cases q2
theorem aJB(h:XN K X e te f):XM K X e te (λenv=>(f (rE env)).map λd=>(d,env)):=⟨h.hk,h.pe,λB σ H env d env' Q r q k=>by
 obtain⟨d0,q1,q2⟩:=lJ q;cases q2;exact h.ev σ H (rE env) d Q r.r q1 λv H' s n=>k v H' (r.snoc s n)⟩
def gbV(g:GM):GB:=λenv=>(g env).bind λde=>match de.1 with
 | .bl b=>ND (b,de.2)
 | _=>none
def gbT(f:FT):GB:=λenv=>(f (rE env)).map λb=>(b,env)
def aKz(g:GB):GB:=λenv=>(g env).map λbe=>(!be.1,be.2)
def aKA(g h:GB):GB:=λenv=>(g env).bind λbe=>if be.1=NG then h be.2 else ND (NH,be.2)
def aLC(g h:GB):GB:=λenv=>(g env).bind λbe=>if be.1=NG then ND (NG,be.2)else h be.2
def aLD(φ:D→D→Option D)(g:GM)(f:FE):GM:=λenv=>(g env).bind λde=>(f (rE de.2)).bind λd2=>(φ de.1 d2).bind λr=>if r.jF=NG then ND (r,de.2)else none
def zH(i:Nat)(g:GM):GS:=λenv=>match g env with
 | some (d,env')=>if i<env'.length then .next (env'.set i (.own d))else .bad
 | none=>.bad
theorem Bc{x:Str}{pos':Pos}(h:XM K X e te g)(hp:PE X e te→PS X (.Assign [.Name x pos'] e pos) (wF te (jR i))):YS K X (.Assign [.Name x pos'] e pos) (wF te (jR i)) (zH i g):=⟨hp h.pe,λB E σ H env r p=>by
 unfold zH at p;split at p
 ·rename_i d env' q;split at p
  ·rename_i hi;exact h.ev B σ H env d env' _ r q λv H' r'=>p _ _ (r'.move hi)
  ·exact p.elim
 ·exact p.elim⟩
def zJ(g:GM):GS:=λenv=>match g env with
 | some (_,env')=>.next env'
 | none=>.bad
theorem Ot(h:XM K X e te g)(hs:Co e none pos.line X.env=pure NH:=by rfl):YS K X (.Expr e pos) (kE te) (zJ g):=⟨jJ h.pe hs,λB E σ H env r p=>by
 unfold zJ at p;split at p
 ·rename_i d env' q;exact h.ev B σ H env d env' _ r q λv H' r'=>p _ _ r'.pop
 ·exact p.elim⟩
def Fy(g:GM):GS:=λenv=>match g env with
 | some (d,env')=>.rete d env'
 | none=>.bad
theorem Mh(h:XM K X e te g):YS K X (.Return (ND e) pos) (yh te) (Fy g):=⟨Wt h.pe,λB E σ H env r p=>by
 unfold Fy at p;split at p
 ·rename_i d env' q;exact h.ev B σ H env d env' _ r q λv H' r'=>p v σ H' r'
 ·exact p.elim⟩
def wQ(i:Nat):GS:=λenv=>match env[i]? with
 | some (.own d)=>.rete d (env.set i .no)
 | some (.fro d)=>if d.jF=NG then .rete d env else .bad
 | _=>.bad
theorem Fz(h:PE X e (pH i)):YS K X (.Return (ND e) pos) (yh (pH i)) (wQ i):=⟨Wt h,λB E σ H env r p=>by
 unfold wQ at p;split at p
 ·rename_i d q;obtain⟨v,hv,r'⟩:=r.give q;exact⟨v,hv,p v σ H r'⟩
 ·rename_i d q;split at p
  ·rename_i im;obtain⟨v,hv,rv⟩:=r.r i d (by unfold rE;rw[C4,q];rfl);exact⟨v,hv,p v σ H (r.snoc (aU.refl _) (.jF im rv))⟩
  ·exact p.elim
 ·exact p.elim⟩
def aLE(g:GB)(g1 g2:GS):GS:=λenv=>match g env with
 | some (NG,env')=>g1 env'
 | some (NH,env')=>g2 env'
 | none=>.bad
end
end L2


namespace L2
open PySem PySem.Spec PySem.Calls PyProof.Rows PyProof.V
def aH9(K:aF)(dN:Bool)(dV:A6):Prop:=match dN with
 | false=>dV=.none
 | true=>∃T o n,dV=.ref T∧K.lookup T=ND o∧o.data=.seq #[.none] n
structure JF(K:aF)(f:A7)(m q:Str)(st:AH)(dN:Bool):Prop where
 ex:∃(oc:A6)(od:Option A7)(dV kV doc pm:A6)(an:Option A7)(cdv ct:A6)(osl:Array (Option A6)),
  K.lookup f=ND ⟨oc,od,.func (G2 m q (eQ st) (cC st) (aL st) dV kV doc pm an cdv ct),osl⟩∧L4 K cdv q=NG∧aH9 K dN dV
structure fM(K:aF)(C:A7)(m q:Str)(st:AH)(dN:Bool):Prop where
 ex:∃f,JF K f m q st dN∧Meth K C m f
structure JG(K:aF)(mg:Str→Option A6)(x:Str)(C:A7)(q:Str)(st:AH):Prop where
 ex:∃f,JF K f "__init__" q st NH∧Mk K C f∧mg x=ND (.ref C)
def HB(x q:Str)(st:AH)(ps:List Str):Prop:=∀(kV doc pm:A6)(an:Option A7)(cdv ct:A6)(us:List A6),us.length=ps.length→DU (G2 x q (eQ st) (cC st) (aL st) .none kV doc pm an cdv ct) ⟨us,[]⟩=pure (ps.zip us)
def HBD(x q:Str)(st:AH)(ps:List Str):Prop:=∀(T:A7)(kV doc pm:A6)(an:Option A7)(cdv ct:A6)(us:List A6),(us.length=ps.length→∃k,DU (G2 x q (eQ st) (cC st) (aL st) (.ref T) kV doc pm an cdv ct) ⟨us,[]⟩=seqItems? (AQ T) >>= k∧k (ND #[B5])=pure (ps.zip us)) ∧
 (us.length+1=ps.length→∃k,DU (G2 x q (eQ st) (cC st) (aL st) (.ref T) kV doc pm an cdv ct) ⟨us,[]⟩=seqItems? (AQ T) >>= k∧k (ND #[B5])=pure (ps.zip (us++[B5])))
def HBs(dN:Bool)(x q:Str)(st:AH)(ps:List Str):Prop:=match dN with
 | false=>HB x q st ps
 | true=>HBD x q st ps
section
variable{P:AI}{w:AL}{K:aF}{mg:Str→Option A6}{base:AM}
theorem JF.binds{f:A7}{m q:Str}{st:AH}{dN:Bool}{ps:List Str}{oc:A6}{od:Option A7}{dV kV doc pm:A6}{an:Option A7}{cdv ct:A6}(hd:aH9 K dN dV)(h:HBs dN m q st ps) :
  Binds K (G2 m q (eQ st) (cC st) (aL st) dV kV doc pm an cdv ct) ps []∧(dN=NG→Binds K (G2 m q (eQ st) (cC st) (aL st) dV kV doc pm an cdv ct) ps [B5]):=by
 cases dN with
 | false=>
  cases hd;exact⟨.all (h kV doc pm an cdv ct),λz=>by cases z⟩
 | true=>
  obtain⟨T,o,n,rfl,h1,h2⟩:=hd;refine⟨λs us kin hl=>?_,λ_ s us kin hl=>?_⟩
  ·rw[F2]at hl ⊢;obtain⟨k,e1,e2⟩:=(h T kV doc pm an cdv ct us).1 hl;exact .of_defaults U (kin _ _ h1) h2 e1 e2
  ·rw[C7]at hl;obtain⟨k,e1,e2⟩:=(h T kV doc pm an cdv ct us).2 hl;exact .of_defaults U (kin _ _ h1) h2 e1 e2
abbrev uq(n m:Nat)(d:D)(es:List D)(v:V):EN:=.inn v d::(es.map SD.fro++E7 (n-m) SD.no)
def JH(r d':D)(v:V)(o:SR):Prop:=∃env',(o=.rete r env'∨(o=.next env'∧r=.non))∧env'[0]?=ND (.inn v d')
open Classical in
noncomputable def nC(n m:Nat)(g:GS):List D→Option (D×D)
 | d::es=>if h:∃p:D×D,es.length+1=m∧∀v,JH p.1 p.2 v (g (uq n m d es v))then ND h.choose else none
 | _=>none
theorem aA2{r d' r2 d2:D}{v:V}{o:SR}(h1:JH r d' v o)(h2:JH r2 d2 v o):r=r2∧d'=d2:=by
  obtain⟨e1,a1,a2⟩:=h1;obtain⟨e2,b1,b2⟩:=h2;rcases a1 with a1 | ⟨a1,rfl⟩
  · rcases b1 with b1 | ⟨b1,rfl⟩
    · rw[a1]at b1
      injection b1 with c1 c2;subst c2;rw[a2]at b2;injection b2 with b2;injection b2 with _ b2;exact⟨c1,b2⟩
    · rw[a1]at b1;cases b1
  · rcases b1 with b1 | ⟨b1,rfl⟩
    · rw[a1]at b1;cases b1
    · rw[a1]at b1
      injection b1 with c2;subst c2;rw[a2]at b2;injection b2 with b2;injection b2 with _ b2;exact⟨U,b2⟩
theorem aA3{n m:Nat}{g:GS}{d r d':D}{es:List D}(hl:es.length+1=m)(h:∀v,JH r d' v (g (uq n m d es v))):nC n m g (d::es)=ND (r,d'):=by
 have ex:∃p:D×D,es.length+1=m∧∀v,JH p.1 p.2 v (g (uq n m d es v)):=⟨(r,d'),hl,h⟩
 unfold nC;dsimp only;rw[dif_pos ex];obtain⟨e1,e2⟩:=aA2 (ex.choose_spec.2 .non) (h .non);exact congrArg ND (l6 e1 e2)
theorem JK{n m:Nat}{g:GS}{d r d':D}{es:List D}(h:nC n m g (d::es)=ND (r,d'))(v:V):es.length+1=m∧JH r d' v (g (uq n m d es v)):=by
 unfold nC at h;dsimp only at h;split at h
 ·rename_i ex;have:=ex.choose_spec;rw[F1 h]at this;exact⟨this.1,this.2 v⟩
 ·cases h
theorem eX{n m:Nat}{g:GS}(d:D)(es:List D)(p:D×D)(h:nC n m g (d::es)=ND p):es.length+1=m:=(JK (r:=p.1) (d':=p.2) h .non).1
theorem aIa{X:Cx}{N ps:List Str}{g:GS}{body:List AH}{t:TS}{vs:List V}{H:Hp}{Q:VK}{E:XK}(yb:YB K X body t g)(h:spS K ps.length (nC N.length ps.length g) vs H Q E):t {nx:=λ_ H'=>Q .non H',rt:=Q} (start N vs) H:=by
  obtain⟨d,es,v,ws,A1,r,d',rfl,hl,ho,hrs,hF,kk⟩:=h;obtain⟨_,env',q1,q2⟩:=JK hF v;have hw:=hrs.length;refine yb.ev (out H A1) _ _ H (uq N.length ps.length d es v) ?_ ?_
  · have sa:=Oi (K:=K) (H:=H) (k:=N.length-ps.length) hrs
    have e:start N (v::ws)=ND v::(ws.map ND++E7 (N.length-ps.length) none):=by unfold start;rw[D5,D8,show N.length-(ws.length+1)=N.length-ps.length by omega];rfl
    rw[e];exact⟨A1,⟨_,_,A1,nil,U,λ_ _ z=>z,λx=>⟨.inl,λz=>z.elim id False.elim⟩,⟨U,ho⟩,sa⟩,aU.refl _⟩
  · rcases q1 with q1 | ⟨q1,rfl⟩
    · rw[q1]
      intro w σ' H' ⟨A2,a2,b2⟩;obtain⟨A3,A4,k1,⟨w',ew,o⟩,k3,k4⟩:=a2.Il;cases ew;obtain⟨y,A5,C,h1,h2,h3,h4,_⟩:=k1.focus q2;exact kk w H' A5 A4 h4.2 o (λx z1 z2=>k3 x ((h3 x).mpr (.inl z1)) z2) (b2.trans (bU (aU.refl _) λx z=>.inl ((k4 x).mpr (z.elim (λz=>.inl ((h3 x).mpr (.inl z))) .inr))))
    · rw[q1]
      intro σ' H' ⟨A2,a2,b2⟩;obtain⟨y,A5,C,h1,h2,h3,h4,_⟩:=a2.focus q2;exact kk .non H' A5 nil h4.2 (by unfold Ow;exact⟨λ_ z=>z,U⟩) (λx z1 z2=>z2) (b2.trans (bU (aU.refl _) λx z=>.inl ((h3 x).mpr (.inl (z.elim id False.elim)))))
theorem aJC{ps:List Str}{F:List D→Option (D×D)}(vs:List V)(H:Hp)(Q:VK)(E:XK)(h:spS K ps.length F vs H Q E):vs.length=ps.length:=by obtain⟨d,es,v,ws,A,r,d',rfl,hl,_,rs,_⟩:=h;have:=rs.length;rw[D8];omega
theorem JF.okS{f:A7}{m q:Str}{st:AH}{dN:Bool}{N ps:List Str}{k:Nat}{g:GS}(R:JF K f m q st dN)(S:bA N ps (aL st))(hb:HBs dN m q st ps)
  (hbody:∀(f:A7)(cdv:A6)(A:AN)(outer:List Env)(s:A8)(H:Hp)(E:XK),jK k (A.deeper (BT q (aL st) s.heap.objs.size f cdv))→∃t,YB K (Fd CQ P w K mg base N q (aL st) f cdv A outer s H E).ZV (cC st) t g) :
  ∃fd,yF P w K mg base CQ (k+1) f fd ps (spS K ps.length (nC N.length ps.length g))∧Binds K fd ps []∧(dN=NG→Binds K fd ps [B5]):=by
 obtain⟨oc,od,dV,kV,doc,pm,an,cdv,ct,osl,lk,hcd,hd⟩:=R.ex;refine⟨_,zy lk hcd S aJC λA outer s H vs Q E hr hsp=>?_,JF.binds (f:=f) (oc:=oc) (od:=od) hd hb⟩;obtain⟨t,yb⟩:=hbody f cdv A outer s H E hr;exact⟨t,yb.ps.ZV,aIa yb hsp⟩
theorem fM.Yj{C:A7}{m q:Str}{st:AH}{dN:Bool}{N ps:List Str}{k:Nat}{g:GS}(R:fM K C m q st dN)(S:bA N ps (aL st))(hb:HBs dN m q st ps)
  (hbody:∀(f:A7)(cdv:A6)(A:AN)(outer:List Env)(s:A8)(H:Hp)(E:XK),jK k (A.deeper (BT q (aL st) s.heap.objs.size f cdv))→∃t,YB K (Fd CQ P w K mg base N q (aL st) f cdv A outer s H E).ZV (cC st) t g):dB P w K mg base C m (k+1) ps.length dN (spS K ps.length (nC N.length ps.length g)):=by
 obtain⟨f,Rf,M⟩:=R.ex;obtain⟨fd,F,b1,b2⟩:=Rf.okS (P:=P) (w:=w) (mg:=mg) (base:=base) S hb hbody;exact⟨f,fd,ps,U,F,b1,b2,M⟩
theorem JG.aIb{C:A7}{x q:Str}{st:AH}{N ps:List Str}{k:Nat}{g:GS}(R:JG K mg x C q st)(S:bA N ps (aL st))(hb:HB "__init__" q st ps)
  (hbody:∀(f:A7)(cdv:A6)(A:AN)(outer:List Env)(s:A8)(H:Hp)(E:XK),jK k (A.deeper (BT q (aL st) s.heap.objs.size f cdv))→∃t,YB K (Fd CQ P w K mg base N q (aL st) f cdv A outer s H E).ZV (cC st) t g):uo P w K mg base x C (k+1) ps.length (spS K ps.length (nC N.length ps.length g)):=by
 obtain⟨f,Rf,M,hm⟩:=R.ex;obtain⟨fd,F,b1,b2⟩:=Rf.okS (P:=P) (w:=w) (mg:=mg) (base:=base) S hb hbody;exact⟨f,fd,ps,U,F,b1,M,hm⟩
def mL(n m:Nat)(g:GS):List D→Option D:=λds=>if ds.length=m then(match g (ds.map SD.fro++E7 (n-m) SD.no)with
 | .ret d=>ND d
 | .next _=>ND .non
 | _=>none)else none
theorem aIc{X:Cx}{N ps:List Str}{g:GS}{body:List AH}{t:TS}{vs:List V}{H:Hp}{Q:VK}{E:XK}(yb:YB K X body t g)(h:jA K ps.length (mL N.length ps.length g) vs H Q E):t {nx:=λ_ H'=>Q .non H',rt:=Q} (start N vs) H:=by
 obtain⟨ds,d,h1,h2,h3,kk⟩:=h;refine yb.ev H _ _ H (ds.map SD.fro++E7 (N.length-ps.length) SD.no) ?_ ?_
 ·have hl:vs.length=ps.length:=by rw[h2.length];exact h1
  have:=Ij (k:=N.length-ps.length) h2;unfold start;rw[hl];exact this
 ·unfold mL at h3;rw[if_pos h1]at h3;cases q:g (ds.map SD.fro++E7 (N.length-ps.length) SD.no)with
  | ret d'=>
   rw[q]at h3;cases h3;refine λv H' A' s' o=>kk v H' (s'.trans (jL _ _)) ⟨A',o,λa qa=>?_⟩;cases e:H a with
   | none=>rfl
   | some u=>exact absurd qa (bB.mp (s' a u e)).1
  | next env'=>
   rw[q]at h3;cases h3;intro σ' H' ⟨A,a,b⟩;exact kk .non H' (b.trans (jL _ _)) (.jF U (by unfold Rv;rfl))
  | bad=>rw[q]at h3;cases h3
  | brk e=>rw[q]at h3;cases h3
  | cont e=>rw[q]at h3;cases h3
  | rete d e=>rw[q]at h3;cases h3
theorem fM.Ga{C:A7}{m q:Str}{st:AH}{dN:Bool}{N ps:List Str}{k:Nat}{g:GS}(R:fM K C m q st dN)(S:bA N ps (aL st))(hb:HBs dN m q st ps)
  (hbody:∀(f:A7)(cdv:A6)(A:AN)(outer:List Env)(s:A8)(H:Hp)(E:XK),jK k (A.deeper (BT q (aL st) s.heap.objs.size f cdv))→∃t,YB K (Fd CQ P w K mg base N q (aL st) f cdv A outer s H E).ZV (cC st) t g):dB P w K mg base C m (k+1) ps.length dN (jA K ps.length (mL N.length ps.length g)):=by
 obtain⟨f,Rf,M⟩:=R.ex;obtain⟨oc,od,dV,kV,doc,pm,an,cdv,ct,osl,lk,hcd,hd⟩:=Rf.ex;obtain⟨b1,b2⟩:=JF.binds (f:=f) (oc:=oc) (od:=od) (kV:=kV) (doc:=doc) (pm:=pm) (an:=an) (cdv:=cdv) (ct:=ct) hd hb;refine⟨f,_,ps,U,zy lk hcd S (λvs H Q E h=>?_) λA outer s H vs Q E hr hsp=>?_,b1,b2,M⟩
 ·obtain⟨ds,d,h1,h2,_⟩:=h;rw[h2.length];exact h1
 obtain⟨t,yb⟩:=hbody f cdv A outer s H E hr;exact⟨t,yb.ps.ZV,aIc yb hsp⟩
theorem iu{f:A7}{m q:Str}{st:AH}{oc:A6}{od an:Option A7}{osl:Array (Option A6)}{kV doc pm cdv ct:A6}(l:K.lookup f=ND ⟨oc,od,.func (G2 m q (eQ st) (cC st) (aL st) .none kV doc pm an cdv ct),osl⟩)(c:L4 K cdv q=NG):JF K f m q st NH:=⟨⟨oc,od,.none,kV,doc,pm,an,cdv,ct,osl,l,c,U⟩⟩
theorem aDs{C f:A7}{m q:Str}{st:AH}{oc:A6}{od an:Option A7}{osl:Array (Option A6)}{kV doc pm cdv ct:A6}(a:F8 K (.ref C) m=ND (ND (.ref f)))(i:P9 K (.ref f)=NG)(l:K.lookup f=ND ⟨oc,od,.func (G2 m q (eQ st) (cC st) (aL st) .none kV doc pm an cdv ct),osl⟩)(c:L4 K cdv q=NG)(k:K8 K (.ref f)=NG):fM K C m q st NH:=⟨⟨f,iu l c,⟨a,i,k⟩⟩⟩
theorem aA4{C f T:A7}{m q:Str}{st:AH}{oc oc2:A6}{od an od2:Option A7}{osl aJD:Array (Option A6)}{kV doc pm cdv ct:A6}{n:Nat}(a:F8 K (.ref C) m=ND (ND (.ref f)))(i:P9 K (.ref f)=NG)(l:K.lookup f=ND ⟨oc,od,.func (G2 m q (eQ st) (cC st) (aL st) (.ref T) kV doc pm an cdv ct),osl⟩)(c:L4 K cdv q=NG)(k:K8 K (.ref f)=NG)(t:K.lookup T=ND ⟨oc2,od2,.seq #[.none] n,aJD⟩):fM K C m q st NG:=⟨⟨f,⟨⟨oc,od,.ref T,kV,doc,pm,an,cdv,ct,osl,l,c,T,_,n,U,t,U⟩⟩,⟨a,i,k⟩⟩⟩
theorem aDt{h:AM}{x q:Str}{C f:A7}{st:AH}{oc:A6}{od an:Option A7}{osl:Array (Option A6)}{kV doc pm cdv ct:A6}(X:K.In h)(G:h.Ns AV mg)(aC:S6 K AV x=ND (ND (.ref C)))(a:F8 K (.ref C) "__init__" = ND (ND (.ref f))) (i:P9 K (.ref f)=NG) (l:K.lookup f=ND ⟨oc,od,.func (G2 "__init__" q (eQ st) (cC st) (aL st) .none kV doc pm an cdv ct),osl⟩) (c:L4 K cdv q=NG) (mk:V1 K C=NG) (kc:K8 K (.ref C)=NG):JG K mg x C q st:=⟨⟨f,iu l c,⟨mk,a,i,kc⟩,f9 X G aC⟩⟩
end
section
variable{K:aF}{X:Cx}{st:AH}{g g1 g2 gb:GS}{e a b c o:AD}{es rest:List AD}{te ta tb tc t0 tv:TE}{f f0 fa fb fc:FE}{tA:TA}{fs:FA}{pos apos:Pos}{i j:Nat}{π:FP}{tbs:TS}
def ur(φ φ':D→D→Option D)(f g h:FE):FT:=λe=>(f e).bind λa=>(g e).bind λb=>(φ a b).bind λr=>match r with
  | .bl NG=>(h e).bind λc=>(φ' b c).bind λr2=>match r2 with | .bl k=>ND k | _=>none
  | .bl NH=>ND NH
  | _=>none
theorem Ou{op op':EH}{r r':R2}{φ φ':D→D→Option D}(ho:uM X (AS op) r)(ho':uM X (AS op') r')(hd:RB K r φ)(hd':RB K r' φ')(ha:XR K X a ta fa)(hb:XR K X b tb fb)(hc:XR K X c tc fc)(hm:lastMarks [op,op'] [b,c]=NH:=by with_unfolding_all rfl):XT K X (.Compare a [op,op'] [b,c] pos) (DW (yz r r' ta tb tc)) (ur φ φ' fa fb fc):=⟨ha.hk,zb ho ho' ha.pe hb.pe hc.pe hm,λσ H e k Q re q kk=>by
 obtain⟨d1,q1,q⟩:=aX q;obtain⟨d2,q2,q⟩:=aX q;obtain⟨d3,q3,q⟩:=aX q;refine ha.ev σ H H e d1 _ (Zn.self K H) re q1 λx H1 Z1 s1 t1 z1 rx=>hb.ev σ H1 H1 e d2 _ (Zn.self K H1) (re.same s1) q2 λy H2 Z2 s2 t2 z2 ry=>?_;refine hd x y H2 d1 d2 d3 _ (s2.rv _ _ (z1.sm.rv _ _ rx)) (z2.sm.rv _ _ ry) q3 λz H3 s3 n=>?_;have rz:=n.rv;split at q
 ·obtain⟨d4,q4,q⟩:=aX q;obtain⟨d5,q5,q⟩:=aX q;unfold Rv at rz;refine⟨NG,rz,?_⟩;rw[if_pos rfl];refine hc.ev σ H3 H3 e d4 _ (Zn.self K H3) (re.same (s1.trans (s2.trans s3))) q4 λw H4 Z4 s4 t4 z4 Ru=>?_;refine hd' y w H4 d2 d4 d5 _ ((s3.trans s4).rv _ _ (z2.sm.rv _ _ ry)) (z4.sm.rv _ _ Ru) q5 λv H5 s5 n5=>?_;have r5:=n5.rv;split at q
  ·cases q;unfold Rv at r5;exact⟨_,r5,kk H5 (s1.trans (s2.trans (s3.trans (s4.trans s5))))⟩
  ·cases q
 ·cases q;unfold Rv at rz;refine⟨NH,rz,?_⟩;rw[if_neg (by decide)];exact⟨_,U,kk H3 (s1.trans (s2.trans s3))⟩
 ·cases q⟩
open Classical in
noncomputable def yJ(j i:Nat)(g:GS)(v:V)(all:List D):List D→EN→SR
 | [],env=>if env[j]?=ND (.inn v (.lst all))then .next env else .bad
 | x::xs,env=>if i<env.length∧env[j]?=ND (.inn v (.lst all))then(match g (env.set i (.fro x))with
  | .next e=>yJ j i g v all xs e
  | .cont e=>yJ j i g v all xs e
  | _=>.bad)else .bad
open Classical in
noncomputable def Cw(j i:Nat)(g:GS):GS:=λenv=>match env[j]? with
 | some (.own (.lst xs))=>if h:(intsOf xs).isSome=NG∧∃env':EN,env'[j]?=ND (.own (.lst xs))∧∀v,yJ j i g v xs xs (env.set j (.inn v (.lst xs)))=.next (env'.set j (.inn v (.lst xs)))then .next h.2.choose else .bad
 | _=>.bad
theorem aDu{α:Type}{l m:List α}{j:Nat}{s:α}(h1:l.set j s=m.set j s)(h2:l[j]?=m[j]?):l=m:=by
 apply K5;intro k;by_cases c:j=k
 ·subst c;exact h2
 ·have:=congrArg (λx=>x[k]?) h1;simp only[G4,if_neg c]at this;exact this
theorem aA5{env env':EN}{ns:List Int}(h:env[j]?=ND (.own (.lst (ns.map D.int))))(h1:env'[j]?=ND (.own (.lst (ns.map D.int))))(h2:∀v,yJ j i g v (ns.map D.int) (ns.map D.int) (env.set j (.inn v (.lst (ns.map D.int))))=.next (env'.set j (.inn v (.lst (ns.map D.int))))):Cw j i g env=.next env':=by
 have ex:(intsOf (ns.map D.int)).isSome=NG∧∃env':EN,env'[j]?=ND (.own (.lst (ns.map D.int)))∧∀v,yJ j i g v (ns.map D.int) (ns.map D.int) (env.set j (.inn v (.lst (ns.map D.int))))=.next (env'.set j (.inn v (.lst (ns.map D.int)))):=⟨by rw[jV];rfl,env',h1,h2⟩
 unfold Cw;rw[h];dsimp only;rw[dif_pos ex];have c:=ex.2.choose_spec;have e:=(c.2 .non).symm.trans (h2 .non);injection e with e;rw[aDu e (c.1.trans h1.symm)]
theorem uv{xs:List D}{ns:List Int}(h:intsOf xs=ND ns):xs=ns.map D.int:=by
 induction xs generalizing ns with
 | nil=>unfold intsOf at h;cases h;rfl
 | cons x xs ih=>
  unfold intsOf at h;cases x with
  | int i=>obtain⟨ms,h1,h2⟩:=lJ h;subst h2;rw[D5,ih h1]
  | _=>cases h
theorem aDv(hb:DS K tbs g):DS K (Wy (aF5 K (pH j)) (jR i) tbs) (Cw j i g):=λB E σ H env r p=>by
 unfold Cw at p;split at p
 ·rename_i xs q;split at p
  ·rename_i ex;obtain⟨ns,hns⟩:=S5.mp ex.1;have exx:=uv hns;obtain⟨c1,c2⟩:=ex.2.choose_spec;generalize ex.2.choose=env' at *;subst exx;have hj:j<env'.length:=(D4.mp c1).1;obtain⟨v,hσ,rv⟩:=r.r j _ (by unfold rE;rw[C4,q];rfl);have c2:=c2 v;have r1:=r.aAV q hσ;have lst:∀{cZ:EN} {σ2:St} {H2:Hp},Rel K B cZ σ2 H2→cZ[j]?=ND (.inn v (.lst (ns.map D.int)))→∃a,v=.ref a∧pQ K H2 a (ns.map V.int):=by rintro cZ σ2 H2 ⟨A,aa,bb⟩ e2;obtain⟨y,A1,C,h1,h2,h3,h4,_⟩:=aa.focus e2;have:=Ow.rv _ _ _ h4.2;unfold Rv at this;obtain⟨a,ys,e,sq,l⟩:=this;rw[jM.mp l]at sq;exact⟨a,e,sq⟩
   obtain⟨a,rfl,sq0⟩:=lst r1 (J3 (D4.mp q).1);refine .inl ⟨.ref a,hσ,a,U,⟨_,sq0⟩,?_⟩;refine Ln GC (λk σ2 H2=>∃cZ,Rel K B cZ σ2 H2∧cZ[j]?=ND (.inn (.ref a) (.lst (ns.map D.int)))∧yJ j i g (.ref a) (ns.map D.int) ((ns.map D.int).drop k) cZ=.next (env'.set j (.inn (.ref a) (.lst (ns.map D.int))))) ⟨_,r1,J3 (D4.mp q).1,by rw[r0];exact c2⟩ (λk σ2 H2 _ ⟨cZ,r2,e2,_⟩=>by
    obtain⟨a',e,sq⟩:=lst r2 e2;cases e;exact sq) ?_ ?_
   ·rintro k x σ2 H2 hx ⟨cZ,r2,e2,f2⟩;have hk:k<ns.length:=by
     have:=(D4.mp hx).1
     rwa [B7]at this
    rw[O0 (by rw[B7];exact hk)]at f2;rw[C4,B6 hk]at hx;cases hx;rw[List.getElem_map]at f2;unfold yJ at f2;split at f2
    ·rename_i hlen;have r3:Rel K B (cZ.set i (.fro (.int ns[k]))) (σ2.set i (ND (.int ns[k]))) H2:=by obtain⟨A2,a2,b2⟩:=r2;exact Mf a2 b2 hlen.1 (aU.refl _) (aU.refl _) (Ii a2) (by unfold Rv;rfl)
     refine hb B _ _ H2 _ r3 ?_;have fin:∀{o:SR},o=g (cZ.set i (.fro (.int ns[k])))→(match o with | .next e=>yJ j i g (.ref a) (ns.map D.int) ((ns.map D.int).drop (k+1)) e | .cont e=>yJ j i g (.ref a) (ns.map D.int) ((ns.map D.int).drop (k+1)) e | _=>.bad)=.next (env'.set j (.inn (.ref a) (.lst (ns.map D.int))))→Lb K B {E with nx:=λσ3 H3=>∃cZ,Rel K B cZ σ3 H3∧cZ[j]?=ND (.inn (.ref a) (.lst (ns.map D.int)))∧yJ j i g (.ref a) (ns.map D.int) ((ns.map D.int).drop (k+1)) cZ=.next (env'.set j (.inn (.ref a) (.lst (ns.map D.int)))),ct:=λσ3 H3=>∃cZ,Rel K B cZ σ3 H3∧cZ[j]?=ND (.inn (.ref a) (.lst (ns.map D.int)))∧yJ j i g (.ref a) (ns.map D.int) ((ns.map D.int).drop (k+1)) cZ=.next (env'.set j (.inn (.ref a) (.lst (ns.map D.int)))),bk:=E.nx} o:=by
      intro o _ ho;have there:∀{e3:EN} {xs:List D},yJ j i g (.ref a) (ns.map D.int) xs e3=.next (env'.set j (.inn (.ref a) (.lst (ns.map D.int))))→e3[j]?=ND (.inn (.ref a) (.lst (ns.map D.int))):=by
       intro e3 xs h3;cases xs with
       | nil=>
        unfold yJ at h3;split at h3
        ·rename_i z;exact z
        ·cases h3
       | cons y ys=>
        unfold yJ at h3;split at h3
        ·rename_i z;exact z.2
        ·cases h3
      cases o with
      | next e3=>exact λσ3 H3 r4=>⟨e3,r4,there ho,ho⟩
      | cont e3=>exact λσ3 H3 r4=>⟨e3,r4,there ho,ho⟩
      | ret d=>cases ho
      | brk d=>cases ho
      | bad=>cases ho
      | rete d e=>cases ho
     exact fin U f2
    ·cases f2
   ·rintro σ2 H2 ⟨cZ,r2,e2,f2⟩;rw[B7]at f2;rw[show ns.length=(ns.map D.int).length by rw[B7],U5]at f2;unfold yJ at f2;rw[if_pos e2]at f2;injection f2 with f2;rw[f2]at r2;obtain⟨r3,_⟩:=r2.aAU (J3 hj);rw[Y3,set_same c1]at r3;exact p σ2 H2 r3
  ·exact p.elim
 ·exact p.elim
theorem Yk{tg:AD}{body:List AH}(hp:Dx (AG X.prog X.w) X.A X.env X.xe)(VF:X.calm=NG)(hv:PE X e (pH j))(hg:PG X tg (jR i))(hb:YB K X body tbs g)(hs:∀x,B3 e X.env x=pure x:=by intro _;rfl)(hk:X.K=K:=by rfl):YS K X (.For tg e body [] pos) (Wy (aF5 K (pH j)) (jR i) tbs) (Cw j i g):=by
 subst hk;refine⟨Wz hp VF (λpins s σ H R I h=>?_) hg hb.ps hs,aDv hb.ev⟩;rcases h with h | h
 ·exact ZW hv pins s σ H R I h
 ·exact yq hv pins s σ H R I h
end
end L2


namespace L2
open PySem PySem.Spec PySem.Calls PyProof.Rows PyProof.V
theorem JL{H:Hp}{p:A7}{kvs:List (List Key×V)}(h:H p=ND (.dT kvs)):xT H p:=⟨λys e=>(by rw[h]at e;cases e),λo ys e=>(by rw[h]at e;cases e)⟩
section
variable{K:aF}{B H:Hp}{env:EN}{σ:St}
theorem Rel.aJE{i:Nat}{p:List Step}{d0:D}{ks:List (List Key)}{ds:List D}(h:Rel K B env σ H)(e:env[i]?=ND (.own d0))(q:eV p d0=ND (.dt ks ds)):∃v0 a xs Bs,σ[i]?=ND (ND v0)∧Ld H p v0=ND (.ref a)∧H a=ND (.dT (ks.zip xs))∧ks.length=xs.length∧¬Bs a∧dU K H ds Bs xs ∧
    ∀H2 ks' ds' xs' Bn,aU H H2→ks'.length=xs'.length→dU K H2 ds' Bn xs'→(∀b,Bn b→Bs b∨H b=none)→Rel K B (env.set i (.own (eO p d0 (.dt ks' ds')))) σ (upd H2 a (.dT (ks'.zip xs'))):=by
  obtain⟨v0,w,A1,C,h1,h2,h3,h4,h5,h6⟩:=h.at e q;unfold Ow at h3;obtain⟨a,xs,Bs,rfl,o2,o2',o3,o4,o5⟩:=h3;refine⟨v0,a,xs,Bs,h1,h2,o2,o2',o3,o5,λH2 ks' ds' xs' Bn s hl o hb=>?_⟩;have nBa:¬Bn a:=λz=>(hb a z).elim o3 λz=>by rw[o2]at z;cases z
  have hC:∀x,C x→¬x=a:=λx z y=>h4 x ((o4 x).mpr (.inl y)) z;have Ss:H2 a=ND (.dT (ks.zip xs)):=s a _ o2;refine h6 _ (.dt ks' ds') (fH (·=a) Bn) (λx z1 z2=>?_) (λx z=>?_) (s.tk.trans (uP (JL Ss))) ?_ (λx u ex=>?_)
  · rcases z1 with z1 | z1
    · exact hC x z2 z1
    · rcases hb x z1 with z | z
      · exact h4 x ((o4 x).mpr (.inr z)) z2
      · obtain⟨⟨u,eu⟩,_⟩:=h5 x z2
        rw[z]at eu;cases eu
  · obtain⟨⟨u,eu⟩,_⟩:=h5 x z
    rw[bN (hC x z),eu,s x u eu]
  · unfold Ow
    refine⟨a,xs',Bn,U,cD,hl,nBa,λ_=>Iff.rfl,dU.frame (uP (JL Ss)) _ _ _ o λx zx=>bN λy=>nBa (y▸zx)⟩
  · obtain⟨e1,e2⟩:=bB.mp ex
    have na:x≠a:=λy=>e1 (.inl ((o4 x).mpr (.inl y)));refine bB.mpr ⟨λz=>?_,by rw[bN na];exact s x u e2⟩;rcases z with (z | z) | z
    · exact na z
    · rcases hb x z with z | z
      · exact e1 (.inl ((o4 x).mpr (.inr z)))
      · rw[z]at e2;cases e2
    · exact e1 (.inr z)
end
def JM:List D→Option (List Key)
 | []=>ND []
 | d::ds=>(Sq d).bind λk=>(JM ds).map λr=>k::r
theorem JN{K:aF}{H:Hp}:∀{ds:List D} {ks:List Key} {vs:List V},JM ds=ND ks→dF K H ds vs→vs=ks.map kV
 | [],ks,vs,h,r=>by
  unfold JM at h;cases h;unfold dF at r;exact r
 | d::ds,ks,vs,h,r=>by unfold JM at h;obtain⟨k,h1,h2⟩:=aX h;obtain⟨ks',h3,rfl⟩:=lJ h2;unfold dF at r;obtain⟨y,ys,rfl,r1,r2⟩:=r;rw[Lx h1 r1,JN h3 r2];rfl
abbrev FK:=DE→Option (List Key)
def EvK(K:aF)(t:TE)(fk:FK):Prop:=∀(σ:St)(H:Hp)(e:DE)(k:List Key)(Q:VK),yL K H e σ→fk e=ND k→(∀b H',aU H H'→H' b=ND (.tup (k.map kV))→Q (.ref b) H')→t σ H Q
structure XKt(K:aF)(X:Cx)(e:AD)(t:TE)(fk:FK):Prop where
 hk:X.K=K
 pe:PE X e t
 ev:EvK K t fk
section
variable{K:aF}{X:Cx}{st:AH}{e a b c o:AD}{es rest:List AD}{te ta tb tc t0 tv:TE}{f fa fb:FE}{g:FK}{gd:FE}{tA:TA}{fs:FA}{pos apos:Pos}{i j:Nat}{π:FP}{tbs:TS}
def Im(fs:FA):FK:=λe=>(fs e).bind λds=>if ds.length≤100 then JM ds else none
theorem Ov{x1:Nat}(h:XA K X es tA fs):XKt K X (.Tuple es x1 pos) (DX tA) (Im fs):=⟨h.hk,RX h.pa,λσ H e k Q re q kk=>by
 obtain⟨ds,q1,q2⟩:=aX q;split at q2
 ·rename_i hl;refine h.ev σ H H e ds _ (Zn.self K H) re q1 λvs H1 Z1 s1 t1 z1 rvs=>⟨Uo (by rw[rvs.length];omega),λp hp=>kk p _ (s1.trans (cP hp _)) ?_⟩
  rw[cD,JN q2 rvs]
 ·cases q2⟩
def Su(neg:Bool)(fk:FK)(f:FE):FE:=λe=>(fk e).bind λk=>(f e).bind λd=>match d with
 | .dt ks _=>ND (.bl (if neg then !(posK ks k).isSome else(posK ks k).isSome))
 | _=>none
theorem WL{ks:List (List Key)}{xs:List V}{k:List Key}(h:ks.length=xs.length):(wH (ks.zip xs) k).isSome=(posK ks k).isSome:=by
 rw[sS h];cases q:posK ks k with
 | none=>rfl
 | some j=>obtain⟨h1,h2⟩:=rJ q;rw[B9,B6 (by omega)];rfl
theorem aGp{neg:Bool}{d:D}{σ:St}{H:Hp}{e:DE}{Q:VK}(ha:EvK K ta g)(hb:Ka K tb f)(re:yL K H e σ)(q:Su neg g f e=ND d)(k:∀v H',aU H H'→Nr K H H' d v→Q v H') :
  ta σ H λy H1=>tb σ H1 λx H2=>∃a o,x=.ref a∧Ky H2 a y o∧Q (.bl (if neg then !o.isSome else o.isSome)) H2:=by
 obtain⟨kk,q1,q⟩:=aX q;obtain⟨d1,q2,q⟩:=aX q;split at q
 ·rename_i ks ds;cases q;refine ha σ H e kk _ re q1 λbb H1 s1 hb1=>hb σ H1 H1 e _ _ (Zn.self K H1) (re.same s1) q2 λx H2 Z2 s2 t2 z2 rx=>?_;have rx:=z2.sm.rv _ _ rx;unfold Rv at rx;obtain⟨p,xs,r1,r2,r3,r4⟩:=rx;refine⟨p,wH (ks.zip xs) kk,r1,.inr ⟨_,kk,bb,r2,U,s2 _ _ hb1,U⟩,?_⟩;rw[WL r3];exact k _ H2 (s1.trans s2) (.jF U (by unfold Rv;rfl))
 ·cases q
theorem aDw(hu:X.A.units+1<As)(ha:XKt K X a ta g)(hb:XR K X b tb f)(h1:behindInMarks .In b=NH:=by first | exact nobehind _ (by decide) (by decide) | rfl):XN K X (.Compare a [.In] [b] pos) (aCO ta tb) (Su NH g f):=
 ⟨ha.hk,RG (SQ hu ha.pe hb.pe) h1,λσ H e d Q re q k=>aGp (neg:=NH) ha.ev hb.ev re q k⟩
theorem iw(hu:X.A.units+1<As)(ha:XKt K X a ta g)(hb:XR K X b tb f)(h1:behindInMarks .In b=NH:=by first | exact nobehind _ (by decide) (by decide) | rfl):XT K X (.Compare a [.In] [b] pos) (tB (aCO ta tb)) (fB (Su NH g f)):=aEp (aDw hu ha hb h1) (SQ hu ha.pe hb.pe) h1
def Ox(f:FE)(fk:FK):FE:=λe=>(f e).bind λd=>(fk e).bind λk=>match d with
 | .dt ks ds=>(posK ks k).bind λj=>(ds[j]?).bind λr=>if r.jF=NG then ND r else none
 | _=>none
theorem JP(hu:X.A.units+1<As)(ha:XR K X a ta f)(hb:XKt K X b tb g)(hs:aFE b):XN K X (.Subscript a b pos) (aEj ta tb) (Ox f g):=
 ⟨ha.hk,aCP hu ha.pe hb.pe hs,λσ H e d Q re q k=>by
  obtain⟨d1,q1,q⟩:=aX q;obtain⟨kk,q2,q⟩:=aX q;split at q
  ·rename_i ks ds;obtain⟨j,q3,q⟩:=aX q;obtain⟨r,q4,q⟩:=aX q;split at q
   ·rename_i im;cases q;refine ha.ev σ H H e _ _ (Zn.self K H) re q1 λx H1 Z1 s1 t1 z1 rx=>hb.ev σ H1 e kk _ (re.same s1) q2 λbb H2 s2 hb2=>?_;have rx:=s2.rv _ _ (z1.sm.rv _ _ rx);unfold Rv at rx;obtain⟨p,xs,r1,r2,r3,r4⟩:=rx;obtain⟨v,e1,e2⟩:=r4.get q4;refine⟨p,v,r1,.inr ⟨_,kk,bb,r2,U,hb2,?_⟩,k v H2 (s1.trans s2) (.jF im e2)⟩;rw[sS r3,q3,B9,e1]
   ·cases q
  ·cases q⟩
theorem aA6(hk:X.K=K:=by rfl):XN K X (.Dict [] [] pos) aAf (fC (.dt [] [])):=⟨hk,aAh,λσ H e d Q re q k=>by
 cases q;intro p hp;refine k _ _ (cP hp _) ⟨(·=p),?_,λa q=>by cases q;exact hp⟩;unfold Ow;exact⟨p,[],nil,U,cD,U,λz=>z,λx=>⟨.inl,λz=>z.elim id False.elim⟩,by unfold dU;exact⟨λ_ z=>z,U⟩⟩⟩
def Ve(i:Nat)(π:FP)(g:FK)(f:FE):GS:=λenv=>match env[i]?,π (rE env),g (rE env),f (rE env)with
 | some (.own d0),ND p,ND k,ND d=>(match eV p d0 with
  | some (.dt ks ds)=>if d.jF=NG∧ks.length<100000 then .next (env.set i (.own (eO p d0 (.dt (lE ks k) (putD ks ds k d)))))else .bad
  | _=>.bad)
 | _,_,_,_=>.bad
theorem JQ{H:Hp}{d:D}{v:V}(o:Ow K H d nil v)(k:List Key):∀{ks:List (List Key)} {ds:List D} {A:Fp} {xs:List V},ks.length=xs.length→dU K H ds A xs→∃A',(∀x,A' x→A x)∧dU K H (R1 (λk' d'=>if k'=k then d else d') ks ds) A' (R1 (λk' d'=>if k'=k then v else d') ks xs)
 | [],ds,A,xs,hl,h=>by
  cases xs with
  | nil=>exact⟨nil,λ_ z=>z.elim,by rw[R3,R3];unfold dU;exact⟨λ_ z=>z,U⟩⟩
  | cons x xs=>simp at hl
 | k0::ks,[],A,xs,hl,h=>by unfold dU at h;rw[h.2]at hl;simp at hl
 | k0::ks,d0::ds,A,xs,hl,h=>by
  unfold dU at h;obtain⟨y,yt,A1,A2,rfl,h2,h3,h4,h5⟩:=h;obtain⟨A',a1,a2⟩:=JQ o k (by simpa using hl) h5;by_cases c:k0=k
  ·refine⟨A',λx q=>(h3 x).mpr (.inr (a1 x q)),?_⟩;rw[J4,J4,if_pos c,if_pos c];unfold dU;exact⟨v,_,nil,A',U,λ_ z=>z.elim,λx=>⟨.inr,λz=>z.elim False.elim id⟩,o,a2⟩
  ·refine⟨fH A1 A',λx q=>(h3 x).mpr (q.imp id (a1 x)),?_⟩;rw[J4,J4,if_neg c,if_neg c];unfold dU;exact⟨y,_,A1,A',U,λx z1 z2=>h2 x z1 (a1 x z2),λ_=>Iff.rfl,h4,a2⟩
theorem aDx(h:EvP K ta i π)(hx:EvK K tb g)(he:Ka K te f):qy K (Ff ta tb te) (Ve i π g f):=λB E σ H env r p=>by
 unfold Ve at p;split at p
 ·rename_i d0 pp k d q1 q2 q3 q3';split at p
  ·rename_i ks ds q4;split at p
   ·rename_i hc;obtain⟨v0,a,xs,Bs,k1,k2,k3,k3',k4,k5,k6⟩:=r.aJE q1 q4;refine he σ H H (rE env) d _ (Zn.self K H) r.r q3' λy H1 Z1 s1 t1 z1 ry=>?_;refine h σ H1 (rE env) v0 pp _ _ (r.r.same s1) k1 q2 (zA s1 k2) λH2 s2=>hx σ H2 (rE env) _ _ (r.r.same (s1.trans s2)) q3 λbb H3 s3 hb3=>?_;have Xy:=s1.trans (s2.trans s3);have o:Ow K H3 d nil y:=yW d y hc.1 ((z1.sm.trans (s2.trans s3)).rv _ _ ry);refine⟨a,_,U,.inr ⟨ks.zip xs,k,bb,Xy _ _ k3,U,hb3,Ny (by rw[a9];omega),U⟩,p _ ?_⟩;rw[GR k3'];have ow3:=k5.same Xy;by_cases c:(posK ks k).isSome=NG
    ·obtain⟨A',a1,a2⟩:=JQ o k k3' ow3;refine k6 H3 (lE ks k) (putD ks ds k d) (putD ks xs k y) A' Xy (vK k3') ?_ λb z=>.inl (a1 b z);unfold putD;rw[if_pos c,if_pos c];exact a2
    ·refine k6 H3 (lE ks k) (putD ks ds k d) (putD ks xs k y) (fH Bs nil) Xy (vK k3') ?_ λb z=>z.elim .inl False.elim;unfold putD;rw[if_neg c,if_neg c];exact cO.mpr ((cO.mp ow3).snoc o λ_ _ z=>z)
   ·exact p.elim
  ·exact p.elim
 ·exact p.elim
def aJG(K:aF)(t:TA)(fs:FA)(i:Nat):Prop:=∀(σ:St)(H:Hp)(e:DE)(ds:List D)(v:V)(Q:List V→Hp→Prop),yL K H e σ→fs e=ND ds→σ[i]?=ND (ND v)→(∀vs H',aU H H'→Sh K H H' ds vs→Q (vs++[v]) H')→t σ H Q
structure XBm(K:aF)(X:Cx)(es:List AD)(t:TA)(fs:FA)(i:Nat):Prop where
 hk:X.K=K
 pa:PA X es t
 ev:aJG K t fs i
end
end L2


namespace L2
open PySem PySem.Spec PySem.Calls PyProof.Rows PyProof.V
section
variable{K:aF}{X:Cx}{st:AH}{e a b c o:AD}{es rest:List AD}{te ta tb tc t0 tv:TE}{f fa fb g:FE}{gk:FK}{gd:FE}{tA:TA}{fs:FA}{pos apos:Pos}{i j:Nat}{π:FP}{tbs:TS}{gm:GM}
def gmN(f:FE):GM:=λenv=>(f (rE env)).map λd=>(d,env)
theorem aDy(h:XN K X e te f):XM K X e te (gmN f):=aJB h
theorem Bd(h:XR K X e te f)(hs:Co e none pos.line X.env=pure NH:=by rfl):YS K X (.Expr e pos) (kE te) (xV f):=⟨jJ h.pe hs,aDf h.ev⟩
theorem nJ{C:A7}{uh:List Str}{x:Str}{pos':Pos}(F:jC K C uh)(hx:x∈uh)(h:XP K X a ta i π)(he:XN K X e te f)(hs:Co e (ND (.Attribute a x pos')) pos.line X.env=pure NH:=by rfl):YS K X (.Assign [.Attribute a x pos'] e pos) (aFt K ta te x) (iW i (vM C i π x f)):=⟨by have:=h.hk;subst this;exact aFu h.pe he.pe hs,(aAY (aGn F hx h.ev he.ev)).ds⟩
theorem Mi{m:Str}{apos cpos:Pos}(h:XP K X a ta i π)(he:XN K X e te f)(hp:PE X a ta→PE X e te→PS X (.Expr (.Call (.Attribute a m apos) [e] [] cpos) pos) (kE (Hw K "list" nH ta (cI te lG)))):YS K X (.Expr (.Call (.Attribute a m apos) [e] [] cpos) pos) (kE (Hw K "list" nH ta (cI te lG))) (iW i (zB i π f)):=Dt i (hp h.pe he.pe) (aAK h.ev he.ev)
theorem JR{pos':Pos}(h:XP K X a ta i π)(hx:XR K X b tb g)(he:XN K X e te f)(hp:PE X a ta→PE X b tb→PE X e te→PS X (.Assign [.Subscript a b pos'] e pos) (wF te (kh ta tb Ug))):YS K X (.Assign [.Subscript a b pos'] e pos) (wF te (kh ta tb Ug)) (iW i (vL i π g f)):=Dt i (hp h.pe hx.pe he.pe) (dq h.ev hx.ev he.ev)
theorem Gb{pos':Pos}(h:XP K X a ta i π)(hx:XR K X b tb g)(he:XR K X e te f)(hp:PE X a ta→PE X b tb→PE X e te→PS X (.Assign [.Subscript a b pos'] e pos) (Ff ta tb te)):YS K X (.Assign [.Subscript a b pos'] e pos) (Ff ta tb te) (iW i (pG i π g f)):=Dt i (hp h.pe hx.pe he.pe) (dw h.ev hx.ev he.ev)
theorem aA7{pos':Pos}(h:XP K X a ta i π)(hx:XKt K X b tb gk)(he:XR K X e te f)(hp:PE X a ta→PE X b tb→PE X e te→PS X (.Assign [.Subscript a b pos'] e pos) (Ff ta tb te)):YS K X (.Assign [.Subscript a b pos'] e pos) (Ff ta tb te) (iW i (Ve i π gk f)):=Dt i (hp h.pe hx.pe he.pe) (aDx h.ev hx.ev he.ev)
end
end L2
namespace L2
open PySem PySem.Spec PySem.Calls PyProof.Rows PyProof.V
def D.JS:D→Bool
 | .non=>NG
 | _=>NH
theorem JT{K:aF}{H:Hp}{d:D}{v:V}(r:Rv K H d v):decide (v=.non)=d.JS:=by
 cases d with
 | non=>unfold Rv at r;subst r;rfl
 | bl b=>unfold Rv at r;subst r;rfl
 | int b=>unfold Rv at r;subst r;rfl
 | str b=>unfold Rv at r;subst r;rfl
 | lst ds=>unfold Rv at r;obtain⟨a,xs,rfl,_⟩:=r;rfl
 | tup ds=>unfold Rv at r;obtain⟨a,xs,rfl,_⟩:=r;rfl
 | dk ks ds=>unfold Rv at r;obtain⟨a,xs,rfl,_⟩:=r;rfl
 | dt ks ds=>unfold Rv at r;obtain⟨a,xs,rfl,_⟩:=r;rfl
 | ins C nm ds=>unfold Rv at r;obtain⟨a,dx,xs,rfl,_⟩:=r;rfl
def Io(neg:Bool)(a b:D):Option D:=match b with
 | .non=>ND (.bl (if neg then !a.JS else a.JS))
 | _=>none
theorem WM{K:aF}:RB K (λx y H Q=>y=.non∧Q (.bl (decide (x=.non))) H) (Io NH):=λx y H a b d Q ra rb q k=>by
 unfold Io at q;split at q
 ·cases q;unfold Rv at rb;refine⟨rb,?_⟩;rw[JT ra];exact k _ H (aU.refl _) (.jF U (by unfold Rv;rfl))
 ·cases q
theorem Vf{K:aF}:RB K (λx y H Q=>y=.non∧Q (.bl (!decide (x=.non))) H) (Io NG):=λx y H a b d Q ra rb q k=>by
 unfold Io at q;split at q
 ·cases q;unfold Rv at rb;refine⟨rb,?_⟩;rw[JT ra];exact k _ H (aU.refl _) (.jF U (by unfold Rv;rfl))
 ·cases q
end L2


namespace L2
open PySem PySem.Spec PySem.Calls PyProof.Rows PyProof.V
section
variable{K:aF}{X:Cx}{e stx:AD}{te ts:TE}{f g:FE}{pos p2:Pos}
end
end L2


namespace L2
open PySem PySem.Spec PySem.Calls PyProof.Rows PyProof.V
abbrev FE2:=DE→DE→Option D
def EvZ(K:aF)(t:TE)(f:FE2):Prop:=∀{N:Fp}(σ:St)(H Z:Hp)(eF eZ:DE)(d:D)(Q:VK),Zn K N Z H→yL K H eF σ→yL K Z eZ σ→f eF eZ=ND d →
 (∀v H' Z',aU H H'→aU Z Z'→Zn K N Z' H'→Rv K Z' d v→Q v H')→t σ H Q
def aJH(K:aF)(t:TA)(f:FA2):Prop:=∀{N:Fp}(σ:St)(H Z:Hp)(eF eZ:DE)(ds:List D)(Q:List V→Hp→Prop),Zn K N Z H→yL K H eF σ→yL K Z eZ σ→f eF eZ=ND ds →
 (∀vs H' Z',aU H H'→aU Z Z'→Zn K N Z' H'→dF K Z' ds vs→Q vs H')→t σ H Q
structure XZ(K:aF)(X:Cx)(e:AD)(t:TE)(f:FE2):Prop where
 hk:X.K=K
 pe:PE X e t
 ev:EvZ K t f
structure XZA(K:aF)(X:Cx)(es:List AD)(t:TA)(f:FA2):Prop where
 hk:X.K=K
 pa:PA X es t
 ev:aJH K t f
section
variable{K:aF}{X:Cx}{e a b:AD}{es:List AD}{te ta tb:TE}{f:FE}{g h:FE2}{tA:TA}{fs:FA2}{pos:Pos}{i:Nat}
def faZ(g:FE2)(fs:FA2):FA2:=λeF eZ=>(g eF eZ).bind λd=>(fs eF eZ).map λr=>d::r
def aKC(fs:FA2):FE2:=λeF eZ=>(fs eF eZ).bind λds=>cap ds.length (.lst ds)
def aIf(a b:D):Option D:=match a,b with
 | .lst x,.lst y=>if x.length+y.length≤100000 then ND (.lst (x++y))else none
 | _,_=>none
def aKD(g h:FE2):FE2:=λeF eZ=>(g eF eZ).bind λa=>(h eF eZ).bind λb=>aIf a b
def aJI(js:List Nat)(i:Nat)(g:FE2):GS:=λenv=>match g (rE (yM js env)) (zE (yM js env))with
 | some d=>if i<(yM js env).length then .next ((yM js env).set i (.fro d))else .bad
 | none=>.bad
end
end L2


namespace L2
open PySem PySem.Spec PySem.Calls PyProof.Rows PyProof.V
inductive Ar where
  | ch (i:Nat) | rd (f:FE) | nw (f:FE)
def chA:List Ar→List Nat
 | []=>[]
 | .ch i::as=>i::chA as
 | .rd _::as=>chA as
 | .nw _::as=>chA as
def qC:List Ar→List Bool
 | []=>[]
 | .ch _::as=>NG::qC as
 | .rd _::as=>NH::qC as
 | .nw _::as=>NH::qC as
def rdA:List Ar→DE→DE→Option (List D)
 | [],_,_=>ND []
 | .ch _::as,eF,eZ=>rdA as eF eZ
 | .rd f::as,eF,eZ=>(f eZ).bind λd=>(rdA as eF eZ).map λr=>d::r
 | .nw f::as,eF,eZ=>(f eF).bind λd=>(rdA as eF eZ).map λr=>d::r
def uT:List Bool→List D→List D→List D
 | true::m,c::cs,rs=>c::uT m cs rs
 | false::m,cs,r::rs=>r::uT m cs rs
 | _,_,_=>[]
def uw:List Bool→List V→List V
 | true::m,v::vs=>v::uw m vs
 | false::m,_::vs=>uw m vs
 | _,_=>[]
def aA8:List Bool→List D→List V→EN
 | true::m,d::ds,v::vs=>.inn v d::aA8 m ds vs
 | false::m,d::ds,_::vs=>.fro d::aA8 m ds vs
 | _,_,_=>[]
def JV(K:aF)(Z:Hp)(σ:St):List Ar→List D→List V→Prop
 | [],ds,vs=>ds=[]∧vs=[]
 | .ch i::as,ds,vs=>∃v r,vs=v::r∧σ[i]?=ND (ND v)∧JV K Z σ as ds r
 | .rd _::as,ds,vs=>∃d dr v r,ds=d::dr∧vs=v::r∧Rv K Z d v∧JV K Z σ as dr r
 | .nw _::as,ds,vs=>∃d dr v r,ds=d::dr∧vs=v::r∧Rv K Z d v∧JV K Z σ as dr r
def VsA(σ:St):List Nat→List V→Prop
 | [],vs=>vs=[]
 | j::js,vs=>∃v r,vs=v::r∧σ[j]?=ND (ND v)∧VsA σ js r
def takes:List Nat→EN→Option (List D×EN)
 | [],env=>ND ([],env)
 | j::js,env=>(env[j]?.bind SD.hold).bind λdb=>(takes js (env.set j .no)).map λde=>(db.1::de.1,de.2)
def Sv:List Nat→List D→EN→EN
 | j::js,d::ds,env=>(match env[j]?.bind SD.hold with
  | some db=>(Sv js ds (env.set j .no)).set j (db.2 d)
  | none=>env)
 | _,_,env=>env
section
variable{K:aF}{X:Cx}{e:AD}{es:List AD}{te:TE}{f:FE}{tA:TA}{as:List Ar}{pos:Pos}{i:Nat}
def aJJ(K:aF)(t:TA)(as:List Ar):Prop:=∀(A1:Fp)(σ:St)(H:Hp)(eF eZ:DE)(ds:List D)(cv:List V)(Q:List V→Hp→Prop),(∀x,A1 x→mR H x)→yL K H eF σ→yL K (out H A1) eZ σ→VsA σ (chA as) cv→rdA as eF eZ=ND ds →
 (∀vs H',aU H H'→JV K (out H' A1) σ as ds vs→Q vs H')→t σ H Q
structure XAC(K:aF)(X:Cx)(es:List AD)(t:TA)(as:List Ar):Prop where
 hk:X.K=K
 pa:PA X es t
 ev:aJJ K t as
theorem aDA(hk:X.K=K:=by rfl):XAC K X [] lG []:=⟨hk,gU,λA1 σ H eF eZ ds cv Q c re rz va q k=>by
 cases q;exact k [] H (aU.refl _) ⟨U,U⟩⟩
theorem aA9{y:Str}{py:Pos}(hv:PE X (.Name y py) (pH i))(hs:XAC K X es tA as)(hst:AB (.Name y py::es) X.env=(NH,AO (.Name y py) X.env)::AB es X.env:=by rfl):XAC K X (.Name y py::es) (cI (pH i) tA) (.ch i::as):=⟨hs.hk,cH hv hs.pa hst,λA1 σ H eF eZ ds cv Q c re rz va q k=>by
 obtain⟨v,r,rfl,h1,h2⟩:=va;exact⟨v,h1,hs.ev A1 σ H eF eZ ds r _ c re rz h2 q λvs H' s a=>k (v::vs) H' s ⟨v,vs,U,h1,a⟩⟩⟩
theorem aIg(h:XR K X e te f)(hs:XAC K X es tA as)(hst:AB (e::es) X.env=(NH,AO e X.env)::AB es X.env:=by rfl):XAC K X (e::es) (cI te tA) (.rd f::as):=⟨h.hk,cH h.pe hs.pa hst,λA1 σ H eF eZ ds cv Q c re rz va q k=>by
 obtain⟨d,q1,q2⟩:=aX q;obtain⟨ds',q3,rfl⟩:=lJ q2;refine h.ev σ H (out H A1) eZ d _ (aA0 c) rz q1 λv H1 Z1 s1 t1 z1 rv=>?_;refine hs.ev A1 σ H1 eF eZ ds' cv _ (λx q=>(c x q).same s1) (re.same s1) (rz.same (bU s1 λx q=>.inl q)) va q3 λvs H2 s2 rvs=>?_;exact k (v::vs) H2 (s1.trans s2) ⟨d,ds',v,vs,U,U,((aED z1).trans (bU s2 λx q=>.inl q)).rv _ _ rv,rvs⟩⟩
end
section
variable{K:aF}{H H' Z Z' B:Hp}{σ:St}
theorem iy:∀(js:List Nat)(ds:List D)(env:EN)(p:List D×EN)(j:Nat),takes js env=ND p→env[j]?=ND .no→(Sv js ds env)[j]?=ND .no
 | [],ds,env,p,j,_,h=>by unfold Sv;exact h
 | i::js,[],env,p,j,_,h=>by unfold Sv;exact h
 | i::js,d::ds,env,p,j,q,h=>by
  unfold takes at q;obtain⟨db,q1,q2⟩:=aX q;obtain⟨de,q3,_⟩:=lJ q2;have ne:i≠j:=λz=>by subst z;rw[h]at q1;cases q1
  unfold Sv;rw[q1];dsimp only;rw[G4,if_neg ne];exact iy js ds _ _ j q3 (by rw[G4,if_neg ne];exact h)
theorem eN.fp{α β:Type}{R:α→Fp→β→Prop}{ds:List α}{A A':Fp}{ys:List β}(h:eN R ds A ys)(e:Is A A'):eN R ds A' ys:=by have:A=A':=funext λx=>propext (e x);rw[←this];exact h
theorem JW:∀(js:List Nat)(env:EN)(A:Fp)(ds:List D)(e0:EN),eN (fP K H Z) env A σ→takes js env=ND (ds,e0)→∃A0 A1 vs,Apart A0 A1∧Is A (fH A0 A1)∧eN (fP K H Z) e0 A0 σ∧dU K H ds A1 vs∧VsA σ js vs ∧
    ∀(H' Z':Hp)(ds':List D)(A0' QZ:Fp),eN (fP K H' Z') e0 A0' σ→dU K H' ds' QZ vs→Apart A0' QZ→eN (fP K H' Z') (Sv js ds' env) (fH A0' QZ) σ
  | [],env,A,ds,e0,h,q=>by
    cases q;refine⟨A,nil,[],λ_ _ z=>z,λx=>⟨.inl,λz=>z.elim id False.elim⟩,h,by unfold dU;exact⟨λ_ z=>z,U⟩,U,λH' Z' ds' A0' QZ s o ap=>?_⟩;cases ds' with
    | nil=>unfold dU at o;unfold Sv;exact s.fp λx=>⟨.inl,λz=>z.elim id λz=>absurd z (o.1 x)⟩
    | cons d dr=>
      unfold dU at o;obtain⟨y,yt,_,_,z,_⟩:=o;cases z
  | j::js,env,A,ds,e0,h,q=>by
    unfold takes at q;obtain⟨db,q1,q2⟩:=aX q;obtain⟨⟨dr,e1⟩,q3,q4⟩:=lJ q2;cases q4;obtain⟨s,e,hs⟩:=aX q1;obtain⟨y,A1,C,h1,h2,h3,h4,k⟩:=h.focus e;have key:∃v,y=ND v∧Ow K H db.1 A1 v∧∀(H' Z':Hp)(d':D)(A':Fp),Ow K H' d' A' v→fP K H' Z' (db.2 d') A' (ND v):=by
      cases s with
      | no=>cases hs
      | fro d=>cases hs
      | own d=>cases hs;obtain⟨v,rfl,o⟩:=h4;exact⟨v,U,o,λH' Z' d' A' o'=>⟨v,U,o'⟩⟩
      | inn v d=>cases hs;obtain⟨rfl,o⟩:=h4;exact⟨v,U,o,λH' Z' d' A' o'=>⟨U,o'⟩⟩
    obtain⟨v,rfl,o,bk⟩:=key;have s0:=k _ (λ_ _ _ _ q=>q) .no (ND v) nil (λ_ z=>z.elim) (λ_ z=>z);rw[set_same h1]at s0;obtain⟨A0,A1r,vs,k1,k2,k3,k4,k5,k6⟩:=JW js (env.set j .no) _ dr e1 s0 q3;have hC:∀x,C x↔A0 x∨A1r x:=λx=>⟨λz=>(k2 x).mp (.inr z),λz=>((k2 x).mpr z).elim False.elim id⟩
    refine⟨A0,fH A1 A1r,v::vs,λx z1 z2=>z2.elim (λz=>h2 x z ((hC x).mpr (.inl z1))) (k1 x z1),λx=>?_,k3,?_,⟨v,vs,U,h1,k5⟩,λH' Z' ds' A0' QZ s' o' ap=>?_⟩
    · rw[h3 x]
      constructor
      · rintro(z | z)
        · exact .inr (.inl z)
        · exact((hC x).mp z).elim .inl λz=>.inr (.inr z)
      · rintro(z | z | z)
        · exact .inr ((hC x).mpr (.inl z))
        · exact .inl z
        · exact .inr ((hC x).mpr (.inr z))
    · unfold dU
      exact⟨v,vs,A1,A1r,U,λx z1 z2=>h2 x z1 ((hC x).mpr (.inr z2)),λx=>Iff.rfl,o,k4⟩
    · cases ds' with
      | nil=>
        unfold dU at o';cases o'.2
      | cons d' dr'=>
        unfold dU at o';obtain⟨y',yt,Aj,Ar',z1,a1,a2,o1,o2⟩:=o';cases z1;have s1:=k6 H' Z' dr' A0' Ar' s' o2 λx w1 w2=>ap x w1 ((a2 x).mpr (.inr w2));have n1:=iy js dr' (env.set j .no) _ j q3 (J3 (D4.mp e).1);obtain⟨y2,Bx,C2,f1,f2,f3,f4,f5⟩:=s1.focus n1;have f4:∀x,¬Bx x:=f4;have hC2:∀x,C2 x↔A0' x∨Ar' x:=λx=>⟨λz=>(f3 x).mpr (.inr z),λz=>((f3 x).mp z).elim (λw=>absurd w (f4 x)) id⟩
        have s2:=f5 _ (λ_ _ _ _ q=>q) (db.2 d') (ND v) Aj (λx w1 w2=>((hC2 x).mp w2).elim (λw=>ap x w ((a2 x).mpr (.inl w1))) (a1 x w1)) (bk H' Z' d' Aj o1);rw[set_same h1]at s2;unfold Sv;rw[q1];dsimp only;refine s2.fp λx=>?_;constructor
        · rintro(z | z)
          · exact .inr ((a2 x).mpr (.inl z))
          · exact((hC2 x).mp z).elim .inl λz=>.inr ((a2 x).mpr (.inr z))
        · rintro(z | z)
          · exact .inr ((hC2 x).mpr (.inl z))
          · exact((a2 x).mp z).elim .inl λz=>.inr ((hC2 x).mpr (.inr z))
theorem Be:∀(as:List Ar)(Mj JX:List D)(A:Fp)(iz vs:List V),dU K H Mj A iz→VsA σ (chA as) iz→JV K Z σ as JX vs→eN (fP K H Z) (aA8 (qC as) (uT (qC as) Mj JX) vs) A (vs.map ND)∧uw (qC as) vs=iz∧(uT (qC as) Mj JX).length=(qC as).length∧vs.length=(qC as).length
 | [],Mj,JX,A,iz,vs,o,va,ar=>by
  obtain⟨rfl,rfl⟩:=ar;have va:iz=[]:=va;subst va;cases Mj with
  | nil=>unfold dU at o;exact⟨⟨o.1,U⟩,U,U,U⟩
  | cons d dr=>unfold dU at o;obtain⟨_,_,_,_,z,_⟩:=o;cases z
 | .ch i::as,Mj,JX,A,iz,vs,o,va,ar=>by
  obtain⟨v,r,rfl,h1,h2⟩:=va;obtain⟨v',r',rfl,g1,g2⟩:=ar;rw[h1]at g1;cases g1;cases Mj with
  | nil=>unfold dU at o;cases o.2
  | cons d dr=>
   unfold dU at o;obtain⟨y,yt,A1,A2,z,a1,a2,o1,o2⟩:=o;cases z;obtain⟨m1,m2,m3,m4⟩:=Be as dr JX A2 r r' o2 h2 g2;exact⟨⟨ND v,r'.map ND,A1,A2,U,a1,a2,⟨U,o1⟩,m1⟩,congrArg (v::·) m2,congrArg (·+1) m3,congrArg (·+1) m4⟩
 | .rd f::as,Mj,JX,A,iz,vs,o,va,ar=>by
  obtain⟨d,dr,v,r,rfl,rfl,g1,g2⟩:=ar;obtain⟨m1,m2,m3,m4⟩:=Be as Mj dr A iz r o va g2;have e:uT (qC (.rd f::as)) Mj (d::dr)=d::uT (qC as) Mj dr:=by cases Mj<;>rfl
  rw[e];exact⟨⟨ND v,r.map ND,nil,A,U,λ_ z=>z.elim,λx=>⟨.inr,λz=>z.elim False.elim id⟩,⟨λ_ z=>z,v,U,g1⟩,m1⟩,m2,congrArg (·+1) m3,congrArg (·+1) m4⟩
 | .nw f::as,Mj,JX,A,iz,vs,o,va,ar=>by
  obtain⟨d,dr,v,r,rfl,rfl,g1,g2⟩:=ar;obtain⟨m1,m2,m3,m4⟩:=Be as Mj dr A iz r o va g2;have e:uT (qC (.nw f::as)) Mj (d::dr)=d::uT (qC as) Mj dr:=by cases Mj<;>rfl
  rw[e];exact⟨⟨ND v,r.map ND,nil,A,U,λ_ z=>z.elim,λx=>⟨.inr,λz=>z.elim False.elim id⟩,⟨λ_ z=>z,v,U,g1⟩,m1⟩,m2,congrArg (·+1) m3,congrArg (·+1) m4⟩
theorem aIh{A A0 A1:Fp}{e0:EN}(h:eN (fP K H (out H A)) e0 A0 σ)(h0:Apart A0 A1)(hA:∀x,A1 x→A x)(c:∀x,A1 x→mR H x):yL K (out H A1) (rE e0) σ:=λj d q=>by
 unfold rE at q;rw[C4]at q;cases ej:e0[j]? with
 | none=>rw[ej]at q;cases q
 | some sd=>
  rw[ej]at q;obtain⟨y,Ak,Ck,f1,f2,f3,f4,_⟩:=h.focus ej;have apk:Apart Ak A1:=λx z1 z2=>h0 x ((f3 x).mpr (.inl z1)) z2;cases sd with
  | no=>cases q
  | fro d1=>
   cases q;obtain⟨_,v1,rfl,f5⟩:=f4;exact⟨v1,f1,(bU (aU.refl _) λx q=>.inl (hA x q):aU (out H A) (out H A1)).rv _ _ f5⟩
  | own d1=>
   cases q;obtain⟨v1,rfl,f5⟩:=f4;exact⟨v1,f1,f5.out apk λx q=>(c x q).2⟩
  | inn v1 d1=>cases q;obtain⟨rfl,f5⟩:=f4;exact⟨v1,f1,f5.out apk λx q=>(c x q).2⟩
end
def spG(K:aF)(mask:List Bool)(F:List D→Option (D×List D)):Sp:=λvs H Q _=>∃A ds r ds',ds.length=mask.length∧vs.length=mask.length∧eN (fP K H (out H A)) (aA8 mask ds vs) A (vs.map ND)∧F ds=ND (r,ds')∧∀w H' A' A2,dU K H' ds' A' (uw mask vs)→Ow K H' r A2 w→Apart A' A2→aU (out H A) (out H' (fH A' A2))→Q w H'
def JZ(as:List Ar)(F:List D→Option (D×List D)):GM:=λenv=>(takes (chA as) env).bind λce=>(rdA as (rE env) (rE ce.2)).bind λJX=>(F (uT (qC as) ce.1 JX)).map λrd=>(rd.1,Sv (chA as) rd.2 env)
section
variable{K:aF}{X:Cx}{e:AD}{es:List AD}{tA:TA}{as:List Ar}{pos pf:Pos}
theorem aDB{x:Str}{k n:Nat}{mask:List Bool}{F:List D→Option (D×List D)}(C:sJ X.prog X.w X.K X.mg X.base x k n (spG K mask F))(hm:qC as=mask)(hr:jK k X.A)(hg:Gl X x)(ha:XAC K X (e::es) tA as)(hdb:(x==("__debug__" : Str))=NH:=by decide)
  (he:AB (e::es) X.env=(NH,AO e X.env)::AB es X.env:=by rfl) (hpl:(AZ pos (AB es X.env)).any (·.1)=NH:=by rfl):XM K X (.Call (.Name x pf) (e::es) [] pos) (Ua (spG K mask F) [] E0 tA) (JZ as F):=⟨ha.hk,aAo C hr hg ha.pa hdb he hpl,λB σ H env d env' Q r q k=>by
 subst hm;obtain⟨⟨Mj,e0⟩,q1,q⟩:=aX q;obtain⟨JX,q2,q⟩:=aX q;obtain⟨⟨r1,ds'⟩,q3,q4⟩:=lJ q;cases q4;have rr:=r.r;obtain⟨A,a,b⟩:=r;obtain⟨A0,A1,iz,t1,t2,t3,t4,t5,t6⟩:=JW _ _ _ _ _ a q1;have cl:=jN a;have c1:∀x,A1 x→mR H x:=λx z=>cl x ((t2 x).mpr (.inr z));have c0:∀x,A0 x→mR H x:=λx z=>cl x ((t2 x).mpr (.inl z));refine ha.ev A1 σ H (rE env) (rE e0) JX iz _ c1 rr (aIh t3 t1 (λx z=>(t2 x).mpr (.inr z)) c1) t5 q2 λvs H2 s2 ar=>?_;show spG K (qC as) F (vs++[]) H2 Q E0;rw[F2];have o2:dU K H2 Mj A1 iz:=cO.mpr ((cO.mp t4).mono λ_ _ _ _ z=>z.same s2);obtain⟨m1,m2,m3,m4⟩:=Be as Mj JX A1 iz vs o2 t5 ar;refine⟨A1,_,r1,ds',m3,m4,m1,q3,λw H3 A' A2 p1 p2 ap sm=>k w H3 ?_⟩;rw[m2]at p1;have hC:∀y,A0 y→¬A' y∧¬A2 y∧H3 y=H y:=λy hy=>by obtain⟨⟨u,eu⟩,_⟩:=c0 y hy;obtain⟨n1,n2⟩:=bB.mp (sm y u (bB.mpr ⟨λz=>t1 y hy z,s2 y u eu⟩));exact⟨λz=>n1 (.inl z),λz=>n1 (.inr z),n2.trans eu.symm⟩
 have tk:Dh K H H3:=(Nq λx q=>(c1 x q).2).trans ((bU s2 λx q=>.inl q:aU (out H A1) (out H2 A1)).trans (sm.trans (jL _ _))).tk;have g:aU (out H A) (out H3 (fH (fH A0 A') A2)):=λy u ey=>by
  obtain⟨e1,e2⟩:=bB.mp ey;obtain⟨n1,n2⟩:=bB.mp (sm y u (bB.mpr ⟨λz=>e1 ((t2 y).mpr (.inr z)),s2 y u e2⟩));refine bB.mpr ⟨λz=>?_,n2⟩;rcases z with (z | z) | z
  ·exact e1 ((t2 y).mpr (.inl z))
  ·exact n1 (.inl z)
  ·exact n1 (.inr z)
 have f0:eN (fP K H3 (out H3 (fH (fH A0 A') A2))) e0 A0 σ:=t3.mono λs D z hb qq=>by
  cases s with
  | no=>exact qq
  | fro d=>obtain⟨q1,v,q2,q3⟩:=qq;exact⟨q1,v,q2,g.rv _ _ q3⟩
  | inn v d=>exact⟨qq.1,Ow.frame tk _ _ _ qq.2 λx zx=>(hC x (hb x zx)).2.2⟩
  | own d=>obtain⟨v,q1,q2⟩:=qq;exact⟨v,q1,Ow.frame tk _ _ _ q2 λx zx=>(hC x (hb x zx)).2.2⟩
 have s3:=t6 H3 _ ds' A0 A' f0 p1 λy z1 z2=>(hC y z1).1 z2;exact⟨_,eN.snoc s3 ⟨w,U,p2⟩ λy z1 z2=>z1.elim (λz=>(hC y z).2.1 z2) λz=>ap y z z2,b.trans g⟩⟩
end
def Vg:List Bool→List V→EN→List D→Prop
 | true::m,v::vs,s::e,ds=>∃d r,s=.inn v d∧ds=d::r∧Vg m vs e r
 | false::m,_::vs,_::e,ds=>Vg m vs e ds
 | [],_,_,ds=>ds=[]
 | _,_,_,_=>False
def Sw(mask:List Bool)(r:D)(ds':List D)(vs:List V)(o:SR):Prop:=∃env',(o=.rete r env'∨(o=.next env'∧r=.non))∧Vg mask vs env' ds'
theorem Bf:∀{m:List Bool} {vs:List V} {e:EN} {a b:List D},Vg m vs e a→Vg m vs e b→a=b
 | true::m,v::vs,s::e,a,b,⟨d,r,h1,h2,h3⟩,⟨d',r',g1,g2,g3⟩=>by rw[h1]at g1;injection g1 with _ g1;rw[h2,g2,Bf h3 g3,g1]
 | false::m,v::vs,s::e,a,b,h,g=>Bf (m:=m) (vs:=vs) (e:=e) h g
 | [],vs,e,a,b,h,g=>by have h:a=[]:=h;have g:b=[]:=g;rw[h,g]
 | true::m,[],e,a,b,h,g=>h.elim
 | false::m,[],e,a,b,h,g=>h.elim
 | true::m,v::vs,[],a,b,h,g=>h.elim
 | false::m,v::vs,[],a,b,h,g=>h.elim
theorem aBa{mask:List Bool}{r r2:D}{a b:List D}{vs:List V}{o:SR}(h1:Sw mask r a vs o)(h2:Sw mask r2 b vs o):r=r2∧a=b:=by
  obtain⟨e1,a1,a2⟩:=h1;obtain⟨e2,b1,b2⟩:=h2;rcases a1 with a1 | ⟨a1,rfl⟩
  · rcases b1 with b1 | ⟨b1,rfl⟩
    · rw[a1]at b1
      injection b1 with c1 c2;subst c2;exact⟨c1,Bf a2 b2⟩
    · rw[a1]at b1;cases b1
  · rcases b1 with b1 | ⟨b1,rfl⟩
    · rw[a1]at b1;cases b1
    · rw[a1]at b1
      injection b1 with c2;subst c2;exact⟨U,Bf a2 b2⟩
abbrev KC(n:Nat)(mask:List Bool)(ds:List D)(vs:List V):EN:=aA8 mask ds vs++E7 (n-mask.length) SD.no
open Classical in
noncomputable def Oz(n:Nat)(mask:List Bool)(g:GS):List D→Option (D×List D):=λds=>if h:∃p:D×List D,ds.length=mask.length∧∀vs:List V,vs.length=mask.length→Sw mask p.1 p.2 vs (g (KC n mask ds vs))then ND h.choose else none
theorem Gd{n:Nat}{mask:List Bool}{g:GS}{ds ds':List D}{r:D}(hl:ds.length=mask.length)(h:∀vs:List V,vs.length=mask.length→Sw mask r ds' vs (g (KC n mask ds vs))):Oz n mask g ds=ND (r,ds'):=by
 have ex:∃p:D×List D,ds.length=mask.length∧∀vs:List V,vs.length=mask.length→Sw mask p.1 p.2 vs (g (KC n mask ds vs)):=⟨(r,ds'),hl,h⟩
 unfold Oz;rw[dif_pos ex];have hz:(E7 mask.length V.non).length=mask.length:=R0;obtain⟨e1,e2⟩:=aBa (ex.choose_spec.2 _ hz) (h _ hz);exact congrArg ND (l6 e1 e2)
theorem aBb{n:Nat}{mask:List Bool}{g:GS}{ds ds':List D}{r:D}(h:Oz n mask g ds=ND (r,ds'))(vs:List V)(hv:vs.length=mask.length):Sw mask r ds' vs (g (KC n mask ds vs)):=by
 unfold Oz at h;split at h
 ·rename_i ex;have:=ex.choose_spec;rw[F1 h]at this;exact this.2 vs hv
 ·cases h
section
variable{P:AI}{w:AL}{K:aF}{mg:Str→Option A6}{base:AM}
theorem Ml{H Z:Hp}:∀(m:List Bool)(vs:List V)(env:EN)(ds:List D)(A:Fp)(σ:St),eN (fP K H Z) env A σ→Vg m vs env ds→vs.length=m.length→∃A',(∀x,A' x→A x)∧dU K H ds A' (uw m vs)
 | true::m,v::vs,s::e,ds,A,σ,h,⟨d,r,h1,h2,h3⟩,hl=>by obtain⟨y,yt,A1,A2,k1,k2,k3,k4,k5⟩:=h;subst h1 h2;obtain⟨A',g1,g2⟩:=Ml m vs e r A2 yt k5 h3 (u5 hl);refine⟨fH A1 A',λx z=>(k3 x).mpr (z.elim .inl λz=>.inr (g1 x z)),?_⟩;unfold dU;exact⟨v,uw m vs,A1,A',U,λx z1 z2=>k2 x z1 (g1 x z2),λx=>Iff.rfl,k4.2,g2⟩
 | false::m,v::vs,s::e,ds,A,σ,h,h3,hl=>by obtain⟨y,yt,A1,A2,k1,k2,k3,k4,k5⟩:=h;obtain⟨A',g1,g2⟩:=Ml m vs e ds A2 yt k5 h3 (u5 hl);exact⟨A',λx z=>(k3 x).mpr (.inr (g1 x z)),g2⟩
 | [],vs,e,ds,A,σ,h,g,hl=>by
  have g:ds=[]:=g;subst g;refine⟨nil,λ_ z=>z.elim,?_⟩;unfold dU;refine⟨λ_ z=>z,?_⟩;cases vs<;>rfl
 | true::m,[],e,ds,A,σ,h,g,hl=>g.elim
 | false::m,[],e,ds,A,σ,h,g,hl=>g.elim
 | true::m,v::vs,[],ds,A,σ,h,g,hl=>g.elim
 | false::m,v::vs,[],ds,A,σ,h,g,hl=>g.elim
theorem jb{H Z:Hp}:∀(n:Nat) {env:EN} {A:Fp} {σ:St},eN (fP K H Z) env A σ→eN (fP K H Z) (env++E7 n SD.no) A (σ++E7 n none)
 | 0,env,A,σ,h=>by show eN _ (env++[]) A (σ++[]);rw[F2,F2];exact h
 | n+1,env,A,σ,h=>by have s:=jb n (eN.snoc (d:=SD.no) (y:=none) (A1:=nil) h (λ_ z=>z) λ_ _ z=>z);rw[O3,O3]at s;exact s.fp λx=>⟨λz=>z.elim id False.elim,.inl⟩
theorem aIi{X:Cx}{N:List Str}{mask:List Bool}{g:GS}{body:List AH}{t:TS}{vs:List V}{H:Hp}{Q:VK}{E:XK}(yb:YB K X body t g)(h:spG K mask (Oz N.length mask g) vs H Q E):t {nx:=λ_ H'=>Q .non H',rt:=Q} (start N vs) H:=by
  obtain⟨A,ds,r,ds',hl,hv,hs,hF,kk⟩:=h;obtain⟨env',q1,q2⟩:=aBb hF vs hv;refine yb.ev (out H A) _ _ H (KC N.length mask ds vs) ?_ ?_
  · have s:=jb (N.length-mask.length) hs
    have e:start N vs=vs.map ND++E7 (N.length-mask.length) none:=by unfold start;rw[hv]
    rw[e];exact⟨A,s,aU.refl _⟩
  · rcases q1 with q1 | ⟨q1,rfl⟩
    · rw[q1]
      intro w σ' H' ⟨A2,a2,b2⟩;obtain⟨A3,A4,k1,⟨w',ew,o⟩,k3,k4⟩:=a2.Il;cases ew;obtain⟨A5,g1,g2⟩:=Ml mask vs env' ds' A3 σ' k1 q2 hv;exact kk w H' A5 A4 g2 o (λx z1 z2=>k3 x (g1 x z1) z2) (b2.trans (bU (aU.refl _) λx z=>.inl ((k4 x).mpr (z.elim (λz=>.inl (g1 x z)) .inr))))
    · rw[q1]
      intro σ' H' ⟨A2,a2,b2⟩;obtain⟨A5,g1,g2⟩:=Ml mask vs env' ds' A2 σ' a2 q2 hv;exact kk .non H' A5 nil g2 (by unfold Ow;exact⟨λ_ z=>z,U⟩) (λx z1 z2=>z2) (b2.trans (bU (aU.refl _) λx z=>.inl (z.elim (g1 x) False.elim)))
theorem Raw.aJL{x:Str}{st:AH}{N ps:List Str}{k:Nat}{g:GS}{mask:List Bool}(R:Raw K mg x st)(S:bA N ps (aL st))(hb:HB x x st ps)(hm:mask.length=ps.length)
  (hbody:∀(f:A7)(cdv:A6)(A:AN)(outer:List Env)(s:A8)(H:Hp)(E:XK),jK k (A.deeper (BT x (aL st) s.heap.objs.size f cdv))→∃t,YB K (Fd CQ P w K mg base N x (aL st) f cdv A outer s H E).ZV (cC st) t g):sJ P w K mg base x (k+1) mask.length (spG K mask (Oz N.length mask g)):=by
 rw[hm];refine R.cal S (λvs H Q E h=>by obtain⟨A,ds,r,ds',hl,hv,_⟩:=h;exact hv.trans hm) hb (λf cdv A outer s H vs Q E hr h=>?_);obtain⟨t,yb⟩:=hbody f cdv A outer s H E hr;exact⟨t,yb.ps,aIi yb h⟩
end
section
variable{K:aF}{X:Cx}{a b:AD}{rest:List AD}{ta tb:TE}{g h:GM}{f:FE}{pos:Pos}
def aKF(g h:GM):GM:=λenv=>(g env).bind λde=>match de.1 with
 | .bl NG=>h de.2
 | .bl NH=>ND (.bl NH,de.2)
 | _=>none
def aI0(f:FE):GS:=λenv=>match f (rE env)with
 | some (.lst _)=>.next env
 | _=>.bad
end
end L2


namespace L2
open PySem PySem.Spec PySem.Calls PyProof.Rows PyProof.V
section
variable{prog:AI}{w:AL}{A:AN}{R:Ee→A8→Prop}{I:A7}{fp wr:List A7}{n:Nat}{P:Nat→A6→Prop}{St:Nat→AM→Prop}{kw:List (Str×A6)}
end
section
variable{prog:AI}{w:AL}{A:AN}{E:A6→A8→Prop}{s:A8}
end
section
variable{K:aF}{X:Cx}{e e2:AD}{te t2:TE}{f g:FE}{x:Str}{p pos kp:Pos}
end
end L2


namespace L2
open PySem PySem.Spec PySem.Calls PyProof.Rows PyProof.V
section
variable{X:Cx}
def Bg:V→List V→Hp→VK→Prop:=λx vs H Q=>∃l xs i y,x=.ref l∧vs=[.int i,y]∧H l=ND (.lst xs)∧0≤i∧i.toNat≤xs.length∧xs.length<sizeLine∧Q .non (upd H l (.lst (xs.take i.toNat++y::xs.drop i.toNat)))
theorem Vh:MtM X "list.insert" Bg:=by
 intro pins s σ H x vs v us Q I rx rv h;obtain⟨l,xs,i,y,rfl,rfl,hH,h0,h1,hz,q⟩:=h;cases rx;obtain⟨u1,u2,rfl,ru1,ru2⟩:=rv.two;obtain⟨t,rfl⟩:=ru1;obtain⟨z,its,n,r,hl,e⟩:=I.aCL hH;have hsl:sizeLine<2 ^ 62:=by decide
 refine EU F.slot_list_insert ⟨_,e,U⟩ F.entry_list_insert (F.args_list_insert_3 _ _ _) (HZ l its.toArray n i t u2 (by rw[JJ (by omega) (by omega)];decide) (by rw[D3];omega)) ⟨e,?_⟩;refine⟨.non,_,I.aCK (its':=its.take i.toNat++u2::its.drop i.toNat) hH e ?_ ((r.take _).append (.cons ru2 (r.drop _))) ?_,U,q⟩
 ·show (its.toArray.extract 0 (if i<0 then(i+(its.toArray.size:Int)).toNat else min i.toNat its.toArray.size)).push u2++its.toArray.extract (if i<0 then(i+(its.toArray.size:Int)).toNat else min i.toNat its.toArray.size)=_;rw[if_neg (by omega),D3,show min i.toNat its.length=i.toNat by omega];apply Array.ext';simp;exact O7 (by rw[N6];omega)
 ·rw[C7,D8,F3,N6];omega
theorem Yl{i:Int}{t:Tok}:∀{ns:List Int} {us:List A6},Vals (ns.map V.int) us→∀y∈us,MY y (.int i t) (Xf (.int i) y)
 | [],_,.nil=>λy hy=>by cases hy
 | n::ns,u::us,.cons r rs=>λy hy=>by
  rcases C5.mp hy with rfl | hy
  ·obtain⟨t',rfl⟩:=r;exact Lm n i t' t
  ·exact Yl rs y hy
theorem Du{i:Int}:∀{ns:List Int} {m:Nat} (h:m<ns.length),m<ns.idxOf i→ns[m]≠i
 | [],m,h,_=>absurd h (I0 _)
 | a::ns,0,h,hl=>λe=>by have e:a=i:=e;rw[V4,e,beq_self_eq_true]at hl;exact absurd hl (L7 _)
 | a::ns,m+1,h,hl=>by
  rw[V4]at hl;cases q:a==i with
  | true=>rw[q]at hl;exact absurd hl (I0 _)
  | false=>rw[q]at hl;have hl:m+1<ns.idxOf i+1:=hl;exact Du (ns:=ns) (m:=m) (by simpa using h) (by omega)
theorem aBc{α β:Type}(φ:α→β):∀(l:List α)(k:Nat),(l.map φ).eraseIdx k=(l.eraseIdx k).map φ
 | [],_=>rfl
 | _::_,0=>rfl
 | a::l,k+1=>congrArg (φ a::·) (aBc φ l k)
theorem int_at{ns:List Int}{us:List A6}(h:Vals (ns.map V.int) us)(i:Int){m:Nat}(hm:m<us.toArray.size):∃hn:m<ns.length,Xf (.int i) us.toArray[m]=(ns[m]==i):=by
 have hl:=h.length;rw[B7]at hl;have hm':m<us.length:=by simpa using hm
 obtain⟨u,eu,ru⟩:=h.get (i:=m) (x:=.int (ns[m]'(by omega))) (by rw[C4,B6 (by omega)];rfl);obtain⟨t,rfl⟩:=ru;have e:us.toArray[m]=.int (ns[m]'(by omega)) t:=by have:=B6 hm';rw[eu]at this;simpa using (F1 this).symm
 refine⟨by omega,?_⟩;rw[e];rfl
def Bh:V→List V→Hp→VK→Prop:=λx vs H Q=>∃(l:A7)(ns:List Int)(i:Int),x=.ref l∧vs=[.int i]∧H l=ND (.lst (ns.map V.int))∧i∈ns∧Q .non (upd H l (.lst ((ns.eraseIdx (ns.idxOf i)).map V.int)))
theorem Ip:MtM X "list.remove" Bh:=by
 intro pins s σ H x vs v us Q I rx rv h;obtain⟨l,ns,i,rfl,rfl,hH,hi,q⟩:=h;cases rx;obtain⟨u,rfl,ru⟩:=rv.one;obtain⟨t,rfl⟩:=ru;obtain⟨z,its,n,r,hl,e⟩:=I.aCL hH;rw[B7]at hl;have hj:ns.idxOf i<ns.length:=R5 hi;have hz:its.length≤sizeLine:=by rw[B7]at z;omega
 refine EU F.slot_list_remove ⟨_,e,U⟩ F.entry_list_remove (F.args_list_remove_2 _ _) (Lo l its.toArray n (.int i t) (Xf (.int i)) (λy hy=>Yl r y (by simpa using hy)) (ns.idxOf i) (by rw[D3];omega) ?_ ?_ (by rw[D3];exact hz)) ⟨e,?_⟩
 ·obtain⟨h1,h2⟩:=int_at r i (m:=ns.idxOf i) (by rw[D3];omega);rw[h2,j0];exact beq_self_eq_true i
 ·intro m hm hlt;obtain⟨h1,h2⟩:=int_at r i hm;rw[h2];exact beq_eq_false_iff_ne.mpr (Du h1 hlt)
 ·refine⟨.non,_,I.aCK (its':=its.eraseIdx (ns.idxOf i)) hH e ?_ ?_ ?_,U,q⟩
  ·rw[U8]
  ·have:=r.eraseIdx (ns.idxOf i);rw[aBc]at this;exact this
  ·rw[B7];have:=Hx ns (ns.idxOf i);omega
def WN(K:aF):V→List V→Hp→VK→Prop:=λx vs H Q=>∃(l:A7)(ns:List Int)(i:Int),x=.ref l∧vs=[.int i]∧pQ K H l (ns.map V.int)∧i∈ns∧Q (.int (ns.idxOf i)) H
theorem Pa:MtM X "list.index" (WN X.K):=by
 intro pins s σ H x vs v us Q I rx rv h;obtain⟨l,ns,i,rfl,rfl,hq,hi,q⟩:=h;cases rx;obtain⟨u,rfl,ru⟩:=rv.one;obtain⟨t,rfl⟩:=ru;obtain⟨its,r,pl,z⟩:=I.list hq;have hl:=r.length;rw[B7]at hl z;have hj:ns.idxOf i<ns.length:=R5 hi;have hsl:sizeLine<2 ^ 62:=by decide
 obtain⟨⟨cls,dd,data,sl⟩,ho,hc,n,hd⟩:=pl.isList;dsimp only at hc hd;subst hc hd;refine EU F.slot_list_index ⟨_,ho,U⟩ F.entry_list_index (F.args_list_index_2 _ _) (SeqAt.list_indexAt l its.toArray n dd sl (.int i t) (Xf (.int i)) (ns.idxOf i) (by rw[D3];omega) (by omega) ?_ ?_) ⟨ho,λy hy=>MY.at (Yl r y (by simpa using hy)) _ _,?_⟩
 ·obtain⟨h1,h2⟩:=int_at r i (m:=ns.idxOf i) (by rw[D3];omega);rw[h2,j0];exact beq_self_eq_true i
 ·intro m hm hlt;obtain⟨h1,h2⟩:=int_at r i hm;rw[h2];exact beq_eq_false_iff_ne.mpr (Du h1 hlt)
 ·exact⟨.int (ns.idxOf i),H,I.tok _,⟨_,U⟩,q⟩
end
section
variable{K:aF}{X:Cx}{a b e:AD}{ta tb te:TE}{f g:FE}{i:Nat}{π:FP}{pos apos cpos:Pos}{m:Str}
def Ym(i:Nat)(π:FP)(g f:FE):GS:=λenv=>match env[i]?,π (rE env),g (rE env),f (rE env)with
 | some (.own d0),ND p,ND (.int k),ND (.int y)=>(match eV p d0 with
  | some (.lst ds)=>(match intsOf ds with
   | some ns=>if 0≤k∧k.toNat≤ns.length∧ns.length<1000 then .next (env.set i (.own (eO p d0 (.lst ((ns.take k.toNat++y::ns.drop k.toNat).map D.int)))))else .bad
   | none=>.bad)
  | _=>.bad)
 | _,_,_,_=>.bad
theorem aBd(h:EvP K ta i π)(hx:Ka K tb g)(he:Ka K te f):qy K (kE (Hw K "list" Bg ta (cI tb (cI te lG)))) (Ym i π g f):=λB E σ H env r p=>by
 unfold Ym at p;split at p
 ·rename_i d0 pp k y q1 q2 q3 q3';split at p
  ·rename_i ds q4;split at p
   ·rename_i ns q5;split at p
    ·rename_i hc;obtain⟨c0,c1,c2⟩:=hc;obtain⟨v0,a,xs,Bs,k1,k2,k3,k4,k5,k6⟩:=r.Yd q1 q4;have ed:=tZ q5;subst ed;have ex:=jM.mp (dU.rv _ _ _ k5);subst ex;refine h σ H (rE env) v0 pp _ _ r.r k1 q2 k2 λH1 s1=>⟨.inl ⟨U,_,pQ.of (s1 _ _ k3)⟩,?_⟩
     refine hx σ H1 H1 (rE env) _ _ (Zn.self K H1) (r.r.same s1) q3 λu H2 Z2 s2 t2 z2 ru=>he σ H2 H2 (rE env) _ _ (Zn.self K H2) (r.r.same (s1.trans s2)) q3' λw H3 Z3 s3 t3 z3 Ru=>?_;unfold Rv at ru Ru;subst ru Ru;have Xy:=s1.trans (s2.trans s3);refine⟨a,_,k,.int y,U,U,Xy _ _ k3,c0,by rw[B7];exact c1,Ny (by rw[B7];omega),p _ ?_⟩;have e:(ns.map V.int).take k.toNat++V.int y::(ns.map V.int).drop k.toNat=(ns.take k.toNat++y::ns.drop k.toNat).map V.int:=by rw[J0,D5,g6,g7]
     rw[e];exact k6 H3 _ _ nil Xy (wI _ _ (dG _) (jM.mpr U)) λb z=>z.elim
    ·exact p.elim
   ·exact p.elim
  ·exact p.elim
 ·exact p.elim
def Sx(i:Nat)(π:FP)(f:FE):GS:=λenv=>match env[i]?,π (rE env),f (rE env)with
 | some (.own d0),ND p,ND (.int y)=>(match eV p d0 with
  | some (.lst ds)=>(match intsOf ds with
   | some ns=>if y∈ns then .next (env.set i (.own (eO p d0 (.lst ((ns.eraseIdx (ns.idxOf y)).map D.int)))))else .bad
   | none=>.bad)
  | _=>.bad)
 | _,_,_=>.bad
theorem aBe(h:EvP K ta i π)(he:Ka K te f):qy K (kE (Hw K "list" Bh ta (cI te lG))) (Sx i π f):=λB E σ H env r p=>by
 unfold Sx at p;split at p
 ·rename_i d0 pp y q1 q2 q3;split at p
  ·rename_i ds q4;split at p
   ·rename_i ns q5;split at p
    ·rename_i hc;obtain⟨v0,a,xs,Bs,k1,k2,k3,k4,k5,k6⟩:=r.Yd q1 q4;have ed:=tZ q5;subst ed;have ex:=jM.mp (dU.rv _ _ _ k5);subst ex;refine h σ H (rE env) v0 pp _ _ r.r k1 q2 k2 λH1 s1=>⟨.inl ⟨U,_,pQ.of (s1 _ _ k3)⟩,?_⟩
     refine he σ H1 H1 (rE env) _ _ (Zn.self K H1) (r.r.same s1) q3 λw H2 Z2 s2 t2 z2 Ru=>?_;unfold Rv at Ru;subst Ru;have s12:=s1.trans s2;refine⟨a,ns,y,U,U,s12 _ _ k3,hc,p _ ?_⟩;exact k6 H2 _ _ nil s12 (wI _ _ (dG _) (jM.mpr U)) λb z=>z.elim
    ·exact p.elim
   ·exact p.elim
  ·exact p.elim
 ·exact p.elim
theorem aGs(h:XP K X a ta i π)(hx:XR K X b tb g)(he:XR K X e te f)(hp:PE X a ta→PE X b tb→PE X e te→PS X (.Expr (.Call (.Attribute a m apos) [b,e] [] cpos) pos) (kE (Hw K "list" Bg ta (cI tb (cI te lG))))):YS K X (.Expr (.Call (.Attribute a m apos) [b,e] [] cpos) pos) (kE (Hw K "list" Bg ta (cI tb (cI te lG)))) (Ym i π g f):=⟨hp h.pe hx.pe he.pe,(aBd h.ev hx.ev he.ev).ds⟩
theorem aDC(h:XP K X a ta i π)(hx:XR K X b tb g)(he:XR K X e te f)(hp:PE X a ta→PE X b tb→PE X e te→PS X (.Expr (.Call (.Attribute a m apos) [b,e] [] cpos) pos) (kE (Hw K "list" Bg ta (cI tb (cI te lG))))):YS K X (.Expr (.Call (.Attribute a m apos) [b,e] [] cpos) pos) (kE (Hw K "list" Bg ta (cI tb (cI te lG)))) (iW i (Ym i π g f)):=Dt i (hp h.pe hx.pe he.pe) (aBd h.ev hx.ev he.ev)
theorem aGt(h:XP K X a ta i π)(he:XR K X e te f)(hp:PE X a ta→PE X e te→PS X (.Expr (.Call (.Attribute a m apos) [e] [] cpos) pos) (kE (Hw K "list" Bh ta (cI te lG)))):YS K X (.Expr (.Call (.Attribute a m apos) [e] [] cpos) pos) (kE (Hw K "list" Bh ta (cI te lG))) (Sx i π f):=⟨hp h.pe he.pe,(aBe h.ev he.ev).ds⟩
theorem jc(h:XP K X a ta i π)(he:XR K X e te f)(hp:PE X a ta→PE X e te→PS X (.Expr (.Call (.Attribute a m apos) [e] [] cpos) pos) (kE (Hw K "list" Bh ta (cI te lG)))):YS K X (.Expr (.Call (.Attribute a m apos) [e] [] cpos) pos) (kE (Hw K "list" Bh ta (cI te lG))) (iW i (Sx i π f)):=Dt i (hp h.pe he.pe) (aBe h.ev he.ev)
def uU(a b:D):Option D:=match a,b with
 | .lst ds,.int i=>(intsOf ds).bind λns=>if i∈ns then ND (.int (ns.idxOf i))else none
 | _,_=>none
theorem Pb(ha:XR K X a ta f)(he:XR K X e te g)(hp:PE X a ta→PE X e te→PE X (.Call (.Attribute a m apos) [e] [] pos) (Hw X.K "list" (WN X.K) ta (cI te lG))):XN K X (.Call (.Attribute a m apos) [e] [] pos) (Hw K "list" (WN K) ta (cI te lG)) (f2 uU f g):=⟨ha.hk,by have:=ha.hk;subst this;exact hp ha.pe he.pe,λσ H e d Q re q k=>by
 obtain⟨d1,q1,q⟩:=aX q;obtain⟨d2,q2,q⟩:=aX q;unfold uU at q;split at q
 ·obtain⟨ns,q3,q⟩:=aX q;split at q
  ·rename_i hi;cases q;refine ha.ev σ H H e _ _ (Zn.self K H) re q1 λv H1 Z1 s1 t1 z1 rv=>?_;have rv:=z1.sm.rv _ _ rv;obtain⟨p,rfl,r2⟩:=yZ q3 rv;refine⟨.inl ⟨U,_,r2⟩,he.ev σ H1 H1 e _ _ (Zn.self K H1) (re.same s1) q2 λu H2 Z2 s2 t2 z2 ru=>?_⟩;unfold Rv at ru;subst ru;obtain⟨p',e',r3⟩:=yZ q3 (s2.rv _ _ rv);cases e';exact⟨p,ns,_,U,U,r3,hi,k _ H2 (s1.trans s2) (.jF U (by unfold Rv;rfl))⟩
  ·cases q
 ·cases q⟩
def Pg(a b:D):Option D:=match a with
 | .dk ks ds=>(Sq b).bind λk=>match posK ks k with
  | none=>ND .non
  | some j=>(ds[j]?).bind λr=>if r.jF=NG then ND r else none
 | _=>none
theorem Ph(hu:X.A.units+1<As)(ha:XR K X a ta f)(he:XR K X e te g)(mm:M1 X a "get" apos e cpos):XN K X (.Call (.Attribute a "get" apos) [e] [] cpos) (aAi ta te) (f2 Pg f g):=⟨ha.hk,aAj hu ha.pe he.pe mm,λσ H e d Q re q k=>by
 obtain⟨d1,q1,q⟩:=aX q;obtain⟨d2,q2,q⟩:=aX q;unfold Pg at q;split at q
 ·rename_i ks ds _;obtain⟨kk,h1,q⟩:=aX q;refine ha.ev σ H H e _ _ (Zn.self K H) re q1 λx H1 Z1 s1 t1 z1 rx=>?_;have rx:=z1.sm.rv _ _ rx;have rx':=rx;unfold Rv at rx;obtain⟨p,xs,r1,r2,r3,r4⟩:=rx;refine⟨p,r1,.inl ⟨_,r2⟩,he.ev σ H1 H1 e _ _ (Zn.self K H1) (re.same s1) q2 λu H2 Z2 s2 t2 z2 ru=>?_⟩;have ru:=z2.sm.rv _ _ ru;have rx2:=s2.rv _ _ rx';unfold Rv at rx2;obtain⟨p',xs',e1,r2',r3',r4'⟩:=rx2;rw[r1]at e1;cases e1;refine⟨wH (ks.zip xs') kk,.inl ⟨_,kk,r2',Lx h1 ru,U⟩,?_⟩;rw[sS r3'];split at q
  ·rename_i hn;cases q;rw[hn];exact k _ H2 (s1.trans s2) (.jF U (by unfold Rv;rfl))
  ·rename_i j hj;obtain⟨r,q4,q⟩:=aX q;split at q
   ·rename_i im;cases q;obtain⟨v,e1,e2⟩:=r4'.get q4;rw[hj,B9,e1];exact k v H2 (s1.trans s2) (.jF im e2)
   ·cases q
 ·cases q⟩
def aDD:List D→Option D
 | [.int a]=>ND (.int (if a<0 then -a else a))
 | _=>none
def aIj:List V→Hp→VK→Prop:=λxs H Q=>∃a:Int,xs=[.int a]∧Q (.int (if a<0 then -a else a)) H
theorem aGu:xU K aIj aDD:=λvs H ds d Q rs q k=>by
 unfold aDD at q;split at q
 ·cases q;obtain⟨v,rfl,r⟩:=sU rs;unfold Rv at r;subst r;exact⟨_,U,k _ H (aU.refl _) (.jF U (by unfold Rv;rfl))⟩
 ·cases q
theorem aGv:mZ X (.builtin "abs") aIj:=by intro pins s σ H xs us Q I r h;obtain⟨a,rfl,q⟩:=h;obtain⟨u,rfl,rx⟩:=vals1 r;obtain⟨t,rfl⟩:=rx;exact call_abs_int λu tk=>⟨.int _,H,I.tok _,⟨u,U⟩,q⟩
end
end L2


namespace L2
open PySem PySem.Spec PySem.Calls PyProof.Rows PyProof.V
def aGw(ks:List Key)(vs:List V):List (V×V):=(ks.zip vs).map λkv=>(kV kv.1,kv.2)
def aJM(K:aF)(t:List (TE×TE))(ks:List Key)(is:List Nat)(fs:FA):Prop:=∀(σ:St)(H:Hp)(e:DE)(ds:List D)(xs:List V)(Q:List (V×V)→Hp→Prop),yL K H e σ→fs e=ND ds→xs.length=is.length →
 (∀(k i:Nat),is[k]?=ND i→∃x,xs[k]?=ND x∧σ[i]?=ND (ND x))→(∀vs H',aU H H'→Sh K H H' ds vs→Q (aGw ks (xs++vs)) H')→TF t σ H Q
structure XDm(K:aF)(X:Cx)(p:Pos)(keys:List (Option AD))(vals:List AD)(t:List (TE×TE))(ks:List Key)(is:List Nat)(fs:FA):Prop where
 hk:X.K=K
 pps:PPs X p keys vals t
 ev:aJM K t ks is fs
section
variable{K:aF}{X:Cx}{st:AH}{e:AD}{vals:List AD}{keys:List (Option AD)}{te:TE}{f:FE}{fs:FA}{pos p p1:Pos}{i j:Nat}{t:List (TE×TE)}{ks:List Key}{is:List Nat}{x:Str}
def aKG(ks:List Key)(is:List Nat)(fs:FA):GS:=λenv=>match fs (rE env),aAL env is with
 | some ds,ND os=>if decide is.Nodup=NG∧decide ks.Nodup=NG∧ks.length=os.length+ds.length∧ks.length≤15 then .ret (.dk ks (os++ds))else .bad
 | _,_=>.bad
end
section
variable{X:Cx}{K:aF}{x y:Str}{p p2 pos pos2:Pos}{a b:AD}{t:TA}{fs:FA}
theorem KD(lo:Int):∀(m:Nat)(us:List A6)(s:Nat),us.length=m→(∀(j:Nat)(w:A6),us[j]?=ND w→∃t,w=.int (lo+((s+j:Nat):Int)) t)→Vals ((List.range' s m).map λk=>V.int (lo+((k:Nat):Int))) us
 | 0,us,s,hl,_=>by have:us=[]:=L6 hl;subst this;exact .nil
 | m+1,us,s,hl,hw=>by
  cases us with
  | nil=>cases hl
  | cons w us=>rw[l5,D5];obtain⟨t0,e0⟩:=hw 0 w U;refine .cons ⟨t0,by rw[e0];rfl⟩ (KD lo m us (s+1) (by simpa using hl) λj w' hj=>?_);obtain⟨t1,e1⟩:=hw (j+1) w' (by simpa using hj);exact⟨t1,by rw[e1,show s+(j+1)=s+1+j by omega]⟩
def Yn:List V→Hp→VK→Prop:=λvs H Q=>∃lo hi:Int,vs=[.int lo,.int hi]∧0≤lo∧lo≤1000∧0≤hi∧hi≤1000∧∀l,H l=none→Q (.ref l) (upd H l (.lst ((D2 (hi-lo).toNat).map λk=>V.int (lo+((k:Nat):Int)))))
theorem aBf(hc:X.calm=NG)(pins:List (A7×Obj))(s:A8)(σ:St)(H:Hp)(vs:List V)(us:List A6)(Q:VK)(I:Inv X pins σ H s)(rv:Vals vs us)(h:Yn vs H Q) :
  AF (AG X.prog X.w) X.A (call (.type "range") us) (λu' s'=>AF (AG X.prog X.w) X.A (call (.type "list") [u']) (EP X pins σ Q) X.xe s') X.xe s:=by
 obtain⟨lo,hi,rfl,h0,h1,h2,h3,q⟩:=h;cases rv with
 | cons r rr=>
  cases rr with
  | cons r' rr=>
   cases rr;obtain⟨t,rfl⟩:=r;obtain⟨t',rfl⟩:=r';refine Kx ?_;refine JA (n:=(hi-lo).toNat) (I.ok.hd hc) (IE _ _ _ _ _ _ _) (KF (by omega) (by omega) (by omega) (by omega)) (by rw[GU];split<;>omega) (by omega) λh' tk acc c kp g it=>?_;have I1:Inv X pins σ H {s with heap:=s.heap.push {cls:=.type "range", data:=.fields #[.int lo t,.int hi t',.int 1 s.toks]},toks:=s.toks+1}:=I.kept (t':=s.toks+1) λb o e=>AA _ e;generalize hg':s.heap.push {cls:=.type "range", data:=.fields #[.int lo t,.int hi t',.int 1 s.toks]}=hp at *;have hs:H hp.objs.size=none:=I1.hok.fresh (D1 _);have rr:Vals ((D2 (hi-lo).toNat).map λk=>V.int (lo+((k:Nat):Int))) acc.toList:=by rw[e9];refine KD lo _ acc.toList 0 (by rw[K3];exact it.1) λj w hj=>?_;obtain⟨t1,e1⟩:=it.2 j w (by rw[←L8];exact hj);exact⟨t1,by rw[e1,show lo+(j:Int)*1=lo+((0+j:Nat):Int) by omega]⟩
   exact⟨.ref _,_,I1.laid (t':=tk) (a:=hp.objs.size) (o:=.lst ((D2 (hi-lo).toNat).map λk=>V.int (lo+((k:Nat):Int)))) kp (D1 _) ⟨by rw[B7,E3];exact O8 (rY (by omega)),acc.toList,c,rr,by simpa[Fs]using g⟩,U,q _ hs⟩
theorem ux(hc:X.calm=NG)(ha:PA X [a,b] t)(hg:Gl X x)(hm:X.mg x=none)(hv:AU x=ND (.type "list")) (hg2:Gl X y) (hm2:X.mg y=none) (hv2:AU y=ND (.type "range")) (hn:x ≠ "__name__" := by decide) (hdb:(x==("__debug__" : Str))=NH:=by decide) (hn2:y ≠ "__name__" := by decide) (Oq:(y==("__debug__" : Str))=NH:=by decide)
  (he:AB [a,b] X.env=[(NH,AO a X.env),(NH,AO b X.env)]:=by rfl) (he1:AB [b] X.env=[(NH,AO b X.env)]:=by rfl) (he2:AB [.Call (.Name y p2) [a,b] [] pos2] X.env=[(NH,AO (.Call (.Name y p2) [a,b] [] pos2) X.env)]:=by rfl) :
  PE X (.Call (.Name x p) [.Call (.Name y p2) [a,b] [] pos2] [] pos) (tCB Yn t):=by
 intro pins s σ H Q I h;refine Ap (sI I hg hm hv ?_ hn hdb);refine J6 ?_ he2 U;rw[he2];refine BF (Ap (sI I hg2 hm2 hv2 ?_ hn2 Oq));exact J6 (iM (ha pos2 pins s σ H _ I h) λus s1 ⟨vs,H1,I1,r1,q1⟩=>iM (aBf hc pins s1 σ H1 vs us Q I1 r1 q1) λu' s' z=>BI z) (by rw[he,he1]) (by rw[he1];rfl)
def Ge:List D→Option D
 | [.int lo,.int hi]=>if 0≤lo∧lo≤1000∧0≤hi∧hi≤1000 then ND (.lst ((D2 (hi-lo).toNat).map λk=>D.int (lo+((k:Nat):Int))))else none
 | _=>none
theorem uy(h:XA K X [a,b] t fs)(hg:Gl X x)(hm:X.mg x=none)(hv:AU x=ND (.type "list")) (hg2:Gl X y) (hm2:X.mg y=none) (hv2:AU y=ND (.type "range")) (hc:X.calm=NG:=by rfl) (hn:x ≠ "__name__" := by decide) (hdb:(x==("__debug__" : Str))=NH:=by decide) (hn2:y ≠ "__name__" := by decide) (Oq:(y==("__debug__" : Str))=NH:=by decide)
  (he:AB [a,b] X.env=[(NH,AO a X.env),(NH,AO b X.env)]:=by rfl) (he1:AB [b] X.env=[(NH,AO b X.env)]:=by rfl) (he2:AB [.Call (.Name y p2) [a,b] [] pos2] X.env=[(NH,AO (.Call (.Name y p2) [a,b] [] pos2) X.env)]:=by rfl) :
  XN K X (.Call (.Name x p) [.Call (.Name y p2) [a,b] [] pos2] [] pos) (tCB Yn t) (fL Ge fs):=⟨h.hk,ux hc h.pa hg hm hv hg2 hm2 hv2 hn hdb hn2 Oq he he1 he2,λσ H e d Q re q k=>by
 obtain⟨ds,q1,q2⟩:=aX q;unfold Ge at q2;split at q2
 ·rename_i lo hi;split at q2
  ·rename_i hl;cases q2;refine h.ev σ H H e _ _ (Zn.self K H) re q1 λvs H1 Z1 s1 t1 z1 rvs=>?_;unfold dF at rvs;obtain⟨v1,r1,rfl,e1,rvs⟩:=rvs;unfold dF at rvs;obtain⟨v2,r2,rfl,e2,rvs⟩:=rvs;unfold dF at rvs;subst rvs;unfold Rv at e1 e2;subst e1 e2;refine⟨lo,hi,U,hl.1,hl.2.1,hl.2.2.1,hl.2.2.2,λl hl=>k _ _ (s1.trans (cP hl _)) ((rH (aU.refl _) (.eU ?_ ?_) hl).back s1)⟩
   ·have:=dG ((D2 (hi-lo).toNat).map λk=>lo+((k:Nat):Int));rw[K4]at this;exact this
   ·have:=jM (K:=K) (H:=H1) (ns:=(D2 (hi-lo).toNat).map λk=>lo+((k:Nat):Int)) |>.mpr U;rw[K4]at this;rw[show (λk:Nat=>V.int (lo+(k:Int)))=V.int∘λk:Nat=>lo+(k:Int)from rfl,←K4];exact this
  ·cases q2
 ·cases q2⟩
end
end L2


namespace L2
open PySem PySem.Spec PySem.Calls PyProof.Rows PyProof.V
section
variable{K:aF}{X:Cx}{a e:AD}{ta te:TE}{f:FE}{π:FP}{i:Nat}{m:Str}{apos cpos pos:Pos}
def aKH(i:Nat)(π:FP)(f:FE):GS:=λenv=>match env[i]?,π (rE env),f (rE env)with
 | some (.own d0),ND p,ND (.int k)=>(match eV p d0 with
  | some (.lst ds)=>(match intsOf ds with
   | some ns=>if 0≤k∧k.toNat<ns.length∧ns.length<1000 then .next (env.set i (.own (eO p d0 (.lst ((ns.eraseIdx k.toNat).map D.int)))))else .bad
   | none=>.bad)
  | _=>.bad)
 | _,_,_=>.bad
end
end L2


namespace L2
open PySem PySem.Spec PySem.Calls PyProof.Rows PyProof.V
section
variable{K:aF}{X:Cx}{a b e:AD}{es:List AD}{ta tb te t:TE}{f g:FE}{tA:TA}{fs:FA}{pos apos cpos p2:Pos}{m:Str}
structure aKI(mg:Str→Option A6)(x:Str)(i:Str):Prop where
 ex:∃t,mg x=ND (.str i t)
def aEG(i j:Int):Prop:=0<j∧j.natAbs.log2<9000
instance:∀i j,Decidable (aEG i j):=λi j=>by unfold aEG;exact inferInstance
end
section
variable{P:AI}{w:AL}{K:aF}{tg:AD}
end
section
variable{K:aF}{X:Cx}{tg e l:AD}{t tl:TE}{f:FE}
end
end L2


namespace L2
open PySem PySem.Spec PySem.Calls PyProof.Rows PyProof.V
section
variable{K:aF}{X:Cx}{a b c e:AD}{ta tb tc te t:TE}{f g fa fb fc:FE}{pos apos cpos:Pos}{m:Str}
end
end L2


namespace L2
open PySem PySem.Spec PySem.Calls PyProof.Rows PyProof.V
section
variable{K:aF}{B H H':Hp}{env:EN}{σ:St}{i j:Nat}{v:V}{d:D}
end
end L2


namespace L2
open PySem PySem.Spec PySem.Calls PyProof.Rows PyProof.V
abbrev aJN(h:AM)(l:List Env):AM:=l9 h (frs l)
structure Fl(l:List Env)(s1:A8)(e:A7)(cls:A6)(s':A8):Prop where
 fly:∃a0,Heap.FlyingW (aJN s1.heap l) l e cls a0 s'.heap
 up:s1.heap.UpToSlots s'.heap
 os:s'.os=s1.os
 bare:DC s'.gens
def CX1(P:AI)(w:AL):mz:=λouter H s E ev s'=>∃e cls H' s1,ev=.ref e∧s1.os=s.os∧DC s1.gens∧Un (frs outer) [] H H' s.heap s1.heap∧Cq P w H' s1.heap∧Fl outer s1 e cls s'∧E cls none H'
section
variable{P:AI}{w:AL}{l:List Env}{s1 s':A8}{e:A7}{cls:A6}{H:Hp}{base:AM}
end
section
variable{X:Cx}{pins:List (A7×Obj)}{σ:St}{H:Hp}{s s1 s':A8}{e:A7}{cls ev:A6}{E:XK}
end
section
variable{P:AI}{w:AL}{env:Env}{outer:List Env}{L e:A7}{cls a0:A6}{s0 s1:A8}{H0 H:Hp}{E:XK}{base h':AM}{s2:A8}
end
section
variable{P:AI}{w:AL}{K:aF}{mg:Str→Option A6}{base:AM}{N:List Str}{qual:Str}{scope:BD}{f:A7}{cd:A6}{A:AN}{outer:List Env}{s0:A8}{H0:Hp}{E:XK}
end
end L2


namespace L2
open PySem PySem.Spec PySem.Calls PyProof.Rows PyProof.V
abbrev GZ:=EN→Option Nat
def DZ(K:aF)(κ:Nat→A7)(E:XK)(t:TS)(z:GZ):Prop:=∀(B:Hp)(D:Ends)(σ:St)(H:Hp)(env:EN)(i:Nat),Rel K B env σ H→z env=ND i→(∀H',aU B H'→E (.ref (κ i)) none H')→t D σ H
structure YZ(K:aF)(κ:Nat→A7)(X:Cx)(E:XK)(st:AH)(t:TS)(z:GZ):Prop where
 ps:PS X st t
 ev:DZ K κ E t z
structure YZB(K:aF)(κ:Nat→A7)(X:Cx)(E:XK)(st:List AH)(t:TS)(z:GZ):Prop where
 ps:DN X st t
 ev:DZ K κ E t z
structure aLN(P:AI)(w:AL)(K:aF)(mg:Str→Option A6)(base:AM)(x:Str)(k:Nat)(n:Nat)(sp:Sp):Prop where
 ex:∃f fd ps,ps.length=n∧yF P w K mg base (CX1 P w) k f fd ps sp∧Binds K fd ps []∧K8 K (.ref f)=NG∧mg x=ND (.ref f)
structure aKJ(P:AI)(w:AL)(K:aF)(mg:Str→Option A6)(base:AM)(C:A7)(m:Str)(k n:Nat)(df:Bool)(sp:Sp):Prop where
 ex:∃f fd ps,ps.length=n∧yF P w K mg base (CX1 P w) k f fd ps sp∧Binds K fd ps []∧(df=NG→Binds K fd ps [B5])∧Meth K C m f
theorem Rel.sub{K:aF}{B H:Hp}{env:EN}{σ:St}(r:Rel K B env σ H):aU B H:=let ⟨_,_,b⟩:=r;b.trans (jL _ _)
section
variable{K:aF}{κ:Nat→A7}{X:Cx}{E:XK}{st:AH}{sts rest:List AH}{t u:TS}{z z1 z2:GZ}{g:GS}{c e o:AD}{es:List AD}{te ta:TE}{tA:TA}{tc:TT}{fc:FT}{f:FE}{fs:FA}{pos apos:Pos}{m:Str}
def PE1(X:Cx)(pins:List (A7×Obj))(σ:St)(e:AD)(t:TE):Prop:=∀(s:A8)(H:Hp)(Q:VK),Inv X pins σ H s→t σ H Q→AF (AG X.prog X.w) X.A (AO e X.env) (EP X pins σ Q) X.xe s
def PS1(X:Cx)(pins:List (A7×Obj))(σ:St)(st:AH)(t:TS):Prop:=∀(s:A8)(H:Hp)(D:Ends),Inv X pins σ H s→t D σ H→AF (AG X.prog X.w) X.A (exec st X.env) (SP X pins D) X.xe s
def aEH(CX:mz)(X:Cx)(pins:List (A7×Obj))(σ:St)(E:XK):Prop:=∀(H:Hp)(s:A8)(e:A6)(s':A8),Inv X pins σ H s→CX X.stack H s E e s'→X.xe e s'
structure XRz(K:aF)(κ:Nat→A7)(X:Cx)(E:XK)(e:AD)(t:TE)(z:DE→Option Nat):Prop where
 pe:∀(pins:List (A7×Obj))(σ:St),aEH (CX1 X.prog X.w) X pins σ E→PE1 X pins σ e t
 ev:∀(σ:St)(H:Hp)(de:DE)(i:Nat)(Q:VK),yL K H de σ→z de=ND i→(∀H',aU H H'→E (.ref (κ i)) none H')→t σ H Q
end
section
variable{P:AI}{w:AL}{K:aF}{mg:Str→Option A6}{base:AM}{κ:Nat→A7}
end
section
variable{K:aF}{κ:Nat→A7}{X:Cx}{E:XK}{z:GZ}{g:GS}{pos:Pos}
end
end L2


namespace L2
open PySem PySem.Spec PySem.Calls PyProof.Rows PyProof.V
abbrev aIk:List A6:=[.type "ValueError", .type "Exception", .type "BaseException", .type "object"]
structure ExF(K:aF)(mg:Str→Option A6)(x:Str)(C:A7):Prop where
 mg:mg x=ND (.ref C)
 ok:PySem.W.excIn K C aIk "ValueError.__new__" = NG
section
variable{P:AI}{w:AL}{K:aF}{mg:Str→Option A6}{base:AM}{N:List Str}{qual:Str}{scope:BD}{f:A7}{cd:A6}{A:AN}{outer:List Env}{s0:A8}{H0:Hp}{E:XK}{κ:Nat→A7}
 {x:Str} {C:A7} {np cpos pos:Pos} {e:AD} {es:List AD} {tA:TA}
end
abbrev Cx.tr(X:Cx)(pn:List (A7×Obj))(Ex:A6→A8→Prop):Cx:={X with pn:=pn,xe:=Ex}
abbrev Cx.hand(X:Cx)(pn:List (A7×Obj))(e:A7):Cx:={X with pn:=pn,A:=X.A.mark (ND (.ref e)),calm:=NH,xe:=λ_ _=>False}
section
variable{X:Cx}{pins yd pn:List (A7×Obj)}{σ:St}{H:Hp}{s s':A8}{Ex:A6→A8→Prop}{e:A7}{D:Ends}{fl:Flow}
end
abbrev aIl:=Nat→Nat→Bool
section
variable{K:aF}{κ:Nat→A7}{X:Cx}{sub:aIl}{n nj:Nat}{z:GZ}{g:GS}{st:AH}{pos:Pos}
def gAs(k:Nat)(g:GS):GS:=λenv=>if k<env.length then(match g (env.set k .no)with
 | .next env'=>if k<env'.length then .next (env'.set k .no)else .bad
 | _=>.bad)else .bad
structure YE(K:aF)(X:Cx)(k:Nat)(e:A7)(sts:List AH)(t:TS)(g:GS):Prop where
 ps:DN X sts t
 ev:∀(B:Hp)(D:Ends)(σ:St)(H:Hp)(env:EN),Rel K B env σ H→σ[k]?=ND (ND (.ref e))→Lb K B D (g env)→t D σ H
inductive HK(K:aF)(κ:Nat→A7)(X:Cx)(n i:Nat):List GY→List (Nat×GS)→Prop
 | nil:HK K κ X n i [] []
 | cons {x:Str} {np hp:Pos} {b₀:AH} {suite:List AH} {rest:List GY} {j:Nat} {gh:GS} {r:List (Nat×GS)} (hm:X.mg x=ND (.ref (κ j))) (hg:Gl X x) (hd:(x==("__debug__" : Str))=NH)
   (hs:∀(pn:List (A7×Obj))(e:A7),∃t,YB K (X.hand pn e) (b₀::suite) t gh) (hr:HK K κ X n i rest r):HK K κ X n i (.ExceptHandler (ND (.Name x np)) none (b₀::suite) hp::rest) ((j,gh)::r)
 | as {x nm:Str} {np hp:Pos} {b₀:AH} {suite:List AH} {rest:List GY} {j k:Nat} {gh:GS} {r:List (Nat×GS)} (hm:X.mg x=ND (.ref (κ j))) (hg:Gl X x) (hd:(x==("__debug__" : Str))=NH) (hN:X.N.Nodup) (hk:X.N[k]?=ND nm) (hl:X.env.scope.names.lookup nm=ND .local)
   (hs:∀(pn:List (A7×Obj))(e:A7)(oe:Obj),i<n→oe.cls=.ref (κ i)→(e,oe)∈pn→∃t,YE K (X.hand pn e) k e (b₀::suite) t gh) (hr:HK K κ X n i rest r):HK K κ X n i (.ExceptHandler (ND (.Name x np)) (ND nm) (b₀::suite) hp::rest) ((j,gAs k gh)::r)
structure ZS(K:aF)(κ:Nat→A7)(X:Cx)(E:XK)(st:AH)(t:TS)(z:GZ):Prop where
 ps:∀(pins:List (A7×Obj))(σ:St),aEH (CX1 X.prog X.w) X pins σ E→PS1 X pins σ st t
 ev:∀(B:Hp)(D:Ends)(σ:St)(H:Hp)(env:EN)(i:Nat),Rel K B env σ H→z env=ND i→(∀H',aU H H'→E (.ref (κ i)) none H')→t D σ H
end
end L2


namespace L2
open PySem PySem.Spec PySem.Calls PyProof.Rows PyProof.V
section
variable{K:aF}{X:Cx}{κ:Nat→A7}{pos p:Pos}
structure XE(K:aF)(X:Cx)(k:Nat)(ea:A7)(e:AD)(t:TE)(d:D):Prop where
 pe:PE X e t
 ev:∀(σ:St)(H:Hp)(Q:VK),σ[k]?=ND (ND (.ref ea))→(∀v H',aU H H'→Nr K H H' d v→Q v H')→t σ H Q
end
def Dv:EN→List Nat→List D→EN
 | env,i::is,d::ds=>Dv (env.set i (.fro d)) is ds
 | env,_,_=>env
def Pj(is:List Nat)(g:GS):List D→EN→SR
 | [],env=>.next env
 | .tup ds::xs,env=>if is.length=ds.length∧is.all (λi=>decide (i<env.length))=NG then(match g (Dv env is ds)with
   | .next env'=>Pj is g xs env'
   | .cont env'=>Pj is g xs env'
   | .brk env'=>.next env'
   | r=>r)else .bad
 | _::_,_=>.bad
def KH(js is:List Nat)(fi:FA)(g:GS):GS:=λenv=>match fi (zE (yM js env))with
 | some xs=>Pj is g xs (yM js env)
 | none=>.bad
section
variable{K:aF}{X:Cx}{g:GS}{pos:Pos}
theorem Vi{Z1 H:Hp}{Q:St→Hp→Prop}:∀{is:List Nat} {ds:List D} {vs:List V} {env:EN} {σ:St},Rel K Z1 env σ H→dF K Z1 ds vs→is.length=ds.length→(∀i∈is,i<env.length)→(∀σ',Rel K Z1 (Dv env is ds) σ' H→Q σ' H)→nU is vs σ H Q
 | [],[],vs,env,σ,r,h,_,_,k=>by unfold dF at h;subst h;unfold nU;exact⟨U,k σ r⟩
 | i::is,d::ds,vs,env,σ,r,h,hl,hi,k=>by unfold dF at h;obtain⟨y,ys,rfl,h1,h2⟩:=h;unfold nU;refine⟨y,ys,U,?_⟩;obtain⟨A2,a2,b2⟩:=r;have r3:Rel K Z1 (env.set i (.fro d)) (σ.set i (ND y)) H:=Mf a2 b2 (hi i C9) (aU.refl _) (aU.refl _) (Ii a2) (b2.rv _ _ h1);exact Vi r3 h2 (by simpa using hl) (λj hj=>by rw[K2];exact hi j (C6 _ hj)) λσ' r'=>k σ' (by unfold Dv;exact r')
 | [],_::_,_,_,_,_,_,hl,_,_=>by simp at hl
 | _::_,[],_,_,_,_,_,hl,_,_=>by simp at hl
theorem aDE{js is:List Nat}{n:Nat}{wi:TI}{fi:FA}{tb:TS}(hi:EvI K wi fi)(h:DS K tb g)(hn:n=is.length):DS K (Wy wi (Wv K n (nU is)) tb) (KH js is fi g):=λB E σ H env r p=>by
 unfold KH at p;have r':Rel K B (yM js env) σ H:=r.yM;generalize yM js env=Ca at r' p;split at p
 ·rename_i xs q;obtain⟨A,a,b⟩:=r';refine hi σ H (out H A) (zE Ca) xs _ (Ii a) (aEx a) q λJ H1 Z1 P vs s t z hJ hP rvs=>?_;have hl:=rvs.length;have g0:aU Z1 (out H1 A):=λx o e=>bB.mpr ⟨λqa=>(by rw[(z.no x qa).1]at e;cases e),z.sm x o e⟩;have aF8:Rel K Z1 Ca σ H1:=⟨A,a.mono λe D y _ qq=>qq.same s (bU s λx q=>.inl q),g0⟩
  have bz:aU B Z1:=b.trans t;have p':=p.mono bz;refine Ln hJ (λk σ2 H2=>∃cZ,Rel K Z1 cZ σ2 H2∧Lb K Z1 E (Pj is g (xs.drop k) cZ)) ⟨Ca,aF8,by simpa using p'⟩ (λk σ2 H2 _ ⟨cZ,⟨A2,a2,b2⟩,_⟩=>hP H2 (b2.trans (jL H2 A2))) ?_ ?_
  ·rintro k x σ2 H2 hx ⟨cZ,r2,p2⟩;have hk:k<xs.length:=by have:=D4.mp hx;obtain⟨h1,_⟩:=this;omega
   rw[O0 hk]at p2;obtain⟨x',hx',rx⟩:=rvs.get (B6 hk);rw[hx]at hx';cases hx';cases hd:xs[k]with
   | tup ds=>
    rw[hd]at p2 rx;unfold Pj at p2;split at p2
    ·rename_i hc;have rx:=r2.sub.rv _ _ rx;have rxz:=rx;unfold Rv at rx;obtain⟨ad,ys,rfl,h1,h2⟩:=rx;have hrz:∃ad' ys',V.ref ad=V.ref ad'∧xR K Z1 ad' ys'∧dF K Z1 ds ys':=by obtain⟨x2,e2,rx2⟩:=rvs.get (B6 hk);rw[hx]at e2;cases e2;rw[hd]at rx2;unfold Rv at rx2;exact rx2
     obtain⟨ad',ys',e,h1',h2'⟩:=hrz;cases e;refine⟨ad,ys',U,r2.sub.tup h1',by rw[h2'.length,hn,hc.1],?_⟩;refine Vi r2 h2' hc.1 (λi hi=>of_decide_eq_true (M8.mp hc.2 i hi)) λσ' r3=>?_;refine h Z1 _ _ H2 _ r3 ?_;split at p2
     ·rename_i env' q2;rw[q2];exact λσ' H' r'=>⟨env',r',p2⟩
     ·rename_i env' q2;rw[q2];exact λσ' H' r'=>⟨env',r',p2⟩
     ·rename_i env' q2;rw[q2];exact p2
     ·rename_i n1 n2 n3;cases q2:g (Dv cZ is ds)with
      | next e=>exact absurd q2 (n1 e)
      | cont e=>exact absurd q2 (n2 e)
      | brk e=>exact absurd q2 (n3 e)
      | ret d=>rw[q2]at p2;exact p2
      | bad=>rw[q2]at p2;exact p2
      | rete d e=>rw[q2]at p2;exact p2
    ·exact p2.elim
   | _=>rw[hd]at p2;unfold Pj at p2;exact p2.elim
  ·rintro σ2 H2 ⟨cZ,r2,p2⟩;rw[hl,U5]at p2;exact p2 σ2 H2 r2
 ·exact p.elim
theorem aDF{tg iter:AD}{body:List AH}{wi:TI}{fi:FA}{tb:TS}{n:Nat}(js is:List Nat)(hp:Dx (AG X.prog X.w) X.A X.env X.xe)(VF:X.calm=NG)(hi:XI K X tg iter wi fi)(hg:PG X tg (Wv K n (nU is)))(hb:YB K X body tb g)(hn:n=is.length:=by rfl)
  (hs:∀x,B3 iter X.env x=pure x:=by intro _;rfl):YS K X (.For tg iter body [] pos) (Wy wi (Wv K n (nU is)) tb) (KH js is fi g):=⟨Wz hp VF hi.pi hg hb.ps hs,aDE hi.ev hb.ev hn⟩
end
end L2


namespace L2
open PySem PySem.Spec PySem.Calls PyProof.Rows PyProof.V
section
variable{K:aF}{X:Cx}{pos p0:Pos}
end
end L2


namespace L2
open PySem PySem.Spec PySem.Calls PyProof.Rows PyProof.V Builtin Builtin.ObjectAttr Builtin.Getset_descriptor
section
variable{P:AI}{w:AL}{A:AN}{E:A6→A8→Prop}{s:A8}{K:aF}{x D:A7}{ox:Obj}{od:Option Obj}
structure aLS(K:aF)(D:A7):Prop where
 ga:F8 K (.ref D) "__getattribute__" = ND (ND (.builtin "BaseException.__getattribute__"))
 gt:F8 K (.ref D) "__getattr__" = ND none
 cl:F8 K (.ref D) "__class__" = ND (ND (.builtin "object.__class__"))
 sp:X4 K (.builtin "object.__class__") "__get__" = ND (ND (.builtin "getset_descriptor.__get__"))
 tk:m7 K (.builtin "object.__class__")=ND NG
 mr:t7 K D (.type "object")=ND NG
 bx:PySem.W.subIn K (.ref D) (.type "BaseException")=ND NG
 ct:(PySem.W.clsIn K D).isSome=NG
end
section
variable{K:aF}{X:Cx}{κ:Nat→A7}{pos p:Pos}
structure XEn(K:aF)(X:Cx)(k:Nat)(ea:A7)(e:AD)(t:TE)(f:FE):Prop where
 hk:X.K=K
 pe:PE X e t
 ev:∀(σ:St)(H:Hp)(de:DE)(d:D)(Q:VK),yL K H de σ→σ[k]?=ND (ND (.ref ea))→f de=ND d→(∀v H',aU H H'→Nr K H H' d v→Q v H')→t σ H Q
structure XEB(K:aF)(X:Cx)(k:Nat)(ea:A7)(es:List AD)(t:TA)(fs:FA):Prop where
 hk:X.K=K
 pa:PA X es t
 ev:∀(σ:St)(H:Hp)(de:DE)(ds:List D)(Q:List V→Hp→Prop),yL K H de σ→σ[k]?=ND (ND (.ref ea))→fs de=ND ds→(∀vs H',aU H H'→Sh K H H' ds vs→Q vs H')→t σ H Q
end
end L2


namespace L2
open PySem PySem.Spec PySem.Calls PyProof.Rows PyProof.V
section
variable{P:AI}{w:AL}{K:aF}{mg:Str→Option A6}{base:AM}{κ:Nat→A7}
end
section
variable{K:aF}{κ:Nat→A7}{X:Cx}{E:XK}{pos:Pos}
end
end L2


namespace L2
open PySem PySem.Spec PySem.Calls PyProof.Rows PyProof.V
section
variable{K:aF}{X:Cx}{e:AD}{t:TE}{f:FE}{pos:Pos}
end
end L2


set_option maxHeartbeats 1000000
namespace L2
open PySem PySem.Spec PySem.Calls PyProof.Rows PyProof.V
section
variable{K:aF}{X:Cx}{e:AD}{t:TE}{f:FE}{pos p2:Pos}
def aIm(z:Str)(lo hi:Option Int):Prop:=(∀i∈lo.toList,0≤i)∧(∀j∈hi.toList,0≤j)∧HT.Kw z.length 0 lo≤HT.Kw z.length z.length hi∧z.length≤100000
instance:∀z lo hi,Decidable (aIm z lo hi):=λz lo hi=>by unfold aIm;exact inferInstance
end
end L2


namespace L2
open PySem PySem.Spec PySem.Calls PyProof.Rows PyProof.V
section
variable{K:aF}{X:Cx}{pos:Pos}
variable{κ:Nat→A7}{sub:aIl}{n nj:Nat}
end
end L2


namespace L2
open PySem PySem.Spec PySem.Calls PyProof.Rows PyProof.V
section
variable{K:aF}{X:Cx}
end
end L2


namespace L2
open PySem PySem.Spec PySem.Calls PyProof.Rows PyProof.V
section
variable{K:aF}{X:Cx}{a e0 eM:AD}{es:List AD}{t0 tM:TE}{f0:FE}{gM:GM}{tA:TA}{fs:FA}{pos:Pos}{i:Nat}
def aBg:Option SD→Bool
 | some (.own (.lst _))=>NG
 | _=>NH
def Vj(i:Nat)(f0:FE)(gM:GM)(fs:FA):GS:=λenv=>match f0 (rE env),gM env with
 | some d0,ND (d1,env')=>(match fs (rE env'),env'[i]? with
  | some r,ND (.own (.lst ds))=>if(aBg env[i]?=NG∧(toV d0).isSome=NG)∧D.eU (d1::r)=NG∧r.length≤50∧ds.length<100000 then .next (env'.set i (.own (.lst (ds++[.tup (d0::d1::r)]))))else .bad
  | _,_=>.bad)
 | _,_=>.bad
theorem aDG(h0:Nu K t0 f0)(hM:EvM K tM gM)(hA:EvB K tA fs):qy K (kE (Hw K "list" nH (pH i) (cI (DX (cI t0 (cI tM tA))) lG))) (Vj i f0 gM fs):=λB E σ H env r p=>by
 unfold Vj at p;split at p
 ·rename_i d0 d1 env' q0 q1;split at p
  ·rename_i rr ds q2 q3;split at p
   ·rename_i hc;obtain⟨⟨c0,cv⟩,c1,c2,c3⟩:=hc;obtain⟨ds0,q4⟩:∃ds0,env[i]?=ND (.own (.lst ds0)):=by
     cases z:env[i]? with
     | none=>rw[z]at c0;cases c0
     | some y=>
      rw[z]at c0;unfold aBg at c0;split at c0
      ·rename_i w zz;cases zz;exact⟨_,U⟩
      ·cases c0
    obtain⟨w,hw⟩:=S5.mp cv;obtain⟨v0,a,xs0,Bs0,k1,k2,k3,_,_,_⟩:=r.Yd (p:=[]) q4 U;have ev0:v0=.ref a:=by have k2:ND v0=ND (V.ref a):=k2;exact F1 k2
    subst ev0;refine⟨_,k1,.inl ⟨U,xs0,pQ.of k3⟩,?_⟩;refine h0 σ H (rE env) d0 _ r.r q0 λx0 H1 s1 n0=>?_;have ex0:=Dj hw n0.rv;subst ex0;refine hM B σ H1 env d1 env' _ (r.same s1) q1 λx1 H2 r2=>?_;have p2:=r2.pop;refine hA σ H2 (rE env') rr _ p2.r q2 λvs H3 s3 n3=>?_;have rx0:Rv K H3 d0 x0:=by cases d0<;>unfold toV at hw<;>first | (cases hw;unfold Rv;rfl) | cases hw
    have aJP:dF K H3 (d0::d1::rr) (x0::x1::vs):=by unfold dF;refine⟨_,_,U,rx0,?_⟩;unfold dF;exact⟨_,_,U,s3.rv _ _ r2.aAX,n3.rv⟩
    have im:D.eU (d0::d1::rr)=NG:=by unfold D.eU;rw[G9];refine⟨?_,c1⟩;cases d0<;>unfold toV at hw<;>first | rfl | cases hw
    refine⟨Uo (by rw[D8,D8,n3.rv.length];omega),λpp hp=>?_⟩;have s4:aU H2 (upd H3 pp (.tup (x0::x1::vs))):=s3.trans (cP hp _);have p4:=p2.same s4;obtain⟨v1,a1,xs1,Bs1,m1,m2,m3,m4,m5,m6⟩:=p4.Yd (p:=[]) q3 U;have ev1:v1=.ref a1:=by have m2:ND v1=ND (V.ref a1):=m2;exact F1 m2
    subst ev1;rw[k1]at m1;cases m1;refine⟨a,xs1,.ref pp,U,U,m3,Ny (by rw[(dU.rv _ _ _ m5).length];omega),p _ ?_⟩;have ow:Ow K (upd H3 pp (.tup (x0::x1::vs))) (.tup (d0::d1::rr)) nil (.ref pp):=by unfold Ow;exact⟨pp,_,U,xR.of cD,(wI _ _ im aJP).same (cP hp _)⟩
    exact m6 _ (ds++[.tup (d0::d1::rr)]) (xs1++[.ref pp]) (fH Bs1 nil) (aU.refl _) (cO.mpr ((cO.mp m5).snoc ow (λx _ z=>z.elim))) λb z=>z.elim .inl False.elim
   ·exact p.elim
  ·exact p.elim
 ·exact p.elim
theorem aBh{m:Str}{apos cpos tpos:Pos}{x1:Nat}(hl:PE X a (pH i))(h0:XN K X e0 t0 f0)(hM:XM K X eM tM gM)(hA:XB K X es tA fs)
  (hp:PE X a (pH i)→PE X (.Tuple (e0::eM::es) x1 tpos) (DX (cI t0 (cI tM tA)))→PS X (.Expr (.Call (.Attribute a m apos) [.Tuple (e0::eM::es) x1 tpos] [] cpos) pos) (kE (Hw K "list" nH (pH i) (cI (DX (cI t0 (cI tM tA))) lG))))
  (hst:AB (e0::eM::es) X.env=(NH,AO e0 X.env)::AB (eM::es) X.env:=by rfl) (hst2:AB (eM::es) X.env=(NH,AO eM X.env)::AB es X.env:=by rfl) :
  YS K X (.Expr (.Call (.Attribute a m apos) [.Tuple (e0::eM::es) x1 tpos] [] cpos) pos) (kE (Hw K "list" nH (pH i) (cI (DX (cI t0 (cI tM tA))) lG))) (iW i (Vj i f0 gM fs)):=
 Dt i (hp hl (RX (cH h0.pe (cH hM.pe hA.pa hst2) hst))) (aDG h0.ev hM.ev hA.ev)
def Vk(is:List Nat)(g:GM):GS:=λenv=>match g env with
 | some (.tup ds,env')=>if(is.length=ds.length∧is.all (λi=>decide (i<env'.length))=NG)∧D.eU ds=NG then .next (oU env' is ds)else .bad
 | _=>.bad
theorem aDH{is:List Nat}{n:Nat}{tg e:AD}{te:TE}{g:GM}(h:XM K X e te g)(hp:PE X e te→PS X (.Assign [tg] e pos) (wF te (Wv K n (nU is))))(hn:n=is.length:=by rfl):YS K X (.Assign [tg] e pos) (wF te (Wv K n (nU is))) (Vk is g):=⟨hp h.pe,λB E σ H env r p=>by
 unfold Vk at p;split at p
 ·rename_i ds env' q;split at p
  ·rename_i hc;refine h.ev B σ H env _ env' _ r q λv H' r'=>?_;have rv:=r'.aAX;unfold Rv at rv;obtain⟨ad,xs,rfl,o1,o2⟩:=rv;refine⟨ad,xs,U,o1,by rw[o2.length,hn,hc.1.1],?_⟩;exact Oh (r'.pop.x (R:=nil) (aU.refl _) λx z=>z.elim) (wI _ _ hc.2 o2) hc.1.1 (λi hi=>of_decide_eq_true (M8.mp hc.1.2 i hi)) λσ' r2=>p σ' H' r2
  ·exact p.elim
 ·exact p.elim⟩
def aGx:R2:=λx y H Q=>∃(a:A7)(o:Option V),y=.ref a∧Ky H a x o∧Q (.bl o.isSome) H
theorem aGy(hu:X.A.units+1<As):uM X (AS .In) aGx:=by intro pins s σ H x y v u Q I rx ry h;obtain⟨a,o,rfl,g,q⟩:=h;obtain rfl:u=AQ a:=ry;exact aHO hu I g rx λs3 I3=>⟨.bl o.isSome,H,I3,U,q⟩
def uz(a b:D):Option D:=match b with
 | .dk ks ds=>Dk NH a (.dk ks ds)
 | b=>xq NH a b
theorem aGz(hu:X.A.units+1<As)(hk:X.K=K):uM X (AS .In) (λx y H Q=>rIn K NH x y H Q∨aGx x y H Q):=(aEo hk).or (aGy hu)
theorem aGA:RB K (λx y H Q=>rIn K NH x y H Q∨aGx x y H Q) uz:=λx y H a b d Q ra rb q k=>by
 unfold uz at q;split at q
 ·rename_i ks ds;refine .inr ?_;obtain⟨p,o,e1,e2,e3⟩:=Ob q ra rb;subst e3;exact⟨p,o,e1,e2,k _ H (aU.refl _) (.jF U (by unfold Rv;rfl))⟩
 ·exact .inl (GQ NH x y H a b d Q ra rb q k)
end
end L2


namespace L2
open PySem PySem.Spec PyProof.Rows
abbrev aJ(ns:List Int):D:=.lst (ns.map D.int)
theorem Ir{i:Nat}{g:GS}(I:Nat→EN→Prop):∀(xs:List D)(env:EN)(n:Nat),I n env→(∀k x env,xs[k]?=ND x→I (n+k) env→i<env.length∧∃env',g (env.set i (.fro x))=.next env'∧I (n+k+1) env')→∃env',By i g xs env=.next env'∧I (n+xs.length) env'
 | [],env,n,h,_=>⟨env,by unfold By;rfl,h⟩
 | x::xs,env,n,h,st=>by
  obtain⟨h1,env',h2,h3⟩:=st 0 x env U h;obtain⟨cZ,a1,a2⟩:=Ir I xs env' (n+1) h3 λk y e hk hi=>by have:=st (k+1) y e (by simpa using hk) (by rw[show n+(k+1)=n+1+k by omega];exact hi);rw[show n+(k+1)+1=n+1+k+1 by omega]at this;exact this
  refine⟨cZ,?_,?_⟩
  ·unfold By;rw[if_pos h1,h2];exact a1
  ·rw[D8,show n+(xs.length+1)=n+1+xs.length by omega];exact a2
theorem eG{g1 g2:GS}{env env':EN}(h:g1 env=.next env'):aW g1 g2 env=g2 env':=by unfold aW;rw[h]
theorem Gf{g1 g2:GS}{env:EN}{d:D}(h:g1 env=.ret d):aW g1 g2 env=.ret d:=by unfold aW;rw[h]
theorem vO{f:FT}{g1 g2:GS}{env:EN}(h:f (rE env)=ND NG):qP f g1 g2 env=g1 env:=by unfold qP;rw[h]
theorem lZ{f:FT}{g1 g2:GS}{env:EN}(h:f (rE env)=ND NH):qP f g1 g2 env=g2 env:=by unfold qP;rw[h]
theorem wR{i:Nat}{f:FE}{env:EN}{d:D}(h:f (rE env)=ND d)(hi:i<env.length):cV i f env=.next (env.set i (.own d)):=by unfold cV;rw[h];dsimp only;rw[if_pos hi]
theorem fY{f:FE}{env:EN}{d:D}(h:f (rE env)=ND d):gB f env=.ret d:=by unfold gB;rw[h]
theorem Pk{i:Nat}{fi:FA}{g:GS}{env:EN}{xs:List D}(h:fi (rE env)=ND xs):xW i fi g env=By i g xs env:=by unfold xW;rw[h]
theorem aDI{js:List Nat}{i:Nat}{fi:FA}{g:GS}{env Ca:EN}{xs:List D}(h0:yM js env=Ca)(h:fi (zE Ca)=ND xs):Oe js i fi g env=By i g xs Ca:=by unfold Oe;rw[h0,h]
theorem oW{n m:Nat}{g:GS}{ds:List D}{d:D}(hl:ds.length=m)(h:g (ds.map SD.fro++E7 (n-m) SD.no)=.ret d):qR n m g ds=ND d:=by unfold qR;rw[if_pos hl,h]
theorem aK{φ:D→D→Option D}{f g:FE}{e:DE}{a b d:D}(h1:f e=ND a)(h2:g e=ND b)(h:φ a b=ND d):f2 φ f g e=ND d:=by unfold f2;rw[h1,h2];exact h
theorem fG{φ:List D→Option D}{fs:FA}{e:DE}{ds:List D}{d:D}(h1:fs e=ND ds)(h:φ ds=ND d):fL φ fs e=ND d:=by unfold fL;rw[h1];exact h
theorem aA{f:FE}{fs:FA}{e:DE}{a:D}{r:List D}(h1:f e=ND a)(h2:fs e=ND r):aB f fs e=ND (a::r):=by unfold aB;rw[h1,h2];rfl
theorem bW{n:Nat}{F:List D→Option D}{fs:FA}{e:DE}{ds:List D}{d:D}(h1:fs e=ND ds)(hl:ds.length=n)(h:F ds=ND d):dW n F fs e=ND d:=by unfold dW;rw[h1];dsimp only[B9];rw[if_pos hl];exact h
theorem cJ{f:FE}{e:DE}{b:Bool}(h:f e=ND (.bl b)):fB f e=ND b:=by unfold fB;rw[h];rfl
theorem Gg{f:FT}{e:DE}{b:Bool}(h:f e=ND b):Xu f e=ND (!b):=by unfold Xu;rw[h];rfl
theorem aBi{f g:FT}{e:DE}(h:f e=ND NH):qt f g e=g e:=by unfold qt;rw[h];rfl
theorem aBj{f g:FT}{e:DE}(h:f e=ND NG):Dl f g e=g e:=by unfold Dl;rw[h];rfl
theorem aBk{f g:FT}{e:DE}(h:f e=ND NH):Dl f g e=ND NH:=by unfold Dl;rw[h];rfl
theorem bC{f:FE}{e:DE}{d:D}(h:f e=ND d)(i:d.jF=NG):cN f e=ND d:=Um.mpr ⟨h,i⟩
theorem bR(i j:Int):dD (.int i) (.int j)=ND (.int (i+j)):=rfl
theorem lM(i j:Int):Di (.int i) (.int j)=ND (.int (i-j)):=by unfold Di Lr;exact if_pos True.intro
theorem fQ{i j:Int}(h:Rr i j):tR (.int i) (.int j)=ND (.int (i*j)):=by unfold tR Lr;exact if_pos h
theorem dX{i j:Int}(h:0<j)(h2:j<1073741824):sO (.int i) (.int j)=ND (.int (i/j)):=by unfold sO Lr;exact if_pos (show lr i j from⟨h,h2⟩)
theorem bF{i j:Int}(h:0<j):fO (.int i) (.int j)=ND (.int (i%j)):=by unfold fO Lr;exact if_pos h
theorem nD{i j:Int}(h:lu i j):Bw (.int i) (.int j)=ND (.int (i ^ j.toNat)):=by unfold Bw Lr;exact if_pos h
theorem wU(i j:Int):dLt (.int i) (.int j)=ND (.bl (decide (i<j))):=by unfold dLt Lr;exact if_pos True.intro
theorem Yo(i j:Int):dGt (.int i) (.int j)=ND (.bl (decide (j<i))):=by unfold dGt Lr;exact if_pos True.intro
theorem Yp(i j:Int):dGe (.int i) (.int j)=ND (.bl (decide (j≤i))):=by unfold dGe Lr;exact if_pos True.intro
theorem Yq(i j:Int):dLe (.int i) (.int j)=ND (.bl (decide (i≤j))):=by unfold dLe Lr;exact if_pos True.intro
theorem jd(i j:Int):decide (V.int i=V.int j)=decide (i=j):=by
 by_cases c:i=j
 ·subst c;simp
 ·rw[decide_eq_false c,decide_eq_false (λz=>c (by cases z;rfl))]
theorem nM(i j:Int):Ls (.int i) (.int j)=ND (.bl (decide (i=j))):=by unfold Ls toV;dsimp only;rw[if_pos (by rfl),jd]
theorem Gh(i j:Int):RC (.int i) (.int j)=ND (.bl (!decide (i=j))):=by unfold RC toV;dsimp only;rw[if_pos (by rfl),jd]
theorem WQ{α:Type}{xs:List α}{i:Int}{x:α}(h0:0≤i)(h:xs[i.toNat]?=ND x):QX xs i=ND x:=by
 have h1:i.toNat<xs.length:=by obtain⟨h1,_⟩:=D4.mp h;exact h1
 unfold QX QW;rw[if_pos h0,if_pos (by omega)];exact h
theorem aDJ{α:Type}{xs:List α}{x:α}(h:xs.getLast?=ND x):QX xs (-1)=ND x:=by
 have hl:0<xs.length:=by
  cases xs with
  | nil=>simp at h
  | cons=>simp
 unfold QX QW;rw[if_neg (by omega),if_pos (by omega)];show xs[((-1:Int)+(xs.length:Int)).toNat]?=ND x;rw[X9]at h;rw[show ((-1:Int)+(xs.length:Int)).toNat=xs.length-1 by omega];exact h
theorem uA{ds:List D}{i:Int}{d:D}(h0:0≤i)(h:ds[i.toNat]?=ND d):fJ (.lst ds) (.int i)=ND d:=WQ h0 h
theorem uB{ds:List D}{i:Int}{d:D}(h0:0≤i)(h:ds[i.toNat]?=ND d):fJ (.tup ds) (.int i)=ND d:=WQ h0 h
theorem iY{ns:List Int}{i:Int}(h0:0≤i)(h:i<ns.length):fJ (aJ ns) (.int i)=ND (.int (ns.getD i.toNat 0)):=WQ h0 (by
 rw[C4,B8,B6 (show i.toNat<ns.length by omega)];rfl)
theorem Pn(ds:List D):jU [.lst ds]=ND (.int ds.length):=rfl
theorem pK(ns:List Int):jU [aJ ns]=ND (.int ns.length):=by show ND (D.int ((ns.map D.int).length:Nat))=_;rw[B7]
theorem Vl{c:D→Option Bool}{el:D→Option D}{φ:D→D}:∀{xs:List D},(∀x∈xs,c x=ND NG)→(∀x∈xs,el x=ND (φ x))→oO c el xs=ND (xs.map φ)
 | [],_,_=>by unfold oO;rfl
 | x::xs,hc,he=>by unfold oO;rw[hc x C9,he x C9,Vl (xs:=xs) (λy hy=>hc y (C6 _ hy)) λy hy=>he y (C6 _ hy)];rfl
theorem Gi{c:D→Option Bool}{el:D→Option D}{p:D→Bool}{φ:D→D}:∀{xs:List D},(∀x∈xs,c x=ND (p x))→(∀x∈xs,p x=NG→el x=ND (φ x))→oO c el xs=ND ((xs.filter p).map φ)
 | [],_,_=>by unfold oO;rfl
 | x::xs,hc,he=>by
  have ih:=Gi (xs:=xs) (p:=p) (φ:=φ) (λy hy=>hc y (C6 _ hy)) λy hy=>he y (C6 _ hy);unfold oO;rw[hc x C9,B9,l7];cases q:p x with
  | true=>rw[if_pos U,if_pos U,he x C9 q,ih];rfl
  | false=>rw[if_neg (by decide),if_neg (by decide)];exact ih
theorem zK{fi:FA}{fr:List Nat}{fc:FT}{fe:FE}{e:DE}{xs ys:List D}(h1:fi e=ND xs)(hl:xs.length≤100000)(h:oO (λx=>fc (ND x::rF e fr)) (λx=>fe (ND x::rF e fr)) xs=ND ys):jG fi fr fc fe e=ND (.lst ys):=by unfold jG;rw[h1,B9,if_pos hl,h];rfl
theorem wV(lo:Int)(n:Nat):(iJ lo n).length=n:=by unfold iJ;rw[B7,E3]
theorem Dw{lo:Int}{n k:Nat}{x:D}(h:(iJ lo n)[k]?=ND x):k<n∧x=.int (lo+k):=by
 unfold iJ at h;rw[C4]at h;cases q:(D2 n)[k]? with
 | none=>rw[q]at h;cases h
 | some j=>rw[q]at h;obtain⟨h1,h2⟩:=D4.mp q;rw[E3]at h1;rw[List.getElem_range]at h2;subst h2;exact⟨h1,(F1 h).symm⟩
theorem Dy{lo:Int}{n:Nat}{x:D}(h:x∈iJ lo n):∃k:Nat,k<n∧x=.int (lo+k):=by obtain⟨k,hk,e⟩:=J1 h;obtain⟨a1,a2⟩:=Dw (k:=k) (x:=x) (by rw[B6 hk,e]);exact⟨k,a1,a2⟩
theorem KJ{fs:FA}{e:DE}{n:Int}(h:fs e=ND [.int n])(h1:-100000≤n)(h2:n≤100000):rC fs e=ND (iJ 0 n.toNat):=by unfold rC;rw[h];dsimp only[B9];rw[if_pos (show lim n=NG from decide_eq_true ⟨h1,h2⟩)]
theorem aBl{fs:FA}{e:DE}{i j:Int}(h:fs e=ND [.int i,.int j])(h1:-100000≤i)(h2:i≤100000)(h3:-100000≤j)(h4:j≤100000):HQ fs e=ND (iJ i (j-i).toNat):=by unfold HQ;rw[h];dsimp only[B9];rw[if_pos ⟨show lim i=NG from decide_eq_true ⟨h1,h2⟩,show lim j=NG from decide_eq_true ⟨h3,h4⟩⟩]
theorem Dz{i j:Int}(h1:-18446744073709551616<i)(h2:i<18446744073709551616):Rr i j:=.inl ⟨h1,h2⟩
theorem aIn{i j:Int}(h1:-18446744073709551616<j)(h2:j<18446744073709551616):Rr i j:=.inr ⟨h1,h2⟩
theorem aBm{i:Nat}{f:FE}{env:EN}{ds:List D}{d:D}(h1:env[i]?=ND (.own (.lst ds)))(h2:f (rE env)=ND d)(hl:ds.length<100000):zB i cR f env=.next (env.set i (.own (.lst (ds++[d])))):=by unfold zB cR;rw[h1,h2];dsimp only[eV];rw[if_pos hl];rfl
end L2


namespace L2
open PySem PySem.Spec PyProof.Rows
section
variable{i j:Nat}{f:FE}{c:FT}{g1 g2 g:GS}{env env':EN}{d:D}{r:SR}{ds:List D}
theorem WR(h:f (rE env)=ND d)(hi:i<env.length)(k:g (env.set i (.own d))=r):aW (cV i f) g env=r:=(eG (wR h hi)).trans k
theorem aEI{b:Bool}(h:c (rE env)=ND b)(k1:b=NG→aW g1 g env=r)(k2:b=NH→aW g2 g env=r):aW (qP c g1 g2) g env=r:=by
 cases b with
 | true=>have k:=k1 rfl;unfold aW at k ⊢;rw[vO h];exact k
 | false=>have k:=k2 rfl;unfold aW at k ⊢;rw[lZ h];exact k
theorem WT{b:Bool}(h:c (rE env)=ND b)(hb:b=NH)(k:aW g2 g env=r):aW (qP c g1 g2) g env=r:=aEI h (λz=>by rw[hb]at z;cases z) λ_=>k
theorem aGB{b:Bool}(h:c (rE env)=ND b)(hb:b=NG)(k:aW g1 g env=r):aW (qP c g1 g2) g env=r:=aEI h (λ_=>k) (λz=>by rw[hb]at z;cases z)
theorem aBn(k:g env=r):aW fX g env=r:=k
theorem aIo(h:f (rE env)=ND d)(k:SR.ret d=r):aW (gB f) g env=r:=(Gf (fY h)).trans k
theorem aEJ(h:g1 env=.next env')(k:g env'=r):aW g1 g env=r:=(eG h).trans k
theorem KN{b:Bool}(h:c (rE env)=ND b)(k1:b=NG→g1 env=r)(k2:b=NH→g2 env=r):qP c g1 g2 env=r:=by
 cases b with
 | true=>rw[vO h];exact k1 U
 | false=>rw[lZ h];exact k2 U
theorem Vm(h:env[i]?=ND (.own d)):Kd i env=.ret d:=by unfold Kd;rw[h]
theorem nO{fs:FA}{e:DE}(h:fs e=ND ds)(hl:ds.length≤100000):vI fs e=ND (.tup ds):=by unfold vI cap;rw[h];dsimp only[B9];rw[if_pos hl]
theorem gH{fs:FA}{e:DE}(h:fs e=ND ds)(hl:ds.length≤100000):lX fs e=ND (.lst ds):=by unfold lX cap;rw[h];dsimp only[B9];rw[if_pos hl]
theorem uC{e:DE}{z:Int}(h:f e=ND (.int z)):Dq f e=ND (.int (-z)):=by unfold Dq;rw[h];rfl
theorem aDK{e:DE}{T:String}{d':D}(h:f e=ND d)(k:HW T d=ND d'):aAM T f e=ND d':=by unfold aAM;rw[h];exact k
theorem Yr{e:DE}{c':FT}{a b:Bool}(h:c e=ND a)(k:c' e=ND b):Dl c c' e=ND (a&&b):=by
 unfold Dl;rw[h];cases a with
 | true=>exact k
 | false=>rfl
theorem aBo{e:DE}{c':FT}{a b:Bool}(h:c e=ND a)(k:c' e=ND b):qt c c' e=ND (a||b):=by
 unfold qt;rw[h];cases a with
 | true=>rfl
 | false=>exact k
theorem kO{e:DE}(h:f e=ND (.lst ds)):oK f e=ND ds:=by unfold oK;rw[h];rfl
theorem aBp{e:DE}(h:f e=ND (.tup ds)):oK f e=ND ds:=by unfold oK;rw[h];rfl
theorem Vn{a b:List D}(h:D.eU (a++b)=NG)(hl:a.length+b.length≤100000):dD (.lst a) (.lst b)=ND (.lst (a++b)):=by show (if D.eU (a++b)=NG∧a.length+b.length≤100000 then ND (D.lst (a++b))else none)=_;rw[if_pos ⟨h,hl⟩]
theorem rZ(d:D)(ds:List D):D.eU (d::ds)=(d.jF&&D.eU ds):=by rw[D.eU]
theorem KQ{a b:List D}:D.eU (a++b)=(D.eU a&&D.eU b):=by
 induction a with
 | nil=>rw[a8,D.eU];rfl
 | cons x a ih=>rw[Q1,rZ,rZ,ih,Bool.and_assoc]
theorem Gj{ds:List D}(h:∀d∈ds,d.jF=NG):D.eU ds=NG:=by
 induction ds with
 | nil=>unfold D.eU;rfl
 | cons d ds ih=>unfold D.eU;rw[h d C9,ih λe he=>h e (C6 _ he)];rfl
theorem lN(ns:List Int):(dTup ns).jF=NG:=by unfold dTup D.jF;exact dG ns
theorem sE(h:D.eU ds=NG):dList [.lst ds]=ND (.lst ds):=by show (if D.eU ds=NG then ND (D.lst ds)else none)=_;rw[if_pos h]
theorem Ea(ns:List Int):tY (ns.map D.int)=ND (ns.map DV.int):=by
 induction ns with
 | nil=>unfold tY;rfl
 | cons n ns ih=>rw[D5];unfold tY kJ;rw[B9,ih];rfl
theorem KR(ns ms:List Int):Ls (aJ ns) (aJ ms)=ND (.bl (decide (ns=ms))):=by
 unfold Ls toV;dsimp only;unfold kJ;rw[Ea,Ea];dsimp only[G7];rw[if_pos (by unfold DV.depth;rw[Dg];decide)];congr 2;rw[N3,vG,decide_eq_true_iff];constructor
 ·intro z;injection z with z;exact GJ.mp z
 ·intro z;rw[z]
end
end L2
namespace L2
theorem pW{i:Nat}{e:DE}{d:D}(h:e[i]?=ND (ND d)):aD i e=ND d:=by unfold aD;rw[h];rfl
theorem aIp{e:DE}{d:D}:fC d e=ND d:=rfl
theorem KY{e:DE}:aO e=ND []:=rfl
end L2
namespace L2
theorem aBq{i:Nat}{fi:FA}{gb:GS}{env:EN}{n:Nat}(I:Nat→EN→Prop)(h:fi (rE env)=ND (iJ 0 n))(h0:I 0 env)
  (st:∀(k:Nat) env,k<n→I k env→i<env.length∧∃env',gb (env.set i (.fro (.int k)))=.next env'∧I (k+1) env'):∃env',xW i fi gb env=.next env'∧I n env':=by
 obtain⟨env',h1,h2⟩:=Ir (i:=i) (g:=gb) I (iJ 0 n) env 0 h0 λk x e hx hi=>by rw[P0]at hi ⊢;obtain⟨hk,rfl⟩:=Dw hx;rw[Y4];exact st k e hk hi
 rw[P0,wV]at h2;exact⟨env',(Pk h).trans h1,h2⟩
theorem Vo{α β:Type}(φ:α→β):∀(l:List α)(k:Nat),(l.map φ).eraseIdx k=(l.eraseIdx k).map φ
 | [],k=>by simp
 | a::l,0=>by simp
 | a::l,k+1=>by rw[D5,N1,N1,D5,Vo φ l k]
theorem Ys{i j:Nat}{f:FE}{env:EN}{ns ms:List Int}{k:Int}(h1:env[i]?=ND (.own (aJ ns)))(h2:env[j]?=ND (.own (aJ ms)))(h3:f (rE env)=ND (.int k))(hij:i≠j)(hn:ns.length<1000)(hm:ms.length<1000)(k0:0≤k)(k1:k<ms.length) :
  Ax i j f env=.next ((env.set j (.own (aJ (ms.eraseIdx k.toNat)))).set i (.own (aJ (ns++[ms.getD k.toNat 0])))):=by
 have hk:k.toNat<ms.length:=by omega
 unfold Ax;rw[h1,h2,h3];dsimp only;rw[if_pos ⟨hij,by rw[B7];omega,k0,by rw[B7];exact k1,by rw[B7];omega⟩];have e:(ms.map D.int)[k.toNat]?=ND (.int (ms.getD k.toNat 0)):=by rw[C4,B8,B6 hk];rfl
 rw[e];dsimp only;rw[if_pos (show D.jF (.int (ms.getD k.toNat 0))=NG from rfl)];have e1:(ms.map D.int).eraseIdx k.toNat=(ms.eraseIdx k.toNat).map D.int:=by rw[Vo]
 have e2:ns.map D.int++[D.int (ms.getD k.toNat 0)]=(ns++[ms.getD k.toNat 0]).map D.int:=by rw[J0];rfl
 rw[e1,e2]
theorem wW(ns:List Int)(n:Int):D.lst (ns.map D.int++[.int n])=aJ (ns++[n]):=by unfold aJ;rw[J0];rfl
end L2


namespace L2
open PySem PySem.Spec PyProof.Rows
def Qs(Pr:SR→Prop)(r:SR):Prop:=Pr r
section
variable{i j:Nat}{f:FE}{c:FT}{g1 g2 g gb:GS}{env env':EN}{d:D}{ds:List D}{Pr:SR→Prop}
theorem cL(h:f (rE env)=ND d)(hi:i<env.length)(k:Qs Pr (g (env.set i (.own d)))):Qs Pr (aW (cV i f) g env):=by rw[eG (wR h hi)];exact k
theorem aBr(h:f (rE env)=ND d)(hi:i<env.length)(k:Pr (.next (env.set i (.own d)))):Qs Pr (cV i f env):=by rw[wR h hi];exact k
theorem aBs(h:g1 env=.next env')(k:Qs Pr (g env')):Qs Pr (aW g1 g env):=by rw[eG h];exact k
theorem Le(k:Qs Pr (g env)):Qs Pr (aW fX g env):=k
theorem aBt(k:Pr (.next env)):Qs Pr (fX env):=k
theorem Yt{b:Bool}(h:c (rE env)=ND b)(k1:b=NG→Qs Pr (aW g1 g env))(k2:b=NH→Qs Pr (aW g2 g env)):Qs Pr (aW (qP c g1 g2) g env):=by
 cases b with
 | true=>have k:=k1 rfl;unfold aW at k ⊢;rw[vO h];exact k
 | false=>have k:=k2 rfl;unfold aW at k ⊢;rw[lZ h];exact k
theorem zL{b:Bool}(h:c (rE env)=ND b)(k1:b=NG→Qs Pr (g1 env))(k2:b=NH→Qs Pr (g2 env)):Qs Pr (qP c g1 g2 env):=by
 cases b with
 | true=>rw[vO h];exact k1 U
 | false=>rw[lZ h];exact k2 U
theorem Vp{b:Bool}(h:c (rE env)=ND b)(hb:b=NH)(k:Qs Pr (aW g2 g env)):Qs Pr (aW (qP c g1 g2) g env):=Yt h (λz=>by rw[hb]at z;cases z) λ_=>k
theorem aEK{b:Bool}(h:c (rE env)=ND b)(hb:b=NG)(k:Qs Pr (aW g1 g env)):Qs Pr (aW (qP c g1 g2) g env):=Yt h (λ_=>k) (λz=>by rw[hb]at z;cases z)
theorem aBu{b:Bool}(h:c (rE env)=ND b)(hb:b=NH)(k:Qs Pr (g2 env)):Qs Pr (qP c g1 g2 env):=zL h (λz=>by rw[hb]at z;cases z) λ_=>k
theorem KZ(h:f (rE env)=ND d)(k:Pr (.ret d)):Qs Pr (aW (gB f) g env):=by rw[Gf (fY h)];exact k
theorem uV(h:f (rE env)=ND d)(k:Pr (.ret d)):Qs Pr (gB f env):=by rw[fY h];exact k
theorem aBv(h:env[i]?=ND (.own d))(k:Pr (.ret d)):Qs Pr (Kd i env):=by rw[Vm h];exact k
theorem aIq(h1:env[i]?=ND (.own (.lst ds)))(h2:f (rE env)=ND d)(hl:ds.length<100000)(k:Qs Pr (g (env.set i (.own (.lst (ds++[d])))))):Qs Pr (aW (zB i cR f) g env):=by rw[eG (aBm h1 h2 hl)];exact k
theorem Yu{fi:FA}{n:Nat}(I:Nat→EN→Prop)(h:fi (rE env)=ND (iJ 0 n))(h0:I 0 env)
  (st:∀(k:Nat) env,k<n→I k env→i<env.length∧Qs (λr=>∃env',r=.next env'∧I (k+1) env') (gb (env.set i (.fro (.int k))))) (k:∀env',I n env'→Qs Pr (g env')):Qs Pr (aW (xW i fi gb) g env):=by
 obtain⟨env',h1,h2⟩:=aBq (gb:=gb) I h h0 λk env hk hi=>⟨(st k env hk hi).1,let ⟨e,a,b⟩:=(st k env hk hi).2;⟨e,a,b⟩⟩
 rw[eG h1];exact k env' h2
theorem je{js:List Nat}{fi:FA}{Ca:EN}{xs:List D}(I:Nat→EN→Prop)(hf:yM js env=Ca)(h:fi (zE Ca)=ND xs)(h0:I 0 Ca)
  (st:∀(k:Nat) x env,xs[k]?=ND x→I k env→i<env.length∧Qs (λr=>∃env',r=.next env'∧I (k+1) env') (gb (env.set i (.fro x)))) (k:∀env',I xs.length env'→Qs Pr (g env')):Qs Pr (aW (Oe js i fi gb) g env):=by
 obtain⟨env',h1,h2⟩:=Ir (i:=i) (g:=gb) I xs Ca 0 h0 λk x e hx hi=>by rw[P0]at hi ⊢;exact⟨(st k x e hx hi).1,let ⟨e,a,b⟩:=(st k x e hx hi).2;⟨e,a,b⟩⟩
 rw[P0]at h2;rw[eG ((aDI hf h).trans h1)];exact k env' h2
theorem aIr{is:List Nat}(h:f (rE env)=ND (.tup ds))(hl:is.length=ds.length)(hi:is.all (λi=>decide (i<env.length))=NG)(k:Qs Pr (g (oU env is ds))):Qs Pr (aW (wN is f) g env):=by
 have:wN is f env=.next (oU env is ds):=by unfold wN;rw[h];dsimp only;rw[if_pos ⟨hl,hi⟩]
 rw[eG this];exact k
theorem sW{n m:Nat}{Pd:D→Prop}(hl:ds.length=m)(h:Qs (λr=>∃d,r=.ret d∧Pd d) (g (ds.map SD.fro++E7 (n-m) SD.no))):∃d,qR n m g ds=ND d∧Pd d:=by obtain⟨d,h1,h2⟩:=h;exact⟨d,oW hl h1,h2⟩
theorem Bj{fs:FA}{e:DE}{n:Nat}(h:fs e=ND [.int (n:Int)])(hn:n≤100000):rC fs e=ND (iJ 0 n):=by rw[KJ h (by omega) (by omega),C8]
end
end L2
namespace L2
theorem Eb{fi:FA}{fr:List Nat}{fe:FE}{e:DE}{n:Nat}{φ:Nat→D}(h1:fi e=ND (iJ 0 n))(hn:n≤1000)(he:∀k:Nat,k<n→fe (ND (.int k)::rF e fr)=ND (φ k)):jG fi fr nY fe e=ND (.lst ((D2 n).map φ)):=by
 refine zK h1 (by rw[wV];omega) ?_;refine(Vl (c:=λx=>nY (ND x::rF e fr)) (φ:=λx=>match x with | .int i=>φ i.toNat | d=>d) (λ_ _=>rfl) ?_).trans ?_
 rotate_left
 ·congr 1;unfold iJ;rw[K4];apply R9;intro k _;show φ ((0:Int)+(k:Int)).toNat=φ k;rw[Y4,C8]
 ·intro x hx;obtain⟨k,hk,rfl⟩:=Dy hx;rw[Y4];show _=ND (φ ((k:Int)).toNat);rw[C8];exact he k hk
theorem Iu{fi:FA}{fr:List Nat}{fe:FE}{e:DE}{α:Type}{xs:List α}{ψ φ:α→D}(h1:fi e=ND (xs.map ψ))(hn:xs.length≤1000)(he:∀x∈xs,fe (ND (ψ x)::rF e fr)=ND (φ x)):jG fi fr nY fe e=ND (.lst (xs.map φ)):=by
 refine zK h1 (by rw[B7];omega) ?_;clear h1 hn
 induction xs with
 | nil=>rw[L3,L3];unfold oO;rfl
 | cons x xs ih=>rw[D5];unfold oO;show (ND NG).bind _=_;rw[B9,if_pos U,he x C9,B9,ih λy hy=>he y (C6 _ hy)];rfl
theorem Pq{α:Type} [Inhabited α]:∀(l:List α)(k:Nat)(d:α),k<l.length→(l.getD k d::l.eraseIdx k).Perm l
 | [],k,d,h=>absurd h (by simp)
 | a::l,0,d,_=>by simp
 | a::l,k+1,d,h=>by rw[N1,W3];exact(p6 _ _ _).trans ((Pq l k d (by simpa using h)).cons a)
theorem jW{α:Type}{l:List α}{k:Nat}{x d:α}(h:l[k]?=ND x):l.getD k d=x:=by rw[B8,h];rfl
theorem gY{α:Type}{l:List α}{k:Nat}{d:α}(h:k<l.length):l[k]?=ND (l.getD k d):=by rw[B8,B6 h];rfl
theorem aGC{b:Bool}{f:FE}{l h:FO}{e:DE}{ds:List D}{lo hi:Option Int}(h1:f e=ND (.lst ds))(h2:l e=ND lo)(h3:h e=ND hi)(h4:b=NH∨D.eU (yH ds lo hi)=NG):qw b f l h e=ND (.lst (yH ds lo hi)):=by unfold qw;rw[h1,h2,h3];dsimp only[B9];rw[if_pos h4]
theorem sX(ns ms:List Int)(h:ns.length+ms.length≤100000):dD (aJ ns) (aJ ms)=ND (aJ (ns++ms)):=by have:=Vn (a:=ns.map D.int) (b:=ms.map D.int) (by rw[KQ,dG,dG];rfl) (by rw[B7,B7];exact h);rw[←J0]at this;exact this
end L2


namespace L2
open PySem PySem.Spec PyProof.Rows
section
variable{i j:Nat}{f:FE}{c:FT}{g1 g2 g gb:GS}{env env':EN}{d:D}{ds:List D}{Pr:SR→Prop}
theorem aDL{x:D}(h:ds.getLast?=ND x):fJ (.lst ds) (.int (-1))=ND x:=aDJ h
theorem Vq{fc:FT}(I:Nat→EN→Prop)(hs:∀n env,I n env→(fc (rE env)=ND NH)∨(fc (rE env)=ND NG∧0<n∧∃env',gb env=.next env'∧I (n-1) env')):∀(fuel n:Nat)(env:EN),n<fuel→I n env→∃env' n',qQ fc gb fuel env=.next env'∧I n' env'∧fc (rE env')=ND NH
 | 0,n,env,h,_=>absurd h (by omega)
 | fuel+1,n,env,h,hi=>by
  rcases hs n env hi with q | ⟨q,hn,env',h1,h2⟩
  ·exact⟨env,n,by unfold qQ;rw[q],hi,q⟩
  ·obtain⟨e2,n2,a1,a2,a3⟩:=Vq I hs fuel (n-1) env' (by omega) h2;refine⟨e2,n2,?_,a2,a3⟩;unfold qQ;rw[q,h1];exact a1
end
end L2
namespace L2
theorem jf{l:List Int}{b:Int}:(F7 b:Key)∈l.map (F7:Int→Key)↔b∈l:=by
 rw[G5];constructor
 ·rintro⟨a,h1,h2⟩;cases h2;exact h1
 ·intro h;exact⟨b,h,U⟩
theorem zM{l:List Int}{b:Int}(h:b∉l):posK (l.map (F7:Int→Key)) (F7 b)=none:=Aq.mpr λz=>h (jf.mp z)
theorem aDM{i:Nat}{f f':FE}{env:EN}{ks:List Key}{ds:List D}{kd d:D}{k:Key}(h1:env[i]?=ND (.own (.dk ks ds)))(h2:f (rE env)=ND kd)(h3:f' (rE env)=ND d)(h4:Sq kd=ND k)(h5:posK ks k=none)(im:d.jF=NG)(hl:ks.length<100000):pG i cR f f' env=.next (env.set i (.own (.dk (ks++[k]) (ds++[d])))):=by
 have e1:lE ks k=ks++[k]:=by unfold lE;rw[h5];rfl
 have e2:putD ks ds k d=ds++[d]:=by unfold putD;rw[h5];rfl
 unfold pG cR;rw[h1,h2,h3];dsimp only[eV];rw[h4];dsimp only;rw[if_pos ⟨im,hl⟩,e1,e2];rfl
theorem Vr(l:List Int):D.lst ((l.map (F7:Int→Key)).map kD)=aJ l:=by unfold aJ;rw[K4];rfl
theorem aDN{fc:FT}{gb g:GS}{env:EN}{Pr:SR→Prop}{fuel n:Nat}(I:Nat→EN→Prop)(h0:I n env)(hn:n<fuel)(hs:∀n env,I n env→(fc (rE env)=ND NH)∨(fc (rE env)=ND NG∧0<n∧∃env',gb env=.next env'∧I (n-1) env'))
  (k:∀env' n',I n' env'→fc (rE env')=ND NH→Qs Pr (g env')):Qs Pr (aW (qQ fc gb fuel) g env):=by
 obtain⟨env',n',a1,a2,a3⟩:=Vq I hs fuel n env hn h0;rw[eG a1];exact k env' n' a2 a3
end L2
namespace L2
theorem vd(ns:List Int):GP (ns.map D.int)=ND (ns.map V.int):=by
 induction ns with
 | nil=>unfold GP;rfl
 | cons n ns ih=>rw[D5];unfold GP toV;rw[B9,ih];rfl
theorem zN(neg:Bool)(i:Int)(ns:List Int):xq neg (.int i) (aJ ns)=ND (.bl (if neg then !decide (i∈ns)else decide (i∈ns))):=by unfold xq;show (ND (V.int i)).bind _=_;rw[B9];show (ND (ns.map D.int)).bind _=_;rw[B9,vd,B9,if_pos ⟨U,qg ns⟩,aCZ]
theorem Gk{ns:List Int}(h:ns.length<64):Ft [aJ ns]=ND (aJ (sortI ns)):=by show (intsOf (ns.map D.int)).bind _=_;rw[jV,B9,if_pos h]
end L2


namespace L2
open PySem PySem.Spec PyProof.Rows
def zO(ks:List Int):D:=.dk (ks.map F7) (ks.map λ_=>.bl NG)
theorem aBw(i:Int)(ks:List Int):(posK (ks.map (F7:Int→Key)) (F7 i)).isSome=decide (i∈ks):=by
 by_cases c:i∈ks
 ·rw[decide_eq_true c];cases q:posK (ks.map (F7:Int→Key)) (F7 i)with
  | some j=>rfl
  | none=>exact absurd (jf.mpr c) (Aq.mp q)
 ·rw[decide_eq_false c,zM c];rfl
theorem Pu(neg:Bool)(i:Int)(ks:List Int):Dk neg (.int i) (zO ks)=ND (.bl (if neg then !decide (i∈ks)else decide (i∈ks))):=by show ND (D.bl (if neg then !(posK (ks.map (F7:Int→Key)) (F7 i)).isSome else(posK (ks.map (F7:Int→Key)) (F7 i)).isSome))=_;rw[aBw]
def Yv(ks:List Int)(k:Int):List Int:=if k∈ks then ks else ks++[k]
theorem Vs(k:Key):∀ks:List Int,R1 (λ(k':Key) (d':D)=>if k'=k then D.bl NG else d') (ks.map F7) (ks.map λ_=>D.bl NG)=ks.map λ_=>D.bl NG
 | []=>rfl
 | a::ks=>by
  rw[D5,D5,J4,Vs k ks]
  split<;>rfl
theorem aEL{i:Nat}{f f':FE}{env:EN}{ks:List Int}{k:Int}(h1:env[i]?=ND (.own (zO ks)))(h2:f (rE env)=ND (.int k))(h3:f' (rE env)=ND (.bl NG))(hl:ks.length<1000):pG i cR f f' env=.next (env.set i (.own (zO (Yv ks k)))):=by
 unfold pG cR;rw[h1,h2,h3];dsimp only[eV,zO];show (if D.jF (.bl NG)=NG∧(ks.map (F7:Int→Key)).length<100000 then _ else _)=_;rw[if_pos ⟨U,by rw[B7];omega⟩];have e1:lE (ks.map (F7:Int→Key)) (F7 k)=(Yv ks k).map F7:=by
  unfold lE Yv;rw[aBw];by_cases c:k∈ks
  ·simp[c]
  ·simp[c]
 have e2:putD (ks.map (F7:Int→Key)) (ks.map λ_=>D.bl NG) (F7 k) (.bl NG)=(Yv ks k).map λ_=>D.bl NG:=by
  unfold putD Yv;rw[aBw];by_cases c:k∈ks
  ·rw[decide_eq_true c,if_pos U,if_pos c,Vs]
  ·rw[decide_eq_false c,if_neg (by decide),if_neg c,J0];rfl
 rw[e1,e2];rfl
theorem Iv{fi:FA}{fr:List Nat}{fc:FT}{fe:FE}{e:DE}{ms:List Int}(p:Int→Bool)(φ:Int→D)(h1:fi e=ND (ms.map D.int))(hn:ms.length≤1000)(hc:∀m∈ms,fc (ND (.int m)::rF e fr)=ND (p m))(he:∀m∈ms,p m=NG→fe (ND (.int m)::rF e fr)=ND (φ m)) :
  jG fi fr fc fe e=ND (.lst ((ms.filter p).map φ)):=by
 refine zK h1 (by rw[B7];omega) ?_;clear h1 hn
 induction ms with
 | nil=>rw[L3];unfold oO;rfl
 | cons m ms ih=>
  have ih:=ih (λy hy=>hc y (C6 _ hy)) λy hy=>he y (C6 _ hy);rw[D5];unfold oO;rw[hc m C9,B9,l7];cases q:p m with
  | true=>rw[if_pos U,if_pos U,he m C9 q,B9,ih];rfl
  | false=>rw[if_neg (by decide),if_neg (by decide)];exact ih
theorem Ec{fi:FA}{fr:List Nat}{fc:FT}{fe:FE}{e:DE}{ms:List Int}(p:Int→Bool)(φ:Int→Int)(h1:fi e=ND (ms.map D.int))(hn:ms.length≤1000)(hc:∀m∈ms,fc (ND (.int m)::rF e fr)=ND (p m))(he:∀m∈ms,p m=NG→fe (ND (.int m)::rF e fr)=ND (.int (φ m))) :
  jG fi fr fc fe e=ND (aJ ((ms.filter p).map φ)):=by
 rw[Iv p (λm=>.int (φ m)) h1 hn hc he];unfold aJ;rw[K4];rfl
theorem cQ{φ:D→Option D}{f:FE}{e:DE}{a d:D}(h1:f e=ND a)(h:φ a=ND d):pJ φ f e=ND d:=by unfold pJ;rw[h1];exact h
theorem WW{ns:List Int}(h:ns.length<64):ie (aJ ns)=ND (aJ (RD ns)):=by show (intsOf (ns.map D.int)).bind _=_;rw[jV,B9,if_pos h]
theorem LC(ns:List Int):Od [aJ ns]=ND (dTup ns):=by unfold Od;dsimp only;rw[show yG (aJ ns)=ND (ns.map D.int)from by unfold aJ yG;rfl,B9,if_pos (dG _)];rfl
theorem WX{ns:List Int}(h:0<ns.length):cu [aJ ns]=ND (.int (VB ns)):=by show (intsOf (ns.map D.int)).bind _=_;rw[jV,B9,if_pos h]
theorem LK{α β:Type}(φ:α→β)(l:List α)(lo hi:Option Int):yH (l.map φ) lo hi=(yH l lo hi).map φ:=by unfold yH;rw[B7,←g7,←g6]
theorem Px{b:Bool}{f:FE}{l h:FO}{e:DE}{ns:List Int}{lo hi:Option Int}(h1:f e=ND (aJ ns))(h2:l e=ND lo)(h3:h e=ND hi):qw b f l h e=ND (aJ (yH ns lo hi)):=by rw[aGC h1 h2 h3 (.inr (by rw[LK];exact dG _)),LK]
theorem aGD{α:Type}{l:List α}{c:Nat}(h:c≤l.length):yH l (ND (c:Int)) none=l.drop c:=by unfold yH;show (l.drop (HT.Kw l.length 0 (ND (c:Int)))).take (l.length-HT.Kw l.length 0 (ND (c:Int)))=_;rw[Fg,show min c l.length=c by omega,O7 (by rw[N6];omega)]
theorem aGE{α:Type}(l:List α)(c:Nat):yH l none (ND (c:Int))=l.take c:=by
 unfold yH;show (l.drop 0).take (HT.Kw l.length l.length (ND (c:Int))-0)=_;rw[Fg,r0,j4];rcases J2 c l.length with z | z
 ·rw[show min c l.length=c by omega]
 ·rw[show min c l.length=l.length by omega,O7 (D1 _),O7 z]
theorem aBx{α:Type}(l:List α)(a b:Nat):yH l (ND (a:Int)) (ND (b:Int))=(l.drop a).take (b-a):=by
 unfold yH;rw[Fg,Fg];refine K5 λk=>?_;rw[X0,W9,X0,W9];rcases J2 a l.length with z | z
 ·rw[show min a l.length=a by omega];by_cases c:k<min b l.length-a
  ·rw[if_pos c,if_pos (by omega)]
  ·rw[if_neg c];by_cases c2:k<b-a
   ·rw[if_pos c2,E1 (by omega)]
   ·rw[if_neg c2]
 ·rw[show min a l.length=l.length by omega,E1 (show l.length≤l.length+k by omega),E1 (show l.length≤a+k by omega)]
  split<;>split<;>rfl
structure jX where
 cA:Int
 place:Int
 thing:List Int
 needs:List Int
 deriving Inhabited
def Yw(c:jX):D:=.tup [.int c.cA,.int c.place,dTup c.thing,dTup c.needs]
def vP(cs:List jX):D:=.lst (cs.map Yw)
theorem aBy(c:jX):(Yw c).jF=NG:=by unfold Yw D.jF;rw[rZ,rZ,rZ,rZ,lN,lN];rfl
theorem aBz(cs:List jX):D.eU (cs.map Yw)=NG:=Gj λd h=>by obtain⟨c,_,rfl⟩:=G5.mp h;exact aBy c
abbrev at_(cs:List jX)(k:Nat):jX:=cs.getD k default
theorem Yx{cs:List jX}{k:Nat}(h:k<cs.length):fJ (vP cs) (.int k)=ND (Yw (at_ cs k)):=uA (by omega) (by
 rw[C8,C4,gY (d:=default) h]
 rfl)
theorem jg(c:jX):fJ (Yw c) (.int 0)=ND (.int c.cA):=uB (by decide) U
theorem LQ(c:jX):fJ (Yw c) (.int 1)=ND (.int c.place):=uB (by decide) U
theorem Py(c:jX):fJ (Yw c) (.int 2)=ND (dTup c.thing):=uB (by decide) U
theorem LR(c:jX):fJ (Yw c) (.int 3)=ND (dTup c.needs):=uB (by decide) U
theorem Mm(cs:List jX):jU [vP cs]=ND (.int cs.length):=by show ND (D.int ((cs.map Yw).length:Nat))=_;rw[B7]
def Good(cs:List jX):Prop:=cs.length≤124∧∀k,k<cs.length→(∀m∈(at_ cs k).needs,0≤m∧m<k)∧(at_ cs k).needs.Pairwise (·<·)∧(at_ cs k).needs.length≤9
def chV(c:jX):DV:=.tup [.int c.cA,.int c.place,.tup (c.thing.map DV.int),.tup (c.needs.map DV.int)]
theorem Pz(ns ms:List Int):RC (aJ ns) (aJ ms)=ND (.bl (!decide (ns=ms))):=by
 have e:∀l:List Int,kJ (aJ l)=ND (.lst (l.map DV.int)):=λl=>by unfold aJ kJ;rw[Ea];rfl
 unfold RC;rw[e,e];unfold toV;dsimp only;rw[if_pos (by rw[Dg];decide)];congr 3;rw[N3,vG,decide_eq_true_iff];constructor
 ·intro z;injection z with z;exact GJ.mp z
 ·intro z;rw[z]
end L2
namespace L2
theorem Bk{f:FE}{e:DE}{i:Int}(h:f e=ND (.int i)):pI f e=ND (ND i):=by unfold pI;rw[h];rfl
theorem aBA(ks:List Int):Oc [zO ks]=ND (aJ ks):=by show ND (D.lst ((ks.map (F7:Int→Key)).map kD))=_;rw[Vr]
theorem gZ{cs:List jX}{c:jX}{k:Nat}(h:k<cs.length):at_ (cs++[c]) k=at_ cs k:=by unfold at_;rw[B8,B8,G3 h]
theorem nP(cs:List jX)(c:jX):at_ (cs++[c]) cs.length=c:=by unfold at_;rw[B8,M0 (D1 _)];simp
theorem vf(cs:List jX)(c:jX):D.lst (cs.map Yw++[Yw c])=vP (cs++[c]):=by unfold vP;rw[J0];rfl
theorem vg{f:FE}{e:DE}{ns:List Int}(h:f e=ND (dTup ns)):oK f e=ND (ns.map D.int):=aBp h
end L2
namespace L2
theorem Vt(i j:Int):HH [.int i,.int j]=ND (.int (if j > i then j else i)):=rfl
end L2


namespace L2
open PySem PySem.Spec PyProof.Rows
theorem aDO{e:DE}{f f':FE}{a b:Bool}(h:f e=ND (.bl a))(k:f' e=ND (.bl b)):qu f f' e=ND (.bl (a||b)):=by
 unfold qu;rw[cJ h];cases a with
 | true=>rfl
 | false=>exact k
theorem aBB{α:Type}(p:α→Bool)(l:List α):aC7 [.lst (l.map λx=>D.bl (p x))]=ND (.bl (l.all p)):=by show (Cv (l.map λx=>D.bl (p x))).map _=_;rw[Uy];show ND (D.bl ((l.map p).all id))=_;rw[List.all_map];rfl
end L2


namespace L2
open PySem PySem.Spec PyProof.Rows
theorem WY{n:Nat}(h:n≤1000):Ik (.int n)=ND (aJ ((D2 n).map λk=>((k:Nat):Int))):=by unfold Ik;dsimp only;rw[if_pos ⟨by omega,by omega⟩,C8];unfold aJ;rw[K4];rfl
theorem kY:∀(n:Nat)(l:List Int),l.Nodup→(∀x∈l,0≤x∧x<(n:Int))→l.length≤n
 | 0,l,_,h=>by
  cases l with
  | nil=>exact D1 _
  | cons a l=>have:=h a C9;omega
 | n+1,l,hn,h=>by
  by_cases c:(n:Int)∈l
  ·have e:=Y2 c;have:=kY n (l.erase (n:Int)) (hn.erase _) λx hx=>by obtain⟨h1,h2⟩:=(hn.mem_erase_iff).mp hx;have:=h x h2;omega
   omega
  ·have:=kY n l hn λx hx=>by have:=h x hx;have ne:x≠(n:Int):=λz=>c (by rw[←z];exact hx);omega
   omega
section
variable{i j:Nat}{f f':FE}{c:FT}{g1 g2 g gb:GS}{env env':EN}{d d0 d' r:D}{ds:List D}{Pr:SR→Prop}{v:V}{π:FP}{p:List Step}
theorem kZ{n m:Nat}(hl:ds.length=m)(h:g (ds.map SD.fro++E7 (n-m) SD.no)=.ret d):mL n m g ds=ND d:=by unfold mL;rw[if_pos hl,h]
theorem Ed{n m:Nat}(hl:ds.length=m)(h:g (ds.map SD.fro++E7 (n-m) SD.no)=.next env'):mL n m g ds=ND .non:=by unfold mL;rw[if_pos hl,h]
theorem jh{n m:Nat}{Pd:D→Prop}(hl:ds.length=m)(h:Qs (λr=>∃d,r=.ret d∧Pd d) (g (ds.map SD.fro++E7 (n-m) SD.no))):∃d,mL n m g ds=ND d∧Pd d:=by obtain⟨d,h1,h2⟩:=h;exact⟨d,kZ hl h1,h2⟩
theorem oX{n m:Nat}{es:List D}(hl:es.length+1=m)(h:∀v,Qs (JH r d' v) (g (uq n m d es v))):nC n m g (d::es)=ND (r,d'):=aA3 hl h
theorem ji(h1:env[i]?=ND (.inn v d))(h2:g1 (env.set i (.own d))=.next env')(h3:env'[i]?=ND (.own d')):iW i g1 env=.next (env'.set i (.inn v d')):=by unfold iW;rw[h1];dsimp only;rw[h2];dsimp only;rw[h3]
theorem qD(h1:env[i]?=ND (.inn v d))(h2:g1 (env.set i (.own d))=.next env')(h3:env'[i]?=ND (.own d'))(k:Qs Pr (g (env'.set i (.inn v d')))):Qs Pr (aW (iW i g1) g env):=by rw[eG (ji h1 h2 h3)];exact k
theorem Qa(h1:env[i]?=ND (.inn v d))(h2:g1 (env.set i (.own d))=.next env')(h3:env'[i]?=ND (.own d'))(k:Pr (.next (env'.set i (.inn v d')))):Qs Pr (iW i g1 env):=by rw[ji h1 h2 h3];exact k
theorem Gm(h:f (rE env)=ND d):xV f env=.next env:=by unfold xV;rw[h]
theorem XC(h:f (rE env)=ND d)(k:Qs Pr (g env)):Qs Pr (aW (xV f) g env):=by rw[eG (Gm h)];exact k
theorem Qc(h1:env[i]?=ND (.own d0))(h2:π (rE env)=ND p)(h3:eV p d0=ND (.lst ds))(h4:f (rE env)=ND d)(hl:ds.length<100000):zB i π f env=.next (env.set i (.own (eO p d0 (.lst (ds++[d]))))):=by unfold zB;rw[h1,h2,h4];dsimp only;rw[h3];dsimp only;rw[if_pos hl]
theorem jj{k:Int}(h1:env[i]?=ND (.own d0))(h2:π (rE env)=ND p)(h3:eV p d0=ND (.lst ds))(h4:f (rE env)=ND (.int k))(h5:f' (rE env)=ND d)(k0:0≤k)(k1:k<ds.length):vL i π f f' env=.next (env.set i (.own (eO p d0 (.lst (ds.set k.toNat d))))):=by
 unfold vL;rw[h1,h2,h4,h5];dsimp only;rw[h3];dsimp only;have:QW ds.length k=ND k.toNat:=by unfold QW;rw[if_pos k0,if_pos k1]
 rw[this]
theorem Mq{ks:List Key}{k:Key}{kd:D}(h1:env[i]?=ND (.own d0))(h2:π (rE env)=ND p)(h3:eV p d0=ND (.dk ks ds))(h4:f (rE env)=ND kd)(h5:Sq kd=ND k)(h6:f' (rE env)=ND d)(im:d.jF=NG)(hl:ks.length<100000):pG i π f f' env=.next (env.set i (.own (eO p d0 (.dk (lE ks k) (putD ks ds k d))))):=by unfold pG;rw[h1,h2,h4,h6];dsimp only;rw[h3,h5];dsimp only;rw[if_pos ⟨im,hl⟩]
theorem aDP{ks:List (List Key)}{k:List Key}{fk:FK}(h1:env[i]?=ND (.own d0))(h2:π (rE env)=ND p)(h3:eV p d0=ND (.dt ks ds))(h4:fk (rE env)=ND k)(h6:f' (rE env)=ND d)(im:d.jF=NG)(hl:ks.length<100000):Ve i π fk f' env=.next (env.set i (.own (eO p d0 (.dt (lE ks k) (putD ks ds k d))))):=by unfold Ve;rw[h1,h2,h4,h6];dsimp only;rw[h3];dsimp only;rw[if_pos ⟨im,hl⟩]
theorem aGF{C:A7}{nm:List Str}{x:Str}(h1:env[i]?=ND (.own d0))(h2:π (rE env)=ND p)(h3:eV p d0=ND (.ins C nm ds))(h4:f (rE env)=ND d)(hl:nm.length<900):vM C i π x f env=.next (env.set i (.own (eO p d0 (.ins C (Vc nm ds x d).1 (Vc nm ds x d).2)))):=by unfold vM;rw[h1,h2,h4];dsimp only;rw[h3];dsimp only;rw[if_pos ⟨U,hl⟩]
theorem bO{C:A7}{m:Str}{n:Nat}{F:List D→Option D}{fo:FE}{fs:FA}{um es:List D}{e:DE}{nm:List Str}(h1:fo e=ND (.ins C nm ds))(hm:m∉nm)(h2:fs e=ND es)(hl:es.length+um.length+1=n)(h3:F (.ins C nm ds::(es++um))=ND r):fD C m n F fo fs um e=ND r:=by unfold fD;rw[h1];dsimp only[B9];rw[if_pos ⟨U,hm⟩,h2];dsimp only[B9];rw[if_pos hl];exact h3
theorem jO{C:A7}{m:Str}{F:List D→Option (D×D)}{fs:FA2}{es:List D}{nm:List Str}{back:D→SD}(h1:env[i]?.bind SD.hold=ND (d0,back))(h2:π (rE env)=ND p)(h3:eV p d0=ND (.ins C nm ds))(hm:m∉nm)(h4:fs (rE env) (rE (env.set i .no))=ND es)(h5:F (.ins C nm ds::es)=ND (r,d')):oE C m i π F fs env=ND (r,env.set i (back (eO p d0 d'))):=by unfold oE;rw[h1,h2,h4];dsimp only;rw[h3];dsimp only;rw[if_pos ⟨U,hm⟩,h5];rfl
theorem MF{C:A7}{F:List D→Option (D×D)}{fs:FA}{e:DE}{es:List D}(h1:fs e=ND es)(h2:F (.ins C [] []::es)=ND (.non,d')):JD C F fs e=ND d':=by unfold JD;rw[h1];dsimp only[B9];rw[h2]
theorem dY{fs:FA2}{eF eZ:DE}{es:List D}(h1:f eZ=ND d)(h2:fs eF eZ=ND es):zG f fs eF eZ=ND (d::es):=by unfold zG;rw[h1,h2];rfl
theorem Qd{fs:FA2}{eF eZ:DE}{es:List D}(h1:f eF=ND d)(h2:fs eF eZ=ND es):faN f fs eF eZ=ND (d::es):=by unfold faN;rw[h1,h2];rfl
theorem Iw{gm:GM}(h:gm env=ND (d,env'))(hi:i<env'.length)(k:Qs Pr (g (env'.set i (.own d)))):Qs Pr (aW (zH i gm) g env):=by
 have:zH i gm env=.next (env'.set i (.own d)):=by unfold zH;rw[h];dsimp only;rw[if_pos hi]
 rw[eG this];exact k
theorem Vu{gm:GM}(h:gm env=ND (d,env')):zJ gm env=.next env':=by unfold zJ;rw[h]
theorem Mr{gm:GM}(h:gm env=ND (d,env'))(k:Pr (.rete d env')):Qs Pr (Fy gm env):=by
 have:Fy gm env=.rete d env':=by unfold Fy;rw[h]
 rw[this];exact k
theorem Ms(h:env[i]?=ND (.own d))(k:Pr (.rete d (env.set i .no))):Qs Pr (wQ i env):=by
 have:wQ i env=.rete d (env.set i .no):=by unfold wQ;rw[h]
 rw[this];exact k
theorem aGG(h:f (rE env)=ND d):gmN f env=ND (d,env):=by unfold gmN;rw[h];rfl
theorem Yy{f1 f2 f3:FE}{e:DE}{a b c:Int}(h1:f1 e=ND (.int a))(h2:f2 e=ND (.int b))(h3:f3 e=ND (.int c)):ur dLe dLt f1 f2 f3 e=ND (decide (a≤b)&&decide (b<c)):=by
 unfold ur;rw[h1,h2,h3];dsimp only[B9];rw[Yq,B9];by_cases q:a≤b
 ·rw[decide_eq_true q];dsimp only;rw[wU,B9];simp
 ·rw[decide_eq_false q];simp
theorem Vv{all:List D}(I:Nat→EN→Prop)(hI:∀k env,I k env→env[j]?=ND (.inn v (.lst all))):∀(xs:List D)(n:Nat)(env:EN),I n env→(∀k x env,xs[k]?=ND x→I (n+k) env→i<env.length∧∃cZ,g (env.set i (.fro x))=.next cZ∧I (n+k+1) cZ)→∃cZ,yJ j i g v all xs env=.next cZ∧I (n+xs.length) cZ
 | [],n,env,h,_=>⟨env,by unfold yJ;rw[if_pos (hI _ _ h)],h⟩
 | x::xs,n,env,h,st=>by
  obtain⟨h1,cZ,h2,h3⟩:=st 0 x env U h;obtain⟨e3,a1,a2⟩:=Vv I hI xs (n+1) cZ h3 λk y e hk hi=>by have:=st (k+1) y e (by simpa using hk) (by rw[show n+(k+1)=n+1+k by omega];exact hi);rw[show n+(k+1)+1=n+1+k+1 by omega]at this;exact this
  refine⟨e3,?_,?_⟩
  ·unfold yJ;rw[if_pos ⟨h1,hI _ _ h⟩,h2];exact a1
  ·rw[D8,show n+(xs.length+1)=n+1+xs.length by omega];exact a2
def lv(ns:List Int)(o:SD):Nat→SD
 | 0=>o
 | k+1=>.fro (.int (ns.getD k 0))
theorem XD{ns:List Int}(env':EN)(h:env[j]?=ND (.own (aJ ns)))(h1:env'[j]?=ND (.own (aJ ns)))(I:V→Nat→EN→Prop)(h0:∀v,I v 0 (env.set j (.inn v (aJ ns))))(hI:∀v k env,I v k env→env[j]?=ND (.inn v (aJ ns)))(st:∀v k x env,ns[k]?=ND x→I v k env→i<env.length∧∃cZ,gb (env.set i (.fro (.int x)))=.next cZ∧I v (k+1) cZ)(fin:∀v cZ,I v ns.length cZ→cZ=env'.set j (.inn v (aJ ns)))(k:Qs Pr (g env')):Qs Pr (aW (Cw j i gb) g env):=by
 have:Cw j i gb env=.next env':=aA5 h h1 λv=>by
  obtain⟨e2,a1,a2⟩:=Vv (i:=i) (g:=gb) (I v) (hI v) (ns.map D.int) 0 _ (h0 v) λk x e hx hi=>by
   rw[P0]at hi ⊢;rw[C4]at hx;cases q:ns[k]? with
   | none=>rw[q]at hx;cases hx
   | some y=>rw[q]at hx;cases hx;exact st v k y e q hi
  rw[P0,B7]at a2;rw[a1,fin v e2 a2]
 rw[eG this];exact k
theorem Bl(neg:Bool)(a:D):Io neg a .non=ND (.bl (if neg then !a.JS else a.JS)):=rfl
theorem aEM{f g:FE}{e:DE}(h:c e=ND NG)(h2:f e=ND d):fIf c f g e=ND d:=by unfold fIf;rw[h];exact h2
theorem aEN{f g:FE}{e:DE}(h:c e=ND NH)(h2:g e=ND d):fIf c f g e=ND d:=by unfold fIf;rw[h];exact h2
end
end L2


local macro_rules | `(tactic| walk_at "fs")=>`(tactic| exact⟨rfl,rfl,rfl,by decide +kernel,rfl,by decide +kernel,by decide +kernel⟩)
namespace Rs
open PySem L2
def top(i:Nat):AH:=PySem.Challenge.pw_ripestone_k31_whole_string.main.body.getD i (.Pass ⟨0,0,0,0⟩)
def iZ:List Str:=["panes", "asked", "newest", "held", "unsettled"]
def dZ:List Str:=["bench", "spots", "string", "loose", "lasts", "comings", "goings"]
abbrev Qe:AH:=top 33
noncomputable def MJ:GS:=aW (qP (fB (f2 dLt (aD 1) (fL jU (aB (aD 0) aO)))) (gB (cN (f2 fJ (aD 0) (aD 1)))) fX)
 (gB (fC (.int 0)))
noncomputable def lO:List D→Option D:=qR 2 2 (MJ)
abbrev Iz:AH:=top 35
noncomputable def Vw:GS:=aW (cV 1 (dW 2 lO (aB (aD 0) (aB (fC (.int 0)) aO))))
 (aW (qP (fB (f2 Ls (f2 fO (f2 sO (aD 1) (fC (.int 30))) (fC (.int 8))) (fC (.int 1)))) (gB (vI (aB (f2 dD (fC (.int 1)) (f2 fO (aD 1) (fC (.int 8)))) (aB (f2 dD (fC (.int 1)) (f2 fO (f2 sO (aD 1) (fC (.int 240))) (fC (.int 8)))) aO)))) fX)
 (gB (vI (aB (f2 dD (fC (.int 1)) (f2 fO (aD 1) (fC (.int 5)))) (aB (f2 dD (fC (.int 1)) (f2 fO (f2 sO (aD 1) (fC (.int 5))) (fC (.int 6)))) aO)))))
noncomputable def vQ:List D→Option D:=qR 2 1 (Vw)
abbrev Ja:AH:=top 34
noncomputable def Vx:GS:=aW (cV 2 (f2 fO (f2 tR (f2 dD (f2 fO (aD 0) (fC (.int 2147483629))) (fC (.int 1))) (f2 dD (fC (.int 48271)) (f2 tR (f2 tR (fC (.int 2)) (aD 1)) (aD 1)))) (fC (.int 2147483629))))
 (gB (f2 fO (f2 tR (aD 2) (aD 2)) (fC (.int 2147483587))))
noncomputable def lA:List D→Option D:=qR 3 2 (Vx)
abbrev Ef:AH:=top 36
noncomputable def Qf:GS:=aW (cV 4 (dW 2 lA (aB (aD 0) (aB (f2 tR (fC (.int 5)) (aD 1)) aO))))
 (aW (cV 5 (cN (f2 fJ (lX (aB (fC (.int 0)) (aB (fC (.int 1)) (aB (fC (.int 2)) (aB (f2 tR (dW 2 lA (aB (aD 0) (aB (f2 dD (f2 tR (fC (.int 5)) (aD 1)) (fC (.int 1))) aO))) (f2 Bw (fC (.int 10)) (fC (.int 40)))) (aB (Dq (fC (.int 1))) aO)))))) (f2 fO (aD 4) (fC (.int 5))))))
 (aW (cV 6 (fC (.int 0)))
 (aW (qP (fB (f2 Ls (f2 fO (f2 sO (aD 4) (fC (.int 5))) (fC (.int 2))) (fC (.int 1)))) (cV 6 (f2 dD (fC (.int 1)) (f2 fO (f2 sO (aD 4) (fC (.int 10))) (fC (.int 9))))) fX)
 (aW (qP (fB (f2 Ls (aD 6) (fC (.int 0)))) (cV 5 (fL aDD (aB (aD 5) aO))) fX)
 (gB (vI (aB (cN (aD 2)) (aB (cN (aD 3)) (aB (cN (f2 fJ (lX (aB (Dq (fC (.int 1))) (aB (fC (.int 0)) (aB (fC (.int 5)) (aB (aD 4) aO))))) (f2 fO (f2 sO (aD 4) (fC (.int 90))) (fC (.int 4))))) (aB (cN (aD 5)) (aB (cN (aD 6)) aO)))))))))))
noncomputable def pL:List D→Option D:=qR 7 4 (Qf)
abbrev vR:AH:=top 37
noncomputable def Vy:GS:=aW (wN [1,2] (dW 1 vQ (aB (aD 0) aO)))
 (aW (cV 3 (fL Ge (aB (fC (.int 1)) (aB (f2 tR (aD 1) (aD 2)) aO))))
 (aW (cV 4 (lX (aB (fC (.int 0)) aO)))
 (aW (xW 5 (rC (aB (f2 fO (dW 2 lO (aB (aD 0) (aB (fC (.int 1)) aO))) (f2 tR (aD 1) (aD 2))) aO)) (Ax 4 3 (f2 fO (dW 2 lA (aB (dW 2 lO (aB (aD 0) (aB (fC (.int 1)) aO))) (aB (aD 5) aO))) (fL jU (aB (aD 3) aO)))))
 (aW (cV 6 (jG (rC (aB (aD 1) aO)) [2] nY (jG (rC (aB (aD 1) aO)) [] nY (vI (aB (fC (.int 0)) (aB (fC (.int 0)) (aB (Dq (fC (.int 1))) (aB (Dq (fC (.int 1))) (aB (fC (.int 0)) aO)))))))))
 (aW (cV 7 (dW 2 lO (aB (aD 0) (aB (fC (.int 2)) aO))))
 (aW (Oe [3] 8 (oK (aD 3)) (vL 6 (dm cR (f2 fO (aD 8) (aD 1))) (f2 sO (aD 8) (aD 1)) (dW 4 pL (aB (aD 7) (aB (aD 8) (aB (f2 fO (aD 7) (f2 Bw (fC (.int 10)) (fC (.int 9)))) (aB (f2 fO (f2 tR (aD 8) (aD 8)) (f2 tR (aD 1) (aD 2))) aO)))))))
 (aW (cV 9 (f2 fO (aD 7) (f2 Bw (fC (.int 10)) (fC (.int 58)))))
 (aW (xW 5 (rC (aB (fL jU (aB (aD 4) aO)) aO)) (aW (cV 8 (cN (f2 fJ (aD 4) (aD 5))))
 (aW (vL 6 (dm cR (f2 fO (aD 8) (aD 1))) (f2 sO (aD 8) (aD 1)) (dW 4 pL (aB (aD 7) (aB (f2 dD (aD 5) (fC (.int 100))) (aB (aD 9) (aB (f2 fJ (f2 dD (aD 4) (lX (aB (fC (.int 0)) aO))) (f2 dD (aD 5) (fC (.int 1)))) aO))))))
 (cV 9 (f2 dD (f2 dD (aD 9) (fC (.int 1))) (f2 tR (f2 fO (dW 2 lA (aB (aD 7) (aB (f2 dD (aD 5) (fC (.int 7))) aO))) (fC (.int 3))) (f2 fJ (lX (aB (fC (.int 1)) (aB (f2 Bw (fC (.int 10)) (fC (.int 40))) aO))) (f2 fO (aD 7) (fC (.int 2))))))))))
 (aW (xW 10 (rC (aB (aD 1) aO)) (zB 6 (dm cR (aD 10)) (vI (aB (f2 fO (dW 2 lA (aB (aD 7) (aB (f2 dD (aD 10) (fC (.int 70))) aO))) (fC (.int 10))) aO))))
 (Kd 6))))))))))
noncomputable def vU:List D→Option D:=qR 11 1 (Vy)
abbrev sY:AH:=inClass (top 13) 0
noncomputable def Qg(κ:Nat→A7):GS:=aW (iW 0 (vM (κ 0) 0 cR "panes" (jG (oK (aD 1)) [] nY (fL dList (aB (aD 0) aO)))))
 (aW (iW 0 (vM (κ 0) 0 cR "asked" (lX aO)))
 (aW (iW 0 (vM (κ 0) 0 cR "newest" (fC (.dt [] []))))
 (aW (iW 0 (vM (κ 0) 0 cR "held" (fC (.dk [] []))))
 (iW 0 (vM (κ 0) 0 cR "unsettled" (jG (oK (aD 1)) [] nY (lX aO)))))))
noncomputable def sZ(κ:Nat→A7):List D→Option (D×D):=nC 2 2 (Qg κ)
abbrev Qh:AH:=top 21
noncomputable def MK:GS:=gB (cN (f2 fJ (f2 fJ (aD 0) (f2 fJ (aD 1) (fC (.int 0)))) (f2 fJ (aD 1) (fC (.int 1)))))
noncomputable def zP:List D→Option D:=qR 2 2 (MK)
abbrev Yz:AH:=top 20
noncomputable def jk:GS:=gB (vI (aB (f2 fO (aD 1) (fL jU (aB (aD 0) aO))) (aB (f2 sO (aD 1) (fL jU (aB (aD 0) aO))) aO)))
noncomputable def wX:List D→Option D:=qR 2 2 (jk)
abbrev Jb:AH:=top 22
noncomputable def Vz:GS:=gB (dW 2 zP (aB (aD 0) (aB (dW 2 wX (aB (aD 0) (aB (aD 1) aO))) aO)))
noncomputable def mC:List D→Option D:=qR 2 2 (Vz)
abbrev Jc:AH:=top 26
noncomputable def Wa:GS:=aW (cV 1 (fC (.dk [] [])))
 (aW (cV 2 (cN (f2 fJ (dW 2 mC (aB (aD 0) (aB (fC (.int (0))) aO))) (fC (.int (1))))))
 (aW (qQ (Dl (fB (f2 RC (aD 2) (fC (.int (0))))) (fB (f2 (Dk NG) (aD 2) (aD 1)))) (aW (pG 1 cR (aD 2) (fC (.bl NG)))
 (cV 2 (cN (f2 fJ (dW 2 mC (aB (aD 0) (aB (aD 2) aO))) (fC (.int (1))))))) 400)
 (gB (fL Oc (aB (aD 1) aO)))))
noncomputable def pM:List D→Option D:=qR 3 1 (Wa)
abbrev Eg:AH:=top 25
noncomputable def Eh:GS:=gB (f2 tR (fL jU (aB (aD 0) aO)) (f2 Di (fL jU (aB (f2 fJ (aD 0) (fC (.int 0))) aO)) (fC (.int 1))))
noncomputable def nW:List D→Option D:=qR 1 1 (Eh)
abbrev uD:AH:=top 27
noncomputable def Ke:GS:=aW (cV 1 (dW 1 pM (aB (aD 0) aO)))
 (gB (jG (HQ (aB (f2 dD (fC (.int (0))) (fC (.int 1))) (aB (dW 1 nW (aB (aD 0) aO)) aO))) [1] (fB (f2 (xq NG) (aD 0) (aD 1))) (cN (aD 0))))
noncomputable def qF:List D→Option D:=qR 2 1 (Ke)
abbrev uE:AH:=inClass (top 30) 0
noncomputable def zQ(κ:Nat→A7):GS:=aW (iW 0 (vM (κ 1) 0 cR "bench" (JD (κ 0) (sZ κ) (aB (aD 1) aO))))
 (aW (iW 0 (vM (κ 1) 0 cR "spots" (jG (rC (aB (dW 1 nW (aB (aD 1) aO)) aO)) [1] nY (dW 2 wX (aB (aD 1) (aB (aD 0) aO))))))
 (aW (iW 0 (vM (κ 1) 0 cR "string" (dW 1 pM (aB (aD 1) aO))))
 (aW (iW 0 (vM (κ 1) 0 cR "loose" (dW 1 qF (aB (aD 1) aO))))
 (aW (iW 0 (vM (κ 1) 0 cR "lasts" (fC (.dk [] []))))
 (aW (iW 0 (vM (κ 1) 0 cR "comings" (fC (.dk [] []))))
 (iW 0 (vM (κ 1) 0 cR "goings" (fC (.dk [] [])))))))))
noncomputable def uF(κ:Nat→A7):List D→Option (D×D):=nC 2 2 (zQ κ)
abbrev wY:AH:=inClass (top 30) 2
noncomputable def Za(κ:Nat→A7):GS:=gB (fL dList (aB (pJ (dJ (κ 1) "string") (aD 0)) aO))
noncomputable def jY(κ:Nat→A7):List D→Option D:=mL 1 1 (Za κ)
abbrev Zb:AH:=top 40
noncomputable def jl:GS:=aW (cV 1 (f2 tR (fL jU (aB (aD 0) aO)) (f2 Di (fL jU (aB (f2 fJ (aD 0) (fC (.int 0))) aO)) (fC (.int 1)))))
 (aW (cV 2 (lX aO))
 (aW (cV 3 (cN (f2 fJ (f2 fJ (f2 fJ (aD 0) (fC (.int 0))) (fC (.int 0))) (fC (.int 1)))))
 (aW (xW 4 (rC (aB (f2 dD (aD 1) (fC (.int 1))) aO)) (aW (qP (fB (f2 Ls (aD 3) (fC (.int 0)))) (Kd 2) fX)
 (aW (qP (qt (Xu (fB (aAM "int" (aD 3)))) (qt (fB (f2 dLt (aD 3) (fC (.int 0)))) (fB (f2 dGe (aD 3) (aD 1))))) (gB (fC .non)) fX)
 (aW (zB 2 cR (cN (aD 3)))
 (cV 3 (cN (f2 fJ (f2 fJ (f2 fJ (aD 0) (f2 fO (aD 3) (fL jU (aB (aD 0) aO)))) (f2 sO (aD 3) (fL jU (aB (aD 0) aO)))) (fC (.int 1)))))))))
 (gB (fC .non)))))
noncomputable def rO:List D→Option D:=qR 5 1 (jl)
abbrev Ei:AH:=top 32
noncomputable def Qi:GS:=aW (cV 1 (f2 fO (f2 tR (f2 dD (f2 fO (aD 0) (fC (.int 2147483629))) (fC (.int 1))) (fC (.int 48271))) (fC (.int 2147483629))))
 (gB (f2 dD (f2 fO (f2 tR (aD 1) (aD 1)) (fC (.int 2147483587))) (f2 tR (f2 fO (aD 0) (f2 Bw (fC (.int 10)) (fC (.int 50)))) (fC (.int 2147483587)))))
noncomputable def lQ:List D→Option D:=qR 2 1 (Qi)
abbrev zR:AH:=top 42
noncomputable def Kf:GS:=aW (cV 3 (f2 dD (lX (aB (fC (.int 0)) aO)) (aD 0)))
 (aW (KH [] [4,5,6,7] (oK (aD 1)) (qP (fB (f2 uz (aD 5) (aD 2))) (qP (fB (f2 Ls (aD 4) (fC (.str "in")))) (aW (qP (qt (fB (f2 (xq NH) (aD 6) (aD 3))) (fB (f2 (xq NG) (aD 7) (aD 3)))) (gB (fC .non)) fX)
 (Ym 3 cR (f2 dD (f2 uU (aD 3) (aD 7)) (fC (.int 1))) (aD 6))) (aW (qP (fB (f2 (xq NG) (aD 6) (aD 3))) (gB (fC .non)) fX)
 (Sx 3 cR (aD 6)))) fX))
 (gB (qw NG (aD 3) (pI (fC (.int 1))) (Xx))))
noncomputable def oF:List D→Option D:=qR 8 3 (Kf)
abbrev qT:AH:=inClass (top 13) 1
noncomputable def xX(κ:Nat→A7):GS:=qP (Xu (ur dLe dLt (fC (.int 0)) (aD 1) (fL jU (aB (pJ (dJ (κ 0) "panes") (aD 0)) aO)))) aAZ fX
noncomputable def iQ(κ:Nat→A7):List D→Option D:=mL 2 2 (xX κ)
abbrev pN:AH:=inClass (top 13) 2
noncomputable def vV(κ:Nat→A7):GS:=aW (xV (fD (κ 0) "check_pane" 2 (iQ κ) (aD 0) (aB (aD 1) aO) []))
 (qP (Xu (ur dLe dLt (fC (.int 0)) (aD 2) (fL jU (aB (f2 fJ (pJ (dJ (κ 0) "panes") (aD 0)) (aD 1)) aO)))) aAZ fX)
noncomputable def gO(κ:Nat→A7):List D→Option D:=mL 3 3 (vV κ)
abbrev Ej:AH:=inClass (top 13) 5
noncomputable def Qj(κ:Nat→A7):GS:=aW (xV (fD (κ 0) "check_place" 3 (gO κ) (aD 0) (aB (aD 1) (aB (aD 2) aO)) []))
 (aW (qP (fB (Su NH (Im (aB (aD 1) (aB (aD 2) aO))) (pJ (dJ (κ 0) "newest") (aD 0)))) (gB (cN (f2 fJ (f2 fJ (pJ (dJ (κ 0) "asked") (aD 0)) (Ox (pJ (dJ (κ 0) "newest") (aD 0)) (Im (aB (aD 1) (aB (aD 2) aO))))) (fC (.int (2)))))) fX)
 (gB (cN (f2 fJ (f2 fJ (pJ (dJ (κ 0) "panes") (aD 0)) (aD 1)) (aD 2)))))
noncomputable def tD(κ:Nat→A7):List D→Option D:=mL 3 3 (Qj κ)
abbrev qU:AH:=inClass (top 30) 1
noncomputable def xY(κ:Nat→A7):GS:=aW (cV 2 (cN (f2 fJ (pJ (dJ (κ 1) "spots") (aD 0)) (aD 1))))
 (gB (fD (κ 0) "seen" 3 (tD κ) (pJ (dJ (κ 1) "bench") (aD 0)) (aB (f2 fJ (aD 2) (fC (.int 0))) (aB (f2 fJ (aD 2) (fC (.int 1))) aO)) []))
noncomputable def bM(κ:Nat→A7):List D→Option D:=mL 3 2 (xY κ)
abbrev oY:AH:=inClass (top 13) 3
noncomputable def uG(κ:Nat→A7):GS:=qP (Xu (ur dLe dLt (fC (.int 0)) (aD 1) (fL jU (aB (pJ (dJ (κ 0) "asked") (aD 0)) aO)))) aAZ fX
noncomputable def fZ(κ:Nat→A7):List D→Option D:=mL 2 2 (uG κ)
abbrev Jd:AH:=inClass (top 13) 4
noncomputable def Wc(κ:Nat→A7):GS:=aW (xV (fD (κ 0) "check_place" 3 (gO κ) (aD 0) (aB (aD 1) (aB (aD 2) aO)) []))
 (aW (cV 5 (fIf (fB (f2 (Io NH) (aD 4) (fC .non))) (lX aO) (fL dList (aB (aD 4) aO))))
 (aW (Cw 5 6 (xV (fD (κ 0) "check_change" 2 (fZ κ) (aD 0) (aB (aD 6) aO) [])))
 (aW (qP (fB (Su NH (Im (aB (aD 1) (aB (aD 2) aO))) (pJ (dJ (κ 0) "newest") (aD 0)))) (zB 5 cR (Ox (pJ (dJ (κ 0) "newest") (aD 0)) (Im (aB (aD 1) (aB (aD 2) aO))))) fX)
 (aW (cV 7 (fL jU (aB (pJ (dJ (κ 0) "asked") (aD 0)) aO)))
 (aW (iW 0 (zB 0 (yI (κ 0) "asked" cR) (vI (aB (cN (aD 1)) (aB (cN (aD 2)) (aB (cN (aD 3)) (aB (fL Od (aB (pJ ie (aD 5)) aO)) aO)))))))
 (aW (iW 0 (Ve 0 (yI (κ 0) "newest" cR) (Im (aB (aD 1) (aB (aD 2) aO))) (aD 7)))
 (aW (iW 0 (zB 0 (dm (yI (κ 0) "unsettled" cR) (aD 1)) (cN (aD 7))))
 (wQ 7))))))))
noncomputable def Bm(κ:Nat→A7):List D→Option (D×D):=nC 8 5 (Wc κ)
abbrev Zc:AH:=top 29
noncomputable def aGH:GS:=gB (jG (oK (aD 0)) [] (fB (f2 (Io NG) (aD 0) (fC .non))) (cN (aD 0)))
noncomputable def Zd:List D→Option D:=qR 1 1 (aGH)
abbrev wZ:AH:=inClass (top 30) 10
noncomputable def Gn(κ:Nat→A7):GS:=aW (cV 4 (cN (f2 fJ (pJ (dJ (κ 1) "spots") (aD 0)) (aD 1))))
 (aW (zH 5 (oE (κ 0) "put" 0 (yI (κ 1) "bench" cR) (Bm κ) (λeF eZ=>((zG (f2 fJ (aD 4) (fC (.int 0))) (zG (f2 fJ (aD 4) (fC (.int 1))) (zG (aD 2) (zG (dW 1 Zd (aB (aD 3) aO)) mW)))) eF eZ).map (·++[]))))
 (aW (iW 0 (pG 0 (yI (κ 1) "lasts" cR) (aD 1) (aD 5)))
 (wQ 5)))
noncomputable def mD(κ:Nat→A7):List D→Option (D×D):=nC 6 4 (Gn κ)
abbrev qW:AH:=inClass (top 30) 5
noncomputable def Lf(κ:Nat→A7):GS:=gB (f2 Pg (pJ (dJ (κ 1) "comings") (aD 0)) (aD 1))
noncomputable def nQ(κ:Nat→A7):List D→Option D:=mL 2 2 (Lf κ)
abbrev pO:AH:=inClass (top 30) 11
noncomputable def vW(κ:Nat→A7):GS:=Fy (oE (κ 1) "write" 0 cR (mD κ) (λeF eZ=>((zG (aD 1) (zG (aD 2) (faN (f2 dD (lX (aB (fD (κ 1) "coming_in" 2 (nQ κ) (aD 0) (aB (aD 1) aO) []) aO)) (aD 3)) mW))) eF eZ).map (·++[])))
noncomputable def eY(κ:Nat→A7):List D→Option (D×D):=nC 4 4 (vW κ)
abbrev mX:AH:=inClass (top 30) 8
noncomputable def rG(κ:Nat→A7):GS:=aW (cV 2 (fIf (fB (f2 (Io NH) (aD 1) (fC .non))) (lX aO) (fL dList (aB (aD 1) aO))))
 (aW (Cw 2 3 (xV (fD (κ 0) "check_change" 2 (fZ κ) (pJ (dJ (κ 1) "bench") (aD 0)) (aB (aD 3) aO) [])))
 (Kd 2))
noncomputable def bY(κ:Nat→A7):List D→Option D:=mL 4 2 (rG κ)
abbrev tE:AH:=inClass (top 30) 14
noncomputable def zT(κ:Nat→A7):GS:=aW (cV 6 (fD (κ 1) "record_of" 2 (bM κ) (aD 0) (aB (aD 1) aO) []))
 (Fy (oE (κ 1) "write_tied" 0 cR (eY κ) (λeF eZ=>((zG (aD 1) (zG (vI (aB (cN (f2 fJ (aD 6) (fC (.int (0))))) (aB (cN (f2 fJ (aD 6) (fC (.int (1))))) (aB (cN (aD 2)) (aB (cN (aD 3)) (aB (cN (aD 4)) aO)))))) (faN (fD (κ 1) "further_needs" 2 (bY κ) (aD 0) (aB (aD 5) aO) []) mW))) eF eZ).map (·++[]))))
noncomputable def oZ(κ:Nat→A7):List D→Option (D×D):=nC 7 6 (zT κ)
abbrev qX:AH:=inClass (top 30) 9
noncomputable def Lg(κ:Nat→A7):GS:=gB (cN (f2 fJ (f2 dD (lX (aB (fC (.int (0))) aO)) (pJ (dJ (κ 1) "string") (aD 0))) (aD 1)))
noncomputable def iR(κ:Nat→A7):List D→Option D:=mL 2 2 (Lg κ)
abbrev zU:AH:=inClass (top 30) 12
noncomputable def Kg(κ:Nat→A7):GS:=aW (cV 4 (fD (κ 1) "record_of" 2 (bM κ) (aD 0) (aB (aD 1) aO) []))
 (Fy (oE (κ 1) "write_tied" 0 cR (eY κ) (λeF eZ=>((zG (aD 1) (zG (vI (aB (cN (f2 fJ (aD 4) (fC (.int (0))))) (aB (cN (aD 2)) (aB (cN (f2 fJ (aD 4) (fC (.int (2))))) (aB (cN (f2 fJ (aD 4) (fC (.int (3))))) (aB (cN (f2 fJ (aD 4) (fC (.int (4))))) aO)))))) (zG (aD 3) mW))) eF eZ).map (·++[]))))
noncomputable def lR(κ:Nat→A7):List D→Option (D×D):=nC 5 4 (Kg κ)
abbrev pA:AH:=inClass (top 30) 7
noncomputable def Gp(κ:Nat→A7):GS:=gB (f2 Pg (pJ (dJ (κ 1) "lasts") (aD 0)) (aD 1))
noncomputable def lF(κ:Nat→A7):List D→Option D:=mL 2 2 (Gp κ)
abbrev xF:AH:=inClass (top 30) 15
noncomputable def Gq(κ:Nat→A7):GS:=aW (cV 3 (fD (κ 1) "box_ahead" 2 (iR κ) (aD 0) (aB (f2 uU (pJ (dJ (κ 1) "string") (aD 0)) (aD 1)) aO) []))
 (aW (cV 4 (f2 dD (lX (aB (fD (κ 1) "last_change" 2 (lF κ) (aD 0) (aB (aD 1) aO) []) aO)) (fD (κ 1) "further_needs" 2 (bY κ) (aD 0) (aB (aD 2) aO) [])))
 (aW (zH 5 (oE (κ 1) "link" 0 cR (lR κ) (λeF eZ=>((zG (aD 3) (faN (cN (f2 fJ (fD (κ 1) "record_of" 2 (bM κ) (aD 0) (aB (aD 1) aO) []) (fC (.int (1))))) (zG (aD 4) mW))) eF eZ).map (·++[]))))
 (aW (iW 0 (Sx 0 (yI (κ 1) "string" cR) (aD 1)))
 (aW (iW 0 (zB 0 (yI (κ 1) "loose" cR) (cN (aD 1))))
 (aW (iW 0 (pG 0 (yI (κ 1) "goings" cR) (aD 1) (aD 5)))
 (wQ 5))))))
noncomputable def mF(κ:Nat→A7):List D→Option (D×D):=nC 6 3 (Gq κ)
abbrev zV:AH:=inClass (top 30) 3
noncomputable def MN(κ:Nat→A7):GS:=gB (fL Ft (aB (pJ (dJ (κ 1) "loose") (aD 0)) aO))
noncomputable def uH(κ:Nat→A7):List D→Option D:=mL 1 1 (MN κ)
abbrev Ze:AH:=top 39
noncomputable def jm:GS:=aW (qP (fB (f2 Ls (aD 0) (lX aO))) (gB (f2 fO (aD 2) (f2 Bw (fC (.int 10)) (fC (.int 58))))) fX)
 (aW (qP (fB (f2 Ls (aD 1) (fC (.int 0)))) (gB (f2 Di (f2 Di (f2 fJ (aD 0) (fC (.int 0))) (fC (.int 1))) (f2 fO (aD 2) (f2 Bw (fC (.int 10)) (fC (.int 50)))))) fX)
 (aW (qP (Dl (fB (f2 dLt (aD 1) (fL jU (aB (aD 0) aO)))) (fB (f2 dGt (f2 Di (f2 fJ (aD 0) (aD 1)) (f2 fJ (aD 0) (f2 Di (aD 1) (fC (.int 1))))) (fC (.int 1))))) (gB (f2 dD (f2 dD (f2 fJ (aD 0) (f2 Di (aD 1) (fC (.int 1)))) (fC (.int 1))) (f2 fO (aD 2) (f2 Di (f2 Di (f2 fJ (aD 0) (aD 1)) (f2 fJ (aD 0) (f2 Di (aD 1) (fC (.int 1))))) (fC (.int 1)))))) fX)
 (gB (f2 dD (f2 dD (f2 fJ (aD 0) (Dq (fC (.int 1)))) (fC (.int 1))) (f2 fO (aD 2) (f2 Bw (fC (.int 10)) (fC (.int 50))))))))
noncomputable def Gr:List D→Option D:=qR 3 3 (jm)
abbrev qY:AH:=inClass (top 30) 6
noncomputable def Lh(κ:Nat→A7):GS:=gB (f2 Pg (pJ (dJ (κ 1) "goings") (aD 0)) (aD 1))
noncomputable def nR(κ:Nat→A7):List D→Option D:=mL 2 2 (Lh κ)
abbrev rP:AH:=inClass (top 30) 13
noncomputable def Gs(κ:Nat→A7):GS:=aW (qP (fB (f2 Ls (fL jU (aB (pJ (dJ (κ 1) "loose") (aD 0)) aO)) (fC (.int 0)))) aAZ fX)
 (aW (cV 6 (fD (κ 1) "further_needs" 2 (bY κ) (aD 0) (aB (aD 5) aO) []))
 (aW (cV 7 (fL jU (aB (jG (oK (pJ (dJ (κ 1) "string") (aD 0))) [0,1] (fB (f2 dLt (f2 fJ (fD (κ 1) "record_of" 2 (bM κ) (aD 1) (aB (aD 0) aO) []) (fC (.int (0)))) (aD 2))) (cN (aD 0))) aO)))
 (aW (cV 8 (fD (κ 1) "box_ahead" 2 (iR κ) (aD 0) (aB (aD 7) aO) []))
 (aW (cV 9 (fL cu (aB (pJ (dJ (κ 1) "loose") (aD 0)) aO)))
 (aW (zH 10 (oE (κ 1) "write" 0 cR (mD κ) (λeF eZ=>((zG (aD 9) (faN (vI (aB (cN (aD 1)) (aB (cN (f2 fJ (fD (κ 1) "record_of" 2 (bM κ) (aD 0) (aB (aD 8) aO) []) (fC (.int (1))))) (aB (cN (aD 2)) (aB (cN (aD 3)) (aB (cN (aD 4)) aO)))))) (faN (lX (aB (fD (κ 1) "going_out" 2 (nR κ) (aD 0) (aB (aD 9) aO) []) aO)) mW))) eF eZ).map (·++[]))))
 (aW (zH 11 (oE (κ 1) "link" 0 cR (lR κ) (λeF eZ=>((zG (aD 8) (zG (aD 9) (zG (f2 dD (lX (aB (aD 10) aO)) (aD 6)) mW))) eF eZ).map (·++[]))))
 (aW (iW 0 (Ym 0 (yI (κ 1) "string" cR) (aD 7) (aD 9)))
 (aW (iW 0 (Sx 0 (yI (κ 1) "loose" cR) (aD 9)))
 (aW (iW 0 (pG 0 (yI (κ 1) "comings" cR) (aD 9) (aD 11)))
 (Fy (gmN (vI (aB (cN (aD 9)) (aB (cN (aD 11)) aO))))))))))))))
noncomputable def rQ(κ:Nat→A7):List D→Option (D×D):=nC 12 6 (Gs κ)
abbrev Gu:AH:=top 41
noncomputable def pB(κ:Nat→A7):GS:=aW (cV 3 (fD (κ 1) "order" 1 (jY κ) (aD 0) aO []))
 (aW (cV 4 (f2 sO (aD 2) (fC (.int 3))))
 (qP (Dl (fB (f2 Ls (f2 fO (aD 2) (fC (.int 3))) (fC (.int 0)))) (fB (f2 RC (aD 3) (lX aO)))) (aW (cV 5 (f2 fO (aD 4) (fL jU (aB (aD 3) aO))))
 (iW 1 (Vj 1 (fC (.str "out")) (oE (κ 1) "leave" 0 cR (mF κ) (λeF eZ=>((zG (f2 fJ (aD 3) (aD 5)) mW) eF eZ).map (·++[.non]))) (aB (cN (f2 fJ (aD 3) (aD 5))) (aB (fC (.int 0)) aO))))) (qP (Dl (fB (f2 Ls (f2 fO (aD 2) (fC (.int 3))) (fC (.int 1)))) (fB (f2 RC (aD 3) (lX aO)))) (zJ (oE (κ 1) "rewrite" 0 cR (oZ κ) (λeF eZ=>((zG (f2 fJ (aD 3) (f2 fO (aD 4) (fL jU (aB (aD 3) aO)))) (zG (Dq (fC (.int 1))) (zG (f2 fO (aD 4) (f2 Bw (fC (.int 10)) (fC (.int 50)))) (zG (fC (.int 0)) mW)))) eF eZ).map (·++[.non])))) (qP (fB (f2 RC (fD (κ 1) "free" 1 (uH κ) (aD 0) aO []) (lX aO))) (aW (cV 6 (jG (oK (aD 3)) [0] nY (cN (f2 fJ (fD (κ 1) "record_of" 2 (bM κ) (aD 1) (aB (aD 0) aO) []) (fC (.int 0))))))
 (aW (cV 5 (f2 fO (aD 4) (f2 dD (fL jU (aB (aD 3) aO)) (fC (.int 1)))))
 (aW (cV 7 (dW 3 Gr (aB (aD 6) (aB (aD 5) (aB (f2 sO (aD 4) (fC (.int 5))) aO)))))
 (aW (Vk [8,9] (oE (κ 1) "enter" 0 cR (rQ κ) (λeF eZ=>((zG (aD 7) (zG (Dq (fC (.int 1))) (zG (f2 fO (aD 4) (f2 Bw (fC (.int 10)) (fC (.int 50)))) (zG (fC (.int 0)) mW)))) eF eZ).map (·++[.non]))))
 (aW (cV 5 (f2 uU (fL Ft (aB (f2 dD (aD 6) (lX (aB (aD 7) aO))) aO)) (aD 7)))
 (iW 1 (zB 1 cR (vI (aB (fC (.str "in")) (aB (cN (aD 9)) (aB (cN (aD 8)) (aB (cN (f2 fJ (f2 dD (lX (aB (fC (.int 0)) aO)) (aD 3)) (aD 5))) aO)))))))))))) fX))))
noncomputable def zW(κ:Nat→A7):List D→Option (D×List D):=Oz 10 [NG,NG,NH] (pB κ)
abbrev xG:AH:=top 6
noncomputable def Qk:GS:=aW (cV 3 (fC (.dk [] [])))
 (aW (Oe [] 4 (oK (aD 2)) (qP (fB (fL aC7 (aB (jG (oK (f2 fJ (f2 fJ (aD 0) (aD 4)) (fC (.int (3))))) [1,3] nY (qu (f2 (Dk NH) (aD 0) (aD 1)) (f2 (Dk NH) (aD 0) (aD 2)))) aO))) (pG 3 cR (aD 4) (fC (.bl NG))) fX))
 (gB (fL Oc (aB (aD 3) aO))))
noncomputable def tG:List D→Option D:=qR 5 3 (Qk)
abbrev xH:AH:=inClass (top 13) 6
noncomputable def Gv(κ:Nat→A7):GS:=aW (cV 2 (cN (f2 fJ (pJ (dJ (κ 0) "asked") (aD 0)) (aD 1))))
 (aW (iW 0 (vL 0 (dm (yI (κ 0) "panes" cR) (f2 fJ (aD 2) (fC (.int (0))))) (f2 fJ (aD 2) (fC (.int (1)))) (cN (f2 fJ (aD 2) (fC (.int (2)))))))
 (iW 0 (pG 0 (yI (κ 0) "held" cR) (aD 1) (fC (.bl NG)))))
noncomputable def rR(κ:Nat→A7):List D→Option (D×D):=nC 3 2 (Gv κ)
abbrev uI:AH:=inClass (top 13) 7
noncomputable def Kh(κ:Nat→A7):GS:=aW (xV (fD (κ 0) "check_pane" 2 (iQ κ) (aD 0) (aB (aD 1) aO) []))
 (aW (cV 3 (dW 3 tG (aB (pJ (dJ (κ 0) "asked") (aD 0)) (aB (pJ (dJ (κ 0) "held") (aD 0)) (aB (f2 fJ (pJ (dJ (κ 0) "unsettled") (aD 0)) (aD 1)) aO)))))
 (aW (qP (fB (f2 (Io NG) (aD 2) (fC .non))) (cV 3 (qw NG (aD 3) (Xx) (pI (fL HH (aB (aD 2) (aB (fC (.int 0)) aO)))))) fX)
 (aW (Cw 3 4 (zJ (oE (κ 0) "strike" 0 cR (rR κ) (λeF eZ=>((zG (aD 4) mW) eF eZ).map (·++[])))))
 (aW (iW 0 (vL 0 (yI (κ 0) "unsettled" cR) (aD 1) (jG (oK (f2 fJ (pJ (dJ (κ 0) "unsettled") (aD 0)) (aD 1))) [0] (fB (f2 (Dk NG) (aD 0) (pJ (dJ (κ 0) "held") (aD 1)))) (cN (aD 0)))))
 (wQ 3)))))
noncomputable def qG(κ:Nat→A7):List D→Option (D×D):=nC 5 3 (Kh κ)
abbrev uJ:AH:=inClass (top 13) 8
noncomputable def MP(κ:Nat→A7):GS:=gB (jG (oK (pJ (dJ (κ 0) "panes") (aD 0))) [] nY (fL dList (aB (aD 0) aO)))
noncomputable def qH(κ:Nat→A7):List D→Option D:=mL 1 1 (MP κ)
abbrev uW:AH:=inClass (top 13) 10
noncomputable def Sy(κ:Nat→A7):GS:=gB (fL dList (aB (pJ (dJ (κ 0) "asked") (aD 0)) aO))
noncomputable def nF(κ:Nat→A7):List D→Option D:=mL 1 1 (Sy κ)
abbrev aDQ:AH:=top 43
noncomputable def aIs(κ:Nat→A7):GS:=aW (cV 1 (dW 1 vU (aB (aD 0) aO)))
 (aW (cV 2 (JD (κ 1) (uF κ) (aB (aD 1) aO)))
 (aW (cV 3 (fD (κ 1) "order" 1 (jY κ) (aD 2) aO []))
 (aW (qP (fB (f2 RC (aD 3) (dW 1 rO (aB (aD 1) aO)))) (gB (fC (.bl NH))) fX)
 (aW (cV 4 (lX aO))
 (aW (cV 5 (fC (.dk [] [])))
 (aW (Oe [] 6 (oK (jG (oK (qw NH (aD 0) (pI (fC (.int 3))) (pI (fC (.int 123))))) [] nY (dW 1 lQ (aB (aD 0) aO)))) (aW (cV 7 (f2 sO (aD 6) (fC (.int 3))))
 (qP (fB (f2 Ls (f2 fO (aD 6) (fC (.int 3))) (fC (.int 0)))) (aW (qP (fB (f2 Ls (f2 fO (aD 7) (fC (.int 3))) (fC (.int 0)))) (zH 8 (oE (κ 0) "carve" 2 (yI (κ 1) "bench" cR) (qG κ) (λeF eZ=>((zG (f2 fO (f2 sO (aD 7) (fC (.int 9))) (fL jU (aB (aD 1) aO))) (zG (f2 fO (f2 sO (aD 7) (fC (.int 3))) (fC (.int 3))) mW)) eF eZ).map (·++[])))) (zH 8 (oE (κ 0) "carve" 2 (yI (κ 1) "bench" cR) (qG κ) (λeF eZ=>((zG (f2 fO (f2 sO (aD 7) (fC (.int 9))) (fL jU (aB (aD 1) aO))) mW) eF eZ).map (·++[.non])))))
 (aW (Oe [8] 9 (oK (aD 8)) (pG 5 cR (aD 9) (fC (.bl NG))))
 (aW (cV 10 (dW 3 oF (aB (aD 3) (aB (aD 4) (aB (aD 5) aO)))))
 (qP (qt (fB (f2 (Io NH) (aD 10) (fC .non))) (fB (f2 RC (dW 1 rO (aB (fD (κ 0) "stone" 1 (qH κ) (pJ (dJ (κ 1) "bench") (aD 2)) aO []) aO)) (aD 10)))) (gB (fC (.bl NH))) fX)))) (zJ (JZ (.ch 2::.ch 4::.rd (aD 7)::[]) (zW κ))))))
 (gB (f2 Ls (fD (κ 1) "order" 1 (jY κ) (aD 2) aO []) (dW 3 oF (aB (aD 3) (aB (aD 4) (aB (pJ Ik (fL jU (aB (fD (κ 0) "changes" 1 (nF κ) (pJ (dJ (κ 1) "bench") (aD 2)) aO []) aO))) aO))))))))))))
noncomputable def aGI(κ:Nat→A7):List D→Option D:=qR 11 1 (aIs κ)
section
variable{P:AI}{w:AL}{K:aF}{mg:Str→Option A6}{base:AM}
theorem vh:bA ["script", "k"] ["script", "k"] (aL Qe):=by walk_at "fs"
theorem XF(R:Raw K mg "_law_cell" Qe) (gC:mg "len" = none):sJ P w K mg base "_law_cell" 1 2 (jA K 2 lO):=by
 refine R.zF vh (λ_ _ _ _ _ _ us hl=>match us,hl with | [_,_],_=>rfl) (λ_ _ _ _ _ _ _ hr=>?_);have dM:=hr.units;have hu:=cY hr;exact⟨_,aN (jH (cT Mx qN (aH (pv 1)) (XN.r (iC gD (gF U) U gC F4 (aG (aH (pv 0)) aP))) (dO _)) (aV (cG (XR.n (bQ (aH (pv 0)) (aH (pv 1)) (λ_ _=>rfl))))) gW)
  (aV (cG aM))⟩
theorem Ql:bA ["script", "head"] ["script"] (aL Iz):=by walk_at "fs"
theorem MT(R:Raw K mg "_law_sizes" Iz) (qI:sJ P w K mg base "_law_cell" 1 2 (jA K 2 lO)):sJ P w K mg base "_law_sizes" 2 1 (jA K 1 vQ):=by
 refine R.zF Ql (λ_ _ _ _ _ _ us hl=>match us,hl with | [_],_=>rfl) (λ_ _ _ _ _ _ _ hr=>?_);have dM:=hr.units;have hu:=cY hr;exact⟨_,aN (bL (i:=1) (dH qI (hr.mono (by decide)) U (aG (aH (pv 0)) (aG (XN.r (aM)) aP))) (λh=>bH Ql.nd U (by first | exact D7 U | exact D6 U) h))
  (aN (jH (cT (or_eq dM U) vJ (XN.r (bT (XN.r (mU (aH (pv 1)) (XN.r (aM)))) (XN.r (aM)))) (XN.r (aM)) (dO _)) (aV (cG (qO (bI (cB (XN.r (aM)) (XN.r (bT (aH (pv 1)) (XN.r (aM))))) (bI (cB (XN.r (aM)) (XN.r (bT (XN.r (mU (aH (pv 1)) (XN.r (aM)))) (XN.r (aM))))) jB))))) gW)
  (aV (cG (qO (bI (cB (XN.r (aM)) (XN.r (bT (aH (pv 1)) (XN.r (aM))))) (bI (cB (XN.r (aM)) (XN.r (bT (XN.r (mU (aH (pv 1)) (XN.r (aM)))) (XN.r (aM))))) jB))))))⟩
theorem Qm:bA ["cell", "k", "number"] ["cell", "k"] (aL Ja):=by walk_at "fs"
theorem NB(R:Raw K mg "_law_mixed" Ja):sJ P w K mg base "_law_mixed" 1 2 (jA K 2 lA):=by
 refine R.zF Qm (λ_ _ _ _ _ _ us hl=>match us,hl with | [_,_],_=>rfl) (λ_ _ _ _ _ _ _ hr=>?_);have dM:=hr.units;have hu:=cY hr;exact⟨_,aN (bL (i:=2) (bT (XN.r (lK (XN.r (cB (XN.r (bT (aH (pv 0)) (XN.r (aM)))) (XN.r (aM)))) (XN.r (cB (XN.r (aM)) (XN.r (lK (XN.r (lK (XN.r (aM)) (aH (pv 1)))) (aH (pv 1)))))))) (XN.r (aM))) (λh=>bH Qm.nd U (by first | exact D7 U | exact D6 U) h))
  (aV (cG (bT (XN.r (lK (aH (pv 2)) (aH (pv 2)))) (XN.r (aM)))))⟩
theorem oG:bA ["cell", "k", "key", "following", "pick", "now", "age"] ["cell", "k", "key", "following"] (aL Ef):=by walk_at "fs"
theorem Zf(R:Raw K mg "_law_record" Ef) (mG:sJ P w K mg base "_law_mixed" 1 2 (jA K 2 lA)) (aGJ:mg "abs" = none):sJ P w K mg base "_law_record" 2 4 (jA K 4 pL):=by
 refine R.zF oG (λ_ _ _ _ _ _ us hl=>match us,hl with | [_,_,_,_],_=>rfl) (λ_ _ _ _ _ _ _ hr=>?_);have dM:=hr.units;have hu:=cY hr;exact⟨_,aN (bL (i:=4) (dH mG (hr.mono (by decide)) U (aG (aH (pv 0)) (aG (XN.r (lK (XN.r (aM)) (aH (pv 1)))) aP))) (λh=>bH oG.nd U (by first | exact D7 U | exact D6 U) h))
  (aN (bL (i:=5) (XR.n (bQ (nT (aG (XN.r (aM)) (aG (XN.r (aM)) (aG (XN.r (aM)) (aG (XN.r (lK (XN.r (dH mG (hr.mono (by decide)) U (aG (aH (pv 0)) (aG (XN.r (cB (XN.r (lK (XN.r (aM)) (aH (pv 1)))) (XN.r (aM)))) aP)))) (XN.r (uO (XN.r (aM)) (XN.r (aM)))))) (aG (XN.r (wO (XN.r (aM)))) aP)))))) (XN.r (bT (aH (pv 4)) (XN.r (aM)))) (λ_ _=>rfl))) (λh=>bH oG.nd U (by first | exact D7 U | exact D6 U) h))
  (aN (bL (i:=6) aM (λh=>bH oG.nd U (by first | exact D7 U | exact D6 U) h))
  (aN (jH (cT (or_eq dM U) vJ (XN.r (bT (XN.r (mU (aH (pv 4)) (XN.r (aM)))) (XN.r (aM)))) (XN.r (aM)) (dO _)) (aV (bL (i:=6) (cB (XN.r (aM)) (XN.r (bT (XN.r (mU (aH (pv 4)) (XN.r (aM)))) (XN.r (aM))))) (λh=>bH oG.nd U (by first | exact D7 U | exact D6 U) h))) gW)
  (aN (jH (cT (or_eq dM U) vJ (aH (pv 6)) (XN.r (aM)) (dO _)) (aV (bL (i:=5) (iC aGu aGv U aGJ PyProof.Rows.boot_abs (aG (aH (pv 5)) aP)) (λh=>bH oG.nd U (by first | exact D7 U | exact D6 U) h))) gW)
  (aV (cG (qO (bI (XR.n (aH (pv 2))) (bI (XR.n (aH (pv 3))) (bI (XR.n (bQ (nT (aG (XN.r (wO (XN.r (aM)))) (aG (XN.r (aM)) (aG (XN.r (aM)) (aG (aH (pv 4)) aP))))) (XN.r (bT (XN.r (mU (aH (pv 4)) (XN.r (aM)))) (XN.r (aM)))) (λ_ _=>rfl))) (bI (XR.n (aH (pv 5))) (bI (XR.n (aH (pv 6))) jB))))))))))))⟩
theorem eE:bA ["script", "panes", "rows", "spare", "boxes", "k", "stone", "cell", "box", "key", "pane"] ["script"] (aL vR):=by walk_at "fs"
theorem NK(R:Raw K mg "_law_built" vR) (Je:sJ P w K mg base "_law_sizes" 2 1 (jA K 1 vQ)) (qI:sJ P w K mg base "_law_cell" 1 2 (jA K 2 lO)) (mG:sJ P w K mg base "_law_mixed" 1 2 (jA K 2 lA)) (xJ:sJ P w K mg base "_law_record" 2 4 (jA K 4 pL)) (iH:mg "list" = none) (jP:mg "range" = none) (gC:mg "len" = none):sJ P w K mg base "_law_built" 3 1 (jA K 1 vU):=by
 refine R.zF eE (λ_ _ _ _ _ _ us hl=>match us,hl with | [_],_=>rfl) (λ_ _ _ _ _ _ _ hr=>?_);have dM:=hr.units;have hu:=cY hr;exact⟨_,aN (rn (is:=[1,2]) (n:=2) (dH Je (hr.mono (by decide)) U (aG (aH (pv 0)) aP)) (λh=>Hu h (RJ U (pZ (fW (i:=1) eE.nd U (by first | exact D7 U | exact D6 U)) (pZ (fW (i:=2) eE.nd U (by first | exact D7 U | exact D6 U)) (Wu))))))
  (aN (bL (i:=3) (uy (aG (XN.r (aM)) (aG (XN.r (lK (aH (pv 1)) (aH (pv 2)))) aP)) U iH J5 U jP Z8) (λh=>bH eE.nd U (by first | exact D7 U | exact D6 U) h))
  (aN (bL (i:=4) (yX (bI aM jB)) (λh=>bH eE.nd U (by first | exact D7 U | exact D6 U) h))
  (aN (Mg AW U (Ay U jP (aG (XN.r (bT (XN.r (dH qI (hr.mono (by decide)) U (aG (aH (pv 0)) (aG (XN.r (aM)) aP)))) (XN.r (lK (aH (pv 1)) (aH (pv 2)))))) aP)) (fW (i:=5) eE.nd U (by first | exact D7 U | exact D6 U)) (aV (sr (i:=4) (j:=3) (XN.r (bT (XN.r (dH mG (hr.mono (by decide)) U (aG (XN.r (dH qI (hr.mono (by decide)) U (aG (aH (pv 0)) (aG (XN.r (aM)) aP)))) (aG (aH (pv 5)) aP)))) (XN.r (iC gD (gF U) U gC F4 (aG (aH (pv 3)) aP))))) (λh=>jJ (pF E6 J8 J9 kW (pv 4) (cH (pF E6 PySem.F.slot_list_pop PySem.F.type_list_pop aAc (pv 3) (cH h gU)) gU))))))
  (aN (dz (i:=6) ["pane", "rows"] [2] U (.at (aL vR) ["script", "panes", "rows", "spare", "boxes", "k", "stone", "cell", "box", "key", "pane"] (by decide +kernel)) eE.nd U (by first | exact D7 U | exact D6 U) (Ih U jP (aG (aH (pv 1)) aP)) (lW (by decide +kernel) U U) (λ_ _ _ _ _=>rK) (λ_ _ _ _ _=>oR ["place"] [] U (kI.of (by show az (vD _ (aL vR)) _ ["pane", "rows"] _ _ _=NG;decide +kernel)) (Ih U jP (aG (aH (pv 1)) aP)) (lW (by decide +kernel) U U) (λ_ _ _ _ _=>rK) (λ_ _ _ _ _=>qO (bI aM (bI aM (bI (wO (XN.r (aM))) (bI (wO (XN.r (aM))) (bI aM jB))))))))
  (aN (bL (i:=7) (dH qI (hr.mono (by decide)) U (aG (aH (pv 0)) (aG (XN.r (aM)) aP))) (λh=>bH eE.nd U (by first | exact D7 U | exact D6 U) h))
  (aN (Yc [3] AW U (oM (aH (pv 3))) (fW (i:=8) eE.nd U (by first | exact D7 U | exact D6 U)) (aV (du (HR (gG (pv 6)) (XN.r (bT (aH (pv 8)) (aH (pv 1)))) (λ_ _=>rfl)) (XN.r (mU (aH (pv 8)) (aH (pv 1)))) (dH xJ (hr.mono (by decide)) U (aG (aH (pv 7)) (aG (aH (pv 8)) (aG (XN.r (bT (aH (pv 7)) (XN.r (uO (XN.r (aM)) (XN.r (aM)))))) (aG (XN.r (bT (XN.r (lK (aH (pv 8)) (aH (pv 8)))) (XN.r (lK (aH (pv 1)) (aH (pv 2)))))) aP))))) (λa b c=>Hu c (Ww a b set_list)))))
  (aN (bL (i:=9) (bT (aH (pv 7)) (XN.r (uO (XN.r (aM)) (XN.r (aM))))) (λh=>bH eE.nd U (by first | exact D7 U | exact D6 U) h))
  (aN (Mg AW U (Ay U jP (aG (XN.r (iC gD (gF U) U gC F4 (aG (aH (pv 4)) aP))) aP)) (fW (i:=5) eE.nd U (by first | exact D7 U | exact D6 U)) (aN (bL (i:=8) (XR.n (bQ (aH (pv 4)) (aH (pv 5)) (λ_ _=>rfl))) (λh=>bH eE.nd U (by first | exact D7 U | exact D6 U) h))
  (aN (du (HR (gG (pv 6)) (XN.r (bT (aH (pv 8)) (aH (pv 1)))) (λ_ _=>rfl)) (XN.r (mU (aH (pv 8)) (aH (pv 1)))) (dH xJ (hr.mono (by decide)) U (aG (aH (pv 7)) (aG (XN.r (cB (aH (pv 5)) (XN.r (aM)))) (aG (aH (pv 9)) (aG (bQ (XN.r (cB (aH (pv 4)) (nT (aG (XN.r (aM)) aP)))) (XN.r (cB (aH (pv 5)) (XN.r (aM)))) (λ_ _=>rfl)) aP))))) (λa b c=>Hu c (Ww a b set_list)))
  (aV (bL (i:=9) (cB (XN.r (cB (aH (pv 9)) (XN.r (aM)))) (XN.r (lK (XN.r (bT (XN.r (dH mG (hr.mono (by decide)) U (aG (aH (pv 7)) (aG (XN.r (cB (aH (pv 5)) (XN.r (aM)))) aP)))) (XN.r (aM)))) (bQ (nT (aG (XN.r (aM)) (aG (XN.r (uO (XN.r (aM)) (XN.r (aM)))) aP))) (XN.r (bT (aH (pv 7)) (XN.r (aM)))) (λ_ _=>rfl))))) (λh=>bH eE.nd U (by first | exact D7 U | exact D6 U) h))))))
  (aN (Mg AW U (Ay U jP (aG (aH (pv 1)) aP)) (fW (i:=10) eE.nd U (by first | exact D7 U | exact D6 U)) (aV (VH (HR (gG (pv 6)) (aH (pv 10)) (λ_ _=>rfl)) (qO (bI (bT (XN.r (dH mG (hr.mono (by decide)) U (aG (aH (pv 7)) (aG (XN.r (cB (aH (pv 10)) (XN.r (aM)))) aP)))) (XN.r (aM))) jB)) (λa b=>jJ (pF E6 J8 J9 kW a (cH b gU))))))
  (aV (Yb (pv 6))))))))))))⟩
theorem NP:bA ["self", "stone"] ["self", "stone"] (aL sY):=by walk_at "fs"
theorem Zg{κ:Nat→A7}(R:JG K mg "Bench" (κ 0) "Bench.__init__" sY) (aY:jC K (κ 0) iZ) (iH:mg "list" = none):uo P w K mg base "Bench" (κ 0) 1 2 (spS K 2 (sZ κ)):=by
 refine R.aIb NP (λ_ _ _ _ _ _ us hl=>match us,hl with | [_,_],_=>rfl) (λ_ _ _ _ _ _ _ hr=>?_);have dM:=hr.units;have hu:=cY hr;exact⟨_,aN (nJ aY (by decide +kernel) (gG (pv 0)) (oR ["pane"] [] U (.at (aL sY) ["self", "stone"] (by decide +kernel)) (oM (aH (pv 1))) (lW (by decide +kernel) U U) (λ_ _ _ _ _=>rK) (λ_ _ _ _ _=>Fj Av (Aw U) U iH J5 (aG (aH (pv 0)) aP))))
  (aN (nJ aY (by decide +kernel) (gG (pv 0)) (yX jB))
  (aN (nJ aY (by decide +kernel) (gG (pv 0)) (aA6))
  (aN (nJ aY (by decide +kernel) (gG (pv 0)) (wL))
  (aV (nJ aY (by decide +kernel) (gG (pv 0)) (oR ["pane"] [] U (.at (aL sY) ["self", "stone"] (by decide +kernel)) (oM (aH (pv 1))) (lW (by decide +kernel) U U) (λ_ _ _ _ _=>rK) (λ_ _ _ _ _=>yX jB)))))))⟩
theorem vm:bA ["stone", "spot"] ["stone", "spot"] (aL Qh):=by walk_at "fs"
theorem XH(R:Raw K mg "thing_at" Qh):sJ P w K mg base "thing_at" 1 2 (jA K 2 zP):=by refine R.zF vm (λ_ _ _ _ _ _ us hl=>match us,hl with | [_,_],_=>rfl) (λ_ _ _ _ _ _ _ hr=>?_);have dM:=hr.units;have hu:=cY hr;exact⟨_,aV (cG (XR.n (bQ (bQ (aH (pv 0)) (bQ (aH (pv 1)) (XN.r (aM)) (λ_ _=>rfl)) (λ_ _=>rfl)) (bQ (aH (pv 1)) (XN.r (aM)) (λ_ _=>rfl)) (λ_ _=>rfl))))⟩
theorem aBC:bA ["stone", "box"] ["stone", "box"] (aL Yz):=by walk_at "fs"
theorem vo(R:Raw K mg "spot_of" Yz) (gC:mg "len" = none):sJ P w K mg base "spot_of" 1 2 (jA K 2 wX):=by refine R.zF aBC (λ_ _ _ _ _ _ us hl=>match us,hl with | [_,_],_=>rfl) (λ_ _ _ _ _ _ _ hr=>?_);have dM:=hr.units;have hu:=cY hr;exact⟨_,aV (cG (qO (bI (bT (aH (pv 1)) (XN.r (iC gD (gF U) U gC F4 (aG (aH (pv 0)) aP)))) (bI (mU (aH (pv 1)) (XN.r (iC gD (gF U) U gC F4 (aG (aH (pv 0)) aP)))) jB))))⟩
theorem XQ:bA ["stone", "box"] ["stone", "box"] (aL Jb):=by walk_at "fs"
theorem NQ(R:Raw K mg "record_at" Jb) (Bo:sJ P w K mg base "spot_of" 1 2 (jA K 2 wX)) (Qn:sJ P w K mg base "thing_at" 1 2 (jA K 2 zP)):sJ P w K mg base "record_at" 2 2 (jA K 2 mC):=by refine R.zF XQ (λ_ _ _ _ _ _ us hl=>match us,hl with | [_,_],_=>rfl) (λ_ _ _ _ _ _ _ hr=>?_);have dM:=hr.units;have hu:=cY hr;exact⟨_,aV (cG (dH Qn (hr.mono (by decide)) U (aG (aH (pv 0)) (aG (XN.r (dH Bo (hr.mono (by decide)) U (aG (aH (pv 0)) (aG (aH (pv 1)) aP)))) aP))))⟩
theorem xK:bA ["stone", "found", "box"] ["stone"] (aL Jc):=by walk_at "fs"
theorem NT(R:Raw K mg "string_of" Jc) (Bp:sJ P w K mg base "record_at" 2 2 (jA K 2 mC)) (iH:mg "list" = none) (Cy:iD mg "HEAD" (0)) (vX:iD mg "NEXT" (1)):sJ P w K mg base "string_of" 3 1 (jA K 1 pM):=by
 refine R.zF xK (λ_ _ _ _ _ _ us hl=>match us,hl with | [_],_=>rfl) (λ_ _ _ _ _ _ _ hr=>?_);have dM:=hr.units;have hu:=cY hr;exact⟨_,aN (bL (i:=1) (wL) (λh=>bH xK.nd U (by first | exact D7 U | exact D6 U) h))
  (aN (bL (i:=2) (XR.n (bQ (XN.r (dH Bp (hr.mono (by decide)) U (aG (aH (pv 0)) (aG (XN.r (nZ Cy U)) aP)))) (XN.r (nZ vX U)) (λ_ _=>rfl))) (λh=>bH xK.nd U (by first | exact D7 U | exact D6 U) h))
  (aN (aAH 400 AW (XW.xt (Xv (cT (Us dM U) Ur (aH (pv 2)) (XN.r (nZ Cy U)) (dO _)) (Ly (Ut hu (aH (pv 2)) (aH (pv 1)))))) (aN (Yg (gG (pv 1)) (aH (pv 2)) (XN.r (Up)) (λa b c=>tX hu a b c U))
  (aV (bL (i:=2) (XR.n (bQ (XN.r (dH Bp (hr.mono (by decide)) U (aG (aH (pv 0)) (aG (aH (pv 2)) aP)))) (XN.r (nZ vX U)) (λ_ _=>rfl))) (λh=>bH xK.nd U (by first | exact D7 U | exact D6 U) h)))))
  (aV (cG (Fj HD (yR U) U iH J5 (aG (aH (pv 1)) aP))))))⟩
theorem NZ:bA ["stone"] ["stone"] (aL Eg):=by walk_at "fs"
theorem Zh(R:Raw K mg "many_boxes" Eg) (gC:mg "len" = none):sJ P w K mg base "many_boxes" 1 1 (jA K 1 nW):=by refine R.zF NZ (λ_ _ _ _ _ _ us hl=>match us,hl with | [_],_=>rfl) (λ_ _ _ _ _ _ _ hr=>?_);have dM:=hr.units;have hu:=cY hr;exact⟨_,aV (cG (lK (XN.r (iC gD (gF U) U gC F4 (aG (aH (pv 0)) aP))) (XN.r (uN (XN.r (iC gD (gF U) U gC F4 (aG (bQ (aH (pv 0)) (XN.r (aM)) (λ_ _=>rfl)) aP))) (XN.r (aM))))))⟩
theorem Gw:bA ["stone", "tied"] ["stone"] (aL uD):=by walk_at "fs"
theorem Tc(R:Raw K mg "loose_boxes" uD) (sG:sJ P w K mg base "string_of" 3 1 (jA K 1 pM)) (pP:sJ P w K mg base "many_boxes" 1 1 (jA K 1 nW)) (jP:mg "range" = none) (Cy:iD mg "HEAD" (0)):sJ P w K mg base "loose_boxes" 4 1 (jA K 1 qF):=by
 refine R.zF Gw (λ_ _ _ _ _ _ us hl=>match us,hl with | [_],_=>rfl) (λ_ _ _ _ _ _ _ hr=>?_);have dM:=hr.units;have hu:=cY hr;exact⟨_,aN (bL (i:=1) (dH sG (hr.mono (by decide)) U (aG (aH (pv 0)) aP)) (λh=>bH Gw.nd U (by first | exact D7 U | exact D6 U) h))
  (aV (cG (oR ["box", "tied"] [1] U (.at (aL uD) ["stone", "tied"] (by decide +kernel)) (aH1 (λh=>km U jP h) (aG (XN.r (cB (XN.r (nZ Cy U)) (XN.r (aM)))) (aG (XN.r (dH pP (hr.mono (by decide)) U (aG (aH (pv 0)) aP))) aP))) (lW (by decide +kernel) U U) (λ_ _ _ _ _=>Ma (cT (Oa U) (GQ NG) (aH (pv 0)) (aH (pv 1)) (by with_unfolding_all rfl))) (λ_ _ _ _ _=>XR.n (aH (pv 0))))))⟩
theorem Zi:bA ["self", "stone"] ["self", "stone"] (aL uE):=by walk_at "fs"
theorem Td{κ:Nat→A7}(R:JG K mg "Weaver" (κ 1) "Weaver.__init__" uE) (aY:jC K (κ 0) iZ) (aQ:jC K (κ 1) dZ) (Ek:uo P w K mg base "Bench" (κ 0) 1 2 (spS K 2 (sZ κ))) (pP:sJ P w K mg base "many_boxes" 1 1 (jA K 1 nW)) (Bo:sJ P w K mg base "spot_of" 1 2 (jA K 2 wX)) (sG:sJ P w K mg base "string_of" 3 1 (jA K 1 pM)) (zX:sJ P w K mg base "loose_boxes" 4 1 (jA K 1 qF)) (jP:mg "range" = none):uo P w K mg base "Weaver" (κ 1) 5 2 (spS K 2 (uF κ)):=by
 refine R.aIb Zi (λ_ _ _ _ _ _ us hl=>match us,hl with | [_,_],_=>rfl) (λ_ _ _ _ _ _ _ hr=>?_);have dM:=hr.units;have hu:=cY hr;exact⟨_,aN (nJ aQ (by decide +kernel) (gG (pv 0)) (ir Ek eX (hr.mono (by decide)) U (aG (aH (pv 1)) aP)))
  (aN (nJ aQ (by decide +kernel) (gG (pv 0)) (oR ["box", "stone"] [1] U (.at (aL uE) ["self", "stone"] (by decide +kernel)) (Ih U jP (aG (XN.r (dH pP (hr.mono (by decide)) U (aG (aH (pv 1)) aP))) aP)) (lW (by decide +kernel) U U) (λ_ _ _ _ _=>rK) (λ_ _ _ _ _=>dH Bo (hr.mono (by decide)) U (aG (aH (pv 1)) (aG (aH (pv 0)) aP)))))
  (aN (nJ aQ (by decide +kernel) (gG (pv 0)) (dH sG (hr.mono (by decide)) U (aG (aH (pv 1)) aP)))
  (aN (nJ aQ (by decide +kernel) (gG (pv 0)) (dH zX (hr.mono (by decide)) U (aG (aH (pv 1)) aP)))
  (aN (nJ aQ (by decide +kernel) (gG (pv 0)) (wL))
  (aN (nJ aQ (by decide +kernel) (gG (pv 0)) (wL))
  (aV (nJ aQ (by decide +kernel) (gG (pv 0)) (wL))))))))⟩
theorem Te:bA ["self"] ["self"] (aL wY):=by walk_at "fs"
theorem Qo{κ:Nat→A7}(R:fM K (κ 1) "order" "Weaver.order" wY NH) (aQ:jC K (κ 1) dZ) (iH:mg "list" = none):dB P w K mg base (κ 1) "order" 1 1 NH (jA K 1 (jY κ)):=by refine R.Ga Te (λ_ _ _ _ _ _ us hl=>match us,hl with | [_],_=>rfl) (λ_ _ _ _ _ _ _ hr=>?_);have dM:=hr.units;have hu:=cY hr;exact⟨_,aV (cG (Fj Av (Aw U) U iH J5 (aG (cU aQ (aH (pv 0)) (by decide +kernel) U) aP)))⟩
theorem vY:bA ["stone", "many", "found", "box", "step"] ["stone"] (aL Zb):=by walk_at "fs"
theorem vp(R:Raw K mg "_law_own" Zb) (gC:mg "len" = none) (jP:mg "range" = none) (zY:mg "isinstance" = none) (aGK:mg "int" = none):sJ P w K mg base "_law_own" 1 1 (jA K 1 rO):=by
 refine R.zF vY (λ_ _ _ _ _ _ us hl=>match us,hl with | [_],_=>rfl) (λ_ _ _ _ _ _ _ hr=>?_);have dM:=hr.units;have hu:=cY hr;exact⟨_,aN (bL (i:=1) (lK (XN.r (iC gD (gF U) U gC F4 (aG (aH (pv 0)) aP))) (XN.r (uN (XN.r (iC gD (gF U) U gC F4 (aG (bQ (aH (pv 0)) (XN.r (aM)) (λ_ _=>rfl)) aP))) (XN.r (aM))))) (λh=>bH vY.nd U (by first | exact D7 U | exact D6 U) h))
  (aN (bL (i:=2) (yX jB) (λh=>bH vY.nd U (by first | exact D7 U | exact D6 U) h))
  (aN (bL (i:=3) (XR.n (bQ (bQ (bQ (aH (pv 0)) (XN.r (aM)) (λ_ _=>rfl)) (XN.r (aM)) (λ_ _=>rfl)) (XN.r (aM)) (λ_ _=>rfl))) (λh=>bH vY.nd U (by first | exact D7 U | exact D6 U) h))
  (aN (Mg AW U (Ay U jP (aG (XN.r (cB (aH (pv 1)) (XN.r (aM)))) aP)) (fW (i:=4) vY.nd U (by first | exact D7 U | exact D6 U)) (aN (jH (cT (or_eq dM U) vJ (aH (pv 3)) (XN.r (aM)) (dO _)) (aV (Yb (pv 2))) gW)
  (aN (jH (XW.xt (cg (Xw (aAt (XN.r (aGe (aH (pv 3)) (aCr (v:=.ty "int") U aGK PyProof.Rows.boot_int U) U zY)))) (cg (cT Mx qN (aH (pv 3)) (XN.r (aM)) (dO _)) (UW (cT aHE qN (aH (pv 3)) (aH (pv 1)) (dO _)))))) (aV (cG (wJ))) gW)
  (aN (VH (gG (pv 2)) (XR.n (aH (pv 3))) (λa b=>jJ (pF E6 J8 J9 kW a (cH b gU))))
  (aV (bL (i:=3) (XR.n (bQ (bQ (bQ (aH (pv 0)) (XN.r (bT (aH (pv 3)) (XN.r (iC gD (gF U) U gC F4 (aG (aH (pv 0)) aP))))) (λ_ _=>rfl)) (XN.r (mU (aH (pv 3)) (XN.r (iC gD (gF U) U gC F4 (aG (aH (pv 0)) aP))))) (λ_ _=>rfl)) (XN.r (aM)) (λ_ _=>rfl))) (λh=>bH vY.nd U (by first | exact D7 U | exact D6 U) h)))))))
  (aV (cG (wJ))))))⟩
theorem Kl:bA ["cell", "number"] ["cell"] (aL Ei):=by walk_at "fs"
theorem Zj(R:Raw K mg "_law_spread" Ei):sJ P w K mg base "_law_spread" 1 1 (jA K 1 lQ):=by
 refine R.zF Kl (λ_ _ _ _ _ _ us hl=>match us,hl with | [_],_=>rfl) (λ_ _ _ _ _ _ _ hr=>?_);have dM:=hr.units;have hu:=cY hr;exact⟨_,aN (bL (i:=1) (bT (XN.r (lK (XN.r (cB (XN.r (bT (aH (pv 0)) (XN.r (aM)))) (XN.r (aM)))) (XN.r (aM)))) (XN.r (aM))) (λh=>bH Kl.nd U (by first | exact D7 U | exact D6 U) h))
  (aV (cG (cB (XN.r (bT (XN.r (lK (aH (pv 1)) (aH (pv 1)))) (XN.r (aM)))) (XN.r (lK (XN.r (bT (aH (pv 0)) (XN.r (uO (XN.r (aM)) (XN.r (aM)))))) (XN.r (aM)))))))⟩
theorem mH:bA ["first", "events", "settled", "row", "kind", "number", "box", "ahead"] ["first", "events", "settled"] (aL zR):=by walk_at "fs"
theorem Tf(R:Raw K mg "_law_visible" zR):sJ P w K mg base "_law_visible" 1 3 (jA K 3 oF):=by
 refine R.zF mH (λ_ _ _ _ _ _ us hl=>match us,hl with | [_,_,_],_=>rfl) (λ_ _ _ _ _ _ _ hr=>?_);have dM:=hr.units;have hu:=cY hr;exact⟨_,aN (bL (i:=3) (cB (nT (aG (XN.r (aM)) aP)) (aH (pv 0))) (λh=>bH mH.nd U (by first | exact D7 U | exact D6 U) h))
  (aN (aDF (n:=4) [] [4,5,6,7] AW U (oM (aH (pv 1))) (RJ U (pZ (fW (i:=4) mH.nd U (by first | exact D7 U | exact D6 U)) (pZ (fW (i:=5) mH.nd U (by first | exact D7 U | exact D6 U)) (pZ (fW (i:=6) mH.nd U (by first | exact D7 U | exact D6 U)) (pZ (fW (i:=7) mH.nd U (by first | exact D7 U | exact D6 U)) (Wu)))))) (aV (jH (cT (aGz hu U) aGA (aH (pv 5)) (aH (pv 2)) (by with_unfolding_all rfl)) (aV (jH (cT (or_eq dM U) vJ (aH (pv 4)) (XN.r (UL)) (dO _)) (aN (jH (XW.xt (cg (cT (aEo U) (GQ NH) (aH (pv 6)) (aH (pv 3)) (by with_unfolding_all rfl)) (UW (cT (Oa U) (GQ NG) (aH (pv 7)) (aH (pv 3)) (by with_unfolding_all rfl))))) (aV (cG (wJ))) gW)
  (aV (aGs (gG (pv 3)) (XN.r (cB (XN.r (Pb (aH (pv 3)) (aH (pv 7)) (λa b=>pF E6 T3 T4 Pa a (cH b gU)))) (XN.r (aM)))) (aH (pv 6)) (λa b c=>jJ (pF E6 Y5 Y6 Vh a (cH b (cH c gU))))))) (aN (jH (cT (Oa U) (GQ NG) (aH (pv 6)) (aH (pv 3)) (by with_unfolding_all rfl)) (aV (cG (wJ))) gW)
  (aV (aGt (gG (pv 3)) (aH (pv 6)) (λa b=>jJ (pF E6 S8 S9 Ip a (cH b gU)))))))) gW)))
  (aV (cG (HN (aH (pv 3)) (Lz (XN.r (aM))) (cz)))))⟩
theorem Jf:bA ["self", "pane"] ["self", "pane"] (aL qT):=by walk_at "fs"
theorem Gx{κ:Nat→A7}(R:fM K (κ 0) "check_pane" "Bench.check_pane" qT NH) (aY:jC K (κ 0) iZ) (gC:mg "len" = none):dB P w K mg base (κ 0) "check_pane" 1 2 NH (jA K 2 (iQ κ)):=by refine R.Ga Jf (λ_ _ _ _ _ _ us hl=>match us,hl with | [_,_],_=>rfl) (λ_ _ _ _ _ _ _ hr=>?_);have dM:=hr.units;have hu:=cY hr;exact⟨_,aV (jH (Xw (Ou yx Mx qN qN (XN.r (aM)) (aH (pv 1)) (XN.r (iC gD (gF U) U gC F4 (aG (cU aY (aH (pv 0)) (by decide +kernel) U) aP))))) (aV (Yi)) gW)⟩
theorem Gy:bA ["self", "pane", "place"] ["self", "pane", "place"] (aL pN):=by walk_at "fs"
theorem El{κ:Nat→A7}(R:fM K (κ 0) "check_place" "Bench.check_place" pN NH) (aY:jC K (κ 0) iZ) (iT:dB P w K mg base (κ 0) "check_pane" 1 2 NH (jA K 2 (iQ κ))) (gC:mg "len" = none):dB P w K mg base (κ 0) "check_place" 2 3 NH (jA K 3 (gO κ)):=by
 refine R.Ga Gy (λ_ _ _ _ _ _ us hl=>match us,hl with | [_,_,_],_=>rfl) (λ_ _ _ _ _ _ _ hr=>?_);have dM:=hr.units;have hu:=cY hr;exact⟨_,aN (Bd (XN.r (fK iT aY (hr.mono (by decide)) (aH (pv 0)) (aG (aH (pv 1)) aP))))
  (aV (jH (Xw (Ou yx Mx qN qN (XN.r (aM)) (aH (pv 2)) (XN.r (iC gD (gF U) U gC F4 (aG (bQ (cU aY (aH (pv 0)) (by decide +kernel) U) (aH (pv 1)) (λ_ _=>rfl)) aP))))) (aV (Yi)) gW))⟩
theorem OD:bA ["self", "pane", "place"] ["self", "pane", "place"] (aL Ej):=by walk_at "fs"
theorem Zk{κ:Nat→A7}(R:fM K (κ 0) "seen" "Bench.seen" Ej NH) (aY:jC K (κ 0) iZ) (gP:dB P w K mg base (κ 0) "check_place" 2 3 NH (jA K 3 (gO κ))) (Jg:iD mg "THING" (2)):dB P w K mg base (κ 0) "seen" 3 3 NH (jA K 3 (tD κ)):=by
 refine R.Ga OD (λ_ _ _ _ _ _ us hl=>match us,hl with | [_,_,_],_=>rfl) (λ_ _ _ _ _ _ _ hr=>?_);have dM:=hr.units;have hu:=cY hr;exact⟨_,aN (Bd (XN.r (fK gP aY (hr.mono (by decide)) (aH (pv 0)) (aG (aH (pv 1)) (aG (aH (pv 2)) aP)))))
  (aN (jH (iw hu (Ov (aG (aH (pv 1)) (aG (aH (pv 2)) aP))) (cU aY (aH (pv 0)) (by decide +kernel) U)) (aV (cG (XR.n (bQ (bQ (cU aY (aH (pv 0)) (by decide +kernel) U) (XN.r (JP hu (cU aY (aH (pv 0)) (by decide +kernel) U) (Ov (aG (aH (pv 1)) (aG (aH (pv 2)) aP))) (λ_ _=>rfl))) (λ_ _=>rfl)) (XN.r (nZ Jg U)) (λ_ _=>rfl))))) gW)
  (aV (cG (XR.n (bQ (bQ (cU aY (aH (pv 0)) (by decide +kernel) U) (aH (pv 1)) (λ_ _=>rfl)) (aH (pv 2)) (λ_ _=>rfl))))))⟩
theorem vZ:bA ["self", "box", "spot"] ["self", "box"] (aL qU):=by walk_at "fs"
theorem Gz{κ:Nat→A7}(R:fM K (κ 1) "record_of" "Weaver.record_of" qU NH) (aQ:jC K (κ 1) dZ) (aY:jC K (κ 0) iZ) (Em:dB P w K mg base (κ 0) "seen" 3 3 NH (jA K 3 (tD κ))):dB P w K mg base (κ 1) "record_of" 4 2 NH (jA K 2 (bM κ)):=by
 refine R.Ga vZ (λ_ _ _ _ _ _ us hl=>match us,hl with | [_,_],_=>rfl) (λ_ _ _ _ _ _ _ hr=>?_);have dM:=hr.units;have hu:=cY hr;exact⟨_,aN (bL (i:=2) (XR.n (bQ (cU aQ (aH (pv 0)) (by decide +kernel) U) (aH (pv 1)) (λ_ _=>rfl))) (λh=>bH vZ.nd U (by first | exact D7 U | exact D6 U) h))
  (aV (cG (fK Em aY (hr.mono (by decide)) (cU aQ (aH (pv 0)) (by decide +kernel) U) (aG (bQ (aH (pv 2)) (XN.r (aM)) (λ_ _=>rfl)) (aG (bQ (aH (pv 2)) (XN.r (aM)) (λ_ _=>rfl)) aP)))))⟩
theorem En:bA ["self", "number"] ["self", "number"] (aL oY):=by walk_at "fs"
theorem Ce{κ:Nat→A7}(R:fM K (κ 0) "check_change" "Bench.check_change" oY NH) (aY:jC K (κ 0) iZ) (gC:mg "len" = none):dB P w K mg base (κ 0) "check_change" 1 2 NH (jA K 2 (fZ κ)):=by refine R.Ga En (λ_ _ _ _ _ _ us hl=>match us,hl with | [_,_],_=>rfl) (λ_ _ _ _ _ _ _ hr=>?_);have dM:=hr.units;have hu:=cY hr;exact⟨_,aV (jH (Xw (Ou yx Mx qN qN (XN.r (aM)) (aH (pv 1)) (XN.r (iC gD (gF U) U gC F4 (aG (cU aY (aH (pv 0)) (by decide +kernel) U) aP))))) (aV (Yi)) gW)⟩
theorem xM:bA ["self", "pane", "place", "thing", "needs", "needed", "need", "number"] ["self", "pane", "place", "thing", "needs"] (aL Jd):=by walk_at "fs"
theorem OJ{κ:Nat→A7}(R:fM K (κ 0) "put" "Bench.put" Jd NG) (aY:jC K (κ 0) iZ) (gP:dB P w K mg base (κ 0) "check_place" 2 3 NH (jA K 3 (gO κ))) (gA:dB P w K mg base (κ 0) "check_change" 1 2 NH (jA K 2 (fZ κ))) (iH:mg "list" = none) (gC:mg "len" = none) (rT:mg "sorted" = none) (aGL:mg "set" = none) (XS:mg "tuple" = none):dB P w K mg base (κ 0) "put" 3 5 NG (spS K 5 (Bm κ)):=by
 refine R.Yj xM (λT _ _ _ _ _ _ us=>⟨λhl=>match us,hl with | [_,_,_,_,_],_=>⟨_,U,U⟩,λhl=>match us,hl with | [_,_,_,_],_=>⟨_,U,U⟩⟩) (λ_ _ _ _ _ _ _ hr=>?_);have dM:=hr.units;have hu:=cY hr;exact⟨_,aN (Bd (XN.r (fK gP aY (hr.mono (by decide)) (aH (pv 0)) (aG (aH (pv 1)) (aG (aH (pv 2)) aP)))))
  (aN (bL (i:=5) (aEt (cT RN WM (aH (pv 4)) (XN.r (wJ)) (dO _)) (yX jB) (Fj Av (Aw U) U iH J5 (aG (aH (pv 4)) aP))) (λh=>bH xM.nd U (by first | exact D7 U | exact D6 U) h))
  (aN (Yk AW U (pv 5) (fW (i:=6) xM.nd U (by first | exact D7 U | exact D6 U)) (aV (Bd (XN.r (fK gA aY (hr.mono (by decide)) (aH (pv 0)) (aG (aH (pv 6)) aP))))))
  (aN (jH (iw hu (Ov (aG (aH (pv 1)) (aG (aH (pv 2)) aP))) (cU aY (aH (pv 0)) (by decide +kernel) U)) (aV (VH (gG (pv 5)) (JP hu (cU aY (aH (pv 0)) (by decide +kernel) U) (Ov (aG (aH (pv 1)) (aG (aH (pv 2)) aP))) (λ_ _=>rfl)) (λa b=>jJ (pF E6 J8 J9 kW a (cH b gU))))) gW)
  (aN (bL (i:=7) (iC gD (gF U) U gC F4 (aG (cU aY (aH (pv 0)) (by decide +kernel) U) aP)) (λh=>bH xM.nd U (by first | exact D7 U | exact D6 U) h))
  (aN (Mi (mV aY (gG (pv 0)) (by decide +kernel) U) (qO (bI (XR.n (aH (pv 1))) (bI (XR.n (aH (pv 2))) (bI (XR.n (aH (pv 3))) (bI (Fj aAA (aAB U) U XS PyProof.Rows.boot_tuple (aG (XN.r (aDp (aH (pv 5)) U rT T0 U aGL PyProof.Rows.boot_set)) aP)) jB))))) (λa b=>jJ (pF E6 J8 J9 kW a (cH b gU))))
  (aN (aA7 (mV aY (gG (pv 0)) (by decide +kernel) U) (Ov (aG (aH (pv 1)) (aG (aH (pv 2)) aP))) (aH (pv 7)) (λa b c=>tX hu a b c U))
  (aN (Mi (HR (mV aY (gG (pv 0)) (by decide +kernel) U) (aH (pv 1)) (λ_ _=>rfl)) (XR.n (aH (pv 7))) (λa b=>jJ (pF E6 J8 J9 kW a (cH b gU))))
  (aV (Fz (pv 7))))))))))⟩
theorem aDR:bA ["numbers"] ["numbers"] (aL Zc):=by walk_at "fs"
theorem aBD(R:Raw K mg "known" Zc):sJ P w K mg base "known" 1 1 (jA K 1 Zd):=by refine R.zF aDR (λ_ _ _ _ _ _ us hl=>match us,hl with | [_],_=>rfl) (λ_ _ _ _ _ _ _ hr=>?_);have dM:=hr.units;have hu:=cY hr;exact⟨_,aV (cG (oR ["number"] [] U (.at (aL Zc) ["numbers"] (by decide +kernel)) (oM (aH (pv 0))) (lW (by decide +kernel) U U) (λ_ _ _ _ _=>Ma (cT aj Vf (aH (pv 0)) (XN.r (wJ)) (dO _))) (λ_ _ _ _ _=>XR.n (aH (pv 0)))))⟩
theorem uX:bA ["self", "box", "record", "needed", "spot", "number"] ["self", "box", "record", "needed"] (aL wZ):=by walk_at "fs"
theorem Qp{κ:Nat→A7}(R:fM K (κ 1) "write" "Weaver.write" wZ NH) (aQ:jC K (κ 1) dZ) (aY:jC K (κ 0) iZ) (Jh:dB P w K mg base (κ 0) "put" 3 5 NG (spS K 5 (Bm κ))) (XX:sJ P w K mg base "known" 1 1 (jA K 1 Zd)):dB P w K mg base (κ 1) "write" 4 4 NH (spS K 4 (mD κ)):=by
 refine R.Yj uX (λ_ _ _ _ _ _ us hl=>match us,hl with | [_,_,_,_],_=>rfl) (λ_ _ _ _ _ _ _ hr=>?_);have dM:=hr.units;have hu:=cY hr;exact⟨_,aN (bL (i:=4) (XR.n (bQ (cU aQ (aH (pv 0)) (by decide +kernel) U) (aH (pv 1)) (λ_ _=>rfl))) (λh=>bH uX.nd U (by first | exact D7 U | exact D6 U) h))
  (aN (Bc (i:=5) (rN Jh aY eX (hr.mono (by decide)) (mV aQ (gG (pv 0)) (by decide +kernel) U) (iG (bQ (aH (pv 4)) (XN.r (aM)) (λ_ _=>rfl)) (iG (bQ (aH (pv 4)) (XN.r (aM)) (λ_ _=>rfl)) (iG (aH (pv 2)) (iG (XN.r (dH XX (hr.mono (by decide)) U (aG (aH (pv 3)) aP))) lY))))) (λh=>bH uX.nd U (by first | exact D7 U | exact D6 U) h))
  (aN (Gb (mV aQ (gG (pv 0)) (by decide +kernel) U) (aH (pv 1)) (aH (pv 5)) (λa b c=>tX hu a b c U))
  (aV (Fz (pv 5)))))⟩
theorem Ji:bA ["self", "box"] ["self", "box"] (aL qW):=by walk_at "fs"
theorem Hf{κ:Nat→A7}(R:fM K (κ 1) "coming_in" "Weaver.coming_in" qW NH) (aQ:jC K (κ 1) dZ):dB P w K mg base (κ 1) "coming_in" 1 2 NH (jA K 2 (nQ κ)):=by refine R.Ga Ji (λ_ _ _ _ _ _ us hl=>match us,hl with | [_,_],_=>rfl) (λ_ _ _ _ _ _ _ hr=>?_);have dM:=hr.units;have hu:=cY hr;exact⟨_,aV (cG (Ph hu (cU aQ (aH (pv 0)) (by decide +kernel) U) (aH (pv 1)) ⟨U,U,U,U⟩))⟩
theorem Hg:bA ["self", "box", "record", "needed"] ["self", "box", "record", "needed"] (aL pO):=by walk_at "fs"
theorem Eo{κ:Nat→A7}(R:fM K (κ 1) "write_tied" "Weaver.write_tied" pO NH) (aQ:jC K (κ 1) dZ) (mJ:dB P w K mg base (κ 1) "write" 4 4 NH (spS K 4 (mD κ))) (qZ:dB P w K mg base (κ 1) "coming_in" 1 2 NH (jA K 2 (nQ κ))):dB P w K mg base (κ 1) "write_tied" 5 4 NH (spS K 4 (eY κ)):=by refine R.Yj Hg (λ_ _ _ _ _ _ us hl=>match us,hl with | [_,_,_,_],_=>rfl) (λ_ _ _ _ _ _ _ hr=>?_);have dM:=hr.units;have hu:=cY hr;exact⟨_,aV (Mh (rN mJ aQ eX (hr.mono (by decide)) (gG (pv 0)) (iG (aH (pv 1)) (iG (aH (pv 2)) (JC (cB (nT (aG (XN.r (fK qZ aQ (hr.mono (by decide)) (aH (pv 0)) (aG (aH (pv 1)) aP))) aP)) (aH (pv 3))) lY)))))⟩
theorem lU:bA ["self", "needs", "further", "need"] ["self", "needs"] (aL mX):=by walk_at "fs"
theorem yK{κ:Nat→A7}(R:fM K (κ 1) "further_needs" "Weaver.further_needs" mX NH) (aY:jC K (κ 0) iZ) (aQ:jC K (κ 1) dZ) (gA:dB P w K mg base (κ 0) "check_change" 1 2 NH (jA K 2 (fZ κ))) (iH:mg "list" = none):dB P w K mg base (κ 1) "further_needs" 2 2 NH (jA K 2 (bY κ)):=by
 refine R.Ga lU (λ_ _ _ _ _ _ us hl=>match us,hl with | [_,_],_=>rfl) (λ_ _ _ _ _ _ _ hr=>?_);have dM:=hr.units;have hu:=cY hr;exact⟨_,aN (bL (i:=2) (aEt (cT RN WM (aH (pv 1)) (XN.r (wJ)) (dO _)) (yX jB) (Fj Av (Aw U) U iH J5 (aG (aH (pv 1)) aP))) (λh=>bH lU.nd U (by first | exact D7 U | exact D6 U) h))
  (aN (Yk AW U (pv 2) (fW (i:=3) lU.nd U (by first | exact D7 U | exact D6 U)) (aV (Bd (XN.r (fK gA aY (hr.mono (by decide)) (cU aQ (aH (pv 0)) (by decide +kernel) U) (aG (aH (pv 3)) aP))))))
  (aV (Yb (pv 2))))⟩
theorem xZ:bA ["self", "box", "was", "now", "age", "needs", "record"] ["self", "box", "was", "now", "age", "needs"] (aL tE):=by walk_at "fs"
theorem Jj{κ:Nat→A7}(R:fM K (κ 1) "rewrite" "Weaver.rewrite" tE NG) (aQ:jC K (κ 1) dZ) (bK:dB P w K mg base (κ 1) "record_of" 4 2 NH (jA K 2 (bM κ))) (gQ:dB P w K mg base (κ 1) "write_tied" 5 4 NH (spS K 4 (eY κ))) (bZ:dB P w K mg base (κ 1) "further_needs" 2 2 NH (jA K 2 (bY κ))) (Zm:iD mg "KEY" (0)) (vX:iD mg "NEXT" (1)):dB P w K mg base (κ 1) "rewrite" 6 6 NG (spS K 6 (oZ κ)):=by
 refine R.Yj xZ (λT _ _ _ _ _ _ us=>⟨λhl=>match us,hl with | [_,_,_,_,_,_],_=>⟨_,U,U⟩,λhl=>match us,hl with | [_,_,_,_,_],_=>⟨_,U,U⟩⟩) (λ_ _ _ _ _ _ _ hr=>?_);have dM:=hr.units;have hu:=cY hr;exact⟨_,aN (bL (i:=6) (fK bK aQ (hr.mono (by decide)) (aH (pv 0)) (aG (aH (pv 1)) aP)) (λh=>bH xZ.nd U (by first | exact D7 U | exact D6 U) h))
  (aV (Mh (rN gQ aQ eX (hr.mono (by decide)) (gG (pv 0)) (iG (aH (pv 1)) (iG (XN.r (qO (bI (XR.n (bQ (aH (pv 6)) (XN.r (nZ Zm U)) (λ_ _=>rfl))) (bI (XR.n (bQ (aH (pv 6)) (XN.r (nZ vX U)) (λ_ _=>rfl))) (bI (XR.n (aH (pv 2))) (bI (XR.n (aH (pv 3))) (bI (XR.n (aH (pv 4))) jB))))))) (JC (fK bZ aQ (hr.mono (by decide)) (aH (pv 0)) (aG (aH (pv 5)) aP)) lY))))))⟩
theorem Jk:bA ["self", "place"] ["self", "place"] (aL qX):=by walk_at "fs"
theorem Hh{κ:Nat→A7}(R:fM K (κ 1) "box_ahead" "Weaver.box_ahead" qX NH) (aQ:jC K (κ 1) dZ) (Cy:iD mg "HEAD" (0)):dB P w K mg base (κ 1) "box_ahead" 1 2 NH (jA K 2 (iR κ)):=by refine R.Ga Jk (λ_ _ _ _ _ _ us hl=>match us,hl with | [_,_],_=>rfl) (λ_ _ _ _ _ _ _ hr=>?_);have dM:=hr.units;have hu:=cY hr;exact⟨_,aV (cG (XR.n (bQ (XN.r (cB (nT (aG (XN.r (nZ Cy U)) aP)) (cU aQ (aH (pv 0)) (by decide +kernel) U))) (aH (pv 1)) (λ_ _=>rfl))))⟩
theorem Hi:bA ["self", "box", "following", "needed", "record"] ["self", "box", "following", "needed"] (aL zU):=by walk_at "fs"
theorem Tg{κ:Nat→A7}(R:fM K (κ 1) "link" "Weaver.link" zU NH) (aQ:jC K (κ 1) dZ) (bK:dB P w K mg base (κ 1) "record_of" 4 2 NH (jA K 2 (bM κ))) (gQ:dB P w K mg base (κ 1) "write_tied" 5 4 NH (spS K 4 (eY κ))) (Zm:iD mg "KEY" (0)) (aGM:iD mg "WAS" (2)) (aGN:iD mg "NOW" (3)) (aGO:iD mg "AGE" (4)):dB P w K mg base (κ 1) "link" 6 4 NH (spS K 4 (lR κ)):=by
 refine R.Yj Hi (λ_ _ _ _ _ _ us hl=>match us,hl with | [_,_,_,_],_=>rfl) (λ_ _ _ _ _ _ _ hr=>?_);have dM:=hr.units;have hu:=cY hr;exact⟨_,aN (bL (i:=4) (fK bK aQ (hr.mono (by decide)) (aH (pv 0)) (aG (aH (pv 1)) aP)) (λh=>bH Hi.nd U (by first | exact D7 U | exact D6 U) h))
  (aV (Mh (rN gQ aQ eX (hr.mono (by decide)) (gG (pv 0)) (iG (aH (pv 1)) (iG (XN.r (qO (bI (XR.n (bQ (aH (pv 4)) (XN.r (nZ Zm U)) (λ_ _=>rfl))) (bI (XR.n (aH (pv 2))) (bI (XR.n (bQ (aH (pv 4)) (XN.r (nZ aGM U)) (λ_ _=>rfl))) (bI (XR.n (bQ (aH (pv 4)) (XN.r (nZ aGN U)) (λ_ _=>rfl))) (bI (XR.n (bQ (aH (pv 4)) (XN.r (nZ aGO U)) (λ_ _=>rfl))) jB))))))) (iG (aH (pv 3)) lY))))))⟩
theorem Ep:bA ["self", "box"] ["self", "box"] (aL pA):=by walk_at "fs"
theorem Cg{κ:Nat→A7}(R:fM K (κ 1) "last_change" "Weaver.last_change" pA NH) (aQ:jC K (κ 1) dZ):dB P w K mg base (κ 1) "last_change" 1 2 NH (jA K 2 (lF κ)):=by refine R.Ga Ep (λ_ _ _ _ _ _ us hl=>match us,hl with | [_,_],_=>rfl) (λ_ _ _ _ _ _ _ hr=>?_);have dM:=hr.units;have hu:=cY hr;exact⟨_,aV (cG (Ph hu (cU aQ (aH (pv 0)) (by decide +kernel) U) (aH (pv 1)) ⟨U,U,U,U⟩))⟩
theorem pX:bA ["self", "box", "needs", "ahead", "needed", "going"] ["self", "box", "needs"] (aL xF):=by walk_at "fs"
theorem Qq{κ:Nat→A7}(R:fM K (κ 1) "leave" "Weaver.leave" xF NG) (aQ:jC K (κ 1) dZ) (iU:dB P w K mg base (κ 1) "box_ahead" 1 2 NH (jA K 2 (iR κ))) (pC:dB P w K mg base (κ 1) "last_change" 1 2 NH (jA K 2 (lF κ))) (bZ:dB P w K mg base (κ 1) "further_needs" 2 2 NH (jA K 2 (bY κ))) (oH:dB P w K mg base (κ 1) "link" 6 4 NH (spS K 4 (lR κ))) (bK:dB P w K mg base (κ 1) "record_of" 4 2 NH (jA K 2 (bM κ))) (vX:iD mg "NEXT" (1)):dB P w K mg base (κ 1) "leave" 7 3 NG (spS K 3 (mF κ)):=by
 refine R.Yj pX (λT _ _ _ _ _ _ us=>⟨λhl=>match us,hl with | [_,_,_],_=>⟨_,U,U⟩,λhl=>match us,hl with | [_,_],_=>⟨_,U,U⟩⟩) (λ_ _ _ _ _ _ _ hr=>?_);have dM:=hr.units;have hu:=cY hr;exact⟨_,aN (bL (i:=3) (fK iU aQ (hr.mono (by decide)) (aH (pv 0)) (aG (XN.r (Pb (cU aQ (aH (pv 0)) (by decide +kernel) U) (aH (pv 1)) (λa b=>pF E6 T3 T4 Pa a (cH b gU)))) aP)) (λh=>bH pX.nd U (by first | exact D7 U | exact D6 U) h))
  (aN (bL (i:=4) (cB (nT (aG (XN.r (fK pC aQ (hr.mono (by decide)) (aH (pv 0)) (aG (aH (pv 1)) aP))) aP)) (XN.r (fK bZ aQ (hr.mono (by decide)) (aH (pv 0)) (aG (aH (pv 2)) aP)))) (λh=>bH pX.nd U (by first | exact D7 U | exact D6 U) h))
  (aN (Bc (i:=5) (rN oH aQ eX (hr.mono (by decide)) (gG (pv 0)) (iG (aH (pv 3)) (JC (XR.n (bQ (XN.r (fK bK aQ (hr.mono (by decide)) (aH (pv 0)) (aG (aH (pv 1)) aP))) (XN.r (nZ vX U)) (λ_ _=>rfl))) (iG (aH (pv 4)) lY)))) (λh=>bH pX.nd U (by first | exact D7 U | exact D6 U) h))
  (aN (jc (mV aQ (gG (pv 0)) (by decide +kernel) U) (aH (pv 1)) (λa b=>jJ (pF E6 S8 S9 Ip a (cH b gU))))
  (aN (Mi (mV aQ (gG (pv 0)) (by decide +kernel) U) (XR.n (aH (pv 1))) (λa b=>jJ (pF E6 J8 J9 kW a (cH b gU))))
  (aN (Gb (mV aQ (gG (pv 0)) (by decide +kernel) U) (aH (pv 1)) (aH (pv 5)) (λa b c=>tX hu a b c U))
  (aV (Fz (pv 5))))))))⟩
theorem Zo:bA ["self"] ["self"] (aL zV):=by walk_at "fs"
theorem Th{κ:Nat→A7}(R:fM K (κ 1) "free" "Weaver.free" zV NH) (aQ:jC K (κ 1) dZ) (rT:mg "sorted" = none):dB P w K mg base (κ 1) "free" 1 1 NH (jA K 1 (uH κ)):=by refine R.Ga Zo (λ_ _ _ _ _ _ us hl=>match us,hl with | [_],_=>rfl) (λ_ _ _ _ _ _ _ hr=>?_);have dM:=hr.units;have hu:=cY hr;exact⟨_,aV (cG (iC Uw (Ux U) U rT T0 (aG (cU aQ (aH (pv 0)) (by decide +kernel) U) aP)))⟩
theorem aBE:bA ["keys", "at", "cell"] ["keys", "at", "cell"] (aL Ze):=by walk_at "fs"
theorem vq(R:Raw K mg "_law_key" Ze) (gC:mg "len" = none):sJ P w K mg base "_law_key" 1 3 (jA K 3 Gr):=by
 refine R.zF aBE (λ_ _ _ _ _ _ us hl=>match us,hl with | [_,_,_],_=>rfl) (λ_ _ _ _ _ _ _ hr=>?_);have dM:=hr.units;have hu:=cY hr;exact⟨_,aN (jH (cT (or_eq dM U) vJ (aH (pv 0)) (nT aP) (dO _)) (aV (cG (bT (aH (pv 2)) (XN.r (uO (XN.r (aM)) (XN.r (aM))))))) gW)
  (aN (jH (cT (or_eq dM U) vJ (aH (pv 1)) (XN.r (aM)) (dO _)) (aV (cG (uN (XN.r (uN (bQ (aH (pv 0)) (XN.r (aM)) (λ_ _=>rfl)) (XN.r (aM)))) (XN.r (bT (aH (pv 2)) (XN.r (uO (XN.r (aM)) (XN.r (aM))))))))) gW)
  (aN (jH (XW.xt (Xv (cT Mx qN (aH (pv 1)) (XN.r (iC gD (gF U) U gC F4 (aG (aH (pv 0)) aP))) (dO _)) (Ly (cT aHD qN (XN.r (uN (bQ (aH (pv 0)) (aH (pv 1)) (λ_ _=>rfl)) (bQ (aH (pv 0)) (XN.r (uN (aH (pv 1)) (XN.r (aM)))) (λ_ _=>rfl)))) (XN.r (aM)) (dO _))))) (aV (cG (cB (XN.r (cB (bQ (aH (pv 0)) (XN.r (uN (aH (pv 1)) (XN.r (aM)))) (λ_ _=>rfl)) (XN.r (aM)))) (XN.r (bT (aH (pv 2)) (XN.r (uN (XN.r (uN (bQ (aH (pv 0)) (aH (pv 1)) (λ_ _=>rfl)) (bQ (aH (pv 0)) (XN.r (uN (aH (pv 1)) (XN.r (aM)))) (λ_ _=>rfl)))) (XN.r (aM))))))))) gW)
  (aV (cG (cB (XN.r (cB (bQ (aH (pv 0)) (XN.r (wO (XN.r (aM)))) (λ_ _=>rfl)) (XN.r (aM)))) (XN.r (bT (aH (pv 2)) (XN.r (uO (XN.r (aM)) (XN.r (aM)))))))))))⟩
theorem Jl:bA ["self", "box"] ["self", "box"] (aL qY):=by walk_at "fs"
theorem Hj{κ:Nat→A7}(R:fM K (κ 1) "going_out" "Weaver.going_out" qY NH) (aQ:jC K (κ 1) dZ):dB P w K mg base (κ 1) "going_out" 1 2 NH (jA K 2 (nR κ)):=by refine R.Ga Jl (λ_ _ _ _ _ _ us hl=>match us,hl with | [_,_],_=>rfl) (λ_ _ _ _ _ _ _ hr=>?_);have dM:=hr.units;have hu:=cY hr;exact⟨_,aV (cG (Ph hu (cU aQ (aH (pv 0)) (by decide +kernel) U) (aH (pv 1)) ⟨U,U,U,U⟩))⟩
theorem jD:bA ["self", "key", "was", "now", "age", "needs", "further", "place", "ahead", "box", "filled", "coming"] ["self", "key", "was", "now", "age", "needs"] (aL rP):=by walk_at "fs"
theorem Qt{κ:Nat→A7}(R:fM K (κ 1) "enter" "Weaver.enter" rP NG) (aQ:jC K (κ 1) dZ) (bZ:dB P w K mg base (κ 1) "further_needs" 2 2 NH (jA K 2 (bY κ))) (bK:dB P w K mg base (κ 1) "record_of" 4 2 NH (jA K 2 (bM κ))) (iU:dB P w K mg base (κ 1) "box_ahead" 1 2 NH (jA K 2 (iR κ))) (mJ:dB P w K mg base (κ 1) "write" 4 4 NH (spS K 4 (mD κ))) (rA:dB P w K mg base (κ 1) "going_out" 1 2 NH (jA K 2 (nR κ))) (oH:dB P w K mg base (κ 1) "link" 6 4 NH (spS K 4 (lR κ))) (gC:mg "len" = none) (aGP:mg "min" = none) (Zm:iD mg "KEY" (0)) (vX:iD mg "NEXT" (1)):dB P w K mg base (κ 1) "enter" 7 6 NG (spS K 6 (rQ κ)):=by
 refine R.Yj jD (λT _ _ _ _ _ _ us=>⟨λhl=>match us,hl with | [_,_,_,_,_,_],_=>⟨_,U,U⟩,λhl=>match us,hl with | [_,_,_,_,_],_=>⟨_,U,U⟩⟩) (λ_ _ _ _ _ _ _ hr=>?_);have dM:=hr.units;have hu:=cY hr;exact⟨_,aN (jH (cT (or_eq dM U) vJ (XN.r (iC gD (gF U) U gC F4 (aG (cU aQ (aH (pv 0)) (by decide +kernel) U) aP))) (XN.r (aM)) (dO _)) (aV (Yi)) gW)
  (aN (bL (i:=6) (fK bZ aQ (hr.mono (by decide)) (aH (pv 0)) (aG (aH (pv 5)) aP)) (λh=>bH jD.nd U (by first | exact D7 U | exact D6 U) h))
  (aN (bL (i:=7) (iC gD (gF U) U gC F4 (aG (XN.r (oR ["box", "self", "key"] [0,1] U (.at (aL rP) ["self", "key", "was", "now", "age", "needs", "further", "place", "ahead", "box", "filled", "coming"] (by decide +kernel)) (oM (cU aQ (aH (pv 0)) (by decide +kernel) U)) (lW (by decide +kernel) U U) (λ_ _ _ _ _=>Ma (cT Mx qN (bQ (XN.r (fK bK aQ (hr.mono (by decide)) (aH (pv 1)) (aG (aH (pv 0)) aP))) (XN.r (nZ Zm U)) (λ_ _=>rfl)) (aH (pv 2)) (dO _))) (λ_ _ _ _ _=>XR.n (aH (pv 0))))) aP)) (λh=>bH jD.nd U (by first | exact D7 U | exact D6 U) h))
  (aN (bL (i:=8) (fK iU aQ (hr.mono (by decide)) (aH (pv 0)) (aG (aH (pv 7)) aP)) (λh=>bH jD.nd U (by first | exact D7 U | exact D6 U) h))
  (aN (bL (i:=9) (iC aDa (aDb U) U aGP PyProof.Rows.boot_min (aG (cU aQ (aH (pv 0)) (by decide +kernel) U) aP)) (λh=>bH jD.nd U (by first | exact D7 U | exact D6 U) h))
  (aN (Bc (i:=10) (rN mJ aQ eX (hr.mono (by decide)) (gG (pv 0)) (iG (aH (pv 9)) (JC (qO (bI (XR.n (aH (pv 1))) (bI (XR.n (bQ (XN.r (fK bK aQ (hr.mono (by decide)) (aH (pv 0)) (aG (aH (pv 8)) aP))) (XN.r (nZ vX U)) (λ_ _=>rfl))) (bI (XR.n (aH (pv 2))) (bI (XR.n (aH (pv 3))) (bI (XR.n (aH (pv 4))) jB)))))) (JC (yX (bI (fK rA aQ (hr.mono (by decide)) (aH (pv 0)) (aG (aH (pv 9)) aP)) jB)) lY)))) (λh=>bH jD.nd U (by first | exact D7 U | exact D6 U) h))
  (aN (Bc (i:=11) (rN oH aQ eX (hr.mono (by decide)) (gG (pv 0)) (iG (aH (pv 8)) (iG (aH (pv 9)) (iG (XN.r (cB (nT (aG (aH (pv 10)) aP)) (aH (pv 6)))) lY)))) (λh=>bH jD.nd U (by first | exact D7 U | exact D6 U) h))
  (aN (aDC (mV aQ (gG (pv 0)) (by decide +kernel) U) (aH (pv 7)) (aH (pv 9)) (λa b c=>jJ (pF E6 Y5 Y6 Vh a (cH b (cH c gU)))))
  (aN (jc (mV aQ (gG (pv 0)) (by decide +kernel) U) (aH (pv 9)) (λa b=>jJ (pF E6 S8 S9 Ip a (cH b gU))))
  (aN (Gb (mV aQ (gG (pv 0)) (by decide +kernel) U) (aH (pv 9)) (aH (pv 11)) (λa b c=>tX hu a b c U))
  (aV (Mh (aDy (qO (bI (XR.n (aH (pv 9))) (bI (XR.n (aH (pv 11))) jB)))))))))))))))⟩
theorem lB:bA ["weaver", "events", "cell", "order", "rest", "at", "keys", "key", "box", "number"] ["weaver", "events", "cell"] (aL Gu):=by walk_at "fs"
theorem YC{κ:Nat→A7}(R:Raw K mg "_law_done" Gu) (aQ:jC K (κ 1) dZ) (jZ:dB P w K mg base (κ 1) "order" 1 1 NH (jA K 1 (jY κ))) (xN:dB P w K mg base (κ 1) "leave" 7 3 NG (spS K 3 (mF κ))) (tH:dB P w K mg base (κ 1) "rewrite" 6 6 NG (spS K 6 (oZ κ))) (zZ:dB P w K mg base (κ 1) "free" 1 1 NH (jA K 1 (uH κ))) (bK:dB P w K mg base (κ 1) "record_of" 4 2 NH (jA K 2 (bM κ))) (Zq:sJ P w K mg base "_law_key" 1 3 (jA K 3 Gr)) (xO:dB P w K mg base (κ 1) "enter" 7 6 NG (spS K 6 (rQ κ))) (gC:mg "len" = none) (rT:mg "sorted" = none):sJ P w K mg base "_law_done" 8 3 (spG K [NG,NG,NH] (zW κ)):=by
 refine R.aJL (mask:=[NG,NG,NH]) lB (λ_ _ _ _ _ _ us hl=>match us,hl with | [_,_,_],_=>rfl) U (λ_ _ _ _ _ _ _ hr=>?_);have dM:=hr.units;have hu:=cY hr;exact⟨_,aN (bL (i:=3) (vN jZ aQ (hr.mono (by decide)) (aH (pv 0))) (λh=>bH lB.nd U (by first | exact D7 U | exact D6 U) h))
  (aN (bL (i:=4) (mU (aH (pv 2)) (XN.r (aM))) (λh=>bH lB.nd U (by first | exact D7 U | exact D6 U) h))
  (aV (jH (XW.xt (Xv (cT (or_eq dM U) vJ (XN.r (bT (aH (pv 2)) (XN.r (aM)))) (XN.r (aM)) (dO _)) (Ly (cT (Us dM U) Ur (aH (pv 3)) (nT aP) (dO _))))) (aN (bL (i:=5) (bT (aH (pv 4)) (XN.r (iC gD (gF U) U gC F4 (aG (aH (pv 3)) aP)))) (λh=>bH lB.nd U (by first | exact D7 U | exact D6 U) h))
  (aV (aBh (pv 1) (UL) (Fx xN aQ eX (hr.mono (by decide)) (gG (pv 0)) (iG (bQ (aH (pv 3)) (aH (pv 5)) (λ_ _=>rfl)) lY)) (bI (XR.n (bQ (aH (pv 3)) (aH (pv 5)) (λ_ _=>rfl))) (bI aM jB)) (λa b=>jJ (pF E6 J8 J9 kW a (cH b gU)))))) (aV (jH (XW.xt (Xv (cT (or_eq dM U) vJ (XN.r (bT (aH (pv 2)) (XN.r (aM)))) (XN.r (aM)) (dO _)) (Ly (cT (Us dM U) Ur (aH (pv 3)) (nT aP) (dO _))))) (aV (Ot (Fx tH aQ eX (hr.mono (by decide)) (gG (pv 0)) (iG (bQ (aH (pv 3)) (XN.r (bT (aH (pv 4)) (XN.r (iC gD (gF U) U gC F4 (aG (aH (pv 3)) aP))))) (λ_ _=>rfl)) (iG (XN.r (wO (XN.r (aM)))) (iG (XN.r (bT (aH (pv 4)) (XN.r (uO (XN.r (aM)) (XN.r (aM)))))) (iG (XN.r (aM)) lY))))))) (aV (jH (cT (Us dM U) Ur (XN.r (vN zZ aQ (hr.mono (by decide)) (aH (pv 0)))) (nT aP) (dO _)) (aN (dz (i:=6) ["box", "weaver"] [0] U (.at (aL Gu) ["weaver", "events", "cell", "order", "rest", "at", "keys", "key", "box", "number"] (by decide +kernel)) lB.nd U (by first | exact D7 U | exact D6 U) (oM (aH (pv 3))) (lW (by decide +kernel) U U) (λ_ _ _ _ _=>rK) (λ_ _ _ _ _=>XR.n (bQ (XN.r (fK bK aQ (hr.mono (by decide)) (aH (pv 1)) (aG (aH (pv 0)) aP))) (XN.r (aM)) (λ_ _=>rfl))))
  (aN (bL (i:=5) (bT (aH (pv 4)) (XN.r (cB (XN.r (iC gD (gF U) U gC F4 (aG (aH (pv 3)) aP))) (XN.r (aM))))) (λh=>bH lB.nd U (by first | exact D7 U | exact D6 U) h))
  (aN (bL (i:=7) (dH Zq (hr.mono (by decide)) U (aG (aH (pv 6)) (aG (aH (pv 5)) (aG (XN.r (mU (aH (pv 4)) (XN.r (aM)))) aP)))) (λh=>bH lB.nd U (by first | exact D7 U | exact D6 U) h))
  (aN (aDH (is:=[8,9]) (n:=2) (Fx xO aQ eX (hr.mono (by decide)) (gG (pv 0)) (iG (aH (pv 7)) (iG (XN.r (wO (XN.r (aM)))) (iG (XN.r (bT (aH (pv 4)) (XN.r (uO (XN.r (aM)) (XN.r (aM)))))) (iG (XN.r (aM)) lY))))) (λh=>Hu h (RJ U (pZ (fW (i:=8) lB.nd U (by first | exact D7 U | exact D6 U)) (pZ (fW (i:=9) lB.nd U (by first | exact D7 U | exact D6 U)) (Wu))))))
  (aN (bL (i:=5) (Pb (XN.r (iC Uw (Ux U) U rT T0 (aG (XN.r (cB (aH (pv 6)) (nT (aG (aH (pv 7)) aP)))) aP))) (aH (pv 7)) (λa b=>pF E6 T3 T4 Pa a (cH b gU))) (λh=>bH lB.nd U (by first | exact D7 U | exact D6 U) h))
  (aV (Mi (gG (pv 1)) (qO (bI (UL) (bI (XR.n (aH (pv 9))) (bI (XR.n (aH (pv 8))) (bI (XR.n (bQ (XN.r (cB (nT (aG (XN.r (aM)) aP)) (aH (pv 3)))) (aH (pv 5)) (λ_ _=>rfl))) jB))))) (λa b=>jJ (pF E6 J8 J9 kW a (cH b gU)))))))))) gW)))))))⟩
theorem Aa:bA ["changes", "held", "numbers", "found", "number"] ["changes", "held", "numbers"] (aL xG):=by walk_at "fs"
theorem Zr(R:Raw K mg "ripe_among" xG) (aGQ:mg "all" = none) (iH:mg "list" = none) (YD:iD mg "NEEDS" (3)):sJ P w K mg base "ripe_among" 1 3 (jA K 3 tG):=by
 refine R.zF Aa (λ_ _ _ _ _ _ us hl=>match us,hl with | [_,_,_],_=>rfl) (λ_ _ _ _ _ _ _ hr=>?_);have dM:=hr.units;have hu:=cY hr;exact⟨_,aN (bL (i:=3) (wL) (λh=>bH Aa.nd U (by first | exact D7 U | exact D6 U) h))
  (aN (Yc [] AW U (oM (aH (pv 2))) (fW (i:=4) Aa.nd U (by first | exact D7 U | exact D6 U)) (aV (jH (aAt (XN.r (iC aF3 (aF4 U) U aGQ PyProof.Rows.boot_all (aG (XN.r (oR ["need", "held", "found"] [1,3] U (.at (aL xG) ["changes", "held", "numbers", "found", "number"] (by decide +kernel)) (oM (bQ (bQ (aH (pv 0)) (aH (pv 4)) (λ_ _=>rfl)) (XN.r (nZ YD U)) (λ_ _=>rfl))) (lW (by decide +kernel) U U) (λ_ _ _ _ _=>rK) (λ_ _ _ _ _=>aHU (XN.r (aAw hu (aH (pv 0)) (aH (pv 1)))) (aC6 (aAw hu (aH (pv 0)) (aH (pv 2))))))) aP)))) (aV (Yg (gG (pv 3)) (aH (pv 4)) (XN.r (Up)) (λa b c=>tX hu a b c U))) gW)))
  (aV (cG (Fj HD (yR U) U iH J5 (aG (aH (pv 3)) aP)))))⟩
theorem Cz:bA ["self", "number", "change"] ["self", "number"] (aL xH):=by walk_at "fs"
theorem Qu{κ:Nat→A7}(R:fM K (κ 0) "strike" "Bench.strike" xH NH) (aY:jC K (κ 0) iZ) (aBF:iD mg "PANE" (0)) (YF:iD mg "PLACE" (1)) (Jg:iD mg "THING" (2)):dB P w K mg base (κ 0) "strike" 1 2 NH (spS K 2 (rR κ)):=by
 refine R.Yj Cz (λ_ _ _ _ _ _ us hl=>match us,hl with | [_,_],_=>rfl) (λ_ _ _ _ _ _ _ hr=>?_);have dM:=hr.units;have hu:=cY hr;exact⟨_,aN (bL (i:=2) (XR.n (bQ (cU aY (aH (pv 0)) (by decide +kernel) U) (aH (pv 1)) (λ_ _=>rfl))) (λh=>bH Cz.nd U (by first | exact D7 U | exact D6 U) h))
  (aN (JR (HR (mV aY (gG (pv 0)) (by decide +kernel) U) (bQ (aH (pv 2)) (XN.r (nZ aBF U)) (λ_ _=>rfl)) (λ_ _=>rfl)) (bQ (aH (pv 2)) (XN.r (nZ YF U)) (λ_ _=>rfl)) (XR.n (bQ (aH (pv 2)) (XN.r (nZ Jg U)) (λ_ _=>rfl))) (λa b c=>Hu c (Ww a b set_list)))
  (aV (Gb (mV aY (gG (pv 0)) (by decide +kernel) U) (aH (pv 1)) (XN.r (Up)) (λa b c=>tX hu a b c U))))⟩
theorem rW:bA ["self", "pane", "most", "taken", "number"] ["self", "pane", "most"] (aL uI):=by walk_at "fs"
theorem Ti{κ:Nat→A7}(R:fM K (κ 0) "carve" "Bench.carve" uI NG) (aY:jC K (κ 0) iZ) (iT:dB P w K mg base (κ 0) "check_pane" 1 2 NH (jA K 2 (iQ κ))) (Er:sJ P w K mg base "ripe_among" 1 3 (jA K 3 tG)) (xP:dB P w K mg base (κ 0) "strike" 1 2 NH (spS K 2 (rR κ))) (aGR:mg "max" = none):dB P w K mg base (κ 0) "carve" 2 3 NG (spS K 3 (qG κ)):=by
 refine R.Yj rW (λT _ _ _ _ _ _ us=>⟨λhl=>match us,hl with | [_,_,_],_=>⟨_,U,U⟩,λhl=>match us,hl with | [_,_],_=>⟨_,U,U⟩⟩) (λ_ _ _ _ _ _ _ hr=>?_);have dM:=hr.units;have hu:=cY hr;exact⟨_,aN (Bd (XN.r (fK iT aY (hr.mono (by decide)) (aH (pv 0)) (aG (aH (pv 1)) aP))))
  (aN (bL (i:=3) (dH Er (hr.mono (by decide)) U (aG (cU aY (aH (pv 0)) (by decide +kernel) U) (aG (cU aY (aH (pv 0)) (by decide +kernel) U) (aG (bQ (cU aY (aH (pv 0)) (by decide +kernel) U) (aH (pv 1)) (λ_ _=>rfl)) aP)))) (λh=>bH rW.nd U (by first | exact D7 U | exact D6 U) h))
  (aN (jH (cT aj Vf (aH (pv 2)) (XN.r (wJ)) (dO _)) (aV (bL (i:=3) (HN (aH (pv 3)) (cz) (Lz (XN.r (iC aC9 (mj U) U aGR PyProof.Rows.boot_max (aG (aH (pv 2)) (aG (XN.r (aM)) aP)))))) (λh=>bH rW.nd U (by first | exact D7 U | exact D6 U) h))) gW)
  (aN (Yk AW U (pv 3) (fW (i:=4) rW.nd U (by first | exact D7 U | exact D6 U)) (aV (Ot (rN xP aY eX (hr.mono (by decide)) (gG (pv 0)) (iG (aH (pv 4)) lY)))))
  (aN (JR (mV aY (gG (pv 0)) (by decide +kernel) U) (aH (pv 1)) (oR ["number", "self"] [0] U (.at (aL uI) ["self", "pane", "most", "taken", "number"] (by decide +kernel)) (oM (bQ (cU aY (aH (pv 0)) (by decide +kernel) U) (aH (pv 1)) (λ_ _=>rfl))) (lW (by decide +kernel) U U) (λ_ _ _ _ _=>Ma (Ut hu (aH (pv 0)) (cU aY (aH (pv 1)) (by decide +kernel) U))) (λ_ _ _ _ _=>XR.n (aH (pv 0)))) (λa b c=>Hu c (Ww a b set_list)))
  (aV (Fz (pv 3)))))))⟩
theorem Zt:bA ["self"] ["self"] (aL uJ):=by walk_at "fs"
theorem Tj{κ:Nat→A7}(R:fM K (κ 0) "stone" "Bench.stone" uJ NH) (aY:jC K (κ 0) iZ) (iH:mg "list" = none):dB P w K mg base (κ 0) "stone" 1 1 NH (jA K 1 (qH κ)):=by refine R.Ga Zt (λ_ _ _ _ _ _ us hl=>match us,hl with | [_],_=>rfl) (λ_ _ _ _ _ _ _ hr=>?_);have dM:=hr.units;have hu:=cY hr;exact⟨_,aV (cG (oR ["pane"] [] U (.at (aL uJ) ["self"] (by decide +kernel)) (oM (cU aY (aH (pv 0)) (by decide +kernel) U)) (lW (by decide +kernel) U U) (λ_ _ _ _ _=>rK) (λ_ _ _ _ _=>Fj Av (Aw U) U iH J5 (aG (aH (pv 0)) aP))))⟩
theorem Qv:bA ["self"] ["self"] (aL uW):=by walk_at "fs"
theorem Li{κ:Nat→A7}(R:fM K (κ 0) "changes" "Bench.changes" uW NH) (aY:jC K (κ 0) iZ) (iH:mg "list" = none):dB P w K mg base (κ 0) "changes" 1 1 NH (jA K 1 (nF κ)):=by refine R.Ga Qv (λ_ _ _ _ _ _ us hl=>match us,hl with | [_],_=>rfl) (λ_ _ _ _ _ _ _ hr=>?_);have dM:=hr.units;have hu:=cY hr;exact⟨_,aV (cG (Fj Av (Aw U) U iH J5 (aG (cU aY (aH (pv 0)) (by decide +kernel) U) aP)))⟩
theorem yC:bA ["script", "stone", "weaver", "first", "events", "settled", "cell", "rest", "found", "number", "due"] ["script"] (aL aDQ):=by walk_at "fs"
theorem aGS{κ:Nat→A7}{f:A7}{fd:BE}(F:Fun K "law" "law" aDQ f fd) (aQ:jC K (κ 1) dZ) (aY:jC K (κ 0) iZ) (Jm:sJ P w K mg base "_law_built" 3 1 (jA K 1 vU)) (Ab:uo P w K mg base "Weaver" (κ 1) 5 2 (spS K 2 (uF κ))) (jZ:dB P w K mg base (κ 1) "order" 1 1 NH (jA K 1 (jY κ))) (Mt:sJ P w K mg base "_law_own" 1 1 (jA K 1 rO)) (Es:sJ P w K mg base "_law_spread" 1 1 (jA K 1 lQ)) (uK:dB P w K mg base (κ 0) "carve" 2 3 NG (spS K 3 (qG κ))) (uL:sJ P w K mg base "_law_visible" 1 3 (jA K 3 oF)) (Ac:dB P w K mg base (κ 0) "stone" 1 1 NH (jA K 1 (qH κ))) (Qw:sJ P w K mg base "_law_done" 8 3 (spG K [NG,NG,NH] (zW κ))) (uY:dB P w K mg base (κ 0) "changes" 1 1 NH (jA K 1 (nF κ))) (gC:mg "len" = none) (iH:mg "list" = none) (jP:mg "range" = none) (aGm:∀ns:List Int,ns.length≤63→(∀k∈ns,Small k)→aGI κ [.lst (ns.map D.int)]=ND (.bl NG)):yF P w K mg base CQ 9 f fd ["script"] (spB K):=by
 refine F.okB yC (λcdv A outer s H E hr=>?_) aGm;have dM:=hr.units;have hu:=cY hr;exact⟨_,aN (bL (i:=1) (dH Jm (hr.mono (by decide)) U (aG (aH (pv 0)) aP)) (λh=>bH yC.nd U (by first | exact D7 U | exact D6 U) h))
  (aN (bL (i:=2) (ir Ab eX (hr.mono (by decide)) U (aG (aH (pv 1)) aP)) (λh=>bH yC.nd U (by first | exact D7 U | exact D6 U) h))
  (aN (bL (i:=3) (vN jZ aQ (hr.mono (by decide)) (aH (pv 2))) (λh=>bH yC.nd U (by first | exact D7 U | exact D6 U) h))
  (aN (jH (cT (Us dM U) Ur (aH (pv 3)) (XN.r (dH Mt (hr.mono (by decide)) U (aG (aH (pv 1)) aP))) (dO _)) (aV (cG (Up))) gW)
  (aN (bL (i:=4) (yX jB) (λh=>bH yC.nd U (by first | exact D7 U | exact D6 U) h))
  (aN (bL (i:=5) (wL) (λh=>bH yC.nd U (by first | exact D7 U | exact D6 U) h))
  (aN (Yc [] AW U (oM (XN.r (oR ["one"] [] U (.at (aL aDQ) ["script", "stone", "weaver", "first", "events", "settled", "cell", "rest", "found", "number", "due"] (by decide +kernel)) (oM (aAC (aH (pv 0)) (Lz (XN.r (aM))) (Lz (XN.r (aM))))) (lW (by decide +kernel) U U) (λ_ _ _ _ _=>rK) (λ_ _ _ _ _=>dH Es (hr.mono (by decide)) U (aG (aH (pv 0)) aP))))) (fW (i:=6) yC.nd U (by first | exact D7 U | exact D6 U)) (aN (bL (i:=7) (mU (aH (pv 6)) (XN.r (aM))) (λh=>bH yC.nd U (by first | exact D7 U | exact D6 U) h))
  (aV (jH (cT (or_eq dM U) vJ (XN.r (bT (aH (pv 6)) (XN.r (aM)))) (XN.r (aM)) (dO _)) (aN (jH (cT (or_eq dM U) vJ (XN.r (bT (aH (pv 7)) (XN.r (aM)))) (XN.r (aM)) (dO _)) (aV (Bc (i:=8) (rN uK aY eX (hr.mono (by decide)) (mV aQ (gG (pv 2)) (by decide +kernel) U) (iG (XN.r (bT (XN.r (mU (aH (pv 7)) (XN.r (aM)))) (XN.r (iC gD (gF U) U gC F4 (aG (aH (pv 1)) aP))))) (iG (XN.r (bT (XN.r (mU (aH (pv 7)) (XN.r (aM)))) (XN.r (aM)))) lY))) (λh=>bH yC.nd U (by first | exact D7 U | exact D6 U) h))) (aV (Bc (i:=8) (Fx uK aY eX (hr.mono (by decide)) (mV aQ (gG (pv 2)) (by decide +kernel) U) (iG (XN.r (bT (XN.r (mU (aH (pv 7)) (XN.r (aM)))) (XN.r (iC gD (gF U) U gC F4 (aG (aH (pv 1)) aP))))) lY)) (λh=>bH yC.nd U (by first | exact D7 U | exact D6 U) h))))
  (aN (Yc [8] AW U (oM (aH (pv 8))) (fW (i:=9) yC.nd U (by first | exact D7 U | exact D6 U)) (aV (Yg (gG (pv 5)) (aH (pv 9)) (XN.r (Up)) (λa b c=>tX hu a b c U))))
  (aN (bL (i:=10) (dH uL (hr.mono (by decide)) U (aG (aH (pv 3)) (aG (aH (pv 4)) (aG (aH (pv 5)) aP)))) (λh=>bH yC.nd U (by first | exact D7 U | exact D6 U) h))
  (aV (jH (XW.xt (cg (cT RN WM (aH (pv 10)) (XN.r (wJ)) (dO _)) (UW (cT (Us dM U) Ur (XN.r (dH Mt (hr.mono (by decide)) U (aG (XN.r (vN Ac aY (hr.mono (by decide)) (cU aQ (aH (pv 2)) (by decide +kernel) U))) aP))) (aH (pv 10)) (dO _))))) (aV (cG (Up))) gW))))) (aV (Ot (aDB Qw U (hr.mono (by decide)) U (aA9 (pv 2) (aA9 (pv 4) (aIg (aH (pv 7)) (aDA)))))))))))
  (aV (cG (aFY (or_eq dM U) vJ (XN.r (vN jZ aQ (hr.mono (by decide)) (aH (pv 2)))) (XN.r (dH uL (hr.mono (by decide)) U (aG (aH (pv 3)) (aG (aH (pv 4)) (aG (XN.r (aAW (XN.r (iC gD (gF U) U gC F4 (aG (XN.r (vN uY aY (hr.mono (by decide)) (cU aQ (aH (pv 2)) (by decide +kernel) U))) aP))) U iH J5 U jP Z8)) aP))))) (dO _))))))))))⟩
end
end Rs

namespace Rs
open PySem L2
local macro_rules | `(tactic| walk_at "lt")=>`(tactic| exact R4 rfl)
local macro_rules | `(tactic| walk_at "sc")=>`(tactic| first | omega | with_reducible assumption | exact Q8 (by decide) | exact Dz (by omega) (by omega) | exact aIn (by omega) (by omega))
local macro_rules | `(tactic| walk_at "op")=>`(tactic| first | with_reducible assumption | with_reducible exact bR _ _ | with_reducible exact lM _ _ | with_reducible exact nM _ _ | with_reducible exact Gh _ _ | with_reducible exact wU _ _ | with_reducible exact Yo _ _ | with_reducible exact Yp _ _ | with_reducible exact Yq _ _ | with_reducible exact pK _ | with_reducible exact Pn _ | with_reducible exact dLen_tup _ | ((with_reducible apply fQ);walk_at "sc") | ((with_reducible apply bF);walk_at "sc") | ((with_reducible apply dX);(walk_at "sc");walk_at "sc") | ((with_reducible apply nD);exact⟨by decide,by decide,by omega⟩) | ((with_reducible apply iY);(walk_at "sc");walk_at "sc"))
local macro_rules | `(tactic| walk_at "ea")=>`(tactic| first | with_reducible exact KY | ((with_reducible apply aA);(walk_at "ev");walk_at "ea"))
local macro_rules | `(tactic| walk_at "ev")=>`(tactic| first | ((with_reducible apply pW);exact rfl) | with_reducible exact aIp | with_reducible assumption | ((with_reducible apply aK);(walk_at "ev");(walk_at "ev");walk_at "op") | ((with_reducible apply fG);(walk_at "ea");walk_at "op") | ((with_reducible apply bW);(walk_at "ea");exact rfl;with_reducible assumption) | ((with_reducible apply bC);(walk_at "ev");exact rfl) | ((with_reducible apply uC);walk_at "ev") | ((with_reducible apply nO);(walk_at "ea");walk_at "lt") | ((with_reducible apply gH);(walk_at "ea");walk_at "lt"))
local macro_rules | `(tactic| walk_at "et")=>`(tactic| first | ((with_reducible apply Gg);walk_at "et") | ((with_reducible apply aBo);(walk_at "et");walk_at "et") | ((with_reducible apply Yr);(walk_at "et");walk_at "et") | ((with_reducible apply cJ);walk_at "ev"))
local macro_rules | `(tactic| walk_at "set")=>`(tactic| (apply WR;(walk_at "ev");(walk_at "lt")))
local macro_rules | `(tactic| walk_at "q")=>`(tactic| (apply cL;(walk_at "ev");(walk_at "lt")))
local macro_rules | `(tactic| walk_at "op")=>`(tactic| first | with_reducible assumption | with_reducible exact bR _ _ | with_reducible exact lM _ _ | with_reducible exact nM _ _ | with_reducible exact Gh _ _ | with_reducible exact wU _ _ | with_reducible exact Yo _ _ | with_reducible exact Yp _ _ | with_reducible exact Yq _ _ | with_reducible exact pK _ | with_reducible exact Mm _ | with_reducible exact Pu _ _ _ | with_reducible exact dMin2_int _ _ | with_reducible exact Vt _ _ | with_reducible exact dIntB_bl _ | with_reducible exact jg _ | with_reducible exact LQ _ | with_reducible exact Py _ | with_reducible exact LR _ | ((with_reducible apply Yx);omega) | with_reducible exact Pn _ | with_reducible exact dLen_tup _ | ((with_reducible apply fQ);walk_at "sc") | ((with_reducible apply dMulB_int);(walk_at "sc");walk_at "sc") | ((with_reducible apply bF);walk_at "sc") | ((with_reducible apply dX);(walk_at "sc");walk_at "sc") | ((with_reducible apply nD);exact⟨by decide,by decide,by omega⟩) | ((with_reducible apply iY);(walk_at "sc");walk_at "sc"))
def mO(cs:List jX)(l:List Int)(cA:Int):List Int:=((D2 cs.length).filter λk=>decide ((at_ cs k).cA=cA)&&!decide ((k:Int)∈l)).map λk=>((k:Nat):Int)
theorem Ad{cs:List jX}{l:List Int}{cA:Int}{x:Int}:x∈mO cs l cA↔0≤x∧x<cs.length∧(at_ cs x.toNat).cA=cA∧x∉l:=by
 unfold mO;rw[G5];constructor
 ·rintro⟨k,hk,rfl⟩
  obtain⟨h1,h2⟩:=K9.mp hk;rw[F5]at h1;rw[G9,decide_eq_true_iff]at h2;rw[C8];exact⟨by omega,by omega,h2.1,by simpa using h2.2⟩
 ·rintro⟨h0,h1,h2,h3⟩
  refine⟨x.toNat,K9.mpr ⟨F5.mpr (by omega),?_⟩,by omega⟩;rw[G9,decide_eq_true_iff,show ((x.toNat:Nat):Int)=x by omega];exact⟨h2,by simpa using h3⟩
theorem Zu(cs:List jX)(l:List Int)(cA:Int):(mO cs l cA).Pairwise (·<·):=by unfold mO;rw[T7];exact(T9.sublist Q3).imp λh=>by omega
theorem PB(cs:List jX)(l:List Int)(cA:Int):(mO cs l cA).length≤cs.length:=by unfold mO;rw[B7];exact G1 (List.length_filter_le _ _) (by rw[E3];exact D1 _)
def Nums(cs:List jX)(ks:List Int):Prop:=ks.Nodup∧∀x∈ks,0≤x∧x<(cs.length:Int)
theorem Nums.len{cs:List jX}{ks:List Int}(h:Nums cs ks):ks.length≤cs.length:=kY _ _ h.1 h.2
structure Bn where
 bD:List (List (List Int))
 asked:List jX
 held:List Int
 nk:List (Int×Int)
 nv:List Int
def tU(p:Int×Int):List Key:=[.inl p.1,.inl p.2]
theorem Hl{a b:Int×Int}(h:tU a=tU b):a=b:=by unfold tU at h;injection h with h1 h2;injection h2 with h2 _;injection h1 with h1;injection h2 with h2;exact l6 h1 h2
def fU(p:List (List Int)):D:=.lst (p.map dTup)
def iK(ps:List (List (List Int))):D:=.lst (ps.map fU)
def tV(n:Nat)(cs:List jX)(l:List Int):List D:=(D2 n).map λp=>aJ (mO cs l ((p:Nat):Int))
def Tn:List Str:=["panes", "asked", "newest", "held", "unsettled"]
def dI(C:A7)(a b c d e:D):D:=.ins C Tn [a,b,c,d,e]
def jQ(C:A7)(b:Bn)(e:List D):D:=dI C (iK b.bD) (vP b.asked) (.dt (b.nk.map tU) (b.nv.map D.int)) (zO b.held) (.lst e)
def cW(C:A7)(b:Bn):D:=jQ C b (tV b.bD.length b.asked b.held)
theorem Jo:posK Tn "panes" = ND 0:=by decide +kernel
theorem Jp:posK Tn "asked" = ND 1:=by decide +kernel
theorem Et:posK Tn "newest" = ND 2:=by decide +kernel
theorem Qx:posK Tn "held" = ND 3:=by decide +kernel
theorem Zv:posK Tn "unsettled" = ND 4:=by decide +kernel
section
variable{C:A7}{a b c d e x:D}
theorem Bq:dJ C "panes" (dI C a b c d e)=ND a:=by unfold dJ dI;dsimp only;rw[if_pos U,Jo];rfl
theorem sH:dJ C "asked" (dI C a b c d e)=ND b:=by unfold dJ dI;dsimp only;rw[if_pos U,Jp];rfl
theorem Eu:dJ C "newest" (dI C a b c d e)=ND c:=by unfold dJ dI;dsimp only;rw[if_pos U,Et];rfl
theorem PJ:dJ C "held" (dI C a b c d e)=ND d:=by unfold dJ dI;dsimp only;rw[if_pos U,Qx];rfl
theorem jn:dJ C "unsettled" (dI C a b c d e)=ND e:=by unfold dJ dI;dsimp only;rw[if_pos U,Zv];rfl
theorem tK{s:L2.Step}{d x:D}{j:Nat}(h1:Cd s d=ND j)(h2:(kids d)[j]?=ND x):eV [s] d=ND x:=by unfold eV;rw[h1,B9,h2];rfl
theorem qJ{s:L2.Step}{d x y:D}{j:Nat}(h1:Cd s d=ND j)(h2:(kids d)[j]?=ND y):eO [s] d x=Fv d ((kids d).set j x):=by show (match Cd s d with | some j=>_ | none=>_)=_;rw[h1];show (match (kids d)[j]? with | some c=>_ | none=>_)=_;rw[h2];rfl
theorem Wd{s:L2.Step}{p:List L2.Step}{d y:D}(h:eV [s] d=ND y):eV (s::p) d=eV p y:=by show ((Cd s d).bind λj=>((kids d)[j]?).bind (eV p))=eV p y;unfold eV at h;obtain⟨j,h1,h2⟩:=aX h;obtain⟨z,h3,h4⟩:=aX h2;unfold eV at h4;cases h4;rw[h1,B9,h3,B9]
theorem We{s:L2.Step}{p:List L2.Step}{d y x:D}(h:eV [s] d=ND y):eO (s::p) d x=eO [s] d (eO p y x):=by unfold eV at h;obtain⟨j,h1,h2⟩:=aX h;obtain⟨z,h3,h4⟩:=aX h2;unfold eV at h4;cases h4;rw[qJ h1 h3];show (match Cd s d with | some j=>_ | none=>_)=_;rw[h1];show (match (kids d)[j]? with | some c=>_ | none=>_)=_;rw[h3]
theorem uZ{f:Str}{j:Nat}(h:posK Tn f=ND j):Cd (.fld C f) (dI C a b c d e)=ND j:=by show (if C=C then posK Tn f else none)=ND j;rw[if_pos rfl];exact h
theorem Wf:eV [.fld C "panes"] (dI C a b c d e)=ND a:=tK (uZ Jo) U
theorem vy:eV [.fld C "asked"] (dI C a b c d e)=ND b:=tK (uZ Jp) U
theorem YG:eV [.fld C "newest"] (dI C a b c d e)=ND c:=tK (uZ Et) U
theorem aBG:eV [.fld C "held"] (dI C a b c d e)=ND d:=tK (uZ Qx) U
theorem Zw:eV [.fld C "unsettled"] (dI C a b c d e)=ND e:=tK (uZ Zv) U
theorem vz:eO [.fld C "panes"] (dI C a b c d e) x=dI C x b c d e:=qJ (uZ Jo) (y:=a) U
theorem wg:eO [.fld C "asked"] (dI C a b c d e) x=dI C a x c d e:=qJ (uZ Jp) (y:=b) U
theorem YH:eO [.fld C "newest"] (dI C a b c d e) x=dI C a b x d e:=qJ (uZ Et) (y:=c) U
theorem aBH:eO [.fld C "held"] (dI C a b c d e) x=dI C a b c x e:=qJ (uZ Qx) (y:=d) U
theorem jo:eO [.fld C "unsettled"] (dI C a b c d e) x=dI C a b c d x:=qJ (uZ Zv) (y:=e) U
theorem YJ{xs:List D}{k:Nat}(h:xs[k]?=ND x):eV [.ix k] (.lst xs)=ND x:=tK (s:=.ix k) (d:=.lst xs) (j:=k) U h
theorem YK{xs:List D}{k:Nat}{y:D}(h:xs[k]?=ND y):eO [.ix k] (.lst xs) x=.lst (xs.set k x):=qJ (s:=.ix k) (d:=.lst xs) (j:=k) U h
end
theorem aBI{π:FP}{g:FE}{e:DE}{p:List L2.Step}{k:Int}(h1:π e=ND p)(h2:g e=ND (.int k))(h3:0≤k):dm π g e=ND (p++[.ix k.toNat]):=by unfold dm;rw[h1,B9,h2,B9];dsimp only;rw[if_pos h3]
theorem tL{env:EN}{i:Nat}{d0 d:D}{ds:List D}{π:FP}{p:List L2.Step}{f:FE}{C:A7}{nm:List Str}{x:Str}(h1:env[i]?=ND (.own d0))(h2:π (rE env)=ND p)(h3:eV p d0=ND (.ins C nm ds))(h4:f (rE env)=ND d)(hl:nm.length<900)(hx:posK nm x=none):vM C i π x f env=.next (env.set i (.own (eO p d0 (.ins C (nm++[x]) (ds++[d]))))):=by rw[aGF h1 h2 h3 h4 hl];unfold Vc;rw[hx]
def lastAt(cs:List jX)(p q:Int):Option Int:=((D2 cs.length).filter λk=>decide ((at_ cs k).cA=p∧(at_ cs k).place=q)).getLast?.map λk=>((k:Nat):Int)
theorem qK(cs:List jX)(c:jX)(p q:Int):lastAt (cs++[c]) p q=if c.cA=p∧c.place=q then ND (cs.length:Int)else lastAt cs p q:=by
 unfold lastAt;have e:(D2 cs.length).filter (λk=>decide ((at_ (cs++[c]) k).cA=p∧(at_ (cs++[c]) k).place=q))=(D2 cs.length).filter λk=>decide ((at_ cs k).cA=p∧(at_ cs k).place=q):=T8 λk hk=>by rw[gZ (F5.mp hk)]
 rw[C7,show cs.length+[c].length=cs.length+1 from rfl,b6,P1,e];by_cases h:c.cA=p∧c.place=q
 ·rw[if_pos h,O5 (by rw[nP];exact decide_eq_true h),N4,V5];rfl
 ·rw[if_neg h,O6 (by rw[nP];simpa using h),N4,F2]
theorem wA{cs:List jX}{p q k:Int}(h:lastAt cs p q=ND k):0≤k∧k<(cs.length:Int)∧(at_ cs k.toNat).cA=p∧(at_ cs k.toNat).place=q:=by unfold lastAt at h;obtain⟨j,h1,rfl⟩:=lJ h;have hm:=f6 h1;obtain⟨m1,m2⟩:=K9.mp hm;have:=F5.mp m1;have m2:=of_decide_eq_true m2;rw[C8];exact⟨by omega,by omega,m2⟩
theorem wB{α β:Type} [DecidableEq α] [DecidableEq β] {φ:α→β} (hi:∀a b,φ a=φ b→a=b) (k:α):∀ks:List α,posK (ks.map φ) (φ k)=posK ks k
 | []=>rfl
 | a::ks=>by
  rw[D5];unfold posK;rw[wB hi k ks];by_cases c:a=k
  ·rw[if_pos c,if_pos (by rw[c])]
  ·rw[if_neg c,if_neg λz=>c (hi _ _ z)]
theorem PK{α β:Type} [DecidableEq α] [DecidableEq β] {φ:α→β} (hi:∀a b,φ a=φ b→a=b) (k:α) (ks:List α):lE (ks.map φ) (φ k)=(lE ks k).map φ:=by
 unfold lE;rw[wB hi];split
 ·rfl
 ·rw[J0];rfl
theorem PL{α β γ δ:Type} [DecidableEq α] [DecidableEq β] {φ:α→β} (hi:∀a b,φ a=φ b→a=b) (ψ:γ→δ) (k:α) (ks:List α) (ds:List γ) (d:γ):putD (ks.map φ) (ds.map ψ) (φ k) (ψ d)=(putD ks ds k d).map ψ:=by
 unfold putD;rw[wB hi];split
 ·rw[List.zipWith_map,List.map_zipWith];congr 1
  funext a b
  by_cases c:a=k
  ·rw[if_pos c,if_pos (by rw[c])]
  ·rw[if_neg c,if_neg λz=>c (hi _ _ z)]
 ·rw[J0];rfl
theorem aGT{α β:Type} [DecidableEq α] {ks:List α} {ds:List β} {k k':α} {d:β} {j:Nat} (h:posK ks k'=ND j) (hl:ks.length=ds.length):(R1 (λa b=>if a=k then d else b) ks ds)[j]?=if k'=k then ND d else ds[j]?:=by
 obtain⟨h1,h2⟩:=rJ h;rw[List.getElem?_zipWith,h2,B6 (by omega)];show ND (if k'=k then d else ds[j])=_
 split<;>rfl
theorem pY{α β:Type} [DecidableEq α] {k k':α} {d:β}:∀{ks:List α} {ds:List β},ks.length=ds.length→((posK (lE ks k) k').bind λj=>(putD ks ds k d)[j]?)=if k'=k then ND d else(posK ks k').bind λj=>ds[j]?
 | [],ds,h=>by
  cases ds with
  | cons=>simp at h
  | nil=>
   show ((posK [k] k').bind λj=>[d][j]?)=_;unfold posK;by_cases c:k=k'
   ·rw[if_pos c,if_pos c.symm];rfl
   ·rw[if_neg c,if_neg λz=>c z.symm];rfl
 | a::ks,[],h=>by simp at h
 | a::ks,x::ds,h=>by
  have h':ks.length=ds.length:=by simpa using h
  by_cases c:a=k
  ·have e0:posK (a::ks) k=ND 0:=by unfold posK;rw[if_pos c]
   unfold lE putD;rw[e0];simp only[i7,if_true];cases q:posK (a::ks) k' with
   | none=>
    have:k'≠k:=λz=>by rw[z,e0]at q;cases q
    rw[if_neg this];rfl
   | some j=>rw[B9,aGT q h];rfl
  ·have e1:lE (a::ks) k=a::lE ks k:=by
    have e0:posK (a::ks) k=(posK ks k).map (·+1):=by show (if a=k then ND 0 else(posK ks k).map (·+1))=_;rw[if_neg c]
    unfold lE;rw[e0];cases posK ks k<;>rfl
   have e2:putD (a::ks) (x::ds) k d=x::putD ks ds k d:=by
    have e0:posK (a::ks) k=(posK ks k).map (·+1):=by show (if a=k then ND 0 else(posK ks k).map (·+1))=_;rw[if_neg c]
    unfold putD;rw[e0];cases posK ks k with
    | none=>rfl
    | some j=>show (if a=k then d else x)::_=_;rw[if_neg c];rfl
   rw[e1,e2];have ih:=pY (k:=k) (k':=k') (d:=d) h';show ((if a=k' then ND 0 else(posK (lE ks k) k').map (·+1)).bind _)=if k'=k then ND d else((if a=k' then ND 0 else(posK ks k').map (·+1)).bind _);by_cases c2:a=k'
   ·rw[if_pos c2,if_pos c2,if_neg (by rw[←c2];exact c)];rfl
   ·rw[if_neg c2,if_neg c2];have m:∀{γ:Type}(o:Option Nat)(y:γ)(l:List γ),((o.map (·+1)).bind λj=>(y::l)[j]?)=o.bind λj=>l[j]?:=λo y l=>by cases o<;>rfl
    rw[m,m,ih]
structure Ae(b:Bn):Prop where
 good:Good b.asked
 nums:Nums b.asked b.held
 PN:∀k,k<b.asked.length→0≤(at_ b.asked k).cA∧(at_ b.asked k).cA<(b.bD.length:Int)∧0≤(L2.at_ b.asked k).place∧(L2.at_ b.asked k).place<((b.bD.getD (L2.at_ b.asked k).cA.toNat []).length:Int)
 nl:b.nk.length=b.nv.length
 nw:∀p q:Int,((posK b.nk (p,q)).bind λj=>b.nv[j]?)=lastAt b.asked p q
 few:b.bD.length≤8
 nkl:b.nk.length≤b.asked.length
theorem wC{ps:List (List (List Int))}{p:Int}(h0:0≤p)(h1:p<(ps.length:Int)):fJ (iK ps) (.int p)=ND (fU (ps.getD p.toNat [])):=uA h0 (by
 rw[C4,gY (d:=[]) (show p.toNat<ps.length by omega)]
 rfl)
theorem wD(ps:List (List (List Int))):jU [iK ps]=ND (.int ps.length):=by show ND (D.int ((ps.map fU).length:Nat))=_;rw[B7]
theorem Ho(ps:List (List Int)):jU [fU ps]=ND (.int ps.length):=by show ND (D.int ((ps.map dTup).length:Nat))=_;rw[B7]
variable(κ:Nat→A7)
theorem Hq{b:Bn}{e:List D}{p:Int}(h0:0≤p)(h1:p<(b.bD.length:Int)):iQ κ [jQ (κ 0) b e,.int p]=ND .non:=by
 refine Ed (env':=[.fro (jQ (κ 0) b e),.fro (.int p)]) U ?_;unfold xX;rw[lZ]
 ·rfl
 refine(Gg (Yy U U (fG (aA (cQ U Bq) U) (wD _)))).trans ?_;rw[decide_eq_true h0,decide_eq_true h1];rfl
theorem Dc{b:Bn}{e:List D}{p q:Int}(h0:0≤p)(h1:p<(b.bD.length:Int))(h2:0≤q)(h3:q<((b.bD.getD p.toNat []).length:Int)):gO κ [jQ (κ 0) b e,.int p,.int q]=ND .non:=by
 refine Ed (env':=[.fro (jQ (κ 0) b e),.fro (.int p),.fro (.int q)]) U ?_;unfold vV;refine(eG (env':=[.fro (jQ (κ 0) b e),.fro (.int p),.fro (.int q)]) (Gm (d:=.non) ?_)).trans ?_
 ·exact bO (nm:=Tn) U (by decide +kernel) U U (Hq κ h0 h1)
 rw[lZ]
 ·rfl
 refine(Gg (Yy U U (fG (aA (aK (cQ U Bq) U (wC h0 h1)) U) (Ho _)))).trans ?_;rw[decide_eq_true h2,decide_eq_true h3];rfl
theorem Af{b:Bn}{e:List D}{p:Int}(h0:0≤p)(h1:p<(b.asked.length:Int)):fZ κ [jQ (κ 0) b e,.int p]=ND .non:=by
 refine Ed (env':=[.fro (jQ (κ 0) b e),.fro (.int p)]) U ?_;unfold uG;rw[lZ]
 ·rfl
 refine(Gg (Yy U U (fG (aA (cQ U sH) U) (Mm _)))).trans ?_;rw[decide_eq_true h0,decide_eq_true h1];rfl
def gJ(b:Bn)(p q:Int)(th ns:List Int):jX:=⟨p,q,th,RD (ns++(lastAt b.asked p q).toList)⟩
def Bn.put(b:Bn)(p q:Int)(th ns:List Int):Bn:={b with asked:=b.asked++[gJ b p q th ns],nk:=lE b.nk (p,q),nv:=putD b.nk b.nv (p,q) (b.asked.length:Int)}
theorem Wg{cs:List jX}{l:List Int}{c:jX}{p:Int}(h:(cs.length:Int)∉l):mO (cs++[c]) l p=if c.cA=p then mO cs l p++[(cs.length:Int)]else mO cs l p:=by
 unfold mO;have e:(D2 cs.length).filter (λk=>decide ((at_ (cs++[c]) k).cA=p)&&!decide ((k:Int)∈l))=(D2 cs.length).filter λk=>decide ((at_ cs k).cA=p)&&!decide ((k:Int)∈l):=T8 λk hk=>by rw[gZ (F5.mp hk)]
 rw[C7,show cs.length+[c].length=cs.length+1 from rfl,b6,P1,e,J0];by_cases q:c.cA=p
 ·rw[if_pos q,O5 (by rw[nP,decide_eq_true q,decide_eq_false h];rfl)];rfl
 ·rw[if_neg q,O6 (by rw[nP,decide_eq_false q];simp),N4,L3,F2]
theorem aDS{n:Nat}{cs:List jX}{l:List Int}{c:jX}(h:(cs.length:Int)∉l)(h0:0≤c.cA)(h1:c.cA<(n:Int)):(tV n cs l).set c.cA.toNat (aJ (mO cs l c.cA++[(cs.length:Int)]))=tV n (cs++[c]) l:=by
 unfold tV;apply K5;intro k;rw[G4,B7,E3,C4,C4];by_cases e:c.cA.toNat=k
 ·rw[if_pos e,if_pos (by omega),G8 (by omega),G7,Wg h,if_pos (show c.cA=((k:Nat):Int) by omega),show ((k:Nat):Int)=c.cA by omega]
 ·rw[if_neg e];by_cases hk:k<n
  ·rw[G8 hk,G7,G7,Wg h,if_neg (by omega)]
  ·rw[E1 (by rw[E3];omega)];rfl
theorem Zx{n:Nat}{cs:List jX}{l:List Int}{p:Int}(h0:0≤p)(h1:p<(n:Int)):(tV n cs l)[p.toNat]?=ND (aJ (mO cs l p)):=by unfold tV;rw[C4,G8 (by omega),G7,show ((p.toNat:Nat):Int)=p by omega]
theorem Ae.put{b:Bn}(h:Ae b){p q:Int}{th ns:List Int}(h60:b.asked.length<124)(h0:0≤p)(h1:p<(b.bD.length:Int))(h2:0≤q)(h3:q<((b.bD.getD p.toNat []).length:Int))(hn:∀m∈ns,0≤m∧m<(b.asked.length:Int))(hl:ns.length≤8):Ae (b.put p q th ns):=by
  have aIt:∀m∈(gJ b p q th ns).needs,0≤m∧m<(b.asked.length:Int):=λm hm=>by
    have hm:=(Bb _ _).mp hm;rcases G0.mp hm with z | z
    · exact hn m z
    · cases e:lastAt b.asked p q with
      | none=>rw[e]at z;cases z
      | some k=>rw[e]at z;rw[D9.mp z];have:=wA e;exact⟨this.1,this.2.1⟩
  have hlen:(b.put p q th ns).asked.length=b.asked.length+1:=by unfold Bn.put;rw[C7];rfl
  have hcase:∀k,k<(b.put p q th ns).asked.length→(k<b.asked.length∧at_ (b.put p q th ns).asked k=at_ b.asked k)∨(k=b.asked.length∧at_ (b.put p q th ns).asked k=gJ b p q th ns):=λk hk=>by
    rw[hlen]at hk;rcases J2 k b.asked.length with z | z
    · exact .inl ⟨z,gZ z⟩
    · have e:k=b.asked.length:=by omega
      subst e;exact .inr ⟨U,nP _ _⟩
  refine⟨⟨by rw[hlen];omega,λk hk=>?_⟩,⟨h.nums.1,λx hx=>?_⟩,λk hk=>?_,?_,λp' q'=>?_,h.few,?_⟩
  · rcases hcase k hk with ⟨a,e⟩ | ⟨a,e⟩
    · rw[e];exact h.good.2 k a
    · rw[e,a]
      refine⟨aIt,WK _,?_⟩;have:=gw (ns++(lastAt b.asked p q).toList);show (RD (ns++(lastAt b.asked p q).toList)).length≤9;rw[C7]at this;have:(lastAt b.asked p q).toList.length≤1:=by cases lastAt b.asked p q<;>simp
      omega
  · have:=h.nums.2 x hx
    rw[hlen];omega
  · rcases hcase k hk with ⟨a,e⟩ | ⟨a,e⟩
    · have:=h.PN k a
      rw[e];exact this
    · rw[e]
      exact⟨h0,h1,h2,h3⟩
  · exact vK h.nl
  · show ((posK (lE b.nk (p,q)) (p',q')).bind λj=>(putD b.nk b.nv (p,q) (b.asked.length:Int))[j]?)=lastAt (b.asked++[gJ b p q th ns]) p' q'
    rw[pY h.nl,qK,h.nw];by_cases c:(p',q')=(p,q)
    · have c1:p'=p:=congrArg Prod.fst c
      have c2:q'=q:=congrArg Prod.snd c;rw[if_pos c,if_pos ⟨c1.symm,c2.symm⟩]
    · rw[if_neg c,if_neg λz=>c (l6 z.1.symm z.2.symm)]
  · have:=h.nkl
    rw[hlen];show (lE b.nk (p,q)).length≤_;unfold lE;split
    · omega
    · rw[C7];simp;omega
theorem aBJ{b:Bn}(h:Ae b)(p q:Int):posK (b.nk.map tU) (tU (p,q))=posK b.nk (p,q):=wB (λ_ _=>Hl) _ _
theorem aGU{b:Bn}(h:Ae b){p q:Int}{th ns:List Int}{nd:D}(h0:0≤p)(h1:p<(b.bD.length:Int))(h2:0≤q)(h3:q<((b.bD.getD p.toNat []).length:Int))(hn:∀m∈ns,0≤m∧m<(b.asked.length:Int))(hl:ns.length≤50)(hnd:(nd=.non∧ns=[])∨nd=aJ ns):Bm κ [cW (κ 0) b,.int p,.int q,dTup th,nd]=ND (.int b.asked.length,cW (κ 0) (b.put p q th ns)):=by
  refine oX U λv=>?_;unfold Wc;refine XC (d:=.non) (bO U (show ("check_place" : Str)∉Tn by decide +kernel) U U (Dc κ h0 h1 h2 h3)) ?_;have h60:=h.good.1;refine cL (d:=aJ ns) ?_ (by exact Nat.le_of_ble_eq_true U) ?_
  · rcases hnd with ⟨rfl,rfl⟩ | rfl
    · exact aEM (cJ (aK U U (Bl NH .non))) U
    · exact aEN (cJ (aK U U (Bl NH (aJ ns)))) (fG (aA U U) (sE (dG ns)))
  refine XD (ns:=ns) [.inn v (cW (κ 0) b),.fro (.int p),.fro (.int q),.fro (dTup th),.fro nd,.own (aJ ns),lv ns .no ns.length,.no] U U (λv2 k env=>env=[.inn v (cW (κ 0) b),.fro (.int p),.fro (.int q),.fro (dTup th),.fro nd,.inn v2 (aJ ns),lv ns .no k,.no]) (λv2=>rfl) (λv2 k env e=>by rw[e];rfl) ?_ (λv2 env e=>by rw[e];rfl) ?_
  · rintro v2 k x env hx rfl
    refine⟨by walk_at "lt", _,Gm (d:=.non) (bO U (show ("check_change" : Str)∉Tn by decide +kernel) U U (Af κ (hn x (E4 hx)).1 (hn x (E4 hx)).2)),?_⟩;have e:lv ns .no (k+1)=.fro (.int x):=by show SD.fro (.int (ns.getD k 0))=_;rw[jW hx]
    rw[e];rfl
  have hkey:∀vv7:SD,Im (aB (aD 1) (aB (aD 2) aO)) (rE [.inn v (cW (κ 0) b),.fro (.int p),.fro (.int q),.fro (dTup th),.fro nd,.own (aJ ns),lv ns .no ns.length,vv7])=ND (tU (p,q)):=λ_=>rfl;have hin:fB (Su NH (Im (aB (aD 1) (aB (aD 2) aO))) (pJ (dJ (κ 0) "newest") (aD 0))) (rE [.inn v (cW (κ 0) b),.fro (.int p),.fro (.int q),.fro (dTup th),.fro nd,.own (aJ ns),lv ns .no ns.length,.no])=ND (posK b.nk (p,q)).isSome:=by refine cJ ?_;unfold Su;rw[hkey,B9];rw[show pJ (dJ (κ 0) "newest") (aD 0) (rE [.inn v (cW (κ 0) b),.fro (.int p),.fro (.int q),.fro (dTup th),.fro nd,.own (aJ ns),lv ns .no ns.length,.no])=ND (.dt (b.nk.map tU) (b.nv.map D.int))from cQ U Eu,B9];dsimp only;rw[aBJ h];rfl
  have hif:qP (fB (Su NH (Im (aB (aD 1) (aB (aD 2) aO))) (pJ (dJ (κ 0) "newest") (aD 0)))) (zB 5 cR (Ox (pJ (dJ (κ 0) "newest") (aD 0)) (Im (aB (aD 1) (aB (aD 2) aO))))) fX [.inn v (cW (κ 0) b),.fro (.int p),.fro (.int q),.fro (dTup th),.fro nd,.own (aJ ns),lv ns .no ns.length,.no]=.next [.inn v (cW (κ 0) b),.fro (.int p),.fro (.int q),.fro (dTup th),.fro nd,.own (aJ (ns++(lastAt b.asked p q).toList)),lv ns .no ns.length,.no]:=by
    have hw:=h.nw p q;cases e:posK b.nk (p,q)with
    | none=>rw[e]at hin hw;rw[lZ hin,←hw];show SR.next _=SR.next _;rw[show ((none:Option Nat).bind λj=>b.nv[j]?)=none from rfl];show SR.next _=SR.next [_,_,_,_,_,.own (aJ (ns++[])),_,_];rw[F2]
    | some j=>
      rw[e]at hin hw;obtain⟨j1,j2⟩:=rJ e;have hj:j<b.nv.length:=by rw[←h.nl];exact j1
      rw[vO hin,←hw,B9,B6 hj];refine(aBm (ds:=ns.map D.int) (d:=.int b.nv[j]) U ?_ (by rw[B7];omega)).trans ?_
      · unfold Ox
        rw[show pJ (dJ (κ 0) "newest") (aD 0) (rE [.inn v (cW (κ 0) b),.fro (.int p),.fro (.int q),.fro (dTup th),.fro nd,.own (aJ ns),lv ns .no ns.length,.no])=ND (.dt (b.nk.map tU) (b.nv.map D.int))from cQ U Eu,B9,hkey,B9];dsimp only;rw[aBJ h,e,B9,C4,B6 hj];rfl
      · rw[wW]
        rfl
  refine aBs hif ?_;have h4:(ns++(lastAt b.asked p q).toList).length≤51:=by
    rw[C7];have:(lastAt b.asked p q).toList.length≤1:=by cases lastAt b.asked p q<;>simp
    omega
  refine cL (d:=.int b.asked.length) (fG (aA (cQ U sH) U) (Mm _)) (by exact Nat.le_of_ble_eq_true U) ?_;refine qD (d:=cW (κ 0) b) U (Qc (d0:=cW (κ 0) b) (ds:=b.asked.map Yw) (d:=Yw (gJ b p q th ns)) U U vy ?_ (by rw[B7];omega)) U ?_
  · exact nO (aA (bC U U) (aA (bC U U) (aA (bC U (lN th)) (aA (fG (aA (cQ U (WW (by omega))) U) (LC _)) U)))) (by exact Nat.le_of_ble_eq_true U)
  rw[show eO ([]++[L2.Step.fld (κ 0) "asked"]) (cW (κ 0) b) (.lst (b.asked.map Yw++[Yw (gJ b p q th ns)]))=dI (κ 0) (iK b.bD) (vP (b.asked++[gJ b p q th ns])) (.dt (b.nk.map tU) (b.nv.map D.int)) (zO b.held) (.lst (tV b.bD.length b.asked b.held))from by rw[vf];exact wg];refine qD U (aDP (d:=.int b.asked.length) (k:=tU (p,q)) U U YG U U U (by
    have:=h.nl;rw[B7];have:=h.nkl
    omega)) U ?_
  rw[show eO ([]++[L2.Step.fld (κ 0) "newest"]) (dI (κ 0) (iK b.bD) (vP (b.asked++[gJ b p q th ns])) (.dt (b.nk.map tU) (b.nv.map D.int)) (zO b.held) (.lst (tV b.bD.length b.asked b.held))) (.dt (lE (b.nk.map tU) (tU (p,q))) (putD (b.nk.map tU) (b.nv.map D.int) (tU (p,q)) (.int b.asked.length)))=dI (κ 0) (iK b.bD) (vP (b.asked++[gJ b p q th ns])) (.dt ((lE b.nk (p,q)).map tU) ((putD b.nk b.nv (p,q) (b.asked.length:Int)).map D.int)) (zO b.held) (.lst (tV b.bD.length b.asked b.held))from by
    rw[PK (λ_ _=>Hl),PL (λ_ _=>Hl) D.int];exact YH]
  refine qD U (Qc (p:=[L2.Step.fld (κ 0) "unsettled", .ix p.toNat]) (ds:=(mO b.asked b.held p).map D.int) (d:=.int b.asked.length) U ?_ ((Wd Zw).trans (YJ (Zx h0 h1))) (bC U U) ?_) U ?_
  · show (if 0≤p then _ else _)=_
    rw[if_pos h0];rfl
  · rw[B7]
    have:=PB b.asked b.held p;omega
  refine Ms U ⟨_,.inl U,?_⟩;show ND (SD.inn v (eO [L2.Step.fld (κ 0) "unsettled", .ix p.toNat] _ _))=ND (SD.inn v _);rw[We Zw,YK (Zx h0 h1),jo];have hnot:(b.asked.length:Int)∉b.held:=λz=>by have:=h.nums.2 _ z;omega
  have e:=aDS (n:=b.bD.length) (c:=gJ b p q th ns) hnot h0 h1;rw[←wW]at e;rw[show p.toNat=(gJ b p q th ns).cA.toNat from rfl,show mO b.asked b.held p=mO b.asked b.held (gJ b p q th ns).cA from rfl,e];rfl
theorem aDT{tO:List (List (List Int))}(hl:tO.length≤8):sZ κ [.ins (κ 0) [] [],iK tO]=ND (.non,cW (κ 0) ⟨tO,[],[],[],[]⟩):=by
 refine oX U λv=>?_;unfold Qg;have h1:jG (oK (aD 1)) [] nY (fL dList (aB (aD 0) aO)) (rE ([.inn v (.ins (κ 0) [] []),.fro (iK tO)].set 0 (.own (.ins (κ 0) [] []))))=ND (iK tO):=Iu (xs:=tO) (ψ:=fU) (φ:=fU) (kO U) (by omega) λx _=>fG (aA U U) (sE (Gj λd hd=>by
  obtain⟨t,_,rfl⟩:=G5.mp hd;exact lN t))
 refine qD U (tL (p:=[]) (nm:=[]) U U U h1 (by decide) U) U ?_;refine qD U (tL (p:=[]) (nm:=["panes"]) (d:=vP []) U U U U (by decide) (by decide +kernel)) U ?_;refine qD U (tL (p:=[]) (nm:=["panes", "asked"]) (d:=.dt [] []) U U U U (by decide) (by decide +kernel)) U ?_;refine qD U (tL (p:=[]) (nm:=["panes", "asked", "newest"]) (d:=zO []) U U U U (by decide) (by decide +kernel)) U ?_;refine Qa U (tL (p:=[]) (nm:=["panes", "asked", "newest", "held"]) (d:=.lst (tO.map λ_=>aJ [])) U U U (Iu (xs:=tO) (ψ:=fU) (φ:=λ_=>aJ []) (kO U) (by omega) λx _=>rfl) (by decide) (by decide +kernel)) U ⟨_,.inr ⟨U,U⟩,?_⟩;have e:(tO.map λ_=>aJ [])=tV tO.length [] []:=by
  unfold tV;apply K5;intro k;rw[C4,C4];by_cases hk:k<tO.length
  ·rw[B6 hk,G8 hk];rfl
  ·rw[E1 (by omega),E1 (by rw[E3];omega)];rfl
 unfold cW jQ;dsimp only;rw[←e];rfl
theorem Ae.init{tO:List (List (List Int))}(hl:tO.length≤8):Ae ⟨tO,[],[],[],[]⟩:=⟨⟨M3 _,λk hk=>absurd hk (I0 _)⟩,⟨c9,λx hx=>by cases hx⟩,λk hk=>absurd hk (I0 _),U,λp q=>rfl,hl,D1 _⟩
def val(ps:List (List (List Int)))(p q:Nat):List Int:=(ps.getD p []).getD q []
def topOf(cs:List jX)(d:List Int):Option Int→List Int
 | some k=>(at_ cs k.toNat).thing
 | none=>d
theorem jq{b:Bn}(p q:Int):posK (b.nk.map tU) (tU (p,q))=posK b.nk (p,q):=wB (λ_ _=>Hl) _ _
def face(b:Bn)(p q:Int):List Int:=topOf b.asked (val b.bD p.toNat q.toNat) (lastAt b.asked p q)
theorem Qy{ps:List (List Int)}{q:Int}(h0:0≤q)(h1:q<(ps.length:Int)):fJ (fU ps) (.int q)=ND (dTup (ps.getD q.toNat [])):=uA h0 (by
 rw[C4,gY (d:=[]) (show q.toNat<ps.length by omega)]
 rfl)
theorem aDU{b:Bn}(h:Ae b){p q:Int}(h0:0≤p)(h1:p<(b.bD.length:Int))(h2:0≤q)(h3:q<((b.bD.getD p.toNat []).length:Int)):tD κ [cW (κ 0) b,.int p,.int q]=ND (dTup (face b p q)):=by
 suffices hh:∃d,tD κ [cW (κ 0) b,.int p,.int q]=ND d∧d=dTup (face b p q) by obtain⟨d,e1,rfl⟩:=hh;exact e1
 refine jh U ?_;unfold Qj;refine XC (d:=.non) (bO U (show ("check_place" : Str)∉Tn by decide +kernel) U U (Dc κ h0 h1 h2 h3)) ?_;have hkey:Im (aB (aD 1) (aB (aD 2) aO)) (rE [.fro (cW (κ 0) b),.fro (.int p),.fro (.int q)])=ND (tU (p,q)):=rfl;have hnw:pJ (dJ (κ 0) "newest") (aD 0) (rE [.fro (cW (κ 0) b),.fro (.int p),.fro (.int q)])=ND (.dt (b.nk.map tU) (b.nv.map D.int)):=cQ U Eu;have hin:fB (Su NH (Im (aB (aD 1) (aB (aD 2) aO))) (pJ (dJ (κ 0) "newest") (aD 0))) (rE [.fro (cW (κ 0) b),.fro (.int p),.fro (.int q)])=ND (posK b.nk (p,q)).isSome:=by refine cJ ?_;unfold Su;rw[hkey,B9,hnw,B9];dsimp only;rw[jq];rfl
 have hw:=h.nw p q;unfold face;cases e:posK b.nk (p,q)with
 | some j=>
  rw[e]at hin hw;obtain⟨j1,j2⟩:=rJ e;have hj:j<b.nv.length:=by rw[←h.nl];exact j1
  rw[B9,B6 hj]at hw;have hl:=wA hw.symm;rw[←hw];refine aEK hin U ?_;have hg:Ox (pJ (dJ (κ 0) "newest") (aD 0)) (Im (aB (aD 1) (aB (aD 2) aO))) (rE [.fro (cW (κ 0) b),.fro (.int p),.fro (.int q)])=ND (.int b.nv[j]):=by unfold Ox;rw[hnw,B9,hkey,B9];dsimp only;rw[jq,e,B9,C4,B6 hj];rfl
  have hc:fJ (vP b.asked) (.int b.nv[j])=ND (Yw (at_ b.asked b.nv[j].toNat)):=by have:=Yx (cs:=b.asked) (k:=b.nv[j].toNat) (by omega);rw[show ((b.nv[j].toNat:Nat):Int)=b.nv[j] by omega]at this;exact this
  exact KZ (bC (aK (aK (cQ U sH) hg hc) U (Py _)) (lN _)) ⟨_,U,U⟩
 | none=>rw[e]at hin hw;rw[←hw];refine Vp hin U ?_;apply Le;exact uV (bC (aK (aK (cQ U Bq) U (wC h0 h1)) U (Qy h2 h3)) (lN _)) ⟨_,U,U⟩
theorem PQ{b:Bn}:nF κ [cW (κ 0) b]=ND (vP b.asked):=kZ U (fY (fG (aA (cQ U sH) U) (sE (aBz _))))
def PX(cs:List jX)(l:List Int)(cA:Int)(r:List Int):Prop:=r.Pairwise (·<·)∧r.length≤cs.length∧∀x,x∈r↔(0≤x∧x<cs.length∧(at_ cs x.toNat).cA=cA∧x∉l)∧∀m∈(at_ cs x.toNat).needs,m∈l∨m∈r
theorem aBK{cs:List jX}{ks nums:List Int}(hg:Good cs)(hu:nums.Pairwise (·<·))(hn:∀x∈nums,0≤x∧x<cs.length)(hl:nums.length≤124):∃r,tG [vP cs,zO ks,aJ nums]=ND (aJ r)∧r.Pairwise (·<·)∧r.length≤nums.length∧∀x,x∈r↔x∈nums∧∀m∈(at_ cs x.toNat).needs,m∈ks∨m∈r:=by
  suffices h:∃d,tG [vP cs,zO ks,aJ nums]=ND d∧∃r,d=aJ r∧r.Pairwise (·<·)∧r.length≤nums.length∧∀x,x∈r↔x∈nums∧∀m∈(at_ cs x.toNat).needs,m∈ks∨m∈r by obtain⟨d,h1,r,rfl,h2⟩:=h;exact⟨r,h1,h2⟩
  refine sW U ?_;unfold Qk;refine cL (d:=zO []) U (by exact Nat.le_of_ble_eq_true U) ?_;refine je (xs:=nums.map D.int) (λn env=>∃(r:List Int)(v:SD),env=[.fro (vP cs),.fro (zO ks),.fro (aJ nums),.own (zO r),v]∧r.Pairwise (·<·)∧r.length≤n∧∀x,x∈r↔x∈nums.take n∧∀m∈(at_ cs x.toNat).needs,m∈ks∨m∈r) U (kO U) ⟨[],_,U,.nil,D1 _,λx=>by simp⟩ ?_ ?_
  · rintro n x env hx ⟨r,v,rfl,h1,h2,h3⟩
    refine⟨by walk_at "lt", ?_⟩;rw[C4]at hx;cases qq:nums[n]? with
    | none=>rw[qq]at hx;cases hx
    | some y=>
      rw[qq]at hx;cases hx;have hnl:=(D4.mp qq).1;have hy:=hn y (E4 qq);obtain⟨k,rfl⟩:∃k:Nat,y=k:=⟨y.toNat,by omega⟩
      have hk:k<cs.length:=by omega
      obtain⟨g1,g2,g3⟩:=hg.2 k hk;have hc:=Yx (cs:=cs) hk;have htk:nums.take (n+1)=nums.take n++[(k:Int)]:=by rw[O4,qq];rfl
      have lt:∀z∈nums.take n,z<(k:Int):=λz hz=>by have hu':=hu.sublist (M5 (n+1) nums);rw[htk]at hu';exact(K7.mp hu').2.2 z hz k (by simp)
      have rlt:∀z∈r,z<(k:Int):=λz hz=>lt z ((h3 z).mp hz).1;have Ag:=Iv (fi:=oK (f2 fJ (f2 fJ (aD 0) (aD 4)) (fC (.int 3)))) (fr:=[1,3]) (fc:=nY) (fe:=qu (f2 (Dk NH) (aD 0) (aD 1)) (f2 (Dk NH) (aD 0) (aD 2))) (e:=rE [.fro (vP cs),.fro (zO ks),.fro (aJ nums),.own (zO r),.fro (.int (k:Int))]) (ms:=(at_ cs k).needs) (λ_=>NG) (λm=>.bl (decide (m∈ks)||decide (m∈r)))
        (vg (aK (aK U U hc) U (LR _))) (by omega) (λm hm=>rfl) λm hm _=>aDO (aK U U (Pu NH m ks)) (aK U U (Pu NH m r))
      rw[Q4.mpr λ_ _=>rfl]at Ag;have hall:=aBB (λm:Int=>decide (m∈ks)||decide (m∈r)) (at_ cs k).needs;apply zL (b:=(at_ cs k).needs.all λm=>decide (m∈ks)||decide (m∈r))
      · exact cJ (fG (aA Ag U) hall)
      · intro hb
        have hb:∀m∈(at_ cs k).needs,m∈ks∨m∈r:=λm hm=>by simpa using M8.mp hb m hm
        have hnr:(k:Int)∉r:=λz=>by have:=rlt _ z;omega
        have e:Yv r k=r++[(k:Int)]:=by unfold Yv;rw[if_neg hnr]
        have hp:=aEL (i:=3) (f:=aD 4) (f':=fC (.bl NG)) (env:=[.fro (vP cs),.fro (zO ks),.fro (aJ nums),.own (zO r),.fro (.int (k:Int))]) (ks:=r) (k:=k) U U U (by omega);rw[e]at hp;refine⟨_,hp,r++[(k:Int)],_,U,?_,by rw[C7];simp;omega,λz=>?_⟩
        · refine K7.mpr ⟨h1,by simp,λz hz w hw=>?_⟩
          rw[D9.mp hw];exact rlt z hz
        · rw[htk,G0,G0]
          constructor
          · rintro(z1 | z1)
            · obtain⟨a1,a2⟩:=(h3 z).mp z1
              exact⟨.inl a1,λm hm=>(a2 m hm).imp id λq=>G6 _ q⟩
            · rw[D9.mp z1,C8]
              exact⟨.inr (by simp),λm hm=>(hb m hm).imp id λq=>G6 _ q⟩
          · rintro⟨z1,z2⟩
            rcases z1 with z1 | z1
            · refine .inl ((h3 z).mpr ⟨z1,λm hm=>(z2 m hm).imp id λq=>?_⟩)
              rcases G0.mp q with q | q
              · exact q
              · exfalso
                have a:=lt z z1;have zr:=hn z (L5 z1);have b:=(hg.2 z.toNat (by omega)).1 m hm;rw[D9.mp q]at b;omega
            · exact .inr z1
      · intro hb
        have hb:¬∀m∈(at_ cs k).needs,m∈ks∨m∈r:=λz=>by
          have:((at_ cs k).needs.all λm=>decide (m∈ks)||decide (m∈r))=NG:=M8.mpr λm hm=>by simpa using z m hm
          rw[this]at hb;cases hb
        apply aBt;refine⟨_,U,r,_,U,h1,by omega,λz=>?_⟩;rw[htk,G0];constructor
        · intro z1
          obtain⟨a1,a2⟩:=(h3 z).mp z1;exact⟨.inl a1,a2⟩
        · rintro⟨z1,z2⟩
          rcases z1 with z1 | z1
          · exact(h3 z).mpr ⟨z1,z2⟩
          · rw[D9.mp z1,C8]at z2
            exact absurd z2 hb
  · rintro env ⟨r,v,rfl,h1,h2,h3⟩
    rw[B7]at h2 h3;rw[N8]at h3;exact uV (fG (aA U U) (aBA r)) ⟨_,U,r,U,h1,h2,h3⟩
def Bn.strike(b:Bn)(k:Int):Bn:={b with bD:=b.bD.set (at_ b.asked k.toNat).cA.toNat ((b.bD.getD (at_ b.asked k.toNat).cA.toNat []).set (at_ b.asked k.toNat).place.toNat (at_ b.asked k.toNat).thing),held:=b.held++[k]}
def Bn.bV(b:Bn)(ks:List Int):Bn:=ks.foldl Bn.strike b
theorem jE(ks:List Int):∀b:Bn,(b.bV ks).asked=b.asked:=by
 induction ks with
 | nil=>intro b;rfl
 | cons k ks ih=>intro b;exact(ih (b.strike k)).trans U
theorem pD(ks:List Int):∀b:Bn,(b.bV ks).held=b.held++ks:=by
 induction ks with
 | nil=>intro b;exact(F2 _).symm
 | cons k ks ih=>intro b;exact(ih (b.strike k)).trans (by show (b.held++[k])++ks=_;rw[O3];rfl)
theorem YL(ks:List Int):∀b:Bn,(b.bV ks).nk=b.nk∧(b.bV ks).nv=b.nv:=by
 induction ks with
 | nil=>intro b;exact⟨U,U⟩
 | cons k ks ih=>intro b;exact ih (b.strike k)
theorem Zy(b:Bn)(k:Int):(b.strike k).bD.length=b.bD.length∧∀p:Nat,((b.strike k).bD.getD p []).length=(b.bD.getD p []).length:=by
 unfold Bn.strike;refine⟨by rw[K2],λp=>?_⟩;dsimp only;simp only[B8,G4];split
 ·rename_i c;split
  ·rename_i l;rw[U3,K2,c]
  ·rename_i l;rw[E1 (show b.bD.length≤p by omega)]
 ·rfl
theorem lC(ks:List Int):∀b:Bn,(b.bV ks).bD.length=b.bD.length∧∀p:Nat,((b.bV ks).bD.getD p []).length=(b.bD.getD p []).length:=by
 induction ks with
 | nil=>intro b;exact⟨U,λ_=>rfl⟩
 | cons k ks ih=>intro b;have a:=ih (b.strike k);have c:=Zy b k;exact⟨a.1.trans c.1,λp=>(a.2 p).trans (c.2 p)⟩
theorem Zz(b:Bn)(ks:List Int)(k:Int):b.bV (ks++[k])=(b.bV ks).strike k:=by unfold Bn.bV;rw[T6];rfl
theorem Ae.bV{b:Bn}(h:Ae b){r:List Int}(hu:r.Nodup)(hm:∀x∈r,0≤x∧x<(b.asked.length:Int))(hn:∀x∈r,x∉b.held):Ae (b.bV r):=by
 have e1:=jE r b;have e2:=pD r b;have e3:=YL r b;have e4:=lC r b;refine⟨by rw[e1];exact h.good,?_,λk hk=>?_,?_,λp q=>?_,by rw[e4.1];exact h.few,?_⟩
 ·rw[e1,e2];refine⟨P4.mpr ⟨h.nums.1,hu,λa ha c hc z=>hn c hc (z▸ha)⟩,λx hx=>?_⟩;rcases G0.mp hx with z | z
  ·exact h.nums.2 x z
  ·exact hm x z
 ·rw[e1]at hk ⊢;rw[e4.1,e4.2];exact h.PN k hk
 ·rw[e3.1,e3.2];exact h.nl
 ·rw[e3.1,e3.2,e1];exact h.nw p q
 ·rw[e3.1,e1];exact h.nkl
theorem YM(ps:List (List (List Int)))(k:Nat)(p:List (List Int)):D.lst ((ps.map fU).set k (fU p))=iK (ps.set k p):=by unfold iK;rw[Y7]
theorem wj(ps:List (List Int))(k:Nat)(t:List Int):D.lst ((ps.map dTup).set k (dTup t))=fU (ps.set k t):=by unfold fU;rw[Y7]
theorem aDV{ks:List Int}{k:Int}(h:k∉ks):D.dk (lE (ks.map (F7:Int→Key)) (F7 k)) (putD (ks.map (F7:Int→Key)) (ks.map λ_=>D.bl NG) (F7 k) (.bl NG))=zO (ks++[k]):=by unfold lE putD zO;rw[zM h];simp only[Option.isSome_none,W8,if_false,J0];rfl
theorem wk{b:Bn}{e:List D}{k:Int}(h0:0≤k)(h1:k<(b.asked.length:Int))(hl:b.held.length≤1000)(hs:0≤(at_ b.asked k.toNat).cA∧(at_ b.asked k.toNat).cA<(b.bD.length:Int)∧0≤(at_ b.asked k.toNat).place∧(at_ b.asked k.toNat).place<((b.bD.getD (at_ b.asked k.toNat).cA.toNat []).length:Int))(hn:k∉b.held):rR κ [jQ (κ 0) b e,.int k]=ND (.non,jQ (κ 0) (b.strike k) e):=by
 refine oX U λv=>?_;unfold Gv;have hc:fJ (vP b.asked) (.int k)=ND (Yw (at_ b.asked k.toNat)):=by have:=Yx (cs:=b.asked) (k:=k.toNat) (by omega);rw[show ((k.toNat:Nat):Int)=k by omega]at this;exact this
 refine cL (d:=Yw (at_ b.asked k.toNat)) (bC (aK (cQ U sH) U hc) (aBy _)) (by exact Nat.le_of_ble_eq_true U) ?_;unfold Bn.strike;generalize at_ b.asked k.toNat=c at *;have hp:(b.bD.map fU)[c.cA.toNat]?=ND (fU (b.bD.getD c.cA.toNat [])):=by rw[C4,gY (d:=[]) (show c.cA.toNat<b.bD.length by omega)];rfl
 refine qD U (jj (p:=[L2.Step.fld (κ 0) "panes", .ix c.cA.toNat]) (k:=c.place) (ds:=(b.bD.getD c.cA.toNat []).map dTup) (d:=dTup c.thing) U ?_ ((Wd Wf).trans (YJ hp)) (aK U U (LQ c)) (bC (aK U U (Py c)) (lN _)) hs.2.2.1 (by rw[B7];exact hs.2.2.2)) U ?_
 ·exact aBI (p:=[L2.Step.fld (κ 0) "panes"]) U (aK U U (jg c)) hs.1
 rw[wj];rw[show eO [L2.Step.fld (κ 0) "panes", .ix c.cA.toNat] (jQ (κ 0) b e) (fU ((b.bD.getD c.cA.toNat []).set c.place.toNat c.thing))=dI (κ 0) (iK (b.bD.set c.cA.toNat ((b.bD.getD c.cA.toNat []).set c.place.toNat c.thing))) (vP b.asked) (.dt (b.nk.map tU) (b.nv.map D.int)) (zO b.held) (.lst e)from by
  unfold jQ;rw[We Wf];unfold iK;rw[YK hp,vz,YM]
  rfl]
 refine Qa U (Mq (d:=.bl NG) (k:=F7 k) (kd:=.int k) U U aBG U U U U (by rw[B7];omega)) U ⟨_,.inr ⟨U,U⟩,?_⟩;show ND (SD.inn v (eO [L2.Step.fld (κ 0) "held"] _ _))=ND (SD.inn v _);rw[aBH,aDV hn];rfl
theorem QB{b:Bn}(h:Ae b){p:Int}{most:D}(h0:0≤p)(h1:p<(b.bD.length:Int))(hmo:most=.non∨∃m:Int,most=.int m):∃r,PX b.asked b.held p r∧∀taken,(most=.non→taken=r)→(∀m:Int,most=.int m→taken=r.take m.toNat)→qG κ [cW (κ 0) b,.int p,most]=ND (aJ taken,cW (κ 0) (b.bV taken)):=by
 have h60:=h.good.1;have hk:=h.nums.len;have hnl:=PB b.asked b.held p;obtain⟨r,hr,r1,r2,r3⟩:=aBK (ks:=b.held) h.good (Zu b.asked b.held p) (λx hx=>by have:=Ad.mp hx;exact⟨this.1,this.2.1⟩) (by omega);have hR:PX b.asked b.held p r:=⟨r1,by omega,λx=>by rw[r3,Ad]⟩
 refine⟨r,hR,λtaken t1 t2=>?_⟩;have hsub:∃n,taken=r.take n:=by
  rcases hmo with z | ⟨m,z⟩
  ·exact⟨r.length,by rw[t1 z,N8]⟩
  ·exact⟨_,t2 m z⟩
 have htm:∀x∈taken,x∈r:=λx hx=>by obtain⟨n,rfl⟩:=hsub;exact L5 hx
 have htu:taken.Pairwise (·<·):=by obtain⟨n,rfl⟩:=hsub;exact r1.sublist (M5 _ _)
 have htl:taken.length≤124:=by obtain⟨n,rfl⟩:=hsub;rw[F3];omega
 have htr:∀x∈taken,0≤x∧x<(b.asked.length:Int)∧(at_ b.asked x.toNat).cA=p∧x∉b.held:=λx hx=>((hR.2.2 x).mp (htm x hx)).1;refine oX U λv=>?_;unfold Kh;refine XC (d:=.non) (bO U (show ("check_pane" : Str)∉Tn by decide +kernel) U U (Hq κ h0 h1)) ?_;refine cL (d:=aJ r) (bW (aA (cQ U sH) (aA (cQ U PJ) (aA (aK (cQ U jn) U (uA h0 (Zx h0 h1))) U))) U hr) (by exact Nat.le_of_ble_eq_true U) ?_;have hif:qP (fB (f2 (Io NG) (aD 2) (fC .non))) (cV 3 (qw NG (aD 3) (Xx) (pI (fL HH (aB (aD 2) (aB (fC (.int 0)) aO)))))) fX [.inn v (cW (κ 0) b),.fro (.int p),.fro most,.own (aJ r),.no]=.next [.inn v (cW (κ 0) b),.fro (.int p),.fro most,.own (aJ taken),.no]:=by
  rcases hmo with rfl | ⟨m,rfl⟩
  ·rw[lZ (cJ (aK U U (Bl NG .non))),t1 rfl];rfl
  ·rw[vO (cJ (aK U U (Bl NG (.int m))))];refine wR (d:=aJ taken) ((Px U U (Bk (fG (aA U (aA U U)) (Vt _ _)))).trans ?_) (by exact Nat.le_of_ble_eq_true U);rw[t2 m U,show (if(0:Int) > m then(0:Int)else m)=((m.toNat:Nat):Int) by split<;>omega,aGE]
 refine aBs hif ?_;refine XD (ns:=taken) [.inn v (jQ (κ 0) (b.bV taken) (tV b.bD.length b.asked b.held)),.fro (.int p),.fro most,.own (aJ taken),lv taken .no taken.length] U U (λv2 k env=>env=[.inn v (jQ (κ 0) (b.bV (taken.take k)) (tV b.bD.length b.asked b.held)),.fro (.int p),.fro most,.inn v2 (aJ taken),lv taken .no k]) (λv2=>rfl) (λv2 k env e=>by rw[e];rfl) ?_ (λv2 env e=>by rw[e,N8];rfl) ?_
 ·rintro v2 k x env hx rfl;refine⟨by walk_at "lt", ?_⟩;have hxm:=htr x (E4 hx);have e1:=jE (taken.take k) b;have e2:=pD (taken.take k) b;have e4:=lC (taken.take k) b;have hnx:taken.take (k+1)=taken.take k++[x]:=by rw[O4,hx];rfl
  have hst:=wk κ (b:=b.bV (taken.take k)) (e:=tV b.bD.length b.asked b.held) (k:=x) hxm.1 (by rw[e1];exact hxm.2.1) (by rw[e2,C7,F3];omega) (by rw[e1,e4.1,e4.2];exact h.PN x.toNat (by omega)) (by
   rw[e2,G0]
   rintro(z | z)
   ·exact hxm.2.2.2 z
   ·have hu:=htu.sublist (M5 (k+1) taken);rw[hnx]at hu;have:=(K7.mp hu).2.2 x z x (by simp)
    omega)
  refine⟨_,Vu (jO (d0:=jQ (κ 0) (b.bV (taken.take k)) (tV b.bD.length b.asked b.held)) (p:=[]) (nm:=Tn) U U U (by decide +kernel) U hst),?_⟩;have e:lv taken .no (k+1)=.fro (.int x):=by show SD.fro (.int (taken.getD k 0))=_;rw[jW hx]
  rw[e,hnx,Zz];rfl
 have e1:=jE taken b;have e2:=pD taken b;have e4:=lC taken b;have Ag:=Ec (fi:=oK (f2 fJ (pJ (dJ (κ 0) "unsettled") (aD 0)) (aD 1))) (fr:=[0]) (fc:=fB (f2 (Dk NG) (aD 0) (pJ (dJ (κ 0) "held") (aD 1)))) (fe:=cN (aD 0)) (e:=rE ([.inn v (jQ (κ 0) (b.bV taken) (tV b.bD.length b.asked b.held)),.fro (.int p),.fro most,.own (aJ taken),lv taken .no taken.length].set 0 (.own (jQ (κ 0) (b.bV taken) (tV b.bD.length b.asked b.held))))) (ms:=mO b.asked b.held p) (λm=>!decide (m∈(b.bV taken).held)) id
  (kO (aK (cQ U jn) U (uA h0 (Zx h0 h1)))) (by omega) (λm hm=>cJ (aK U (cQ U PJ) (Pu NG m _))) λm hm _=>bC U U
 rw[List.map_id]at Ag;have hun:∀q:Int,mO b.asked (b.held++taken) q=(mO b.asked b.held q).filter λm=>!decide (m∈b.held++taken):=λq=>by
  refine pU (Zu _ _ _) ((Zu _ _ _).sublist Q3) λx=>?_;rw[Ad,K9,Ad];constructor
  ·rintro⟨a1,a2,a3,a4⟩
   exact⟨⟨a1,a2,a3,λz=>a4 (G6 _ z)⟩,by rw[decide_eq_false a4];rfl⟩
  ·rintro⟨⟨a1,a2,a3,a4⟩,a5⟩
   exact⟨a1,a2,a3,by simpa using a5⟩
 have hoth:∀q:Int,q≠p→mO b.asked (b.held++taken) q=mO b.asked b.held q:=λq hq=>by
  rw[hun];refine Q4.mpr λx hx=>?_;have hx:=Ad.mp hx;have:x∉b.held++taken:=λz=>by
   rcases G0.mp z with z | z
   ·exact hx.2.2.2 z
   ·exact hq (hx.2.2.1.symm.trans (htr x z).2.2.1)
  rw[decide_eq_false this];rfl
 rw[e2,←hun]at Ag;refine qD U (jj (p:=[L2.Step.fld (κ 0) "unsettled"]) (k:=p) (ds:=tV b.bD.length b.asked b.held) U U Zw U Ag h0 (by unfold tV;rw[B7,E3];exact h1)) U ?_;refine Ms U ⟨_,.inl U,?_⟩;show ND (SD.inn v (eO [L2.Step.fld (κ 0) "unsettled"] (jQ (κ 0) (b.bV taken) _) _))=ND (SD.inn v _);unfold cW jQ;rw[jo,e1,e2,e4.1];have hl:(tV b.bD.length b.asked b.held).set p.toNat (aJ (mO b.asked (b.held++taken) p))=tV b.bD.length b.asked (b.held++taken):=by
  unfold tV;apply K5;intro k;rw[G4,B7,E3,C4,C4];by_cases e:p.toNat=k
  ·rw[if_pos e,if_pos (by omega),G8 (by omega),G7,show ((k:Nat):Int)=p by omega]
  ·rw[if_neg e];by_cases hk:k<b.bD.length
   ·rw[G8 hk,G7,G7,hoth _ (by omega)]
   ·rw[E1 (by rw[E3];omega)];rfl
 rw[hl]
theorem YQ{b:Bn}{k:Int}{p q:Nat}(h:¬((at_ b.asked k.toNat).cA.toNat=p∧(at_ b.asked k.toNat).place.toNat=q)):val (b.strike k).bD p q=val b.bD p q:=by
 unfold val Bn.strike;generalize at_ b.asked k.toNat=c at *;dsimp only;simp only[B8,G4];by_cases e:c.cA.toNat=p
 ·subst e;rw[if_pos rfl];by_cases l:c.cA.toNat<b.bD.length
  ·rw[if_pos l];simp only[U3,G4];rw[if_neg λz=>h ⟨U,z⟩]
  ·rw[if_neg l,E1 (show b.bD.length≤c.cA.toNat by omega)]
 ·rw[if_neg e]
theorem Km{p q:Nat}:∀(ks:List Int)(b:Bn),(∀k∈ks,¬((at_ b.asked k.toNat).cA.toNat=p∧(at_ b.asked k.toNat).place.toNat=q))→val (b.bV ks).bD p q=val b.bD p q
 | [],b,_=>rfl
 | k::ks,b,h=>(Km ks (b.strike k) λj hj=>h j (C6 _ hj)).trans (YQ (h k C9))
theorem QC{cs:List jX}{p q:Int}(h:lastAt cs p q=none){k:Nat}(hk:k<cs.length):¬((at_ cs k).cA=p∧(at_ cs k).place=q):=λz=>by unfold lastAt at h;rw[c6,List.getLast?_eq_none_iff,c7]at h;exact h k (F5.mpr hk) (decide_eq_true z)
theorem BJ{b:Bn}(h:Ae b){r:List Int}{p q:Int}(hp:0≤p)(hq:0≤q)(hm:∀x∈r,0≤x∧x<(b.asked.length:Int)):face (b.bV r) p q=face b p q:=by
 unfold face;rw[jE];cases e:lastAt b.asked p q with
 | some k=>rfl
 | none=>exact Km r b λk hk z=>by have:=hm k hk;have hs:=h.PN k.toNat (by omega);exact QC e (show k.toNat<b.asked.length by omega) ⟨by omega,by omega⟩
structure Mp where
 k:List Int
 v:List Int
def Mp.get(m:Mp)(x:Int):Option Int:=(posK m.k x).bind λj=>m.v[j]?
def Mp.put(m:Mp)(x y:Int):Mp:=⟨lE m.k x,putD m.k m.v x y⟩
def Lj(m:Mp):D:=.dk (m.k.map F7) (m.v.map D.int)
def BK:Option Int→D
 | some y=>.int y
 | none=>.non
theorem BL(a b:Int)(h:(F7 a:Key)=F7 b):a=b:=by injection h
theorem YT{m:Mp}(h:m.k.length=m.v.length)(x:Int):Pg (Lj m) (.int x)=ND (BK (m.get x)):=by
 unfold Pg Lj Mp.get;dsimp only;rw[show Sq (.int x)=ND (.inl x)from rfl,B9,wB BL];cases e:posK m.k x with
 | none=>rfl
 | some j=>have:=(rJ e).1;dsimp only;rw[C4,B9,B6 (show j<m.v.length by omega)];rfl
theorem Mp.pY{m:Mp}(h:m.k.length=m.v.length)(x y z:Int):(m.put x y).get z=if z=x then ND y else m.get z:=Rs.pY h
theorem YW(m:Mp)(x y:Int):D.dk (lE (m.k.map (F7:Int→Key)) (.inl x)) (putD (m.k.map (F7:Int→Key)) (m.v.map D.int) (.inl x) (.int y))=Lj (m.put x y):=by unfold Lj Mp.put;rw[PK BL,PL BL D.int]
theorem aBL{α:Type} [DecidableEq α] (ks:List α) (k:α):(lE ks k).length≤ks.length+1:=by
 unfold lE;split
 ·omega
 ·rw[C7];simp
def Mp.Ok(m:Mp)(n:Nat):Prop:=m.k.length=m.v.length∧m.k.length≤n
theorem Mp.Ok.put{m:Mp}{n:Nat}(h:m.Ok n)(x y:Int):(m.put x y).Ok (n+1):=⟨vK h.1,G1 (aBL _ _) (U1 h.2)⟩
theorem Mp.Ok.mono{m:Mp}{n k:Nat}(h:m.Ok n)(l:n≤k):m.Ok k:=⟨h.1,G1 h.2 l⟩
section
variable{C:A7}{nm:List Str}{ks:List Key}{ds:List D}{x:Str}{j:Nat}{d y:D}
theorem mY(h:posK nm x=ND j)(hd:ds[j]?=ND d):dJ C x (.ins C nm ds)=ND d:=by unfold dJ;dsimp only;rw[if_pos U,h];exact hd
theorem aBM(h:posK nm x=ND j):Cd (.fld C x) (.ins C nm ds)=ND j:=by show (if C=C then posK nm x else none)=ND j;rw[if_pos rfl];exact h
theorem vA(h:posK nm x=ND j)(hd:ds[j]?=ND d):eV [.fld C x] (.ins C nm ds)=ND d:=tK (aBM h) hd
theorem vB(h:posK nm x=ND j)(hd:ds[j]?=ND d):eO [.fld C x] (.ins C nm ds) y=.ins C nm (ds.set j y):=qJ (aBM h) hd
end
def tW:List Str:=["bench", "spots", "string", "loose", "lasts", "comings", "goings"]
theorem w0:posK tW "bench" = ND 0:=by decide +kernel
theorem w1:posK tW "spots" = ND 1:=by decide +kernel
theorem w2:posK tW "string" = ND 2:=by decide +kernel
theorem w3:posK tW "loose" = ND 3:=by decide +kernel
theorem w4:posK tW "lasts" = ND 4:=by decide +kernel
theorem w5:posK tW "comings" = ND 5:=by decide +kernel
theorem w6:posK tW "goings" = ND 6:=by decide +kernel
def bks:List Key:=[.inr "recs", .inr "order", .inr "ins", .inr "outs", .inr "lasts", .inr "due", .inr "panes"]
structure Wb where
 b:Bn
 rs:List (List Int)
 od:List Int
 lo:List Int
 la:Mp
 co:Mp
 go:Mp
abbrev Wb.P(s:Wb):Nat:=s.b.bD.length
abbrev Wb.n(s:Wb):Nat:=s.b.asked.length
abbrev Wb.R(s:Wb)(x:Int):List Int:=s.rs.getD x.toNat []
def Wb.key(s:Wb)(x:Int):Int:=(s.R x).getD 0 0
def YX(P n:Nat):D:=.lst ((D2 n).map λk=>dTup [((k%P:Nat):Int),((k/P:Nat):Int)])
def aIu(rs:List (List Int)):D:=.lst (rs.map dTup)
def lH(κ:Nat→A7)(s:Wb):D:=.ins (κ 1) tW [cW (κ 0) s.b,YX s.P s.rs.length,aJ s.od,aJ s.lo,Lj s.la,Lj s.co,Lj s.go]
def bkD(s:Wb):D:=.dk bks [aIu s.rs,aJ s.od,Lj s.co,Lj s.go,Lj s.la,vP s.b.asked,.int s.P]
structure mQ(s:Wb):Prop where
 bn:Ae s.b
 p1:0<s.P
 len:∀k,k<s.rs.length→k/s.P<(s.b.bD.getD (k%s.P) []).length
 few:s.rs.length≤64
 pos:0<s.rs.length
 rcd:∀k,k<s.rs.length→s.rs.getD k []=face s.b ((k%s.P:Nat):Int) ((k/s.P:Nat):Int)∧(s.rs.getD k []).length=5
 las:∀k:Nat,k<s.rs.length→s.la.get k=lastAt s.b.asked ((k%s.P:Nat):Int) ((k/s.P:Nat):Int)
 lao:s.la.Ok s.n
 coo:s.co.Ok s.n
 goo:s.go.Ok s.n
 coi:∀x y,s.co.get x=ND y→0≤y∧y<(s.n:Int)
 goi:∀x y,s.go.get x=ND y→0≤y∧y<(s.n:Int)
 Tp:s.od.Nodup
 Cj:∀x∈s.od,1≤x∧x<(s.rs.length:Int)
 lon:s.lo.Nodup
 lom:∀x,x∈s.lo↔1≤x∧x<(s.rs.length:Int)∧x∉s.od
 key:s.od.Pairwise λx y=>s.key x<s.key y
 th:∀k,k<s.n→(at_ s.b.asked k).thing.length=5
theorem mQ.spot{s:Wb}(h:mQ s){x:Int}(h0:0≤x)(h1:x<(s.rs.length:Int)):0≤((x.toNat%s.P:Nat):Int)∧((x.toNat%s.P:Nat):Int)<(s.P:Int)∧0≤((x.toNat/s.P:Nat):Int)∧((x.toNat/s.P:Nat):Int)<((s.b.bD.getD ((x.toNat%s.P:Nat):Int).toNat []).length:Int):=by have h2:=h.len x.toNat (by omega);have h3:=T2 x.toNat h.p1;rw[C8];exact⟨N9 _,Int.ofNat_lt.mpr h3,N9 _,Int.ofNat_lt.mpr h2⟩
theorem aBN{P n:Nat}{x:Int}(h0:0≤x)(h1:x<(n:Int)):fJ (YX P n) (.int x)=ND (dTup [((x.toNat%P:Nat):Int),((x.toNat/P:Nat):Int)]):=uA h0 (by
 rw[C4,G8 (by omega)]
 rfl)
variable(κ:Nat→A7)
theorem oJ{s:Wb}(h:mQ s){x:Int}(h0:0≤x)(h1:x<(s.rs.length:Int)):bM κ [lH κ s,.int x]=ND (dTup (s.R x)):=by refine kZ U ?_;unfold xY;obtain⟨a,b,c,d⟩:=h.spot h0 h1;refine WR (d:=dTup [((x.toNat%s.P:Nat):Int),((x.toNat/s.P:Nat):Int)]) (bC (aK (cQ U (mY w1 U)) U (aBN h0 h1)) (lN _)) (by exact Nat.le_of_ble_eq_true U) ?_;rw[Wb.R,(h.rcd x.toNat (by omega)).1];exact fY (bO (nm:=Tn) (cQ U (mY w0 U)) (by decide +kernel) (aA (aK U U U) (aA (aK U U U) U)) U (aDU κ h.bn a b c d))
theorem QD{s:Wb}(h:mQ s)(x:Int):nQ κ [lH κ s,.int x]=ND (BK (s.co.get x)):=kZ U (fY (aK (cQ U (mY w5 U)) U (YT h.coo.1 x)))
theorem QF{s:Wb}(h:mQ s)(x:Int):nR κ [lH κ s,.int x]=ND (BK (s.go.get x)):=kZ U (fY (aK (cQ U (mY w6 U)) U (YT h.goo.1 x)))
def lV(os:List (Option Int)):D:=.lst (os.map BK)
def Rq(os:List (Option Int)):List Int:=os.filterMap id
theorem ZC{fi:FA}{fr:List Nat}{e:DE}(os:List (Option Int))(h:fi e=ND (os.map BK))(hl:os.length≤1000):jG fi fr (fB (f2 (Io NG) (aD 0) (fC .non))) (cN (aD 0)) e=ND (aJ (Rq os)):=by
 refine zK h (by rw[B7];omega) ?_;clear h hl
 induction os with
 | nil=>rfl
 | cons o os ih=>
  rw[D5];unfold oO;cases o with
  | none=>exact ih
  | some y=>show ((oO _ _ (os.map BK)).map (D.int y::·))=_;rw[ih];rfl
theorem aBO(os:List (Option Int))(hl:os.length≤1000):Zd [lV os]=ND (aJ (Rq os)):=oW U (fY (ZC os (kO U) hl))
def Wb.wr(s:Wb)(x:Int)(r ns:List Int):Wb:={s with b:=s.b.put ((x.toNat%s.P:Nat):Int) ((x.toNat/s.P:Nat):Int) r ns,rs:=s.rs.set x.toNat r,la:=s.la.put x s.n}
theorem aBP(s:Wb)(x:Int)(r ns:List Int):(s.wr x r ns).n=s.n+1:=by show (s.b.asked++[_]).length=_;rw[C7];rfl
theorem tQ(s:Wb)(x:Int)(r ns:List Int):(s.wr x r ns).rs.length=s.rs.length:=K2
theorem qL{α:Type}(l:List α)(i j:Nat)(x d:α)(h:i<l.length):(l.set i x).getD j d=if i=j then x else l.getD j d:=by
 rw[B8,G4,B8];by_cases c:i=j
 ·rw[if_pos c,if_pos h,if_pos c];rfl
 ·rw[if_neg c,if_neg c]
theorem ZD{s:Wb}{x y:Int}{r ns:List Int}(h0:0≤x)(h1:x<(s.rs.length:Int))(hy:0≤y):(s.wr x r ns).R y=if y=x then r else s.R y:=by
 show (s.rs.set x.toNat r).getD y.toNat []=_;rw[qL _ _ _ _ _ (by omega)];by_cases c:y=x
 ·rw[if_pos c,if_pos (by rw[c])]
 ·rw[if_neg c,if_neg (by omega)]
theorem aBQ{b:Bn}{p q p' q':Int}{th ns:List Int}:face (b.put p q th ns) p' q'=if p=p'∧q=q' then th else face b p' q':=by
 unfold face;show topOf (b.asked++[gJ b p q th ns]) _ (lastAt (b.asked++[gJ b p q th ns]) p' q')=_;rw[qK];show topOf _ _ (if p=p'∧q=q' then _ else _)=_;by_cases c:p=p'∧q=q'
 ·rw[if_pos c,if_pos c];show (at_ (b.asked++[gJ b p q th ns]) (b.asked.length:Int).toNat).thing=th;rw[C8,nP];rfl
 ·rw[if_neg c,if_neg c];cases e:lastAt b.asked p' q' with
  | none=>rfl
  | some k=>have:=wA e;show (at_ _ k.toNat).thing=(at_ _ k.toNat).thing;rw[gZ (by omega)]
theorem Qz{P a b:Nat}(h1:((a%P:Nat):Int)=((b%P:Nat):Int))(h2:((a/P:Nat):Int)=((b/P:Nat):Int)):a=b:=by have e1:=u3 h1;have e2:=u3 h2;have a1:=n9 a P;have a2:=n9 b P;rw[←a1,←a2,e1,e2]
theorem mQ.wr{s:Wb}(h:mQ s){x:Int}{r ns:List Int}(h0:0≤x)(h1:x<(s.rs.length:Int))(hr:r.length=5)(hn:∀m∈ns,0≤m∧m<(s.n:Int))(hl:ns.length≤8)(hm:s.n<124)(hk:x∈s.od→r.getD 0 0=s.key x):mQ (s.wr x r ns):=by
 obtain⟨a,b,c,d⟩:=h.spot h0 h1;have hlen:=tQ s x r ns;have hnn:=aBP s x r ns;have hxe:((x.toNat:Nat):Int)=x:=by omega
 refine⟨h.bn.put hm a b c d hn hl,h.p1,?_,?_,?_,?_,?_,?_,?_,?_,?_,?_,h.Tp,?_,h.lon,?_,?_,?_⟩
 ·rw[hlen];exact h.len
 ·rw[hlen];exact h.few
 ·rw[hlen];exact h.pos
 ·intro k hk';rw[hlen]at hk';show (s.rs.set x.toNat r).getD k []=face (s.b.put _ _ r ns) _ _∧((s.rs.set x.toNat r).getD k []).length=5;rw[qL _ _ _ _ _ (by omega),aBQ];by_cases e:x.toNat=k
  ·subst e;rw[if_pos U,if_pos ⟨U,U⟩];exact⟨U,hr⟩
  ·rw[if_neg e,if_neg λz=>e (Qz z.1 z.2)];exact h.rcd k hk'
 ·intro k hk';rw[hlen]at hk';show (s.la.put x s.n).get k=lastAt (s.b.asked++[gJ _ _ _ _ _]) _ _;rw[Mp.pY h.lao.1,qK];by_cases e:x.toNat=k
  ·subst e;rw[if_pos hxe,if_pos ⟨U,U⟩]
  ·rw[if_neg (by omega),if_neg λz=>e (Qz z.1 z.2)];exact h.las k hk'
 ·rw[hnn];exact h.lao.put _ _
 ·rw[hnn];exact h.coo.mono (by omega)
 ·rw[hnn];exact h.goo.mono (by omega)
 ·intro z y e;have:=h.coi z y e;rw[hnn];omega
 ·intro z y e;have:=h.goi z y e;rw[hnn];omega
 ·intro z hz;rw[hlen];exact h.Cj z hz
 ·intro z;rw[hlen];exact h.lom z
 ·have kk:∀y∈s.od,(s.wr x r ns).key y=s.key y:=λy hy=>by
   show ((s.wr x r ns).R y).getD 0 0=_;rw[ZD h0 h1 (by have:=h.Cj y hy;omega)];by_cases e:y=x
   ·subst e;rw[if_pos rfl];exact hk hy
   ·rw[if_neg e];rfl
  exact h.key.imp_of_mem λ{y z} hy hz q=>by rw[kk y hy,kk z hz];exact q
 ·intro k hk';rw[hnn]at hk';show (at_ (s.b.asked++[gJ _ _ _ _ _]) k).thing.length=5;rcases J2 k s.n with z | z
  ·rw[gZ z];exact h.th k z
  ·have e:k=s.b.asked.length:=Nat.le_antisymm (Nat.lt_succ_iff.mp hk') z;rw[e,nP];exact hr
theorem mQ.ZF{s:Wb}(h:mQ s):s.n≤124:=h.bn.good.1
theorem mapA{o:Option (List D)}{es:List D}(h:o=ND es):o.map (·++[])=ND es:=by rw[h];show ND (es++[])=_;rw[F2]
theorem QG{s:Wb}(h:mQ s){x:Int}{r:List Int}{os:List (Option Int)}(h0:0≤x)(h1:x<(s.rs.length:Int))(hn:∀m∈Rq os,0≤m∧m<(s.n:Int))(hl:os.length≤9):mD κ [lH κ s,.int x,dTup r,lV os]=ND (.int s.n,lH κ (s.wr x r (Rq os))):=by
 refine oX U λv=>?_;unfold Gn;obtain⟨a,b,c,d⟩:=h.spot h0 h1;have hkl:(Rq os).length≤9:=G1 (List.length_filterMap_le _ _) hl;refine cL (d:=dTup [((x.toNat%s.P:Nat):Int),((x.toNat/s.P:Nat):Int)]) (bC (aK (cQ U (mY w1 U)) U (aBN h0 h1)) (lN _)) (by exact Nat.le_of_ble_eq_true U) ?_;refine Iw (d:=.int s.n) (env':=[.inn v (.ins (κ 1) tW [cW (κ 0) (s.b.put ((x.toNat%s.P:Nat):Int) ((x.toNat/s.P:Nat):Int) r (Rq os)),YX s.P s.rs.length,aJ s.od,aJ s.lo,Lj s.la,Lj s.co,Lj s.go]),.fro (.int x),.fro (dTup r),.fro (lV os),.own (dTup [((x.toNat%s.P:Nat):Int),((x.toNat/s.P:Nat):Int)]),.no])
  ((jO (p:=[L2.Step.fld (κ 1) "bench"]) (nm:=Tn) (es:=[.int ((x.toNat%s.P:Nat):Int),.int ((x.toNat/s.P:Nat):Int),dTup r,aJ (Rq os)]) U U (vA w0 U) (by decide +kernel) (mapA (dY (aK U U U) (dY (aK U U U) (dY U (dY (bW (aA U U) U (aBO os (by omega))) U))))) (aGU κ h.bn a b c d hn (by omega) (.inr U))).trans (by
   rw[vB w0 rfl]
   rfl)) (by exact Nat.le_of_ble_eq_true U) ?_
 refine qD U (Mq (p:=[L2.Step.fld (κ 1) "lasts"]) (k:=.inl x) (kd:=.int x) (d:=.int s.n) U U (vA w4 U) U U U U (by rw[B7];have:=h.lao.2;have:=h.ZF;omega)) U ?_;refine Ms U ⟨_,.inl U,?_⟩;show ND (SD.inn v (eO [L2.Step.fld (κ 1) "lasts"] _ _))=ND (SD.inn v _);rw[vB w4 U,YW];unfold lH;rw[tQ];rfl
theorem aDW(o:Option Int):(BK o).jF=NG:=by cases o<;>rfl
theorem Wh(os:List (Option Int)):D.eU (os.map BK)=NG:=Gj λd hd=>by obtain⟨o,_,rfl⟩:=G5.mp hd;exact aDW o
theorem Ra(a b:List (Option Int))(h:a.length+b.length≤1000):dD (lV a) (lV b)=ND (lV (a++b)):=by unfold lV;rw[J0];exact Vn (by rw[KQ,Wh,Wh];rfl) (by rw[B7,B7];omega)
theorem divmod{x:Int}{P:Nat}(h0:0≤x):x%(P:Int)=((x.toNat%P:Nat):Int)∧x/(P:Int)=((x.toNat/P:Nat):Int):=by
 have e:x=((x.toNat:Nat):Int):=by omega
 constructor
 ·rw[Y8,←e]
 ·rw[Y9,←e]
theorem Jq(ns:List Int):aJ ns=lV (ns.map ND):=by unfold aJ lV;rw[K4];rfl
theorem Ah(ns:List Int):Rq (ns.map ND)=ns:=by unfold Rq;rw[List.filterMap_map];exact List.filterMap_some
theorem Hr(o:Option Int)(os:List (Option Int)):Rq (o::os)=o.toList++Rq os:=by cases o<;>rfl
def Wb.ns(s:Wb)(x:Int)(ns:List Int):List Int:=(s.co.get x).toList++ns
theorem mQ.ZG{s:Wb}(h:mQ s){x:Int}{ns:List Int}(hn:∀m∈ns,0≤m∧m<(s.n:Int)):∀m∈s.ns x ns,0≤m∧m<(s.n:Int):=λm hm=>by
 rcases G0.mp hm with z | z
 ·cases e:s.co.get x with
  | none=>rw[e]at z;cases z
  | some y=>rw[e]at z;rw[D9.mp z];exact h.coi x y e
 ·exact hn m z
theorem mK{α:Type}(o:Option α):o.toList.length≤1:=by cases o<;>simp
theorem QH{s:Wb}(h:mQ s){x:Int}{r:List Int}{os:List (Option Int)}(h0:0≤x)(h1:x<(s.rs.length:Int))(hn:∀m∈Rq os,0≤m∧m<(s.n:Int))(hl:os.length≤7):eY κ [lH κ s,.int x,dTup r,lV os]=ND (.int s.n,lH κ (s.wr x r (s.ns x (Rq os)))):=by
 refine oX U λv=>?_;unfold vW;have e:s.ns x (Rq os)=Rq (s.co.get x::os):=by rw[Hr];rfl
 rw[e];refine Mr (d:=.int s.n) (env':=[.inn v (lH κ (s.wr x r (Rq (s.co.get x::os)))),.fro (.int x),.fro (dTup r),.fro (lV os)]) (jO (p:=[]) (nm:=tW) (es:=[.int x,dTup r,lV (s.co.get x::os)]) U U U (by decide +kernel) (mapA (dY U (dY U (Qd (aK (a:=lV [s.co.get x]) (b:=lV os) (gH (aA (bO (nm:=tW) U (by decide +kernel) U U (QD κ h x)) U) (by exact Nat.le_of_ble_eq_true U)) U (Ra _ _ (by simp;omega))) U)))) (QG κ h h0 h1 (by rw[←e];exact h.ZG hn) (by simp;omega))) ⟨_,.inl U,U⟩
theorem aDX{s:Wb}(h:mQ s){x:Int}{r ns:List Int}(h0:0≤x)(h1:x<(s.rs.length:Int))(hn:∀m∈ns,0≤m∧m<(s.n:Int))(hl:ns.length≤7):eY κ [lH κ s,.int x,dTup r,aJ ns]=ND (.int s.n,lH κ (s.wr x r (s.ns x ns))):=by have:=QH κ h (r:=r) (os:=ns.map ND) h0 h1 (by rw[Ah];exact hn) (by rw[B7];exact hl);rw[Ah,←Jq]at this;exact this
def xu(r:List Int)(y:Int):List Int:=[r.getD 0 0,y,r.getD 2 0,r.getD 3 0,r.getD 4 0]
theorem rB{r:List Int}{k:Nat}(h:k<r.length):fJ (dTup r) (.int k)=ND (.int (r.getD k 0)):=uB (N9 _) (by
 rw[C4,C8,gY (d:=0) h]
 rfl)
theorem mQ.five{s:Wb}(h:mQ s){x:Int}(h0:0≤x)(h1:x<(s.rs.length:Int)):(s.R x).length=5:=(h.rcd x.toNat (by omega)).2
theorem QJ{s:Wb}(h:mQ s){x y:Int}{os:List (Option Int)}(h0:0≤x)(h1:x<(s.rs.length:Int))(hn:∀m∈Rq os,0≤m∧m<(s.n:Int))(hl:os.length≤7):lR κ [lH κ s,.int x,.int y,lV os]=ND (.int s.n,lH κ (s.wr x (xu (s.R x) y) (s.ns x (Rq os)))):=by refine oX U λv=>?_;unfold Kg;have h5:=h.five h0 h1;refine cL (d:=dTup (s.R x)) (bO (nm:=tW) U (by decide +kernel) U U (oJ κ h h0 h1)) (by exact Nat.le_of_ble_eq_true U) ?_;refine Mr (d:=.int s.n) (env':=[.inn v (lH κ (s.wr x (xu (s.R x) y) (s.ns x (Rq os)))),.fro (.int x),.fro (.int y),.fro (lV os),.own (dTup (s.R x))]) (jO (p:=[]) (nm:=tW) (es:=[.int x,dTup (xu (s.R x) y),lV os]) U U U (by decide +kernel) (mapA (dY U (dY (nO (aA (bC (aK U U (rB (k:=0) (by omega))) U) (aA (bC U U) (aA (bC (aK U U (rB (k:=2) (by omega))) U) (aA (bC (aK U U (rB (k:=3) (by omega))) U) (aA (bC (aK U U (rB (k:=4) (by omega))) U) U))))) (by exact Nat.le_of_ble_eq_true U)) (dY U U)))) (QH κ h h0 h1 hn hl)) ⟨_,.inl U,U⟩
theorem aDY{s:Wb}(h:mQ s){x y:Int}{ns:List Int}(h0:0≤x)(h1:x<(s.rs.length:Int))(hn:∀m∈ns,0≤m∧m<(s.n:Int))(hl:ns.length≤7):lR κ [lH κ s,.int x,.int y,aJ ns]=ND (.int s.n,lH κ (s.wr x (xu (s.R x) y) (s.ns x ns))):=by have:=QJ κ h (y:=y) (os:=ns.map ND) h0 h1 (by rw[Ah];exact hn) (by rw[B7];exact hl);rw[Ah,←Jq]at this;exact this
theorem Ew{s:Wb}{ns:List Int}{nd:D}(hn:∀m∈ns,0≤m∧m<(s.n:Int))(hnd:(nd=.non∧ns=[])∨nd=aJ ns):bY κ [lH κ s,nd]=ND (aJ ns):=by
  suffices hh:∃d,bY κ [lH κ s,nd]=ND d∧d=aJ ns by obtain⟨d,e1,rfl⟩:=hh;exact e1
  refine jh U ?_;unfold rG;refine cL (d:=aJ ns) ?_ (by exact Nat.le_of_ble_eq_true U) ?_
  · rcases hnd with ⟨rfl,rfl⟩ | rfl
    · exact aEM (cJ (aK U U (Bl NH .non))) U
    · exact aEN (cJ (aK U U (Bl NH (aJ ns)))) (fG (aA U U) (sE (dG ns)))
  refine XD (ns:=ns) [.fro (lH κ s),.fro nd,.own (aJ ns),lv ns .no ns.length] U U (λv2 k env=>env=[.fro (lH κ s),.fro nd,.inn v2 (aJ ns),lv ns .no k]) (λv2=>rfl) (λv2 k env e=>by rw[e];rfl) ?_ (λv2 env e=>by rw[e];rfl) ?_
  · rintro v2 k x env hx rfl
    refine⟨by walk_at "lt", _,Gm (d:=.non) (bO (nm:=Tn) (cQ U (mY w0 U)) (by decide +kernel) U U (Af κ (hn x (E4 hx)).1 (hn x (E4 hx)).2)),?_⟩;have e:lv ns .no (k+1)=.fro (.int x):=by show SD.fro (.int (ns.getD k 0))=_;rw[jW hx]
    rw[e];rfl
  exact aBv U ⟨_,U,U⟩
def Wb.ahead(s:Wb)(at_:Int):Int:=(0::s.od).getD at_.toNat 0
theorem aIx(od:List Int)(h:od.length≤1000):dD (aJ [0]) (aJ od)=ND (aJ (0::od)):=sX [0] od (by simp;omega)
theorem mQ.aDZ{s:Wb}(h:mQ s):s.od.length≤64:=by
 have:=kY s.rs.length s.od h.Tp λx hx=>by have:=h.Cj x hx;omega
 have:=h.few;omega
theorem mQ.aIy{s:Wb}(h:mQ s):s.lo.length<64:=by
 have hh:=kY s.rs.length (0::s.lo) (E8.mpr ⟨λz=>by have:=(h.lom 0).mp z;omega,h.lon⟩) λx hx=>by
  rcases C5.mp hx with z | z
  ·have:=h.pos;omega
  ·have:=(h.lom x).mp z;omega
 rw[D8]at hh;have:=h.few;omega
theorem Ko{s:Wb}(h:mQ s){k:Int}(h0:0≤k)(h1:k≤(s.od.length:Int)):iR κ [lH κ s,.int k]=ND (.int (s.ahead k)):=by have:=h.aDZ;exact kZ U (fY (bC (aK (aK (gH (aA U U) (by exact Nat.le_of_ble_eq_true U)) (cQ U (mY w2 U)) (aIx _ (by omega))) U (iY h0 (by simp;omega))) U))
theorem mQ.ahead{s:Wb}(h:mQ s){k:Int}(h0:0≤k)(h1:k≤(s.od.length:Int)):(s.ahead k=0∨s.ahead k∈s.od)∧0≤s.ahead k∧s.ahead k<(s.rs.length:Int):=by
 have hm:s.ahead k∈(0::s.od):=by unfold Wb.ahead;rw[B8,B6 (show k.toNat<(0::s.od).length by simp;omega)];exact N7 _
 rcases C5.mp hm with z | z
 ·rw[z];have:=h.pos;exact⟨.inl U,by omega,by omega⟩
 ·have:=h.Cj _ z;exact⟨.inr z,by omega,by omega⟩
theorem ZJ{s:Wb}(h:mQ s){x a b c:Int}{ns:List Int}{nd:D}(h0:0≤x)(h1:x<(s.rs.length:Int))(hn:∀m∈ns,0≤m∧m<(s.n:Int))(hl:ns.length≤7)(hnd:(nd=.non∧ns=[])∨nd=aJ ns):oZ κ [lH κ s,.int x,.int a,.int b,.int c,nd]=ND (.int s.n,lH κ (s.wr x [(s.R x).getD 0 0,(s.R x).getD 1 0,a,b,c] (s.ns x ns))):=by refine oX U λv=>?_;unfold zT;have h5:=h.five h0 h1;refine cL (d:=dTup (s.R x)) (bO (nm:=tW) U (by decide +kernel) U U (oJ κ h h0 h1)) (by exact Nat.le_of_ble_eq_true U) ?_;refine Mr (d:=.int s.n) (env':=[.inn v (lH κ (s.wr x [(s.R x).getD 0 0,(s.R x).getD 1 0,a,b,c] (s.ns x ns))),.fro (.int x),.fro (.int a),.fro (.int b),.fro (.int c),.fro nd,.own (dTup (s.R x))]) (jO (p:=[]) (nm:=tW) (es:=[.int x,dTup [(s.R x).getD 0 0,(s.R x).getD 1 0,a,b,c],aJ ns]) U U U (by decide +kernel) (mapA (dY U (dY (nO (aA (bC (aK U U (rB (k:=0) (by omega))) U) (aA (bC (aK U U (rB (k:=1) (by omega))) U) (aA (bC U U) (aA (bC U U) (aA (bC U U) U))))) (by exact Nat.le_of_ble_eq_true U)) (Qd (bO (nm:=tW) U (by decide +kernel) U U (Ew κ hn hnd)) U)))) (aDX κ h h0 h1 hn hl)) ⟨_,.inl U,U⟩
def Wb.new(s:Wb):Int:=VB s.lo
def Wb.e1(s:Wb)(k key was now fV:Int):Wb:=s.wr s.new [key,(s.R (s.ahead k)).getD 1 0,was,now,fV] (s.go.get s.new).toList
def Wb.e2(s:Wb)(k key was now fV:Int)(fu:List Int):Wb:=(s.e1 k key was now fV).wr (s.ahead k) (xu ((s.e1 k key was now fV).R (s.ahead k)) s.new) ((s.e1 k key was now fV).ns (s.ahead k) ((s.n:Int)::fu))
def Wb.ent(s:Wb)(k key was now fV:Int)(fu:List Int):Wb:={s.e2 k key was now fV fu with od:=s.od.take k.toNat++s.new::s.od.drop k.toNat,lo:=s.lo.eraseIdx (s.lo.idxOf s.new),co:=s.co.put s.new (s.n+1:Nat)}
theorem mQ.new{s:Wb}(h:mQ s)(hl:0<s.lo.length):s.new∈s.lo∧1≤s.new∧s.new<(s.rs.length:Int)∧s.new∉s.od∧0≤s.new:=by have:=(Dm hl).1;have hm:=(h.lom _).mp this;exact⟨this,hm.1,hm.2.1,hm.2.2,Int.le_trans (by decide) hm.1⟩
theorem mQ.aGW{s:Wb}(h:mQ s)(x:Int):∀m∈(s.go.get x).toList,0≤m∧m<(s.n:Int):=λm hm=>by
 cases e:s.go.get x with
 | none=>rw[e]at hm;cases hm
 | some y=>rw[e]at hm;rw[D9.mp hm];exact h.goi x y e
theorem mQ.e1{s:Wb}(h:mQ s)(hl:0<s.lo.length)(hm:s.n<124)(k key was now fV:Int):mQ (s.e1 k key was now fV):=by obtain⟨a,b,c,d,e⟩:=h.new hl;exact h.wr e c U (h.aGW _) (G1 (mK _) (by decide)) hm λz=>absurd z d
theorem aBR(s:Wb)(k key was now fV:Int):(s.e1 k key was now fV).n=s.n+1:=aBP _ _ _ _
theorem mQ.e2{s:Wb}(h:mQ s)(hl:0<s.lo.length)(hm:s.n<123){k key was now fV:Int}{fu:List Int}(h0:0≤k)(h1:k≤(s.od.length:Int))(hn:∀m∈fu,0≤m∧m<(s.n:Int))(hf:fu.length≤5):mQ (s.e2 k key was now fV fu)∧(∀m∈(s.n:Int)::fu,0≤m∧m<((s.e1 k key was now fV).n:Int))∧s.ahead k<((s.e1 k key was now fV).rs.length:Int):=by
 have w:=h.e1 hl (by omega) k key was now fV;obtain⟨a,b,c⟩:=h.ahead h0 h1;have hn2:∀m∈(s.n:Int)::fu,0≤m∧m<((s.e1 k key was now fV).n:Int):=λm hm=>by
  rw[aBR];rcases C5.mp hm with z | z
  ·omega
  ·have:=hn m z;omega
 have hc:s.ahead k<((s.e1 k key was now fV).rs.length:Int):=by show _<((s.wr _ _ _).rs.length:Int);rw[tQ];exact c
 refine⟨w.wr b hc U (w.ZG hn2) ?_ (by rw[aBR];omega) λz=>rfl,hn2,hc⟩;unfold Wb.ns;rw[C7];have:=mK ((s.e1 k key was now fV).co.get (s.ahead k));simp;omega
theorem aET(s:Wb)(k key was now fV:Int)(fu:List Int):(s.ent k key was now fV fu).n=s.n+2:=by show (s.e2 k key was now fV fu).n=_;unfold Wb.e2;rw[aBP,aBR]
theorem BP(s:Wb)(k key was now fV:Int)(fu:List Int):(s.ent k key was now fV fu).rs.length=s.rs.length:=by show (s.e2 k key was now fV fu).rs.length=_;unfold Wb.e2;rw[tQ];exact tQ _ _ _ _
theorem Jr{l:List Int}{x y:Int}(hn:l.Nodup):y∈l.eraseIdx (l.idxOf x)↔y∈l∧y≠x:=by rw[←Q5 U,hn.mem_erase_iff];exact and_comm
def Wb.Fits(s:Wb)(k key:Int):Prop:=(∀x∈s.od.take k.toNat,s.key x<key)∧∀x∈s.od.drop k.toNat,key<s.key x
theorem mQ.ent{s:Wb}(h:mQ s)(hl:0<s.lo.length)(hm:s.n<123){k key was now fV:Int}{fu:List Int}(h0:0≤k)(h1:k≤(s.od.length:Int))(hn:∀m∈fu,0≤m∧m<(s.n:Int))(hf:fu.length≤5)(hk:s.Fits k key):mQ (s.ent k key was now fV fu):=by
  obtain⟨w,_,_⟩:=h.e2 hl hm (key:=key) (was:=was) (now:=now) (fV:=fV) h0 h1 hn hf;obtain⟨a1,a2,a3,a4,a5⟩:=h.new hl;have hA:=h.ahead h0 h1;have hod:∀x,x∈s.od.take k.toNat++s.new::s.od.drop k.toNat↔x=s.new∨x∈s.od:=λx=>by
    conv=>rhs;rw[←M6 k.toNat s.od]
    simp only[G0,C5];constructor
    · rintro(z | z | z)
      · exact .inr (.inl z)
      · exact .inl z
      · exact .inr (.inr z)
    · rintro(z | z | z)
      · exact .inr (.inl z)
      · exact .inl z
      · exact .inr (.inr z)
  have hlen:=BP s k key was now fV fu;have hnn:=aET s k key was now fV fu;have kk:∀x,x=s.new∨x∈s.od→(s.ent k key was now fV fu).key x=if x=s.new then key else s.key x:=λx hx=>by
    have x0:0≤x:=by
      rcases hx with z | z
      · omega
      · have:=h.Cj x z;omega
    show ((s.e2 k key was now fV fu).R x).getD 0 0=_;have e1r:∀y,0≤y→(s.e1 k key was now fV).R y=if y=s.new then [key,(s.R (s.ahead k)).getD 1 0,was,now,fV]else s.R y:=λy hy=>ZD a5 a3 hy;have ne:s.ahead k≠s.new:=λz=>by
      rcases hA.1 with y | y
      · omega
      · exact a4 (z▸y)
    unfold Wb.e2;rw[ZD hA.2.1 (by show _<((s.wr _ _ _).rs.length:Int);rw[tQ];exact hA.2.2) x0];by_cases c:x=s.ahead k
    · rw[if_pos c,if_neg (by rw[c];exact ne),e1r _ hA.2.1,if_neg ne,c]
      rfl
    · rw[if_neg c,e1r x x0]
      by_cases c2:x=s.new
      · rw[if_pos c2,if_pos c2];rfl
      · rw[if_neg c2,if_neg c2];rfl
  refine⟨w.bn,w.p1,w.len,w.few,w.pos,w.rcd,w.las,w.lao,?_,?_,?_,?_,?_,?_,?_,?_,?_,w.th⟩
  · rw[hnn];exact(h.coo.put _ _).mono (by omega)
  · rw[hnn];exact h.goo.mono (by omega)
  · intro x y e
    have e:(s.co.put s.new (s.n+1:Nat)).get x=ND y:=e;rw[Mp.pY h.coo.1]at e;rw[hnn];split at e
    · cases e
      omega
    · have:=h.coi x y e
      omega
  · intro x y e
    have:=h.goi x y e;rw[hnn];omega
  · refine P4.mpr ⟨h.Tp.sublist (M5 _ _),E8.mpr ⟨λz=>a4 (V6 z),h.Tp.sublist (j8 _ _)⟩,λx hx y hy=>?_⟩
    rcases C5.mp hy with z | z
    · rintro rfl
      exact a4 (z▸L5 hx)
    · have:=h.Tp
      rw[←M6 k.toNat s.od]at this;exact(P4.mp this).2.2 x hx y z
  · intro x hx
    rw[hlen]
    rcases(hod x).mp hx with z | z
    · omega
    · exact h.Cj x z
  · exact h.lon.sublist (U7 _ _)
  · intro x
    show x∈s.lo.eraseIdx (s.lo.idxOf s.new)↔_;rw[hlen,Jr h.lon,h.lom x];show _↔1≤x∧x<(s.rs.length:Int)∧x∉s.od.take k.toNat++s.new::s.od.drop k.toNat;rw[hod x,not_or];constructor
    · rintro⟨⟨z1,z2,z3⟩,z4⟩
      exact⟨z1,z2,z4,z3⟩
    · rintro⟨z1,z2,z4,z3⟩
      exact⟨⟨z1,z2,z3⟩,z4⟩
  · have hp:=h.key
    rw[←M6 k.toNat s.od]at hp;obtain⟨p1,p2,p3⟩:=K7.mp hp;have nt:∀x∈s.od.take k.toNat,x≠s.new:=λx hx z=>a4 (z▸L5 hx);have nd:∀x∈s.od.drop k.toNat,x≠s.new:=λx hx z=>a4 (z▸V6 hx);have kt:∀x∈s.od.take k.toNat,(s.ent k key was now fV fu).key x=s.key x:=λx hx=>by rw[kk x (.inr (L5 hx)),if_neg (nt x hx)]
    have kd:∀x∈s.od.drop k.toNat,(s.ent k key was now fV fu).key x=s.key x:=λx hx=>by rw[kk x (.inr (V6 hx)),if_neg (nd x hx)]
    have kn:(s.ent k key was now fV fu).key s.new=key:=by rw[kk _ (.inl U),if_pos rfl]
    show (s.od.take k.toNat++s.new::s.od.drop k.toNat).Pairwise _;refine K7.mpr ⟨p1.imp_of_mem λ{x y} hx hy q=>by rw[kt x hx,kt y hy];exact q,J7.mpr ⟨λy hy=>by rw[kn,kd y hy];exact hk.2 y hy,p2.imp_of_mem λ{x y} hx hy q=>by rw[kd x hx,kd y hy];exact q⟩,λx hx y hy=>?_⟩;rw[kt x hx];rcases C5.mp hy with z | z
    · rw[z,kn]
      exact hk.1 x hx
    · rw[kd y z]
      exact p3 x hx y z
theorem aD0{s:Wb}{k key:Int}(h0:0≤k)(h1:k≤(s.od.length:Int))(hk:s.Fits k key):(((s.od.filter λx=>decide (s.key x<key)).length:Nat):Int)=k:=by
 conv=>lhs;rw[←M6 k.toNat s.od]
 rw[P1,Q4.mpr λx hx=>decide_eq_true (hk.1 x hx),c7.mpr λx hx=>by have:=hk.2 x hx;simp;omega,F2,F3];omega
theorem aBS{env:EN}{i:Nat}{π:FP}{f g:FE}{d0:D}{p:List L2.Step}{ns:List Int}{k y:Int}(h1:env[i]?=ND (.own d0))(h2:π (rE env)=ND p)(h3:eV p d0=ND (aJ ns))(h4:f (rE env)=ND (.int k))(h5:g (rE env)=ND (.int y))(k0:0≤k)(k1:k≤(ns.length:Int))(hl:ns.length<1000):Ym i π f g env=.next (env.set i (.own (eO p d0 (aJ (ns.take k.toNat++y::ns.drop k.toNat))))):=by unfold Ym;rw[h1,h2,h4,h5];dsimp only;rw[h3];unfold aJ;dsimp only;rw[jV];dsimp only;rw[if_pos ⟨k0,by omega,hl⟩]
theorem ZK{env:EN}{i:Nat}{π:FP}{g:FE}{d0:D}{p:List L2.Step}{ns:List Int}{y:Int}(h1:env[i]?=ND (.own d0))(h2:π (rE env)=ND p)(h3:eV p d0=ND (aJ ns))(h5:g (rE env)=ND (.int y))(hy:y∈ns):Sx i π g env=.next (env.set i (.own (eO p d0 (aJ (ns.eraseIdx (ns.idxOf y)))))):=by unfold Sx;rw[h1,h2,h5];dsimp only;rw[h3];unfold aJ;dsimp only;rw[jV];dsimp only;rw[if_pos hy]
theorem aBT{s:Wb}(h:mQ s)(hl:0<s.lo.length)(hm:s.n<123){k key was now fV:Int}{fu:List Int}{nd:D}(h0:0≤k)(h1:k≤(s.od.length:Int))(hn:∀m∈fu,0≤m∧m<(s.n:Int))(hf:fu.length≤5)(hk:s.Fits k key)(hnd:(nd=.non∧fu=[])∨nd=aJ fu) :
  rQ κ [lH κ s,.int key,.int was,.int now,.int fV,nd]=ND (.tup [.int s.new,.int (s.n+1:Nat)],lH κ (s.ent k key was now fV fu)):=by
 refine oX U λv=>?_;unfold Gs;obtain⟨a1,a2,a3,a4,a5⟩:=h.new hl;obtain⟨b1,b2,b3⟩:=h.ahead h0 h1;obtain⟨W2,hn2,hc⟩:=h.e2 hl hm (key:=key) (was:=was) (now:=now) (fV:=fV) h0 h1 hn hf;have W1:=h.e1 hl (by omega) k key was now fV;have h5:=h.five b2 b3;have ho:=h.aDZ;refine Vp (cJ (aK (fG (aA (cQ U (mY w3 U)) U) (pK _)) U (nM _ _))) (decide_eq_false (by omega)) (Le ?_);refine cL (d:=aJ fu) (bO (nm:=tW) U (by decide +kernel) U U (Ew κ hn hnd)) (by exact Nat.le_of_ble_eq_true U) ?_;have Ag:=Iv (fi:=oK (pJ (dJ (κ 1) "string") (aD 0))) (fr:=[0,1]) (fc:=fB (f2 dLt (f2 fJ (fD (κ 1) "record_of" 2 (bM κ) (aD 1) (aB (aD 0) aO) []) (fC (.int (0)))) (aD 2))) (fe:=cN (aD 0)) (e:=rE [.inn v (lH κ s),.fro (.int key),.fro (.int was),.fro (.int now),.fro (.int fV),.fro nd,.own (aJ fu),.no,.no,.no,.no,.no]) (ms:=s.od) (λx=>decide (s.key x<key)) (λx=>.int x) (kO (cQ U (mY w2 U))) (by omega) (λx hx=>by
  have:=h.Cj x hx;exact cJ (aK (aK (bO (nm:=tW) U (by decide +kernel) U U (oJ κ h (by omega) this.2)) U (rB (k:=0) (by rw[h.five (by omega) this.2];decide))) U (wU _ _))) λx hx _=>bC U U
 refine cL (d:=.int k) ((fG (aA Ag U) (Pn _)).trans (by rw[B7,aD0 h0 h1 hk])) (by exact Nat.le_of_ble_eq_true U) ?_;refine cL (d:=.int (s.ahead k)) (bO (nm:=tW) U (by decide +kernel) U U (Ko κ h h0 h1)) (by exact Nat.le_of_ble_eq_true U) ?_;refine cL (d:=.int s.new) (fG (aA (cQ U (mY w3 U)) U) (WX hl)) (by exact Nat.le_of_ble_eq_true U) ?_;refine Iw (d:=.int s.n) (env':=[.inn v (lH κ (s.e1 k key was now fV)),.fro (.int key),.fro (.int was),.fro (.int now),.fro (.int fV),.fro nd,.own (aJ fu),.own (.int k),.own (.int (s.ahead k)),.own (.int s.new),.no,.no])
  (jO (p:=[]) (nm:=tW) (es:=[.int s.new,dTup [key,(s.R (s.ahead k)).getD 1 0,was,now,fV],lV [s.go.get s.new]]) U U U (by decide +kernel) (mapA (dY U (Qd (nO (aA (bC U U) (aA (bC (aK (bO (nm:=tW) U (by decide +kernel) U U (oJ κ h b2 b3)) U (rB (k:=1) (by omega))) U) (aA (bC U U) (aA (bC U U) (aA (bC U U) U))))) (by exact Nat.le_of_ble_eq_true U)) (Qd (gH (aA (bO (nm:=tW) U (by decide +kernel) U U (QF κ h s.new)) U) (by exact Nat.le_of_ble_eq_true U)) U)))) ((QG κ h a5 a3 (by rw[Hr];exact λm hm=>h.aGW _ m (by simpa[Rq]using hm)) (by simp)).trans (by rw[Hr,show Rq []=[]from rfl,F2];rfl))) (by exact Nat.le_of_ble_eq_true U) ?_
 refine Iw (d:=.int (s.n+1:Nat)) (env':=[.inn v (lH κ (s.e2 k key was now fV fu)),.fro (.int key),.fro (.int was),.fro (.int now),.fro (.int fV),.fro nd,.own (aJ fu),.own (.int k),.own (.int (s.ahead k)),.own (.int s.new),.own (.int s.n),.no])
  (jO (p:=[]) (nm:=tW) (es:=[.int (s.ahead k),.int s.new,aJ ((s.n:Int)::fu)]) U U U (by decide +kernel) (mapA (dY U (dY U (dY (aK (gH (aA U U) (by exact Nat.le_of_ble_eq_true U)) U (sX [(s.n:Int)] fu (by simp;omega))) U)))) ((aDY κ W1 b2 hc hn2 (by simp;omega)).trans (by rw[aBR];rfl))) (by exact Nat.le_of_ble_eq_true U) ?_
 refine qD U (aBS (p:=[L2.Step.fld (κ 1) "string"]) (ns:=s.od) U U (vA w2 U) U U h0 h1 (by omega)) U ?_;rw[show eO [L2.Step.fld (κ 1) "string"] (lH κ (s.e2 k key was now fV fu)) (aJ (s.od.take k.toNat++s.new::s.od.drop k.toNat))=.ins (κ 1) tW _ from vB w2 rfl];refine qD U (ZK (p:=[L2.Step.fld (κ 1) "loose"]) (ns:=s.lo) U U (vA w3 U) U a1) U ?_;rw[vB w3 rfl];refine qD U (Mq (p:=[L2.Step.fld (κ 1) "comings"]) (k:=.inl s.new) (kd:=.int s.new) (d:=.int (s.n+1:Nat)) U U (vA w5 U) U U U U (by rw[B7];have:=W2.coo.2;have:=W2.ZF;omega)) U ?_;rw[vB w5 U,YW];exact Mr (aGG (nO (aA (bC U U) (aA (bC U U) U)) (by exact Nat.le_of_ble_eq_true U))) ⟨_,.inl U,U⟩
theorem Rb(s:Wb):jY κ [lH κ s]=ND (aJ s.od):=kZ U (fY (fG (aA (cQ U (mY w2 U)) U) (sE (dG _))))
theorem QK{s:Wb}(h:mQ s):uH κ [lH κ s]=ND (aJ (sortI s.lo)):=kZ U (fY (fG (aA (cQ U (mY w3 U)) U) (Gk h.aIy)))
theorem Tq{s:Wb}(h:mQ s)(x:Int):lF κ [lH κ s,.int x]=ND (BK (s.la.get x)):=kZ U (fY (aK (cQ U (mY w4 U)) U (YT h.lao.1 x)))
def Wb.cv(s:Wb)(r:List Int):Wb:={s with b:=s.b.bV r}
theorem mQ.cv{s:Wb}(h:mQ s){r:List Int}(hu:r.Nodup)(hm:∀x∈r,0≤x∧x<(s.n:Int))(hn:∀x∈r,x∉s.b.held):mQ (s.cv r)∧bkD (s.cv r)=bkD s∧(s.cv r).n=s.n∧(s.cv r).P=s.P:=by
 have e1:=jE r s.b;obtain⟨e2,e3⟩:=lC r s.b;have en:(s.cv r).n=s.n:=congrArg l0 e1;have eP:(s.cv r).P=s.P:=e2;refine⟨⟨h.bn.bV hu hm hn,by rw[eP];exact h.p1,λk hk=>?_,h.few,h.pos,λk hk=>?_,λk hk=>?_,by rw[en];exact h.lao,by rw[en];exact h.coo,by rw[en];exact h.goo,by rw[en];exact h.coi,by rw[en];exact h.goi,h.Tp,h.Cj,h.lon,h.lom,h.key,λk hk=>?_⟩,?_,en,eP⟩
 ·rw[eP];show _<((s.b.bV r).bD.getD _ []).length;rw[e3];exact h.len k hk
 ·rw[eP];show s.rs.getD k []=face (s.b.bV r) _ _∧_;rw[BJ h.bn (N9 _) (N9 _) hm];exact h.rcd k hk
 ·rw[eP];show s.la.get k=lastAt (s.b.bV r).asked _ _;rw[e1];exact h.las k hk
 ·show (at_ (s.b.bV r).asked k).thing.length=5;rw[e1];exact h.th k (by rw[←en];exact hk)
 ·unfold bkD;rw[eP];show D.dk bks [_,_,_,_,_,vP (s.b.bV r).asked,_]=_;rw[e1];rfl
def Wb.o1(s:Wb)(k x:Int)(fu:List Int):Wb:=s.wr (s.ahead k) (xu (s.R (s.ahead k)) ((s.R x).getD 1 0)) (s.ns (s.ahead k) ((s.la.get x).toList++fu))
def Wb.out(s:Wb)(k x:Int)(fu:List Int):Wb:={s.o1 k x fu with od:=s.od.eraseIdx k.toNat,lo:=s.lo++[x],go:=s.go.put x s.n}
theorem BR{l:List Int}{x:Int}:∀{k:Nat},l.Nodup→l[k]?=ND x→l.idxOf x=k:=by
 induction l with
 | nil=>intro k _ h;cases h
 | cons a l ih=>
  intro k hn h;have hn':=E8.mp hn;cases k with
  | zero=>cases h;exact V7
  | succ k=>have h:l[k]?=ND x:=h;have ne:a≠x:=λz=>hn'.1 (z▸E4 h);rw[V4,show (a==x)=NH from beq_false_of_ne ne,←ih hn'.2 h];rfl
theorem mQ.aJT{s:Wb}(h:mQ s){x:Int}(h0:0≤x)(h1:x<(s.rs.length:Int)):∀m∈(s.la.get x).toList,0≤m∧m<(s.n:Int):=λm hm=>by
 have e:=h.las x.toNat (by omega);rw[Q2 h0]at e;rw[e]at hm;cases z:lastAt s.b.asked ((x.toNat%s.P:Nat):Int) ((x.toNat/s.P:Nat):Int)with
 | none=>rw[z]at hm;cases hm
 | some y=>rw[z]at hm;rw[D9.mp hm];have:=wA z;exact⟨this.1,this.2.1⟩
theorem mQ.o1{s:Wb}(h:mQ s)(hm:s.n<124){k x:Int}{fu:List Int}(h0:0≤k)(h1:k≤(s.od.length:Int))(x0:0≤x)(x1:x<(s.rs.length:Int))(hn:∀m∈fu,0≤m∧m<(s.n:Int))(hf:fu.length≤5):mQ (s.o1 k x fu)∧∀m∈(s.la.get x).toList++fu,0≤m∧m<(s.n:Int):=by
 obtain⟨b1,b2,b3⟩:=h.ahead h0 h1;have hn2:∀m∈(s.la.get x).toList++fu,0≤m∧m<(s.n:Int):=λm hm=>by
  rcases G0.mp hm with z | z
  ·exact h.aJT x0 x1 m z
  ·exact hn m z
 refine⟨h.wr b2 b3 U (h.ZG hn2) ?_ hm λ_=>rfl,hn2⟩;unfold Wb.ns;rw[C7,C7];have:=mK (s.co.get (s.ahead k));have:=mK (s.la.get x);omega
theorem aEU(s:Wb)(k x:Int)(fu:List Int):(s.out k x fu).n=s.n+1:=by show (s.o1 k x fu).n=_;unfold Wb.o1;exact aBP _ _ _ _
theorem BV(s:Wb)(k x:Int)(fu:List Int):(s.out k x fu).rs.length=s.rs.length:=by show (s.o1 k x fu).rs.length=_;unfold Wb.o1;exact tQ _ _ _ _
theorem mQ.out{s:Wb}(h:mQ s)(hm:s.n<124){k x:Int}{fu:List Int}(h0:0≤k)(h1:k<(s.od.length:Int))(hx:s.od[k.toNat]?=ND x)(hn:∀m∈fu,0≤m∧m<(s.n:Int))(hf:fu.length≤5):mQ (s.out k x fu):=by
  have xm:x∈s.od:=E4 hx;have xr:=h.Cj x xm;obtain⟨w,_⟩:=h.o1 hm h0 (N0 h1) (x:=x) (by omega) xr.2 hn hf;have hi:=BR h.Tp hx;have hlen:=BV s k x fu;have hnn:=aEU s k x fu;refine⟨w.bn,w.p1,w.len,w.few,w.pos,w.rcd,w.las,w.lao,?_,?_,?_,?_,h.Tp.sublist (U7 _ _),?_,?_,?_,w.key.sublist (U7 _ _),w.th⟩
  · rw[hnn];exact h.coo.mono (by omega)
  · rw[hnn];exact h.goo.put _ _
  · intro z y e
    have:=h.coi z y e;rw[hnn];omega
  · intro z y e
    have e:(s.go.put x s.n).get z=ND y:=e;rw[Mp.pY h.goo.1]at e;rw[hnn];split at e
    · cases e
      omega
    · have:=h.goi z y e
      omega
  · intro z hz
    rw[hlen];exact h.Cj z (List.mem_of_mem_eraseIdx hz)
  · refine P4.mpr ⟨h.lon,by simp,λy hy z hz q=>?_⟩
    rw[D9.mp hz]at q;exact((h.lom y).mp hy).2.2 (q▸xm)
  · intro y
    show y∈s.lo++[x]↔_;rw[hlen];show _↔1≤y∧y<(s.rs.length:Int)∧y∉s.od.eraseIdx k.toNat;rw[←hi,Jr h.Tp,G0,D9,h.lom y];constructor
    · rintro(⟨z1,z2,z3⟩ | rfl)
      · exact⟨z1,z2,λq=>z3 q.1⟩
      · exact⟨xr.1,xr.2,λq=>q.2 U⟩
    · rintro⟨z1,z2,z3⟩
      by_cases e:y=x
      · exact .inr e
      · exact .inl ⟨z1,z2,λq=>z3 ⟨q,e⟩⟩
theorem aBU{s:Wb}(h:mQ s)(hm:s.n<124){k x:Int}{fu:List Int}{nd:D}(h0:0≤k)(h1:k<(s.od.length:Int))(hx:s.od[k.toNat]?=ND x)(hn:∀m∈fu,0≤m∧m<(s.n:Int))(hf:fu.length≤5)(hnd:(nd=.non∧fu=[])∨nd=aJ fu):mF κ [lH κ s,.int x,nd]=ND (.int s.n,lH κ (s.out k x fu)):=by
 refine oX U λv=>?_;unfold Gq;obtain⟨b1,b2,b3⟩:=h.ahead h0 (N0 h1);have xm:x∈s.od:=E4 hx;have xr:=h.Cj x xm;have hi:=BR h.Tp hx;have h5:=h.five (x:=x) (by omega) xr.2;obtain⟨W,hn2⟩:=h.o1 hm h0 (N0 h1) (x:=x) (by omega) xr.2 hn hf;have ek:Rq (s.la.get x::fu.map ND)=(s.la.get x).toList++fu:=by rw[Hr,Ah]
 have hix:uU (aJ s.od) (.int x)=ND (.int k):=by unfold uU aJ;dsimp only;rw[jV,B9,if_pos xm,hi,Q2 h0]
 have aIz:=Ew κ (s:=s) hn hnd;rw[Jq]at aIz;refine cL (d:=.int (s.ahead k)) (bO (nm:=tW) U (by decide +kernel) (aA (aK (cQ U (mY w2 U)) U hix) U) U (Ko κ h h0 (N0 h1))) (by exact Nat.le_of_ble_eq_true U) ?_;refine cL (d:=lV (s.la.get x::fu.map ND)) (aK (a:=lV [s.la.get x]) (b:=lV (fu.map ND)) (gH (aA (bO (nm:=tW) U (by decide +kernel) U U (Tq κ h x)) U) (by exact Nat.le_of_ble_eq_true U)) (bO (nm:=tW) U (by decide +kernel) U U aIz) (Ra _ _ (by simp;omega))) (by exact Nat.le_of_ble_eq_true U) ?_;refine Iw (d:=.int s.n) (env':=[.inn v (lH κ (s.o1 k x fu)),.fro (.int x),.fro nd,.own (.int (s.ahead k)),.own (lV (s.la.get x::fu.map ND)),.no]) (jO (p:=[]) (nm:=tW) (es:=[.int (s.ahead k),.int ((s.R x).getD 1 0),lV (s.la.get x::fu.map ND)]) U U U (by decide +kernel) (mapA (dY U (Qd (bC (aK (bO (nm:=tW) U (by decide +kernel) U U (oJ κ h (by omega) xr.2)) U (rB (k:=1) (by omega))) U) (dY U U)))) ((QJ κ h b2 b3 (by rw[ek];exact hn2) (by simp;omega)).trans (by rw[ek];rfl))) (by exact Nat.le_of_ble_eq_true U) ?_;refine qD U (ZK (p:=[L2.Step.fld (κ 1) "string"]) (ns:=s.od) U U (vA w2 U) U xm) U ?_;rw[hi,show eO [L2.Step.fld (κ 1) "string"] (lH κ (s.o1 k x fu)) (aJ (s.od.eraseIdx k.toNat))=.ins (κ 1) tW _ from vB w2 rfl];refine qD U (Qc (p:=[L2.Step.fld (κ 1) "loose"]) (ds:=s.lo.map D.int) (d:=.int x) U U (vA w3 U) (bC U U) (by rw[B7];have:=h.aIy;omega)) U ?_;rw[vB w3 U,wW];refine qD U (Mq (p:=[L2.Step.fld (κ 1) "goings"]) (k:=.inl x) (kd:=.int x) (d:=.int s.n) U U (vA w6 U) U U U U (by rw[B7];exact W7 (show s.go.k.length≤s.n from h.goo.2) (by omega))) U ?_;rw[vB w6 U,YW];exact Ms U ⟨_,.inl U,U⟩
section
variable{env env' e1 e2:EN}{b:Bool}{d d2 r:D}{f:FE}{ft:FT}{g1 g2:GS}{gb gc:GB}{gm:GM}{eF eZ:DE}{z y:FE2}{fs:FA2}{es xs ys:List D}{js:List Nat}{i:Nat}{φ:D→D→Option D}
end
section
variable{env env' e1 e2 e0:EN}{b:Bool}{d r:D}{gb:GB}{gm gn:GM}{as:List Ar}{F:List D→Option (D×List D)}{Mj JX ds':List D}{f:FE}{ds:List D}
theorem aBV(h1:takes (chA as) env=ND (Mj,e0))(h2:rdA as (rE env) (rE e0)=ND JX)(h3:F (uT (qC as) Mj JX)=ND (r,ds')):JZ as F env=ND (r,Sv (chA as) ds' env):=by unfold JZ;rw[h1,B9,h2,B9,h3];rfl
theorem aIA{eF eZ:DE}(h1:f eZ=ND d)(h2:rdA as eF eZ=ND ds):rdA (.rd f::as) eF eZ=ND (d::ds):=by show (f eZ).bind _=_;rw[h1,B9,h2];rfl
theorem aEV{eF eZ:DE}{i:Nat}(h2:rdA as eF eZ=ND ds):rdA (.ch i::as) eF eZ=ND ds:=h2
end
theorem Rc(ns:List Int)(k:Nat):lO [aJ ns,.int k]=ND (.int (ns.getD k 0)):=by
 refine oW U ?_;unfold MJ;by_cases c:k<ns.length
 ·have hx:=iY (ns:=ns) (i:=k) (by omega) (by omega);rw[C8]at hx;apply aGB
  ·walk_at "et"
  ·exact decide_eq_true (by omega)
  exact aIo (bC (aK U U hx) U) U
 ·apply WT
  ·walk_at "et"
  ·exact decide_eq_false (by omega)
  apply aBn;rw[B8,E1 (by omega)];exact fY U
theorem wu(c:Int):∃s:Int,0≤s∧lQ [.int c]=ND (.int s):=by
 suffices h:∃d,lQ [.int c]=ND d∧∃s:Int,0≤s∧d=.int s by obtain⟨d,h1,s,h0,rfl⟩:=h;exact⟨s,h0,h1⟩
 refine sW U ?_;unfold Qi;have a0:=F6 c (show (2147483629:Int)≠0 by decide);have a1:=F9 c (show (0:Int)<2147483629 by decide)
 walk_at "q"
 have n0:=F6 ((c%2147483629+1)*48271) (show (2147483629:Int)≠0 by decide);have n1:=F9 ((c%2147483629+1)*48271) (show (0:Int)<2147483629 by decide);generalize (c%2147483629+1)*48271%2147483629=n at *;have e50:Bw (.int 10) (.int 50)=ND (.int (10 ^ 50)):=nD ⟨by decide,by decide,by decide⟩;have m0:=F6 c (show (10 ^ 50:Int)≠0 by decide);have q0:=F6 (n*n) (show (2147483587:Int)≠0 by decide);refine uV (aK (aK (aK U U (fQ (Dz (by omega) (by omega)))) U (bF (by decide))) (aK (aK U (aK U U e50) (bF (by decide))) U (fQ (aIn (by decide) (by decide)))) (bR _ _)) ⟨_,U,_,?_,U⟩;have:=r6 m0 (show (0:Int)≤2147483587 by decide);omega
abbrev bJ(s:List (List (List Int))):D:=iK s
theorem Rg{s:List (List (List Int))}{k:Nat}{p:List (List Int)}(h:s[k]?=ND p):fJ (bJ s) (.int k)=ND (fU p):=by unfold bJ;exact uA (by omega) (by rw[C8,C4,h];rfl)
theorem aJU{p:List (List Int)}{k:Nat}{t:List Int}(h:p[k]?=ND t):fJ (fU p) (.int k)=ND (dTup t):=by unfold fU;exact uA (by omega) (by rw[C8,C4,h];rfl)
theorem Js(s:List (List (List Int))):jU [bJ s]=ND (.int s.length):=wD s
def bG(P R:Nat)(cM:List (List Int))(aZ:List Int):List (List (List Int)):=(D2 P).map λp=>((D2 R).map λr=>cM.getD (p+P*r) [])++[[aZ.getD p 0]]
theorem aBW{P R p r:Nat}(hp:p<P)(hr:r<R):p+P*r<P*R:=by have h1:P*(r+1)≤P*R:=Nat.mul_le_mul_left P hr;rw[Nat.mul_succ]at h1;omega
theorem getD_mem{l:List Int}{k:Nat}(h:k<l.length):l.getD k 0∈l:=by rw[B8,B6 h];exact N7 h
theorem Ai{l:List Int}(h:l.Nodup){i j:Nat}(hi:i<l.length)(hj:j<l.length)(hij:i≠j):l.getD i 0≠l.getD j 0:=by
 rw[B8,B8,B6 hi,B6 hj];show l[i]≠l[j];have hpw:=K6.mp h;rcases J2 i j with q | q
 ·exact hpw i j hi hj q
 ·exact λe=>hpw j i hj hi (by omega) e.symm
theorem jr{s:List (List (List Int))}{b:Int}(h:0<s.length)(h2:s.length≤1000):wX [bJ s,.int b]=ND (dTup [b%s.length,b/s.length]):=by
 refine oW U ?_;unfold jk;have hlen:=Js s;apply fY;show _=ND (D.tup [.int (b%s.length),.int (b/s.length)])
 walk_at "ev"
theorem aBX{s:List (List (List Int))}{p:List (List Int)}{t:List Int}{i j:Nat}(h1:s[i]?=ND p)(h2:p[j]?=ND t):zP [bJ s,dTup [(i:Int),(j:Int)]]=ND (dTup t):=by refine oW U ?_;unfold MK;apply fY;exact bC (aK (aK U (aK U U (uB (by decide) U)) (Rg h1)) (aK U U (uB (by decide) U)) (aJU h2)) (lN _)
theorem aBY{s:List (List (List Int))}{b:Nat}{p:List (List Int)}{t:List Int}(h:0<s.length)(h2:s.length≤1000)(h1:s[b%s.length]?=ND p)(h3:p[b/s.length]?=ND t):mC [bJ s,.int b]=ND (dTup t):=by
 refine oW U ?_;unfold Vz;have hs:=jr (b:=(b:Int)) h h2;have ht:zP [bJ s,dTup [(b:Int)%s.length,(b:Int)/s.length]]=ND (dTup t):=aBX (i:=b%s.length) (j:=b/s.length) h1 h3;apply fY
 walk_at "ev"
theorem yV(P R:Nat)(cM:List (List Int))(aZ:List Int):(bG P R cM aZ).length=P:=by unfold bG;rw[B7,E3]
theorem BW{P R:Nat}{cM:List (List Int)}{aZ:List Int}{p:Nat}(h:p<P):(bG P R cM aZ)[p]?=ND (((D2 R).map λr=>cM.getD (p+P*r) [])++[[aZ.getD p 0]]):=by unfold bG;rw[C4,G8 h];rfl
theorem BX{P R:Nat}{cM:List (List Int)}{aZ:List Int}{q:List (List Int)}(h:q∈bG P R cM aZ):q.length=R+1:=by unfold bG at h;obtain⟨p,_,rfl⟩:=G5.mp h;rw[C7,B7,E3];rfl
theorem aBZ{P R:Nat}{cM:List (List Int)}{aZ:List Int}{p r:Nat}(hr:r<R):(((D2 R).map λr=>cM.getD (p+P*r) [])++[[aZ.getD p 0]])[r]?=ND (cM.getD (p+P*r) []):=by rw[G3 (by rw[B7,E3];exact hr),C4,G8 hr];rfl
theorem BZ{P R:Nat}{cM:List (List Int)}{aZ:List Int}{b:Nat}(hP:0<P)(hb:b<P*R):∃q,(bG P R cM aZ)[b%P]?=ND q∧q[b/P]?=ND (cM.getD b []):=by have h1:b%P<P:=T2 _ hP;have h2:b/P<R:=V8 hb;refine⟨_,BW h1,?_⟩;rw[aBZ h2,o0]
def Chain(cM:List (List Int))(ord:List Int):Prop:=∀k,k≤ord.length→∃key was now fV:Int,cM[(([0]++ord).getD k 0).toNat]?=ND [key,(ord++[0]).getD k 0,was,now,fV]
theorem aB0{P R:Nat}{cM:List (List Int)}{aZ:List Int}{x:Int}{t:List Int}(hP:0<P)(hP8:P≤8)(h0:0≤x)(h1:x<(P*R:Nat))(ht:cM[x.toNat]?=ND t):mC [bJ (bG P R cM aZ),.int x]=ND (dTup t):=by obtain⟨q,q1,q2⟩:=BZ (cM:=cM) (aZ:=aZ) (b:=x.toNat) hP (show x.toNat<P*R by omega);have hl:=yV P R cM aZ;have:=aBY (s:=bG P R cM aZ) (b:=x.toNat) (by omega) (by omega) (by rw[hl];exact q1) (by rw[hl];exact q2);rw[Q2 h0,jW ht]at this;exact this
theorem Wi{P R:Nat}{cM:List (List Int)}{aZ ord:List Int}(hP:0<P)(hP8:P≤8)(hR:0<R)(hc:Chain cM ord)(hb:∀x∈ord,1≤x∧x<(P*R:Nat))(hn:ord.Nodup)(hl:ord.length≤64):pM [bJ (bG P R cM aZ)]=ND (aJ ord):=by
 suffices h:∃d,pM [bJ (bG P R cM aZ)]=ND d∧d=aJ ord by obtain⟨d,h1,rfl⟩:=h;exact h1
 have hm:0<P*R:=W5 hP hR;generalize hbd:P*R=m at *;have nx:∀k,k≤ord.length→∃t:List Int,mC [bJ (bG P R cM aZ),.int (([0]++ord).getD k 0)]=ND (dTup t)∧fJ (dTup t) (.int 1)=ND (.int ((ord++[0]).getD k 0)):=λk hk=>by
  obtain⟨key,was,now,fV,h1⟩:=hc k hk;have hx:([0]++ord).getD k 0∈[0]++ord:=getD_mem (by rw[C7];simp;omega);have hx2:0≤([0]++ord).getD k 0∧([0]++ord).getD k 0<((P*R:Nat):Int):=by
   rw[hbd];rcases G0.mp hx with q | q
   ·have:=D9.mp q;omega
   ·have:=hb _ q;omega
  exact⟨_,aB0 hP hP8 hx2.1 hx2.2 h1,uB (by decide) U⟩
 refine sW U ?_;unfold Wa
 walk_at "q"
 obtain⟨t0,ht0,hx0⟩:=nx 0 (M3 _);have aL1:mC [bJ (bG P R cM aZ),.int 0]=ND (dTup t0):=ht0
 walk_at "q"
 refine aDN (n:=ord.length) (λn env=>n≤ord.length∧env=[.fro (bJ (bG P R cM aZ)),.own (.dk ((ord.take (ord.length-n)).map F7) ((ord.take (ord.length-n)).map λ_=>D.bl NG)),.own (.int ((ord++[0]).getD (ord.length-n) 0))]) ⟨D1 _,by rw[Z0];rfl⟩ (by omega) ?_ ?_
 ·rintro n env ⟨hnl,rfl⟩;by_cases c:n=0
  ·left;subst c;have e:(ord++[0]).getD (ord.length-0) 0=0:=by rw[j4,B8,M0 (D1 _),Z0];rfl
   rw[e];refine aBk (cJ ((aK U U (Gh 0 0)).trans ?_));rw[decide_eq_true rfl];rfl
  ·right;generalize hk:ord.length-n=k;have hkl:k<ord.length:=by omega
   have e:(ord++[0]).getD k 0=ord.getD k 0:=by rw[B8,B8,G3 hkl]
   have hx:=hb _ (getD_mem hkl);have hnew:ord.getD k 0∉ord.take k:=by intro z;obtain⟨j,hj,ej⟩:=J1 z;rw[F3]at hj;rw[Q9]at ej;have:=Ai hn (i:=j) (j:=k) (by omega) hkl (by omega);rw[B8,B6 (show j<ord.length by omega)]at this;exact this ej
   rw[e];obtain⟨t,ht,hxt⟩:=nx (k+1) hkl;have ht':mC [bJ (bG P R cM aZ),.int (ord.getD k 0)]=ND (dTup t):=ht;refine⟨?_,by omega,_,aEJ (aDM (k:=F7 (ord.getD k 0)) U U U U (zM hnew) U (by rw[B7,F3];omega)) (wR (bC (aK (bW (aA U (aA U U)) U ht') U hxt) U) (by exact Nat.le_of_ble_eq_true U)),by omega,?_⟩
   ·refine(aBj (cJ (b:=NG) ((aK U U (Gh _ _)).trans ?_))).trans (cJ (aK U U ?_))
    ·rw[decide_eq_false (by omega)];rfl
    ·show (ND _:Option D)=_;rw[zM hnew];rfl
   ·have e2:ord.length-(n-1)=k+1:=by omega
    have e3:ord.take (k+1)=ord.take k++[ord.getD k 0]:=by rw[O4,gY (d:=0) hkl];rfl
    rw[e2,e3,J0,J0];rfl
 ·rintro env n ⟨hnl,rfl⟩ hf;by_cases c:n=0
  ·subst c;rw[j4,N8];apply uV (fG (aA U U) U);exact⟨_,U,Vr ord⟩
  ·exfalso;generalize hk:ord.length-n=k at hf;have hkl:k<ord.length:=by omega
   have e:(ord++[0]).getD k 0=ord.getD k 0:=by rw[B8,B8,G3 hkl]
   have hx:=hb _ (getD_mem hkl);have hnew:ord.getD k 0∉ord.take k:=by intro z;obtain⟨j,hj,ej⟩:=J1 z;rw[F3]at hj;rw[Q9]at ej;have:=Ai hn (i:=j) (j:=k) (by omega) hkl (by omega);rw[B8,B6 (show j<ord.length by omega)]at this;exact this ej
   rw[e]at hf;have:(Dl (fB (f2 RC (aD 2) (fC (.int (0))))) (fB (f2 (Dk NG) (aD 2) (aD 1)))) (rE [.fro (bJ (bG P R cM aZ)),.own (.dk ((ord.take k).map F7) ((ord.take k).map λ_=>D.bl NG)),.own (.int (ord.getD k 0))])=ND NG:=by
    refine(aBj (cJ (b:=NG) ((aK U U (Gh _ _)).trans ?_))).trans (cJ (aK U U ?_))
    ·rw[decide_eq_false (by omega)];rfl
    ·show (ND _:Option D)=_;rw[zM hnew];rfl
   rw[this]at hf;cases hf
def nG(m:Nat):List Int:=(D2 (m-1)).map λi:Nat=>(1:Int)+(i:Int)
theorem aB1{P R:Nat}{cM:List (List Int)}{aZ ord:List Int}(hP:0<P)(hP8:P≤8)(hR:0<R)(hR8:R≤8)(hc:Chain cM ord)(hb:∀x∈ord,1≤x∧x<(P*R:Nat))(hn:ord.Nodup)(hl:ord.length≤64) :
    qF [bJ (bG P R cM aZ)]=ND (aJ ((nG (P*R)).filter λi=>!decide (i∈ord))):=by
  have aB2:P*R≤8*8:=P7 hP8 hR8;have hm0:0<P*R:=W5 hP hR;have hstr:=Wi (aZ:=aZ) hP hP8 hR hc hb hn hl;have aB3:nW [bJ (bG P R cM aZ)]=ND (.int ((P*R:Nat):Int)):=by
    refine oW U ?_;unfold Eh;apply fY;have hls:=Js (bG P R cM aZ);rw[yV]at hls;have h0:(bG P R cM aZ)[0]?=ND _:=BW (p:=0) hP;have hix:fJ (bJ (bG P R cM aZ)) (.int 0)=ND (fU _):=Rg (k:=0) h0;have hlp:=Ho (((D2 R).map λr=>cM.getD (0+P*r) [])++[[aZ.getD 0 0]]);rw[BX (E4 h0)]at hlp;rw[V9];have e:(R:Int)=((R+1:Nat):Int)-1:=by omega
    rw[e];exact aK (fG (aA U U) hls) (aK (fG (aA (aK U U hix) U) hlp) U (lM _ _)) (fQ (Dz (by omega) (by omega)))
  suffices h:∃d,qF [bJ (bG P R cM aZ)]=ND d∧d=aJ ((nG (P*R)).filter λi=>!decide (i∈ord)) by obtain⟨d,h1,rfl⟩:=h;exact h1
  refine sW U ?_;unfold Ke
  walk_at "q"
  generalize P*R=m at *;have e:iJ (0+1) ((m:Int)-(0+1)).toNat=(nG m).map D.int:=by unfold iJ nG;rw[K4,show ((m:Int)-(0+1)).toNat=m-1 by omega];rfl
  refine uV (d:=aJ ((nG m).filter λi=>!decide (i∈ord))) ?_ ⟨_,U,U⟩;refine(zK (ys:=((iJ (0+1) ((m:Int)-(0+1)).toNat).filter λd=>match d with | .int i=>!decide (i∈ord) | _=>NH).map id) (aBl (i:=0+1) (j:=m) (aA (aK U U (bR _ _)) (aA (bW (aA U U) U aB3) U)) (by decide) (by decide) (by omega) (by omega)) (by rw[wV];omega) ?_).trans ?_
  · refine Gi (p:=λd=>match d with | .int i=>!decide (i∈ord) | _=>NH) (φ:=id) ?_ ?_
    · intro x hx
      obtain⟨k,hk,rfl⟩:=Dy hx;exact cJ (aK U U (zN NG _ ord))
    · intro x hx _
      obtain⟨k,hk,rfl⟩:=Dy hx;exact bC U U
  · rw[List.map_id,e,o6]
    rfl
theorem ZL{i a b:Nat}{f f' g:FE}{env:EN}{s:List (List (List Int))}{q:List (List Int)}{t:List Int}(h1:env[i]?=ND (.own (bJ s)))(h2:g (rE env)=ND (.int (a:Int)))(h3:f (rE env)=ND (.int (b:Int)))(h4:f' (rE env)=ND (dTup t))(h5:s[a]?=ND q)(h6:b<q.length) :
  vL i (dm cR g) f f' env=.next (env.set i (.own (bJ (s.set a (q.set b t))))):=by
 have hk:(s.map fU)[a]?=ND (fU q):=by rw[C4,h5];rfl
 have hp:dm cR g (rE env)=ND [.ix a]:=by unfold dm cR;rw[B9,h2,B9];dsimp only;rw[if_pos (by omega),C8];rfl
 have hget:eV [.ix a] (bJ s)=ND (.lst (q.map dTup)):=by show ((s.map fU)[a]?).bind (eV [])=_;rw[hk];rfl
 have aJW:∀d:List D,eO [.ix a] (bJ s) (.lst d)=.lst ((s.map fU).set a (.lst d)):=λd=>by show (match (s.map fU)[a]? with | some c=>_ | none=>_)=_;rw[hk];rfl
 have hix:QW (q.map dTup).length (b:Int)=ND b:=by unfold QW;rw[if_pos (by omega),if_pos (by rw[B7];omega),C8]
 unfold vL;rw[h1,hp,h3,h4];dsimp only;rw[hget];dsimp only;rw[hix];dsimp only;rw[aJW,←Y7];show SR.next (env.set i (.own (.lst ((s.map fU).set a (fU (q.set b t))))))=_;rw[←Y7];rfl
theorem aB4(ns:List Int):∃P R:Nat,vQ [aJ ns]=ND (.tup [.int P,.int R])∧1≤P∧P≤8∧1≤R∧R≤8:=by
 suffices hh:∃d,vQ [aJ ns]=ND d∧∃P R:Nat,d=.tup [.int P,.int R]∧1≤P∧P≤8∧1≤R∧R≤8 by obtain⟨d,e,P,R,rfl,q⟩:=hh;exact⟨P,R,e,q⟩
 refine sW U ?_;unfold Vw;have hcell:=Rc ns 0;generalize ns.getD 0 0=c at hcell;have aGX:lO [aJ ns,.int 0]=ND (.int c):=hcell;refine cL (d:=.int c) (bW (aA U (aA U U)) U aGX) (by exact Nat.le_of_ble_eq_true U) ?_;have nn:∀{a m:Int},0<m→m≤8→∃P:Nat,1+a%m=(P:Int)∧1≤P∧P≤8:=λ{a m} h h2=>by have h0:=F6 a (show m≠0 by omega);have h1:=F9 a h;exact⟨(1+a%m).toNat,by omega,by omega,by omega⟩
 refine Yt (cJ (aK (aK (aK U U (dX (by decide) (by decide))) U (bF (by decide))) U (nM _ _))) (λ_=>?_) λ_=>Le ?_
 ·obtain⟨P,e1,p1,p2⟩:=nn (a:=c) (m:=8) (by decide) (by decide);obtain⟨R,e2,r1,r2⟩:=nn (a:=c/240) (m:=8) (by decide) (by decide);exact KZ ((nO (aA (aK U (aK U U (bF (by decide))) (bR _ _)) (aA (aK U (aK (aK U U (dX (by decide) (by decide))) U (bF (by decide))) (bR _ _)) U)) (by exact Nat.le_of_ble_eq_true U)).trans (by rw[e1,e2])) ⟨_,U,P,R,U,p1,p2,r1,r2⟩
 ·obtain⟨P,e1,p1,p2⟩:=nn (a:=c) (m:=5) (by decide) (by decide);obtain⟨R,e2,r1,r2⟩:=nn (a:=c/5) (m:=6) (by decide) (by decide);exact uV ((nO (aA (aK U (aK U U (bF (by decide))) (bR _ _)) (aA (aK U (aK (aK U U (dX (by decide) (by decide))) U (bF (by decide))) (bR _ _)) U)) (by exact Nat.le_of_ble_eq_true U)).trans (by rw[e1,e2])) ⟨_,U,P,R,U,p1,p2,r1,r2⟩
theorem Al(c:Int){k:Int}(h0:0≤k)(h1:k≤100000):∃m:Int,lA [.int c,.int k]=ND (.int m)∧0≤m∧m<2147483587:=by
 suffices hh:∃d,lA [.int c,.int k]=ND d∧∃m:Int,d=.int m∧0≤m∧m<2147483587 by obtain⟨d,e,m,rfl,q⟩:=hh;exact⟨m,e,q⟩
 refine sW U ?_;unfold Vx;have a0:=F6 c (show (2147483629:Int)≠0 by decide);have a1:=F9 c (show (0:Int)<2147483629 by decide);refine cL (aK (aK (aK (aK U U (bF (by decide))) U (bR _ _)) (aK U (aK (aK U U (fQ (Dz (by decide) (by decide)))) U (fQ (Dz (by omega) (by omega)))) (bR _ _)) (fQ (Dz (by omega) (by omega)))) U (bF (by decide))) (by exact Nat.le_of_ble_eq_true U) ?_;generalize hn:(c%2147483629+1)*(48271+2*k*k)%2147483629=n;have n0:0≤n:=by rw[←hn];exact F6 _ (by decide)
 have n1:n<2147483629:=by rw[←hn];exact F9 _ (by decide)
 exact uV (aK (aK U U (fQ (Dz (by omega) (by omega)))) U (bF (by decide))) ⟨_,U,_,U,F6 _ (by decide),F9 _ (by decide)⟩
theorem Rh(c:Int){k:Int}(key f:Int)(h0:0≤k)(h1:k≤1000):∃a b e:Int,pL [.int c,.int k,.int key,.int f]=ND (dTup [key,f,a,b,e]):=by
 suffices hh:∃d,pL [.int c,.int k,.int key,.int f]=ND d∧∃a b e:Int,d=dTup [key,f,a,b,e] by obtain⟨d,q,a,b,e,rfl⟩:=hh;exact⟨a,b,e,q⟩
 refine sW U ?_;unfold Qf;obtain⟨p,hp,p0,p1⟩:=Al c (k:=5*k) (by omega) (by omega);obtain⟨m,hm,m0,m1⟩:=Al c (k:=5*k+1) (by omega) (by omega);have pick:∀(l:List Int)(k:Int),0≤k→k<(l.length:Int)→∃y,fJ (aJ l) (.int k)=ND (.int y):=λl k a b=>⟨_,iY a b⟩
 obtain⟨now,aJX⟩:=pick [0,1,2,m*10 ^ (40:Int).toNat,-1] (p%5) (F6 _ (by decide)) (F9 _ (by decide));obtain⟨was,aJY⟩:=pick [-1,0,5,p] (p/90%4) (F6 _ (by decide)) (F9 _ (by decide));refine cL (d:=.int p) (bW (aA U (aA (aK U U (fQ (Dz (by decide) (by decide)))) U)) U hp) (by exact Nat.le_of_ble_eq_true U) ?_;refine cL (d:=.int now) (bC (aK (gH (aA U (aA U (aA U (aA (aK (bW (aA U (aA (aK (aK U U (fQ (Dz (by decide) (by decide)))) U (bR _ _)) U)) U hm) (aK U U (nD ⟨by decide,by decide,by decide⟩)) (fQ (Dz (by omega) (by omega)))) (aA (uC U) U))))) (by exact Nat.le_of_ble_eq_true U)) (aK U U (bF (by decide))) aJX) U) (by exact Nat.le_of_ble_eq_true U) ?_;refine cL (d:=.int 0) U (by exact Nat.le_of_ble_eq_true U) ?_;have fin:∀fV:Int,Qs (λr=>∃d,r=.ret d∧∃a b e:Int,d=dTup [key,f,a,b,e]) (aW (qP (fB (f2 Ls (aD 6) (fC (.int 0)))) (cV 5 (fL aDD (aB (aD 5) aO))) fX) (gB (vI (aB (cN (aD 2)) (aB (cN (aD 3)) (aB (cN (f2 fJ (lX (aB (Dq (fC (.int 1))) (aB (fC (.int 0)) (aB (fC (.int 5)) (aB (aD 4) aO))))) (f2 fO (f2 sO (aD 4) (fC (.int 90))) (fC (.int 4))))) (aB (cN (aD 5)) (aB (cN (aD 6)) aO))))))) [.fro (.int c),.fro (.int k),.fro (.int key),.fro (.int f),.own (.int p),.own (.int now),.own (.int fV)]):=λfV=>by have last:∀b:Int,Qs (λr=>∃d,r=.ret d∧∃a b e:Int,d=dTup [key,f,a,b,e]) (gB (vI (aB (cN (aD 2)) (aB (cN (aD 3)) (aB (cN (f2 fJ (lX (aB (Dq (fC (.int 1))) (aB (fC (.int 0)) (aB (fC (.int 5)) (aB (aD 4) aO))))) (f2 fO (f2 sO (aD 4) (fC (.int 90))) (fC (.int 4))))) (aB (cN (aD 5)) (aB (cN (aD 6)) aO)))))) [.fro (.int c),.fro (.int k),.fro (.int key),.fro (.int f),.own (.int p),.own (.int b),.own (.int fV)]):=λb=>uV (nO (aA (bC U U) (aA (bC U U) (aA (bC (aK (gH (aA (uC U) (aA U (aA U (aA U U)))) (by exact Nat.le_of_ble_eq_true U)) (aK (aK U U (dX (by decide) (by decide))) U (bF (by decide))) aJY) U) (aA (bC U U) (aA (bC U U) U))))) (by exact Nat.le_of_ble_eq_true U)) ⟨_,U,_,_,_,U⟩;refine Yt (cJ (aK U U (nM _ _))) (λ_=>?_) λ_=>Le (last now);exact aBs (wR (d:=.int (if now<0 then -now else now)) (fG (aA U U) U) (by exact Nat.le_of_ble_eq_true U)) (last _)
 refine Yt (cJ (aK (aK (aK U U (dX (by decide) (by decide))) U (bF (by decide))) U (nM _ _))) (λ_=>?_) λ_=>Le (fin 0);exact aBs (wR (aK U (aK (aK U U (dX (by decide) (by decide))) U (bF (by decide))) (bR _ _)) (by exact Nat.le_of_ble_eq_true U)) (fin _)
def Cp(P R:Nat)(rs:List (List Int)):List (List (List Int)):=(D2 P).map λp=>(D2 R).map λr=>rs.getD (p+P*r) []
theorem Jt{P R:Nat}{rs:List (List Int)}{p:Nat}(h:p<P):(Cp P R rs)[p]?=ND ((D2 R).map λr=>rs.getD (p+P*r) []):=by unfold Cp;rw[C4,G8 h];rfl
theorem aB5{P x:Nat}{p r:Nat}(hp:p<P)(h:p+P*r=x):x%P=p∧x/P=r:=by subst h;exact⟨by rw[Nat.add_mul_mod_self_left,Nat.mod_eq_of_lt hp],by rw[Nat.add_mul_div_left _ _ (by omega),Nat.div_eq_of_lt hp,P0]⟩
theorem aB6{P R x:Nat}{rs:List (List Int)}{t:List Int}(hP:0<P)(h:x<P*R)(hl:rs.length=P*R):(Cp P R rs).set (x%P) (((D2 R).map λr=>rs.getD (x%P+P*r) []).set (x/P) t)=Cp P R (rs.set x t):=by
 have a:=T2 x hP;have b:x/P<R:=V8 h;apply K5;intro p;rw[G4,show (Cp P R rs).length=P by unfold Cp;rw[B7,E3]];by_cases hp:p<P
 ·rw[Jt hp,Jt hp];by_cases e:x%P=p
  ·rw[if_pos e,if_pos a];congr 1;apply K5;intro r;rw[G4,B7,E3,C4,C4];by_cases hr:r<R
   ·rw[G8 hr,G7,G7,qL _ _ _ _ _ (by omega)];by_cases e2:x/P=r
    ·rw[if_pos e2,if_pos b,if_pos (by rw[←e,←e2];exact(o0 x P).symm)]
    ·rw[if_neg e2,if_neg λz=>e2 (aB5 hp z.symm).2,e]
   ·rw[E1 (by rw[E3];omega)];rw[if_neg (by omega)];rfl
  ·rw[if_neg e];congr 1;apply R9;intro r hr;have:=aBW hp (F5.mp hr);rw[qL _ _ _ _ _ (by omega),if_neg λz=>e (aB5 hp z.symm).1]
 ·rw[if_neg (by omega)];unfold Cp;rw[C4,C4,E1 (by rw[E3];omega)];rfl
theorem QL{i P R x:Nat}{f f' g:FE}{env:EN}{rs:List (List Int)}{t:List Int}(hP:0<P)(h:x<P*R)(hl:rs.length=P*R)(h1:env[i]?=ND (.own (bJ (Cp P R rs))))(h2:g (rE env)=ND (.int ((x:Int)%(P:Int))))(h3:f (rE env)=ND (.int ((x:Int)/(P:Int))))(h4:f' (rE env)=ND (dTup t)) :
  vL i (dm cR g) f f' env=.next (env.set i (.own (bJ (Cp P R (rs.set x t))))):=by
 rw[←Y8]at h2;rw[←Y9]at h3;rw[ZL (a:=x%P) (b:=x/P) h1 h2 h3 h4 (Jt (T2 x hP)) (by rw[B7,E3];exact V8 h),aB6 hP h hl]
structure Built(P R:Nat)(rs:List (List Int))(od:List Int):Prop where
 p1:1≤P
 p8:P≤8
 r1:1≤R
 r8:R≤8
 len:rs.length=P*R
 five:∀k,k<P*R→(rs.getD k []).length=5
 Tp:od.Nodup
 Cj:∀x∈od,1≤x∧x<(P*R:Nat)
 chain:Chain rs od
 key:od.Pairwise λx y=>(rs.getD x.toNat []).getD 0 0<(rs.getD y.toNat []).getD 0 0
theorem aB7{ns:List Int}:∃(P R:Nat)(rs:List (List Int))(aZ od:List Int),vU [aJ ns]=ND (bJ (bG P R rs aZ))∧Built P R rs od:=by
 suffices hh:∃d,vU [aJ ns]=ND d∧∃(P R:Nat)(rs:List (List Int))(aZ od:List Int),d=bJ (bG P R rs aZ)∧Built P R rs od by obtain⟨d,e,P,R,rs,aZ,od,rfl,q⟩:=hh;exact⟨P,R,rs,aZ,od,e,q⟩
 refine sW U ?_;unfold Vy;obtain⟨P,R,hsz,p1,p8,r1,r8⟩:=aB4 ns;have hm0:0<P*R:=W5 p1 r1;have aB2:P*R≤8*8:=P7 p8 r8;have hPR:((P:Int)*(R:Int))=((P*R:Nat):Int):=(V9 P R).symm;generalize hM:P*R=M at *;have hP0:(0:Int)<P:=by omega
 have hP9:(P:Int)<1073741824:=by omega
 have hmul:∀{env:EN},(rE env)[1]?=ND (ND (.int (P:Int)))→(rE env)[2]?=ND (ND (.int (R:Int)))→f2 tR (aD 1) (aD 2) (rE env)=ND (.int (M:Int)):=λh1 h2=>(aK (pW h1) (pW h2) (fQ (Dz (by omega) (by omega)))).trans (by rw[hPR]);refine aIr (ds:=[.int P,.int R]) (bW (aA U U) U hsz) U U ?_;have hsp:fL Ge (aB (fC (.int 1)) (aB (f2 tR (aD 1) (aD 2)) aO)) (rE (oU ([aJ ns].map SD.fro++E7 (11-1) SD.no) [1,2] [.int P,.int R]))=ND (aJ (nG M)):=by refine(fG (aA U (aA (hmul U U) U)) (show Ge [.int 1,.int (M:Int)]=ND _ from if_pos ⟨by decide,by decide,by omega,by omega⟩)).trans ?_;unfold aJ nG;rw[K4,show ((M:Int)-1).toNat=M-1 by omega];rfl
 refine cL hsp (by exact Nat.le_of_ble_eq_true U) ?_;refine cL (d:=aJ [0]) U (by exact Nat.le_of_ble_eq_true U) ?_;have hc1:lO [aJ ns,.int 1]=ND (.int (ns.getD 1 0)):=Rc ns 1;have hc2:lO [aJ ns,.int 2]=ND (.int (ns.getD 2 0)):=Rc ns 2;generalize ns.getD 1 0=c1 at hc1;generalize ns.getD 2 0=c at hc2;have b0:=F6 c1 (show (M:Int)≠0 by omega);have b1:=F9 c1 (show 0<(M:Int) by omega);refine Yu (n:=(c1%(M:Int)).toNat) (λk env=>∃(sp bs:List Int)(v:SD),env=[.fro (aJ ns),.own (.int P),.own (.int R),.own (aJ sp),.own (aJ (0::bs)),v,.no,.no,.no,.no,.no]∧bs.length=k∧(bs++sp).Perm (nG M)) (KJ (aA (aK (bW (aA U (aA U U)) U hc1) (hmul U U) (bF (by omega))) U) (by omega) (by omega)) ⟨nG M,[],_,U,U,T1 _⟩ ?_ ?_
 ·rintro k env hk ⟨sp,bs,v,rfl,hb,hp⟩;refine⟨by walk_at "lt", ?_⟩;have hlen:=hp.length_eq;rw[C7,hb,show (nG M).length=M-1 by unfold nG;rw[B7,E3]]at hlen;obtain⟨m,hm,_,_⟩:=Al c1 (k:=(k:Int)) (by omega) (by omega);have i0:=F6 m (show (sp.length:Int)≠0 by omega);have i1:=F9 m (show 0<(sp.length:Int) by omega);refine⟨_,Ys (ns:=0::bs) (ms:=sp) (k:=m%(sp.length:Int)) U U (aK (bW (aA (bW (aA U (aA U U)) U hc1) (aA U U)) U hm) (fG (aA U U) (pK _)) (bF (by omega))) (by decide) (by simp;omega) (by omega) i0 i1,sp.eraseIdx (m%(sp.length:Int)).toNat,bs++[sp.getD (m%(sp.length:Int)).toNat 0],_,U,by rw[C7,hb];rfl,?_⟩;rw[O3];exact(d6 bs (Pq sp _ 0 (by omega))).trans hp
 rintro env ⟨sp,bs,v5,rfl,hb,hp⟩;have hnd:(bs++sp).Nodup:=hp.nodup_iff.mpr (by
  unfold nG;refine k8 _ (λa b (h:a≠b)=>by omega) l8)
 have hmem:∀x,x∈bs++sp→1≤x∧x<(M:Int):=λx hx=>by have:=hp.mem_iff.mp hx;unfold nG at this;obtain⟨i,hi,rfl⟩:=G5.mp this;have:=F5.mp hi;omega
 have hbn:=(P4.mp hnd).1;have hbm:∀x∈bs,1≤x∧x<(M:Int):=λx hx=>hmem x (G6 _ hx);have hsm:∀x∈sp,1≤x∧x<(M:Int):=λx hx=>hmem x (F0 _ hx);have aL3:sp.length≤M:=by have:=hp.length_eq;rw[C7,show (nG M).length=M-1 by unfold nG;rw[B7,E3]]at this;omega
 have hbl:bs.length<M:=by omega
 generalize aGZ:E7 M ([0,0,-1,-1,0]:List Int)=rs0;have hl0:rs0.length=M:=by rw[←aGZ,R0]
 have aIB:jG (rC (aB (aD 1) aO)) [2] nY (jG (rC (aB (aD 1) aO)) [] nY (vI (aB (fC (.int 0)) (aB (fC (.int 0)) (aB (Dq (fC (.int 1))) (aB (Dq (fC (.int 1))) (aB (fC (.int 0)) aO))))))) (rE [.fro (aJ ns),.own (.int P),.own (.int R),.own (aJ sp),.own (aJ (0::bs)),v5,.no,.no,.no,.no,.no])=ND (bJ (Cp P R rs0)):=by
  refine(Eb (n:=P) (φ:=λp=>fU ((D2 R).map λr=>rs0.getD (p+P*r) [])) (Bj (aA U U) (by omega)) (by omega) λp hp=>?_).trans ?_
  ·refine(Eb (n:=R) (φ:=λr=>dTup (rs0.getD (p+P*r) [])) (Bj (aA U U) (by omega)) (by omega) λr hr=>?_).trans ?_
   ·have:=aBW hp hr;rw[←aGZ,B8,Q6,if_pos (by omega)];exact nO (aA U (aA U (aA (uC U) (aA (uC U) (aA U U))))) (by exact Nat.le_of_ble_eq_true U)
   ·unfold fU;rw[K4];rfl
  ·show _=ND (D.lst ((Cp P R rs0).map fU));unfold Cp;rw[K4];rfl
 refine cL aIB (by exact Nat.le_of_ble_eq_true U) ?_;refine cL (d:=.int c) (bW (aA U (aA U U)) U hc2) (by exact Nat.le_of_ble_eq_true U) ?_;have p9:(0:Int)<10 ^ (9:Int).toNat:=Q8 (by decide);have p58:(0:Int)<10 ^ (58:Int).toNat:=Q8 (by decide);have hpw:∀n:Int,0≤n→n<100→Bw (.int 10) (.int n)=ND (.int (10 ^ n.toNat)):=λn a b=>nD ⟨a,by omega,by omega⟩;have f5:∀{l:List (List Int)} {x:Nat} {t:List Int},l.length=M→x<M→t.length=5→(∀k,k<M→(l.getD k []).length=5)→∀k,k<M→((l.set x t).getD k []).length=5:=λ{l x t} h1 h2 h3 h4 k hk=>by
  rw[qL _ _ _ _ _ (by omega)];split
  ·exact h3
  ·exact h4 k hk
 refine je (xs:=sp.map D.int) (λk env=>∃(rs:List (List Int))(v:SD),env=[.fro (aJ ns),.own (.int P),.own (.int R),.fro (aJ sp),.own (aJ (0::bs)),v5,.own (bJ (Cp P R rs)),.own (.int c),v,.no,.no]∧rs.length=M∧∀k,k<M→(rs.getD k []).length=5) U (kO U) ⟨rs0,_,U,hl0,λk hk=>by rw[←aGZ,B8,Q6,if_pos hk];rfl⟩ ?_ ?_
 ·rintro k x env hx ⟨rs,v,rfl,hl,h5⟩;refine⟨by walk_at "lt", ?_⟩;rw[C4]at hx;obtain⟨y,hy,rfl⟩:=lJ hx;have ym:=hsm y (E4 hy);obtain⟨a,b,e,hrec⟩:=Rh c (k:=y) (c%10 ^ (9:Int).toNat) (y*y%(M:Int)) (by omega) (by omega);have ye:((y.toNat:Nat):Int)=y:=by omega
  refine⟨_,QL (x:=y.toNat) (t:=[c%10 ^ (9:Int).toNat,y*y%(M:Int),a,b,e]) p1 (by rw[hM];omega) (by rw[hM];exact hl) U (by rw[ye];exact aK U U (bF hP0)) (by rw[ye];exact aK U U (dX hP0 hP9)) (bW (aA U (aA U (aA (aK U (aK U U (hpw 9 (by decide) (by decide))) (bF p9)) (aA (aK (aK U U (fQ (Dz (by omega) (by omega)))) (hmul U U) (bF (by omega))) U)))) U hrec),_,_,U,by rw[K2];exact hl,f5 hl (by omega) U h5⟩
 rintro env ⟨rs1,v8,rfl,hl1,h51⟩;refine cL (d:=.int (c%10 ^ (58:Int).toNat)) (aK U (aK U U (hpw 58 (by decide) (by decide))) (bF p58)) (by exact Nat.le_of_ble_eq_true U) ?_;have hb0:∀i,i<bs.length+1→0≤(0::bs).getD i 0∧(0::bs).getD i 0<(M:Int):=λi hi=>by
  have:=getD_mem (l:=0::bs) (k:=i) (by simp;omega);rcases C5.mp this with z | z
  ·rw[z];omega
  ·have:=hbm _ z;omega
 have aG0:(0::bs).Nodup:=E8.mpr ⟨λz=>by have:=hbm 0 z;omega,hbn⟩;refine Yu (n:=bs.length+1) (λk env=>∃(rs:List (List Int))(key:Int)(v5 v8:SD),env=[.fro (aJ ns),.own (.int P),.own (.int R),.fro (aJ sp),.own (aJ (0::bs)),v5,.own (bJ (Cp P R rs)),.own (.int c),v8,.own (.int key),.no]∧rs.length=M∧(∀k,k<M→(rs.getD k []).length=5) ∧
   (∀i,i<k→∃y was now fV:Int,rs[((0::bs).getD i 0).toNat]?=ND [y,(bs++[0]).getD i 0,was,now,fV]∧y<key)∧(∀i j,i<j→j<k→(rs.getD ((0::bs).getD i 0).toNat []).getD 0 0<(rs.getD ((0::bs).getD j 0).toNat []).getD 0 0)) (Bj (aA ((fG (aA U U) (pK _)).trans U) U) (by omega)) ⟨rs1,_,_,_,U,hl1,h51,λi hi=>absurd hi (I0 _),λi j _ hj=>absurd hj (I0 _)⟩ ?_ ?_
 ·rintro k env hk ⟨rs,key,w5,w8,rfl,hl,h5,hch,hke⟩;refine⟨by walk_at "lt", ?_⟩;obtain⟨x0,x1⟩:=hb0 k hk;generalize hx:(0::bs).getD k 0=x at *;have xe:((x.toNat:Nat):Int)=x:=by omega
  have ix:fJ (aJ (0::bs)) (.int (k:Int))=ND (.int x):=(iY (by omega) (by simp;omega)).trans (by rw[C8,hx]);have ixn:fJ (aJ ((0::bs)++[0])) (.int ((k:Int)+1))=ND (.int ((bs++[0]).getD k 0)):=(iY (by omega) (by simp;omega)).trans (by rw[show ((k:Int)+1).toNat=k+1 by omega];rfl);obtain⟨a,b,e,hrec⟩:=Rh c (k:=(k:Int)+100) key ((bs++[0]).getD k 0) (by omega) (by omega);obtain⟨m,hm,m0,m1⟩:=Al c (k:=(k:Int)+7) (by omega) (by omega);refine cL (d:=.int x) (bC (aK U U ix) U) (by exact Nat.le_of_ble_eq_true U) ?_;refine aBs (QL (x:=x.toNat) (t:=[key,(bs++[0]).getD k 0,a,b,e]) p1 (by rw[hM];omega) (by rw[hM];exact hl) U (by rw[xe];exact aK U U (bF hP0)) (by rw[xe];exact aK U U (dX hP0 hP9)) (bW (aA U (aA (aK U U (bR _ _)) (aA U (aA (aK (aK U (gH (aA U U) (by exact Nat.le_of_ble_eq_true U)) (sX (0::bs) [0] (by simp;omega))) (aK U U (bR _ _)) ixn) U)))) U hrec)) ?_;have c20:=F6 c (show (2:Int)≠0 by decide);have c21:=F9 c (show (0:Int)<2 by decide);have pos:∃z:Int,0≤z∧fJ (aJ [1,10 ^ (40:Int).toNat]) (.int (c%2))=ND (.int z):=by
   rcases(show c%2=0∨c%2=1 by omega)with z | z
   ·exact⟨1,by decide,by rw[z];rfl⟩
   ·exact⟨10 ^ (40:Int).toNat,N0 (Q8 (by decide)),by rw[z];rfl⟩
  obtain⟨z,z0,hz⟩:=pos;have mm:=F6 m (show (3:Int)≠0 by decide);have mm1:=F9 m (show (0:Int)<3 by decide);have hst:0≤m%3*z:=r6 mm z0;refine aBr (d:=.int (key+1+m%3*z)) (aK (aK U U (bR _ _)) (aK (aK (bW (aA U (aA (aK U U (bR _ _)) U)) U hm) U (bF (by decide))) (aK (gH (aA U (aA (aK U U (hpw 40 (by decide) (by decide))) U)) (by exact Nat.le_of_ble_eq_true U)) (aK U U (bF (by decide))) hz) (fQ (Dz (by omega) (by omega)))) (bR _ _)) (by exact Nat.le_of_ble_eq_true U) ⟨_,U,_,_,_,_,U,by rw[K2];exact hl,f5 hl (by omega) U h5,?_,?_⟩
  ·intro i hi;rcases J2 i k with q | q
   ·obtain⟨y,was,now,fV,h1,h2⟩:=hch i q;have hi0:=hb0 i (by omega);have ne:(0::bs).getD i 0≠x:=by rw[←hx];exact Ai aG0 (by simp;omega) (by simp;omega) (by omega)
    exact⟨y,was,now,fV,by rw[U9 (by omega)];exact h1,by omega⟩
   ·have:i=k:=by omega
    subst this;rw[hx];exact⟨key,a,b,e,by rw[J3 (by omega)],by omega⟩
  ·intro i j hij hj;have hi0:=hb0 i (by omega);have nei:(0::bs).getD i 0≠x:=by rw[←hx];exact Ai aG0 (by simp;omega) (by simp;omega) (by omega)
   rw[qL _ _ _ _ _ (by omega),if_neg (by omega)];rcases J2 j k with q | q
   ·have hj0:=hb0 j (by omega);have nej:(0::bs).getD j 0≠x:=by rw[←hx];exact Ai aG0 (by simp;omega) (by simp;omega) (by omega)
    rw[qL _ _ _ _ _ (by omega),if_neg (by omega)];exact hke i j hij q
   ·have:j=k:=by omega
    subst this;rw[hx,qL _ _ _ _ _ (by omega),if_pos rfl];obtain⟨y,was,now,fV,h1,h2⟩:=hch i hij;rw[jW h1];exact h2
 rintro env ⟨rs,key,w5,w8,rfl,hl,h5,hch,hke⟩;refine Yu (n:=P) (λk env=>∃(se:List Int)(v:SD),env=[.fro (aJ ns),.own (.int P),.own (.int R),.fro (aJ sp),.own (aJ (0::bs)),w5,.own (bJ ((D2 P).map λp=>((D2 R).map λr=>rs.getD (p+P*r) [])++(if p<k then [[se.getD p 0]]else []))),.own (.int c),w8,.own (.int key),v]∧se.length=k) (Bj (aA U U) (by omega)) ⟨[],_,by
   have:(D2 P).map (λp=>((D2 R).map λr=>rs.getD (p+P*r) [])++(if p<0 then [[([]:List Int).getD p 0]]else []))=Cp P R rs:=by unfold Cp;apply R9;intro p _;rw[if_neg (I0 _),F2]
   rw[this],U⟩ ?_ ?_
 ·rintro k env hk ⟨se,v,rfl,hse⟩;refine⟨by walk_at "lt", ?_⟩;obtain⟨m,hm,_,_⟩:=Al c (k:=(k:Int)+70) (by omega) (by omega);generalize hS:((D2 P).map λp=>((D2 R).map λr=>rs.getD (p+P*r) [])++(if p<k then [[se.getD p 0]]else []))=S;have hk2:S[k]?=ND ((D2 R).map λr=>rs.getD (k+P*r) []):=by rw[←hS,C4,G8 hk,G7,if_neg (L7 _),F2]
  have hgp:eV [.ix k] (bJ S)=ND (.lst (((D2 R).map λr=>rs.getD (k+P*r) []).map dTup)):=YJ (by rw[C4,hk2];rfl);refine⟨_,Qc (p:=[.ix k]) (d:=dTup [m%10]) U (by
   show dm cR (aD 10) _=_;rw[aBI (k:=(k:Int)) U U (by omega),C8]
   rfl) hgp (nO (aA (aK (bW (aA U (aA (aK U U (bR _ _)) U)) U hm) U (bF (by decide))) U) (by exact Nat.le_of_ble_eq_true U)) (by rw[B7,B7,E3];omega),se++[m%10],.fro (.int k),?_,by rw[C7,hse];rfl⟩
  rw[show eO [.ix k] (bJ S) (.lst (((D2 R).map λr=>rs.getD (k+P*r) []).map dTup++[dTup [m%10]]))=bJ ((D2 P).map λp=>((D2 R).map λr=>rs.getD (p+P*r) [])++(if p<k+1 then [[(se++[m%10]).getD p 0]]else []))from ?_]
  ·rfl
  refine(YK (y:=fU _) (by rw[C4,hk2];rfl)).trans ?_;refine congrArg D.lst (?_:(S.map fU).set k _=_);apply K5;intro p;rw[G4,B7,←hS,B7,E3,C4,C4,C4,C4];by_cases hp:p<P
  ·rw[G8 hp];by_cases e:k=p
   ·subst e;rw[if_pos U,if_pos hp,G7,G7,if_pos (by omega),B8,M0 (by omega),hse,Z0];unfold fU;rw[J0];rfl
   ·rw[if_neg e,G7,G7,G7,G7];by_cases q:p<k
    ·rw[if_pos q,if_pos (by omega),B8,B8,G3 (by omega)]
    ·rw[if_neg q,if_neg (by omega)]
  ·rw[if_neg (by omega),E1 (by rw[E3];omega)];rfl
 rintro env ⟨se,v,rfl,hse⟩;refine aBv U ⟨_,U,P,R,rs,se,bs,?_,⟨p1,p8,r1,r8,by rw[hM];exact hl,by rw[hM];exact h5,hbn,by rw[hM];exact hbm,?_,?_⟩⟩
 ·refine congrArg iK ?_;unfold bG;apply R9;intro p hp;rw[if_pos (F5.mp hp)]
 ·intro k hk;obtain⟨y,was,now,fV,h1,_⟩:=hch k (by omega);exact⟨y,was,now,fV,h1⟩
 ·rw[K6];intro i j hi hj hij;have:=hke (i+1) (j+1) (by omega) (by omega);have ei:(0::bs).getD (i+1) 0=bs[i]:=by rw[W3,B8,B6 hi];rfl
  have ej:(0::bs).getD (j+1) 0=bs[j]:=by rw[W3,B8,B6 hj];rfl
  rw[ei,ej]at this;exact this
theorem aD1{P R:Nat}{cM:List (List Int)}{aZ:List Int}(hP:0<P)(hP8:P≤8):nW [bJ (bG P R cM aZ)]=ND (.int ((P*R:Nat):Int)):=by
 refine oW U ?_;unfold Eh;apply fY;have hls:=Js (bG P R cM aZ);rw[yV]at hls;have h0:(bG P R cM aZ)[0]?=ND _:=BW (p:=0) hP;have hix:fJ (bJ (bG P R cM aZ)) (.int 0)=ND (fU _):=Rg (k:=0) h0;have hlp:=Ho (((D2 R).map λr=>cM.getD (0+P*r) [])++[[aZ.getD 0 0]]);rw[BX (E4 h0)]at hlp;rw[V9];have e:(R:Int)=((R+1:Nat):Int)-1:=by omega
 rw[e];exact aK (fG (aA U U) hls) (aK (fG (aA (aK U U hix) U) hlp) U (lM _ _)) (fQ (Dz (by omega) (by omega)))
def Wb.first(P R:Nat)(rs:List (List Int))(aZ od:List Int):Wb:=⟨⟨bG P R rs aZ,[],[],[],[]⟩,rs,od,(nG (P*R)).filter λi=>!decide (i∈od),⟨[],[]⟩,⟨[],[]⟩,⟨[],[]⟩⟩
section
variable{P R:Nat}{rs:List (List Int)}{aZ od:List Int}
theorem Built.ok(h:Built P R rs od):mQ (Wb.first P R rs aZ od):=by
 have aB2:P*R≤8*8:=P7 h.p8 h.r8;have hm0:0<P*R:=W5 h.p1 h.r1;have hpl:(Wb.first P R rs aZ od).P=P:=yV _ _ _ _;have box:∀k,k<P*R→∃q,(bG P R rs aZ)[k%P]?=ND q∧q[k/P]?=ND (rs.getD k []):=λk hk=>BZ h.p1 hk;have hb:∀k,k<rs.length→k<P*R:=λk hk=>by rw[←h.len];exact hk
 refine⟨Ae.init (by rw[yV];exact h.p8),by rw[hpl];exact h.p1,?_,?_,?_,?_,?_,⟨U,D1 _⟩,⟨U,D1 _⟩,⟨U,D1 _⟩,nofun,nofun,h.Tp,?_,?_,?_,h.key,λk hk=>absurd hk (I0 _)⟩
 ·intro k hk;rw[hpl];obtain⟨q,q1,q2⟩:=box k (hb k hk);show k/P<((bG P R rs aZ).getD (k%P) []).length;rw[jW q1];exact(D4.mp q2).1
 ·show rs.length≤64;rw[h.len];exact aB2
 ·show 0<rs.length;rw[h.len];exact hm0
 ·intro k hk;rw[hpl];obtain⟨q,q1,q2⟩:=box k (hb k hk);refine⟨?_,h.five k (hb k hk)⟩;show rs.getD k []=((bG P R rs aZ).getD ((k%P:Nat):Int).toNat []).getD ((k/P:Nat):Int).toNat [];rw[C8,C8,jW q1,jW q2]
 ·intro k hk;rfl
 ·intro x hx;show 1≤x∧x<(rs.length:Int);rw[h.len];exact h.Cj x hx
 ·refine List.Nodup.sublist Q3 ?_;unfold nG;exact k8 _ (λa b (h:a≠b)=>by omega) l8
 ·intro x;show x∈(nG (P*R)).filter _↔1≤x∧x<(rs.length:Int)∧x∉od;rw[h.len,K9];unfold nG;rw[G5];constructor
  ·rintro⟨⟨i,hi,rfl⟩,z⟩
   have:=F5.mp hi;exact⟨by omega,by omega,by simpa using z⟩
  ·rintro⟨z1,z2,z3⟩
   exact⟨⟨(x-1).toNat,F5.mpr (by omega),by omega⟩,by simpa using z3⟩
theorem Wj{Pr:SR→Prop}{v:V}{C:A7}{nm:List Str}{ds:List D}{x:Str}{f:FE}{g:GS}{d:D}{rest:EN}(h:f (rE (.own (.ins C nm ds)::rest))=ND d)(hx:posK nm x=none)(hl:nm.length<900)(k:Qs Pr (g (.inn v (.ins C (nm++[x]) (ds++[d]))::rest))):Qs Pr (aW (iW 0 (vM C 0 cR x f)) g (.inn v (.ins C nm ds)::rest)):=qD U (tL (p:=[]) U U U h hl hx) U k
theorem aG1{Pr:SR→Prop}{v:V}{C:A7}{nm:List Str}{ds:List D}{x:Str}{f:FE}{d:D}{rest:EN}(h:f (rE (.own (.ins C nm ds)::rest))=ND d)(hx:posK nm x=none)(hl:nm.length<900)(k:Pr (.next (.inn v (.ins C (nm++[x]) (ds++[d]))::rest))):Qs Pr (iW 0 (vM C 0 cR x f) (.inn v (.ins C nm ds)::rest)):=Qa U (tL (p:=[]) U U U h hl hx) U k
variable(κ:Nat→A7)
theorem aB8(h:Built P R rs od):uF κ [.ins (κ 1) [] [],bJ (bG P R rs aZ)]=ND (.non,lH κ (Wb.first P R rs aZ od)):=by
 refine oX U λv=>?_;have aB2:P*R≤8*8:=P7 h.p8 h.r8;have h64:od.length≤64:=by
  have:=kY (P*R) od h.Tp λx hx=>by have:=h.Cj x hx;omega
  omega
 have hl:=yV P R rs aZ;have aB3:=aD1 (R:=R) (cM:=rs) (aZ:=aZ) h.p1 h.p8;have hbn:sZ κ [.ins (κ 0) [] [],bJ (bG P R rs aZ)]=_:=aDT κ (tO:=bG P R rs aZ) (by rw[hl];exact h.p8);have hstr:=Wi (aZ:=aZ) h.p1 h.p8 h.r1 h.chain h.Cj h.Tp h64;have hlo:=aB1 (aZ:=aZ) h.p1 h.p8 h.r1 h.r8 h.chain h.Cj h.Tp h64;have hso:∀k:Nat,wX [bJ (bG P R rs aZ),.int (k:Int)]=ND (dTup [((k%P:Nat):Int),((k/P:Nat):Int)]):=λk=>(jr (by rw[hl];exact h.p1) (by rw[hl];have:=h.p8;omega)).trans (by rw[hl,Y8,Y9]);have hwv:lH κ (Wb.first P R rs aZ od)=.ins (κ 1) tW [cW (κ 0) ⟨bG P R rs aZ,[],[],[],[]⟩,YX P (P*R),aJ od,aJ ((nG (P*R)).filter λi=>!decide (i∈od)),Lj ⟨[],[]⟩,Lj ⟨[],[]⟩,Lj ⟨[],[]⟩]:=by unfold lH Wb.P Wb.first;dsimp only;rw[hl,h.len]
 rw[hwv];clear hwv;generalize bJ (bG P R rs aZ)=st at *;generalize cW (κ 0) ⟨bG P R rs aZ,[],[],[],[]⟩=bd at *;generalize ((nG (P*R)).filter λi=>!decide (i∈od))=lo at *
 suffices hh:Qs (JH .non (.ins (κ 1) tW [bd,YX P (P*R),aJ od,aJ lo,Lj ⟨[],[]⟩,Lj ⟨[],[]⟩,Lj ⟨[],[]⟩]) v) (zQ κ [.inn v (.ins (κ 1) [] []),.fro st])from hh
 unfold zQ;refine Wj (d:=bd) (MF (aA U U) hbn) U (by decide) ?_;refine Wj (d:=YX P (P*R)) (Eb (n:=P*R) (Bj (aA (bW (aA U U) U aB3) U) (by omega)) (by omega) λk hk=>bW (aA U (aA U U)) U (hso k)) (by decide +kernel) (by decide) ?_;refine Wj (d:=aJ od) (bW (aA U U) U hstr) (by decide +kernel) (by decide) ?_;refine Wj (d:=aJ lo) (bW (aA U U) U hlo) (by decide +kernel) (by decide) ?_;refine Wj (d:=Lj ⟨[],[]⟩) U (by decide +kernel) (by decide) ?_;refine Wj (d:=Lj ⟨[],[]⟩) U (by decide +kernel) (by decide) ?_;exact aG1 (d:=Lj ⟨[],[]⟩) U (by decide +kernel) (by decide) ⟨_,.inr ⟨U,U⟩,U⟩
end
theorem wy{b:Bn}(h:b.bD.length≤8):qH κ [cW (κ 0) b]=ND (iK b.bD):=kZ U (fY (Iu (xs:=b.bD) (ψ:=fU) (φ:=fU) (kO (cQ U Bq)) (by omega) λx _=>fG (aA U U) (sE (Gj λd hd=>by
  obtain⟨t,_,rfl⟩:=G5.mp hd;exact lN t))))
theorem CG(l:List Int):RC (aJ l) (.lst [])=ND (.bl (!decide (l=[]))):=Pz l []
def setAt(ps:List (List (List Int)))(c:jX):List (List (List Int)):=ps.set c.cA.toNat ((ps.getD c.cA.toNat []).set c.place.toNat c.thing)
def lay(st:List (List (List Int)))(cs:List jX)(l:List Int):List (List (List Int)):=l.foldl (λps k=>setAt ps (at_ cs k.toNat)) st
theorem aB9(st:List (List (List Int)))(cs:List jX)(l:List Int)(k:Int):lay st cs (l++[k])=setAt (lay st cs l) (at_ cs k.toNat):=by unfold lay;rw[T6];rfl
theorem aD2(st:List (List (List Int)))(cs:List jX)(l m:List Int):lay st cs (l++m)=lay (lay st cs l) cs m:=by unfold lay;rw[T6]
theorem Tr(r:List Int):∀b:Bn,(b.bV r).bD=lay b.bD b.asked r:=by
 induction r with
 | nil=>intro b;rfl
 | cons k r ih=>intro b;exact(ih (b.strike k)).trans U
theorem aCa{st:List (List (List Int))}{cs:List jX}{c:jX}{l:List Int}(h:∀x∈l,0≤x∧x<(cs.length:Int)):lay st (cs++[c]) l=lay st cs l:=by
 unfold lay
 induction l generalizing st with
 | nil=>rfl
 | cons k l ih=>have hk:=h k C9;rw[o7,o7,gZ (show k.toNat<cs.length by omega)];exact ih λx hx=>h x (C6 _ hx)
def Shape(a b:List (List (List Int))):Prop:=a.length=b.length∧∀p:Nat,(a.getD p []).length=(b.getD p []).length
theorem Ri{α:Type}(l:List α)(i j:Nat)(x d:α):(l.set i x).getD j d=if i=j∧i<l.length then x else l.getD j d:=by
 simp only[B8,G4];by_cases c:i=j
 ·rw[if_pos c];by_cases e:i<l.length
  ·rw[if_pos e,if_pos ⟨c,e⟩];rfl
  ·rw[if_neg e,if_neg λz=>e z.2,E1 (by omega)]
 ·rw[if_neg c,if_neg λz=>c z.1]
theorem QM(ps:List (List (List Int)))(c:jX):Shape (setAt ps c) ps:=by
 refine⟨by unfold setAt;rw[K2],λp=>?_⟩;unfold setAt;rw[Ri];split
 ·rename_i h;rw[K2,h.1]
 ·rfl
theorem Shape.trans{a b c:List (List (List Int))}(h:Shape a b)(k:Shape b c):Shape a c:=⟨h.1.trans k.1,λp=>(h.2 p).trans (k.2 p)⟩
theorem Br(cs:List jX)(l:List Int):∀st,Shape (lay st cs l) st:=by
 induction l with
 | nil=>exact λst=>⟨U,λ_=>rfl⟩
 | cons k l ih=>exact λst=>(ih (setAt st (at_ cs k.toNat))).trans (QM _ _)
theorem wz{a b:List (List (List Int))}(h:Shape a b)(v:∀p q,p<a.length→q<(a.getD p []).length→val a p q=val b p q):a=b:=by
 apply K5;intro p;by_cases hp:p<a.length
 ·have hp':p<b.length:=by rw[←h.1];exact hp
  rw[gY (d:=[]) hp,gY (d:=[]) hp'];congr 1;apply K5;intro q;have hq:=h.2 p;by_cases hqa:q<(a.getD p []).length
  ·rw[gY (d:=[]) hqa,gY (d:=[]) (by omega)];exact congrArg ND (v p q hp hqa)
  ·rw[E1 (by omega),E1 (by omega)]
 ·rw[E1 (by omega),E1 (by have:=h.1;omega)]
def Spot(st:List (List (List Int)))(c:jX):Prop:=0≤c.cA∧c.cA<(st.length:Int)∧0≤c.place∧c.place<((st.getD c.cA.toNat []).length:Int)
def here(cs:List jX)(p q:Nat)(k:Int):Bool:=decide ((at_ cs k.toNat).cA=(p:Int)∧(at_ cs k.toNat).place=(q:Int))
theorem xf{ps:List (List (List Int))}{c:jX}(h:Spot ps c)(p q:Nat):val (setAt ps c) p q=if c.cA=(p:Int)∧c.place=(q:Int)then c.thing else val ps p q:=by
 obtain⟨h1,h2,h3,h4⟩:=h;unfold val setAt;rw[Ri];by_cases c1:c.cA.toNat=p
 ·rw[if_pos ⟨c1,by omega⟩,Ri];by_cases c2:c.place.toNat=q
  ·rw[if_pos ⟨c2,by omega⟩,if_pos ⟨by omega,by omega⟩]
  ·rw[if_neg λz=>c2 z.1,if_neg λz=>c2 (by omega),c1]
 ·rw[if_neg λz=>c1 z.1,if_neg λz=>c1 (by omega)]
theorem Rj{a b:List (List (List Int))}(h:Shape a b){c:jX}(s:Spot b c):Spot a c:=by obtain⟨h1,h2,h3,h4⟩:=s;refine⟨h1,by rw[h.1];exact h2,h3,by rw[h.2];exact h4⟩
theorem snoc_ind{α:Type}{P:List α→Prop}(h0:P [])(hs:∀l a,P l→P (l++[a]))(l:List α):P l:=by
 have:∀m:List α,P m.reverse:=λm=>by
  induction m with
  | nil=>exact h0
  | cons a m ih=>rw[j7];exact hs _ _ ih
 have h:=this l.reverse;rw[d9]at h;exact h
theorem CJ{st:List (List (List Int))}{cs:List jX}{p q:Nat}:∀(l:List Int),(∀k∈l,Spot st (at_ cs k.toNat))→val (lay st cs l) p q=topOf cs (val st p q) (l.filter (here cs p q)).getLast?:=by
 refine snoc_ind ?_ ?_
 ·exact λ_=>rfl
 ·intro l k ih h;have ih:=ih λx hx=>h x (G6 _ hx);have hk:=h k (F0 _ (by simp));rw[aB9,xf (Rj (Br cs l st) hk),P1];by_cases c:(at_ cs k.toNat).cA=(p:Int)∧(at_ cs k.toNat).place=(q:Int)
  ·rw[if_pos c,O5 (show here cs p q k=NG from decide_eq_true c),N4,V5];rfl
  ·rw[if_neg c,O6 (by unfold here;simpa using c),N4,F2];exact ih
def Inc(cs:List jX)(l:List Int):Prop:=∀p q:Nat,(l.filter (here cs p q)).Pairwise (·<·)
theorem aCb{st:List (List (List Int))}{cs:List jX}{l m:List Int}(hl:Inc cs l)(hm:Inc cs m)(h:∀x,x∈l↔x∈m)(hs:∀k∈l,Spot st (at_ cs k.toNat)):lay st cs l=lay st cs m:=by have a:=Br cs l st;have b:=Br cs m st;refine wz ⟨a.1.trans b.1.symm,λp=>(a.2 p).trans (b.2 p).symm⟩ λp q _ _=>?_;rw[CJ l hs,CJ m λk hk=>hs k ((h k).mpr hk)];congr 2;exact pU (hl p q) (hm p q) λx=>by rw[K9,K9,h x]
theorem aG2{cs:List jX}{l:List Int}(h:l.Pairwise (·<·)):Inc cs l:=λp q=>h.sublist Q3
def aD3(cs:List jX):Prop:=∀k,k<cs.length→∀j,lastAt (cs.take k) (at_ cs k).cA (at_ cs k).place=ND j→j∈(at_ cs k).needs
theorem Wk{cs:List jX}{p q:Int}:∀(k:Nat),k≤cs.length→∀j:Nat,j<k→(at_ cs j).cA=p→(at_ cs j).place=q→∃m:Int,lastAt (cs.take k) p q=ND m∧(j:Int)≤m∧m<(k:Int)∧(at_ cs m.toNat).cA=p∧(at_ cs m.toNat).place=q
 | 0,_,j,hj,_,_=>absurd hj (I0 _)
 | k+1,hk,j,hj,h1,h2=>by
  have e:cs.take (k+1)=cs.take k++[at_ cs k]:=by rw[O4,gY (d:=default) (show k<cs.length by omega)];rfl
  rw[e,qK,F3,show min k cs.length=k by omega];by_cases c:(at_ cs k).cA=p∧(at_ cs k).place=q
  ·rw[if_pos c];exact⟨k,U,by omega,by omega,by rw[C8];exact c.1,by rw[C8];exact c.2⟩
  ·rw[if_neg c];have:j≠k:=λz=>c (by rw[←z];exact⟨h1,h2⟩);obtain⟨m,a1,a2,a3,a4⟩:=Wk k (by omega) j (by omega) h1 h2;exact⟨m,a1,a2,by omega,a4⟩
def Ju(cs:List jX)(l:List Int):Prop:=∀x∈l,∀m∈(at_ cs x.toNat).needs,m∈l
theorem below{cs:List jX}{l:List Int}(hp:aD3 cs)(hc:Ju cs l)(hb:∀x∈l,0≤x∧x<(cs.length:Int)):∀(n x j:Nat),x<n→(x:Int)∈l→j<x→(at_ cs j).cA=(at_ cs x).cA→(at_ cs j).place=(at_ cs x).place→(j:Int)∈l:=by
 intro n
 induction n with
 | zero=>exact λx j hx=>absurd hx (I0 _)
 | succ n ih=>
  intro x j hx hxl hj h1 h2;have hxb:=hb _ hxl;obtain⟨m,a1,a2,a3,a4,a5⟩:=Wk x (show x≤cs.length by omega) j hj h1 h2;have hm:=hc _ hxl m (by rw[C8];exact hp x (by omega) m a1);obtain⟨i,rfl⟩:∃i:Nat,m=i:=⟨m.toNat,by omega⟩
  rw[C8]at a4 a5;by_cases e:i=j
  ·rw[←e];exact hm
  ·exact ih i j (by omega) hm (by omega) (h1.trans a4.symm) (h2.trans a5.symm)
theorem aCc{cs:List jX}{l:List Int}{k:Int}(hp:aD3 cs)(hc:Ju cs l)(hb:∀x∈l,0≤x∧x<(cs.length:Int))(hi:Inc cs l)(h0:0≤k)(hn:k∉l):Inc cs (l++[k]):=λp q=>by
 rw[P1];by_cases c:here cs p q k=NG
 ·rw[O5 c,N4];refine K7.mpr ⟨hi p q,by simp,λx hx y hy=>?_⟩;rw[D9.mp hy];obtain⟨x1,x2⟩:=K9.mp hx;have hxb:=hb x x1;have x2:=of_decide_eq_true x2;have c:=of_decide_eq_true c;refine Decidable.byContradiction λz=>?_;obtain⟨i,rfl⟩:∃i:Nat,x=i:=⟨x.toNat,by omega⟩
  obtain⟨j,rfl⟩:∃j:Nat,k=j:=⟨k.toNat,by omega⟩
  rw[C8]at x2 c;have ne:i≠j:=λe=>hn (by rw[←e];exact x1);exact hn (below hp hc hb (i+1) i j (by omega) x1 (by omega) (c.1.trans x2.1.symm) (c.2.trans x2.2.symm))
 ·rw[O6 c,N4,F2];exact hi p q
theorem Kq{cs:List jX}{l r:List Int}{p:Int}(hg:Good cs)(hc:Ju cs l)(hR:PX cs l p r)(n:Nat):Ju cs (l++r.take n):=λx hx m hm=>by
 rcases G0.mp hx with z | z
 ·exact G6 _ (hc x z m hm)
 ·have hxr:=(hR.2.2 x).mp (L5 z);rcases hxr.2 m hm with y | y
  ·exact G6 _ y
  ·refine F0 _ ?_;have hlt:=(hg.2 x.toNat (by omega)).1 m hm;obtain⟨i,hi,ei⟩:=J1 y;obtain⟨j,hj,ej⟩:=J1 z;rw[F3]at hj;rw[Q9]at ej;have hij:i<j:=by
    refine Decidable.byContradiction λw=>?_;rcases J2 j i with w2 | w2
    ·have:=K6.mp hR.1 j i (by omega) hi w2;omega
    ·have e:i=j:=by omega
     subst e;rw[ei]at ej;omega
   exact E4 (i:=i) (by rw[X0,if_pos (by omega),B6 hi,ei])
theorem QQ{cs:List jX}{l r:List Int}{p:Int}(hg:Good cs)(hp:aD3 cs)(hc:Ju cs l)(hb:∀x∈l,0≤x∧x<(cs.length:Int))(hi:Inc cs l)(hR:PX cs l p r):∀n,Inc cs (l++r.take n)
  | 0=>by rw[r9,F2];exact hi
  | n+1=>by
    have ih:=QQ hg hp hc hb hi hR n;by_cases hn:n<r.length
    · have e:r.take (n+1)=r.take n++[r[n]]:=by rw[O4,B6 hn];rfl
      have hx:=(hR.2.2 r[n]).mp (N7 hn);rw[e,←O3];refine aCc hp (Kq hg hc hR n) (λx hx'=>?_) ih hx.1.1 λz=>?_
      · rcases G0.mp hx' with z | z
        · exact hb x z
        · have:=((hR.2.2 x).mp (L5 z)).1
          exact⟨this.1,this.2.1⟩
      · rcases G0.mp z with z | z
        · exact hx.1.2.2.2 z
        · have hu:=hR.1.sublist (M5 (n+1) r)
          rw[e]at hu;have:=(K7.mp hu).2.2 _ z r[n] (by simp);omega
    · rw[O7 (by omega)]at ih ⊢
      exact ih
structure Am(st:List (List (List Int)))(b:Bn):Prop where
 ok:Ae b
 bD:b.bD=lay st b.asked b.held
 prev:aD3 b.asked
 closed:Ju b.asked b.held
 inc:Inc b.asked b.held
theorem Am.shape{st:List (List (List Int))}{b:Bn}(h:Am st b):Shape b.bD st:=by rw[h.bD];exact Br _ _ _
theorem Am.init{st:List (List (List Int))}(hl:st.length≤8):Am st ⟨st,[],[],[],[]⟩:=⟨Ae.init hl,U,λk hk=>absurd hk (I0 _),λx hx=>(by cases hx),λp q=>k7⟩
theorem Am.put{st:List (List (List Int))}{b:Bn}(h:Am st b){p q:Int}{th ns:List Int}(h60:b.asked.length<124)(h0:0≤p)(h1:p<(b.bD.length:Int))(h2:0≤q)(h3:q<((b.bD.getD p.toNat []).length:Int))(hn:∀m∈ns,0≤m∧m<(b.asked.length:Int))(hl:ns.length≤8):Am st (b.put p q th ns):=by
 have hb:=h.ok.nums.2;have hat:∀x∈b.held,at_ (b.asked++[gJ b p q th ns]) x.toNat=at_ b.asked x.toNat:=λx hx=>gZ (by have:=hb x hx;omega);refine⟨h.ok.put h60 h0 h1 h2 h3 hn hl,h.bD.trans (aCa hb).symm,λk hk j hj=>?_,λx hx m hm=>?_,λp' q'=>?_⟩
 ·have hlen:(b.put p q th ns).asked.length=b.asked.length+1:=by unfold Bn.put;rw[C7];rfl
  rw[hlen]at hk;have htk:(b.put p q th ns).asked.take k=b.asked.take k:=by show (b.asked++[gJ b p q th ns]).take k=_;rw[List.take_append_of_le_length (by omega)]
  rcases J2 k b.asked.length with z | z
  ·have e:at_ (b.put p q th ns).asked k=at_ b.asked k:=gZ z;rw[htk,e]at hj;rw[e];exact h.prev k z j hj
  ·have ek:k=b.asked.length:=by omega
   have e:at_ (b.put p q th ns).asked k=gJ b p q th ns:=by rw[ek];exact nP _ _
   rw[htk,e,ek,N8]at hj;rw[e];have hj:lastAt b.asked p q=ND j:=hj;show j∈RD (ns++(lastAt b.asked p q).toList);rw[Bb,hj];simp
 ·have hx:x∈b.held:=hx;have hm:m∈(at_ (b.asked++[gJ b p q th ns]) x.toNat).needs:=hm;rw[hat x hx]at hm;exact h.closed x hx m hm
 ·have:=h.inc p' q';rw[show (b.put p q th ns).held=b.held from rfl];rw[T8 (q:=here b.asked p' q') λx hx=>by unfold here;rw[show (b.put p q th ns).asked=b.asked++[gJ b p q th ns]from rfl,hat x hx]];exact this
theorem Am.bV{st:List (List (List Int))}{b:Bn}(h:Am st b){p:Int}{r:List Int}(hR:PX b.asked b.held p r)(n:Nat):Am st (b.bV (r.take n)):=by
 have e1:=jE (r.take n) b;have e2:=pD (r.take n) b;have htr:∀x∈r.take n,0≤x∧x<(b.asked.length:Int)∧_∧x∉b.held:=λx hx=>((hR.2.2 x).mp (L5 hx)).1;refine⟨h.ok.bV ((hR.1.sublist (M5 _ _)).imp λz=>by omega) (λx hx=>⟨(htr x hx).1,(htr x hx).2.1⟩) (λx hx=>(htr x hx).2.2.2),?_,by rw[e1];exact h.prev,?_,?_⟩
 ·rw[Tr,e1,e2,aD2,←h.bD]
 ·rw[e1,e2];exact Kq h.ok.good h.closed hR n
 ·rw[e1,e2];exact QQ h.ok.good h.prev h.closed h.ok.nums.2 h.inc hR n
theorem QR{i:Nat}{g:GS}(I:Nat→EN→Prop)(Rt:D→Prop):∀(xs:List D)(env:EN)(n:Nat),I n env→(∀k x env,xs[k]?=ND x→I (n+k) env→i<env.length∧((∃env',g (env.set i (.fro x))=.next env'∧I (n+k+1) env')∨(∃d,g (env.set i (.fro x))=.ret d∧Rt d)))→(∃env',By i g xs env=.next env'∧I (n+xs.length) env')∨∃d,By i g xs env=.ret d∧Rt d
 | [],env,n,h,_=>.inl ⟨env,U,h⟩
 | x::xs,env,n,h,st=>by
  obtain⟨hl,q⟩:=st 0 x env U h;unfold By;rw[if_pos hl];rcases q with ⟨env',q1,q2⟩ | ⟨d,q1,q2⟩
  ·rw[q1];have:=QR I Rt xs env' (n+1) q2 λk y e hy hi=>by have z:=st (k+1) y e hy (by rw[show n+(k+1)=n+1+k by omega];exact hi);rw[show n+(k+1)=n+1+k by omega]at z;exact z
   rw[D8,show n+(xs.length+1)=n+1+xs.length by omega];exact this
  ·rw[q1];exact .inr ⟨d,U,q2⟩
theorem ZM{i:Nat}{gb g:GS}{env:EN}{Pr:SR→Prop}{fi:FA}{n:Nat}(I:Nat→EN→Prop)(h:fi (rE env)=ND (iJ 0 n))(h0:I 0 env)
  (st:∀(k:Nat) env,k<n→I k env→i<env.length∧Qs (λr=>(∃env',r=.next env'∧I (k+1) env')∨∃d,r=.ret d∧Pr (.ret d)) (gb (env.set i (.fro (.int k))))) (k:∀env',I n env'→Qs Pr (g env')):Qs Pr (aW (xW i fi gb) g env):=by
 rcases QR (i:=i) (g:=gb) I (λd=>Pr (.ret d)) (iJ 0 n) env 0 h0 λk x e hx hi=>by obtain⟨hk,rfl⟩:=Dw hx;rw[P0]at hi ⊢;rw[Y4];exact⟨(st k e hk hi).1,(st k e hk hi).2⟩with ⟨env',h1,h2⟩ | ⟨d,h1,h2⟩
 ·rw[P0,wV]at h2;rw[eG ((Pk h).trans h1)];exact k env' h2
 ·rw[Gf ((Pk h).trans h1)];exact h2
def An(nx:Int→Int):List Int→Prop
 | []=>True
 | a::r=>nx a=r.headD 0∧An nx r
theorem An.congr{nx nx':Int→Int}:∀{l:List Int},(∀y∈l,nx' y=nx y)→An nx l→An nx' l
 | [],_,_=>trivial
 | a::r,h,⟨h1,h2⟩=>⟨(h a C9).trans h1,An.congr (λy hy=>h y (C6 _ hy)) h2⟩
def Ey(p b:Int):List Int→List Int
 | []=>[]
 | a::r=>if a=p then a::b::r else a::Ey p b r
theorem xg(p b:Int)(l:List Int):(Ey p b l).headD 0=l.headD 0:=by
 cases l with
 | nil=>rfl
 | cons a r=>
  unfold Ey
  split<;>rfl
theorem Rk{p b x:Int}:∀{l:List Int},p∈l→(x∈Ey p b l↔x=b∨x∈l)
  | [],h=>by cases h
  | a::r,h=>by
    unfold Ey;by_cases c:a=p
    · rw[if_pos c]
      simp only[C5];constructor
      · rintro(z | z | z)
        · exact .inr (.inl z)
        · exact .inl z
        · exact .inr (.inr z)
      · rintro(z | z | z)
        · exact .inr (.inl z)
        · exact .inl z
        · exact .inr (.inr z)
    · rw[if_neg c]
      have hp:p∈r:=(C5.mp h).elim (λz=>absurd z.symm c) id;rw[C5,Rk hp,C5];constructor
      · rintro(z | z | z)
        · exact .inr (.inl z)
        · exact .inl z
        · exact .inr (.inr z)
      · rintro(z | z | z)
        · exact .inr (.inl z)
        · exact .inl z
        · exact .inr (.inr z)
theorem Ez{p b:Int}:∀{l:List Int},l.Nodup→p∈l→b∉l→(Ey p b l).Nodup
 | [],_,h,_=>by cases h
 | a::r,hn,h,hb=>by
  obtain⟨n1,n2⟩:=E8.mp hn;have ba:b≠a:=λz=>hb (by rw[z];exact C9);have br:b∉r:=λz=>hb (C6 _ z);unfold Ey;by_cases c:a=p
  ·rw[if_pos c];exact E8.mpr ⟨λz=>(C5.mp z).elim (λe=>ba e.symm) n1,E8.mpr ⟨br,n2⟩⟩
  ·rw[if_neg c];have hp:p∈r:=(C5.mp h).elim (λz=>absurd z.symm c) id;exact E8.mpr ⟨λz=>((Rk hp).mp z).elim (λe=>ba e.symm) n1,Ez n2 hp br⟩
theorem Mu{p b:Int}:∀{l:List Int},p∈l→Ey p b l=l.take (l.idxOf p+1)++b::l.drop (l.idxOf p+1)
 | [],h=>by cases h
 | a::r,h=>by
  unfold Ey;by_cases c:a=p
  ·subst c;rw[if_pos U,V7];rfl
  ·have hp:p∈r:=(C5.mp h).elim (λz=>absurd z.symm c) id;rw[if_neg c,V4,show (a==p)=NH from beq_false_of_ne c,Mu hp];rfl
theorem An.ins{nx nx':Int→Int}{p b:Int}(h1:nx' p=b)(h2:nx' b=nx p):∀{l:List Int},l.Nodup→p∈l→(∀y∈l,y≠p→nx' y=nx y)→An nx l→An nx' (Ey p b l)
 | [],_,h,_,_=>by cases h
 | a::r,hn,h,hy,⟨q1,q2⟩=>by
  obtain⟨n1,n2⟩:=E8.mp hn;unfold Ey;by_cases c:a=p
  ·subst c;rw[if_pos rfl];exact⟨h1,h2.trans q1,q2.congr λy hr=>hy y (C6 _ hr) λz=>n1 (z▸hr)⟩
  ·rw[if_neg c];have hp:p∈r:=(C5.mp h).elim (λz=>absurd z.symm c) id;exact⟨(hy a C9 c).trans (q1.trans (xg p b r).symm),An.ins h1 h2 n2 hp (λy hr=>hy y (C6 _ hr)) q2⟩
theorem An.era{nx nx':Int→Int}{p x:Int}(h1:nx p=x)(h0:x≠0)(h2:nx' p=nx x):∀{l:List Int},l.Nodup→p∈l→(∀y∈l,y≠p→nx' y=nx y)→An nx l→x∈l.tail∧An nx' (l.erase x)
 | [],_,h,_,_=>by cases h
 | a::r,hn,h,hy,⟨q1,q2⟩=>by
  obtain⟨n1,n2⟩:=E8.mp hn;by_cases c:a=p
  ·subst c;cases r with
   | nil=>exact absurd (h1.symm.trans q1) h0
   | cons e r=>have ex:e=x:=q1.symm.trans h1;subst ex;have ae:a≠e:=λz=>n1 (by rw[z];exact C9);refine⟨C9,?_⟩;rw[P6 (by simpa using ae),List.erase_cons_head];refine⟨h2.trans q2.1,q2.2.congr λy hr=>hy y (C6 _ (C6 _ hr)) λz=>n1 (z▸C6 _ hr)⟩
  ·have hp:p∈r:=(C5.mp h).elim (λz=>absurd z.symm c) id;obtain⟨i1,i2⟩:=An.era h1 h0 h2 n2 hp (λy hr=>hy y (C6 _ hr)) q2;have xr:x∈r:=List.mem_of_mem_tail i1;have ax:a≠x:=λz=>n1 (z▸xr);refine⟨xr,?_⟩;rw[P6 (by simpa using ax)];refine⟨(hy a C9 c).trans (q1.trans ?_),i2⟩;cases r with
   | nil=>cases xr
   | cons e r=>have ex:e≠x:=λz=>(E8.mp n2).1 (z▸i1);rw[P6 (by simpa using ex)];rfl
theorem An.one{nx:Int→Int}:∀{l m:List Int} {a:Int},(0:Int)∉l→(0:Int)∉m→An nx (a::l)→An nx (a::m)→l=m
 | [],[],_,_,_,_,_=>rfl
 | [],b::m,a,_,hm,h1,h2=>by have e:(0:Int)=b:=h1.1.symm.trans h2.1;exact absurd (by rw[e];exact C9) hm
 | b::l,[],a,hl,_,h1,h2=>by have e:b=(0:Int):=h1.1.symm.trans h2.1;exact absurd (by rw[←e];exact C9) hl
 | b::l,c::m,a,hl,hm,h1,h2=>by have e:b=c:=h1.1.symm.trans h2.1;subst e;rw[An.one (λz=>hl (C6 _ z)) (λz=>hm (C6 _ z)) h1.2 h2.2]
theorem An.get{nx:Int→Int}:∀{r:List Int} {a:Int},An nx (a::r)→∀k,k≤r.length→nx ((a::r).getD k 0)=(r++[0]).getD k 0
 | [],a,h,k,hk=>by obtain rfl:k=0:=Nat.le_zero.mp hk;exact h.1
 | b::r,a,h,0,hk=>h.1
 | b::r,a,h,k+1,hk=>An.get h.2 k (Nat.le_of_succ_le_succ hk)
theorem An.of{nx:Int→Int}:∀{r:List Int} {a:Int},(∀k,k≤r.length→nx ((a::r).getD k 0)=(r++[0]).getD k 0)→An nx (a::r)
 | [],a,h=>⟨h 0 (D1 _),trivial⟩
 | b::r,a,h=>⟨h 0 (M3 _),An.of λk hk=>h (k+1) (U1 hk)⟩
def Dd(cs:List jX)(S:Int→Bool)(p q:Int):Option Int:=((D2 cs.length).filter λk=>decide ((at_ cs k).cA=p∧(at_ cs k).place=q)&&S (k:Int)).getLast?.map λk=>((k:Nat):Int)
theorem Rm(cs:List jX)(S:Int→Bool)(c:jX)(p q:Int):Dd (cs++[c]) S p q=if(c.cA=p∧c.place=q)∧S (cs.length:Int)=NG then ND (cs.length:Int)else Dd cs S p q:=by
 unfold Dd;have e:(D2 cs.length).filter (λk=>decide ((at_ (cs++[c]) k).cA=p∧(at_ (cs++[c]) k).place=q)&&S (k:Int))=(D2 cs.length).filter λk=>decide ((at_ cs k).cA=p∧(at_ cs k).place=q)&&S (k:Int):=T8 λk hk=>by rw[gZ (F5.mp hk)]
 rw[C7,show cs.length+[c].length=cs.length+1 from rfl,b6,P1,e];by_cases h:(c.cA=p∧c.place=q)∧S (cs.length:Int)=NG
 ·rw[if_pos h,O5 (by rw[nP,decide_eq_true h.1,h.2];rfl),N4,V5];rfl
 ·rw[if_neg h,O6 (by rw[nP,G9,decide_eq_true_iff];exact h),N4,F2]
theorem QS{cs:List jX}{S:Int→Bool}{p q k:Int}(h:Dd cs S p q=ND k):0≤k∧k<(cs.length:Int):=by unfold Dd at h;obtain⟨j,h1,rfl⟩:=lJ h;have:=F5.mp (K9.mp (f6 h1)).1;omega
def Rn(st:List (List (List Int)))(cs:List jX)(S:Int→Bool)(p q:Int):List Int:=topOf cs (val st p.toNat q.toNat) (Dd cs S p q)
theorem xj(st:List (List (List Int)))(cs:List jX)(S:Int→Bool)(c:jX)(p q:Int):Rn st (cs++[c]) S p q=if(c.cA=p∧c.place=q)∧S (cs.length:Int)=NG then c.thing else Rn st cs S p q:=by
 unfold Rn;rw[Rm];by_cases h:(c.cA=p∧c.place=q)∧S (cs.length:Int)=NG
 ·rw[if_pos h,if_pos h];show (at_ (cs++[c]) (cs.length:Int).toNat).thing=c.thing;rw[C8,nP]
 ·rw[if_neg h,if_neg h];cases e:Dd cs S p q with
  | none=>rfl
  | some k=>have:=QS e;show (at_ _ k.toNat).thing=(at_ _ k.toNat).thing;rw[gZ (by omega)]
theorem Ro{S:Int→Bool}{p q:Int}(cs:List jX):(∀k,lastAt cs p q=ND k→S k=NG)→Dd cs S p q=lastAt cs p q:=by
 induction cs using snoc_ind with
 | h0=>exact λ_=>rfl
 | hs cs c ih=>
  rw[qK,Rm];by_cases h:c.cA=p∧c.place=q
  ·rw[if_pos h];intro k;rw[if_pos ⟨h,k _ U⟩]
  ·rw[if_neg h,if_neg λz=>h z.1];exact ih
def Dn(cs:List jX)(S:Int→Bool):Prop:=∀k,k<cs.length→S (k:Int)=NG→∀m∈(at_ cs k).needs,S m=NG
theorem Dn.init{cs:List jX}{S:Int→Bool}{c:jX}(h:Dn (cs++[c]) S):Dn cs S:=λk hk hS m hm=>h k (by rw[C7];omega) hS m (by rw[gZ hk];exact hm)
theorem Dn.last{cs:List jX}{S:Int→Bool}{c:jX}(h:Dn (cs++[c]) S)(hS:S (cs.length:Int)=NG):∀m∈c.needs,S m=NG:=λm hm=>h cs.length (by rw[C7];exact M7 _) hS m (by rw[nP];exact hm)
def inB(l:List Int):Int→Bool:=λk=>decide (k∈l)
theorem Am.dn{st:List (List (List Int))}{b:Bn}(h:Am st b):Dn b.asked (inB b.held):=λk _ hS m hm=>decide_eq_true (h.closed (k:Int) (of_decide_eq_true hS) m (by rw[C8];exact hm))
theorem Am.val{st:List (List (List Int))}{b:Bn}(h:Am st b)(p q:Nat):val b.bD p q=Rn st b.asked (inB b.held) p q:=by
 have hm:∀x,x∈b.held↔x∈((D2 b.asked.length).filter λk:Nat=>inB b.held (k:Int)).map λk:Nat=>((k:Nat):Int):=λx=>by
  rw[G5];constructor
  ·intro hx;have:=h.ok.nums.2 x hx;exact⟨x.toNat,K9.mpr ⟨F5.mpr (by omega),decide_eq_true (by rw[show ((x.toNat:Nat):Int)=x by omega];exact hx)⟩,by omega⟩
  ·rintro⟨k,hk,rfl⟩
   exact of_decide_eq_true (K9.mp hk).2
 have hs:∀k∈b.held,Spot st (at_ b.asked k.toNat):=λk hk=>by have hb:=h.ok.nums.2 k hk;exact Rj ⟨h.shape.1.symm,λp=>(h.shape.2 p).symm⟩ (h.ok.PN k.toNat (by omega))
 have hu:(((D2 b.asked.length).filter λk:Nat=>inB b.held (k:Int)).map λk:Nat=>((k:Nat):Int)).Pairwise (·<·):=by rw[T7];exact(T9.sublist Q3).imp λz=>by omega
 rw[h.bD,aCb h.inc (aG2 hu) hm hs,CJ _ λk hk=>hs k ((hm k).mpr hk)];unfold Rn Dd;rw[C8,C8];congr 1;rw[o6,k9,List.filter_filter];congr 2
structure Ev where
 i:Bool
 n:Int
 b:Int
 a:Int
def rep1(S:Int→Bool)(l:List Int)(e:Ev):Option (List Int):=if S e.n=NG then(if e.i=NG then(if e.b∈l∨e.a∉l then none else ND (Ey e.a e.b l))else(if e.b∉l then none else ND (l.erase e.b)))else ND l
def replay(S:Int→Bool):List Int→List Ev→Option (List Int)
 | l,[]=>ND l
 | l,e::es=>(rep1 S l e).bind λl'=>replay S l' es
theorem qM{S:Int→Bool}{e:Ev}:∀{es:List Ev} {l:List Int},replay S l (es++[e])=(replay S l es).bind λl'=>rep1 S l' e
 | [],l=>by
  show (rep1 S l e).bind (λl'=>ND l')=rep1 S l e;cases rep1 S l e<;>rfl
 | x::es,l=>by
  show (rep1 S l x).bind (λl'=>replay S l' (es++[e]))=((rep1 S l x).bind λl'=>replay S l' es).bind _;cases rep1 S l x with
  | none=>rfl
  | some y=>exact qM
def Wl(st:List (List (List Int)))(P:Nat)(cs:List jX)(S:Int→Bool)(x:Int):Int:=(Rn st cs S ((x.toNat%P:Nat):Int) ((x.toNat/P:Nat):Int)).getD 1 0
structure Row(st:List (List (List Int)))(first:List Int)(evs:List Ev)(s:Wb)(S:Int→Bool)(row:List Int):Prop where
 rep:replay S (0::first) evs=ND (0::row)
 nd:(0::row).Nodup
 bd:∀x∈row,1≤x∧x<(s.rs.length:Int)
 pth:An (Wl st s.P s.b.asked S) (0::row)
 ins:∀x∈s.od,(∀c,s.co.get x=ND c→S c=NG)→x∈row
 out:∀x,1≤x→x<(s.rs.length:Int)→x∉s.od→(∀g,s.go.get x=ND g→S g=NG)→x∉row
structure Ks(st:List (List (List Int)))(first:List Int)(evs:List Ev)(s:Wb):Prop where
 lb:Am st s.b
 rows:∀S,Dn s.b.asked S→∃row,Row st first evs s S row
 mem:An (λx=>(s.R x).getD 1 0) (0::s.od)
section
variable{st:List (List (List Int))}{first:List Int}{evs:List Ev}{s:Wb}{S:Int→Bool}
theorem Mv{x:Int}{r ns:List Int}(w:mQ s)(h0:0≤x)(h1:x<(s.rs.length:Int))(hD:Dn (s.wr x r ns).b.asked S)(hS:S (s.n:Int)=NG):(∀m∈ns,S m=NG)∧∀k,s.la.get x=ND k→S k=NG:=by have hl:∀m∈RD (ns++(lastAt s.b.asked ((x.toNat%s.P:Nat):Int) ((x.toNat/s.P:Nat):Int)).toList),S m=NG:=Dn.last (cs:=s.b.asked) (c:=gJ s.b ((x.toNat%s.P:Nat):Int) ((x.toNat/s.P:Nat):Int) r ns) hD hS;have e:=w.las x.toNat (by omega);rw[show ((x.toNat:Nat):Int)=x by omega]at e;refine⟨λm hm=>hl m ((Bb _ _).mpr (G6 _ hm)),λk hk=>hl k ((Bb _ _).mpr (F0 _ ?_))⟩;rw[←e,hk];exact D9.mpr U
theorem CK{x y:Int}{r ns:List Int}(h0:0≤x)(hy:0≤y):Wl st s.P (s.wr x r ns).b.asked S y=if y=x∧S (s.n:Int)=NG then r.getD 1 0 else Wl st s.P s.b.asked S y:=by
 unfold Wl;show (Rn st (s.b.asked++[gJ s.b ((x.toNat%s.P:Nat):Int) ((x.toNat/s.P:Nat):Int) r ns]) S _ _).getD 1 0=_;rw[xj];by_cases c:y=x∧S (s.n:Int)=NG
 ·rw[if_pos c,if_pos ⟨by rw[c.1];exact⟨U,U⟩,c.2⟩];rfl
 ·rw[if_neg c,if_neg]
  rintro⟨⟨z1,z2⟩,z3⟩
  have:=Qz (a:=x.toNat) (b:=y.toNat) z1 z2;exact c ⟨by omega,z3⟩
theorem Ks.full(h:Ks st first evs s)(w:mQ s){x:Int}(h0:0≤x)(h1:x<(s.rs.length:Int))(hS:∀k,s.la.get x=ND k→S k=NG):Wl st s.P s.b.asked S x=(s.R x).getD 1 0:=by
 have e:=w.las x.toNat (by omega);rw[show ((x.toNat:Nat):Int)=x by omega]at e;unfold Wl Rn;rw[Ro s.b.asked (by rw[←e];exact hS),Wb.R,(w.rcd x.toNat (by omega)).1];unfold face;cases q:lastAt s.b.asked ((x.toNat%s.P:Nat):Int) ((x.toNat/s.P:Nat):Int)with
 | some k=>rfl
 | none=>have v:=h.lb.val (x.toNat%s.P) (x.toNat/s.P);unfold Rn at v;rw[Ro s.b.asked (by rw[q];exact λk z=>nomatch z),q]at v;rw[C8,C8]at v ⊢;show (val st _ _).getD 1 0=(val s.b.bD _ _).getD 1 0;rw[v];rfl
theorem Ks.rw(h:Ks st first evs s)(w:mQ s){x:Int}{r ns:List Int}(h0:0≤x)(h1:x<(s.rs.length:Int))(hn:∀m∈ns,0≤m∧m<(s.n:Int))(hl:ns.length≤8)(hm:s.n<124)(hr:r.getD 1 0=(s.R x).getD 1 0):Ks st first evs (s.wr x r ns):=by
 obtain⟨a,b,c,d⟩:=w.spot h0 h1;refine⟨h.lb.put hm a b c d hn hl,λS hD=>?_,?_⟩
 ·obtain⟨row,R⟩:=h.rows S (Dn.init (cs:=s.b.asked) hD);refine⟨row,R.rep,R.nd,λy hy=>by rw[tQ];exact R.bd y hy,R.pth.congr λy hy=>?_,R.ins,λy y1 y2=>R.out y y1 (by rw[tQ]at y2;exact y2)⟩;have y0:0≤y:=by
   rcases C5.mp hy with z | z
   ·omega
   ·have:=R.bd y z;omega
  show Wl st s.P _ S y=_;rw[CK h0 y0];split
  ·rename_i q;rw[q.1,hr,h.full w h0 h1 (Mv w h0 h1 hD q.2).2]
  ·rfl
 ·refine h.mem.congr λy hy=>?_;have y0:0≤y:=by
   rcases C5.mp hy with z | z
   ·omega
   ·have:=w.Cj y z;omega
  show ((s.wr x r ns).R y).getD 1 0=(s.R y).getD 1 0;rw[ZD h0 h1 y0];split
  ·rename_i q;rw[hr,q]
  ·rfl
theorem Ks.ent(h:Ks st first evs s)(w:mQ s)(hlo:0<s.lo.length)(hm:s.n<123){k key was now fV:Int}{fu:List Int}(h0:0≤k)(h1:k≤(s.od.length:Int))(hn:∀m∈fu,0≤m∧m<(s.n:Int))(hf:fu.length≤5):Ks st first (evs++[⟨NG,(s.n+1:Nat),s.new,s.ahead k⟩]) (s.ent k key was now fV fu):=by
  obtain⟨b1,b2,b3,b4,b5⟩:=w.new hlo;obtain⟨p1,p2,p3⟩:=w.ahead h0 h1;have w1:=w.e1 hlo (by omega) k key was now fV;obtain⟨w2,hn2,hc⟩:=w.e2 hlo hm (key:=key) (was:=was) (now:=now) (fV:=fV) h0 h1 hn hf;have pb:s.ahead k≠s.new:=λz=>by
    rcases p1 with y | y
    · omega
    · exact b4 (z▸y)
  have hod:∀x,x∈s.od.take k.toNat++s.new::s.od.drop k.toNat↔x=s.new∨x∈s.od:=λx=>by
    conv=>rhs;rw[←M6 k.toNat s.od]
    simp only[G0,C5];constructor
    · rintro(z | z | z)
      · exact .inr (.inl z)
      · exact .inl z
      · exact .inr (.inr z)
    · rintro(z | z | z)
      · exact .inr (.inl z)
      · exact .inl z
      · exact .inr (.inr z)
  have hlen:=BP s k key was now fV fu;have en:=aBR s k key was now fV;have e1l:(s.e1 k key was now fV).rs.length=s.rs.length:=tQ _ _ _ _;have co':∀x,(s.ent k key was now fV fu).co.get x=if x=s.new then ND ((s.n+1:Nat):Int)else s.co.get x:=λx=>Mp.pY w.coo.1 _ _ _;obtain⟨f1,f2,f3,f4⟩:=w.spot b5 b3;obtain⟨g1,g2,g3,g4⟩:=w1.spot p2 (by rw[e1l];exact p3);have aG3:((s.e1 k key was now fV).ns (s.ahead k) ((s.n:Int)::fu)).length≤8:=by unfold Wb.ns;rw[C7];have:=mK ((s.e1 k key was now fV).co.get (s.ahead k));simp;omega
  have lb1:Am st (s.e1 k key was now fV).b:=h.lb.put (by have:s.b.asked.length=s.n:=rfl;omega) f1 f2 f3 f4 (w.aGW _) (G1 (mK _) (by decide));refine⟨lb1.put (by have:(s.e1 k key was now fV).b.asked.length=s.n+1:=en;omega) g1 g2 g3 g4 (w1.ZG hn2) aG3,λS hD=>?_,?_⟩
  · have hD2:Dn ((s.e1 k key was now fV).wr (s.ahead k) (xu ((s.e1 k key was now fV).R (s.ahead k)) s.new) ((s.e1 k key was now fV).ns (s.ahead k) ((s.n:Int)::fu))).b.asked S:=hD
    have hD1:Dn (s.wr s.new [key,(s.R (s.ahead k)).getD 1 0,was,now,fV] (s.go.get s.new).toList).b.asked S:=Dn.init (cs:=(s.e1 k key was now fV).b.asked) hD2;obtain⟨row,R⟩:=h.rows S (Dn.init (cs:=s.b.asked) hD1);have rz:∀y∈(0:Int)::row,0≤y:=λy hy=>by
      rcases C5.mp hy with z | z
      · omega
      · have:=R.bd y z;omega
    have nx2:∀y,0≤y→Wl st s.P (s.ent k key was now fV fu).b.asked S y=if y=s.ahead k∧S ((s.n+1:Nat):Int)=NG then s.new else if y=s.new∧S (s.n:Int)=NG then(s.R (s.ahead k)).getD 1 0 else Wl st s.P s.b.asked S y:=λy hy=>by have t1:Wl st s.P (s.e1 k key was now fV).b.asked S y=if y=s.new∧S (s.n:Int)=NG then(s.R (s.ahead k)).getD 1 0 else Wl st s.P s.b.asked S y:=CK b5 hy;have t2:=CK (st:=st) (s:=s.e1 k key was now fV) (S:=S) (r:=xu ((s.e1 k key was now fV).R (s.ahead k)) s.new) (ns:=(s.e1 k key was now fV).ns (s.ahead k) ((s.n:Int)::fu)) p2 hy;rw[en]at t2;exact t2.trans (by rw[show Wl st (s.e1 k key was now fV).P (s.e1 k key was now fV).b.asked S y=Wl st s.P (s.e1 k key was now fV).b.asked S y from rfl,t1];rfl)
    have fil:S (s.n:Int)=NG→s.new∉row:=λhS=>R.out s.new b2 b3 b4 λg hg=>(Mv w b5 b3 hD1 hS).1 g (by rw[hg];exact D9.mpr U);by_cases c:S ((s.n+1:Nat):Int)=NG
    · have nd2:=Mv w1 p2 (by rw[e1l];exact p3) hD2 (by rw[en];exact c)
      have hSn:S (s.n:Int)=NG:=nd2.1 _ (F0 _ C9);have bn:s.new∉(0:Int)::row:=λz=>(C5.mp z).elim (λz=>by omega) (fil hSn);have pm:s.ahead k∈(0:Int)::row:=by
        rcases p1 with z | z
        · rw[z];exact C9
        · refine C6 _ (R.ins _ z λc0 hc0=>nd2.1 _ (G6 _ ?_))
          rw[show (s.e1 k key was now fV).co.get (s.ahead k)=s.co.get (s.ahead k)from rfl,hc0];exact D9.mpr U
      have full:Wl st s.P s.b.asked S (s.ahead k)=(s.R (s.ahead k)).getD 1 0:=h.full w p2 p3 λj hj=>nd2.2 j (by
        show (s.la.put s.new s.n).get (s.ahead k)=ND j;rw[Mp.pY w.lao.1,if_neg pb];exact hj)
      obtain⟨xn,e⟩:∃xn,Ey (s.ahead k) s.new ((0:Int)::row)=0::xn:=by
        unfold Ey
        split<;>exact⟨_,U⟩
      have hmem:∀x,x∈(0:Int)::xn↔x=s.new∨x∈(0:Int)::row:=λx=>by rw[←e];exact Rk pm
      have hmr:∀x,x≠0→(x∈xn↔x=s.new∨x∈row):=λx hx=>by have:=hmem x;simp only[C5,hx,false_or]at this;exact this
      refine⟨xn,?_,?_,λx hx=>?_,?_,λx hx hco=>?_,λx x1 x2 x3 hgo=>?_⟩
      · rw[qM,R.rep,B9]
        unfold rep1;rw[if_pos c,if_pos U,if_neg λz=>z.elim bn λy=>y pm,e]
      · rw[←e]
        exact Ez R.nd pm bn
      · rw[hlen]
        have hx0:x≠0:=λz=>by
          have nn:((0:Int)::xn).Nodup:=by rw[←e];exact Ez R.nd pm bn
          exact(E8.mp nn).1 (z▸hx)
        rcases(hmr x hx0).mp hx with z | z
        · omega
        · exact R.bd x z
      · rw[←e]
        refine An.ins ?_ ?_ R.nd pm (λy hy hyp=>?_) R.pth
        · exact(nx2 _ p2).trans (if_pos ⟨U,c⟩)
        · refine(nx2 _ b5).trans ?_
          rw[if_neg λz:s.new=s.ahead k∧_=>pb z.1.symm,if_pos ⟨U,hSn⟩,full]
        · refine(nx2 _ (rz y hy)).trans ?_
          rw[if_neg λz:y=s.ahead k∧_=>hyp z.1,if_neg λz:y=s.new∧_=>bn (z.1▸hy)]
      · have hx0:x≠0:=λz=>by
          rcases(hod x).mp hx with y | y
          · omega
          · have:=w.Cj x y;omega
        refine(hmr x hx0).mpr ?_
        rcases(hod x).mp hx with z | z
        · exact .inl z
        · refine .inr (R.ins x z λc0 hc0=>hco c0 ?_)
          rw[co',if_neg λy:x=s.new=>b4 (y▸z)];exact hc0
      · have x3:x∉s.od.take k.toNat++s.new::s.od.drop k.toNat:=x3
        rw[hod,not_or]at x3;intro z;rw[hlen]at x2
        rcases(hmr x (by omega)).mp z with y | y
        · exact x3.1 y
        · exact R.out x x1 x2 x3.2 hgo y
    · refine⟨row,?_,R.nd,λx hx=>by rw[hlen];exact R.bd x hx,R.pth.congr λy hy=>?_,λx hx hco=>?_,λx x1 x2 x3 hgo=>?_⟩
      · rw[qM,R.rep,B9]
        unfold rep1;rw[if_neg c]
      · refine(nx2 _ (rz y hy)).trans ?_
        rw[if_neg λz=>c z.2];split
        · rename_i q
          rcases C5.mp hy with z | z
          · omega
          · exact absurd (q.1▸z) (fil q.2)
        · rfl
      · rcases(hod x).mp hx with z | z
        · exact absurd (hco _ (by rw[co',if_pos z])) c
        · refine R.ins x z λc0 hc0=>hco c0 ?_
          rw[co',if_neg λy:x=s.new=>b4 (y▸z)];exact hc0
      · have x3:x∉s.od.take k.toNat++s.new::s.od.drop k.toNat:=x3
        rw[hod,not_or]at x3;rw[hlen]at x2;exact R.out x x1 x2 x3.2 hgo
  · have nd0:((0:Int)::s.od).Nodup:=E8.mpr ⟨λz=>by have:=w.Cj 0 z;omega,w.Tp⟩
    have kl:k.toNat<((0:Int)::s.od).length:=by rw[D8];omega
    have gk:((0:Int)::s.od)[k.toNat]?=ND (s.ahead k):=gY (d:=0) kl;have pm:s.ahead k∈(0:Int)::s.od:=E4 gk;have ei:Ey (s.ahead k) s.new ((0:Int)::s.od)=0::(s.od.take k.toNat++s.new::s.od.drop k.toNat):=by rw[Mu pm,BR nd0 gk];rfl
    show An _ ((0:Int)::(s.od.take k.toNat++s.new::s.od.drop k.toNat));rw[←ei];have R2:∀y,0≤y→(s.ent k key was now fV fu).R y=if y=s.ahead k then xu ((s.e1 k key was now fV).R (s.ahead k)) s.new else if y=s.new then [key,(s.R (s.ahead k)).getD 1 0,was,now,fV]else s.R y:=λy hy=>by
      show ((s.e1 k key was now fV).wr (s.ahead k) (xu ((s.e1 k key was now fV).R (s.ahead k)) s.new) ((s.e1 k key was now fV).ns (s.ahead k) ((s.n:Int)::fu))).R y=_;rw[ZD p2 hc hy];split
      · rfl
      · exact ZD (ns:=(s.go.get s.new).toList) b5 b3 hy
    refine An.ins ?_ ?_ nd0 pm (λy hy hyp=>?_) h.mem
    · show ((s.ent k key was now fV fu).R (s.ahead k)).getD 1 0=_
      rw[R2 _ p2,if_pos rfl];rfl
    · show ((s.ent k key was now fV fu).R s.new).getD 1 0=(s.R (s.ahead k)).getD 1 0
      rw[R2 _ b5,if_neg pb.symm,if_pos rfl];rfl
    · have y0:0≤y:=by
        rcases C5.mp hy with z | z
        · omega
        · have:=w.Cj y z;omega
      show ((s.ent k key was now fV fu).R y).getD 1 0=(s.R y).getD 1 0;rw[R2 _ y0,if_neg hyp,if_neg];rintro rfl;rcases C5.mp hy with z | z
      · omega
      · exact b4 z
theorem Ks.out(h:Ks st first evs s)(w:mQ s)(hm:s.n<124){k x:Int}{fu:List Int}(h0:0≤k)(h1:k<(s.od.length:Int))(hx:s.od[k.toNat]?=ND x)(hn:∀m∈fu,0≤m∧m<(s.n:Int))(hf:fu.length≤5):Ks st first (evs++[⟨NH,(s.n:Int),x,0⟩]) (s.out k x fu):=by
 obtain⟨p1,p2,p3⟩:=w.ahead h0 (N0 h1);have xm:x∈s.od:=E4 hx;have xr:=w.Cj x xm;obtain⟨w1,hn2⟩:=w.o1 hm h0 (N0 h1) (x:=x) (by omega) xr.2 hn hf;have hi:=BR w.Tp hx;have hlen:=BV s k x fu;have nd0:((0:Int)::s.od).Nodup:=E8.mpr ⟨λz=>by have:=w.Cj 0 z;omega,w.Tp⟩;have px:(s.R (s.ahead k)).getD 1 0=x:=by have:=h.mem.get k.toNat (by omega);rw[B8 (l:=s.od++[0]),G3 (by omega),hx]at this;exact this
 have hod:∀y,y∈s.od.eraseIdx k.toNat↔y∈s.od∧y≠x:=λy=>by rw[←hi];exact Jr w.Tp
 have go':∀y,(s.out k x fu).go.get y=if y=x then ND (s.n:Int)else s.go.get y:=λy=>Mp.pY w.goo.1 _ _ _;have kl:k.toNat<((0:Int)::s.od).length:=by rw[D8];omega
 have gk:((0:Int)::s.od)[k.toNat]?=ND (s.ahead k):=gY (d:=0) kl;have pm0:s.ahead k∈(0:Int)::s.od:=E4 gk;obtain⟨g1,g2,g3,g4⟩:=w.spot p2 p3;have aG3:(s.ns (s.ahead k) ((s.la.get x).toList++fu)).length≤8:=by unfold Wb.ns;rw[C7,C7];have:=mK (s.co.get (s.ahead k));have:=mK (s.la.get x);omega
 refine⟨h.lb.put hm g1 g2 g3 g4 (w.ZG hn2) aG3,λS hD=>?_,?_⟩
 ·have hD1:Dn (s.wr (s.ahead k) (xu (s.R (s.ahead k)) ((s.R x).getD 1 0)) (s.ns (s.ahead k) ((s.la.get x).toList++fu))).b.asked S:=hD;obtain⟨row,R⟩:=h.rows S (Dn.init (cs:=s.b.asked) hD1);have rz:∀y∈(0:Int)::row,0≤y:=λy hy=>by
   rcases C5.mp hy with z | z
   ·omega
   ·have:=R.bd y z;omega
  have nx2:∀y,0≤y→Wl st s.P (s.out k x fu).b.asked S y=if y=s.ahead k∧S (s.n:Int)=NG then(s.R x).getD 1 0 else Wl st s.P s.b.asked S y:=λy hy=>CK p2 hy;by_cases c:S (s.n:Int)=NG
  ·have nd2:=Mv w p2 p3 hD1 c;have pm:s.ahead k∈(0:Int)::row:=by
    rcases p1 with z | z
    ·rw[z];exact C9
    ·refine C6 _ (R.ins _ z λc0 hc0=>nd2.1 _ (G6 _ ?_));rw[hc0];exact D9.mpr U
   have fp:Wl st s.P s.b.asked S (s.ahead k)=x:=(h.full w p2 p3 nd2.2).trans px;have fx:Wl st s.P s.b.asked S x=(s.R x).getD 1 0:=h.full w (by omega) xr.2 λj hj=>nd2.1 _ (F0 _ (G6 _ (by rw[hj];exact D9.mpr U)));obtain⟨x1,x2⟩:=An.era (nx':=Wl st s.P (s.out k x fu).b.asked S) fp (by omega) (by rw[nx2 _ p2,if_pos ⟨U,c⟩,fx]) R.nd pm (λy hy hyp=>by rw[nx2 _ (rz y hy),if_neg λz=>hyp z.1]) R.pth;have x1:x∈row:=x1;have er:((0:Int)::row).erase x=0::row.erase x:=P6 (by simp;omega);have nr:=(E8.mp R.nd).2;have hme:∀y,y∈row.erase x↔y∈row∧y≠x:=λy=>by rw[nr.mem_erase_iff];exact and_comm
   refine⟨row.erase x,?_,?_,λy hy=>?_,?_,λy hy hco=>?_,λy y1 y2 y3 hgo=>?_⟩
   ·rw[qM,R.rep,B9];unfold rep1;rw[if_pos c,if_neg E2,if_neg λz=>z (C6 _ x1),er]
   ·rw[←er];exact R.nd.sublist j5
   ·rw[hlen];exact R.bd y ((hme y).mp hy).1
   ·rw[←er];exact x2
   ·have hy:=(hod y).mp hy;exact(hme y).mpr ⟨R.ins y hy.1 hco,hy.2⟩
   ·have y3:y∉s.od.eraseIdx k.toNat:=y3;rw[hod]at y3;rw[hlen]at y2;intro z;obtain⟨z1,z2⟩:=(hme y).mp z;exact R.out y y1 y2 (λq=>y3 ⟨q,z2⟩) (λg hg=>hgo g (by rw[go',if_neg z2];exact hg)) z1
  ·refine⟨row,?_,R.nd,λy hy=>by rw[hlen];exact R.bd y hy,R.pth.congr λy hy=>?_,λy hy hco=>R.ins y ((hod y).mp hy).1 hco,λy y1 y2 y3 hgo=>?_⟩
   ·rw[qM,R.rep,B9];unfold rep1;rw[if_neg c]
   ·refine(nx2 _ (rz y hy)).trans ?_;rw[if_neg λz=>c z.2]
   ·have y3:y∉s.od.eraseIdx k.toNat:=y3;rw[hod]at y3;rw[hlen]at y2;by_cases e:y=x
    ·exact absurd (hgo _ (by rw[go',if_pos e])) c
    ·exact R.out y y1 y2 (λq=>y3 ⟨q,e⟩) λg hg=>hgo g (by rw[go',if_neg e];exact hg)
 ·have R2:∀y,0≤y→(s.out k x fu).R y=if y=s.ahead k then xu (s.R (s.ahead k)) ((s.R x).getD 1 0)else s.R y:=λy hy=>ZD (ns:=s.ns (s.ahead k) ((s.la.get x).toList++fu)) p2 p3 hy;have er:((0:Int)::s.od).erase x=0::s.od.eraseIdx k.toNat:=by rw[P6 (by simp;omega),Q5 hi]
  show An _ ((0:Int)::s.od.eraseIdx k.toNat);rw[←er];refine(An.era (nx:=λy=>(s.R y).getD 1 0) px (by omega) ?_ nd0 pm0 (λy hy hyp=>?_) h.mem).2
  ·show ((s.out k x fu).R (s.ahead k)).getD 1 0=(s.R x).getD 1 0;rw[R2 _ p2,if_pos rfl];rfl
  ·have y0:0≤y:=by
    rcases C5.mp hy with z | z
    ·omega
    ·have:=w.Cj y z;omega
   show ((s.out k x fu).R y).getD 1 0=(s.R y).getD 1 0;rw[R2 _ y0,if_neg hyp]
theorem Ks.cv(h:Ks st first evs s){p:Int}{r:List Int}(hR:PX s.b.asked s.b.held p r)(n:Nat):Ks st first evs (s.cv (r.take n)):=by have e1:=jE (r.take n) s.b;have e2:=(lC (r.take n) s.b).1;refine⟨h.lb.bV hR n,λS hD=>?_,h.mem⟩;have ea:(s.cv (r.take n)).b.asked=s.b.asked:=e1;have eP:(s.cv (r.take n)).P=s.P:=e2;rw[ea]at hD;obtain⟨row,R⟩:=h.rows S hD;exact⟨row,R.rep,R.nd,R.bd,by rw[ea,eP];exact R.pth,R.ins,R.out⟩
end
theorem jt(a b:Str):Ls (.str a) (.str b)=ND (.bl (a==b)):=by unfold Ls;show (if lz (V.str a) (V.str b)=NG then _ else _)=_;rw[show lz (V.str a) (V.str b)=NG from rfl,if_pos U,Xa]
theorem aIC:(("in" : Str)==("in" : Str))=NG:=by simp
theorem aG6:(("out" : Str)==("in" : Str))=NH:=by decide +kernel
def Bu(e:Ev):D:=.tup [.str (if e.i=NG then "in" else "out"),.int e.n,.int e.b,.int e.a]
noncomputable abbrev aG7:GS:=(qP (fB (f2 uz (aD 5) (aD 2))) (qP (fB (f2 Ls (aD 4) (fC (.str "in")))) (aW (qP (qt (fB (f2 (xq NH) (aD 6) (aD 3))) (fB (f2 (xq NG) (aD 7) (aD 3)))) (gB (fC .non)) fX)
 (Ym 3 cR (f2 dD (f2 uU (aD 3) (aD 7)) (fC (.int 1))) (aD 6))) (aW (qP (fB (f2 (xq NG) (aD 6) (aD 3))) (gB (fC .non)) fX)
 (Sx 3 cR (aD 6)))) fX)
theorem aD5{is:List Nat}{g:GS}{ds xs:List D}{env env':EN}(hl:is.length=ds.length∧is.all (λi=>decide (i<env.length))=NG)(h:g (Dv env is ds)=.next env'):Pj is g (.tup ds::xs) env=Pj is g xs env':=by
 show (if is.length=ds.length∧is.all (λi=>decide (i<env.length))=NG then(match g (Dv env is ds)with
   | .next env'=>Pj is g xs env'
   | .cont env'=>Pj is g xs env'
   | .brk env'=>.next env'
   | r=>r)else .bad)=_
 rw[if_pos hl,h]
theorem ju{l:List Int}{x:Int}(h:x∈l):uU (aJ l) (.int x)=ND (.int (l.idxOf x:Nat)):=by unfold uU aJ;dsimp only;rw[jV,B9,if_pos h]
theorem jw{S:Int→Bool}{sd f e:D}(hS:∀n:Int,uz (.int n) sd=ND (.bl (S n))):∀(evs:List Ev)(l l':List Int)(v4 v5 v6 v7:SD),replay S l evs=ND l'→l.length+evs.length≤900 →
  ∃w4 w5 w6 w7,Pj [4,5,6,7] aG7 (evs.map Bu) [.fro f,.fro e,.fro sd,.own (aJ l),v4,v5,v6,v7]=.next [.fro f,.fro e,.fro sd,.own (aJ l'),w4,w5,w6,w7]
 | [],l,l',v4,v5,v6,v7,h,_=>by
  cases h;exact⟨_,_,_,_,U⟩
 | x::evs,l,l',v4,v5,v6,v7,h,hl=>by
  obtain⟨m,h1,h2⟩:=aX h;rw[D8]at hl;have step:aG7 [.fro f,.fro e,.fro sd,.own (aJ l),.fro (.str (if x.i=NG then "in" else "out")),.fro (.int x.n),.fro (.int x.b),.fro (.int x.a)]=.next [.fro f,.fro e,.fro sd,.own (aJ m),.fro (.str (if x.i=NG then "in" else "out")),.fro (.int x.n),.fro (.int x.b),.fro (.int x.a)]∧m.length≤l.length+1:=by
   unfold rep1 at h1;by_cases c:S x.n=NG
   ·rw[if_pos c]at h1;by_cases ci:x.i=NG
    ·rw[if_pos ci]at h1;split at h1
     ·cases h1
     ·rename_i q;cases h1;rw[not_or]at q;have qa:x.a∈l:=Decidable.byContradiction q.2;have hix:l.idxOf x.a<l.length:=R5 qa;refine⟨?_,?_⟩
      ·refine KN (cJ (aK U U (hS x.n))) (λ_=>?_) λz=>by rw[c]at z;cases z
       refine KN (cJ (aK U U (jt _ _))) (λ_=>?_) λz=>by rw[if_pos ci,aIC]at z;cases z
       refine WT (aBo (cJ (aK U U (zN NH _ _))) (cJ (aK U U (zN NG _ _)))) ?_ (aBn ?_)
       ·rw[if_neg E2,if_pos U,decide_eq_false q.1,decide_eq_true qa];rfl
       refine(aBS (p:=[]) (ns:=l) (k:=(l.idxOf x.a:Nat)+1) U U U (aK (aK U U (ju qa)) U (bR _ _)) U (by omega) (by omega) (by omega)).trans ?_;rw[Mu qa,show (((l.idxOf x.a:Nat):Int)+1).toNat=l.idxOf x.a+1 by omega];rfl
      ·rw[Mu qa,C7,D8,F3,N6];omega
    ·rw[if_neg ci]at h1;split at h1
     ·cases h1
     ·rename_i q;cases h1;have qb:x.b∈l:=Decidable.byContradiction q;refine⟨?_,G1 j5.length_le (L9 _)⟩;refine KN (cJ (aK U U (hS x.n))) (λ_=>?_) λz=>by rw[c]at z;cases z
      refine KN (cJ (aK U U (jt _ _))) (λz=>by rw[if_neg ci,aG6]at z;cases z) λ_=>?_;refine WT (cJ (aK U U (zN NG _ _))) ?_ (aBn ?_)
      ·rw[if_pos U,decide_eq_true qb];rfl
      refine(ZK (p:=[]) (ns:=l) U U U U qb).trans ?_;rw[←Q5 rfl];rfl
   ·rw[if_neg c]at h1;cases h1;refine⟨?_,L9 _⟩;exact KN (cJ (aK U U (hS x.n))) (λz=>absurd z c) λ_=>rfl
  obtain⟨w4,w5,w6,w7,hw⟩:=jw hS evs m l' (.fro (.str (if x.i=NG then "in" else "out"))) (.fro (.int x.n)) (.fro (.int x.b)) (.fro (.int x.a)) h2 (by omega);exact⟨w4,w5,w6,w7,(aD5 ⟨U,U⟩ step.1).trans hw⟩
theorem Kr{S:Int→Bool}{sd:D}{first row:List Int}{evs:List Ev}(hS:∀n:Int,uz (.int n) sd=ND (.bl (S n)))(h:replay S (0::first) evs=ND (0::row))(hl:first.length+evs.length≤800)(hr:row.length≤800):oF [aJ first,.lst (evs.map Bu),sd]=ND (aJ row):=by refine oW U ?_;unfold Kf;refine WR (d:=aJ (0::first)) (aK (a:=aJ [0]) (gH (aA U U) (by decide)) U (sX [0] first (by simp;omega))) (by exact Nat.le_of_ble_eq_true U) ?_;obtain⟨w4,w5,w6,w7,hw⟩:=jw (f:=aJ first) (e:=.lst (evs.map Bu)) hS evs (0::first) (0::row) .no .no .no .no h (by rw[D8];omega);have hf:KH [] [4,5,6,7] (oK (aD 1)) aG7 [.fro (aJ first),.fro (.lst (evs.map Bu)),.fro sd,.own (aJ (0::first)),.no,.no,.no,.no]=.next [.fro (aJ first),.fro (.lst (evs.map Bu)),.fro sd,.own (aJ (0::row)),w4,w5,w6,w7]:=hw;refine aEJ hf ?_;refine fY ((Px (ns:=0::row) U (Bk U) U).trans ?_);rw[show (1:Int)=((1:Nat):Int)from rfl,aGD (by simp)];rfl
theorem aD6{ps:List (List (List Int))}{row:List Int}{m R:Nat}(hP:0<ps.length)(hP8:ps.length≤8)(hm:m=ps.length*R)(hR8:R≤8)(hR:(ps.getD 0 []).length=R+1)(hv:∀k,k<m→2≤(val ps (k%ps.length) (k/ps.length)).length)(nd:((0:Int)::row).Nodup)(bd:∀x∈row,1≤x∧x<(m:Int))(hm0:0<m)
  (hp:An (λx=>(val ps (x.toNat%ps.length) (x.toNat/ps.length)).getD 1 0) (0::row)):rO [iK ps]=ND (aJ row):=by
 suffices hh:∃d,rO [iK ps]=ND d∧d=aJ row by obtain⟨d,e,rfl⟩:=hh;exact e
 have hrl:row.length<m:=by
  have:=kY m (0::row) nd λx hx=>by
   rcases C5.mp hx with z | z
   ·omega
   ·have:=bd x z;omega
  rw[D8]at this;omega
 have aB2:m≤64:=by rw[hm];exact P7 hP8 hR8
 have hPR:(ps.length:Int)*((((ps.getD 0 []).length:Nat):Int)-1)=(m:Int):=by rw[hR,hm,V9];congr 1;omega
 have hix:∀{env:EN} {f:FE} {x:Int},(rE env)[0]?=ND (ND (iK ps))→f (rE env)=ND (.int x)→0≤x→x<(m:Int)→f2 fJ (f2 fJ (f2 fJ (aD 0) (f2 fO f (fL jU (aB (aD 0) aO)))) (f2 sO f (fL jU (aB (aD 0) aO)))) (fC (.int 1)) (rE env)=ND (.int ((val ps (x.toNat%ps.length) (x.toNat/ps.length)).getD 1 0)):=by
  intro env f x he hf x0 x1;obtain⟨e1,e2⟩:=divmod (P:=ps.length) x0;have hv:=hv x.toNat (by omega);have hml:=T2 x.toNat hP;have hdl:x.toNat/ps.length<(ps.getD (x.toNat%ps.length) []).length:=by refine Decidable.byContradiction λz=>?_;unfold val at hv;rw[B8 (l:=ps.getD (x.toNat%ps.length) []),E1 (by omega)]at hv;simp at hv
  have hL:=fG (aA (pW he) KY) (wD ps);refine aK (aK (aK (pW he) (aK hf hL (bF (by omega))) (by rw[e1];exact wC (N9 _) (by omega))) (aK hf hL (dX (by omega) (by omega))) (by rw[e2];exact Qy (N9 _) (by rw[C8];omega))) U ?_;rw[C8,C8];exact rB (k:=1) (by unfold val at hv;omega)
 refine sW U ?_;unfold jl;refine cL (d:=.int m) ((aK (fG (aA U U) (wD ps)) (aK (fG (aA (aK U U (wC (by decide) (by omega))) U) (Ho _)) U (lM _ _)) (fQ (Dz (by omega) (by omega)))).trans (by rw[←hPR];rfl)) (by exact Nat.le_of_ble_eq_true U) ?_;refine cL (gH U (by decide)) (by exact Nat.le_of_ble_eq_true U) ?_;have hg:=hp.get;have h00:f2 fJ (f2 fJ (f2 fJ (aD 0) (fC (.int 0))) (fC (.int 0))) (fC (.int 1)) (rE [.fro (iK ps),.own (.int m),.own (.lst []),.no,.no])=ND (.int ((row++[0]).getD 0 0)):=by have hv:=hv 0 hm0;rw[Nat.zero_mod,Nat.zero_div]at hv;have e0:=hg 0 (M3 _);have e0:(val ps (0%ps.length) (0/ps.length)).getD 1 0=(row++[0]).getD 0 0:=e0;rw[Nat.zero_mod,Nat.zero_div]at e0;rw[←e0];exact aK (aK (aK U U (wC (by decide) (by omega))) U (Qy (by decide) (by rw[show (0:Int).toNat=0 from rfl,hR];omega))) U (rB (k:=1) (by unfold val at hv;exact hv))
 refine cL (bC h00 U) (by exact Nat.le_of_ble_eq_true U) ?_;refine ZM (n:=m+1) (λk env=>k≤row.length∧∃v4,env=[.fro (iK ps),.own (.int m),.own (aJ (row.take k)),.own (.int ((row++[0]).getD k 0)),v4]) (Bj (aA ((aK U U (bR _ _)).trans (by rw[Int.natCast_succ])) U) (by omega)) ⟨M3 _,_,U⟩ ?_ ?_
 ·rintro k env hk ⟨hkr,v4,rfl⟩;refine⟨by walk_at "lt", ?_⟩;by_cases c:k=row.length
  ·have ez:(row++[0]).getD k 0=0:=by rw[c,B8,M0 (D1 _),Z0];rfl
   rw[ez];refine aEK (cJ (aK U U (nM _ _))) (decide_eq_true U) ?_;rw[Gf (Vm (i:=2) U),c,N8];exact .inr ⟨_,U,_,U,U⟩
  ·have hlt:k<row.length:=by omega
   have ek:(row++[0]).getD k 0=row[k]:=by rw[B8,G3 hlt,B6 hlt];rfl
   have hb:=bd row[k] (N7 hlt);have en:=hg (k+1) (by omega);rw[show ((0:Int)::row).getD (k+1) 0=row[k] by rw[B8,Z6,B6 hlt];rfl]at en;rw[ek];refine Vp (cJ (aK U U (nM _ _))) (decide_eq_false (by omega)) (Le ?_);refine Vp (b:=NH) ((aBi (Gg (b:=NG) (cJ (aDK U U)))).trans ((aBi ((cJ (aK U U (wU _ _))).trans (congrArg ND (decide_eq_false (by omega))))).trans ((cJ (aK U U (Yp _ _))).trans (congrArg ND (decide_eq_false (by omega)))))) U (Le ?_);refine aIq (ds:=(row.take k).map D.int) U (bC U U) (by rw[B7,F3];omega) ?_;rw[wW,show row.take k++[row[k]]=row.take (k+1) by rw[O4,B6 hlt];rfl];refine aBr (bC (hix (x:=row[k]) U U (by omega) hb.2) U) (by exact Nat.le_of_ble_eq_true U) (.inl ⟨_,U,hlt,.fro (.int k),?_⟩);rw[←en];rfl
 ·rintro env ⟨hk,_⟩;omega
theorem Wm{s:Wb}{at_ c:Int}(ho:0<s.od.length)(hlk:(s.od.map s.key).length=s.od.length)(Rp:∀i j,i<j→j<s.od.length→(s.od.map s.key).getD i 0<(s.od.map s.key).getD j 0)(QT:∀{j:Nat} {x:Int},x∈s.od.take j→∃i,i<j∧i<s.od.length∧s.key x=(s.od.map s.key).getD i 0)(Wn:∀{j:Nat} {x:Int},x∈s.od.drop j→∃i,j≤i∧i<s.od.length∧s.key x=(s.od.map s.key).getD i 0)(p50:(0:Int)<10 ^ (50:Int).toNat) :
  Qs (λr=>∃d,r=.ret d∧∃key k:Int,d=.int key∧0≤k∧k≤(s.od.length:Int)∧s.Fits k key) (gB (f2 dD (f2 dD (f2 fJ (aD 0) (Dq (fC (.int 1)))) (fC (.int 1))) (f2 fO (aD 2) (f2 Bw (fC (.int 10)) (fC (.int 50))))) [.fro (aJ (s.od.map s.key)),.fro (.int at_),.fro (.int c)]):=by
 have m0:=F6 c (show (10 ^ (50:Int).toNat:Int)≠0 by omega);have aID:fJ (aJ (s.od.map s.key)) (.int (-1))=ND (.int ((s.od.map s.key).getD (s.od.length-1) 0)):=by refine aDL ?_;rw[k9,X9,hlk,gY (d:=0) (by omega)];rfl
 refine uV (aK (aK (aK U (uC U) aID) U (bR _ _)) (aK U (aK U U (nD ⟨by decide,by decide,by decide⟩)) (bF p50)) (bR _ _)) ⟨_,U,_,(s.od.length:Int),U,by omega,b9 _,λx hx=>?_,λx hx=>?_⟩
 ·obtain⟨i,i1,i2,e⟩:=QT hx;rw[e];rcases J2 i (s.od.length-1)with z | z
  ·have:=Rp i (s.od.length-1) z (by omega);omega
  ·rw[show i=s.od.length-1 by omega];omega
 ·obtain⟨i,i1,i2,e⟩:=Wn hx;omega
theorem aD8{s:Wb}(h:mQ s){at_ c:Int}(a0:0≤at_)(a1:at_≤(s.od.length:Int)):∃key k:Int,Gr [aJ (s.od.map s.key),.int at_,.int c]=ND (.int key)∧0≤k∧k≤(s.od.length:Int)∧s.Fits k key:=by
 suffices hh:∃d,Gr [aJ (s.od.map s.key),.int at_,.int c]=ND d∧∃key k:Int,d=.int key∧0≤k∧k≤(s.od.length:Int)∧s.Fits k key by obtain⟨d,e,key,k,rfl,q⟩:=hh;exact⟨key,k,e,q⟩
 have p58:(0:Int)<10 ^ (58:Int).toNat:=Q8 (by decide);have p50:(0:Int)<10 ^ (50:Int).toNat:=Q8 (by decide);have hlk:(s.od.map s.key).length=s.od.length:=B7 _;have hkp:(s.od.map s.key).Pairwise (·<·):=T7.mpr h.key;have aIE:∀j,j<s.od.length→∀x,s.od[j]?=ND x→(s.od.map s.key).getD j 0=s.key x:=λj _ x hx=>by rw[B8,C4,hx];rfl
 have Rp:∀i j,i<j→j<s.od.length→(s.od.map s.key).getD i 0<(s.od.map s.key).getD j 0:=λi j hij hj=>by have:=K6.mp hkp i j (by omega) (by omega) hij;rw[B8,B6 (by omega),B8,B6 (by omega)];exact this
 have QT:∀{j:Nat} {x:Int},x∈s.od.take j→∃i,i<j∧i<s.od.length∧s.key x=(s.od.map s.key).getD i 0:=λ{j x} hx=>by obtain⟨i,hi,e⟩:=J1 hx;rw[F3]at hi;rw[Q9]at e;exact⟨i,by omega,by omega,(aIE i (by omega) x (by rw[B6 (by omega),e])).symm⟩
 have Wn:∀{j:Nat} {x:Int},x∈s.od.drop j→∃i,j≤i∧i<s.od.length∧s.key x=(s.od.map s.key).getD i 0:=λ{j x} hx=>by obtain⟨i,hi,e⟩:=J1 hx;rw[N6]at hi;rw[List.getElem_drop]at e;exact⟨j+i,by omega,by omega,(aIE (j+i) (by omega) x (by rw[B6 (by omega),e])).symm⟩
 refine sW U ?_;unfold jm;refine Yt (cJ (aK U (gH U (by decide)) (KR _ []))) (λhb=>?_) (λhb=>Le ?_)
 ·have hb:=List.map_eq_nil_iff.mp (of_decide_eq_true hb);refine KZ (aK U (aK U U (nD ⟨by decide,by decide,by decide⟩)) (bF p58)) ⟨_,U,_,0,U,by decide,by omega,λx hx=>?_,λx hx=>?_⟩
  ·rw[hb]at hx;cases hx
  ·rw[hb]at hx;cases hx
 have ho:0<s.od.length:=S0.mpr λz=>of_decide_eq_false hb (by rw[z];rfl);refine Yt (cJ (aK U U (nM _ _))) (λhb=>?_) (λhb=>Le ?_)
 ·have m0:=F6 c (show (10 ^ (50:Int).toNat:Int)≠0 by omega);refine KZ (aK (aK (aK U U (iY (by decide) (by omega))) U (lM _ _)) (aK U (aK U U (nD ⟨by decide,by decide,by decide⟩)) (bF p50)) (lM _ _)) ⟨_,U,_,0,U,by decide,by omega,λx hx=>(by cases hx),λx hx=>?_⟩;obtain⟨i,i1,i2,e⟩:=Wn (j:=0) hx;rw[e];show (s.od.map s.key).getD 0 0-1-_<_;rcases i9 i with z | z
  ·rw[z];omega
  ·have:=Rp 0 i z i2;omega
 have a0':0<at_:=by have:=of_decide_eq_false hb;omega
 have hlen:fL jU (aB (aD 0) aO) (rE [.fro (aJ (s.od.map s.key)),.fro (.int at_),.fro (.int c)])=ND (.int s.od.length):=(fG (aA U U) (pK _)).trans (by rw[hlk]);by_cases q1:at_<(s.od.length:Int)
 ·have ex:f2 Di (f2 fJ (aD 0) (aD 1)) (f2 fJ (aD 0) (f2 Di (aD 1) (fC (.int 1)))) (rE [.fro (aJ (s.od.map s.key)),.fro (.int at_),.fro (.int c)])=ND (.int ((s.od.map s.key).getD at_.toNat 0-(s.od.map s.key).getD (at_-1).toNat 0)):=aK (aK U U (iY a0 (by omega))) (aK U (aK U U (lM _ _)) (iY (by omega) (by omega))) (lM _ _);refine Yt (Yr (cJ (aK U hlen (wU _ _))) (cJ (aK ex U (Yo _ _)))) (λhb=>?_) (λhb=>Le ?_)
  ·rw[G9]at hb;have hgap:=of_decide_eq_true hb.2;generalize hA:(s.od.map s.key).getD at_.toNat 0=A at *;generalize hB:(s.od.map s.key).getD (at_-1).toNat 0=B at *;have m0:=F6 c (show A-B-1≠0 by omega);have m1:=F9 c (show 0<A-B-1 by omega);refine KZ (aK (aK (aK U (aK U U (lM _ _)) ((iY (by omega) (by omega)).trans (by rw[hB]))) U (bR _ _)) (aK U (aK ex U (lM _ _)) (bF (by omega))) (bR _ _)) ⟨_,U,_,at_,U,a0,a1,λx hx=>?_,λx hx=>?_⟩
   ·obtain⟨i,i1,i2,e⟩:=QT hx;rw[e];rcases J2 i (at_-1).toNat with z | z
    ·have:=Rp i (at_-1).toNat z (by omega);rw[hB]at this;omega
    ·rw[show i=(at_-1).toNat by omega,hB];omega
   ·obtain⟨i,i1,i2,e⟩:=Wn hx;rw[e];rcases J2 at_.toNat i with z | z
    ·have:=Rp at_.toNat i z i2;rw[hA]at this;omega
    ·rw[show i=at_.toNat by omega,hA];omega
  ·exact Wm ho hlk Rp QT Wn p50
 ·refine Vp (b:=NH) ((aBk ((cJ (aK U hlen (wU _ _))).trans (congrArg ND (decide_eq_false q1))))) U (Le ?_);exact Wm ho hlk Rp QT Wn p50
theorem aG8{Pr:SR→Prop}{is:List Nat}{gm:GM}{g:GS}{env env':EN}{ds:List D}(h:gm env=ND (.tup ds,env'))(hl:is.length=ds.length∧is.all (λi=>decide (i<env'.length))=NG)(hi:D.eU ds=NG)(k:Qs Pr (g (oU env' is ds))):Qs Pr (aW (Vk is gm) g env):=by
 have:Vk is gm env=.next (oU env' is ds):=by unfold Vk;rw[h];dsimp only;rw[if_pos ⟨hl,hi⟩]
 rw[eG this];exact k
theorem QV{Pr:SR→Prop}{gm:GM}{env env':EN}{d:D}(h:gm env=ND (d,env'))(k:Pr (.next env')):Qs Pr (zJ gm env):=by rw[Vu h];exact k
theorem aCd{l:List Int}{x:Int}{k:Nat}(hp:l.Pairwise (·<·))(h1:∀y∈l.take k,y<x)(h2:∀y∈l.drop k,x<y)(hk:k≤l.length):sortI (l++[x])=l.take k++x::l.drop k∧(l.take k++x::l.drop k).idxOf x=k∧x∈l.take k++x::l.drop k:=by
 refine⟨(Fq ⟨?_,?_⟩).symm,?_,F0 _ C9⟩
 ·refine List.perm_middle.trans ?_;rw[M6];exact(List.perm_append_singleton x l).symm
 ·have hp':=hp;rw[←M6 k l]at hp';obtain⟨p1,p2,p3⟩:=K7.mp hp';refine K7.mpr ⟨p1.imp N0,J7.mpr ⟨λy hy=>N0 (h2 y hy),p2.imp N0⟩,λa ha b hb=>?_⟩;rcases C5.mp hb with z | z
  ·rw[z];exact N0 (h1 a ha)
  ·exact N0 (p3 a ha b z)
 ·have hn:x∉l.take k:=λz=>Int.lt_irrefl _ (h1 x z);rw[List.idxOf_append,if_neg hn,V7,F3];omega
theorem aD9{st:List (List (List Int))}{first:List Int}{evs:List Ev}{s:Wb}(V:Ks st first evs s)(h:mQ s)(hm:s.n<123)(he:evs.length≤400)(c:Int):∃s' ZP,Ks st first ZP s'∧mQ s'∧s'.n≤s.n+2∧s'.P=s.P∧s'.b.held=s.b.held∧s'.rs.length=s.rs.length∧ZP.length≤evs.length+1∧zW κ [lH κ s,.lst (evs.map Bu),.int c]=ND (.non,[lH κ s',.lst (ZP.map Bu)]):=by
 have o64:=h.aDZ;have hsl:(sortI s.lo).length=s.lo.length:=(wM s.lo).1.length_eq;have nil:∀m∈([]:List Int),0≤m∧m<(s.n:Int):=λm hm=>by cases hm
 have hord:=Rb κ s;have hlen:∀{env:EN},(rE env)[3]?=ND (ND (aJ s.od))→fL jU (aB (aD 3) aO) (rE env)=ND (.int s.od.length):=λe=>fG (aA (pW e) U) (pK _);have cond:∀(j:Int) {env:EN},(rE env)[2]?=ND (ND (.int c))→(rE env)[3]?=ND (ND (aJ s.od))→(Dl (fB (f2 Ls (f2 fO (aD 2) (fC (.int 3))) (fC (.int j)))) (fB (f2 RC (aD 3) (lX aO)))) (rE env)=ND (decide (c%3=j)&&!decide (s.od=[])):=λj {env} e2 e3=>Yr (cJ (aK (aK (pW e2) U (bF (by decide))) U (nM _ _))) (cJ (aK (pW e3) (gH U (by decide)) (CG _)));by_cases q1:(decide (c%3=0)&&!decide (s.od=[]))=NG
 ·have q1':=q1;rw[G9]at q1';have ho:0<s.od.length:=S0.mpr λz=>by rw[decide_eq_true z]at q1';cases q1'.2
  have x0:=F6 (c/3) (show (s.od.length:Int)≠0 by omega);have x1:=F9 (c/3) (show 0<(s.od.length:Int) by omega);generalize hat:c/3%(s.od.length:Int)=at_ at *;obtain⟨x,hx⟩:∃x,s.od[at_.toNat]?=ND x:=⟨_,B6 (show at_.toNat<s.od.length by omega)⟩
  have V':=V.out h (by omega) x0 x1 hx nil (by decide);have h':=h.out (by omega) x0 x1 hx nil (by decide);have hlv:=aBU κ h (by omega) x0 x1 hx nil (by decide) (nd:=.non) (.inl ⟨U,U⟩);have hn':=aEU s at_ x [];have hr':=BV s at_ x [];have eP:(s.out at_ x []).P=s.P:=rfl;have eH:(s.out at_ x []).b.held=s.b.held:=rfl;generalize s.out at_ x []=s' at *;refine⟨s',_,V',h',by omega,eP,eH,hr',by rw[C7];exact D1 _,Gd U λvs hv=>?_⟩
  match vs,hv with
  | [v0,v1,v2],_=>
   suffices hh:Qs (Sw [NG,NG,NH] .non [lH κ s',.lst ((evs++[Ev.mk NH (s.n:Int) x 0]).map Bu)] [v0,v1,v2]) (pB κ [.inn v0 (lH κ s),.inn v1 (.lst (evs.map Bu)),.fro (.int c),.no,.no,.no,.no,.no,.no,.no])from hh
   unfold pB;refine cL (d:=aJ s.od) (bO (nm:=tW) U (by decide +kernel) U U hord) (by exact Nat.le_of_ble_eq_true U) ?_;refine cL (d:=.int (c/3)) (aK U U (dX (by decide) (by decide))) (by exact Nat.le_of_ble_eq_true U) ?_;refine zL (cond 0 U U) (λ_=>?_) λz=>by rw[q1]at z;cases z
   refine cL (d:=.int at_) ((aK U (hlen U) (bF (by omega))).trans (by rw[hat])) (by exact Nat.le_of_ble_eq_true U) ?_;have hix:fJ (aJ s.od) (.int at_)=ND (.int x):=(iY x0 x1).trans (by rw[jW hx]);have hg:=jO (env:=[.inn v0 (lH κ s),.own (.lst (evs.map Bu)),.fro (.int c),.own (aJ s.od),.own (.int (c/3)),.own (.int at_),.no,.no,.no,.no]) (i:=0) (π:=cR) (C:=κ 1) (m := "leave") (F:=mF κ) (fs:=λeF eZ=>((zG (f2 fJ (aD 3) (aD 5)) mW) eF eZ).map (·++[.non])) (d0:=lH κ s) (p:=[]) (nm:=tW) (es:=[.int x,.non]) U U U (by decide +kernel) (by
    rw[dY (d:=.int x) (aK U U hix) rfl]
    rfl) hlv
   have hgt:Vj 1 (fC (.str "out")) (oE (κ 1) "leave" 0 cR (mF κ) (λeF eZ=>((zG (f2 fJ (aD 3) (aD 5)) mW) eF eZ).map (·++[.non]))) (aB (cN (f2 fJ (aD 3) (aD 5))) (aB (fC (.int 0)) aO)) [.inn v0 (lH κ s),.own (.lst (evs.map Bu)),.fro (.int c),.own (aJ s.od),.own (.int (c/3)),.own (.int at_),.no,.no,.no,.no]=.next [.inn v0 (lH κ s'),.own (.lst ((evs++[Ev.mk NH (s.n:Int) x 0]).map Bu)),.fro (.int c),.own (aJ s.od),.own (.int (c/3)),.own (.int at_),.no,.no,.no,.no]:=by unfold Vj;rw[hg];dsimp only[fC];rw[aA (bC (d:=.int x) (aK U U hix) U) (aA (a:=.int 0) U U)];show (if _ then _ else _)=_;rw[if_pos ⟨⟨U,U⟩,U,R4 U,by rw[B7];omega⟩,J0];rfl
   exact Qa U hgt U ⟨_,.inr ⟨U,U⟩,_,_,U,U,_,_,U,U,U⟩
 have q1:=X7.mpr q1;by_cases q2:(decide (c%3=1)&&!decide (s.od=[]))=NG
 ·have q2':=q2;rw[G9]at q2';have ho:0<s.od.length:=S0.mpr λz=>by rw[decide_eq_true z]at q2';cases q2'.2
  have x0:=F6 (c/3) (show (s.od.length:Int)≠0 by omega);have x1:=F9 (c/3) (show 0<(s.od.length:Int) by omega);generalize hat:c/3%(s.od.length:Int)=at_ at *;obtain⟨x,hx⟩:∃x,s.od[at_.toNat]?=ND x:=⟨_,B6 (show at_.toNat<s.od.length by omega)⟩
  have xr:=h.Cj x (E4 hx);have p50:(0:Int)<10 ^ (50:Int).toNat:=Q8 (by decide);have hns:(s.ns x []).length≤8:=by unfold Wb.ns;rw[F2];have:=mK (s.co.get x);omega
  have hre:=ZJ κ h (x:=x) (a:=-1) (b:=c/3%10 ^ (50:Int).toNat) (c:=0) (ns:=[]) (nd:=.non) (by omega) xr.2 nil (by decide) (.inl ⟨U,U⟩);have V':=V.rw h (x:=x) (r:=[(s.R x).getD 0 0,(s.R x).getD 1 0,-1,c/3%10 ^ (50:Int).toNat,0]) (ns:=s.ns x []) (by omega) xr.2 (h.ZG nil) hns (by omega) U;have h':=h.wr (x:=x) (r:=[(s.R x).getD 0 0,(s.R x).getD 1 0,-1,c/3%10 ^ (50:Int).toNat,0]) (ns:=s.ns x []) (by omega) xr.2 U (h.ZG nil) hns (by omega) λ_=>rfl;have hn':=aBP s x [(s.R x).getD 0 0,(s.R x).getD 1 0,-1,c/3%10 ^ (50:Int).toNat,0] (s.ns x []);have hr':=tQ s x [(s.R x).getD 0 0,(s.R x).getD 1 0,-1,c/3%10 ^ (50:Int).toNat,0] (s.ns x []);have eP:(s.wr x [(s.R x).getD 0 0,(s.R x).getD 1 0,-1,c/3%10 ^ (50:Int).toNat,0] (s.ns x [])).P=s.P:=rfl;have eH:(s.wr x [(s.R x).getD 0 0,(s.R x).getD 1 0,-1,c/3%10 ^ (50:Int).toNat,0] (s.ns x [])).b.held=s.b.held:=rfl;generalize s.wr x [(s.R x).getD 0 0,(s.R x).getD 1 0,-1,c/3%10 ^ (50:Int).toNat,0] (s.ns x [])=s' at *;refine⟨s',evs,V',h',by omega,eP,eH,hr',L9 _,Gd U λvs hv=>?_⟩
  match vs,hv with
  | [v0,v1,v2],_=>
   suffices hh:Qs (Sw [NG,NG,NH] .non [lH κ s',.lst (evs.map Bu)] [v0,v1,v2]) (pB κ [.inn v0 (lH κ s),.inn v1 (.lst (evs.map Bu)),.fro (.int c),.no,.no,.no,.no,.no,.no,.no])from hh
   unfold pB;refine cL (d:=aJ s.od) (bO (nm:=tW) U (by decide +kernel) U U hord) (by exact Nat.le_of_ble_eq_true U) ?_;refine cL (d:=.int (c/3)) (aK U U (dX (by decide) (by decide))) (by exact Nat.le_of_ble_eq_true U) ?_;refine zL (cond 0 U U) (λz=>by rw[q1]at z;cases z) λ_=>?_;refine zL (cond 1 U U) (λ_=>?_) λz=>by rw[q2]at z;cases z
   have hix:fJ (aJ s.od) (.int at_)=ND (.int x):=(iY x0 x1).trans (by rw[jW hx]);refine QV (d:=.int s.n) (env':=[.inn v0 (lH κ s'),.inn v1 (.lst (evs.map Bu)),.fro (.int c),.own (aJ s.od),.own (.int (c/3)),.no,.no,.no,.no,.no]) (jO (p:=[]) (nm:=tW) (es:=[.int x,.int (-1),.int (c/3%10 ^ (50:Int).toNat),.int 0,.non]) U U U (by decide +kernel) (by
    rw[dY (d:=.int x) (aK U ((aK U (hlen U) (bF (by omega))).trans (by rw[hat])) hix) (dY (d:=.int (-1)) (uC U) (dY (d:=.int (c/3%10 ^ (50:Int).toNat)) (aK U (aK U U (nD ⟨by decide,by decide,by decide⟩)) (bF p50)) (dY (d:=.int 0) U U)))]
    rfl) hre) ⟨_,.inr ⟨U,U⟩,_,_,U,U,_,_,U,U,U⟩
 have q2:=X7.mpr q2;by_cases q3:sortI s.lo=[]
 ·refine⟨s,evs,V,h,by omega,U,U,U,L9 _,Gd U λvs hv=>?_⟩
  match vs,hv with
  | [v0,v1,v2],_=>
   suffices hh:Qs (Sw [NG,NG,NH] .non [lH κ s,.lst (evs.map Bu)] [v0,v1,v2]) (pB κ [.inn v0 (lH κ s),.inn v1 (.lst (evs.map Bu)),.fro (.int c),.no,.no,.no,.no,.no,.no,.no])from hh
   unfold pB;refine cL (d:=aJ s.od) (bO (nm:=tW) U (by decide +kernel) U U hord) (by exact Nat.le_of_ble_eq_true U) ?_;refine cL (d:=.int (c/3)) (aK U U (dX (by decide) (by decide))) (by exact Nat.le_of_ble_eq_true U) ?_;refine zL (cond 0 U U) (λz=>by rw[q1]at z;cases z) λ_=>?_;refine zL (cond 1 U U) (λz=>by rw[q2]at z;cases z) λ_=>?_;refine aBu (b:=!decide (sortI s.lo=[])) (cJ (aK (bO (nm:=tW) U (by decide +kernel) U U (QK κ h)) (gH U (by decide)) (CG _))) (by rw[decide_eq_true q3];rfl) ?_;exact aBt ⟨_,.inr ⟨U,U⟩,_,_,U,U,_,_,U,U,U⟩
 have hlo:0<s.lo.length:=by rw[←hsl];exact S0.mpr q3
 have aKW:s.od.length≤62:=by
  obtain⟨b1,b2,b3,b4,b5⟩:=h.new hlo;have:=kY s.rs.length (0::s.new::s.od) (E8.mpr ⟨λz=>by
   rcases C5.mp z with y | y
   ·omega
   ·have:=h.Cj 0 y;omega,E8.mpr ⟨b4,h.Tp⟩⟩) λx hx=>by
   rcases C5.mp hx with z | z
   ·have:=h.pos;omega
   rcases C5.mp z with z | z
   ·omega
   ·have:=h.Cj x z;omega
  simp only[D8]at this;have:=h.few;omega
 have a0:=F6 (c/3) (show ((s.od.length:Int)+1)≠0 by omega);have a1:=F9 (c/3) (show 0<((s.od.length:Int)+1) by omega);obtain⟨key,k,hk,g0,g1,fit⟩:=aD8 h (at_:=c/3%((s.od.length:Int)+1)) (c:=c/3/5) a0 (by omega);have p50:(0:Int)<10 ^ (50:Int).toNat:=Q8 (by decide);have V':=V.ent h hlo hm (key:=key) (was:=-1) (now:=c/3%10 ^ (50:Int).toNat) (fV:=0) g0 g1 nil (by decide);have h':=h.ent hlo hm (was:=-1) (now:=c/3%10 ^ (50:Int).toNat) (fV:=0) g0 g1 nil (by decide) fit;have hn':=aET s k key (-1) (c/3%10 ^ (50:Int).toNat) 0 [];have hr':=BP s k key (-1) (c/3%10 ^ (50:Int).toNat) 0 [];have hen:=aBT κ h hlo hm (was:=-1) (now:=c/3%10 ^ (50:Int).toNat) (fV:=0) g0 g1 nil (by decide) fit (.inl ⟨U,U⟩);have eP:(s.ent k key (-1) (c/3%10 ^ (50:Int).toNat) 0 []).P=s.P:=rfl;have eH:(s.ent k key (-1) (c/3%10 ^ (50:Int).toNat) 0 []).b.held=s.b.held:=rfl;generalize s.ent k key (-1) (c/3%10 ^ (50:Int).toNat) 0 []=s' at *;have hkp:(s.od.map s.key).Pairwise (·<·):=T7.mpr h.key;obtain⟨so1,so2,so3⟩:=aCd (l:=s.od.map s.key) (x:=key) (k:=k.toNat) hkp (λy hy=>by
  rw[←g6]at hy;obtain⟨x,hx,rfl⟩:=G5.mp hy;exact fit.1 x hx) (λy hy=>by
  rw[←g7]at hy;obtain⟨x,hx,rfl⟩:=G5.mp hy;exact fit.2 x hx) (by rw[B7];omega)
 refine⟨s',_,V',h',by omega,eP,eH,hr',by rw[C7];exact D1 _,Gd U λvs hv=>?_⟩
 match vs,hv with
 | [v0,v1,v2],_=>
  suffices hh:Qs (Sw [NG,NG,NH] .non [lH κ s',.lst ((evs++[Ev.mk NG ((s.n+1:Nat):Int) s.new (s.ahead k)]).map Bu)] [v0,v1,v2]) (pB κ [.inn v0 (lH κ s),.inn v1 (.lst (evs.map Bu)),.fro (.int c),.no,.no,.no,.no,.no,.no,.no])from hh
  unfold pB;refine cL (d:=aJ s.od) (bO (nm:=tW) U (by decide +kernel) U U hord) (by exact Nat.le_of_ble_eq_true U) ?_;refine cL (d:=.int (c/3)) (aK U U (dX (by decide) (by decide))) (by exact Nat.le_of_ble_eq_true U) ?_;refine zL (cond 0 U U) (λz=>by rw[q1]at z;cases z) λ_=>?_;refine zL (cond 1 U U) (λz=>by rw[q2]at z;cases z) λ_=>?_;refine zL (b:=!decide (sortI s.lo=[])) (cJ (aK (bO (nm:=tW) U (by decide +kernel) U U (QK κ h)) (gH U (by decide)) (CG _))) (λ_=>?_) λz=>by rw[decide_eq_false q3]at z;cases z
  have Ag:=Ec (fi:=oK (aD 3)) (fr:=[0]) (fc:=nY) (fe:=cN (f2 fJ (fD (κ 1) "record_of" 2 (bM κ) (aD 1) (aB (aD 0) aO) []) (fC (.int 0)))) (e:=rE [.inn v0 (lH κ s),.inn v1 (.lst (evs.map Bu)),.fro (.int c),.own (aJ s.od),.own (.int (c/3)),.no,.no,.no,.no,.no]) (ms:=s.od) (λ_=>NG) (λx=>s.key x) (kO U) (by omega) (λx hx=>rfl) λx hx _=>by have:=h.Cj x hx;exact bC (aK (bO (nm:=tW) U (by decide +kernel) U U (oJ κ h (by omega) this.2)) U (rB (k:=0) (by rw[h.five (by omega) this.2];decide))) U
  rw[Q4.mpr λ_ _=>rfl]at Ag;refine cL (d:=aJ (s.od.map s.key)) Ag (by exact Nat.le_of_ble_eq_true U) ?_;refine cL (d:=.int (c/3%((s.od.length:Int)+1))) (aK U (aK (hlen U) U (bR _ _)) (bF (by omega))) (by exact Nat.le_of_ble_eq_true U) ?_;refine cL (d:=.int key) (bW (aA U (aA U (aA (aK U U (dX (by decide) (by decide))) U))) U hk) (by exact Nat.le_of_ble_eq_true U) ?_;refine aG8 (ds:=[.int s.new,.int (s.n+1:Nat)]) (env':=[.inn v0 (lH κ s'),.inn v1 (.lst (evs.map Bu)),.fro (.int c),.own (aJ s.od),.own (.int (c/3)),.own (.int (c/3%((s.od.length:Int)+1))),.own (aJ (s.od.map s.key)),.own (.int key),.no,.no]) (jO (p:=[]) (nm:=tW) (es:=[.int key,.int (-1),.int (c/3%10 ^ (50:Int).toNat),.int 0,.non]) U U U (by decide +kernel) (by
    rw[dY (d:=.int key) U (dY (d:=.int (-1)) (uC U) (dY (d:=.int (c/3%10 ^ (50:Int).toNat)) (aK U (aK U U (nD ⟨by decide,by decide,by decide⟩)) (bF p50)) (dY (d:=.int 0) U U)))]
    rfl) hen) ⟨U,U⟩ U ?_
  refine cL (d:=.int k) ((aK (fG (aA (aK (b:=aJ [key]) U (gH (aA U U) (R4 U)) (sX _ [key] (by rw[B7];simp;omega))) U) (Gk (by rw[C7,B7];simp;omega))) U (ju (by rw[so1];exact so3))).trans (by rw[so1,so2,Q2 g0])) (by exact Nat.le_of_ble_eq_true U) ?_;refine Qa U (Qc (p:=[]) (ds:=evs.map Bu) (d:=Bu (Ev.mk NG ((s.n+1:Nat):Int) s.new (s.ahead k))) U U U (nO (aA U (aA (bC U U) (aA (bC U U) (aA (bC (aK (aK (a:=aJ [0]) (gH (aA U U) (by decide)) U (aIx _ (by omega))) U (iY g0 (by simp;omega))) U) U)))) (R4 U)) (by rw[B7];omega)) U ⟨_,.inr ⟨U,U⟩,_,_,U,U,_,_,U,?_,U⟩;rw[J0];rfl
theorem aCe(ns:List Int)(hl:ns.length≤63)(hs:∀k∈ns,Small k):aGI κ [.lst (ns.map D.int)]=ND (.bl NG):=by
 suffices hh:∃d,aGI κ [.lst (ns.map D.int)]=ND d∧d=.bl NG by obtain⟨d,e,rfl⟩:=hh;exact e
 refine sW U ?_;unfold aIs;obtain⟨P,R,rs,aZ,od,hb,B⟩:=aB7 (ns:=ns);have hlm:=yV P R rs aZ;have h8:=B.p8;have h1:=B.p1;have r1:=B.r1;have r8:=B.r8;have hln:jU [bJ (bG P R rs aZ)]=ND (.int P):=(wD _).trans (by rw[hlm]);have hm0:0<P*R:=W5 h1 r1;have w0':mQ (Wb.first P R rs aZ od):=B.ok;have aJ5:∀k,k<P*R→(val (bG P R rs aZ) (k%P) (k/P)).length=5:=λk hk=>by obtain⟨q,q1,q2⟩:=BZ (R:=R) (cM:=rs) (aZ:=aZ) h1 hk;unfold val;rw[jW q1,jW q2];exact B.five k hk
 have aJ6:((bG P R rs aZ).getD 0 []).length=R+1:=BX (E4 (i:=0) (by rw[gY (d:=[]) (by rw[hlm];exact h1)]));have aJ7:∀x:Int,0≤x→x<((P*R:Nat):Int)→val (bG P R rs aZ) (x.toNat%P) (x.toNat/P)=rs.getD x.toNat []:=λx x0 x1=>by obtain⟨q,q1,q2⟩:=BZ (R:=R) (cM:=rs) (aZ:=aZ) (b:=x.toNat) h1 (by omega);unfold val;rw[jW q1,jW q2]
 have aIG:An (λx=>(rs.getD x.toNat []).getD 1 0) (0::od):=An.of λk hk=>by obtain⟨key,was,now,fV,e⟩:=B.chain k hk;have e:rs[((0::od).getD k 0).toNat]?=_:=e;show (rs.getD ((0::od).getD k 0).toNat []).getD 1 0=_;rw[jW e];rfl
 have bd0:∀y∈(0:Int)::od,0≤y∧y<(P*R:Nat):=λy hy=>by
  rcases C5.mp hy with z | z
  ·omega
  ·have:=B.Cj y z;omega
 have nd0:((0:Int)::od).Nodup:=E8.mpr ⟨λz=>by have:=B.Cj 0 z;omega,B.Tp⟩;have V0:Ks (bG P R rs aZ) od [] (Wb.first P R rs aZ od):=by refine⟨Am.init (by rw[hlm];exact h8),λS _=>⟨od,U,nd0,λx hx=>by show _∧x<(rs.length:Int);rw[B.len];exact B.Cj x hx,aIG.congr λy hy=>?_,λx hx _=>hx,λx _ _ hx _=>hx⟩,aIG⟩;show (val (bG P R rs aZ) ((y.toNat%(bG P R rs aZ).length:Nat):Int).toNat ((y.toNat/(bG P R rs aZ).length:Nat):Int).toNat).getD 1 0=_;rw[C8,C8,hlm,aJ7 y (bd0 y hy).1 (bd0 y hy).2]
 have hP0:(Wb.first P R rs aZ od).P=P:=hlm;have hR0:(Wb.first P R rs aZ od).rs.length=P*R:=B.len;generalize hst:bG P R rs aZ=st at *;have own:∀{s:Wb} {evs:List Ev} {row:List Int},Ks st od evs s→mQ s→s.P=P→s.rs.length=P*R→Row st od evs s (inB s.b.held) row→rO [iK s.b.bD]=ND (aJ row):=λ{s evs row} V w hP hr Rw=>by
  have shp:=V.lb.shape;have eP:s.b.bD.length=P:=hP;have hval:∀k:Nat,val s.b.bD (k%P) (k/P)=Rn st s.b.asked (inB s.b.held) ((k%P:Nat):Int) ((k/P:Nat):Int):=λk=>V.lb.val _ _;refine aD6 (m:=P*R) (R:=R) (by omega) (by omega) (by rw[eP]) r8 ((shp.2 0).trans aJ6) (λk hk=>?_) Rw.nd (λx hx=>by rw[←hr];exact Rw.bd x hx) hm0 (Rw.pth.congr λy hy=>?_)
  ·rw[eP,hval];unfold Rn;cases e:Dd s.b.asked (inB s.b.held) ((k%P:Nat):Int) ((k/P:Nat):Int)with
   | none=>
    show 2≤(val st ((k%P:Nat):Int).toNat ((k/P:Nat):Int).toNat).length;rw[C8,C8,aJ5 k hk]
    decide
   | some j=>
    have:=QS e;show 2≤(at_ s.b.asked j.toNat).thing.length;rw[w.th j.toNat (show j.toNat<s.b.asked.length by omega)]
    decide
  ·unfold Wl;rw[eP,hval,hP]
 have aIH:=own V0 w0' hP0 hR0 (row:=od) ⟨U,nd0,λx hx=>by show _∧x<(rs.length:Int);rw[B.len];exact B.Cj x hx,(V0.rows (inB []) (λk hk=>absurd hk (I0 _))).choose_spec.pth |> λq=>by
  have:=(V0.rows (inB []) (λk hk=>absurd hk (I0 _))).choose_spec;have e:(0:Int)::od=0::(V0.rows (inB []) (λk hk=>absurd hk (I0 _))).choose:=F1 this.rep;rw[e];exact q,λx hx _=>hx,λx _ _ hx _=>hx⟩
 refine cL (d:=bJ st) (bW (aA U U) U hb) (by exact Nat.le_of_ble_eq_true U) ?_;refine cL (d:=lH κ (Wb.first P R rs aZ od)) (MF (aA U U) (by rw[←hst];exact aB8 κ B)) (by exact Nat.le_of_ble_eq_true U) ?_;refine cL (d:=aJ od) (bO (nm:=tW) U (by decide +kernel) U U (Rb κ _)) (by exact Nat.le_of_ble_eq_true U) ?_;have hfo:rO [bJ st]=ND (aJ od):=by have e:(Wb.first P R rs aZ od).b.bD=st:=hst;rw[←e];exact aIH
 refine Vp (b:=NH) (cJ (aK U (bW (aA U U) U hfo) ((Pz od od).trans (by rw[decide_eq_true rfl];rfl)))) U (Le ?_);refine cL (gH U (by decide)) (by exact Nat.le_of_ble_eq_true U) (cL (d:=zO []) U (by exact Nat.le_of_ble_eq_true U) ?_);obtain⟨cells,hcells,c1⟩:∃cells:List Int,jG (oK (qw NH (aD 0) (pI (fC (.int 3))) (pI (fC (.int 123))))) [] nY (dW 1 lQ (aB (aD 0) aO)) (zE [.fro (aJ ns),.own (bJ st),.own (lH κ (Wb.first P R rs aZ od)),.own (aJ od),.own (.lst []),.own (zO []),.no,.no,.no,.no,.no])=ND (aJ cells)∧cells.length≤60:=by have hsp:∀c:Int,∃s:Int,0≤s∧lQ [.int c]=ND (.int s):=wu;refine⟨((ns.drop 3).take 120).map λc=>(hsp c).choose,?_,by rw[B7,F3,N6];omega⟩;have:=Ec (fi:=oK (qw NH (aD 0) (pI (fC (.int 3))) (pI (fC (.int 123))))) (fr:=[]) (fc:=nY) (fe:=dW 1 lQ (aB (aD 0) aO)) (e:=zE [.fro (aJ ns),.own (bJ st),.own (lH κ (Wb.first P R rs aZ od)),.own (aJ od),.own (.lst []),.own (zO []),.no,.no,.no,.no,.no]) (ms:=(ns.drop 3).take 120) (λ_=>NG) (λc=>(hsp c).choose) (kO ((Px U (Bk U) (Bk U)).trans (by rw[show (3:Int)=((3:Nat):Int)from rfl,show (123:Int)=((123:Nat):Int)from rfl,aBx]))) (by rw[F3];omega) (λm hm=>rfl) λm hm _=>bW (aA U U) U (hsp m).choose_spec.2;rw[Q4.mpr λ_ _=>rfl]at this;exact this
 have odl:od.length≤64:=by have:=w0'.aDZ;exact this
 refine je (xs:=cells.map D.int) (λn env=>∃(s:Wb)(evs:List Ev)(v6 v7 v8 v9 v10:SD),env=[.fro (aJ ns),.own (bJ st),.own (lH κ s),.own (aJ od),.own (.lst (evs.map Bu)),.own (zO s.b.held),v6,v7,v8,v9,v10]∧Ks st od evs s∧mQ s∧s.n≤2*n∧s.P=P∧s.rs.length=P*R∧evs.length≤n) U (kO hcells) ⟨_,[],_,_,_,_,_,U,V0,w0',D1 _,hP0,hR0,D1 _⟩ ?_ ?_
 ·rintro n x env hx ⟨s,evs,v6,v7,v8,v9,v10,rfl,V,h,hn,hP,hr,hev⟩;refine⟨by walk_at "lt", ?_⟩;rw[C4]at hx;obtain⟨c,hc,rfl⟩:=lJ hx;have hnc:=(D4.mp hc).1;refine cL (d:=.int (c/3)) (aK U U (dX (by decide) (by decide))) (by exact Nat.le_of_ble_eq_true U) ?_;apply zL (b:=decide (c%3=0))
  ·exact cJ (aK (aK U U (bF (by decide))) U (nM _ _))
  ·intro _;have p0:=F6 (c/3/9) (show (P:Int)≠0 by omega);have p1:=F9 (c/3/9) (show 0<(P:Int) by omega);have tail:∀(r:List Int)(t:Nat),PX s.b.asked s.b.held (c/3/9%(P:Int)) r→Qs (λr=>∃env',r=.next env'∧∃(s:Wb)(evs:List Ev)(v6 v7 v8 v9 v10:SD),env'=[.fro (aJ ns),.own (bJ st),.own (lH κ s),.own (aJ od),.own (.lst (evs.map Bu)),.own (zO s.b.held),v6,v7,v8,v9,v10]∧Ks st od evs s∧mQ s∧s.n≤2*(n+1)∧s.P=P∧s.rs.length=P*R∧evs.length≤n+1) ((aW (Oe [8] 9 (oK (aD 8)) (pG 5 cR (aD 9) (fC (.bl NG))))
 (aW (cV 10 (dW 3 oF (aB (aD 3) (aB (aD 4) (aB (aD 5) aO)))))
 (qP (qt (fB (f2 (Io NH) (aD 10) (fC .non))) (fB (f2 RC (dW 1 rO (aB (fD (κ 0) "stone" 1 (qH κ) (pJ (dJ (κ 1) "bench") (aD 2)) aO []) aO)) (aD 10)))) (gB (fC (.bl NH))) fX))) [.fro (aJ ns),.own (bJ st),.own (lH κ (s.cv (r.take t))),.own (aJ od),.own (.lst (evs.map Bu)),.own (zO s.b.held),.fro (.int c),.own (.int (c/3)),.own (aJ (r.take t)),v9,v10]):=by
    intro r t hR;have V':=V.cv hR t;have hnd:(r.take t).Nodup:=(hR.1.sublist (M5 _ _)).imp λq=>Int.ne_of_lt q;have hrm:∀x∈r.take t,(0≤x∧x<(s.n:Int))∧x∉s.b.held:=λx hx=>by have:=((hR.2.2 x).mp (L5 hx)).1;exact⟨⟨this.1,this.2.1⟩,this.2.2.2⟩
    obtain⟨h',_,e2,e3⟩:=h.cv hnd (λx hx=>(hrm x hx).1) λx hx=>(hrm x hx).2;have eh:(s.cv (r.take t)).b.held=s.b.held++r.take t:=pD _ _;have hhl:s.b.held.length≤124:=G1 h.bn.nums.len h.ZF;have hrl:(r.take t).length≤124:=by have:=hR.2.1;have:=h.ZF;rw[F3];show min t r.length≤124;have:r.length≤s.b.asked.length:=hR.2.1;have:s.b.asked.length≤124:=h.ZF;omega
    refine je (xs:=(r.take t).map D.int) (λj env=>∃v9,env=[.fro (aJ ns),.own (bJ st),.own (lH κ (s.cv (r.take t))),.own (aJ od),.own (.lst (evs.map Bu)),.own (zO (s.b.held++(r.take t).take j)),.fro (.int c),.own (.int (c/3)),.fro (aJ (r.take t)),v9,v10]) U (kO U) ⟨_,by rw[r9,F2];rfl⟩ ?_ ?_
    ·rintro j x env hx ⟨v9,rfl⟩;refine⟨by walk_at "lt", ?_⟩;rw[C4]at hx;obtain⟨y,hy,rfl⟩:=lJ hx;have hj:=(D4.mp hy).1;have hny:y∉s.b.held++(r.take t).take j:=λz=>by
      rcases G0.mp z with z | z
      ·exact(hrm y (E4 hy)).2 z
      ·obtain⟨i,hi,ei⟩:=J1 z;rw[F3]at hi;rw[Q9]at ei;exact K6.mp hnd i j (by omega) hj (by omega) (ei.trans (D4.mp hy).2.symm)
     refine⟨_,aEL (ks:=s.b.held++(r.take t).take j) (k:=y) U U U (by rw[C7,F3];omega),.fro (.int y),?_⟩;have ea:Yv (s.b.held++(r.take t).take j) y=s.b.held++(r.take t).take (j+1):=by unfold Yv;rw[if_neg hny,O3,O4,hy];rfl
     rw[ea];rfl
    ·rintro env ⟨v9,rfl⟩;rw[B7,N8,←eh];obtain⟨row,Rw⟩:=V'.rows (inB (s.cv (r.take t)).b.held) V'.lb.dn;have hown:=own V' h' (e3.trans hP) hr Rw;have hrl:row.length≤800:=by
      have hh:=kY (P*R) row (E8.mp Rw.nd).2 λx hx=>by have:=Rw.bd x hx;have:(s.cv (r.take t)).rs.length=P*R:=hr;omega
      have:P*R≤8*8:=P7 h8 r8;omega
     have aG9:=Kr (sd:=zO (s.cv (r.take t)).b.held) (λm=>(Pu NH m (s.cv (r.take t)).b.held).trans (by rw[if_neg E2];rfl)) Rw.rep (by omega) hrl;refine cL (d:=aJ row) (bW (aA U (aA U (aA U U))) U aG9) (by exact Nat.le_of_ble_eq_true U) ?_;have e8:(s.cv (r.take t)).b.bD.length≤8:=h'.bn.few;refine aBu (b:=NH) ((aBi (cJ (b:=NH) (aK U U U))).trans (cJ (aK (bW (aA (bO (nm:=Tn) (cQ U (mY w0 U)) (by decide +kernel) U U (wy κ e8)) U) U hown) U ((Pz row row).trans (by rw[decide_eq_true rfl];rfl))))) U ?_;exact aBt ⟨_,U,s.cv (r.take t),evs,_,_,_,_,_,U,V',h',by have:(s.cv (r.take t)).n=s.n:=e2;omega,e3.trans hP,hr,by omega⟩
   have ew:∀(r:List Int)(t:Nat),PX s.b.asked s.b.held (c/3/9%(P:Int)) r→D.ins (κ 1) tW [cW (κ 0) (s.b.bV (r.take t)),YX s.P s.rs.length,aJ s.od,aJ s.lo,Lj s.la,Lj s.co,Lj s.go]=lH κ (s.cv (r.take t)):=λr t hR=>by unfold lH;rw[show (s.cv (r.take t)).P=s.P from(lC (r.take t) s.b).1];rfl
   have harg:∀{env:EN},(rE env)[7]?=ND (ND (.int (c/3)))→(rE env)[1]?=ND (ND (bJ st))→f2 fO (f2 sO (aD 7) (fC (.int 9))) (fL jU (aB (aD 1) aO)) (rE env)=ND (.int (c/3/9%(P:Int))):=λe7 e1=>aK (aK (pW e7) U (dX (by decide) (by decide))) (fG (aA (pW e1) U) hln) (bF (by omega));have hp1:c/3/9%(P:Int)<(s.b.bD.length:Int):=by rw[show s.b.bD.length=P from hP];exact p1
   apply Yt (b:=decide (c/3%3=0))
   ·exact cJ (aK (aK U U (bF (by decide))) U (nM _ _))
   ·intro _;obtain⟨r,hR,hcv⟩:=QB κ h.bn (p:=c/3/9%(P:Int)) (most:=.int (c/3/3%3)) p0 hp1 (.inr ⟨_,U⟩);have hcv:=hcv (r.take (c/3/3%3).toNat) (λz=>by cases z) λm z=>by cases z;rfl
    refine Iw (d:=aJ (r.take (c/3/3%3).toNat)) (env':=[.fro (aJ ns),.own (bJ st),.own (lH κ (s.cv (r.take (c/3/3%3).toNat))),.own (aJ od),.own (.lst (evs.map Bu)),.own (zO s.b.held),.fro (.int c),.own (.int (c/3)),v8,v9,v10]) ((jO (p:=[L2.Step.fld (κ 1) "bench"]) (nm:=Tn) (es:=[.int (c/3/9%(P:Int)),.int (c/3/3%3)]) U U (vA w0 U) (by decide +kernel) (by
     rw[dY (d:=.int (c/3/9%(P:Int))) (harg U U) (dY (d:=.int (c/3/3%3)) (aK (aK U U (dX (by decide) (by decide))) U (bF (by decide))) U)]
     rfl) hcv).trans (by
     rw[vB w0 U,←ew r _ hR]
     rfl)) (by exact Nat.le_of_ble_eq_true U) (tail r _ hR)
   ·intro _;obtain⟨r,hR,hcv⟩:=QB κ h.bn (p:=c/3/9%(P:Int)) (most:=.non) p0 hp1 (.inl U);have hcv:=hcv r (λ_=>rfl) λm z=>by cases z
    have et:r.take r.length=r:=N8;have tl:=tail r r.length hR;rw[et]at tl;have ewr:=ew r r.length hR;rw[et]at ewr;refine Iw (d:=aJ r) (env':=[.fro (aJ ns),.own (bJ st),.own (lH κ (s.cv r)),.own (aJ od),.own (.lst (evs.map Bu)),.own (zO s.b.held),.fro (.int c),.own (.int (c/3)),v8,v9,v10]) ((jO (p:=[L2.Step.fld (κ 1) "bench"]) (nm:=Tn) (es:=[.int (c/3/9%(P:Int)),.non]) U U (vA w0 U) (by decide +kernel) (by
     rw[dY (d:=.int (c/3/9%(P:Int))) (harg U U) rfl]
     rfl) hcv).trans (by
     rw[vB w0 U,←ewr]
     rfl)) (by exact Nat.le_of_ble_eq_true U) tl
  ·intro _;obtain⟨s',ZP,V',h',hn',hP',hH',hr',aMh,hstep⟩:=aD9 κ V h (by omega) (by omega) (c/3);have hg:JZ (.ch 2::.ch 4::.rd (aD 7)::[]) (zW κ) [.fro (aJ ns),.own (bJ st),.own (lH κ s),.own (aJ od),.own (.lst (evs.map Bu)),.own (zO s.b.held),.fro (.int c),.own (.int (c/3)),v8,v9,v10]=ND (.non,[.fro (aJ ns),.own (bJ st),.own (lH κ s'),.own (aJ od),.own (.lst (ZP.map Bu)),.own (zO s.b.held),.fro (.int c),.own (.int (c/3)),v8,v9,v10]):=(aBV (ds':=[lH κ s',.lst (ZP.map Bu)]) (Mj:=[lH κ s,.lst (evs.map Bu)]) (JX:=[.int (c/3)]) U (aEV (aEV (aIA U U))) hstep).trans U;refine QV hg ⟨_,U,s',ZP,_,_,_,_,_,by rw[hH'],V',h',by omega,hP'.trans hP,hr'.trans hr,by omega⟩
 ·rintro env ⟨s,evs,v6,v7,v8,v9,v10,rfl,V,h,hn,hP,hr,hev⟩;rw[B7]at hev;have hall:Dn s.b.asked (inB ((D2 s.b.asked.length).map λk=>((k:Nat):Int))):=λk hk _ m hm=>by have:=(h.bn.good.2 k hk).1 m hm;exact decide_eq_true (G5.mpr ⟨m.toNat,F5.mpr (by omega),by omega⟩)
  obtain⟨row,Rw⟩:=V.rows _ hall;have hrl:row.length≤800:=by
   have hh:=kY (P*R) row (E8.mp Rw.nd).2 λx hx=>by have:=Rw.bd x hx;omega
   have:P*R≤8*8:=P7 h8 r8;omega
  have z1:(0:Int)∉row:=(E8.mp Rw.nd).1;have z2:(0:Int)∉s.od:=λz=>by have:=h.Cj 0 z;omega
  have er:row=s.od:=by
   refine An.one z1 z2 Rw.pth (V.mem.congr λy hy=>?_);have y01:0≤y∧y<(s.rs.length:Int):=by
    rcases C5.mp hy with z | z
    ·have:=h.pos;omega
    ·have:=h.Cj y z;omega
   refine V.full h y01.1 y01.2 λk hk=>?_;have e:=h.las y.toNat (by omega);rw[show ((y.toNat:Nat):Int)=y by omega,hk]at e;have:=wA e.symm;exact decide_eq_true (G5.mpr ⟨k.toNat,F5.mpr (by omega),by omega⟩)
  have aG9:=Kr (sd:=aJ ((D2 s.b.asked.length).map λk=>((k:Nat):Int))) (λm=>(zN NH m _).trans (by rw[if_neg E2];rfl)) Rw.rep (by omega) hrl;have ZF:s.b.asked.length≤124:=h.ZF;have hlr:pJ Ik (fL jU (aB (fD (κ 0) "changes" 1 (nF κ) (pJ (dJ (κ 1) "bench") (aD 2)) aO []) aO)) (rE [.fro (aJ ns),.own (bJ st),.own (lH κ s),.own (aJ od),.own (.lst (evs.map Bu)),.own (zO s.b.held),v6,v7,v8,v9,v10])=ND (aJ ((D2 s.b.asked.length).map λk=>((k:Nat):Int))):=cQ (fG (aA (bO (nm:=Tn) (cQ U (mY w0 U)) (by decide +kernel) U U (PQ κ)) U) (Mm _)) (WY (by omega));refine uV (aK (bO (nm:=tW) U (by decide +kernel) U U (Rb κ s)) (bW (aA U (aA U (aA hlr U))) U aG9) (KR s.od row)) ⟨_,U,?_⟩;rw[er,decide_eq_true rfl]
end Rs

def PySem.W.Fast.tw6648778833870587168:Unit:=()
def PySem.W.Fast.tw8314214800206000824:Unit:=()
def PySem.W.Fast.tw4111084406819923555:Unit:=()
def PySem.W.Fast.tw16342480514292399295:Unit:=()
def PySem.W.Fast.tw16810107805538085926:Unit:=()
def PySem.W.Fast.tw10313717402964147869:Unit:=()
def PySem.W.Fast.tw13964911459053110617:Unit:=()
def PySem.W.Fast.tw15588833761609662231:Unit:=()
def PySem.W.Fast.tw6599775572378296568:Unit:=()
def PySem.W.Fast.tw8221841245112743567:Unit:=()
def PySem.W.Fast.tw7408890677171677882:Unit:=()
def PySem.W.Fast.tw239715920484854060:Unit:=()
def PySem.W.Fast.tw6128253295106940161:Unit:=()
def PySem.W.Fast.tw5446446413281096149:Unit:=()
def PySem.W.Fast.tw10944583476708176549:Unit:=()
def PySem.W.Fast.tw16335829318260448595:Unit:=()
def PySem.W.Fast.tw17087928260587869757:Unit:=()
def PySem.W.Fast.tw4557895065904154456:Unit:=()
def PySem.W.Fast.tw12357247856158626235:Unit:=()
def PySem.W.Fast.tw12813102036639227112:Unit:=()
def PySem.W.Fast.tw16401212375272187471:Unit:=()
def PySem.W.Fast.tw4500868052801537385:Unit:=()
def PySem.W.Fast.tw6768368834841871782:Unit:=()
def PySem.W.Fast.tw4537695089463529960:Unit:=()
def PySem.W.Fast.tw8352887303788930431:Unit:=()
namespace Rs
open PySem L2
theorem CN{K:aF}{f:A7}{oc:A6}{od:Option A7}{fd:BE}{sl:Array (Option A6)}(l:K.lookup f=ND ⟨oc,od,.func fd,sl⟩):K8 K (.ref f)=NG:=by unfold K8;dsimp only;rw[l]
theorem CP{K:aF}{f:A7}{od:Option A7}{fd:BE}{sl:Array (Option A6)}(l:K.lookup f=ND ⟨.type "function", od,.func fd,sl⟩):P9 K (.ref f)=NG:=by
 unfold P9 o8;dsimp only;rw[l];show (ND (Bi "function")==ND (Bi "function"))=NG
 decide +kernel
theorem aJ8{K:aF}{h:AM}{mg:Str→Option A6}{x:Str}{st:AH}{f:A7}{oc:A6}{od an:Option A7}{osl:Array (Option A6)}{kV doc pm cdv ct:A6}(X:K.In h)(G:h.Ns AV mg)(a:S6 K AV x=ND (ND (.ref f)))(l:K.lookup f=ND ⟨oc,od,.func (G2 x x (eQ st) (cC st) (aL st) .none kV doc pm an cdv ct),osl⟩)(c:L4 K cdv x=NG):Raw K mg x st:=aFM X G a l c (CN l)
theorem rM{K:aF}{C f:A7}{nm q:Str}{st:AH}{kV dc pm cd ct:A6}{od an:Option A7}{sl:Array (Option A6)}(a:F8 K (.ref C) nm=ND (ND (.ref f)))(l:K.lookup f=ND ⟨.type "function", od,.func (G2 nm q (eQ st) (cC st) (aL st) .none kV dc pm an cd ct),sl⟩) (c:L4 K cd q=NG):fM K C nm q st NH:=aDs a (CP l) l c (CN l)
theorem rD{K:aF}{C f T:A7}{nm q:Str}{st:AH}{kV dc pm cd ct ot:A6}{od an dt:Option A7}{sl s2:Array (Option A6)}{nt:Nat}(a:F8 K (.ref C) nm=ND (ND (.ref f)))(l:K.lookup f=ND ⟨.type "function", od,.func (G2 nm q (eQ st) (cC st) (aL st) (.ref T) kV dc pm an cd ct),sl⟩) (c:L4 K cd q=NG) (t:K.lookup T=ND ⟨ot,dt,.seq #[.none] nt,s2⟩):fM K C nm q st NG:=aA4 a (CP l) l c (CN l) t
theorem rI{K:aF}{h:AM}{mg:Str→Option A6}(X:K.In h)(G:h.Ns AV mg){C f:A7}{cn q:Str}{st:AH}{kV dc pm cd ct:A6}{od an:Option A7}{sl:Array (Option A6)}(x:S6 K AV cn=ND (ND (.ref C)))(a:F8 K (.ref C) "__init__" = ND (ND (.ref f))) (l:K.lookup f=ND ⟨.type "function", od,.func (G2 "__init__" q (eQ st) (cC st) (aL st) .none kV dc pm an cd ct),sl⟩) (c:L4 K cd q=NG) (m:V1 K C=NG) (k:K8 K (.ref C)=NG):JG K mg cn C q st:=aDt X G x a (CP l) l c m k
theorem cX{K:aF}{h:AM}{C:A7}{P:A7→Prop}{cn:Str}(X:K.In h)(a:S6 K AV cn=ND (ND (.ref C)))(p:P C):∃C,P C:=⟨C,p⟩
theorem cF{K:aF}{C:A7}{fn:List Str}(a:R6 K C MH=NG)(b:T5 K C=NG)(c:X3 K C=NG)(d:F8 K (.ref C) "__setattr__" = ND (ND (.builtin "object.__setattr__"))) (e:∀x∈fn,F8 K (.ref C) x=ND none):jC K C fn:=⟨⟨a,b,c,d⟩,e⟩
theorem walk{l:n8}{q:AI}{loose:List Str}{XP:(Str→Option A6)→AM→Prop}{YP:AL→AM→Prop}{d:DefRec}{K:LB→aF}(hn:l.most=ND 63)(hdf:d.params.defaults=[])(hdn:d.name = "law")
  (hY:∀(w:AL)(h:AM),YP w h→(K w.params).In h)
  (F:∀(w:AL)(mg:Str→Option A6)(h:AM),(K w.params).In h→h.Ns AV mg→(∃C:A7,jC (K w.params) C iZ∧JG (K w.params) mg "Bench" C "Bench.__init__" sY∧fM (K w.params) C "check_pane" "Bench.check_pane" qT NH∧fM (K w.params) C "check_place" "Bench.check_place" pN NH∧fM (K w.params) C "seen" "Bench.seen" Ej NH∧fM (K w.params) C "check_change" "Bench.check_change" oY NH∧fM (K w.params) C "put" "Bench.put" Jd NG∧fM (K w.params) C "strike" "Bench.strike" xH NH∧fM (K w.params) C "carve" "Bench.carve" uI NG∧fM (K w.params) C "stone" "Bench.stone" uJ NH∧fM (K w.params) C "changes" "Bench.changes" uW NH)∧(∃C:A7,jC (K w.params) C dZ∧JG (K w.params) mg "Weaver" C "Weaver.__init__" uE∧fM (K w.params) C "order" "Weaver.order" wY NH∧fM (K w.params) C "record_of" "Weaver.record_of" qU NH∧fM (K w.params) C "write" "Weaver.write" wZ NH∧fM (K w.params) C "coming_in" "Weaver.coming_in" qW NH∧fM (K w.params) C "write_tied" "Weaver.write_tied" pO NH∧fM (K w.params) C "further_needs" "Weaver.further_needs" mX NH∧fM (K w.params) C "rewrite" "Weaver.rewrite" tE NG∧fM (K w.params) C "box_ahead" "Weaver.box_ahead" qX NH∧fM (K w.params) C "link" "Weaver.link" zU NH∧fM (K w.params) C "last_change" "Weaver.last_change" pA NH∧fM (K w.params) C "leave" "Weaver.leave" xF NG∧fM (K w.params) C "free" "Weaver.free" zV NH∧fM (K w.params) C "going_out" "Weaver.going_out" qY NH∧fM (K w.params) C "enter" "Weaver.enter" rP NG)∧Raw (K w.params) mg "_law_cell" Qe∧Raw (K w.params) mg "_law_sizes" Iz∧Raw (K w.params) mg "_law_mixed" Ja∧Raw (K w.params) mg "_law_record" Ef∧Raw (K w.params) mg "_law_built" vR∧Raw (K w.params) mg "thing_at" Qh∧Raw (K w.params) mg "spot_of" Yz∧Raw (K w.params) mg "record_at" Jb∧Raw (K w.params) mg "string_of" Jc∧Raw (K w.params) mg "many_boxes" Eg∧Raw (K w.params) mg "loose_boxes" uD∧Raw (K w.params) mg "_law_own" Zb∧Raw (K w.params) mg "_law_spread" Ei∧Raw (K w.params) mg "_law_visible" zR∧Raw (K w.params) mg "known" Zc∧Raw (K w.params) mg "_law_key" Ze∧Raw (K w.params) mg "_law_done" Gu∧Raw (K w.params) mg "ripe_among" xG∧Raw (K w.params) mg "law" aDQ∧mg "len" = none∧mg "abs" = none∧mg "list" = none∧mg "range" = none∧mg "isinstance" = none∧mg "int" = none∧mg "sorted" = none∧mg "set" = none∧mg "tuple" = none∧mg "min" = none∧mg "all" = none∧mg "max" = none∧iD mg "HEAD" (0)∧iD mg "NEXT" (1)∧iD mg "THING" (2)∧iD mg "KEY" (0)∧iD mg "WAS" (2)∧iD mg "NOW" (3)∧iD mg "AGE" (4)∧iD mg "NEEDS" (3)∧iD mg "PANE" (0)∧iD mg "PLACE" (1)) :
  u0 q loose XP YP l.row.toRowW d [] (λf vs=>m9 f vs):=by
 refine L2.ue (n:=63) (k:=9) (x := "script") (CX:=λ_=>CQ) (sp:=λw=>spB (K w.params)) hn (by decide) hdf ⟨U,by decide,by decide⟩ hY ?_ (λ_ _ a ns hl hb _ hS=>⟨a,ns,U,hS,hl,hb,λ_=>rfl⟩) λ_ _ _ _ _ z=>z;intro w mg fa h KX G hmg;obtain⟨⟨C0,aY,RBenchInit,RBenchCheckPane,RBenchCheckPlace,RBenchSeen,RBenchCheckChange,RBenchPut,RBenchStrike,RBenchCarve,RBenchStone,RBenchChanges⟩,⟨C1,aQ,RWeaverInit,RWeaverOrder,RWeaverRecordOf,RWeaverWrite,RWeaverComingIn,RWeaverWriteTied,RWeaverFurtherNeeds,RWeaverRewrite,RWeaverBoxAhead,RWeaverLink,RWeaverLastChange,RWeaverLeave,RWeaverFree,RWeaverGoingOut,RWeaverEnter⟩,RLawCell,RLawSizes,RLawMixed,RLawRecord,RLawBuilt,RThingAt,RSpotOf,RRecordAt,RStringOf,RManyBoxes,RLooseBoxes,RLawOwn,RLawSpread,RLawVisible,RKnown,RLawKey,RLawDone,RRipeAmong,RLaw,gC,aGJ,iH,jP,zY,aGK,rT,aGL,XS,aGP,aGQ,aGR,Cy,vX,Jg,Zm,aGM,aGN,aGO,YD,aBF,YF⟩:=F w mg h KX G;obtain⟨κ,e0,e1⟩:∃κ:Nat→A7,κ 0=C0∧κ 1=C1:=⟨(λn=>match n with | 0=>C0 | _=>C1),U,U⟩
 subst e0 e1;obtain⟨f,fd,FL,m⟩:=RLaw.ex;rw[hdn]at hmg;have e:=hmg.symm.trans m;cases e;refine⟨fd,VL FL (λ_ _ _ _ _ _ u=>rfl),λbase _ _=>?_⟩;have qI:=XF (P:=l.prog) (w:=w) (mg:=mg) (base:=base) RLawCell  gC;have Je:=MT (P:=l.prog) (w:=w) (mg:=mg) (base:=base) RLawSizes qI;have mG:=NB (P:=l.prog) (w:=w) (mg:=mg) (base:=base) RLawMixed;have xJ:=Zf (P:=l.prog) (w:=w) (mg:=mg) (base:=base) RLawRecord mG  aGJ;have Jm:=NK (P:=l.prog) (w:=w) (mg:=mg) (base:=base) RLawBuilt Je qI mG xJ  iH jP gC;have Ek:=Zg (P:=l.prog) (w:=w) (mg:=mg) (base:=base) RBenchInit aY  iH;have Qn:=XH (P:=l.prog) (w:=w) (mg:=mg) (base:=base) RThingAt;have Bo:=vo (P:=l.prog) (w:=w) (mg:=mg) (base:=base) RSpotOf  gC;have Bp:=NQ (P:=l.prog) (w:=w) (mg:=mg) (base:=base) RRecordAt Bo Qn;have sG:=NT (P:=l.prog) (w:=w) (mg:=mg) (base:=base) RStringOf Bp  iH Cy vX;have pP:=Zh (P:=l.prog) (w:=w) (mg:=mg) (base:=base) RManyBoxes  gC;have zX:=Tc (P:=l.prog) (w:=w) (mg:=mg) (base:=base) RLooseBoxes sG pP  jP Cy;have Ab:=Td (P:=l.prog) (w:=w) (mg:=mg) (base:=base) RWeaverInit aY aQ Ek pP Bo sG zX  jP;have jZ:=Qo (P:=l.prog) (w:=w) (mg:=mg) (base:=base) RWeaverOrder aQ  iH;have Mt:=vp (P:=l.prog) (w:=w) (mg:=mg) (base:=base) RLawOwn  gC jP zY aGK;have Es:=Zj (P:=l.prog) (w:=w) (mg:=mg) (base:=base) RLawSpread;have uL:=Tf (P:=l.prog) (w:=w) (mg:=mg) (base:=base) RLawVisible;have iT:=Gx (P:=l.prog) (w:=w) (mg:=mg) (base:=base) RBenchCheckPane aY  gC;have gP:=El (P:=l.prog) (w:=w) (mg:=mg) (base:=base) RBenchCheckPlace aY iT  gC;have Em:=Zk (P:=l.prog) (w:=w) (mg:=mg) (base:=base) RBenchSeen aY gP  Jg;have bK:=Gz (P:=l.prog) (w:=w) (mg:=mg) (base:=base) RWeaverRecordOf aQ aY Em;have gA:=Ce (P:=l.prog) (w:=w) (mg:=mg) (base:=base) RBenchCheckChange aY  gC;have Jh:=OJ (P:=l.prog) (w:=w) (mg:=mg) (base:=base) RBenchPut aY gP gA  iH gC rT aGL XS;have XX:=aBD (P:=l.prog) (w:=w) (mg:=mg) (base:=base) RKnown;have mJ:=Qp (P:=l.prog) (w:=w) (mg:=mg) (base:=base) RWeaverWrite aQ aY Jh XX;have qZ:=Hf (P:=l.prog) (w:=w) (mg:=mg) (base:=base) RWeaverComingIn aQ;have gQ:=Eo (P:=l.prog) (w:=w) (mg:=mg) (base:=base) RWeaverWriteTied aQ mJ qZ;have bZ:=yK (P:=l.prog) (w:=w) (mg:=mg) (base:=base) RWeaverFurtherNeeds aY aQ gA  iH;have tH:=Jj (P:=l.prog) (w:=w) (mg:=mg) (base:=base) RWeaverRewrite aQ bK gQ bZ  Zm vX;have iU:=Hh (P:=l.prog) (w:=w) (mg:=mg) (base:=base) RWeaverBoxAhead aQ  Cy;have oH:=Tg (P:=l.prog) (w:=w) (mg:=mg) (base:=base) RWeaverLink aQ bK gQ  Zm aGM aGN aGO;have pC:=Cg (P:=l.prog) (w:=w) (mg:=mg) (base:=base) RWeaverLastChange aQ;have xN:=Qq (P:=l.prog) (w:=w) (mg:=mg) (base:=base) RWeaverLeave aQ iU pC bZ oH bK  vX;have zZ:=Th (P:=l.prog) (w:=w) (mg:=mg) (base:=base) RWeaverFree aQ  rT;have Zq:=vq (P:=l.prog) (w:=w) (mg:=mg) (base:=base) RLawKey  gC;have rA:=Hj (P:=l.prog) (w:=w) (mg:=mg) (base:=base) RWeaverGoingOut aQ;have xO:=Qt (P:=l.prog) (w:=w) (mg:=mg) (base:=base) RWeaverEnter aQ bZ bK iU mJ rA oH  gC aGP Zm vX;have Qw:=YC (P:=l.prog) (w:=w) (mg:=mg) (base:=base) RLawDone aQ jZ xN tH zZ bK Zq xO  gC rT;have Er:=Zr (P:=l.prog) (w:=w) (mg:=mg) (base:=base) RRipeAmong  aGQ iH YD;have xP:=Qu (P:=l.prog) (w:=w) (mg:=mg) (base:=base) RBenchStrike aY  aBF YF Jg;have uK:=Ti (P:=l.prog) (w:=w) (mg:=mg) (base:=base) RBenchCarve aY iT Er xP  aGR;have Ac:=Tj (P:=l.prog) (w:=w) (mg:=mg) (base:=base) RBenchStone aY  iH;have uY:=Li (P:=l.prog) (w:=w) (mg:=mg) (base:=base) RBenchChanges aY  iH;exact aGS FL aQ aY Jm Ab jZ Mt Es uK uL Ac Qw uY  gC iH jP (aCe κ)
end Rs
open PySem PySem.W PyProof.Rows
set_option maxRecDepth 100000 in
set_option maxHeartbeats 0 in
theorem PySem.Challenge.cw_ripestone_k31_whole_string_holds : PySem.Challenge.rw_ripestone_k31_whole_string.Holds := by
 w_on;o_law;k_head;(case hw=>w_witness2)
 k_fill
 refine Rs.walk (l:=PySem.Challenge.rw_ripestone_k31_whole_string) U U U (λw h Y=>PySem.W.kIn_of Y) ?F
 case F=>
  intro w mg h KX G;refine⟨?_,?_,?_,?_,?_,?_,?_,?_,?_,?_,?_,?_,?_,?_,?_,?_,?_,?_,?_,?_,?_,K0 KX G ?_,K0 KX G ?_,K0 KX G ?_,K0 KX G ?_,K0 KX G ?_,K0 KX G ?_,K0 KX G ?_,K0 KX G ?_,K0 KX G ?_,K0 KX G ?_,K0 KX G ?_,K0 KX G ?_,?_,?_,?_,?_,?_,?_,?_,?_,?_,?_⟩
  ·refine' Rs.cX (cn := "Bench") KX ?xa0 ?zz0
   (case xa0=>k_is)
   refine⟨?_,?_,?_,?_,?_,?_,?_,?_,?_,?_,?_⟩
   ·refine' Rs.cF ?fa0 ?fb0 ?fc0 ?fd0 ?fe0
    (case fa0=>k_is);(case fb0=>k_is);(case fc0=>k_is);(case fd0=>k_is)
    dsimp only[Rs.iZ]
    repeat' (first | refine f7.mpr ⟨?_,?_⟩ | exact h9 _ | k_is)
   ·refine' Rs.rI KX G ?ix0 ?ia0 ?il0 ?ic0 ?im0 ?ik0
    (case ix0=>k_is);(case ia0=>k_is);(case il0=>k_is);(case ic0=>k_is);(case im0=>k_is);(case ik0=>k_is)
   ·refine' Rs.rM ?a ?l ?c
    (case a=>k_is);(case l=>k_is);(case c=>k_is)
   ·refine' Rs.rM ?a ?l ?c
    (case a=>k_is);(case l=>k_is);(case c=>k_is)
   ·refine' Rs.rM ?a ?l ?c
    (case a=>k_is);(case l=>k_is);(case c=>k_is)
   ·refine' Rs.rM ?a ?l ?c
    (case a=>k_is);(case l=>k_is);(case c=>k_is)
   ·refine' Rs.rD ?a ?l ?c ?t
    (case a=>k_is);(case l=>k_is);(case c=>k_is);(case t=>k_is)
   ·refine' Rs.rM ?a ?l ?c
    (case a=>k_is);(case l=>k_is);(case c=>k_is)
   ·refine' Rs.rD ?a ?l ?c ?t
    (case a=>k_is);(case l=>k_is);(case c=>k_is);(case t=>k_is)
   ·refine' Rs.rM ?a ?l ?c
    (case a=>k_is);(case l=>k_is);(case c=>k_is)
   ·refine' Rs.rM ?a ?l ?c
    (case a=>k_is);(case l=>k_is);(case c=>k_is)
  ·refine' Rs.cX (cn := "Weaver") KX ?xa1 ?zz1
   (case xa1=>k_is)
   refine⟨?_,?_,?_,?_,?_,?_,?_,?_,?_,?_,?_,?_,?_,?_,?_,?_⟩
   ·refine' Rs.cF ?fa1 ?fb1 ?fc1 ?fd1 ?fe1
    (case fa1=>k_is);(case fb1=>k_is);(case fc1=>k_is);(case fd1=>k_is)
    dsimp only[Rs.dZ]
    repeat' (first | refine f7.mpr ⟨?_,?_⟩ | exact h9 _ | k_is)
   ·refine' Rs.rI KX G ?ix1 ?ia1 ?il1 ?ic1 ?im1 ?ik1
    (case ix1=>k_is);(case ia1=>k_is);(case il1=>k_is);(case ic1=>k_is);(case im1=>k_is);(case ik1=>k_is)
   ·refine' Rs.rM ?a ?l ?c
    (case a=>k_is);(case l=>k_is);(case c=>k_is)
   ·refine' Rs.rM ?a ?l ?c
    (case a=>k_is);(case l=>k_is);(case c=>k_is)
   ·refine' Rs.rM ?a ?l ?c
    (case a=>k_is);(case l=>k_is);(case c=>k_is)
   ·refine' Rs.rM ?a ?l ?c
    (case a=>k_is);(case l=>k_is);(case c=>k_is)
   ·refine' Rs.rM ?a ?l ?c
    (case a=>k_is);(case l=>k_is);(case c=>k_is)
   ·refine' Rs.rM ?a ?l ?c
    (case a=>k_is);(case l=>k_is);(case c=>k_is)
   ·refine' Rs.rD ?a ?l ?c ?t
    (case a=>k_is);(case l=>k_is);(case c=>k_is);(case t=>k_is)
   ·refine' Rs.rM ?a ?l ?c
    (case a=>k_is);(case l=>k_is);(case c=>k_is)
   ·refine' Rs.rM ?a ?l ?c
    (case a=>k_is);(case l=>k_is);(case c=>k_is)
   ·refine' Rs.rM ?a ?l ?c
    (case a=>k_is);(case l=>k_is);(case c=>k_is)
   ·refine' Rs.rD ?a ?l ?c ?t
    (case a=>k_is);(case l=>k_is);(case c=>k_is);(case t=>k_is)
   ·refine' Rs.rM ?a ?l ?c
    (case a=>k_is);(case l=>k_is);(case c=>k_is)
   ·refine' Rs.rM ?a ?l ?c
    (case a=>k_is);(case l=>k_is);(case c=>k_is)
   ·refine' Rs.rD ?a ?l ?c ?t
    (case a=>k_is);(case l=>k_is);(case c=>k_is);(case t=>k_is)
  iterate 19
   ·refine' Rs.aJ8 KX G ?a ?l ?c
    (case a=>k_is);(case l=>k_is);(case c=>k_is)
  iterate 12
   ·k_is
  ·refine' L2.nA KX G ?a
   (case a=>k_is)
  ·refine' L2.nA KX G ?a
   (case a=>k_is)
  ·refine' L2.nA KX G ?a
   (case a=>k_is)
  ·refine' L2.nA KX G ?a
   (case a=>k_is)
  ·refine' L2.nA KX G ?a
   (case a=>k_is)
  ·refine' L2.nA KX G ?a
   (case a=>k_is)
  ·refine' L2.nA KX G ?a
   (case a=>k_is)
  ·refine' L2.nA KX G ?a
   (case a=>k_is)
  ·refine' L2.nA KX G ?a
   (case a=>k_is)
  ·refine' L2.nA KX G ?a
   (case a=>k_is)
#print axioms PySem.Challenge.cw_ripestone_k31_whole_string_holds
