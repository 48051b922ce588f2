import PyProof.Rows.All
import Wide.All
import OpenK.AllK
import Wide.FinOn
import Lean
import PyProof.EqAt
import PyProof.EqKinds
import PyProof.TupleCall
import PySem.Challenge.RW_ripestone_k28_leave
open Array renaming length_toList→J9,getElem?_toList→L7,getElem?_eq_getElem→M8,getD→O3,getElem_toList→U4,toList_push→i4,toList→o8
open Bool renaming false_ne_true→E8,and_eq_true→G7,eq_iff_iff→L5,false_eq_true→V8,or_eq_true→k7,and_false→l6,or_false→m9
open Int renaming toNat_natCast→D7,emod_lt_of_pos→E9,emod_nonneg→F1,le_of_lt→O9,natCast_nonneg→P5,le_refl→S5,pow_pos→S8,natCast_emod→T4,natCast_ediv→T5,natCast_mul→V1,toNat_of_nonneg→V4,zero_add→f9,ofNat_lt→g7,mul_nonneg→m8
open Int.ofNat renaming inj→o7
open List renaming length_map→B6,getElem?_eq_getElem→B7,getD_eq_getElem?_getD→B8,getElem?_map→B9,size_toArray→C6,length_append→C7,mem_cons_of_mem→C8,getElem?_eq_some_iff→D2,map_cons→D3,range→D4,mem_cons→D5,mem_cons_self→D6,length_range→D8,getElem?_eq_none→E2,mem_singleton→E3,replicate→E4,mem_of_getElem?→E6,length_cons→F0,mem_append→F2,append_nil→F3,eq_nil_of_length_eq_zero→F6,getElem?_set→F7,mem_range→F9,getElem?_range→G3,getElem?_append_left→G4,map_nil→G6,pairwise_cons→I0,mem_append_right→J1,mem_map→J2,map_append→J3,length_take→J4,getElem?_set_self→J5,zipWith_cons_cons→J6,getElem_of_mem→K0,ext_getElem?→K1,pairwise_iff_getElem→K5,map_map→K7,nodup_cons→K8,length_set→K9,getElem?_append_right→L3,all_eq_true→L8,eraseIdx_cons_succ→M3,filter_eq_self→M6,mem_filter→N1,mem_append_left→N2,pairwise_append→N3,nodup_append→N4,getElem_mem→N6,cons_append→N7,find?_cons→O0,take_sublist→O1,drop_eq_getElem_cons→O2,mem_of_mem_take→O4,take_length→O8,getElem?_replicate→P0,zip_cons_cons→P2,nil_append→P4,append_assoc→P6,take_add_one→P7,length_replicate→P8,zipWith→P9,zipWith_nil_left→Q1,take_append_drop→Q3,length_drop→Q5,any_eq_true→Q6,lookup→Q7,filterMap_cons→Q8,map_congr_left→Q9,filter_sublist→R0,pairwise_lt_range→S6,take_of_length_le→S7,any_cons→S9,lookup_cons→T1,drop_length→T3,eraseIdx_sublist→T8,eraseIdxIfInBounds_toArray→T9,getElem?_set_ne→U0,length_zip→U3,map_set→U7,mem_of_mem_drop→U8,getD_cons_succ→V3,length_pos_iff→V5,getElem?_drop→V9,idxOf_lt_length_of_mem→W3,filter_append→W4,length_eraseIdx_of_lt→W5,getElem_take→X0,getLast?_eq_getElem?→X2,ext_getElem→X5,length_erase_of_mem→X6,set_set→X7,length_filterMap_le→Y2,filter_cons_of_pos→Y5,filter_cons_of_neg→Y6,of_mem_zip→Y8,idxOf_cons→Y9,filter_nil→Z0,filter_eq_nil_iff→Z8,nodup_nil→a8,filterMap_append→b9,forall_mem_cons→c6,take_succ_cons→c8,replicate_succ→c9,forall_mem_nil→d6,mem_filterMap→d8,getElem_idxOf→f7,getElem?_take→g6,foldl_append→h9,drop_sublist→i3,pairwise_map→i5,filter_congr→i6,length→i8,map_id→i9,map_fst_zip→j5,filter_cons→j7,nodup_range→j8,length_nil→j9,range_succ→l0,drop_zero→m7,all_cons→n8,map_take→o0,map_drop→o6
open List.Pairwise renaming map→i7
open List.Perm renaming refl→R6,append_left→a9,swap→l8
open Nat renaming le_refl→C5,lt_of_lt_of_le→E1,ne_of_lt→E7,le_trans→G0,lt_or_ge→K4,lt_irrefl→K6,not_lt_zero→L6,zero_le→M0,lt_succ_of_lt→M4,lt_succ_self→M7,le_succ→M9,zero_add→N9,le_of_lt→O5,ne_of_gt→O6,lt_of_le_of_lt→P1,mul_le_mul→R7,succ_le_succ→T0,le_of_ble_eq_true→T7,mod_lt→U5,sub_zero→U6,div_lt_of_lt_mul→U9,sub_self→V0,eq_zero_or_pos→W0,mul_pos→Z9,le_of_eq→d9,min_self→f6,div_add_mod→l3,mod_add_div→l4
open Nat.succ renaming inj→o9
open Option renaming bind_some→C4,map_some→G1,getD_some→T2,isSome_map→W9,isSome_iff_exists→X4,map_eq_none_iff→Z7,isSome_some→e9,getD_none→j4,map_map→l9,none→p4
open Option.some renaming inj→F5
open Or renaming inr→C9,inl→D1
open Prod renaming ext→j6
open PyProof.Rows renaming boot_list→G5,callWith_type1→L0,boot_tuple→N5,boot_all→Q2,boot_sorted→R5,callWith_builtin1→U2,boot_set→b8
open PyProof.Rows.F renaming plain_set_update_loop→N8,entry_set_update_loop→R4
open PySem renaming boot_len→D9,mem_of_lookup→M5,Within→d7,call→k8
open PySem.F renaming plainAttrs_list→E5,slot_list_append→G8,type_list_append→G9,called_set→L9,args_tuple_add_2→R1,entry_tuple_add→R8,slot_tuple_add→S0,slot_dict_get→T6,plain_extend_loop→X1,slot_list_remove→X8,type_list_remove→X9,slot_list_insert→Y0,type_list_insert→Y1,args_dict_get_2→Y3,plain_list_iadd→Y4,entry_dict_get→Z6,plain_set_new→b4,slot_set_iter→b5,slot_list_pop→b6,type_list_pop→b7
open PySem.W renaming fnOf→F8,findIn→G2,mg_none_of→J0,kitOne→J7,kia_one→J8,keepIn→K2,codeIn→K3,emptyDict→L4,instObj→N0,isFn→O7,plainGet→Q4,nsIn→R3,hasDictIn→R9,makesIn→U1,plainGet_of→V2,lookIn→V6,callWith_K→V7,methodObj→W6,plainOver→W7,kitx_list→W8,takerIn→Y7,cellsFrom_some→Z5,methodCall_KW→a7,mg_of→c7,kitx_tuple→e8,specialIn→g8,kitx_dict→g9,handedIn→j0,OpenLaw→k9,typeIn→l5,kitCls→l7,WalkO→n9
open Sum renaming inl→F4,inr→X3
theorem U.{u}{α:Sort u}{a:α}:a=a:=rfl
open Bool renaming true→NF,false→NG
open Option renaming some→NC
open PyProof.Rows renaming envOfC→BN,AllBare→DZ,IntsAre→Da,firstMet→FI,subscriptTail_builtinR→Fa,subscriptTail→GW,firstMet_succ→GY,seqObj→HK,firstMet_length_le→HU,IsTup→IG,Subscript_→IQ,firstMet_zero→KU
open PyProof.Rows.IsTup renaming new→MH
open PySem renaming Value→A6,Addr→A7,Shared→A8,wpAny_bind→A9,starEach→AB,Expr→AD,wpAny_pure→AE,wpAny→AF,model→AG,Stmt→AH,Program→AJ,Around→AL,Heap→AM,World→AN,eval→AO,compareOp→AS,mainGlobals→AV,bootBuiltins→AW,wpAny_mono→AX,backTo→AY,cLine→Ap,wpAny_truthy_bool→Au,wpAny_Call_Name_kw→B5,foldedSetIterable→BC,FuncData→BE,Scope→BF,wpAny_call_entry→BI,sysModules→BM,wpAny_passesOwn→BO,wpAny_holding→BQ,binaryOp→BS,wpAny_newObj_type→BT,wpAny_setState_of→BU,keywordEach→Bz,wpAny_askSetting→CA,wpAny_setEntries_of→CB,wpAny_callSpecial?_slot→CD,holding→CF,codeAny→CH,attributeBase→CI,tupleKind_room_in1→CO,scanBound→CS,codeAny_builtin→CU,wpAny_ite_split→CY,codeAny_mono→Ch,wpAny_setField→Cn,swapsWith→Ct,pyNext→DC,sliceBounds→DD,wpAny_of_eq→DF,Builtin→DH,getMethod→DI,backToKw→DJ,standAt→DL,wpAny_pyIter_list→DO,plainId_quiet→DT,bindArgs→DU,CmpOp→Dx,wpAny_execs_nil→EA,assignEach→EB,letOwnedTupleGo→EC,rawInt→ED,relayAll→EE,wpAny_fieldsOf→EF,sizeLine_eq→EG,seqIndex_of→EH,tupleKind→EI,assign→EJ,PassesOwn→EK,wpAny_attempt→EO,fits_of_scanBound→ET,call_meets→EV,Keyword→EW,valueAt→EX,callerA→EZ,setNext→Ee,Result→FB,callWith→FC,NameKind→FD,concat_meets→FF,noFill_tuple_add→FG,wpAny_comprehension_free→FH,wpAny_isInstance→FR,atKey→FX,subscripted→FY,isTrue→Fk,wpAny_isTrue_Compare1→Fm,BindsTo→Fn,getItem→Fs,relabel→Fu,builtinLookup_eq_fast→GA,isSubtype_type→GG,bindL→GH,bindC→GI,setsByText→GN,wpAny_standAt→GU,seq_tuple_add→GV,pyIter→HC,seqIndex_neg→HI,pickOrder→HP,wpAny_assign_Name→HZ,wpAny_storeSet_of→He,wpAny_pyIter_slot→IA,wpAny_setEpoch_of→IB,GenState→ID,wpAny_execs_cons→IE,wpAny_Dict_empty→IF,builtinsNs→IH,Drawn→II,Model→IJ,wpAny_Name→IL,wpAny_load→IM,wpAny_call→IP,wpAny_specialOf→IS,intKind_is→IX,wpAny_rule→IY,codeAny_of_tree→IZ,typeLookup_type→Ic,wpAny_updateSeq→Iq,wpAny_Compare1→Iy,recursionLimit→JA,fitsIndex_both→JE,ElemsOf→JI,wpAny_runValue→JO,entryFor_alias→JU,firstArgMember→JY,isSubtype_stop→Jn,wpAny_seqItems→KA,cellsFrom→KB,seqIndex?→KE,drawOrder→KF,rangeSize_one→KI,intBits_le_64→KL,evalPart_none→KM,call_list_seq→KO,signature?_of→Kb,call_range_2→Kk,call_meetsIn→Kn,Params→Kt,compEnvC→Kx,setAddHashed→LB,entryFor→LD,argsOk→LF,wpAny_typeOf→LI
open PySem.Around renaming under_plainId→Bi,under→HE
open PySem.AutoSeq1 renaming list_insert_list_int_val_1→HV
open PySem.Builtin.Frozenset renaming updateFrom→JJ,newClass→KS,addrOf→LG,sizeOf→LH,slot0→LM
open PySem.Builtin.Int renaming intBits→CC
open PySem.Builtin.List renaming listExtendWith→DA,listLengthHint→EL,listSameRef→FU
open PySem.Builtin.Range renaming rangeSize→LJ
open PySem.Calls renaming spliced_cons→CM,spliced_nil→Cb,Name_function_global→EM,callWith_builtin→Fh,evalArgs_plain→GL
open PySem.Code renaming isFrame→HG,frames→LS
open PySem.DictEntry renaming refKey→MU
open PySem.Heap renaming get?_push_of_some→AA,lt_size→AI,get?_push_size→AK,size_push→AZ,get?_update_self→B4,get?_update_other→BD,SameBut→BG
open PySem.Heap.DictOf renaming new→MZ
open PySem.Heap.IsSliceOf renaming new→MG
open PySem.Heap.Ns1 renaming of_empty→MO
open PySem.Heap.SameBut renaming update→B3,refl→MS
open PySem.IsRange renaming new→LP
open PySem.Manifest renaming sig_set_iterator→Kj,owners→Mc
open PySem.MeetsSeq renaming list_pop_at→LZ,list_remove→Ll,EqGives→MX
open PySem.MeetsSeq.EqGives renaming int→Lc
open PySem.NameKind renaming free→As,cell→Mn
open PySem.Obj renaming data_mapFields→BA,isFreed_of_fields→Co,mapSeq→DM,cls_mapFields→EU,putSet→IU,mapFields→Ki
open PySem.Paired renaming length→GO,snoc→LU
open PySem.PassesOwn renaming never→AU
open PySem.SeqAt renaming EqAt→LV
open PySem.SeqAt.EqAt renaming int_str→Go,str_int→HA,none_bool→LW,bool_none→LX,bool_bool→LY,none_int→Lm,none_str→Lo,bool_int→Lu,bool_str→Lv,int_none→MA,int_bool→MB,str_none→MC,str_bool→MD,int_int→MI,str_str→ML,same→MY
open PySem.SetTable renaming below→AR,grown→BH,has→HL,slot→KP,toList_insertAt→LA,fits_plain_off→LL,orStandIn→MM,freeSlot→MQ,insertAt→MR,standIn→MV,advance→MW,relaid→Mb,fresh→Md,Probe→Me,laid→Mo,fits→NA
open PySem.SetTable.below renaming go→Cf
open PySem.SetTable.probe renaming go→ES
open PySem.Shared renaming TypeIs→KW
open PySem.Str renaming ofString→FM,empty→ME
open PySem.Value renaming ref→AQ,none→BB,type→BY,int→CL,bool→DB,isInt_shape→ER,str→FV,float→IC,isStrOf→KG,isInt→LN,bytes→LO
open PySem.Walks renaming list→IT
open PySem.pickOrder renaming go→HM
--HEAD
abbrev aJ:=PySem.W.Frag
theorem bA{α:Type u_1}{b:α}{β:Type u_2}{x:Option β}{f:β→Option α}(h:x.bind f=NC b):∃a,x=NC a∧f a=NC b:=Option.bind_eq_some_iff.mp h
theorem lY{α:Type u_1}{b:α}{β:Type u_2}{x:Option β}{f:β→α}(h:x.map f=NC b):∃a,x=NC a∧f a=b:=Option.map_eq_some_iff.mp h

set_option Elab.async false
set_option linter.all false
set_option maxRecDepth 100000
namespace L2
open PySem PySem.Spec PyProof.Rows
abbrev Key:=Sum Int Str
def Xr:Key→A6→Bool
 | .inl k,v=>LN k v
 | .inr x,v=>KG x v
def aKp(w:AN):Key→Int
 | .inl k=>hashInt k
 | .inr x=>hashStr w x
theorem iZ:∀{k:Key} {v:A6},Xr k v=NF→(∃i t,k=F4 i∧v=CL i t)∨(∃x t,k=X3 x∧v=FV x t)
 | .inl i,v,h=>by obtain⟨t,e⟩:=ER (k:=i) (v:=v) h;exact .inl ⟨i,t,U,e⟩
 | .inr x,v,h=>by obtain⟨t,e⟩:=Value.isStrOf_shape (x:=x) (v:=v) h;exact .inr ⟨x,t,U,e⟩
theorem zp(i:Int)(t:Tok):Xr (.inl i) (.int i t)=NF:=by simp[Xr,LN]
theorem zq(x:Str)(t:Tok):Xr (.inr x) (.str x t)=NF:=by simp[Xr,KG]
theorem aGL(a b:Int):decide ((F4 a:Key)=F4 b)=(a==b):=by
 by_cases e:a=b
 ·subst e;simp
 ·have h:¬(F4 a:Key)=F4 b:=λq=>e (Sum.inl.inj q);rw[decide_eq_false h];exact(beq_eq_false_iff_ne.mpr e).symm
theorem aGM(a b:Str):decide ((X3 a:Key)=X3 b)=decide (a=b):=by
 by_cases e:a=b
 ·subst e;simp
 ·have h:¬(X3 a:Key)=X3 b:=λq=>e (Sum.inr.inj q);rw[decide_eq_false h,decide_eq_false e]
theorem aGN(a:Int)(b:Str):decide ((F4 a:Key)=X3 b)=NG:=decide_eq_false (λq=>nomatch q)
theorem aGO(a:Str)(b:Int):decide ((X3 a:Key)=F4 b)=NG:=decide_eq_false (λq=>nomatch q)
def iI(prog:AJ)(w:AN):PySem.KeyKind prog w Key where
  is:=Xr
  hash:=aKp w
  inj:=λv a b ha hb=>by
    rcases iZ ha with ⟨i,t,rfl,rfl⟩ | ⟨x,t,rfl,rfl⟩
    · rcases iZ hb with ⟨j,u,rfl,e⟩ | ⟨y,u,rfl,e⟩
      · injection e with e1 _;rw[e1]
      · exact nomatch e
    · rcases iZ hb with ⟨j,u,rfl,e⟩ | ⟨y,u,rfl,e⟩
      · exact nomatch e
      · injection e with e1 _;rw[e1]
  byValue:=λk v h=>by rcases iZ h with ⟨i,t,rfl,rfl⟩ | ⟨x,t,rfl,rfl⟩<;>rfl
  pyHash:=λhv h=>by
    rcases iZ hv with ⟨i,t,rfl,rfl⟩ | ⟨x,t,rfl,rfl⟩
    · exact wpAny_pyHash_int h
    · exact wpAny_pyHash_str h
  eqBool:=λhu hv h=>by
    rcases iZ hu with ⟨i,t,rfl,rfl⟩ | ⟨x,t,rfl,rfl⟩
    · rcases iZ hv with ⟨j,u,rfl,rfl⟩ | ⟨y,u,rfl,rfl⟩
      · rw[aGL]at h;exact wpAny_eqBool_int h
      · rw[aGN]at h;exact Go i t y u _ _ _ _ h
    · rcases iZ hv with ⟨j,u,rfl,rfl⟩ | ⟨y,u,rfl,rfl⟩
      · rw[aGO]at h;exact HA x t j u _ _ _ _ h
      · rw[aGM]at h;exact wpAny_eqBool_str h
  «strs»:=λk x t v h=>by
    rcases iZ h with ⟨i,u,rfl,e⟩ | ⟨y,u,rfl,e⟩
    · exact nomatch e
    · injection e with e1 _
      subst e1;cases v<;>rfl
theorem PB(prog:AJ)(w:AN)(i:Int)(t:Tok):(iI prog w).is (.inl i) (.int i t)=NF:=zp i t
theorem PJ(prog:AJ)(w:AN)(x:Str)(t:Tok):(iI prog w).is (.inr x) (.str x t)=NF:=zq x t
end L2
namespace L2
open PySem PySem.Spec PyProof.Rows
inductive V where
  | non | bl (b:Bool) | int (i:Int) | str (x:Str) | byt (b:Array UInt8) | flt (b:UInt64) | ref (a:A7) | ty (n:String)
  deriving DecidableEq
def RelV:V→A6→Prop
 | .non,u=>u=BB
 | .bl b,u=>u=DB b
 | .int i,u=>∃t,u=CL i t
 | .str x,u=>∃t,u=FV x t
 | .byt b,u=>∃t,u=LO b t
 | .flt b,u=>∃t,u=IC b t
 | .ref a,u=>u=AQ a
 | .ty n,u=>u=BY n
abbrev Vals:List V→List A6→Prop:=Paired RelV
theorem Vals.length{xs:List V}{us:List A6}(r:Vals xs us):xs.length=us.length:=GO r
theorem Vals.get:∀{xs:List V} {us:List A6} {i:Nat} {x:V},Vals xs us→xs[i]?=NC x→∃u,us[i]?=NC u∧RelV x u
 | _,_,_,_,.nil,e=>by simp at e
 | _,_,0,_,.cons r _,e=>by simp at e;subst e;exact⟨_,rfl,r⟩
 | _,_,i+1,x,.cons _ t,e=>by obtain⟨u,h1,h2⟩:=Vals.get (i:=i) (x:=x) t (by simpa using e);exact⟨u,by simpa using h1,h2⟩
theorem Vals.set{x:V}{u:A6}(r:RelV x u):∀{xs:List V} {us:List A6} (i:Nat),Vals xs us→Vals (xs.set i x) (us.set i u)
 | _,_,_,.nil=>.nil
 | _,_,0,.cons _ t=>.cons r t
 | _,_,i+1,.cons q t=>.cons q (Vals.set r i t)
theorem Vals.append:∀{xs ys:List V} {us ws:List A6},Vals xs us→Vals ys ws→Vals (xs++ys) (us++ws)
 | _,_,_,_,.nil,s=>s
 | _,_,_,_,.cons r t,s=>.cons r (Vals.append t s)
theorem Vals.take:∀{xs:List V} {us:List A6} (n:Nat),Vals xs us→Vals (xs.take n) (us.take n)
 | _,_,0,_=>.nil
 | _,_,_+1,.nil=>.nil
 | _,_,n+1,.cons r t=>.cons r (Vals.take n t)
theorem Vals.drop:∀{xs:List V} {us:List A6} (n:Nat),Vals xs us→Vals (xs.drop n) (us.drop n)
 | _,_,0,r=>r
 | _,_,_+1,.nil=>.nil
 | _,_,n+1,.cons _ t=>Vals.drop n t
def Bd:Option V→Option A6→Prop
 | some v,NC u=>RelV v u
 | none,none=>True
 | _,_=>False
def KV{κ:Type}:List (κ×V)→List (κ×A6)→Prop:=Paired λ(p:κ×V) (q:κ×A6)=>p.1=q.1∧RelV p.2 q.2
def kV:Key→V
 | .inl i=>.int i
 | .inr x=>.str x
inductive HO where
  | lst (xs:List V)
  | tup (xs:List V)
  | dK (kvs:List (Key×V)) | dT (kvs:List (List Key×V))
  | set (S:Int→Bool) (n:Nat)
  | ins (C dx:A7) (fs:List (Str×V))
  | own (x:A7)
  | xd (fs:List (Str×V))
  | met (f x:A7)
  | rng (lo hi:Int)
  | Jg (o:Obj) (u:HO)
  | tbl (ps:Array A6)
  | ext (φ:AM→Prop)
abbrev Hp:=A7→Option HO
def upd(H:Hp)(a:A7)(o:HO):Hp:=λb=>if b=a then NC o else H b
theorem cM{H:Hp}{a:A7}{o:HO}:upd H a o a=NC o:=by unfold upd;rw[if_pos rfl]
theorem bN{H:Hp}{a b:A7}{o:HO}(h:b≠a):upd H a o b=H b:=by unfold upd;rw[if_neg h]
theorem aIN{H:Hp}{a b:A7}{o u:HO}(h:H a=NC o)(h':H b=NC u)(d:o≠u):a≠b:=by intro e;subst e;rw[h]at h';exact d (F5 h')
theorem gK{H:Hp}{a b:A7}{o:HO}(h:H a=NC o)(h':H b=none):a≠b:=by intro e;subst e;rw[h]at h';cases h'
section
variable(P:AJ)(w:AN)
def jZ(H:Hp)(h:AM)(a:A7):HO→Prop
 | .lst xs=>xs.length≤sizeLine∧∃(its:List A6)(n:Nat),Vals xs its∧h.get? a=NC {cls:=.type "list", data:=.seq its.toArray n}
 | .tup xs=>xs.length≤sizeLine∧∃its:List A6,Vals xs its∧IG h a its.toArray
 | .dK kvs=>kvs.length≤sizeLine∧(a==BM)=NG∧∃vs,KV kvs vs∧h.DictOf (iI P w) a vs
 | .dT kvs=>kvs.length≤sizeLine∧(a==BM)=NG∧∃xs:List (List Key×A7×A6),
   Paired (λ(p:List Key×V) (q:List Key×A7×A6)=>p.1=q.1∧H q.2.1=NC (.tup (p.1.map kV))∧RelV p.2 q.2.2) kvs xs ∧
   ∃o es ep,h.get? a=NC o∧o.ExactDict∧o.data=.dict es ep∧es.toList=xs.map (entryOfKey (EI (iI P w)))∧(xs.map (·.1)).Nodup
 | .set S n=>h.SetOf (intKind P w) a S n
 | .ins C dx fs=>H dx=NC (.own a)∧fs.length≤1000∧dx≠a∧h.get? a=NC (N0 C dx) ∧
   ∃mA,h.Ns1 dx mA∧(∀f,Bd (fs.lookup f) (mA f))∧d7 mA (fs.map (·.1))
 | .own _=>∃o,h.get? a=NC o
 | .xd fs=>∃mA,h.Ns1 a mA∧∀f,Bd (fs.lookup f) (mA f)
 | .rng lo hi=>∃t u v,h.get? a=NC {cls:=.type "range", data:=.fields #[.int lo t,.int hi u,.int 1 v]}
 | .Jg o u=>h.get? a=NC o∧jZ H h a u
 | .tbl ps=>h.get? a=NC {cls:=.none,data:=.fields ps}
 | .met f x=>h.get? a=NC (W6 (.ref f) (.ref x))
 | .ext φ=>φ h∧(∃o,h.get? a=NC o)∧∀h1 h2:AM,φ h1→(∀o,h1.get? a=NC o→h2.get? a=NC o)→φ h2
def Gs(H:Hp)(h:AM):Prop:=∀a o,H a=NC o→jZ P w H h a o
end
section
variable{P:AJ}{w:AN}{H H':Hp}{h h':AM}{a:A7}{o:HO}
theorem jZ.lt(x:jZ P w H h a o):a<h.objs.size:=by
 cases o with
 | lst xs=>obtain⟨_,_,_,_,e⟩:=x;exact AI e
 | tup xs=>obtain⟨_,_,_,p⟩:=x;exact p.lt
 | dK kvs=>obtain⟨_,_,_,_,o,_,_,e,_⟩:=x;exact AI e
 | dT kvs=>obtain⟨_,_,_,_,o,_,_,e,_⟩:=x;exact AI e
 | set S n=>obtain⟨o,_,_,_,e,_⟩:=x;exact AI e
 | ins C dx fs=>obtain⟨_,_,_,e,_⟩:=x;exact AI e
 | own y=>obtain⟨_,e⟩:=x;exact AI e
 | xd fs=>obtain⟨_,⟨_,_,_,e,_⟩,_⟩:=x;exact AI e
 | rng lo hi=>obtain⟨_,_,_,e⟩:=x;exact AI e
 | Jg ob u=>obtain⟨e,_⟩:=x;exact AI e
 | tbl ps=>exact AI (show h.get? a=NC _ from x)
 | met f y=>exact AI (show h.get? a=NC _ from x)
 | ext φ=>obtain⟨_,⟨_,e⟩,_⟩:=x;exact AI e
theorem Paired.aGP{α β:Type}{F G:α→β→Prop}:∀{l₁:List α} {l₂:List β},Paired F l₁ l₂→(∀a b,F a b→G a b)→Paired G l₁ l₂
 | _,_,.nil,_=>.nil
 | _,_,.cons r t,f=>.cons (f _ _ r) (Paired.aGP t f)
theorem jZ.stay(x:jZ P w H h a o)(k:∀b u,(b=a∨H b=NC (.own a))→h.get? b=NC u→h'.get? b=NC u)
  (ho:∀b,H b=NC (.own a)→H' b=NC (.own a)) (ht:∀b xs,H b=NC (.tup xs)→H' b=NC (.tup xs)):jZ P w H' h' a o:=by
 induction o with
 | lst xs=>obtain⟨z,its,n,r,e⟩:=x;exact⟨z,its,n,r,k _ _ (.inl U) e⟩
 | tup xs=>obtain⟨z,its,r,ob,e,c⟩:=x;exact⟨z,its,r,ob,k _ _ (.inl U) e,c⟩
 | dK kvs=>obtain⟨z,y,vs,r,ob,es,ep,e,c⟩:=x;exact⟨z,y,vs,r,ob,es,ep,k _ _ (.inl U) e,c⟩
 | dT kvs=>obtain⟨z,y,xs,r,ob,es,ep,e,c⟩:=x;exact⟨z,y,xs,Paired.aGP r λp q z=>⟨z.1,ht _ _ z.2.1,z.2.2⟩,ob,es,ep,k _ _ (.inl U) e,c⟩
 | set S n=>obtain⟨ob,es,ep,t,e,c⟩:=x;exact⟨ob,es,ep,t,k _ _ (.inl U) e,c⟩
 | ins C dx fs=>obtain⟨d,z,ne,e,mA,⟨od,es,ep,e2,c⟩,r⟩:=x;exact⟨ho _ d,z,ne,k _ _ (.inl U) e,mA,⟨od,es,ep,k _ _ (.inr d) e2,c⟩,r⟩
 | own y=>obtain⟨ob,e⟩:=x;exact⟨ob,k _ _ (.inl U) e⟩
 | xd fs=>obtain⟨mA,⟨od,es,ep,e,c⟩,r⟩:=x;exact⟨mA,⟨od,es,ep,k _ _ (.inl U) e,c⟩,r⟩
 | rng lo hi=>obtain⟨t,u,v,e⟩:=x;exact⟨t,u,v,k _ _ (.inl U) e⟩
 | Jg ob u ih=>obtain⟨e,q⟩:=x;exact⟨k _ _ (.inl U) e,ih q⟩
 | tbl ps=>have e:h.get? a=NC {cls:=.none,data:=.fields ps}:=x;show h'.get? a=NC {cls:=.none,data:=.fields ps};exact k a _ (.inl U) e
 | met f y=>have e:h.get? a=NC (W6 (.ref f) (.ref y)):=x;show h'.get? a=NC (W6 (.ref f) (.ref y));exact k a _ (.inl U) e
 | ext φ=>obtain⟨p,⟨o,e⟩,st⟩:=x;exact⟨st _ _ p λo q=>k _ _ (.inl U) q,⟨o,k _ _ (.inl U) e⟩,st⟩
theorem Gs.lt(x:Gs P w H h)(e:H a=NC o):a<h.objs.size:=(x a o e).lt
theorem Gs.fresh(x:Gs P w H h)(e:h.objs.size≤a):H a=none:=by
 cases q:H a with
 | none=>rfl
 | some u=>exact absurd (E1 (x.lt q) e) (K6 _)
theorem Gs.kept(x:Gs P w H h)(k:∀b u,h.get? b=NC u→h'.get? b=NC u):Gs P w H h':=λa o e=>
 (x a o e).stay (λb u _ q=>k b u q) (λ_ q=>q) λ_ _ q=>q
theorem Gs.laid(x:Gs P w H h)(k:∀b u,h.get? b=NC u→h'.get? b=NC u)(hp:h.objs.size≤a)(new:jZ P w (upd H a o) h' a o):Gs P w (upd H a o) h':=λb u e=>by
 have hn:=x.fresh hp;by_cases hb:b=a
 ·subst hb;rw[cM]at e;cases e;exact new
 ·rw[bN hb]at e;exact(x b u e).stay (λc v _ q=>k c v q) (λc q=>by rw[bN (gK q hn)];exact q) λc xs q=>by rw[bN (gK q hn)];exact q
end
def Rd(H:Hp)(a:A7)(u:HO):Prop:=H a=NC u∨∃o,H a=NC (.Jg o u)
theorem Rd.ok{P:AJ}{w:AN}{H:Hp}{h:AM}{a:A7}{u:HO}(r:Rd H a u)(x:Gs P w H h):jZ P w H h a u:=by
 rcases r with r | ⟨o,r⟩
 ·exact x a u r
 ·obtain⟨_,q⟩:=x a _ r;exact q
def Mut:Option HO→Prop
 | some (.lst _)=>True
 | some (.dK _)=>True
 | some (.dT _)=>True
 | some (.set _ _)=>True
 | some (.ins _ _ _)=>True
 | some (.ext _)=>True
 | _=>False
section
variable{P:AJ}{w:AN}{H:Hp}{h h':AM}{x e:A7}{o':HO}
theorem Gs.write(ok:Gs P w H h)(mu:Mut (H x))(he:e=x∨H e=NC (.own x))(k:∀b u,b≠e→h.get? b=NC u→h'.get? b=NC u)(heo:∃u,h'.get? e=NC u)
  (new:jZ P w (upd H x o') h' x o'):Gs P w (upd H x o') h':=λb u q=>by
 have aIP:∀c y,H c=NC (.own y)→c≠x:=λc y r z=>by subst z;rw[r]at mu;exact mu
 have aKq:∀c xs,H c=NC (.tup xs)→c≠x:=λc xs r z=>by subst z;rw[r]at mu;exact mu
 by_cases hb:b=x
 ·subst hb;rw[cM]at q;cases q;exact new
 ·rw[bN hb]at q;by_cases hbe:b=e
  ·have q':H b=NC (.own x):=by
    rcases he with z | z
    ·exact absurd (hbe.trans z) hb
    ·rw[hbe];exact z
   rw[q]at q';cases q';obtain⟨v,hv⟩:=heo;exact⟨v,by rw[hbe];exact hv⟩
  ·refine(ok b u q).stay (λc v hc r=>k c v ?_ r) (λc r=>by rw[bN (aIP c b r)];exact r) λc xs r=>by rw[bN (aKq c xs r)];exact r
   rcases hc with rfl | hc
   ·exact hbe
   ·rintro rfl;rcases he with z | z
    ·exact aIP c b hc z
    ·rw[hc]at z;cases z;exact hb U
end
structure Un(fs ex:List A7)(H H':Hp)(h h':AM):Prop where
 keep:∀b o,h.get? b=NC o→H b=none→b∉fs→b∉ex→h'.get? b=NC o
 slot:∀b o,h.get? b=NC o→H b=none→b∈fs→b∉ex→∃sl,h'.get? b=NC {o with slots:=sl}
 free:∀b o,h.get? b=NC o→H b=none→b∉ex→H' b=none
 there:∀b o,h.get? b=NC o→b∉ex→∃o',h'.get? b=NC o'
 tups:∀b xs,H b=NC (.tup xs)→H' b=NC (.tup xs)
 CT:∀b o u,H b=NC (.Jg o u)→H' b=NC (.Jg o u)
 PK:∀b ps,H b=NC (.tbl ps)→∃more,H' b=NC (.tbl (ps++more))
section
variable{fs fs' ex ex':List A7}{H H1 H2:Hp}{h h1 h2 h':AM}{a x e:A7}{o:HO}
theorem Un.any(u:Un fs ex H H1 h h1){b:A7}{ob:Obj}(q:h.get? b=NC ob)(n:H b=none)(hx:b∉ex):∃sl,h1.get? b=NC {ob with slots:=sl}:=by
 by_cases hb:b∈fs
 ·exact u.slot b ob q n hb hx
 ·exact⟨ob.slots,u.keep b ob q n hb hx⟩
theorem Un.kept(k:∀b u,h.get? b=NC u→h'.get? b=NC u):Un fs ex H H h h':=
 ⟨λb ob q _ _ _=>k b ob q,λb ob q _ _ _=>⟨ob.slots,k b ob q⟩,λ_ _ _ n _=>n,λb ob q _=>⟨ob,k b ob q⟩,λ_ _ q=>q,λ_ _ _ q=>q,λ_ ps q=>⟨#[],by rw[q];simp⟩⟩
theorem Un.refl:Un fs ex H H h h:=Un.kept λ_ _ q=>q
theorem Un.laid(k:∀b u,h.get? b=NC u→h'.get? b=NC u)(hp:h.objs.size≤a)(hn:H a=none):Un fs ex H (upd H a o) h h' where
 keep:=λb u q _ _ _=>k b u q
 slot:=λb u q _ _ _=>⟨u.slots,k b u q⟩
 free:=λb u q n _=>by rw[bN (E7 (E1 (AI q) hp))];exact n
 there:=λb u q _=>⟨u,k b u q⟩
 tups:=λb xs q=>by rw[bN (gK q hn)];exact q
 CT:=λb u xs q=>by rw[bN (gK q hn)];exact q
 PK:=λb ps q=>⟨#[],by rw[bN (gK q hn),q];simp⟩
theorem Un.write(mu:Mut (H x))(he:e=x∨H e=NC (.own x))(k:∀b u,b≠e→h.get? b=NC u→h'.get? b=NC u)(heo:∃u,h'.get? e=NC u):Un fs ex H (upd H x o) h h':=by
 have hx:∀b,H b=none→b≠x:=λb n z=>by subst z;rw[n]at mu;exact mu
 have hb:∀b,H b=none→b≠e:=λb n z=>by
  subst z;rcases he with r | r
  ·exact hx b n r
  ·rw[n]at r;cases r
 have hm:∀b u,H b=NC u→¬Mut (NC u)→b≠x:=λb u q nm z=>by subst z;rw[q]at mu;exact nm mu
 refine⟨λb u q n _ _=>k b u (hb b n) q,λb u q n _ _=>⟨u.slots,k b u (hb b n) q⟩,λb u q n _=>by rw[bN (hx b n)];exact n,λb u q _=>?_,
  λb xs q=>by rw[bN (hm b _ q λz=>z)];exact q,λb u xs q=>by rw[bN (hm b _ q λz=>z)];exact q,λb ps q=>⟨#[],by rw[bN (hm b _ q λz=>z),q];simp⟩⟩
 by_cases hbe:b=e
 ·subst hbe;exact heo
 ·exact⟨u,k b u hbe q⟩
end
def trk(h:AM)(H:Hp):List A7:=(D4 h.objs.size).filter λa=>(H a).isSome
def CV(h:AM)(H:Hp):AM:=PySem.W.hideAll h (trk h H)
theorem zu(h:AM)(H:Hp):(CV h H).objs.size=h.objs.size:=PySem.W.hideAll_size _ _
theorem aBl{h:AM}{H:Hp}{b:A7}{o:Obj}(e:h.get? b=NC o)(n:H b=none):(CV h H).get? b=NC o:=
 PySem.W.hideAll_get _ e λhm=>by have q:(H b).isSome=NF:=(N1.mp hm).2;rw[n]at q;simp at q
theorem aD7{h:AM}{H:Hp}{b:A7}{o:Obj}(e:(CV h H).get? b=NC o):h.get? b=NC o∧H b=none:=by
 have e':h.get? b=NC o:=PySem.W.of_hideAll (trk h H) e;refine⟨e',?_⟩;cases q:H b with
 | none=>rfl
 | some x=>have hm:b∈trk h H:=N1.mpr ⟨F9.mpr (AI e'),by simp[q]⟩;have z:(CV h H).get? b=none:=PySem.W.hideAll_none (trk h H) hm;rw[z]at e;cases e
def aD8(g h:AM)(L:A7):List (A7×Obj):=(D4 h.objs.size).filterMap λa=>if a=L∨(g.get? a).isSome=NF then none else(h.get? a).map λo=>(a,o)
def rest(g h:AM)(L d:A7):List (A7×Obj):=(aD8 g h L).filter λp=>decide (p.1≠d)
end L2
namespace L2
open PySem PySem.Spec PyProof.Rows
structure Mod(K:aJ)(mg:Str→Option A6)(base:AM):Prop where
 kin:K.In base
 glob:base.Ns AV mg
 blt:∃mb,base.Ns IH mb∧∀x:Str,x ≠ "__name__" → mb x=AW x
 nolimit:base.NoLimit
structure Cx where
 prog:AJ
 w:AN
 K:aJ
 mg:Str→Option A6
 base:AM
 A:AL
 N:List Str
 s₀:A8
 H₀:Hp
 env:Env
 outer:List Env
 stack:List Env
 ex:List A7
 fn:Str→Bool
 calm:Bool
 pn:List (A7×Obj)
 xe:A6→A8→Prop
def frs(l:List Env):List A7:=l.filterMap (·.frame)
abbrev Cx.fs(X:Cx):List A7:=frs X.outer
def Vis(sc:BF)(x:Str):Prop:=sc.names.lookup x=NC .local∨sc.names.lookup x=NC .cell∨sc.names.lookup x=NC .free
def Loc(sc:BF)(x:Str):Prop:=sc.names.lookup x=NC .local∨sc.names.lookup x=NC .cell
def Look(env:Env)(h:AM)(m:Str→Option A6)(x:Str)(u:A6):Prop:=
 (env.kindOf x=NC .local∧m x=NC u)∨((env.kindOf x=NC .cell∨env.kindOf x=NC .free)∧∃c,env.cells.lookup x=NC c∧h.IsCell c (NC u))
structure Cx.Ok(X:Cx):Prop where
 mod:Mod X.K X.mg X.base
 kind:X.env.scope.kind=.function
 glob:X.env.globals=AV
 blt:X.env.builtins=IH
 above:X.s₀.heap.objs.size≤X.env.locals
 inj:∀x y c,X.env.cells.lookup x=NC c→X.env.cells.lookup y=NC c→x=y
 has:∀x,(X.env.kindOf x=NC .cell∨X.env.kindOf x=NC .free)→∃c,X.env.cells.lookup x=NC c
 cab:∀x c,X.fn x=NF→X.env.cells.lookup x=NC c→X.s₀.heap.objs.size≤c
 hd:X.calm=NF→X.A.handled=none
 frames:X.A.frames=NC X.stack
 stk:X.stack=X.outer∨(X.stack=X.env::X.outer∧X.env.frame=NC X.env.locals)
 exf:∀b∈X.ex,b≠X.env.locals∧∀x c,X.env.cells.lookup x=NC c→c≠b
 bs:∀b o,X.base.get? b=NC o→X.s₀.heap.get? b=NC o∧X.H₀ b=none
 bsz:X.base.objs.size≤X.s₀.heap.objs.size
 aBm:∀b o,X.base.get? b=NC o→b∉X.ex
 aEb:∀b∈X.ex,b∉X.fs
 Qe:X.s₀.heap.FunFrames X.base X.outer
 frf:∀b∈X.fs,X.H₀ b=none
structure Inv(X:Cx)(pins:List (A7×Obj))(σ:List (Option V))(H:Hp)(s:A8):Prop where
 ok:X.Ok
 os:s.os=X.s₀.os
 bare:DZ s.gens
 base:Un X.fs X.ex X.H₀ H X.s₀.heap s.heap
 loc:∃m,s.heap.Ns X.env.locals m∧∀(i:Nat)(x:Str)(v:V),X.N[i]?=NC x→σ[i]?=NC (NC v)→Vis X.env.scope x→∃u,RelV v u∧Look X.env s.heap m x u
 cell:∀x c,X.env.cells.lookup x=NC c→∃v,s.heap.IsCell c v
 free:H X.env.locals=none
 Av:∀x c,X.env.cells.lookup x=NC c→H c=none
 pin:∀p∈X.pn++pins,s.heap.get? p.1=NC p.2∧H p.1=none∧p.1≠X.env.locals∧p.1∉X.fs∧∀v,p.2.data≠.cell v
 hok:Gs X.prog X.w H s.heap
 len:σ.length=X.N.length
section
variable{X:Cx}{pins:List (A7×Obj)}{σ:List (Option V)}{H H':Hp}{s:A8}{h':AM}
theorem Cx.Ok.aKr(ok:X.Ok){b:A7}{o:Obj}(e:X.base.get? b=NC o):b∉X.fs:=λhb=>by have:=(ok.Qe.mem hb).1;rw[e]at this;cases this
theorem Inv.bs(I:Inv X pins σ H s):∀b o,X.base.get? b=NC o→s.heap.get? b=NC o∧H b=none:=λb o e=>
 ⟨I.base.keep b o (I.ok.bs b o e).1 (I.ok.bs b o e).2 (I.ok.aKr e) (I.ok.aBm b o e),I.base.free b o (I.ok.bs b o e).1 (I.ok.bs b o e).2 (I.ok.aBm b o e)⟩
theorem Inv.bk(I:Inv X pins σ H s):∀b o,X.base.get? b=NC o→s.heap.get? b=NC o:=λb o e=>(I.bs b o e).1
theorem Inv.mod(I:Inv X pins σ H s):Mod X.K X.mg X.base:=I.ok.mod
theorem Inv.Lw(I:Inv X pins σ H s):X.K.In s.heap:=I.ok.mod.kin.keeps I.bk
theorem Inv.lt(I:Inv X pins σ H s):X.env.locals<s.heap.objs.size:=let ⟨_,hn,_⟩:=I.loc;hn.lt
theorem Inv.sz(I:Inv X pins σ H s):X.s₀.heap.objs.size≤s.heap.objs.size:=G0 I.ok.above (O5 I.lt)
theorem Inv.aKs(I:Inv X pins σ H s){a:A7}(h:s.heap.objs.size≤a):a∉X.fs:=λhb=>by obtain⟨_,o,ho,_⟩:=I.ok.Qe.mem hb;exact absurd (E1 (AI ho) (G0 I.sz h)) (K6 _)
theorem Inv.cne(I:Inv X pins σ H s):∀x c,X.env.cells.lookup x=NC c→c≠X.env.locals:=λx c e z=>by obtain⟨v,o,ho,hd⟩:=I.cell x c e;obtain⟨m,⟨o',es,ep,ho',hd',_⟩,_⟩:=I.loc;rw[z,ho']at ho;cases ho;rw[hd']at hd;cases hd
theorem Inv.Qe(I:Inv X pins σ H s):s.heap.FunFrames X.base X.outer:=by
 have all:∀(l:List Env),(∀b∈frs l,b∈X.fs)→X.s₀.heap.FunFrames X.base l→s.heap.FunFrames X.base l:=by
  intro l
  induction l with
  | nil=>intro _ _;trivial
  | cons env r ih=>intro hs hl;obtain⟨hk,⟨L,o,hf,hn,ho,hd⟩,hr⟩:=hl;have hL:L∈X.fs:=hs L (by unfold frs;rw[Q8,hf];exact D6);obtain⟨sl,e⟩:=I.base.slot L o ho (I.ok.frf L hL) hL λz=>I.ok.aEb L z hL;exact⟨hk,⟨L,_,hf,hn,e,hd⟩,ih (λb hb=>hs b (by unfold frs;rw[Q8,hf];exact C8 _ hb)) hr⟩
 exact all X.outer (λ_ hb=>hb) I.ok.Qe
theorem Inv.stack(I:Inv X pins σ H s):s.heap.FunFrames X.base X.stack:=by
 rcases I.ok.stk with e | ⟨e,hf⟩
 ·rw[e];exact I.Qe
 ·rw[e];obtain⟨m,hn,_⟩:=I.loc;refine .cons (by rw[I.ok.kind];decide) hf hn ?_ I.Qe;exact Heap.get?_none_of_le (G0 I.ok.bsz I.ok.above)
theorem Inv.CW(I:Inv X pins σ H s):∀b∈frs X.stack,b∈X.env.locals::X.fs:=λb hb=>by
 rcases I.ok.stk with e | ⟨e,hf⟩
 ·rw[e]at hb;exact C8 _ hb
 ·rw[e]at hb;unfold frs at hb;rw[Q8,hf]at hb;exact hb
theorem Inv.qy(I:Inv X pins σ H s):∀b∈frs X.stack,H b=none:=λb hb=>by
 rcases D5.mp (I.CW b hb)with e | hb
 ·rw[e];exact I.free
 ·obtain⟨_,o,ho,_⟩:=I.ok.Qe.mem hb;exact I.base.free b o ho (I.ok.frf b hb) λz=>I.ok.aEb b z hb
theorem Inv.step{g':Array ID}{t':Nat}{d':II}{ch:List A7}(I:Inv X pins σ H s)
  (hch:∀b∈ch,(b∈X.ex∨X.s₀.heap.objs.size≤b)∧b≠X.env.locals∧(∀x c,X.env.cells.lookup x=NC c→c≠b)∧∀p∈X.pn++pins,p.1≠b)
  (keep:∀b o,b≠X.env.locals→b∉X.fs→b∉ch→s.heap.get? b=NC o→H b=none→h'.get? b=NC o)
  (slot:∀b o,b≠X.env.locals→b∈X.fs→b∉ch→s.heap.get? b=NC o→H b=none→∃sl,h'.get? b=NC {o with slots:=sl}) (free:∀b o,b∉ch→s.heap.get? b=NC o→H b=none→H' b=none)
  (there:∀b o,b∉ch→s.heap.get? b=NC o→∃o',h'.get? b=NC o')
  (tups:∀b xs,H b=NC (.tup xs)→H' b=NC (.tup xs)) (CT:∀b o u,H b=NC (.Jg o u)→H' b=NC (.Jg o u)) (PK:∀b ps,H b=NC (.tbl ps)→∃more,H' b=NC (.tbl (ps++more)))
  (ns:∀m,s.heap.Ns X.env.locals m→h'.Ns X.env.locals m) (hok:Gs X.prog X.w H' h') (hg:DZ g') :
  Inv X pins σ H' {s with heap:=h',gens:=g',drawn:=d',toks:=t'}:=by
 have neL:∀b o,X.s₀.heap.get? b=NC o→b≠X.env.locals:=λb o e=>E7 (E1 (AI e) I.ok.above);have neC:∀b o,X.s₀.heap.get? b=NC o→b∉X.ex→b∉ch:=λb o e hx hb=>by
  rcases(hch b hb).1 with z | z
  ·exact hx z
  ·exact absurd (E1 (AI e) z) (K6 _)
 have cellK:∀x c,X.env.cells.lookup x=NC c→∀v,s.heap.IsCell c v→h'.IsCell c v:=λx c e v ⟨o,ho,hd⟩=>by
  have nch:c∉ch:=λz=>(hch c z).2.2.1 x c e U;by_cases hc:c∈X.fs
  ·obtain⟨sl,q⟩:=slot c o (I.cne x c e) hc nch ho (I.Av x c e);exact⟨_,q,hd⟩
  ·exact⟨o,keep c o (I.cne x c e) hc nch ho (I.Av x c e),hd⟩
 refine⟨I.ok,I.os,hg,⟨λb o e n hb hx=>?_,λb o e n hb hx=>?_,λb o e n hx=>?_,λb o e hx=>?_,λb xs e=>tups b xs (I.base.tups b xs e),λb o xs e=>CT b o xs (I.base.CT b o xs e),λb ps e=>?_⟩,?_,λx c e=>?_,?_,λx c e=>?_,λp hp=>?_,hok,I.len⟩
 ·exact keep b o (neL b o e) hb (neC b o e hx) (I.base.keep b o e n hb hx) (I.base.free b o e n hx)
 ·obtain⟨sl,e1⟩:=I.base.slot b o e n hb hx;obtain⟨sl',e2⟩:=slot b _ (neL b o e) hb (neC b o e hx) e1 (I.base.free b o e n hx);exact⟨sl',e2⟩
 ·obtain⟨o',e1⟩:=I.base.there b o e hx;exact free b o' (neC b o e hx) e1 (I.base.free b o e n hx)
 ·obtain⟨o',e1⟩:=I.base.there b o e hx;exact there b o' (neC b o e hx) e1
 ·obtain⟨m1,e1⟩:=I.base.PK b ps e;obtain⟨m2,e2⟩:=PK b _ e1;exact⟨m1++m2,by rw[e2,Array.append_assoc]⟩
 ·obtain⟨m,hn,hl⟩:=I.loc;refine⟨m,ns m hn,λi x v e1 e2 e3=>?_⟩;obtain⟨u,r,l⟩:=hl i x v e1 e2 e3;refine⟨u,r,?_⟩;rcases l with l | ⟨k,c,e,z⟩
  ·exact .inl l
  ·exact .inr ⟨k,c,e,cellK x c e _ z⟩
 ·obtain⟨v,z⟩:=I.cell x c e;exact⟨v,cellK x c e v z⟩
 ·obtain⟨m,⟨o,_,_,ho,_⟩,_⟩:=I.loc;exact free _ o (λz=>(hch _ z).2.1 U) ho I.free
 ·obtain⟨v,o,ho,hd⟩:=I.cell x c e;exact free c o (λz=>(hch c z).2.2.1 x c e U) ho (I.Av x c e)
 ·obtain⟨e,n,ne,nf,d⟩:=I.pin p hp;have nch:p.1∉ch:=λz=>(hch p.1 z).2.2.2 p hp U;exact⟨keep p.1 p.2 ne nf nch e n,free p.1 p.2 nch e n,ne,nf,d⟩
theorem Inv.un{t':Nat}(I:Inv X pins σ H s)(u:Un X.fs [] H H' s.heap h')(hok:Gs X.prog X.w H' h'):Inv X pins σ H' {s with heap:=h',toks:=t'}:=by
 obtain⟨m,⟨o,es,ep,ho,r⟩,_⟩:=id I.loc;obtain⟨sl,hL⟩:=u.any ho I.free (by simp);exact I.step (g':=s.gens) (d':=s.drawn) (ch:=[]) (λ_ z=>nomatch z) (λb o _ hb _ e n=>u.keep b o e n hb (by simp)) (λb o _ hb _ e n=>u.slot b o e n hb (by simp)) (λb o _ e n=>u.free b o e n (by simp)) (λb o _ e=>u.there b o e (by simp)) u.tups u.CT u.PK (λm' hm=>by
  obtain⟨o',es',ep',ho',r'⟩:=hm;rw[ho]at ho';cases ho';exact⟨_,es',ep',hL,r'⟩) hok I.bare
theorem Inv.call{g':Array ID}{t':Nat}{d':II}{ch:List A7}(I:Inv X pins σ H s)(u:Un (frs X.stack) ch H H' s.heap h')(hok:Gs X.prog X.w H' h')(hg:DZ g')
  (hch:∀b∈ch,(b∈X.ex∨X.s₀.heap.objs.size≤b)∧b≠X.env.locals∧(∀x c,X.env.cells.lookup x=NC c→c≠b)∧∀p∈X.pn++pins,p.1≠b) :
  Inv X pins σ H' {s with heap:=h',gens:=g',drawn:=d',toks:=t'}:=by
 obtain⟨m,⟨o,es,ep,ho,r⟩,_⟩:=id I.loc;obtain⟨sl,hL⟩:=u.any ho I.free λz=>(hch _ z).2.1 U;exact I.step (ch:=ch) hch (λb o hL hb hc e n=>u.keep b o e n (λz=>(D5.mp (I.CW b z)).elim hL hb) hc) (λb o _ _ hc e n=>u.any e n hc) (λb o hc e n=>u.free b o e n hc) (λb o hc e=>u.there b o e hc) u.tups u.CT u.PK (λm' hm=>by
  obtain⟨o',es',ep',ho',r'⟩:=hm;rw[ho]at ho';cases ho';exact⟨_,es',ep',hL,r'⟩) hok hg
theorem Inv.turned{t':Nat}{it:A7}(I:Inv X pins σ H s)(k:∀b o,b≠it→s.heap.get? b=NC o→h'.get? b=NC o)(hn:H it=none)(hL:it≠X.env.locals)
  (h1:it∈X.ex∨X.s₀.heap.objs.size≤it) (h2:∀x c,X.env.cells.lookup x=NC c→c≠it) (h3:∀p∈X.pn++pins,p.1≠it):Inv X pins σ H {s with heap:=h',toks:=t'}:=by
 have nit:∀b u,H b=NC u→b≠it:=λb u e z=>by rw[z,hn]at e;cases e
 refine I.step (g':=s.gens) (d':=s.drawn) (ch:=[it]) (λb hb=>?_) (λb o _ _ hc e _=>k b o (λz=>hc (by simp[z])) e) (λb o _ _ hc e _=>⟨o.slots,k b o (λz=>hc (by simp[z])) e⟩) (λ_ _ _ _ n=>n)
  (λb o hc e=>⟨o,k b o (λz=>hc (by simp[z])) e⟩) (λ_ _ e=>e) (λ_ _ _ e=>e) (λb ps e=>⟨#[],by rw[e];simp⟩) (λm hm=>?_) (λb u e=>?_) I.bare
 ·have e:b=it:=by simpa using hb
  subst e;exact⟨h1,hL,h2,h3⟩
 ·obtain⟨o,es,ep,ho,r⟩:=hm;exact⟨o,es,ep,k _ o (Ne.symm hL) ho,r⟩
 ·refine(I.hok b u e).stay (λc v hc q=>k c v ?_ q) (λ_ q=>q) λ_ _ q=>q;rcases hc with z | z
  ·rw[z];exact nit b u e
  ·exact nit c _ z
theorem Inv.tok(I:Inv X pins σ H s)(t:Nat):Inv X pins σ H {s with toks:=t}:=I.un (h':=s.heap) (t':=t) Un.refl I.hok
theorem Inv.kept{t':Nat}(I:Inv X pins σ H s)(k:∀b u,s.heap.get? b=NC u→h'.get? b=NC u):Inv X pins σ H {s with heap:=h',toks:=t'}:=I.un (Un.kept k) (I.hok.kept k)
theorem Inv.laid{a:A7}{o:HO}{t':Nat}(I:Inv X pins σ H s)(k:∀b u,s.heap.get? b=NC u→h'.get? b=NC u)(hp:s.heap.objs.size≤a)(new:jZ X.prog X.w (upd H a o) h' a o) :
  Inv X pins σ (upd H a o) {s with heap:=h',toks:=t'}:=I.un (Un.laid k hp (I.hok.fresh hp)) (I.hok.laid k hp new)
theorem Inv.write{x e:A7}{o:HO}{t':Nat}(I:Inv X pins σ H s)(mu:Mut (H x))(he:e=x∨H e=NC (.own x))(k:∀b u,b≠e→s.heap.get? b=NC u→h'.get? b=NC u)(heo:∃u,h'.get? e=NC u)
  (new:jZ X.prog X.w (upd H x o) h' x o):Inv X pins σ (upd H x o) {s with heap:=h',toks:=t'}:=I.un (Un.write mu he k heo) (I.hok.write mu he k heo new)
theorem Inv.weak{σ':List (Option V)}(I:Inv X pins σ H s)(hl:σ'.length=σ.length)(w:∀(i:Nat) v,σ'[i]?=NC (NC v)→σ[i]?=NC (NC v)):Inv X pins σ' H s:=
 ⟨I.ok,I.os,I.bare,I.base,let ⟨m,hn,hl'⟩:=I.loc;⟨m,hn,λi x v e1 e2 e3=>hl' i x v e1 (w i v e2) e3⟩,I.cell,I.free,I.Av,I.pin,I.hok,hl.trans I.len⟩
theorem Inv.qz{aFY:List (A7×Obj)}(I:Inv X pins σ H s)(h:∀p∈aFY,s.heap.get? p.1=NC p.2∧H p.1=none∧p.1≠X.env.locals∧p.1∉X.fs∧∀v,p.2.data≠.cell v):Inv X aFY σ H s:=
 ⟨I.ok,I.os,I.bare,I.base,I.loc,I.cell,I.free,I.Av,λp hp=>(F2.mp hp).elim (λz=>I.pin p (N2 _ z)) (h p),I.hok,I.len⟩
theorem PL{N:List Str}(hN:N.Nodup){i j:Nat}{x:Str}(a:N[i]?=NC x)(b:N[j]?=NC x):i=j:=by obtain⟨h1,e1⟩:=D2.mp a;obtain⟨h2,e2⟩:=D2.mp b;exact(List.getElem_inj hN).mp (e1.trans e2.symm)
theorem Xu{M:IJ}{A:AL}{E:A6→A8→Prop}{i:Nat}{x:Str}{v:V}{u:A6}{Q:Unit→A8→Prop}(I:Inv X pins σ H s)(hN:X.N.Nodup)(hi:X.N[i]?=NC x)(hx:Loc X.env.scope x)(r:RelV v u)
  (h:∀s',Inv X pins (σ.set i (NC v)) H s'→(∃a,BG a s.heap s'.heap∧(a=X.env.locals∨X.env.cells.lookup x=NC a))→Q () s') (hf:X.fn x=NF∨X.env.scope.names.lookup x=NC .local:=by first | exact .inl U | exact .inr U | assumption):AF M A (storeName X.env x u) Q E s:=by
 obtain⟨m,hn,hl⟩:=id I.loc;have hcls:(X.env.scope.kind==.class||(X.env.scope.kind==.module&&X.env.locals != X.env.globals))=NG:=by rw[I.ok.kind];rfl
 have hiσ:i<σ.length:=by rw[I.len];exact(D2.mp hi).1
 have cne:=I.cne;have tracked:∀{a:A7} {h':AM},(∃o,s.heap.get? a=NC o∧H a=none)→BG a s.heap h'→Gs X.prog X.w H h':=λ{a h'} ha hs b ob e=>by
  obtain⟨_,_,hfree⟩:=ha;refine(I.hok b ob e).stay (λc w' hc q=>(hs.2 c ?_).trans q) (λ_ q=>q) λ_ _ q=>q;rintro rfl;rcases hc with rfl | hc
  ·rw[hfree]at e;cases e
  ·rw[hfree]at hc;cases hc
 rcases hx with hk | hk
 ·refine wpAny_storeName_local hk hn (λh' hn' hs=>?_) hcls;obtain⟨oL,_,_,hoL,_⟩:=id hn;refine h _ ⟨I.ok,I.os,I.bare,⟨λb o e n hb hx=>?_,λb o e n hb hx=>?_,I.base.free,λb o e hx=>?_,I.base.tups,I.base.CT,I.base.PK⟩,⟨_,hn',λj y v' e1 e2 e3=>?_⟩,λy c e=>?_,I.free,I.Av,λp hp=>?_,tracked ⟨oL,hoL,I.free⟩ hs,by simpa using I.len⟩ ⟨_,hs,.inl U⟩
  ·exact(hs.2 b (E7 (E1 (AI e) I.ok.above))).trans (I.base.keep b o e n hb hx)
  ·obtain⟨sl,e1⟩:=I.base.slot b o e n hb hx;exact⟨sl,(hs.2 b (E7 (E1 (AI e) I.ok.above))).trans e1⟩
  ·obtain⟨o',e1⟩:=I.base.there b o e hx;exact⟨o',(hs.2 b (E7 (E1 (AI e) I.ok.above))).trans e1⟩
  ·by_cases hj:j=i
   ·subst hj;rw[hi]at e1;cases e1;rw[J5 hiσ]at e2;cases e2;exact⟨u,r,.inl ⟨hk,by simp⟩⟩
   ·rw[U0 (Ne.symm hj)]at e2;obtain⟨u',r',q⟩:=hl j y v' e1 e2 e3;refine⟨u',r',?_⟩;rcases q with ⟨k,e⟩ | ⟨k,c,e,z⟩
    ·refine .inl ⟨k,?_⟩;have:y≠x:=λe=>hj (PL hN e1 (e▸hi));simp[this,e]
    ·exact .inr ⟨k,c,e,z.sameBut hs (cne y c e)⟩
  ·obtain⟨w',z⟩:=I.cell y c e;exact⟨w',z.sameBut hs (cne y c e)⟩
  ·obtain⟨e,n,ne,nf,d⟩:=I.pin p hp;exact⟨(hs.2 p.1 ne).trans e,n,ne,nf,d⟩
 ·have hfn:X.fn x=NF:=by
   rcases hf with z | z
   ·exact z
   ·rw[z]at hk;cases hk
  obtain⟨c,hc⟩:=I.ok.has x (.inl hk);obtain⟨w',z⟩:=I.cell x c hc;refine wpAny_storeName_cell I.ok.kind hk hc z (λh' hc' hs=>?_);obtain⟨oc,hoc,aKt⟩:=id z;refine h {s with heap:=h'} ⟨I.ok,I.os,I.bare,⟨λb o e n hb hx=>?_,λb o e n hb hx=>?_,I.base.free,λb o e hx=>?_,I.base.tups,I.base.CT,I.base.PK⟩,⟨m,hn.sameBut hs (Ne.symm (cne x c hc)),λj y v' e1 e2 e3=>?_⟩,λy c' e=>?_,I.free,I.Av,λp hp=>?_,tracked ⟨oc,hoc,I.Av x c hc⟩ hs,by simpa using I.len⟩ ⟨c,hs,.inr hc⟩
  ·exact(hs.2 b (E7 (E1 (AI e) (I.ok.cab x c hfn hc)))).trans (I.base.keep b o e n hb hx)
  ·obtain⟨sl,e1⟩:=I.base.slot b o e n hb hx;exact⟨sl,(hs.2 b (E7 (E1 (AI e) (I.ok.cab x c hfn hc)))).trans e1⟩
  ·obtain⟨o',e1⟩:=I.base.there b o e hx;exact⟨o',(hs.2 b (E7 (E1 (AI e) (I.ok.cab x c hfn hc)))).trans e1⟩
  ·by_cases hj:j=i
   ·subst hj;rw[hi]at e1;cases e1;rw[J5 hiσ]at e2;cases e2;exact⟨u,r,.inr ⟨.inl hk,c,hc,hc'⟩⟩
   ·rw[U0 (Ne.symm hj)]at e2;obtain⟨u',r',q⟩:=hl j y v' e1 e2 e3;refine⟨u',r',?_⟩;rcases q with q | ⟨k,c',e,z'⟩
    ·exact .inl q
    ·refine .inr ⟨k,c',e,z'.sameBut hs ?_⟩;rintro rfl;exact hj (PL hN e1 (I.ok.inj _ _ _ e hc▸hi))
  ·by_cases hcc:c'=c
   ·subst hcc;exact⟨_,hc'⟩
   ·obtain⟨w2,z2⟩:=I.cell y c' e;exact⟨w2,z2.sameBut hs hcc⟩
  ·obtain⟨e,n,ne,nf,d⟩:=I.pin p hp;refine⟨(hs.2 p.1 ?_).trans e,n,ne,nf,d⟩;intro q;rw[q,hoc]at e;have q':oc=p.2:=F5 e;exact d w' (by rw[←q'];exact aKt)
theorem PN{M:IJ}{A:AL}{E:A6→A8→Prop}{i:Nat}{x:Str}{v:V}{u:A6}{Q:Unit→A8→Prop}(I:Inv X pins σ H s)(hN:X.N.Nodup)(hi:X.N[i]?=NC x)(hx:Loc X.env.scope x)(r:RelV v u)
  (h:∀s',Inv X pins (σ.set i (NC v)) H s'→Q () s') (hf:X.fn x=NF∨X.env.scope.names.lookup x=NC .local:=by first | exact .inl U | exact .inr U | assumption):AF M A (storeName X.env x u) Q E s:=
 Xu I hN hi hx r (λs' I' _=>h s' I') hf
theorem Inv.call'{s':A8}{ch:List A7}(I:Inv X pins σ H s)(ho:s'.os=s.os)(u:Un (frs X.stack) ch H H' s.heap s'.heap)(hok:Gs X.prog X.w H' s'.heap)(hg:DZ s'.gens)
  (hch:∀b∈ch,(b∈X.ex∨X.s₀.heap.objs.size≤b)∧b≠X.env.locals∧(∀x c,X.env.cells.lookup x=NC c→c≠b)∧∀p∈X.pn++pins,p.1≠b):Inv X pins σ H' s':=by
 obtain⟨h',g',d',t',o'⟩:=s';have e:o'=s.os:=ho;subst e;exact I.call (g':=g') (t':=t') (d':=d') u hok hg hch
end
abbrev XK:=A6→Option A7→Hp→Prop
abbrev St:=List (Option V)
abbrev VK:=V→Hp→Prop
abbrev TE:=St→Hp→VK→Prop
abbrev TT:=St→Hp→(Bool→Hp→Prop)→Prop
abbrev TA:=St→Hp→(List V→Hp→Prop)→Prop
structure Ends where
 nx:St→Hp→Prop
 rt:VK
 bk:St→Hp→Prop:=λ_ _=>False
 ct:St→Hp→Prop:=λ_ _=>False
abbrev TS:=Ends→St→Hp→Prop
def EP(X:Cx)(pins:List (A7×Obj))(σ:St)(Q:VK)(u:A6)(s':A8):Prop:=∃v H',Inv X pins σ H' s'∧RelV v u∧Q v H'
def TP(X:Cx)(pins:List (A7×Obj))(σ:St)(Q:Bool→Hp→Prop)(b:Bool)(s':A8):Prop:=∃H',Inv X pins σ H' s'∧Q b H'
def AP(X:Cx)(pins:List (A7×Obj))(σ:St)(Q:List V→Hp→Prop)(us:List A6)(s':A8):Prop:=∃vs H',Inv X pins σ H' s'∧Vals vs us∧Q vs H'
def SP(X:Cx)(pins:List (A7×Obj))(D:Ends)(f:Flow)(s':A8):Prop:=
 match f with
 | .next=>∃σ' H',Inv X pins σ' H' s'∧D.nx σ' H'
 | .brk=>∃σ' H',Inv X pins σ' H' s'∧D.bk σ' H'
 | .cont=>∃σ' H',Inv X pins σ' H' s'∧D.ct σ' H'
 | .ret u=>∃v σ' H',Inv X pins σ' H' s'∧RelV v u∧D.rt v H'
def PE(X:Cx)(e:AD)(t:TE):Prop:=
 ∀(pins:List (A7×Obj))(s:A8)(σ:St)(H:Hp)(Q:VK),Inv X pins σ H s→t σ H Q→AF (AG X.prog X.w) X.A (AO e X.env) (EP X pins σ Q) X.xe s
def PT(X:Cx)(e:AD)(t:TT):Prop:=
 ∀(pins:List (A7×Obj))(s:A8)(σ:St)(H:Hp)(Q:Bool→Hp→Prop),Inv X pins σ H s→t σ H Q→AF (AG X.prog X.w) X.A (Fk e X.env (AO e X.env)) (TP X pins σ Q) X.xe s
def PW(X:Cx)(e:AD)(t:TT):Prop:=
 ∀(whole:Sem A6)(pins:List (A7×Obj))(s:A8)(σ:St)(H:Hp)(Q:Bool→Hp→Prop),Inv X pins σ H s→t σ H Q→AF (AG X.prog X.w) X.A (Fk e X.env whole) (TP X pins σ Q) X.xe s
theorem PW.pt{X:Cx}{e:AD}{t:TT}(h:PW X e t):PT X e t:=h _
def PA(X:Cx)(es:List AD)(t:TA):Prop:=
 ∀(pos:Pos)(pins:List (A7×Obj))(s:A8)(σ:St)(H:Hp)(Q:List V→Hp→Prop),Inv X pins σ H s→t σ H Q→AF (AG X.prog X.w) X.A (spliced (AY pos (AB es X.env))) (AP X pins σ Q) X.xe s
def PS(X:Cx)(st:AH)(t:TS):Prop:=
 ∀(pins:List (A7×Obj))(s:A8)(σ:St)(H:Hp)(D:Ends),Inv X pins σ H s→t D σ H→AF (AG X.prog X.w) X.A (exec st X.env) (SP X pins D) X.xe s
def bh(X:Cx)(st:List AH)(t:TS):Prop:=
 ∀(pins:List (A7×Obj))(s:A8)(σ:St)(H:Hp)(D:Ends),Inv X pins σ H s→t D σ H→AF (AG X.prog X.w) X.A (execs st X.env) (SP X pins D) X.xe s
theorem jG{α:Type}{t:Sem α}{Q Q':α→A8→Prop}{M:IJ}{A:AL}{E:A6→A8→Prop}{s:A8}(h:AF M A t Q E s)(hQ:∀a s,Q a s→Q' a s):AF M A t Q' E s:=AX h hQ λ_ _ x=>x
end L2
namespace L2
open PySem PySem.Spec PyProof.Rows
section
variable{X:Cx}
def sE(i:Nat):TE:=λσ H Q=>∃v,σ[i]?=NC (NC v)∧Q v H
def tC(v:V):TE:=λ_ H Q=>Q v H
theorem aGR{i:Nat}{x:Str}{pos:Pos}(hN:X.N[i]?=NC x)(hv:Vis X.env.scope x)(hd:(x==("__debug__" : Str))=NG:=by decide) (hcd:(x==("__classdict__" : Str))=NG:=by decide):PE X (.Name x pos) (sE i):=by
  intro pins s σ H Q I h;obtain⟨v,e,h⟩:=h;obtain⟨m,hn,hl⟩:=I.loc;obtain⟨u,r,l⟩:=hl i x v hN e hv;have fin:EP X pins σ Q u s:=⟨v,H,I,r,h⟩
  rcases l with ⟨hk,hm⟩ | ⟨hk,c,hc,hcell⟩
  · exact IL (wpAny_loadName_local I.ok.kind hk hn hm fin) hd
  · rcases hk with hk | hk
    · exact IL (wpAny_loadName_cell I.ok.kind hk hc hcell fin) hd
    · exact IL (wpAny_loadName_free I.ok.kind hk hc hcell fin hcd) hd
theorem aGS{i j pos}:PE X (.Constant (.int i) j pos) (tC (.int i)):=λ_ _ _ H _ I h=>wpAny_Constant_int ⟨.int i,H,I.tok _,⟨_,U⟩,h⟩
theorem aIR{b j pos}:PE X (.Constant (.bool b) j pos) (tC (.bl b)):=λ_ _ _ H _ I h=>Constant_bool ⟨.bl b,H,I,U,h⟩
theorem aGT{j pos}:PE X (.Constant .none j pos) (tC .non):=λ_ _ _ H _ I h=>Constant_none ⟨.non,H,I,U,h⟩
theorem bj{x j pos}:PE X (.Constant (.str x) j pos) (tC (.str x)):=λ_ _ _ H _ I h=>Calls.Constant_str ⟨.str x,H,I.tok _,⟨_,U⟩,h⟩
def Gl(X:Cx)(x:Str):Prop:=X.env.kindOf x=NC .globalImplicit
theorem CZ{E:A6→A8→Prop}{pins:List (A7×Obj)}{s:A8}{σ:St}{H:Hp}{x:Str}{u:A6}{pos:Pos}{Q:A6→A8→Prop}(I:Inv X pins σ H s)(hg:Gl X x)(hm:X.mg x=NC u)(h:Q u s)
  (hd:(x==("__debug__" : Str))=NG:=by decide):AF (AG X.prog X.w) X.A (AO (.Name x pos) X.env) Q E s:=
 EM I.ok.kind hg (Calls.loadGlobal_global (by rw[I.ok.glob];exact I.mod.glob.keeps I.bk) hm h) hd
theorem yW{E:A6→A8→Prop}{pins:List (A7×Obj)}{s:A8}{σ:St}{H:Hp}{x:Str}{u:A6}{pos:Pos}{Q:A6→A8→Prop}(I:Inv X pins σ H s)(hg:Gl X x)(hm:X.mg x=none)(hv:AW x=NC u)(h:Q u s)
  (hn:x ≠ "__name__" := by decide) (hd:(x==("__debug__" : Str))=NG:=by decide):AF (AG X.prog X.w) X.A (AO (.Name x pos) X.env) Q E s:=by
 obtain⟨mb,h1,h2⟩:=I.mod.blt;exact EM I.ok.kind hg (Calls.loadGlobal_builtin (by rw[I.ok.glob];exact I.mod.glob.keeps I.bk) hm (by rw[I.ok.blt];exact h1.keeps I.bk) ((h2 x hn).trans hv) h) hd
theorem aEc{x:Str}{v:V}{u:A6}{pos:Pos}(hg:Gl X x)(hm:X.mg x=NC u)(r:RelV v u)(hd:(x==("__debug__" : Str))=NG:=by decide):PE X (.Name x pos) (tC v):=
 λ_ _ _ H _ I h=>CZ I hg hm ⟨v,H,I,r,h⟩ hd
theorem Dy{x:Str}{v:V}{u:A6}{pos:Pos}(hg:Gl X x)(hm:X.mg x=none)(hv:AW x=NC u)(r:RelV v u)(hn:x ≠ "__name__" := by decide) (hd:(x==("__debug__" : Str))=NG:=by decide):PE X (.Name x pos) (tC v):=
 λ_ _ _ H _ I h=>yW I hg hm hv ⟨v,H,I,r,h⟩ hn hd
variable{a b:AD}{ta tb:TE}{pos:Pos}
def PC(X:Cx)(op:Dx)(a b:AD)(t:TE):Prop:=
 ∀(pins:List (A7×Obj))(s:A8)(σ:St)(H:Hp)(Q:VK),Inv X pins σ H s→t σ H Q →
  AF (AG X.prog X.w) X.A (AO a X.env) (λv s₁=>AF (AG X.prog X.w) X.A (AO b X.env) (λu s₂=>AF (AG X.prog X.w) X.A (AS op v u) (EP X pins σ Q) X.xe s₂) X.xe s₁) X.xe s
def tB(t:TE):TT:=λσ H Q=>t σ H λx H1=>∃c,x=.bl c∧Q c H1
theorem bu{op:Dx}{t:TE}(h:PC X op a b t)(h1:behindInMarks op b=NG:=by first | exact nobehind _ (by decide) (by decide) | rfl):PE X (.Compare a [op] [b] pos) t:=λpins s σ H Q I hw=>Iy (h pins s σ H Q I hw) h1
theorem aGU{op:Dx}{t:TE}(h:PC X op a b t)(h1:behindInMarks op b=NG:=by first | exact nobehind _ (by decide) (by decide) | rfl):PT X (.Compare a [op] [b] pos) (tB t):=by intro pins s σ H Q I hw;refine Fm (jG (h pins s σ H _ I hw) λv s1 h1=>jG h1 λu s2 h2=>jG h2 λc s3 ⟨x,H1,I1,r1,q1⟩=>?_) h1;obtain⟨d,rfl,q⟩:=q1;cases r1;exact Au ⟨H1,I1,q⟩
theorem aBn{e:AD}{t:TE}(h:PE X e t)(he:∀whole,Fk e X.env whole=(do let v ←whole;DL e.pos;CF [v] (truthy v)):=by intro _;rfl):PT X e (tB t):=by intro pins s σ H Q I hw;refine isTrue_plain (jG (h pins s σ H _ I hw) λv s1 ⟨x,H1,I1,r1,q1⟩=>?_) (he _);obtain⟨d,rfl,q⟩:=q1;cases r1;exact Au ⟨H1,I1,q⟩
variable{tA tB':TT}{rest:List AD}
def aGV(t u:TT):TT:=λσ H Q=>t σ H λc H1=>if c=NF then u σ H1 Q else Q NG H1
def tOr(t u:TT):TT:=λσ H Q=>t σ H λc H1=>if c=NF then Q NF H1 else u σ H1 Q
def aEd(t:TT):TT:=λσ H Q=>t σ H λc H1=>Q (!c) H1
theorem aEe(ha:PT X a tA):PW X (.BoolOp .And [a] pos) tA:=by
 intro wh pins s σ H Q I h;refine isTrue_and (jG (ha pins s σ H Q I h) λc s1 e=>?_);cases c with
 | true=>exact isTrue_and_nil e
 | false=>exact e
theorem aGW(ha:PT X a tA):PW X (.BoolOp .Or [a] pos) tA:=by
 intro wh pins s σ H Q I h;refine isTrue_or (jG (ha pins s σ H Q I h) λc s1 e=>?_);cases c with
 | false=>exact isTrue_or_nil e
 | true=>exact e
theorem aGX(ha:PT X a tA)(hb:PW X (.BoolOp .And (b::rest) pos) tB'):PW X (.BoolOp .And (a::b::rest) pos) (aGV tA tB'):=by
 intro wh pins s σ H Q I h;refine isTrue_and (jG (ha pins s σ H _ I h) λc s1 ⟨H1,I1,q1⟩=>?_);cases c with
 | true=>exact hb wh pins s1 σ H1 Q I1 q1
 | false=>exact⟨H1,I1,q1⟩
theorem aIS(ha:PT X a tA)(hb:PW X (.BoolOp .Or (b::rest) pos) tB'):PW X (.BoolOp .Or (a::b::rest) pos) (tOr tA tB'):=by
 intro wh pins s σ H Q I h;refine isTrue_or (jG (ha pins s σ H _ I h) λc s1 ⟨H1,I1,q1⟩=>?_);cases c with
 | true=>exact⟨H1,I1,q1⟩
 | false=>exact hb wh pins s1 σ H1 Q I1 q1
theorem aBo(ha:PT X a tA):PT X (.UnaryOp .Not a pos) (aEd tA):=by intro pins s σ H Q I h;exact isTrue_not (ha pins s σ H (λc H1=>Q (!c) H1) I h)
def aFZ(ta tb:TE):TE:=λσ H Q=>ta σ H λx H1=>∃c,x=.bl c∧if c=NF then tb σ H1 Q else Q (.bl NG) H1
def aIT(ta tb:TE):TE:=λσ H Q=>ta σ H λx H1=>∃c,x=.bl c∧if c=NF then Q (.bl NF) H1 else tb σ H1 Q
def aF0(ta:TE):TE:=λσ H Q=>ta σ H λx H1=>∃c,x=.bl c∧Q (.bl (!c)) H1
theorem aGY{op}{t:TE}(h:PE X a t):PE X (.BoolOp op [a] pos) t:=λpins s σ H Q I hw=>BoolOp_one (h pins s σ H Q I hw)
theorem aGZ(ha:PE X a ta)(hb:PE X (.BoolOp .And (b::rest) pos) tb):PE X (.BoolOp .And (a::b::rest) pos) (aFZ ta tb):=by
 intro pins s σ H Q I h;refine BoolOp_and (jG (ha pins s σ H _ I h) λv s1 ⟨x,H1,I1,r1,q1⟩=>?_);obtain⟨c,rfl,q1⟩:=q1;cases r1;refine Au ?_;cases c with
 | true=>exact hb pins s1 σ H1 Q I1 q1
 | false=>exact⟨.bl NG,H1,I1,U,q1⟩
theorem aIU(ha:PE X a ta)(hb:PE X (.BoolOp .Or (b::rest) pos) tb):PE X (.BoolOp .Or (a::b::rest) pos) (aIT ta tb):=by
 intro pins s σ H Q I h;refine BoolOp_or (jG (ha pins s σ H _ I h) λv s1 ⟨x,H1,I1,r1,q1⟩=>?_);obtain⟨c,rfl,q1⟩:=q1;cases r1;refine Au ?_;cases c with
 | false=>exact hb pins s1 σ H1 Q I1 q1
 | true=>exact⟨.bl NF,H1,I1,U,q1⟩
theorem aG0(ha:PE X a ta):PE X (.UnaryOp .Not a pos) (aF0 ta):=by intro pins s σ H Q I h;refine UnaryOp_ (jG (ha pins s σ H _ I h) λv s1 ⟨x,H1,I1,r1,q1⟩=>?_);obtain⟨c,rfl,q1⟩:=q1;cases r1;exact not_of (Au ⟨.bl (!c),H1,I1,U,q1⟩)
def tIf(t:TT)(ta tb:TE):TE:=λσ H Q=>t σ H λc H1=>if c=NF then ta σ H1 Q else tb σ H1 Q
theorem aBp{c:AD}(hc:PT X c tA)(ha:PE X a ta)(hb:PE X b tb):PE X (.IfExp c a b pos) (tIf tA ta tb):=by
 intro pins s σ H Q I h;refine wpAny_IfExp (jG (hc pins s σ H _ I h) λd s1 ⟨H1,I1,q1⟩=>?_);cases d with
 | true=>exact ha pins s1 σ H1 Q I1 q1
 | false=>exact hb pins s1 σ H1 Q I1 q1
end
end L2
namespace L2
open PySem PySem.Spec PyProof.Rows
def rJ(K:aJ)(H:Hp)(a:A7)(xs:List V):Prop:=
 Rd H a (.lst xs) ∨
  ∃(o:Obj)(its:Array A6)(n:Nat),K.lookup a=NC o∧o.cls=.type "list" ∧ o.dict=none∧o.data=.seq its n∧its.size≤sizeLine∧Vals xs its.toList
def yV(K:aJ)(H:Hp)(a:A7)(xs:List V):Prop:=
 Rd H a (.tup xs) ∨
  ∃(o:Obj)(its:Array A6)(n:Nat),K.lookup a=NC o∧o.cls=.type "tuple" ∧ o.data=.seq its n∧its.size≤sizeLine∧Vals xs its.toList
def aKv:A6→Option V
 | .none=>NC .non
 | .bool b=>NC (.bl b)
 | .int i _=>NC (.int i)
 | .str x _=>NC (.str x)
 | .bytes b _=>NC (.byt b)
 | .float b _=>NC (.flt b)
 | .ref a=>NC (.ref a)
 | .type n=>NC (.ty n)
 | _=>none
theorem RelV.abs{x:V}{u:A6}(r:RelV x u):aKv u=NC x:=by
 cases x with
 | non=>cases r;rfl
 | bl _=>cases r;rfl
 | int _=>obtain⟨t,rfl⟩:=r;rfl
 | str _=>obtain⟨t,rfl⟩:=r;rfl
 | byt _=>obtain⟨t,rfl⟩:=r;rfl
 | flt _=>obtain⟨t,rfl⟩:=r;rfl
 | ref _=>cases r;rfl
 | ty _=>cases r;rfl
theorem RelV.inj{x y:V}{u:A6}(r:RelV x u)(q:RelV y u):x=y:=F5 (r.abs.symm.trans q.abs)
theorem Vals.inj:∀{xs ys:List V} {us:List A6},Vals xs us→Vals ys us→xs=ys
 | _,_,_,.nil,.nil=>rfl
 | _,_,_,.cons r t,.cons r' t'=>by rw[r.inj r',Vals.inj t t']
section
variable{X:Cx}{pins:List (A7×Obj)}{σ:St}{H:Hp}{s:A8}{a:A7}{xs ys:List V}
theorem rJ.of{K:aJ}(h:H a=NC (.lst xs)):rJ K H a xs:=.inl (.inl h)
theorem yV.of{K:aJ}(h:H a=NC (.tup xs)):yV K H a xs:=.inl (.inl h)
theorem Inv.list(I:Inv X pins σ H s)(h:rJ X.K H a xs):∃its:List A6,Vals xs its∧PlainL s.heap a its.toArray∧xs.length≤sizeLine:=by
 rcases h with h | ⟨o,its,n,hk,hc,hd,hs,hz,r⟩
 ·obtain⟨z,its,n,r,e⟩:=h.ok I.hok;exact⟨its,r,⟨_,n,e,U,U,U⟩,z⟩
 ·refine⟨its.toList,r,⟨o,n,I.Lw a o hk,hc,hd,by simpa using hs⟩,?_⟩;have e:=r.length;simp only[J9]at e;omega
theorem Inv.tuple(I:Inv X pins σ H s)(h:yV X.K H a xs):∃its:List A6,Vals xs its∧IG s.heap a its.toArray∧xs.length≤sizeLine:=by
 rcases h with h | ⟨o,its,n,hk,hc,hs,hz,r⟩
 ·obtain⟨z,its,r,p⟩:=h.ok I.hok;exact⟨its,r,p,z⟩
 ·refine⟨its.toList,r,⟨o,I.Lw a o hk,hc,n,by simpa using hs⟩,?_⟩;have e:=r.length;simp only[J9]at e;omega
theorem Inv.PQ(I:Inv X pins σ H s)(h:rJ X.K H a xs)(h':rJ X.K H a ys):xs=ys:=by
 obtain⟨its,r,⟨o,n,e,_,_,d⟩,_⟩:=I.list h;obtain⟨its',r',⟨o',n',e',_,_,d'⟩,_⟩:=I.list h';rw[e]at e';cases e';rw[d]at d';injection d' with d1 _;have:its=its':=by simpa using congrArg o8 d1
 subst this;exact r.inj r'
theorem Inv.Xv(I:Inv X pins σ H s)(h:yV X.K H a xs)(h':yV X.K H a ys):xs=ys:=by
 obtain⟨its,r,⟨o,e,_,n,d⟩,_⟩:=I.tuple h;obtain⟨its',r',⟨o',e',_,n',d'⟩,_⟩:=I.tuple h';rw[e]at e';cases e';rw[d]at d';injection d' with d1 _;have:its=its':=by simpa using congrArg o8 d1
 subst this;exact r.inj r'
end
abbrev Cx.wish(X:Cx)(E:A6→A8→Prop):Cx:={X with xe:=E}
abbrev Cx.bw(X:Cx):Cx:=X.wish λ_ _=>False
theorem Cx.Ok.wish{X:Cx}(ok:X.Ok)(E:A6→A8→Prop):(X.wish E).Ok:=
 ⟨ok.mod,ok.kind,ok.glob,ok.blt,ok.above,ok.inj,ok.has,ok.cab,ok.hd,ok.frames,ok.stk,ok.exf,ok.bs,ok.bsz,ok.aBm,ok.aEb,ok.Qe,ok.frf⟩
theorem Cx.Ok.Bl{X:Cx}{E:A6→A8→Prop}(ok:(X.wish E).Ok):X.Ok:=
 ⟨ok.mod,ok.kind,ok.glob,ok.blt,ok.above,ok.inj,ok.has,ok.cab,ok.hd,ok.frames,ok.stk,ok.exf,ok.bs,ok.bsz,ok.aBm,ok.aEb,ok.Qe,ok.frf⟩
section
variable{X:Cx}{pins:List (A7×Obj)}{σ:St}{H:Hp}{s:A8}{E:A6→A8→Prop}
theorem Inv.wish(I:Inv X pins σ H s)(E:A6→A8→Prop):Inv (X.wish E) pins σ H s:=⟨I.ok.wish E,I.os,I.bare,I.base,I.loc,I.cell,I.free,I.Av,I.pin,I.hok,I.len⟩
theorem Inv.Bl(I:Inv (X.wish E) pins σ H s):Inv X pins σ H s:=⟨I.ok.Bl,I.os,I.bare,I.base,I.loc,I.cell,I.free,I.Av,I.pin,I.hok,I.len⟩
theorem SP.Bl{D:Ends}{f:Flow}{s':A8}(h:SP (X.wish E) pins D f s'):SP X pins D f s':=by
 cases f with
 | next=>obtain⟨σ',H',I,q⟩:=h;exact⟨σ',H',I.Bl,q⟩
 | brk=>obtain⟨σ',H',I,q⟩:=h;exact⟨σ',H',I.Bl,q⟩
 | cont=>obtain⟨σ',H',I,q⟩:=h;exact⟨σ',H',I.Bl,q⟩
 | ret u=>obtain⟨v,σ',H',I,r,q⟩:=h;exact⟨v,σ',H',I.Bl,r,q⟩
theorem bh.bw{st:List AH}{t:TS}(h:bh X.bw st t):bh X st t:=λpins s σ H D I hw=>
 AX (h pins s σ H D (I.wish _) hw) (λ_ _ q=>q.Bl) λ_ _ z=>False.elim z
end
section
variable{X:Cx}{st:AH}{rest:List AH}{t u:TS}{e:AD}{te:TE}{pos:Pos}
def aF1:TS:=λD σ H=>D.nx σ H
def aG1(t u:TS):TS:=λD σ H=>t {D with nx:=u D} σ H
theorem aEf:bh X [] aF1:=λ_ _ σ H _ I h=>EA ⟨σ,H,I,h⟩
theorem aBq(h1:PS X st t)(h2:bh X rest u):bh X (st::rest) (aG1 t u):=by
 intro pins s σ H D I h;refine IE (jG (h1 pins s σ H {D with nx:=u D} I h) λf s1 q=>?_);cases f with
 | next=>obtain⟨σ',H',I',q⟩:=q;exact h2 pins s1 σ' H' D I' q
 | ret v=>exact q
 | brk=>exact q
 | cont=>exact q
theorem aEg(h1:PS X st t):bh X [st] t:=by
 intro pins s σ H D I h;refine IE (jG (h1 pins s σ H D I h) λf s1 q=>?_);cases f with
 | next=>exact EA q
 | ret v=>exact q
 | brk=>exact q
 | cont=>exact q
theorem Inv.quiet{pins:List (A7×Obj)}{σ:St}{H:Hp}{s:A8}(I:Inv X pins σ H s):interactive X.env=NG:=by simp[interactive,I.ok.kind]
def oH(te:TE):TS:=λD σ H=>te σ H λ_ H1=>D.nx σ H1
theorem kE(he:PE X e te)(hs:Ct e none pos.line X.env=pure NG:=by rfl):PS X (.Expr e pos) (oH te):=by intro pins s σ H D I h;exact wpAny_Expr_any (jG (he pins s σ H _ I h) λv s1 ⟨x,H1,I1,r1,q1⟩=>⟨σ,H1,I1,q1⟩) I.quiet hs
def zy(te:TE):TS:=λD σ H=>te σ H D.rt
theorem Ru(he:PE X e te):PS X (.Return (NC e) pos) (zy te):=by intro pins s σ H D I h;exact wpAny_Return_some (jG (he pins s σ H _ I h) λv s1 ⟨x,H1,I1,r1,q1⟩=>⟨x,σ,H1,I1,r1,q1⟩)
def aG2(c:TT)(t u:TS):TS:=λD σ H=>c σ H λb H1=>if b=NF then t D σ H1 else u D σ H1
theorem aF2{c:AD}{a b:List AH}{tc:TT}(hc:PT X c tc)(ha:bh X a t)(hb:bh X b u):PS X (.If c a b pos) (aG2 tc t u):=by
 intro pins s σ H D I h;refine wpAny_If (jG (hc pins s σ H _ I h) λd s1 ⟨H1,I1,q1⟩=>?_);cases d with
 | true=>exact ha pins s1 σ H1 D I1 q1
 | false=>exact hb pins s1 σ H1 D I1 q1
def aBr:TS:=λ_ _ _=>False
theorem aBs:PS X st aBr:=λ_ _ _ _ _ _ h=>h.elim
end
abbrev TG:=V→St→Hp→(St→Hp→Prop)→Prop
abbrev TGs:=List V→St→Hp→(St→Hp→Prop)→Prop
def PG(X:Cx)(target:AD)(t:TG):Prop:=
 ∀(pins:List (A7×Obj))(s:A8)(σ:St)(H:Hp)(v:V)(u:A6)(Q:St→Hp→Prop),Inv X pins σ H s→RelV v u→t v σ H Q →
  AF (AG X.prog X.w) X.A (EJ target X.env u) (λ_ s'=>∃σ' H',Inv X pins σ' H' s'∧Q σ' H') X.xe s
def PGs(X:Cx)(ts:List AD)(t:TGs):Prop:=
 ∀(pins:List (A7×Obj))(s:A8)(σ:St)(H:Hp)(vs:List V)(us:List A6)(Q:St→Hp→Prop),Inv X pins σ H s→Vals vs us→t vs σ H Q →
  AF (AG X.prog X.w) X.A (assignInOrder ((EB ts X.env).map (·.2)) us) (λ_ s'=>∃σ' H',Inv X pins σ' H' s'∧Q σ' H') X.xe s
abbrev aG3:=V→V→V→Hp→(Hp→Prop)→Prop
def aIV(X:Cx)(t:aG3):Prop:=
 ∀(pins:List (A7×Obj))(s:A8)(σ:St)(H:Hp)(o i v:V)(ov iv u:A6)(Q:Hp→Prop),Inv X pins σ H s→RelV o ov→RelV i iv→RelV v u→t o i v H Q →
  AF (AG X.prog X.w) X.A (setItem ov iv u) (λ_ s'=>∃H',Inv X pins σ H' s'∧Q H') X.xe s
section
variable{X:Cx}{pos:Pos}
def lW(i:Nat):TG:=λv σ H Q=>Q (σ.set i (NC v)) H
theorem kI{i:Nat}{x:Str}(hN:X.N.Nodup)(hi:X.N[i]?=NC x)(hx:Loc X.env.scope x)(hf:X.fn x=NF∨X.env.scope.names.lookup x=NC .local:=by first | exact .inl U | exact .inr U | assumption):PG X (.Name x pos) (lW i):=by intro pins s σ H v u Q I r h;exact HZ (PN I hN hi hx r (λs' I'=>⟨_,H,I',h⟩) hf)
def aIW:TGs:=λvs σ H Q=>vs=[]∧Q σ H
def aF4(t:TG)(u:TGs):TGs:=λvs σ H Q=>∃v r,vs=v::r∧t v σ H λσ' H'=>u r σ' H' Q
theorem rm:PGs X [] aIW:=by intro pins s σ H vs us Q I r h;obtain⟨e,h⟩:=h;subst e;cases r;exact assignInOrder_nil ⟨σ,H,I,h⟩
theorem Jh{e:AD}{es:List AD}{t:TG}{u:TGs}(h1:PG X e t)(h2:PGs X es u)
  (hs:(EB (e::es) X.env).map (·.2)=EJ e X.env::(EB es X.env).map (·.2):=by rfl):PGs X (e::es) (aF4 t u):=by
 intro pins s σ H vs us Q I r h;obtain⟨v,vr,e1,h⟩:=h;subst e1;cases r with
 | cons r rr=>rw[hs];refine assignInOrder_cons (jG (h1 pins s σ H _ _ _ I r h) λ_ s1 ⟨σ1,H1,I1,q1⟩=>?_);exact h2 pins s1 σ1 H1 _ _ Q I1 rr q1
def aEh(K:aJ)(n:Nat)(t:TGs):TG:=λv σ H Q=>∃a xs,v=.ref a∧yV K H a xs∧xs.length=n∧t xs σ H Q
theorem aBt{es:List AD}{k:Nat}{t:TGs}{n:Nat}(hc:X.calm=NF)(h:PGs X es t)
  (hn:(EB es X.env).length=n:=by rfl) (hst:(EB es X.env).findIdx? (·.1)=none:=by rfl):PG X (.Tuple es k pos) (aEh X.K n t):=by
 intro pins s σ H v u Q I r hw;obtain⟨a,xs,e1,hq,hl,hw⟩:=hw;subst e1;cases r;obtain⟨its,rv,ht,hz⟩:=I.tuple hq;refine assign_Tuple_tuple (I.ok.hd hc) ht (by simp[hn,←hl,rv.length]) hst λh' hx=>?_;have I1:Inv X pins σ H {s with heap:=h'}:=I.kept (t':=s.toks) λb o e=>hx b o (E7 (AI e)) e;exact h pins _ σ H xs _ Q I1 (by simpa using rv) hw
def aAa(to ti:TE)(t:aG3):TG:=λv σ H Q=>to σ H λo H1=>ti σ H1 λi H2=>t o i v H2 λH3=>Q σ H3
theorem Rw{o i:AD}{to ti:TE}{t:aG3}(ho:PE X o to)(hi:PE X i ti)(hs:aIV X t)
  (ha:∀v,EJ (.Subscript o i pos) X.env v=(do
   let ov ←CF [v] (AO o X.env)
   let iv ←CF [v,ov] (AO i X.env)
   DL pos
   CF [v,ov,iv] (setItem ov iv v)
   release [v,ov,iv] []):=by intro _;rfl):PG X (.Subscript o i pos) (aAa to ti t):=by
 intro pins s σ H v u Q I r h;rw[ha];refine A9 (BQ (jG (ho pins s σ H _ I h) λov s1 ⟨x,H1,I1,r1,q1⟩=>?_));refine A9 (BQ (jG (hi pins s1 σ H1 _ I1 q1) λiv s2 ⟨y,H2,I2,r2,q2⟩=>?_));refine A9 (GU (A9 (BQ (jG (hs pins s2 σ H2 x y v ov iv u _ I2 r1 r2 r q2) λ_ s3 ⟨H3,I3,q3⟩=>?_))));exact wpAny_release ⟨σ,H3,I3,q3⟩
def Bm(te:TE)(g:TG):TS:=λD σ H=>te σ H λx H1=>g x σ H1 D.nx
theorem Gu{tg e:AD}{te:TE}{g:TG}(he:PE X e te)(hg:PG X tg g)(hs:swapsWithSole [tg] e pos.line X.env=pure NG:=by rfl)(hw:swappedStores [tg] e X.env=pure none:=by rfl)
  (h1:(EB [tg] X.env).map (·.2)=[EJ tg X.env]:=by rfl):PS X (.Assign [tg] e pos) (Bm te g):=by
 intro pins s σ H D I h;refine wpAny_Assign_stores (jG (he pins s σ H _ I h) λv s1 ⟨x,H1,I1,r1,q1⟩=>?_) hs hw;rw[h1];exact jG (hg pins s1 σ H1 x v _ I1 r1 q1) λ_ s2 q=>q
theorem bB{i:Nat}{x:Str}{e:AD}{te:TE}{pos':Pos}(hN:X.N.Nodup)(hi:X.N[i]?=NC x)(hx:Loc X.env.scope x)(he:PE X e te)(hs:Ct e (NC (.Name x pos')) pos.line X.env=pure NG:=by rfl)(hf:X.fn x=NF∨X.env.scope.names.lookup x=NC .local:=by first | exact .inl U | exact .inr U | assumption) :
  PS X (.Assign [.Name x pos'] e pos) (Bm te (lW i)):=by
 intro pins s σ H D I h;refine wpAny_Assign_Name (jG (he pins s σ H _ I h) λv s1 ⟨y,H1,I1,r1,q1⟩=>?_) hs;exact PN I1 hN hi hx r1 (λs2 I2=>⟨_,H1,I2,q1⟩) hf
end
section
variable{X:Cx}{pos:Pos}
def bx(c:TT)(tb:TS):TS:=λD σ H=>∃W:Nat→St→Hp→Prop,(∃m,W m σ H)∧∀m σ H,W m σ H →
 c σ H λb H1=>if b=NF then ∃N:St→Hp→Prop,(∀σ' H',N σ' H'→∃m',m'<m∧W m' σ' H')∧tb {D with nx:=N,ct:=N,bk:=D.nx} σ H1 else D.nx σ H1
theorem aBu{c:AD}{body:List AH}{tc:TT}{tb:TS}(hp:EK (AG X.prog X.w) X.A X.env X.xe)(hc:PT X c tc)(hb:bh X body tb):PS X (.While c body [] pos) (bx tc tb):=by
 intro pins s σ H D I h;obtain⟨W,⟨m0,w0⟩,turn⟩:=h;refine wpAny_While (codeAny_whileLoop (λn s'=>∃σ' H',Inv X pins σ' H' s'∧W n σ' H') ?_ m0 ⟨σ,H,I,w0⟩);rintro n s1 ⟨σ1,H1,I1,w1⟩;refine BO hp (jG (hc pins s1 σ1 H1 _ I1 (turn n σ1 H1 w1)) λb s2 ⟨H2,I2,q2⟩=>?_);cases b with
 | true=>
  obtain⟨N,hN,q2⟩:=q2;rw[if_pos rfl];refine BO hp (jG (hb pins s2 σ1 H2 _ I2 q2) λf s3 q3=>?_);cases f with
  | next=>obtain⟨σ3,H3,I3,n3⟩:=q3;obtain⟨m',hm,w3⟩:=hN σ3 H3 n3;exact⟨m',hm,σ3,H3,I3,w3⟩
  | cont=>obtain⟨σ3,H3,I3,n3⟩:=q3;obtain⟨m',hm,w3⟩:=hN σ3 H3 n3;exact⟨m',hm,σ3,H3,I3,w3⟩
  | brk=>exact q3
  | ret v=>exact q3
 | false=>rw[if_neg E8];exact EA ⟨σ1,H2,I2,q2⟩
end
structure It where
 go:Nat→Hp→Prop
 yld:Nat→Hp→V→Hp→Prop
 stop:Nat→Hp→Prop
def DG(X:Cx)(pins:List (A7×Obj))(H:Hp)(b:A7):Prop:=
 H b=none∧b≠X.env.locals∧b∉X.fs∧(b∈X.ex∨X.s₀.heap.objs.size≤b)∧(∀x c,X.env.cells.lookup x=NC c→c≠b)∧∀p∈X.pn++pins,p.1≠b
theorem Inv.aG4{X:Cx}{pins:List (A7×Obj)}{σ:St}{H H':Hp}{s:A8}{b:A7}(I:Inv X pins σ H s)(hb:s.heap.objs.size≤b)(hn:H' b=none):DG X pins H' b:=by
 refine⟨hn,O6 (E1 I.lt hb),I.aKs hb,.inr (G0 I.sz hb),λx c e z=>?_,λp hp z=>?_⟩
 ·obtain⟨v,q⟩:=I.cell x c e;exact absurd (E1 q.lt (by rw[z];exact hb)) (K6 _)
 ·exact absurd (E1 (AI (I.pin p hp).1) (by rw[z];exact hb)) (K6 _)
structure Turn(P:AJ)(w:AN)(K:aJ)(tg:AD)(J:It)(fp:List A7)(it:A7)(tn:Nat→AM→Prop):Prop where
 mem:it∈fp
 obj:∀i h,tn i h→∀b∈fp,∃o,h.get? b=NC o∧∀v,o.data≠.cell v
 keep:∀i h h',tn i h→(∀b∈fp,∀o,h.get? b=NC o→h'.get? b=NC o)→tn i h'
 item:∀(X:Cx),X.prog=P→X.w=w→X.K=K→X.calm=NF→∀(i:Nat)(pins:List (A7×Obj))(s:A8)(σ:St)(H:Hp)(E:A6→A8→Prop),Inv X pins σ H s→(∀b∈fp,DG X pins H b)→tn i s.heap→J.go i H →
  AF (AG P w) X.A (DC (.ref it)) (λr s1=>∃u,r=NC u ∧
   AF (AG P w) X.A (EC tg (.ref it) u) (λ_ s2=>∃x H',Inv X pins σ H' s2∧RelV x u∧J.yld i H x H'∧tn (i+1) s2.heap∧∀b∈fp,H' b=none) E s1) E s
 done:∀(X:Cx),X.prog=P→X.w=w→X.K=K→X.calm=NF→∀(i:Nat)(pins:List (A7×Obj))(s:A8)(σ:St)(H:Hp)(E:A6→A8→Prop),Inv X pins σ H s→(∀b∈fp,DG X pins H b)→tn i s.heap→J.stop i H →
  AF (AG P w) X.A (DC (.ref it)) (λr s1=>r=none∧Inv X pins σ H s1) E s
 self:∀(A:AL)(i:Nat)(s:A8)(Q:A6→A8→Prop)(E:A6→A8→Prop),tn i s.heap→Q (.ref it) s→AF (AG P w) A (HC (.ref it)) Q E s
abbrev TI:=St→Hp→(It→Hp→Prop)→Prop
def PIE(X:Cx)(pins:List (A7×Obj))(σ:St)(tg:AD)(R:It→Hp→Prop)(itv:A6)(s2:A8):Prop:=
 ∃(it:A7)(fp:List A7)(tn:Nat→AM→Prop)(J:It)(H':Hp),itv=.ref it∧Inv X pins σ H' s2∧Turn X.prog X.w X.K tg J fp it tn∧tn 0 s2.heap∧(∀b∈fp,DG X pins H' b)∧R J H'
def PI(X:Cx)(tg iter:AD)(wi:TI):Prop:=
 ∀(pins:List (A7×Obj))(s:A8)(σ:St)(H:Hp)(R:It→Hp→Prop),Inv X pins σ H s→wi σ H R →
  AF (AG X.prog X.w) X.A (AO iter X.env) (λv s1=>AF (AG X.prog X.w) X.A (HC v) (PIE X pins σ tg R) X.xe s1) X.xe s
theorem aBv{M:IJ}{A:AL}{E:A6→A8→Prop}{s:A8}{tg:AD}{it:A7}{u:A6}{o:Obj}{n:String}{vs:Array A6}{Q:Unit→A8→Prop}(ho:s.heap.get? it=NC o)(hc:o.cls=.type n)(hd:o.data=.fields vs)
    (hn:["enumerate", "zip", "dict_itemiterator", "dict_reverseitemiterator", "odict_iterator", "itertools.zip_longest", "itertools.pairwise"].contains n=NG) (hQ:Q () s):AF M A (EC tg (.ref it) u) Q E s:=by
  unfold EC;cases tg<;>first
    | exact AE hQ
    | (cases u<;>first
        | exact AE hQ
        | (refine A9 (IM ho ?_)
           rw[hc,hd];show AF M A (if(["enumerate", "zip", "dict_itemiterator", "dict_reverseitemiterator", "odict_iterator", "itertools.zip_longest", "itertools.pairwise"].contains n&&vs[0]?==NC (ED _))=NF then _ else _) Q E s;rw[if_neg (by intro h;rw[hn,Bool.false_and]at h;cases h)];exact AE hQ))
def Itl(K:aJ)(a:A7):It:=
 ⟨λi H=>∃xs x,rJ K H a xs∧xs[i]?=NC x,λi H x H'=>H'=H∧∀xs,rJ K H a xs→xs[i]?=NC x,λi H=>∃xs,rJ K H a xs∧xs.length≤i⟩
def Itt(K:aJ)(a:A7):It:=
 ⟨λi H=>∃xs x,yV K H a xs∧xs[i]?=NC x,λi H x H'=>H'=H∧∀xs,yV K H a xs→xs[i]?=NC x,λi H=>∃xs,yV K H a xs∧xs.length≤i⟩
def Itr(lo:Int)(n:Nat):It:=⟨λi _=>i<n,λi H x H'=>H'=H∧x=.int (lo+i),λi _=>n≤i⟩
theorem aAb{P:AJ}{w:AN}{K:aJ}{tg:AD}(a it:A7):Turn P w K tg (Itl K a) [it] it (λi h=>h.IsListIter it a i) where
 mem:=by simp
 obj:=λi h st b hb=>by
  have e:b=it:=by simpa using hb
  subst e;obtain⟨o,e,c,d⟩:=st;exact⟨o,e,λv z=>by rw[d]at z;cases z⟩
 keep:=λi h h' st k=>st.at λo e=>k it (by simp) o e
 item:=by intro X hP hw hK hc i pins s σ H E I hf st hg;subst hP hw hK;obtain⟨xs,x,hq,hx⟩:=hg;obtain⟨its,rv,p,hz⟩:=I.list hq;obtain⟨u,hu,ru⟩:=rv.get hx;obtain⟨f0,f1,f2,f3,f4,f5⟩:=hf it (by simp);refine wpAny_pyNext_list_item st p.isList (x:=u) (by simpa using hu) λh' st' sb=>?_;have I1:Inv X pins σ H {s with heap:=h'}:=I.turned (t':=s.toks) (λb o hb e=>(sb.2 b hb).trans e) f0 f1 f3 f4 f5;obtain⟨o,e,c,d⟩:=id st';exact⟨u,U,aBv (s:={s with heap:=h'}) e c d (by decide) ⟨x,H,I1,ru,⟨U,λys hy=>by rw[I.PQ hy hq];exact hx⟩,st',λb hb=>(hf b hb).1⟩⟩
 done:=by intro X hP hw hK hc i pins s σ H E I hf st hg;subst hP hw hK;obtain⟨xs,hq,hx⟩:=hg;obtain⟨its,rv,p,hz⟩:=I.list hq;obtain⟨f0,f1,f2,f3,f4,f5⟩:=hf it (by simp);have hl:=rv.length;exact wpAny_pyNext_list_end (I.ok.hd hc) st p.isList (by simp;omega) λh' eb=>⟨U,I.turned (t':=s.toks) (λb o hb e=>eb b o hb e) f0 f1 f3 f4 f5⟩
 self:=λ_ _ _ _ _ st h=>wpAny_pyIter_listiter st h
theorem cg{P:AJ}{w:AN}{K:aJ}{tg:AD}(a it:A7):Turn P w K tg (Itt K a) [it] it (λi h=>h.IsTupleIter it a i) where
 mem:=by simp
 obj:=λi h st b hb=>by
  have e:b=it:=by simpa using hb
  subst e;obtain⟨o,e,c,d⟩:=st;exact⟨o,e,λv z=>by rw[d]at z;cases z⟩
 keep:=λi h h' st k=>st.at λo e=>k it (by simp) o e
 item:=by intro X hP hw hK hc i pins s σ H E I hf st hg;subst hP hw hK;obtain⟨xs,x,hq,hx⟩:=hg;obtain⟨its,rv,p,hz⟩:=I.tuple hq;obtain⟨u,hu,ru⟩:=rv.get hx;obtain⟨f0,f1,f2,f3,f4,f5⟩:=hf it (by simp);refine wpAny_pyNext_tuple_item st (show s.heap.IsTuple a its.toArray from p) (x:=u) (by simpa using hu) λh' st' sb=>?_;have I1:Inv X pins σ H {s with heap:=h'}:=I.turned (t':=s.toks) (λb o hb e=>(sb.2 b hb).trans e) f0 f1 f3 f4 f5;obtain⟨o,e,c,d⟩:=id st';exact⟨u,U,aBv (s:={s with heap:=h'}) e c d (by decide) ⟨x,H,I1,ru,⟨U,λys hy=>by rw[I.Xv hy hq];exact hx⟩,st',λb hb=>(hf b hb).1⟩⟩
 done:=by intro X hP hw hK hc i pins s σ H E I hf st hg;subst hP hw hK;obtain⟨xs,hq,hx⟩:=hg;obtain⟨its,rv,p,hz⟩:=I.tuple hq;obtain⟨f0,f1,f2,f3,f4,f5⟩:=hf it (by simp);have hl:=rv.length;exact wpAny_pyNext_tuple_end (I.ok.hd hc) st (show s.heap.IsTuple a its.toArray from p) (by simp;omega) λh' eb=>⟨U,I.turned (t':=s.toks) (λb o hb e=>eb b o hb e) f0 f1 f3 f4 f5⟩
 self:=λ_ _ _ _ _ st h=>wpAny_pyIter_tupleiter st h
theorem cj{P:AJ}{w:AN}{K:aJ}{tg:AD}(it:A7)(lo:Int)(n:Nat):Turn P w K tg (Itr lo n) [it] it (λi h=>IsRangeIter h it (lo+(i:Nat)*1) ((n:Int)-(i:Nat)) 1) where
 mem:=by simp
 obj:=λi h st b hb=>by
  have e:b=it:=by simpa using hb
  subst e;exact⟨_,st,λv z=>by
   have z':Data.fields _=Data.cell v:=z;cases z'⟩
 keep:=λi h h' st k=>k it (by simp) _ st
 item:=by intro X hP hw hK hc i pins s σ H E I hf st hg;subst hP hw hK;obtain⟨f0,f1,f2,f3,f4,f5⟩:=hf it (by simp);have W:=Walks.range (prog:=X.prog) (w:=X.w) (I.ok.hd hc) it lo 1 n;refine W.item i s _ _ hg st λv h' tk hv st' kk=>?_;obtain⟨t,rfl⟩:=hv;have I1:Inv X pins σ H {s with heap:=h',toks:=tk}:=I.turned (λb o hb e=>kk b o (by simpa using hb) e) f0 f1 f3 f4 f5;refine⟨_,U,aBv (s:={s with heap:=h',toks:=tk}) (n := "range_iterator") st' U U (by decide) ⟨.int (lo+i),H,I1,⟨t,?_⟩,⟨U,U⟩,st',λb hb=>(hf b hb).1⟩⟩;rw[Int.mul_one]
 done:=by intro X hP hw hK hc i pins s σ H E I hf st hg;subst hP hw hK;obtain⟨f0,f1,f2,f3,f4,f5⟩:=hf it (by simp);exact wpAny_pyNext_range_end (I.ok.hd hc) st (by have:n≤i:=hg;omega) λh' eb=>⟨U,I.turned (t':=s.toks) (λb o hb e=>eb b o hb e) f0 f1 f3 f4 f5⟩
 self:=λ_ _ _ _ _ st h=>wpAny_pyIter_rangeiter st h
end L2
namespace L2
open PySem PySem.Spec PyProof.Rows
section
variable{X:Cx}{tg:AD}
def aF5(K:aJ)(tl:TE):TI:=λσ H R=>tl σ H λx H1=>∃a,x=.ref a∧(∃xs,rJ K H1 a xs)∧R (Itl K a) H1
def aIZ(K:aJ)(tl:TE):TI:=λσ H R=>tl σ H λx H1=>∃a,x=.ref a∧(∃xs,yV K H1 a xs)∧R (Itt K a) H1
theorem rn{l:AD}{tl:TE}(hl:PE X l tl):PI X tg l (aF5 X.K tl):=by
 intro pins s σ H R I h;refine jG (hl pins s σ H _ I h) λv s1 ⟨x,H1,I1,r1,q1⟩=>?_;obtain⟨a,e,⟨xs,hq⟩,q⟩:=q1;subst e;cases r1;obtain⟨its,rv,p,hz⟩:=I1.list hq;refine DO p.isList ?_;refine⟨s1.heap.objs.size,[s1.heap.objs.size],_,_,H1,U,I1.kept (t':=s1.toks) λb o e=>AA _ e,aAb a _,⟨_,AK _ U,U,U⟩,λb hb=>?_,q⟩;have e:b=s1.heap.objs.size:=by simpa using hb
 subst e;exact I1.aG4 (C5 _) (I1.hok.fresh (C5 _))
theorem aBw{l:AD}{tl:TE}(hl:PE X l tl):PI X tg l (aIZ X.K tl):=by
 intro pins s σ H R I h;refine jG (hl pins s σ H _ I h) λv s1 ⟨x,H1,I1,r1,q1⟩=>?_;obtain⟨a,e,⟨xs,hq⟩,q⟩:=q1;subst e;cases r1;obtain⟨its,rv,p,hz⟩:=I1.tuple hq;refine wpAny_pyIter_tuple (show s1.heap.IsTuple a its.toArray from p) ?_;refine⟨s1.heap.objs.size,[s1.heap.objs.size],_,_,H1,U,I1.kept (t':=s1.toks) λb o e=>AA _ e,cg a _,⟨_,AK _ U,U,U⟩,λb hb=>?_,q⟩;have e:b=s1.heap.objs.size:=by simpa using hb
 subst e;exact I1.aG4 (C5 _) (I1.hok.fresh (C5 _))
theorem PX{pins:List (A7×Obj)}{σ:St}{H:Hp}{s:A8}{R:It→Hp→Prop}{E:A6→A8→Prop}{lo hi:Int}{t u v:Tok}{tk:Nat}(I:Inv X pins σ H s)(h1:-(2 ^ 62)≤lo)(h2:lo<2 ^ 62)(h3:-(2 ^ 62)≤hi)(h4:hi<2 ^ 62)
  (q:R (Itr lo (hi-lo).toNat) H):AF (AG X.prog X.w) X.A (HC (.ref s.heap.objs.size)) (PIE X pins σ tg R) E {s with heap:=s.heap.push {cls:=.type "range", data:=.fields #[.int lo t,.int hi u,.int 1 v]},toks:=tk}:=by
 refine wpAny_pyIter_range (LP ..) (small_one h1 h2 h3 h4) ?_;have I1:Inv X pins σ H {s with heap:=s.heap.push {cls:=.type "range", data:=.fields #[.int lo t,.int hi u,.int 1 v]},toks:=tk}:=I.kept λb o e=>AA _ e;refine⟨(s.heap.push {cls:=.type "range", data:=.fields #[.int lo t,.int hi u,.int 1 v]}).objs.size,[(s.heap.push {cls:=.type "range", data:=.fields #[.int lo t,.int hi u,.int 1 v]}).objs.size],_,_,H,U,
  I1.kept (t':=tk) λb o e=>AA _ e,cj _ lo (hi-lo).toNat,?_,λb hb=>?_,q⟩
 ·have e1:lo+((0:Nat):Int)*1=lo:=by simp
  have e2:(((hi-lo).toNat:Nat):Int)-((0:Nat):Int)=LJ lo hi 1:=by rw[KI];split<;>omega
  show IsRangeIter _ _ (lo+((0:Nat):Int)*1) ((((hi-lo).toNat:Nat):Int)-((0:Nat):Int)) 1;rw[e1,e2];exact AK _ U
 ·have e:b=(s.heap.push {cls:=.type "range", data:=.fields #[.int lo t,.int hi u,.int 1 v]}).objs.size:=by simpa using hb
  subst e;exact I1.aG4 (C5 _) (I1.hok.fresh (C5 _))
def aBx(ta:TA):TI:=λσ H R=>ta σ H λvs H1=>∃j:Int,vs=[.int j]∧-(2 ^ 62)≤j∧j<2 ^ 62∧R (Itr 0 j.toNat) H1
def QB(ta:TA):TI:=λσ H R=>ta σ H λvs H1=>∃i j:Int,vs=[.int i,.int j]∧(-(2 ^ 62)≤i∧i<2 ^ 62∧-(2 ^ 62)≤j∧j<2 ^ 62)∧R (Itr i (j-i).toNat) H1
theorem Xw{a:AD}{ta:TA}{p pos:Pos}(hg:Gl X "range") (hm:X.mg "range" = none) (ha:PA X [a] ta) (hs:AB [a] X.env=[(NG,AO a X.env)]:=by rfl):PI X tg (.Call (.Name "range" p) [a] [] pos) (aBx ta):=by
 intro pins s σ H R I h;refine Call_ (yW I hg hm boot_range (L0 (jG (ha pos pins s σ H _ I h) λus s1 ⟨vs,H1,I1,r1,q1⟩=>?_) hs U));obtain⟨j,e,q1,q2,q⟩:=q1;subst e;cases r1 with
 | cons r rr=>cases rr;obtain⟨t,rfl⟩:=r;exact call_range_1 (PX I1 (by omega) (by omega) q1 q2 (by simpa using q))
theorem Lx{a b:AD}{ta:TA}{p pos:Pos}(hg:Gl X "range") (hm:X.mg "range" = none) (ha:PA X [a,b] ta) (hs:AB [a,b] X.env=[(NG,AO a X.env),(NG,AO b X.env)]:=by rfl) (hs2:AB [b] X.env=[(NG,AO b X.env)]:=by rfl) :
  PI X tg (.Call (.Name "range" p) [a,b] [] pos) (QB ta):=by
 intro pins s σ H R I h;refine Call_ (yW I hg hm boot_range (L0 (jG (ha pos pins s σ H _ I h) λus s1 ⟨vs,H1,I1,r1,q1⟩=>?_) (by rw[hs,hs2]) (by rw[hs2];rfl)));obtain⟨i,j,e,⟨q1,q2,q3,q4⟩,q⟩:=q1;subst e;cases r1 with
 | cons r rr=>
  cases rr with
  | cons r' rr=>cases rr;obtain⟨t,rfl⟩:=r;obtain⟨t',rfl⟩:=r';exact Kk (PX I1 q1 q2 q3 q4 q)
def cu(wi:TI)(g:TG)(tb:TS):TS:=λD σ H=>wi σ H λJ H1=>∃W:Nat→Nat→St→Hp→Prop,(∃m,W 0 m σ H1)∧∀i m σ H,W i m σ H →
 (J.stop i H∧D.nx σ H)∨(J.go i H∧∃N:St→Hp→Prop,(∀σ' H',N σ' H'→∃m',m'<m∧W (i+1) m' σ' H')∧∀x H',J.yld i H x H'→g x σ H' λσ2 H2=>tb {D with nx:=N,ct:=N,bk:=D.nx} σ2 H2)
def Rx(fp:List A7)(h:AM):List (A7×Obj):=fp.filterMap λb=>(h.get? b).map λo=>(b,o)
theorem yX{fp:List A7}{h:AM}{b:A7}{o:Obj}(hb:b∈fp)(e:h.get? b=NC o):(b,o)∈Rx fp h:=d8.mpr ⟨b,hb,by rw[e];rfl⟩
theorem aAc{fp:List A7}{h:AM}{p:A7×Obj}(hp:p∈Rx fp h):p.1∈fp∧h.get? p.1=NC p.2:=by
 obtain⟨b,hb,e⟩:=d8.mp hp;cases q:h.get? b with
 | none=>rw[q]at e;cases e
 | some o=>rw[q]at e;have e':(b,o)=p:=F5 e;subst e';exact⟨hb,q⟩
theorem Inv.pinned{pins:List (A7×Obj)}{σ:St}{H:Hp}{s:A8}{fp:List A7}(I:Inv X pins σ H s)(hf:∀b∈fp,DG X pins H b)(ho:∀b∈fp,∃o,s.heap.get? b=NC o∧∀v,o.data≠.cell v):Inv X (pins++Rx fp s.heap) σ H s:=
 I.qz λp hp=>(F2.mp hp).elim (λz=>I.pin p (J1 _ z)) λz=>by obtain⟨hb,e⟩:=aAc z;obtain⟨f0,f1,f2,_⟩:=hf p.1 hb;obtain⟨o,e',d⟩:=ho p.1 hb;rw[e]at e';cases e';exact⟨e,f0,f1,f2,d⟩
theorem Inv.Ji{pins pl:List (A7×Obj)}{σ:St}{H:Hp}{s:A8}(I:Inv X (pins++pl) σ H s):Inv X pins σ H s:=I.qz λp hp=>I.pin p (J1 _ (N2 _ hp))
theorem cz{iter:AD}{body:List AH}{wi:TI}{g:TG}{tb:TS}{pos:Pos}(hp:EK (AG X.prog X.w) X.A X.env X.xe)(hc:X.calm=NF)(hi:PI X tg iter wi)(hg:PG X tg g)(hb:bh X body tb)
  (hs:∀x,BC iter X.env x=pure x:=by intro _;rfl):PS X (.For tg iter body [] pos) (cu wi g tb):=by
 intro pins s σ H D I h;refine wpAny_For (jG (hi pins s σ H _ I h) λv s1 h1=>jG h1 λitv s2 h2=>?_) hs;obtain⟨it,fp,tn,J,H2,e,I2,T,st2,f2,W,⟨m0,w0⟩,turn⟩:=h2;subst e;have stat:∀{H':Hp},(∀b∈fp,H' b=none)→∀b∈fp,DG X pins H' b:=λhn b hb=>⟨hn b hb,(f2 b hb).2⟩
 refine codeAny_forLoop_any (λn s'=>∃i σ' H',Inv X pins σ' H' s'∧tn i s'.heap∧(∀b∈fp,H' b=none)∧W i n σ' H') ?_ m0 ⟨0,σ,H2,I2,st2,λb hb=>(f2 b hb).1,w0⟩;rintro n s3 ⟨i,σ3,H3,I3,st3,fr3,w3⟩;rcases turn i n σ3 H3 w3 with ⟨stop,qn⟩ | ⟨go,N,hN,step⟩
 ·refine BO hp (jG (T.done X U U U hc i pins s3 σ3 H3 X.xe I3 (stat fr3) st3 stop) λr s4 ⟨hr,I4⟩=>?_);subst hr;exact EA ⟨σ3,H3,I4,qn⟩
 ·refine BO hp (jG (T.item X U U U hc i pins s3 σ3 H3 X.xe I3 (stat fr3) st3 go) λr s4 ⟨u,hr,h4⟩=>?_);subst hr;refine BO hp (jG h4 λ_ s5 ⟨x,H5,I5,r5,y5,st5,fr5⟩=>?_);have I5':=I5.pinned (stat fr5) (T.obj _ _ st5);refine BO hp (jG (hg _ s5 σ3 H5 x u _ I5' r5 (step x H5 y5)) λ_ s6 ⟨σ6,H6,I6,q6⟩=>?_);refine BO hp (jG (hb _ s6 σ6 H6 _ I6 q6) λf s7 q7=>?_);have again:∀{σ7:St} {H7:Hp},Inv X (pins++Rx fp s5.heap) σ7 H7 s7→N σ7 H7→∃m,m<n∧∃i σ' H',Inv X pins σ' H' s7∧tn i s7.heap∧(∀b∈fp,H' b=none)∧W i m σ' H':=λ{σ7 H7} I7 n7=>by obtain⟨m',hm,w7⟩:=hN σ7 H7 n7;refine⟨m',hm,i+1,σ7,H7,I7.Ji,T.keep _ _ _ st5 λb hb o e=>(I7.pin (b,o) (J1 _ (J1 _ (yX hb e)))).1,λb hb=>?_,w7⟩;obtain⟨o,e,d⟩:=T.obj _ _ st5 b hb;exact(I7.pin (b,o) (J1 _ (J1 _ (yX hb e)))).2.1
  cases f with
  | next=>obtain⟨σ7,H7,I7,n7⟩:=q7;exact again I7 n7
  | cont=>obtain⟨σ7,H7,I7,n7⟩:=q7;exact again I7 n7
  | brk=>obtain⟨σ7,H7,I7,q7⟩:=q7;exact⟨σ7,H7,I7.Ji,q7⟩
  | ret v=>obtain⟨x7,σ7,H7,I7,r7,q7⟩:=q7;exact⟨x7,σ7,H7,I7.Ji,r7,q7⟩
end
end L2
namespace L2
open PySem PySem.Spec PyProof.Rows
abbrev R2:=V→V→Hp→VK→Prop
def xR(X:Cx)(f:A6→A6→Sem A6)(r:R2):Prop:=
 ∀(pins:List (A7×Obj))(s:A8)(σ:St)(H:Hp)(x y:V)(v u:A6)(Q:VK),Inv X pins σ H s→RelV x v→RelV y u→r x y H Q →
  AF (AG X.prog X.w) X.A (f v u) (EP X pins σ Q) X.xe s
def UnR(X:Cx)(f:A6→Sem A6)(r:V→Hp→VK→Prop):Prop:=
 ∀(pins:List (A7×Obj))(s:A8)(σ:St)(H:Hp)(x:V)(v:A6)(Q:VK),Inv X pins σ H s→RelV x v→r x H Q →
  AF (AG X.prog X.w) X.A (f v) (EP X pins σ Q) X.xe s
def oJ(X:Cx)(f:A6)(r:List V→Hp→VK→Prop):Prop:=
 ∀(pins:List (A7×Obj))(s:A8)(σ:St)(H:Hp)(xs:List V)(us:List A6)(Q:VK),Inv X pins σ H s→Vals xs us→r xs H Q →
  AF (AG X.prog X.w) X.A (call f us) (EP X pins σ Q) X.xe s
def Xx(r:R2)(ta tb:TE):TE:=λσ H Q=>ta σ H λx H1=>tb σ H1 λy H2=>r x y H2 Q
def tUn(r:V→Hp→VK→Prop)(ta:TE):TE:=λσ H Q=>ta σ H λx H1=>r x H1 Q
def rI(C:Int→Int→Prop)(g:Int→Int→V):R2:=λx y H Q=>∃i j,x=.int i∧y=.int j∧C i j∧Q (g i j) H
def rI0(g:Int→Int→V):R2:=λx y H Q=>∃i j,x=.int i∧y=.int j∧Q (g i j) H
def rU(g:Int→V):V→Hp→VK→Prop:=λx H Q=>∃i,x=.int i∧Q (g i) H
section
variable{X:Cx}{a b c:AD}{ta tb tc:TE}{pos:Pos}
theorem aG5(ha:PE X a ta)(hb:PE X b tb){pins:List (A7×Obj)}{s:A8}{σ:St}{H:Hp}{R:V→V→Hp→Prop}(I:Inv X pins σ H s)
  (h:ta σ H λx H1=>tb σ H1 λy H2=>R x y H2) {Q:A6→A8→Prop} {f:A6→A6→Sem A6}
  (hf:∀v u s2 x y H2,Inv X pins σ H2 s2→RelV x v→RelV y u→R x y H2→AF (AG X.prog X.w) X.A (f v u) Q X.xe s2) :
  AF (AG X.prog X.w) X.A (AO a X.env) (λv s₁=>AF (AG X.prog X.w) X.A (AO b X.env) (λu s₂=>AF (AG X.prog X.w) X.A (f v u) Q X.xe s₂) X.xe s₁) X.xe s:=by
 refine jG (ha pins s σ H _ I h) λv s1 ⟨x,H1,I1,r1,q1⟩=>?_;refine jG (hb pins s1 σ H1 _ I1 q1) λu s2 ⟨y,H2,I2,r2,q2⟩=>?_;exact hf v u s2 x y H2 I2 r1 r2 q2
theorem aI1{op:Operator}{r:R2}(ho:xR X (BS op) r)(ha:PE X a ta)(hb:PE X b tb):PE X (.BinOp a op b pos) (Xx r ta tb):=by intro pins s σ H Q I h;exact wpAny_BinOp (aG5 ha hb I h λv u s2 x y H2 I2 rx ry q=>ho pins s2 σ H2 x y v u Q I2 rx ry q)
theorem aI2{op:UnaryOp}{r:V→Hp→VK→Prop}(ho:UnR X (unaryOp op) r)(ha:PE X a ta):PE X (.UnaryOp op a pos) (tUn r ta):=by intro pins s σ H Q I h;exact UnaryOp_ (jG (ha pins s σ H _ I h) λv s1 ⟨x,H1,I1,r1,q1⟩=>ho pins s1 σ H1 x v Q I1 r1 q1)
theorem opI{f:A6→A6→Sem A6}{C:Int→Int→Prop}{g:Int→Int→Int}
  (rule:∀(i j:Int)(t u:Tok)(s:A8)(Q:A6→A8→Prop)(E:A6→A8→Prop),C i j→Q (.int (g i j) s.toks) {s with toks:=s.toks+1}→AF (AG X.prog X.w) X.A (f (.int i t) (.int j u)) Q E s) :
  xR X f (rI C λi j=>.int (g i j)):=by
 intro pins s σ H x y v u Q I rx ry h;obtain⟨i,j,rfl,rfl,hc,q⟩:=h;obtain⟨t,rfl⟩:=rx;obtain⟨t',rfl⟩:=ry;exact rule i j t t' s _ _ hc ⟨.int (g i j),H,I.tok _,⟨_,U⟩,q⟩
theorem aI3{f:A6→A6→Sem A6}{g:Int→Int→Int}
  (rule:∀(i j:Int)(t u:Tok)(s:A8)(Q:A6→A8→Prop)(E:A6→A8→Prop),Q (.int (g i j) s.toks) {s with toks:=s.toks+1}→AF (AG X.prog X.w) X.A (f (.int i t) (.int j u)) Q E s) :
  xR X f (rI0 λi j=>.int (g i j)):=by
 intro pins s σ H x y v u Q I rx ry h;obtain⟨i,j,rfl,rfl,q⟩:=h;obtain⟨t,rfl⟩:=rx;obtain⟨t',rfl⟩:=ry;exact rule i j t t' s _ _ ⟨.int (g i j),H,I.tok _,⟨_,U⟩,q⟩
theorem aG6{f:A6→A6→Sem A6}{g:Int→Int→Bool}
  (rule:∀(i j:Int)(t u:Tok)(s:A8)(Q:A6→A8→Prop)(E:A6→A8→Prop),Q (.bool (g i j)) s→AF (AG X.prog X.w) X.A (f (.int i t) (.int j u)) Q E s) :
  xR X f (rI0 λi j=>.bl (g i j)):=by
 intro pins s σ H x y v u Q I rx ry h;obtain⟨i,j,rfl,rfl,q⟩:=h;obtain⟨t,rfl⟩:=rx;obtain⟨t',rfl⟩:=ry;exact rule i j t t' s _ _ ⟨.bl (g i j),H,I,U,q⟩
def aAd(i j:Int):Prop:=0<j∧j<1073741824
def aAe(i j:Int):Prop:=0≤j∧j≤1000000∧i.natAbs<2 ^ 64
def Wl(i j:Int):Prop:=(-(2 ^ 64)<i∧i<2 ^ 64)∨(-(2 ^ 64)<j∧j<2 ^ 64)
theorem Wl.ok{i j:Int}(h:Wl i j):IntMulOk i j:=by
 rcases h with ⟨h1,h2⟩ | ⟨h1,h2⟩
 ·exact .of_left (KL h1 h2)
 ·exact .of_right (KL h1 h2)
theorem aG7:xR X (BS .Add) (rI0 λi j=>.int (i+j)):=aI3 λ_ _ _ _ _ _ _ q=>add_int q
theorem aG8:xR X (BS .Sub) (rI0 λi j=>.int (i-j)):=aI3 λ_ _ _ _ _ _ _ q=>sub_int q
theorem aG9:xR X (BS .Mult) (rI Wl λi j=>.int (i*j)):=opI λ_ _ _ _ _ _ _ hc q=>mul_int q hc.ok
theorem aEi:xR X (BS .FloorDiv) (rI aAd λi j=>.int (i/j)):=opI λi j _ _ _ _ _ hc q=>by have h1:(0:Int)<j:=hc.1;have h2:j<1073741824:=hc.2;exact floordiv_int (by omega) (by rw[Int.fdiv_eq_ediv_of_nonneg i (by omega)];exact q) (.inl (PyProof.noPylong_small (by omega)))
theorem aHa:xR X (BS .Mod) (rI (λ_ j=>0<j) λi j=>.int (i%j)):=opI λi j _ _ _ _ _ hc q=>by have h1:(0:Int)<j:=hc;exact mod_int' (by omega) (by rw[Int.fmod_eq_emod_of_nonneg i (by omega)];exact q)
theorem aHb:xR X (BS .Pow) (rI aAe λi j=>.int (i ^ j.toNat)):=opI λ_ _ _ _ _ _ _ hc q=>pow_int_small hc.1 hc.2.1 hc.2.2 q
theorem unI{f:A6→Sem A6}{g:Int→Int}
  (rule:∀(i:Int)(t:Tok)(s:A8)(Q:A6→A8→Prop)(E:A6→A8→Prop),Q (.int (g i) s.toks) {s with toks:=s.toks+1}→AF (AG X.prog X.w) X.A (f (.int i t)) Q E s) :
  UnR X f (rU λi=>.int (g i)):=by
 intro pins s σ H x v Q I rx h;obtain⟨i,rfl,q⟩:=h;obtain⟨t,rfl⟩:=rx;exact rule i t s _ _ ⟨.int (g i),H,I.tok _,⟨_,U⟩,q⟩
theorem aHc:UnR X (unaryOp .USub) (rU λi=>.int (-i)):=unI λ_ _ _ _ _ q=>neg_int q
end
def aEj:V→V→Bool
  | .non,.non=>NF | .non,.int _=>NF | .int _,.non=>NF | .non,.bl _=>NF | .bl _,.non=>NF | .non,.str _=>NF | .str _,.non=>NF
  | .int _,.int _=>NF | .bl _,.bl _=>NF | .str _,.str _=>NF | .byt _,.byt _=>NF
  | .int _,.str _=>NF | .str _,.int _=>NF | .bl _,.str _=>NF | .str _,.bl _=>NF
  | _,_=>NG
def rEq:R2:=λx y H Q=>aEj x y=NF∧Q (.bl (decide (x=y))) H
def rNe:R2:=λx y H Q=>aEj x y=NF∧Q (.bl (!decide (x=y))) H
theorem sr{i j:Int}:decide (V.int i=V.int j)=(i==j):=by rw[L5];simp
theorem aBy{i j:Bool}:decide (V.bl i=V.bl j)=(i==j):=by rw[L5];simp
theorem su{i j:Str}:decide (V.str i=V.str j)=(i==j):=by rw[L5];simp
theorem sy{i j:Array UInt8}:decide (V.byt i=V.byt j)=(i.toList==j.toList):=by rw[L5];cases i;cases j;simp
section
variable{X:Cx}{a b c:AD}{ta tb tc:TE}{pos:Pos}
theorem eN{pins:List (A7×Obj)}{σ:St}{H:Hp}{s:A8}{Q:VK}{k k':Bool}(I:Inv X pins σ H s)(q:Q (.bl k) H)(e:k=k'):EP X pins σ Q (.bool k') s:=by subst e;exact⟨.bl k,H,I,U,q⟩
theorem aI4:xR X (AS .Eq) rEq:=by
 intro pins s σ H x y v u Q I rx ry h;obtain⟨hs,q⟩:=h;cases x with
 | non=>
  cases rx;cases y with
  | non=>cases ry;exact PySem.EqNone.eq_none_none (eN I q (by simp))
  | bl j=>cases ry;exact PySem.EqNone.eq_none_bool (eN I q (by simp))
  | int j=>obtain⟨t',rfl⟩:=ry;exact PySem.EqNone.eq_none_int (eN I q (by simp))
  | str j=>obtain⟨t',rfl⟩:=ry;exact PySem.EqNone.eq_none_str (eN I q (by simp))
  | _=>exact absurd (show NG=NF from hs) E8
 | bl i=>
  cases rx;cases y with
  | non=>cases ry;exact PySem.EqNone.eq_bool_none (eN I q (by simp))
  | bl j=>cases ry;exact eq_bool (eN I q aBy)
  | str j=>obtain⟨t',rfl⟩:=ry;exact PySem.EqMixed.eq_bool_str (eN I q (by simp))
  | _=>exact absurd (show NG=NF from hs) E8
 | int i=>
  obtain⟨t,rfl⟩:=rx;cases y with
  | non=>cases ry;exact PySem.EqNone.eq_int_none (eN I q (by simp))
  | int j=>obtain⟨t',rfl⟩:=ry;exact eq_int (eN I q sr)
  | str j=>obtain⟨t',rfl⟩:=ry;exact PySem.EqMixed.eq_int_str (eN I q (by simp))
  | _=>exact absurd (show NG=NF from hs) E8
 | str i=>
  obtain⟨t,rfl⟩:=rx;cases y with
  | non=>cases ry;exact PySem.EqNone.eq_str_none (eN I q (by simp))
  | bl j=>cases ry;exact PySem.EqMixed.eq_str_bool (eN I q (by simp))
  | int j=>obtain⟨t',rfl⟩:=ry;exact PySem.EqMixed.eq_str_int (eN I q (by simp))
  | str j=>obtain⟨t',rfl⟩:=ry;exact eq_str (eN I q su)
  | _=>exact absurd (show NG=NF from hs) E8
 | byt i=>
  obtain⟨t,rfl⟩:=rx;cases y with
  | byt j=>obtain⟨t',rfl⟩:=ry;exact PySem.W.eq_bytes (eN I q sy)
  | _=>exact absurd (show NG=NF from hs) E8
 | _=>cases y<;>exact absurd (show NG=NF from hs) E8
theorem aI5:xR X (AS .NotEq) rNe:=by
 intro pins s σ H x y v u Q I rx ry h;obtain⟨hs,q⟩:=h;cases x with
 | non=>
  cases rx;cases y with
  | non=>cases ry;exact PySem.EqNone.ne_none_none (eN I q (by simp))
  | bl j=>cases ry;exact PySem.EqNone.ne_none_bool (eN I q (by simp))
  | int j=>obtain⟨t',rfl⟩:=ry;exact PySem.EqNone.ne_none_int (eN I q (by simp))
  | str j=>obtain⟨t',rfl⟩:=ry;exact PySem.EqNone.ne_none_str (eN I q (by simp))
  | _=>exact absurd (show NG=NF from hs) E8
 | bl i=>
  cases rx;cases y with
  | non=>cases ry;exact PySem.EqNone.ne_bool_none (eN I q (by simp))
  | bl j=>cases ry;exact ne_bool (eN I q (congrArg not aBy))
  | str j=>obtain⟨t',rfl⟩:=ry;exact PySem.EqMixed.ne_bool_str (eN I q (by simp))
  | _=>exact absurd (show NG=NF from hs) E8
 | int i=>
  obtain⟨t,rfl⟩:=rx;cases y with
  | non=>cases ry;exact PySem.EqNone.ne_int_none (eN I q (by simp))
  | int j=>obtain⟨t',rfl⟩:=ry;exact ne_int (eN I q (congrArg not sr))
  | str j=>obtain⟨t',rfl⟩:=ry;exact PySem.EqMixed.ne_int_str (eN I q (by simp))
  | _=>exact absurd (show NG=NF from hs) E8
 | str i=>
  obtain⟨t,rfl⟩:=rx;cases y with
  | non=>cases ry;exact PySem.EqNone.ne_str_none (eN I q (by simp))
  | bl j=>cases ry;exact PySem.EqMixed.ne_str_bool (eN I q (by simp))
  | int j=>obtain⟨t',rfl⟩:=ry;exact PySem.EqMixed.ne_str_int (eN I q (by simp))
  | str j=>obtain⟨t',rfl⟩:=ry;exact ne_str (eN I q (congrArg not su))
  | _=>exact absurd (show NG=NF from hs) E8
 | byt i=>
  obtain⟨t,rfl⟩:=rx;cases y with
  | byt j=>obtain⟨t',rfl⟩:=ry;exact PySem.W.ne_bytes (eN I q (congrArg not sy))
  | _=>exact absurd (show NG=NF from hs) E8
 | _=>cases y<;>exact absurd (show NG=NF from hs) E8
theorem Xy:xR X (AS .Lt) (rI0 λi j=>.bl (decide (i<j))):=aG6 λ_ _ _ _ _ _ _ q=>lt_int q
theorem aBz:xR X (AS .LtE) (rI0 λi j=>.bl (decide (i≤j))):=aG6 λ_ _ _ _ _ _ _ q=>le_int q
theorem aF6:xR X (AS .Gt) (rI0 λi j=>.bl (decide (j<i))):=aG6 λ_ _ _ _ _ _ _ q=>gt_int q
theorem dg:xR X (AS .Is) (λx y H Q=>y=.non∧Q (.bl (decide (x=.non))) H):=by
 intro pins s σ H x y v u Q I rx ry h;obtain⟨rfl,q⟩:=h;cases ry;refine is_none_gen (eN I q ?_);cases x<;>first
  | (cases rx;rfl)
  | (obtain⟨t,rfl⟩:=rx;rfl)
theorem DK:xR X (AS .IsNot) (λx y H Q=>y=.non∧Q (.bl (!decide (x=.non))) H):=by
 intro pins s σ H x y v u Q I rx ry h;obtain⟨rfl,q⟩:=h;cases ry;refine isnot_none_gen (eN I q ?_);cases x<;>first
  | (cases rx;rfl)
  | (obtain⟨t,rfl⟩:=rx;rfl)
theorem xR.or{f:A6→A6→Sem A6}{r r':R2}(h:xR X f r)(h':xR X f r'):xR X f (λx y H Q=>r x y H Q∨r' x y H Q):=by
 intro pins s σ H x y v u Q I rx ry q;rcases q with q | q
 ·exact h pins s σ H x y v u Q I rx ry q
 ·exact h' pins s σ H x y v u Q I rx ry q
theorem cV(b:AD){op:Dx}(h:op≠.In:=by decide)(h2:op≠.NotIn:=by decide):behindInMarks op b=NG:=by
 have e1:(op==CmpOp.In)=NG:=by cases op<;>first | rfl | exact absurd U h
 have e2:(op==CmpOp.NotIn)=NG:=by cases op<;>first | rfl | exact absurd U h2
 cases b<;>simp[behindInMarks,e1,e2]
theorem aEk{op:Dx}{r:R2}(ho:xR X (AS op) r)(ha:PE X a ta)(hb:PE X b tb)(hm:behindInMarks op b=NG):PE X (.Compare a [op] [b] pos) (Xx r ta tb):=by intro pins s σ H Q I h;exact Iy (aG5 ha hb I h λv u s2 x y H2 I2 rx ry q=>ho pins s2 σ H2 x y v u Q I2 rx ry q) hm
def Xz(t:TE):TT:=λσ H Q=>t σ H λx H'=>∃k,x=.bl k∧Q k H'
theorem tu{op:Dx}{r:R2}(ho:xR X (AS op) r)(ha:PE X a ta)(hb:PE X b tb)(hm:behindInMarks op b=NG):PT X (.Compare a [op] [b] pos) (Xz (Xx r ta tb)):=by
 intro pins s σ H Q I h;refine Fm (jG (ha pins s σ H _ I h) λv s1 ⟨x,H1,I1,r1,q1⟩=>jG (hb pins s1 σ H1 _ I1 q1) λu s2 ⟨y,H2,I2,r2,q2⟩=>
  jG (ho pins s2 σ H2 x y v u _ I2 r1 r2 q2) λc s3 ⟨z,H3,I3,r3,k,e,q3⟩=>?_) hm
 subst e;cases r3;exact Au ⟨H3,I3,q3⟩
def aBA(r r':R2)(ta tb tc:TE):TE:=λσ H Q=>ta σ H λx H1=>tb σ H1 λy H2=>r x y H2 λz H3=>∃k,z=.bl k ∧
 (if k=NF then tc σ H3 λw' H4=>r' y w' H4 Q else Q (.bl NG) H3)
theorem aBB{op op':Dx}{r r':R2}(ho:xR X (AS op) r)(ho':xR X (AS op') r')(ha:PE X a ta)(hb:PE X b tb)(hc:PE X c tc)
  (hm:lastMarks [op,op'] [b,c]=NG:=by with_unfolding_all rfl):PT X (.Compare a [op,op'] [b,c] pos) (Xz (aBA r r' ta tb tc)):=by
 intro pins s σ H Q I h;refine isTrue_chain (jG (ha pins s σ H _ I h) λv s1 ⟨x,H1,I1,r1,q1⟩=>test_link (jG (hb pins s1 σ H1 _ I1 q1) λu s2 ⟨y,H2,I2,r2,q2⟩=>
  jG (ho pins s2 σ H2 x y v u _ I2 r1 r2 q2) λd s3 ⟨z,H3,I3,r3,k,e,q3⟩=>?_)) hm
 subst e;cases r3;refine Au ?_;cases k with
 | false=>
  obtain⟨k',e',q'⟩:=q3;cases e';exact ite_ff ⟨H3,I3,q'⟩
 | true=>refine ite_tt (test_last (jG (hc pins s3 σ H3 _ I3 q3) λw' s4 ⟨z',H4,I4,r4,q4⟩=>jG (ho' pins s4 σ H4 y z' u w' _ I4 r2 r4 q4) λd' s5 ⟨z2,H5,I5,r5,k2,e2,q5⟩=>?_));subst e2;cases r5;exact Au ⟨H5,I5,q5⟩
theorem Ry:(sizeLine:Nat)<2 ^ 63:=by rw[EG];decide
theorem vals1{x:V}{us:List A6}(r:Vals [x] us):∃u,us=[u]∧RelV x u:=by
 cases r with
 | cons r1 r2=>cases r2;exact⟨_,U,r1⟩
theorem vals2{x y:V}{us:List A6}(r:Vals [x,y] us):∃u w',us=[u,w']∧RelV x u∧RelV y w':=by
 cases r with
 | cons r1 r2=>
  cases r2 with
  | cons r3 r4=>cases r4;exact⟨_,_,U,r1,r3⟩
theorem aAf(hc:X.calm=NF):oJ X (.builtin "max") (λxs H Q=>∃i j,xs=[.int i,.int j]∧Q (.int (if j > i then j else i)) H):=by
 intro pins s σ H xs us Q I r h;obtain⟨i,j,rfl,q⟩:=h;obtain⟨u,w',rfl,⟨t,rfl⟩,⟨t',rfl⟩⟩:=vals2 r;refine max_two_ints (I.ok.hd hc) λh' tk k=>⟨_,H,I.kept k,?_,q⟩
 by_cases hj:j > i
 ·rw[if_pos hj,if_pos hj];exact⟨_,U⟩
 ·rw[if_neg hj,if_neg hj];exact⟨_,U⟩
end
end L2
namespace L2
open PySem PySem.Spec PyProof.Rows
structure dh(h:AM)(x dx C:A7)(mA:Str→Option A6):Prop where
 obj:h.get? x=NC (N0 C dx)
 ns:h.Ns1 dx mA
 ne:dx≠x
theorem aAg{h:AM}{dx:A7}{mA:Str→Option A6}(n:h.Ns1 dx mA):∃od,h.get? dx=NC od∧∀name,V6 name od=NC (mA name):=by
 obtain⟨o,es,ep,ho,hd,hk,_,hm⟩:=n;refine⟨o,ho,λname=>?_⟩;have e:=hm name;unfold nsFind findBy at e;rw[←Array.find?_toList]at e;unfold V6;rw[hd];dsimp only;split
 ·rename_i y q;rw[q]at e;exact congrArg NC e
 ·rename_i q;rw[q]at e;have a:es.toList.any (·.refKey)=NG:=by rw[List.any_eq_false];intro y hy;obtain⟨z,t,hkey⟩:=hk y (Array.mem_toList_iff.mp hy);simp[MU,hkey]
  have a':¬es.toList.any (·.refKey)=NF:=by rw[a];exact E8
  rw[if_neg a'];exact congrArg NC e
theorem dh.look{h:AM}{x dx C:A7}{mA:Str→Option A6}(I:dh h x dx C mA):∃od,PySem.W.InstAt h x (N0 C dx) C (NC od)∧∀name,V6 name od=NC (mA name):=
 let ⟨od,ho,hl⟩:=aAg I.ns
 ⟨od,⟨I.obj,U,U,ho⟩,hl⟩
section
variable{prog:AJ}{w:AN}{A:AL}{E:A6→A8→Prop}{s:A8}{K:aJ}{x dx C f:A7}{mA:Str→Option A6}{name:Str}{v:A6}
theorem get_map{expr:Bool}{Q:A6→A8→Prop}(X:K.In s.heap)(I:dh s.heap x dx C mA)(hg:Q4 K C name=NF)(hh:R9 K C=NF)
  (ha:G2 K (.ref C) name=NC none) (hv:mA name=NC v) (hv':j0 v=NF) (h:Q v {s with toks:=s.toks+1}) :
  AF (AG prog w) A (getAttr (.ref x) name expr) Q E s:=by
 obtain⟨od,J,hl⟩:=I.look;exact PySem.W.get_value X J (V2 hg).1 (PySem.W.findObj_own hh ha U (by rw[hl,hv])) hv' h
theorem aBC{pl:Sem Bool}{Q:A6×List A6→A8→Prop}(X:K.In s.heap)(I:dh s.heap x dx C mA)(hg:Q4 K C name=NF)
  (hf:G2 K (.ref C) name=NC (NC (.ref f))) (ht:O7 K (.ref f)=NF) (hv:mA name=none) (h:Q (.ref f,[.ref x]) s) :
  AF (AG prog w) A (DI (.ref x) name pl) Q E s:=by
 obtain⟨od,J,hl⟩:=I.look;exact PySem.W.method_fn X J (V2 hg).1 (V2 hg).2 hf (beq_iff_eq.mp ht) (by show (V6 name od).map (·.isSome)=NC NG;rw[hl,hv];rfl) h
theorem aEm{ns:List Str}{Q:Unit→A8→Prop}(X:K.In s.heap)(I:dh s.heap x dx C mA)
  (hs:G2 K (.ref C) "__setattr__" = NC (NC (.builtin "object.__setattr__"))) (hp:W7 K C=NF) (ht:Y7 K C name=NC none) (hh:R9 K C=NF)
  (hw:d7 mA ns) (hsz:ns.length≤sizeLine)
  (h:∀h',dh h' x dx C (λy=>if y=name then NC v else mA y)→BG dx s.heap h'→Q () {s with heap:=h',toks:=s.toks+2}) :
  AF (AG prog w) A (setAttr (.ref x) name v) Q E s:=by
 obtain⟨od,J,hl⟩:=I.look;refine PySem.W.set_plain X J hs (PySem.W.osa_open (s:={s with toks:=s.toks+1}) (r:=none) X J hp ht λb=>?_);obtain⟨cd,hc,hd'⟩:=PySem.W.any_some hh;have hx:s.heap.get? x=NC ⟨.ref C,NC dx,.plain,#[]⟩:=I.obj;refine A9 (AE (A9 (A9 (wpAny_loadPart hx (A9 (PySem.W.Looks.here (s:={s with toks:=s.toks+1}) (PySem.W.looks_clsIn X hc) ?_))))));rw[hd'];refine AE (a:=NC dx) (A9 (AE (A9 ?_)));refine wpAny_nsSet1 (s:={s with toks:=s.toks+1}) I.ns λh' hn2 hs2=>?_;obtain⟨oD,esD,epD,hoD,hdD,hcD⟩:=hn2.count (PySem.Within.cons name v hw);refine A9 (wpAny_lookBehind hoD (by rw[hdD];exact pastItsLine_dict (G0 hcD (by rw[F0];omega))) ?_);exact AE (h _ ⟨(hs2.2 _ (Ne.symm I.ne)).trans I.obj,hn2,I.ne⟩ hs2)
theorem aBD{R:FB→A8→Prop}{vs:List A6}{kw:List (Str×A6)}(X:K.In s.heap)(hm:U1 K C=NF)
  (hi:G2 K (.ref C) "__init__" = NC (NC (.ref f))) (hf:l5 K (.ref f)=NC (.type "function"))
  (h:CH (AG prog w) (A.under (.builtin "type.__call__" ⟨.ref C::vs,kw⟩)) (.call (.ref f) ⟨.ref (s.heap.objs.size+1)::vs,kw⟩) (PySem.W.InitBack (s.heap.objs.size+1) R)
   {s with heap:=(s.heap.push L4).push (N0 C s.heap.objs.size)}) :
  CH (AG prog w) A (.call (.ref C) ⟨vs,kw⟩) R s:=by
 obtain⟨hh,g,d,t,os⟩:=s;exact PySem.W.make_core (PySem.W.makes_of X hm) (PySem.W.looks_findIn X hi) (λself=>PySem.W.bind_fn X self hf) (.inl U) h
end
def Be(f:Str)(v:V):List (Str×V)→List (Str×V)
 | []=>[(f,v)]
 | (g,x)::r=>if g=f then(g,v)::r else(g,x)::Be f v r
theorem Oo(f g:Str)(v:V):∀fs:List (Str×V),(Be f v fs).lookup g=if g=f then NC v else fs.lookup g
 | []=>by
  show Q7 g [(f,v)]=_;by_cases h:g=f
  ·have hb:(g==f)=NF:=beq_iff_eq.mpr h;simp only[Q7,hb,if_pos h]
  ·have hb:(g==f)=NG:=beq_eq_false_iff_ne.mpr h;simp only[Q7,hb,if_neg h]
 | (k,x)::r=>by
  have ih:=Oo f g v r;rw[show Be f v ((k,x)::r)=(if k=f then(k,v)::r else(k,x)::Be f v r)from rfl];by_cases hk:k=f
  ·rw[if_pos hk];by_cases h:g=k
   ·have hb:(g==k)=NF:=beq_iff_eq.mpr h;simp only[Q7,hb,if_pos (h.trans hk)]
   ·have hb:(g==k)=NG:=beq_eq_false_iff_ne.mpr h;simp only[Q7,hb,if_neg (λe:g=f=>h (e.trans hk.symm))]
  ·rw[if_neg hk];by_cases h:g=k
   ·have hb:(g==k)=NF:=beq_iff_eq.mpr h;simp only[Q7,hb,if_neg (λe:g=f=>hk (h.symm.trans e))]
   ·have hb:(g==k)=NG:=beq_eq_false_iff_ne.mpr h;simp only[Q7,hb];exact ih
theorem Ly(f:Str)(v:V):∀fs:List (Str×V),f∈(Be f v fs).map (·.1)∧∀g,g∈fs.map (·.1)→g∈(Be f v fs).map (·.1)
 | []=>⟨by simp[Be],λg h=>by simp at h⟩
 | (k,x)::r=>by
  obtain⟨i1,i2⟩:=Ly f v r;rw[show Be f v ((k,x)::r)=(if k=f then(k,v)::r else(k,x)::Be f v r)from rfl];by_cases hk:k=f
  ·rw[if_pos hk];subst hk;exact⟨by simp,λg h=>by simpa using h⟩
  ·rw[if_neg hk];refine⟨?_,λg h=>?_⟩
   ·rw[D3];exact C8 _ i1
   ·rw[D3]at h ⊢;rcases D5.mp h with e | e
    ·exact D5.mpr (.inl e)
    ·exact C8 _ (i2 g e)
theorem Oq(f:Str)(v:V):∀fs:List (Str×V),(Be f v fs).length≤fs.length+1
 | []=>by simp[Be]
 | (k,x)::r=>by
  have ih:=Oq f v r;rw[show Be f v ((k,x)::r)=(if k=f then(k,v)::r else(k,x)::Be f v r)from rfl];by_cases hk:k=f
  ·rw[if_pos hk,F0,F0];omega
  ·rw[if_neg hk,F0,F0];omega
theorem Bd.some_of{v:V}{o:Option A6}(r:Bd (NC v) o):∃u,o=NC u∧RelV v u:=by
 cases o with
 | none=>exact(show False from r).elim
 | some u=>exact⟨u,U,r⟩
theorem Bd.none_of{o:Option A6}(r:Bd none o):o=none:=by
 cases o with
 | none=>rfl
 | some u=>exact(show False from r).elim
theorem aAh{v:V}{u:A6}(r:RelV v u):j0 u=NF:=by
 cases v with
 | non=>cases(show u=BB from r);rfl
 | bl b=>cases(show u=DB b from r);rfl
 | int i=>obtain⟨t,e⟩:=(show ∃t,u=CL i t from r);cases e;rfl
 | str x=>obtain⟨t,e⟩:=(show ∃t,u=FV x t from r);cases e;rfl
 | byt b=>obtain⟨t,e⟩:=(show ∃t,u=LO b t from r);cases e;rfl
 | flt b=>obtain⟨t,e⟩:=(show ∃t,u=IC b t from r);cases e;rfl
 | ref a=>cases(show u=AQ a from r);rfl
 | ty n=>cases(show u=BY n from r);rfl
section
variable{P:AJ}{w:AN}{H H':Hp}{h h':AM}{a C dx:A7}{fs fs':List (Str×V)}
theorem Qw(hok:Gs P w H h)(e:H a=NC (.ins C dx fs)):∃mA,dh h a dx C mA∧(∀f,Bd (fs.lookup f) (mA f))∧d7 mA (fs.map (·.1))∧fs.length≤1000∧H dx=NC (.own a):=by
 obtain⟨d,z,ne,ob,mA,n,r,q⟩:=(show jZ P w H h a (.ins C dx fs)from hok a _ e)
 exact⟨mA,⟨ob,n,ne⟩,r,q,z,d⟩
end
structure Cls(K:aJ)(C:A7):Prop where
 pg:Q4 K C ME=NF
 hd:R9 K C=NF
 po:W7 K C=NF
 sa:G2 K (.ref C) "__setattr__" = NC (NC (.builtin "object.__setattr__"))
theorem Cls.get{K:aJ}{C:A7}(c:Cls K C)(f:Str):Q4 K C f=NF:=c.pg
def Gv(K:aJ)(C:A7)(f:Str):Prop:=G2 K (.ref C) f=NC none
theorem Gv.taker{K:aJ}{C:A7}{f:Str}(n:Gv K C f):Y7 K C f=NC none:=by unfold Y7;rw[show G2 K (.ref C) f=NC none from n];rfl
structure Con(K:aJ)(C:A7)(f:Str)(v:V)(u:A6):Prop where
 at_:G2 K (.ref C) f=NC (NC u)
 rel:RelV v u
 get:g8 K u "__get__" = NC none
 cp:PySem.W.copiedNames.contains f=NG
structure Meth(K:aJ)(C:A7)(m:Str)(f:A7):Prop where
 at_:G2 K (.ref C) m=NC (NC (.ref f))
 fn:O7 K (.ref f)=NF
 kp:K2 K (.ref f)=NF
section
variable{X:Cx}{pins:List (A7×Obj)}{σ:St}{H:Hp}{s:A8}{a C dx:A7}{fs:List (Str×V)}{f:Str}{v:V}{A:AL}{E:A6→A8→Prop}
theorem di{b:Bool}{Q:A6→A8→Prop}(I:Inv X pins σ H s)(e:H a=NC (.ins C dx fs))(c:Cls X.K C)(n:Gv X.K C f)(l:fs.lookup f=NC v)
  (h:∀u s',Inv X pins σ H s'→RelV v u→Q u s'):AF (AG X.prog X.w) A (getAttr (.ref a) f b) Q E s:=by
 obtain⟨mA,O,r,_,_,_⟩:=Qw I.hok e;obtain⟨u,hu,ru⟩:=Bd.some_of (v:=v) (o:=mA f) (by rw[←l];exact r f);exact get_map I.Lw O (c.get f) c.hd n hu (aAh ru) (h u _ (I.tok _) ru)
theorem Rz{m:Str}{g:A7}{pl:Sem Bool}{Q:A6×List A6→A8→Prop}(I:Inv X pins σ H s)(e:H a=NC (.ins C dx fs))(c:Cls X.K C)(k:Meth X.K C m g)(l:fs.lookup m=none)
  (h:Q (.ref g,[.ref a]) s):AF (AG X.prog X.w) A (DI (.ref a) m pl) Q E s:=by
 obtain⟨mA,O,r,_,_,_⟩:=Qw I.hok e;have hn:mA m=none:=Bd.none_of (by rw[←l];exact r m);exact aBC I.Lw O (c.get m) k.at_ k.fn hn h
theorem dm{y:V}{u:A6}{Q:Unit→A8→Prop}(I:Inv X pins σ H s)(e:H a=NC (.ins C dx fs))(c:Cls X.K C)(n:Gv X.K C f)(hl:fs.length<1000)(ry:RelV y u)
  (h:∀s',Inv X pins σ (upd H a (.ins C dx (Be f y fs))) s'→Q () s'):AF (AG X.prog X.w) A (setAttr (.ref a) f u) Q E s:=by
 obtain⟨mA,O,r,wi,_,ho⟩:=Qw I.hok e;have hz:(fs.map (·.1)).length≤sizeLine:=by rw[B6,EG];omega
 refine aEm I.Lw O c.sa c.po n.taker c.hd wi hz λh' O' sb=>h _ ?_;have hd:∃o,h'.get? dx=NC o:=let ⟨o,_,_,e',_⟩:=O'.ns;⟨o,e'⟩;refine I.write (x:=a) (e:=dx) (by rw[e];exact True.intro) (.inr ho) (λb q hb z=>(sb.2 b hb).trans z) hd ?_;refine⟨by rw[bN O.ne];exact ho,?_,O.ne,O'.obj,_,O'.ns,λg=>?_,λg hg=>?_⟩
 ·have:=Oq f y fs;omega
 ·show Bd ((Be f y fs).lookup g) (if g=f then NC u else mA g);rw[Oo];by_cases q:g=f
  ·rw[if_pos q,if_pos q];exact ry
  ·rw[if_neg q,if_neg q];exact r g
 ·by_cases q:g=f
  ·rw[q];exact(Ly f y fs).1
  ·refine(Ly f y fs).2 g (wi g λz=>hg ?_);show (if g=f then NC u else mA g)=none;rw[if_neg q];exact z
theorem Inv.made(I:Inv X pins σ H s):Inv X pins σ (upd (upd H s.heap.objs.size (.own (s.heap.objs.size+1))) (s.heap.objs.size+1) (.ins C s.heap.objs.size []))
  {s with heap:=(s.heap.push L4).push (N0 C s.heap.objs.size)}:=by
 have e1:(s.heap.push L4).get? s.heap.objs.size=NC L4:=AK s.heap U;have e2:((s.heap.push L4).push (N0 C s.heap.objs.size)).get? (s.heap.objs.size+1)=NC (N0 C s.heap.objs.size):=by
  have:=AK (s.heap.push L4) (o:=N0 C s.heap.objs.size) U
  rwa [AZ]at this
 have e3:(s.heap.push L4).Ns s.heap.objs.size (λ_=>none):=⟨L4,#[],_,e1,U,(λe he=>absurd he (by simp)),λ_=>rfl⟩
 have I1:=I.laid (a:=s.heap.objs.size) (o:=.own (s.heap.objs.size+1)) (h':=s.heap.push L4) (t':=s.toks) (λb u q=>AA _ q) (C5 _) ⟨_,e1⟩;refine I1.laid (a:=s.heap.objs.size+1) (o:=.ins C s.heap.objs.size []) (t':=s.toks) (λb u q=>AA _ q) (d9 (AZ _ _)) ?_;have ne:s.heap.objs.size≠s.heap.objs.size+1:=E7 (M7 _);refine⟨by rw[bN ne,cM],M0 _,ne,e2,λ_=>none,(MO e3).at λo q=>AA _ q,λ_=>True.intro,λy hy=>absurd U hy⟩
theorem aEn{prog:AJ}{w:AN}{env:Env}{e:AD}{f:Str}{pos:Pos}{s:A8}{Q:A6→A8→Prop}(hb:CI e f env (AO e env)=AO e env)
  (h:AF (AG prog w) A (AO e env) (λo s₁=>AF (AG prog w) A (getAttr o f NF) Q E s₁) E s):AF (AG prog w) A (AO (.Attribute e f pos) env) Q E s:=
 Attribute_any_ h (by rw[arm_eval_Attribute,hb])
end
def aHd(K:aJ)(ta:TE)(f:Str):TE:=λσ H Q=>ta σ H λx H1=>∃a C dx fs v,x=.ref a∧H1 a=NC (.ins C dx fs)∧Cls K C∧Gv K C f∧fs.lookup f=NC v∧Q v H1
def aHe(K:aJ)(ta tv:TE)(f:Str):TS:=λD σ H=>tv σ H λy H1=>ta σ H1 λx H2=>∃a C dx fs,x=.ref a∧H2 a=NC (.ins C dx fs)∧Cls K C∧Gv K C f∧fs.length<1000 ∧
 D.nx σ (upd H2 a (.ins C dx (Be f y fs)))
section
variable{X:Cx}{o e value:AD}{f:Str}{pos pos' tpos:Pos}{ta tv:TE}
theorem aBF(he:PE X e ta)(hb:CI e f X.env (AO e X.env)=AO e X.env):PE X (.Attribute e f pos) (aHd X.K ta f):=by intro pins s σ H Q I h;refine aEn hb (jG (he pins s σ H _ I h) λu s1 ⟨x,H1,I1,rx,a,C,dx,fs,v,ex,ea,c,n,l,q⟩=>?_);subst ex;obtain rfl:u=AQ a:=rx;exact di I1 ea c n l λu' s2 I2 ru=>⟨v,H1,I2,ru,q⟩
theorem aHf(ha:PE X o ta)(hv:PE X value tv)(hs:Ct value (NC (.Attribute o f pos')) pos.line X.env=pure NG):PS X (.Assign [.Attribute o f pos'] value pos) (aHe X.K ta tv f):=by intro pins s σ H D I h;refine plainObj_wpAny_Assign_Attribute (jG (hv pins s σ H _ I h) λu s1 ⟨y,H1,I1,ry,q⟩=>jG (ha pins s1 σ H1 _ I1 q) λov s2 ⟨x,H2,I2,rx,a,C,dx,fs,ex,ea,c,n,l,q2⟩=>?_) hs;subst ex;obtain rfl:ov=AQ a:=rx;exact dm I2 ea c n l ry λs3 I3=>⟨σ,_,I3,q2⟩
end
section
variable{X:Cx}{pins:List (A7×Obj)}{σ:St}{H:Hp}{s:A8}{A:AL}{E:A6→A8→Prop}{Q:A6→A8→Prop}{c:A6}{b:Bool}
inductive Qf(K:aJ)(H:Hp):V→A6→Prop where
 | non:Qf K H .non (.type "NoneType")
 | bl (x:Bool):Qf K H (.bl x) (.type "bool")
 | int (i:Int):Qf K H (.int i) (.type "int")
 | str (x:Str):Qf K H (.str x) (.type "str")
 | flt (x:UInt64):Qf K H (.flt x) (.type "float")
 | lst {a:A7} {xs:List V} (e:H a=NC (.lst xs)):Qf K H (.ref a) (.type "list")
 | Jg {a:A7} {o:Obj} {xs:List V} (e:H a=NC (.Jg o (.lst xs))):Qf K H (.ref a) (.type "list")
 | tup {a:A7} {xs:List V} (e:H a=NC (.tup xs)):Qf K H (.ref a) (.type "tuple")
 | dK {a:A7} {kvs:List (Key×V)} (e:H a=NC (.dK kvs)):Qf K H (.ref a) (.type "dict")
 | dT {a:A7} {kvs:List (List Key×V)} (e:H a=NC (.dT kvs)):Qf K H (.ref a) (.type "dict")
 | ins {a C dx:A7} {fs:List (Str×V)} (e:H a=NC (.ins C dx fs)) (cl:Cls K C) (ha:G2 K (.ref C) "__class__" = NC (NC (.builtin "object.__class__")))
   (hn:g8 K (.builtin "object.__class__") "__get__" = NC (NC (.builtin "getset_descriptor.__get__"))) (htk:PySem.W.takesIn K (.builtin "object.__class__")=NC NF)
   (hm:PySem.W.mroIn K C (.type "object")=NC NF):Qf K H (.ref a) (.ref C)
theorem Yb{x:V}{u t:A6}(I:Inv X pins σ H s)(rx:RelV x u)(ty:Qf X.K H x t)(e:J7 X.K t c=NC b)(h:∀tk,Q (.bool b) {s with toks:=tk}) :
  AF (AG X.prog X.w) A (call (.builtin "isinstance") [u,c]) Q E s:=by
 cases ty with
 | non=>cases(show u=BB from rx);exact J8 PySem.W.kitx_none I.Lw True.intro e (λz=>nomatch z) h
 | bl y=>cases(show u=DB y from rx);exact J8 PySem.W.kitx_bool I.Lw True.intro e (λz=>nomatch z) h
 | int i=>obtain⟨t,q⟩:=(show ∃t,u=CL i t from rx);cases q;exact J8 PySem.W.kitx_int I.Lw True.intro e (λz=>nomatch z) h
 | str y=>obtain⟨t,q⟩:=(show ∃t,u=FV y t from rx);cases q;exact J8 PySem.W.kitx_str I.Lw True.intro e (λz=>nomatch z) h
 | flt y=>obtain⟨t,q⟩:=(show ∃t,u=IC y t from rx);cases q;exact J8 PySem.W.kitx_float I.Lw True.intro e (λz=>nomatch z) h
 | @lst a xs ea=>
  cases(show u=AQ a from rx)
  obtain⟨_,_,n,_,h1⟩:=(show jZ X.prog X.w H s.heap a (.lst xs)from I.hok a _ ea)
  exact J8 W8 I.Lw ⟨_,h1,rfl⟩ e (λz=>nomatch z) h
 | @Jg a ob xs ea=>
  cases(show u=AQ a from rx)
  obtain⟨_,_,_,n,_,h1⟩:=(show jZ X.prog X.w H s.heap a (.Jg ob (.lst xs))from I.hok a _ ea)
  exact J8 W8 I.Lw ⟨_,h1,rfl⟩ e (λz=>nomatch z) h
 | @tup a xs ea=>
  cases(show u=AQ a from rx)
  obtain⟨_,_,_,p⟩:=(show jZ X.prog X.w H s.heap a (.tup xs)from I.hok a _ ea)
  obtain⟨o,h1,h2,_⟩:=p;exact J8 e8 I.Lw ⟨o,h1,h2⟩ e (λz=>nomatch z) h
 | @dK a kvs ea=>
  cases(show u=AQ a from rx)
  obtain⟨_,_,vs,_,p⟩:=(show jZ X.prog X.w H s.heap a (.dK kvs)from I.hok a _ ea)
  obtain⟨o,es,ep,h1,h2,_⟩:=p;exact J8 g9 I.Lw ⟨o,h1,h2.1⟩ e (λz=>nomatch z) h
 | @dT a kvs ea=>
  cases(show u=AQ a from rx)
  obtain⟨_,_,xs,_,o,es,ep,h1,h2,_⟩:=(show jZ X.prog X.w H s.heap a (.dT kvs)from I.hok a _ ea)
  exact J8 g9 I.Lw ⟨o,h1,h2.1⟩ e (λz=>nomatch z) h
 | @ins a C dx fs ea cl ha hn htk hm=>
  cases(show u=AQ a from rx)
  obtain⟨mA,O,_⟩:=Qw I.hok ea;obtain⟨od,J,_⟩:=O.look;exact J8 (PySem.W.kitx_own (cl.get _) cl.hd ha hn htk hm) I.Lw J e (λz=>nomatch z) h
end
end L2
namespace L2
open PySem PySem.Spec PyProof.Rows
structure lA(k:Nat)(A:AL):Prop where
 hd:A.handled=none
 dp:A.depth+3*k+5<JA
 un:A.units+16*k+200<Ap
theorem lA.mono{j k:Nat}{A:AL}(r:lA k A)(h:j≤k):lA j A:=⟨r.hd,by have:=r.dp;omega,by have:=r.un;omega⟩
theorem lA.deeper{k:Nat}{A:AL}(r:lA (k+1) A)(env:Env):lA k (A.deeper env):=
 ⟨r.hd,by have:=r.dp;show A.depth+1+3*k+5<_;omega,by have:=r.un;show A.units+3+16*k+200<_;omega⟩
theorem dq{A:AL}{C:A7}{us:List A6}{kw:List (Str×A6)}:(A.under (.builtin "type.__call__" ⟨.ref C::us,kw⟩)).depth=A.depth+1:=by
  first | rfl | simp[HE,Code.weight,Code.isCreation,Code.isGuard,Code.isCaller,LS,HG,guardIds]
theorem du{A:AL}{C:A7}{us:List A6}{kw:List (Str×A6)}:(A.under (.builtin "type.__call__" ⟨.ref C::us,kw⟩)).units=A.units+1:=by
  first | rfl | simp[HE,Code.cUnits,LS,HG]
theorem lA.make{k:Nat}{A:AL}(r:lA (k+1) A)(C:A7)(us:List A6)(kw:List (Str×A6)):lA k (A.under (.builtin "type.__call__" ⟨.ref C::us,kw⟩)):=
 ⟨r.hd,by have:=r.dp;rw[dq];omega,by have:=r.un;rw[du];omega⟩
theorem lA.depth{k:Nat}{A:AL}(r:lA k A):A.depth<JA:=by have:=r.dp;omega
theorem lA.units{k:Nat}{A:AL}(r:lA k A):A.units+64<Ap:=by have:=r.un;omega
def oK:TA:=λ_ H Q=>Q [] H
def gF(ta:TE)(tr:TA):TA:=λσ H Q=>ta σ H λx H1=>tr σ H1 λxs H2=>Q (x::xs) H2
section
variable{X:Cx}{e:AD}{es:List AD}{te:TE}{t:TA}{pos:Pos}
theorem jM:PA X [] oK:=λ_ _ _ _ H Q I h=>Cb ⟨[],H,I,.nil,h⟩
theorem dG(ha:PE X e te)(hr:PA X es t)(hs:AB (e::es) X.env=(NG,AO e X.env)::AB es X.env:=by rfl):PA X (e::es) (gF te t):=by intro pos pins s σ H Q I h;rw[hs];show AF _ _ (spliced ((NG,AO e X.env)::AY pos (AB es X.env))) _ _ s;refine CM (jG (ha pins s σ H _ I h) λu s1 ⟨x,H1,I1,r1,q1⟩=>?_);exact jG (hr pos pins s1 σ H1 _ I1 q1) λus s2 ⟨xs,H2,I2,r2,q2⟩=>⟨x::xs,H2,I2,.cons r1 r2,q2⟩
def aEo(t:TA):TE:=λσ H Q=>t σ H λxs H1=>xs.length≤sizeLine∧∀p,H1 p=none→Q (.ref p) (upd H1 p (.tup xs))
def aBG(t:TA):TE:=λσ H Q=>t σ H λxs H1=>xs.length≤sizeLine∧∀p,H1 p=none→Q (.ref p) (upd H1 p (.lst xs))
theorem aBH{x1}(h:PA X es t):PE X (.Tuple es x1 pos) (aEo t):=by intro pins s σ H Q I hq;refine wpAny_Tuple_spliced (jG (h pos pins s σ H _ I hq) λus s1 ⟨xs,H1,I1,r,z,q⟩=>⟨by rw[←r.length];exact z,?_⟩);have hf:H1 s1.heap.objs.size=none:=I1.hok.fresh (C5 _);refine⟨.ref s1.heap.objs.size,upd H1 s1.heap.objs.size (.tup xs),I1.laid (t':=s1.toks) (λb u e=>AA _ e) (C5 _) ?_,U,q _ hf⟩;exact⟨z,us,r,⟨_,AK _ U,U,_,U⟩⟩
theorem aBI(h:PA X es t):PE X (.List es pos) (aBG t):=by intro pins s σ H Q I hq;refine wpAny_List_spliced (jG (h pos pins s σ H _ I hq) λus s1 ⟨xs,H1,I1,r,z,q⟩=>⟨by rw[←r.length];exact z,?_⟩);have hf:H1 s1.heap.objs.size=none:=I1.hok.fresh (C5 _);refine⟨.ref s1.heap.objs.size,upd H1 s1.heap.objs.size (.lst xs),I1.laid (t':=s1.toks) (λb u e=>AA _ e) (C5 _) ?_,U,q _ hf⟩;exact⟨z,us,0,r,AK _ U⟩
end
abbrev Sp:=List V→Hp→VK→XK→Prop
abbrev CXT:=List Env→Hp→A8→XK→A6→A8→Prop
structure dw(P:AJ)(w:AN)(K:aJ)(mg:Str→Option A6)(base:AM)(A:AL)(outer:List Env)(s:A8)(H:Hp):Prop where
 frames:A.frames=NC outer
 mod:Mod K mg base
 bs:∀b o,base.get? b=NC o→s.heap.get? b=NC o∧H b=none
 bsz:base.objs.size≤s.heap.objs.size
 Qe:s.heap.FunFrames base outer
 frf:∀b∈frs outer,H b=none
 hok:Gs P w H s.heap
 bare:DZ s.gens
def CE(outer:List Env)(P:AJ)(w:AN)(H:Hp)(s:A8)(Q:VK)(u:A6)(s':A8):Prop:=
 ∃v H',s'.os=s.os∧DZ s'.gens∧Un (frs outer) [] H H' s.heap s'.heap∧Gs P w H' s'.heap∧RelV v u∧Q v H'
def CR(CX:CXT)(outer:List Env)(P:AJ)(w:AN)(H:Hp)(s:A8)(Q:VK)(E:XK)(r:FB)(s':A8):Prop:=
 match r with
 | .ok (.ret u)=>CE outer P w H s Q u s'
 | .ok _=>False
 | .error e=>CX outer H s E e s'
structure Fj(P:AJ)(w:AN)(K:aJ)(mg:Str→Option A6)(base:AM)(CX:CXT)(k:Nat)(f:A7)(fd:BE)(ps:List Str)(sp:Sp):Prop where
 len:∀vs H Q E,sp vs H Q E→vs.length=ps.length
 run:∀(A:AL)(outer:List Env)(s:A8)(H:Hp)(args:Args)(us:List A6)(vs:List V)(Q:VK)(E:XK),lA k A→dw P w K mg base A outer s H→Fn s fd args (ps.zip us)→Vals vs us→sp vs H Q E →
  CH (AG P w) A (.call (.ref f) args) (CR CX outer P w H s Q E) s
theorem dw.make{P:AJ}{w:AN}{K:aJ}{mg:Str→Option A6}{base:AM}{A:AL}{outer:List Env}{s:A8}{H:Hp}(e:dw P w K mg base A outer s H)(C:A7)(us:List A6)(kw:List (Str×A6)) :
  dw P w K mg base (A.under (.builtin "type.__call__" ⟨.ref C::us,kw⟩)) outer s H:=⟨by first | exact e.frames | (simpa[HE,Code.envs,HG,pushEnvs]using e.frames),e.mod,e.bs,e.bsz,e.Qe,e.frf,e.hok,e.bare⟩
section
variable{X:Cx}{pins:List (A7×Obj)}{σ:St}{H:Hp}{s s':A8}
theorem Inv.env0(I:Inv X pins σ H s):dw X.prog X.w X.K X.mg X.base X.A X.stack s H:=
 ⟨I.ok.frames,I.ok.mod,I.bs,G0 I.ok.bsz I.sz,I.stack,I.qy,I.hok,I.bare⟩
theorem Inv.after{Q:VK}{u:A6}(I:Inv X pins σ H s)(h:CE X.stack X.prog X.w H s Q u s'):EP X pins σ Q u s':=by obtain⟨v,H',os,bare,un,hok,r,q⟩:=h;obtain⟨hh,g,d,t,os'⟩:=s';obtain rfl:os'=s.os:=os;exact⟨v,H',I.call (h':=hh) (g':=g) (d':=d) (t':=t) (ch:=[]) un hok bare (λb z=>absurd z (by simp)),r,q⟩
end
def Sd(sp:Sp)(Lr:List V)(E:XK)(t:TA):TE:=λσ H Q=>t σ H λvs H1=>sp (vs++Lr) H1 Q E
def Ot(C:A7)(m:Str)(sp:Sp)(Lr:List V)(E:XK)(ta:TE)(t:TA):TE:=λσ H Q=>ta σ H λx H1=>∃a dx fs,x=.ref a∧H1 a=NC (.ins C dx fs)∧fs.lookup m=none ∧
 t σ H1 λvs H2=>sp (x::(vs++Lr)) H2 Q E
def aF7(C:A7)(sp:Sp)(Lr:List V)(E:XK)(t:TA):TE:=λσ H Q=>t σ H λvs H1=>∀x dx,H1 x=none→H1 dx=none→dx≠x →
 sp (.ref x::(vs++Lr)) (upd (upd H1 dx (.own x)) x (.ins C dx [])) (λv H2=>v=.non∧Q (.ref x) H2) E
def Binds(K:aJ)(fd:BE)(ps:List Str)(ds:List A6):Prop:=
 ∀(s:A8)(us:List A6),K.In s.heap→(us++ds).length=ps.length→Fn s fd ⟨us,[]⟩ (ps.zip (us++ds))
theorem Binds.all{K:aJ}{fd:BE}{ps:List Str}(h:∀us:List A6,us.length=ps.length→DU fd ⟨us,[]⟩=pure (ps.zip us)):Binds K fd ps []:=λs us _ hl=>by rw[F3]at hl ⊢;exact .of_eq (h us hl)
def Passes(CX:CXT)(X:Cx)(E:XK):Prop:=∀(pins:List (A7×Obj))(σ:St)(H:Hp)(s:A8)(e:A6)(s':A8),Inv X pins σ H s→CX X.stack H s E e s'→X.xe e s'
section
variable{X:Cx}{CX:CXT}{k:Nat}{f C:A7}{fd:BE}{ps:List Str}{sp:Sp}{Lr:List V}{ds:List A6}{E:XK}{x m:Str}{p pos apos:Pos}{e o:AD}{es:List AD}{ta:TE}{t:TA}
theorem dz{pins:List (A7×Obj)}{σ:St}{H:Hp}{s:A8}{Q:VK}{us:List A6}{vs:List V}(F:Fj X.prog X.w X.K X.mg X.base CX k f fd ps sp)(hr:lA k X.A)(hb:Binds X.K fd ps ds)(hd:Vals Lr ds)(hx:Passes CX X E)
  (I:Inv X pins σ H s) (r:Vals vs us) (h:sp (vs++Lr) H Q E):AF (AG X.prog X.w) X.A (call (.ref f) us) (EP X pins σ Q) X.xe s:=by
 have r2:Vals (vs++Lr) (us++ds):=r.append hd;have hl:(us++ds).length=ps.length:=by rw[←r2.length];exact F.len _ _ _ _ h
 refine IP (Ch (F.run X.A X.stack s H ⟨us,[]⟩ (us++ds) (vs++Lr) Q E hr I.env0 (hb s us I.Lw hl) r2 h) λr s' hq=>?_);cases r with
 | error e=>exact hx pins σ H s e s' I hq
 | ok fl=>
  cases fl with
  | ret u=>exact I.after hq
  | next=>exact False.elim hq
  | brk=>exact False.elim hq
  | cont=>exact False.elim hq
theorem aEp(F:Fj X.prog X.w X.K X.mg X.base CX k f fd ps sp)(hr:lA k X.A)(hg:Gl X x)(hm:X.mg x=NC (.ref f))(hk:K2 X.K (.ref f)=NF)(hb:Binds X.K fd ps ds)(hd:Vals Lr ds)(hx:Passes CX X E)
  (ha:PA X (e::es) t) (hdb:(x==("__debug__" : Str))=NG:=by decide) (he:AB (e::es) X.env=(NG,AO e X.env)::AB es X.env:=by rfl) (hpl:(AY pos (AB es X.env)).any (·.1)=NG:=by rfl) :
  PE X (.Call (.Name x p) (e::es) [] pos) (Sd sp Lr E t):=by
 intro pins s σ H Q I h;refine B5 (CZ I hg hm ?_ hdb);refine V7 (h₀:=X.base) I.ok.mod.kin hk (jG (ha pos pins s σ H _ I h) λus s1 ⟨vs,H1,I1,r,q⟩=>⟨I1.Lw,?_⟩) he hpl;exact dz F hr hb hd hx I1 r q
theorem DN{pl:Sem Bool}(he:PE X o ta)(c:Cls X.K C)(hm:Meth X.K C m f)(F:Fj X.prog X.w X.K X.mg X.base CX k f fd ps sp)(hr:lA k X.A)(hb:Binds X.K fd ps ds)(hd:Vals Lr ds)(hx:Passes CX X E)(ha:PA X (e::es) t)
  (hst:AB (e::es) X.env=(NG,AO e X.env)::AB es X.env:=by rfl) (hpl:(AY pos (AB es X.env)).any (·.1)=NG:=by rfl)
  (ht:AO (.Call (.Attribute o m apos) (e::es) [] pos) X.env=(do
   let ov ←AO o X.env
   DL apos.atName
   let (f,first) ←CF [ov] (DI ov m pl)
   FC pos f first (AY pos (AB (e::es) X.env)) (DJ pos (Bz [] X.env))):=by rfl) :
  PE X (.Call (.Attribute o m apos) (e::es) [] pos) (Ot C m sp Lr E ta t):=by
 intro pins s σ H Q I h;refine a7 (pl:=pl) (jG (he pins s σ H _ I h) λu s1 ⟨x,H1,I1,rx,a,dx,fs,ex,ea,l,q⟩=>?_) ht;subst ex;obtain rfl:u=AQ a:=rx;refine Rz I1 ea c hm l ?_;refine V7 (first:=[.ref a]) (h₀:=X.base) I.ok.mod.kin hm.kp (jG (ha pos pins s1 σ H1 _ I1 q) λus s2 ⟨vs,H2,I2,r,q2⟩=>⟨I2.Lw,?_⟩) hst hpl;exact dz (us:=.ref a::us) (vs:=.ref a::vs) F hr hb hd hx I2 (.cons U r) q2
theorem aBK{pl:Sem Bool}(he:PE X o ta)(c:Cls X.K C)(hm:Meth X.K C m f)(F:Fj X.prog X.w X.K X.mg X.base CX k f fd ps sp)(hr:lA k X.A)(hb:Binds X.K fd ps ds)(hd:Vals Lr ds)(hx:Passes CX X E)
  (ht:AO (.Call (.Attribute o m apos) [] [] pos) X.env=(do
   let ov ←AO o X.env
   DL apos.atName
   let (f,first) ←CF [ov] (DI ov m pl)
   FC pos f first (AY pos (AB [] X.env)) (DJ pos (Bz [] X.env))):=by rfl) :
  PE X (.Call (.Attribute o m apos) [] [] pos) (Ot C m sp Lr E ta oK):=by
 intro pins s σ H Q I h;refine a7 (pl:=pl) (jG (he pins s σ H _ I h) λu s1 ⟨x,H1,I1,rx,a,dx,fs,ex,ea,l,q⟩=>?_) ht;subst ex;obtain rfl:u=AQ a:=rx;refine Rz I1 ea c hm l ?_;exact PySem.W.callWith_K0 (first:=[.ref a]) I1.Lw hm.kp (dz (us:=[.ref a]) (vs:=[.ref a]) F hr hb hd hx I1 (.cons U .nil) q)
structure Mk(K:aJ)(C f:A7):Prop where
 makes:U1 K C=NF
 init:G2 K (.ref C) "__init__" = NC (NC (.ref f))
 fn:O7 K (.ref f)=NF
 kp:K2 K (.ref C)=NF
theorem aBL{pins:List (A7×Obj)}{σ:St}{H:Hp}{s:A8}{Q:VK}{us:List A6}{vs:List V}(M:Mk X.K C f)(F:Fj X.prog X.w X.K X.mg X.base CX k f fd ps sp)(hr:lA (k+1) X.A)(hb:Binds X.K fd ps ds)(hd:Vals Lr ds)
  (hx:Passes CX X E) (I:Inv X pins σ H s) (r:Vals vs us)
  (h:∀x dx,H x=none→H dx=none→dx≠x→sp (.ref x::(vs++Lr)) (upd (upd H dx (.own x)) x (.ins C dx [])) (λv H2=>v=.non∧Q (.ref x) H2) E) :
  AF (AG X.prog X.w) X.A (call (.ref C) us) (EP X pins σ Q) X.xe s:=by
 have hq:=h (s.heap.objs.size+1) s.heap.objs.size (I.hok.fresh (M9 _)) (I.hok.fresh (C5 _)) (E7 (M7 _));have I2:=Inv.made (C:=C) I;have r2:Vals (V.ref (s.heap.objs.size+1)::(vs++Lr)) (AQ (s.heap.objs.size+1)::(us++ds)):=.cons U (r.append hd);have hl:(AQ (s.heap.objs.size+1)::us++ds).length=ps.length:=by have e:=r2.length;rw[F.len _ _ _ _ hq]at e;exact e.symm
 refine IP (aBD (f:=f) I.Lw M.makes M.init (beq_iff_eq.mp M.fn) (Ch (F.run _ X.stack _ _ ⟨AQ (s.heap.objs.size+1)::us,[]⟩ (AQ (s.heap.objs.size+1)::(us++ds)) _ _ E (hr.make C us [])
  (I2.env0.make C us []) (hb _ (AQ (s.heap.objs.size+1)::us) I2.Lw hl) r2 hq) λr s' hq'=>?_))
 cases r with
 | error e=>exact hx pins σ _ _ e s' I2 hq'
 | ok fl=>
  cases fl with
  | ret u=>obtain⟨v,H',I3,rv,ev,q3⟩:=I2.after hq';subst ev;exact⟨rv,⟨V.ref (s.heap.objs.size+1),H',I3,U,q3⟩⟩
  | next=>exact False.elim hq'
  | brk=>exact False.elim hq'
  | cont=>exact False.elim hq'
theorem aEq(M:Mk X.K C f)(F:Fj X.prog X.w X.K X.mg X.base CX k f fd ps sp)(hr:lA (k+1) X.A)(hg:Gl X x)(hm:X.mg x=NC (.ref C))(hb:Binds X.K fd ps ds)(hd:Vals Lr ds)(hx:Passes CX X E)
  (ha:PA X (e::es) t) (hdb:(x==("__debug__" : Str))=NG:=by decide) (he:AB (e::es) X.env=(NG,AO e X.env)::AB es X.env:=by rfl) (hpl:(AY pos (AB es X.env)).any (·.1)=NG:=by rfl) :
  PE X (.Call (.Name x p) (e::es) [] pos) (aF7 C sp Lr E t):=by
 intro pins s σ H Q I h;refine B5 (CZ I hg hm ?_ hdb);refine V7 (h₀:=X.base) I.ok.mod.kin M.kp (jG (ha pos pins s σ H _ I h) λus s1 ⟨vs,H1,I1,r,q⟩=>⟨I1.Lw,?_⟩) he hpl;exact aBL M F hr hb hd hx I1 r q
end
section
variable{X:Cx}{CX:CXT}{k:Nat}{f C:A7}{fd:BE}{ps ks:List Str}{sp:Sp}{E:XK}{x m:Str}{p pos apos kpos:Pos}{e o:AD}{es:List AD}{kws:List EW}{te ta:TE}{t tk:TA}{nm:Option Str}
structure aKA(K:aJ)(fd:BE)(ps ks:List Str)(g:List A6→List A6→List A6)(gV:List V→List V→List V):Prop where
 to:∀(s:A8)(us ws:List A6),K.In s.heap→(g us ws).length=ps.length→Fn s fd ⟨us,ks.zip ws⟩ (ps.zip (g us ws))
 rel:∀{vs:List V} {us:List A6} {zs:List V} {ws:List A6},Vals vs us→Vals zs ws→Vals (gV vs zs) (g us ws)
variable{g:List A6→List A6→List A6}{gV:List V→List V→List V}
end
structure aZ(N P:List Str)(sc:BF):Prop where
 kind:sc.kind=.function
 co:sc.isCoroutine=NG
 gen:sc.isGenerator=NG
 nd:N.Nodup
 pre:N.take P.length=P
 par:∀x∈P,sc.names.lookup x=NC .local∨sc.names.lookup x=NC .cell
 aHg:∀y∈sc.names,y.2≠.free
theorem Yc{kindOf:Str→Option FD}{x:Str}:∀{binds:List (Str×A6)} {m:Str→Option A6},(∀v,(x,v)∉binds)→GH kindOf binds m x=m x
 | [],_,_=>rfl
 | (n,v)::r,m,h=>by
  unfold GH;rw[Yc λw hw=>h w (C8 _ hw)];split
  ·have:x≠n:=by rintro rfl;exact h v D6
   simp[this]
  ·rfl
theorem Yd{kindOf:Str→Option FD}{x:Str}:∀{binds:List (Str×A6)} {m:Str→Option A6},(∀v,(x,v)∉binds)→GI kindOf binds m x=m x
 | [],_,_=>rfl
 | (n,v)::r,m,h=>by
  unfold GI;rw[Yd λw hw=>h w (C8 _ hw)];split
  ·rfl
  ·have:x≠n:=by rintro rfl;exact h v D6
   simp[this]
theorem Ye{kindOf:Str→Option FD}{x:Str}{v:A6}:∀{P:List Str} {vs:List A6} {i:Nat} {m:Str→Option A6},P.Nodup→P[i]?=NC x→vs[i]?=NC v→kindOf x=NC .local →
  GH kindOf (P.zip vs) m x=NC v
 | [],_,_,_,_,h,_,_=>by simp at h
 | _::_,[],_,_,_,_,h,_=>by simp at h
 | p::P,w::vs,0,m,nd,h1,h2,hk=>by simp at h1 h2;subst h1;subst h2;show GH kindOf ((p,w)::P.zip vs) m p=_;unfold GH;rw[Yc λv hv=>(K8.mp nd).1 (Y8 hv).1,if_pos hk];simp
 | p::P,w::vs,i+1,m,nd,h1,h2,hk=>by show GH kindOf ((p,w)::P.zip vs) m x=_;unfold GH;exact Ye (i:=i) (K8.mp nd).2 (by simpa using h1) (by simpa using h2) hk
theorem Yg{kindOf:Str→Option FD}{x:Str}{v:A6}:∀{P:List Str} {vs:List A6} {i:Nat} {m:Str→Option A6},P.Nodup→P[i]?=NC x→vs[i]?=NC v→kindOf x≠NC .local →
  GI kindOf (P.zip vs) m x=NC v
 | [],_,_,_,_,h,_,_=>by simp at h
 | _::_,[],_,_,_,_,h,_=>by simp at h
 | p::P,w::vs,0,m,nd,h1,h2,hk=>by simp at h1 h2;subst h1;subst h2;show GI kindOf ((p,w)::P.zip vs) m p=_;unfold GI;rw[Yd λv hv=>(K8.mp nd).1 (Y8 hv).1,if_neg hk];simp
 | p::P,w::vs,i+1,m,nd,h1,h2,hk=>by show GI kindOf ((p,w)::P.zip vs) m x=_;unfold GI;exact Yg (i:=i) (K8.mp nd).2 (by simpa using h1) (by simpa using h2) hk
def start(N:List Str)(vs:List V):St:=vs.map NC++E4 (N.length-vs.length) none
def Gw(CX:CXT)(P:AJ)(w:AN)(K:aJ)(mg:Str→Option A6)(base:AM)(N:List Str)(qual:Str)(scope:BF)(f:A7)(cd:A6)(A:AL)(outer:List Env)(s:A8)(H:Hp)(E:XK):Cx where
 prog:=P
 w:=w
 K:=K
 mg:=mg
 base:=base
 A:=A.deeper (BN qual scope s.heap.objs.size f cd)
 N:=N
 s₀:=s
 H₀:=H
 env:=BN qual scope s.heap.objs.size f cd
 outer:=outer
 stack:=BN qual scope s.heap.objs.size f cd::outer
 ex:=[]
 calm:=NF
 fn:=λ_=>NF
 pn:=[]
 xe:=λe s'=>AF (AG P w) (A.deeper (BN qual scope s.heap.objs.size f cd)) (leaving (BN qual scope s.heap.objs.size f cd) e) (λ_ s''=>CX outer H s E e s'') (λe' s''=>CX outer H s E e' s'') s'
theorem QC{sc:BF}{n:Nat}{x:Str}(h:sc.names.lookup x=NC .cell):∃c,(KB n sc.names []).lookup x=NC c:=by have q:=Z5 sc.names n [] (.inl h);exact X4.mp q
theorem aAi{CX:CXT}{P:AJ}{w:AN}{K:aJ}{mg:Str→Option A6}{base:AM}{N ps:List Str}{qual:Str}{scope:BF}{f:A7}{cd:A6}{A:AL}{outer:List Env}{s s1:A8}{H:Hp}{E:XK}{us:List A6}{vs:List V}
  (S:aZ N ps scope) (hd:A.handled=none) (e0:dw P w K mg base A outer s H) (hl:vs.length=ps.length) (r:Vals vs us)
  (x:InCallC s s.heap.objs.size (GH (BN qual scope s.heap.objs.size f cd).kindOf (ps.zip us) λ_=>none) (KB (s.heap.objs.size+1) scope.names []) (GI (BN qual scope s.heap.objs.size f cd).kindOf (ps.zip us) λ_=>none) s1) :
  Inv (Gw CX P w K mg base N qual scope f cd A outer s H E) [] (start N vs) H s1:=by
 have hpl:ps.length≤N.length:=by have:=congrArg i8 S.pre;rw[J4]at this;omega
 obtain⟨h1,tk,rfl,hk⟩:=x.done;have noA:∀b:A7,b∉(Gw CX P w K mg base N qual scope f cd A outer s H E).ex:=λb z=>absurd (show b∈([]:List A7)from z) (by simp);refine⟨⟨e0.mod,S.kind,U,U,C5 _,λy z c h1 h2=>?_,λy hy=>?_,λy c _ h=>?_,λ_=>hd,Around.frames_deeper e0.frames,.inr ⟨U,U⟩,λb z=>absurd z (noA b),e0.bs,e0.bsz,λb _ _=>noA b,λb z=>absurd z (noA b),e0.Qe,e0.frf⟩,
  rfl,e0.bare,Un.kept hk,⟨_,x.toInCall.ns,λi y v h1 h2 h3=>?_⟩,λy c h=>⟨_,x.cell y c h⟩,e0.hok.fresh (C5 _),λy c h=>?_,λp hp=>absurd (show p∈([]:List (A7×Obj))from hp) (by simp),e0.hok.kept hk,?_⟩
 ·exact name_of_addr x.apart (M5 h1) (M5 h2)
 ·have hy:scope.names.lookup y=NC .cell∨scope.names.lookup y=NC .free:=hy;rcases hy with hy | hy
  ·exact QC hy
  ·exact absurd U (S.aHg _ (M5 hy))
 ·exact O5 (x.above y c (M5 h))
 ·have hi:i<vs.length:=by
   unfold start at h2;by_cases hi:i<vs.length
   ·exact hi
   ·rw[L3 (by simpa using hi)]at h2;rw[P0]at h2;split at h2<;>cases h2
  have ha:vs[i]?=NC v:=by
   unfold start at h2;rw[G4 (by simpa using hi),B9]at h2;cases e:vs[i]? with
   | none=>rw[e]at h2;cases h2
   | some a=>rw[e]at h2;cases h2;rfl
  obtain⟨u,hu,rv⟩:=r.get ha;have hp:ps[i]?=NC y:=by rw[←S.pre,List.getElem?_take_of_lt (by omega)];exact h1
  have ndP:ps.Nodup:=by rw[←S.pre];exact S.nd.sublist (O1 _ _)
  refine⟨u,rv,?_⟩;rcases S.par y (E6 hp)with k | k
  ·exact .inl ⟨k,Ye ndP hp hu k⟩
  ·obtain⟨c,e⟩:=QC (n:=s.heap.objs.size+1) k;refine .inr ⟨.inl k,c,e,?_⟩;have q:=x.cell y c e;rw[Yg ndP hp hu (by show scope.names.lookup y≠_;rw[k];decide)]at q;exact q
 ·exact e0.hok.fresh (O5 (x.above y c (M5 h)))
 ·unfold start;show _=N.length;rw[C7,B6,P8];omega
theorem aBM{CX:CXT}{P:AJ}{w:AN}{K:aJ}{mg:Str→Option A6}{base:AM}{k:Nat}{f:A7}{name qual:Str}{params:Arguments}{body:List AH}{scope:BF}{dV kV doc pm cdv ct oc:A6}{an od:Option A7}
  {osl:Array (Option A6)} {N ps:List Str} {sp:Sp} (lk:K.lookup f=NC ⟨oc,od,.func (F8 name qual params body scope dV kV doc pm an cdv ct),osl⟩) (hcd:K3 K cdv qual=NF) (S:aZ N ps scope)
  (len:∀vs H Q E,sp vs H Q E→vs.length=ps.length)
  (hbody:∀(A:AL)(outer:List Env)(s:A8)(H:Hp)(vs:List V)(Q:VK)(E:XK),lA k (A.deeper (BN qual scope s.heap.objs.size f cdv))→sp vs H Q E →
   ∃t,bh (Gw CX P w K mg base N qual scope f cdv A outer s H E) body t∧t {nx:=λ_ H'=>Q .non H',rt:=Q} (start N vs) H) :
  Fj P w K mg base CX (k+1) f (F8 name qual params body scope dV kV doc pm an cdv ct) ps sp:=by
 refine⟨len,λA outer s H args us vs Q E hr e0 hb r hsp=>?_⟩;have hl:=len _ _ _ _ hsp;have KX:K.In s.heap:=e0.mod.kin.keeps λb o e=>(e0.bs b o e).1;have lim:s.heap.NoLimit:=e0.mod.nolimit.keeps λb o e=>(e0.bs b o e).1;have hkind:∀y∈ps.zip us,scope.names.lookup y.1=NC .local∨(scope.names.lookup y.1=NC .cell∧((KB (s.heap.objs.size+1) scope.names []).lookup y.1).isSome=NF):=λ⟨n,v⟩ hy=>by
  rcases S.par n (Y8 hy).1 with q | q
  ·exact .inl q
  ·exact .inr ⟨q,Z5 _ _ _ (.inl q)⟩
 refine codeAny_call_function hr.depth (KX _ _ lk) U S.co S.gen U (PySem.W.codeRec_of KX hcd) (hb _ _ _ _ ?_);refine wpAny_newFunctionEnv_cells S.kind hkind λenv he s1 x=>?_;subst he;refine⟨lim.keeps x.toInCall.keep,codeAny_func ?_⟩;obtain⟨t,ht,hq⟩:=hbody A outer s H vs Q E (hr.deeper _) hsp;have I:Inv (Gw CX P w K mg base N qual scope f cdv A outer s H E) [] (start N vs) H s1:=aAi S hr.hd e0 hl r x;refine AX (ht [] s1 (start N vs) H _ I hq) (λfl s' hs=>?_) λe s' hs=>hs;have fin:∀{σ':St} {H':Hp} {v:V} {u:A6},Inv (Gw CX P w K mg base N qual scope f cdv A outer s H E) [] σ' H' s'→RelV v u→Q v H'→CE outer P w H s Q u s':=
  λ{σ' H' v u} J rv q=>⟨v,H',J.os,J.bare,J.base,J.hok,rv,q⟩
 cases fl with
 | ret u=>obtain⟨v,σ',H',J,rv,q⟩:=hs;exact fin J rv q
 | next=>obtain⟨σ',H',J,q⟩:=hs;exact fin (v:=V.non) (u:=BB) J U q
 | brk=>obtain⟨_,_,_,q⟩:=hs;exact False.elim q
 | cont=>obtain⟨_,_,_,q⟩:=hs;exact False.elim q
end L2
namespace L2
open PySem PySem.Spec PyProof.Rows
section
variable{X:Cx}{x:Str}{p pos:Pos}{e:AD}{es:List AD}{t:TA}{id T:String}{r:List V→Hp→VK→Prop}
def tCB(r:List V→Hp→VK→Prop)(t:TA):TE:=λσ H Q=>t σ H λvs H1=>r vs H1 Q
theorem QD(hc:oJ X (.builtin id) r)(hg:Gl X x)(hm:X.mg x=none)(hv:AW x=NC (.builtin id))(ha:PA X (e::es) t)(hn:x ≠ "__name__" := by decide) (hdb:(x==("__debug__" : Str))=NG:=by decide)
  (he:AB (e::es) X.env=(NG,AO e X.env)::AB es X.env:=by rfl) (hpl:(AY pos (AB es X.env)).any (·.1)=NG:=by rfl):PE X (.Call (.Name x p) (e::es) [] pos) (tCB r t):=by
 intro pins s σ H Q I h;refine B5 (yW I hg hm hv ?_ hn hdb);exact U2 (jG (ha pos pins s σ H _ I h) λus s1 ⟨vs,H1,I1,r1,q1⟩=>hc pins s1 σ H1 vs us Q I1 r1 q1) he hpl
theorem aAj(hc:oJ X (.type T) r)(hg:Gl X x)(hm:X.mg x=none)(hv:AW x=NC (.type T))(ha:PA X (e::es) t)(hn:x ≠ "__name__" := by decide) (hdb:(x==("__debug__" : Str))=NG:=by decide)
  (he:AB (e::es) X.env=(NG,AO e X.env)::AB es X.env:=by rfl) (hpl:(AY pos (AB es X.env)).any (·.1)=NG:=by rfl):PE X (.Call (.Name x p) (e::es) [] pos) (tCB r t):=by
 intro pins s σ H Q I h;refine B5 (yW I hg hm hv ?_ hn hdb);exact L0 (jG (ha pos pins s σ H _ I h) λus s1 ⟨vs,H1,I1,r1,q1⟩=>hc pins s1 σ H1 vs us Q I1 r1 q1) he hpl
end
end L2
namespace HT
open PySem PyProof.Rows
theorem aBN(A:AL)(s:A8)(a:Int)(t:Tok)(c:Int)(u:Tok)(prog:AJ)(w:AN)(E:A6→A8→Prop)(Q:A6→A8→Prop)(h:Q (.bool (decide (a<c))) s) :
  AF (AG prog w) A (richCompare .Lt (.int a t) (.int c u)) Q E s:=
 (PyProof.Rows.lt_int h:AF (AG prog w) A (AS .Lt (.int a t) (.int c u)) Q E s)
section
open PySem.SeqAt
open PySem.AutoSeq1 (wpAny_loadPart')
open PySem.MeetsSeq PySem.MeetsSeq2 PySem.MeetsSeq3
end
section
variable{prog:AJ}{w:AN}{A:AL}{E:A6→A8→Prop}{s:A8}
theorem aEr{t b:A7}{vs ws:List A6}{Q:A6→A8→Prop}(ht:IG s.heap t vs.toArray)(hb:IG s.heap b ws.toArray)(hv:vs≠[])
  (h1:ws=[]→Q (.ref t) s) (h2:ws≠[]→Q (.ref s.heap.objs.size) {s with heap:=s.heap.push {cls:=.type "tuple", data:=.seq (vs++ws).toArray}})
  (hsz:vs.length+ws.length≤sizeLine):AF (AG prog w) A (BS .Add (.ref t) (.ref b)) Q E s:=by
 obtain⟨⟨cls,dd,data,sl⟩,ho,hc,n,hd⟩:=id ht;obtain⟨⟨cls2,dd2,data2,sl2⟩,ho2,hc2,n2,hd2⟩:=id hb;simp only at hc hd hc2 hd2;subst hc hd hc2 hd2;have e:vs.toArray++ws.toArray=(vs++ws).toArray:=by simp
 by_cases hw:ws=[]
 ·exact FF ⟨_,ho,U⟩ ⟨_,ho2,U⟩ FG GV S0 R8 (R1 _ _)
   (tuple_addW1 t b vs.toArray ws.toArray n n2 dd dd2 sl sl2 (by simpa using hv) (by simp[hw])) ⟨ho,ho2,h1 hw⟩
 ·refine FF ⟨_,ho,U⟩ ⟨_,ho2,U⟩ FG GV S0 R8 (R1 _ _)
   (tuple_addW2 t b vs.toArray ws.toArray n n2 dd dd2 sl sl2 (by simpa using hv) (by simpa using hw) (by rw[C6,C6];exact hsz)) ⟨ho,ho2,?_⟩
  rw[e];exact h2 hw
def Wm(n d:Nat):Option Int→Nat
 | none=>d
 | some v=>if v<0 then(v+(n:Int)).toNat else min v.toNat n
theorem aEs(n d k:Nat):Wm n d (NC (k:Int))=min k n:=by show (if(k:Int)<0 then((k:Int)+(n:Int)).toNat else min (k:Int).toNat n)=min k n;rw[if_neg (by omega),D7]
end
end HT
namespace L2
open PySem PySem.Spec PyProof.Rows
abbrev TO:=St→Hp→(Option Int→Hp→Prop)→Prop
def PO(X:Cx)(e:Option AD)(t:TO):Prop:=
 ∀(pins:List (A7×Obj))(s:A8)(σ:St)(H:Hp)(Q:Option Int→Hp→Prop),Inv X pins σ H s→t σ H Q →
  AF (AG X.prog X.w) X.A (evalPart e X.env) (λu s'=>∃o H',Inv X pins σ H' s'∧IsPart u o∧Q o H') X.xe s
def uc:TO:=λ_ H Q=>Q none H
def aF9(t:TE):TO:=λσ H Q=>t σ H λx H1=>∃i,x=.int i∧Q (NC i) H1
theorem intsAre_of{ns:List Int}:∀{us:List A6},Vals (ns.map V.int) us→Da us ns:=by
 induction ns with
 | nil=>intro us r;rw[G6]at r;cases r;exact .nil
 | cons n ns ih=>
  intro us r;rw[D3]at r;cases r with
  | cons r1 r2=>obtain⟨t,e⟩:=r1;subst e;exact .cons n t (ih r2)
section
variable{X:Cx}{e:AD}{te:TE}{lo hi:Option AD}{tl th:TO}{pos p2:Pos}
theorem aEt:PO X none uc:=by intro pins s σ H Q I h;rw[KM];exact AE ⟨none,H,I,.none,h⟩
theorem aEu(h:PE X e te):PO X (NC e) (aF9 te):=by intro pins s σ H Q I hw;rw[evalPart_some];refine jG (h pins s σ H _ I hw) λu s1 ⟨x,H1,I1,r1,q1⟩=>?_;obtain⟨i,rfl,q⟩:=q1;obtain⟨t,rfl⟩:=r1;exact⟨NC i,H1,I1,.int i t,q⟩
def SlR(X:Cx)(r:V→Option Int→Option Int→Hp→VK→Prop):Prop:=
 ∀(pins:List (A7×Obj))(s:A8)(σ:St)(H:Hp)(x:V)(v vl vu:A6)(lo hi:Option Int)(sl:A7)(Q:VK),Inv X pins σ H s→RelV x v→s.heap.IsSliceOf sl vl vu .none→IsPart vl lo→IsPart vu hi→r x lo hi H Q →
  ∃T id,typeLookup (.type T) "__getitem__" = pure (NC (.builtin id))∧s.TypeIs v T∧AF (AG X.prog X.w) X.A (Fs v (.ref sl)) (EP X pins σ Q) X.xe s
def tSl(r:V→Option Int→Option Int→Hp→VK→Prop)(te:TE)(tl th:TO):TE:=λσ H Q=>te σ H λx H1=>tl σ H1 λl H2=>th σ H2 λu H3=>r x l u H3 Q
theorem QF{r:V→Option Int→Option Int→Hp→VK→Prop}(hr:SlR X r)(he:PE X e te)(hl:PO X lo tl)(hu:PO X hi th):PE X (.Subscript e (.Slice lo hi none p2) pos) (tSl r te tl th):=by intro pins s σ H Q I h;refine IQ (jG (he pins s σ H _ I h) λv s1 ⟨x,H1,I1,r1,q1⟩=>?_);refine wpAny_Slice (jG (hl pins s1 σ H1 _ I1 q1) λvl s2 ⟨l,H2,I2,pl,q2⟩=>jG (hu pins s2 σ H2 _ I2 q2) λvu s3 ⟨u,H3,I3,pu,q3⟩=>?_);rw[KM];refine AE ?_;have I4:Inv X pins σ H3 {s3 with heap:=s3.heap.push {cls:=.type "slice", data:=.fields #[vl,vu,.none]}}:=I3.kept (t':=s3.toks) λb ob q=>AA _ q;obtain⟨T,id,hT,ht,hg⟩:=hr pins {s3 with heap:=s3.heap.push {cls:=.type "slice", data:=.fields #[vl,vu,.none]}} σ H3 x v vl vu l u s3.heap.objs.size Q I4 r1 (MG ..) pl pu q3;show AF (AG X.prog X.w) X.A (GW e (.Slice lo hi none p2) v (.ref s3.heap.objs.size)) (EP X pins σ Q) X.xe {s3 with heap:=s3.heap.push {cls:=.type "slice", data:=.fields #[vl,vu,.none]}};exact tail_any (ops:=[.ref s3.heap.objs.size,v]) ht hT hg (by with_unfolding_all rfl)
def fj(xs:List V)(lo hi:Option Int):List V:=(xs.drop (HT.Wm xs.length 0 lo)).take (HT.Wm xs.length xs.length hi-HT.Wm xs.length 0 lo)
theorem QG(xs:List V)(lo hi:Option Int):(fj xs lo hi).length≤xs.length:=by unfold fj;rw[J4,Q5];omega
def aI7(K:aJ):R2:=λx y H Q=>∃a b xs ys,x=.ref a∧y=.ref b∧yV K H a xs∧yV K H b ys∧xs≠[]∧xs.length+ys.length≤sizeLine ∧
 (ys=[]→Q (.ref a) H)∧(ys≠[]→∀p,H p=none→Q (.ref p) (upd H p (.tup (xs++ys))))
theorem Vals.Qx{xs:List V}{us:List A6}(r:Vals xs us):us=[]↔xs=[]:=by
 cases r with
 | nil=>simp
 | cons _ _=>simp
theorem aEv:xR X (BS .Add) (aI7 X.K):=by intro pins s σ H x y v u Q I rx ry h;obtain⟨a,b,xs,ys,rfl,rfl,ha,hb,hx,hz,q1,q2⟩:=h;cases rx;cases ry;obtain⟨its,r1,p1,_⟩:=I.tuple ha;obtain⟨its2,r2,p2,_⟩:=I.tuple hb;refine HT.aEr p1 p2 (λz=>hx (r1.Qx.mp z)) (λz=>⟨.ref a,H,I,U,q1 (r2.Qx.mp z)⟩) (λz=>?_) (by rw[←r1.length,←r2.length];exact hz);refine⟨.ref s.heap.objs.size,_,I.laid (t':=s.toks) (o:=.tup (xs++ys)) (λb ob q=>AA _ q) (C5 _) ?_,U,q2 (λw=>z (r2.Qx.mpr w)) _ (I.hok.fresh (C5 _))⟩;exact⟨by rw[C7];exact hz,_,r1.append r2,MH _ _⟩
end
end L2
namespace L2
open PySem PySem.Spec PyProof.Rows
def aq(n:Nat)(i:Int):Option Nat:=if 0≤i then(if i<n then NC i.toNat else none)else if -(n:Int)≤i then NC (i+n).toNat else none
def au{α:Type}(xs:List α)(i:Int):Option α:=(aq xs.length i).bind λj=>xs[j]?
theorem ud{n:Nat}{i:Int}{j:Nat}(h:aq n i=NC j):KE i n=NC j∧j<n∧-(n:Int)≤i∧i<n:=by
 unfold aq at h;by_cases h0:0≤i
 ·rw[if_pos h0]at h;by_cases h1:i<n
  ·rw[if_pos h1]at h;have e:i.toNat=j:=F5 h;exact⟨by rw[EH h0 h1,e],by omega,by omega,h1⟩
  ·rw[if_neg h1]at h;cases h
 ·rw[if_neg h0]at h;by_cases h1:-(n:Int)≤i
  ·rw[if_pos h1]at h;have e:(i+n).toNat=j:=F5 h;exact⟨by rw[HI (by omega) h1,e],by omega,h1,by omega⟩
  ·rw[if_neg h1]at h;cases h
theorem DP{α:Type}{xs:List α}{i:Int}{v:α}(h:au xs i=NC v):∃j,KE i xs.length=NC j∧xs[j]?=NC v∧j<xs.length∧-(xs.length:Int)≤i∧i<xs.length:=by
 unfold au at h;cases e:aq xs.length i with
 | none=>rw[e]at h;cases h
 | some j=>rw[e]at h;obtain⟨h1,h2,h3,h4⟩:=ud e;exact⟨j,h1,h,h2,h3,h4⟩
theorem aEw{α:Type}{xs:List α}{j:Nat}{v:α}(h:xs[j]?=NC v):au xs (j:Int)=NC v:=by
 have hj:j<xs.length:=(D2.mp h).1;have e:aq xs.length (j:Int)=NC j:=by unfold aq;rw[if_pos (by omega),if_pos (by omega)];simp
 unfold au;rw[e];exact h
def DQ(b:AD):Prop:=∀o i,FY b NG o i=operate [o,i] (Fs o i)
def IxR(X:Cx)(r:R2):Prop:=
 ∀(value slice:AD)(pins:List (A7×Obj))(s:A8)(σ:St)(H:Hp)(x y:V)(v u:A6)(Q:VK),Inv X pins σ H s→RelV x v→RelV y u→r x y H Q →
  FY slice NG v u=operate [v,u] (Fs v u)→AF (AG X.prog X.w) X.A (GW value slice v u) (EP X pins σ Q) X.xe s
def MtR(X:Cx)(id:String)(r:V→List V→Hp→VK→Prop):Prop:=
 ∀(pins:List (A7×Obj))(s:A8)(σ:St)(H:Hp)(x:V)(xs:List V)(v:A6)(us:List A6)(Q:VK),Inv X pins σ H s→RelV x v→Vals xs us→r x xs H Q →
  AF (AG X.prog X.w) X.A (call (.builtin id) (v::us)) (EP X pins σ Q) X.xe s
section
variable{X:Cx}{a b:AD}{ta tb:TE}{pos:Pos}
theorem IxR.or{r r':R2}(h:IxR X r)(h':IxR X r'):IxR X (λx y H Q=>r x y H Q∨r' x y H Q):=by
 intro value slice pins s σ H x y v u Q I rx ry q hs;rcases q with q | q
 ·exact h value slice pins s σ H x y v u Q I rx ry q hs
 ·exact h' value slice pins s σ H x y v u Q I rx ry q hs
theorem aGa{r:R2}(hr:IxR X r)(ha:PE X a ta)(hb:PE X b tb)(hs:DQ b):PE X (.Subscript a b pos) (Xx r ta tb):=by intro pins s σ H Q I h;exact IQ (aG5 ha hb I h λv u s2 x y H2 I2 rx ry q=>hr a b pins s2 σ H2 x y v u Q I2 rx ry q (hs _ _))
def aI8(K:aJ):R2:=λx y H Q=>∃p xs i v,x=.ref p∧y=.int i∧rJ K H p xs∧au xs i=NC v∧Q v H
def aI9(K:aJ):R2:=λx y H Q=>∃p xs i v,x=.ref p∧y=.int i∧yV K H p xs∧au xs i=NC v∧Q v H
def aJa:R2:=λx y H Q=>∃z i c,x=.str z∧y=.int i∧z.length≤sizeLine∧au z.cps.toList i=NC c∧Q (.str ⟨#[c]⟩) H
theorem aEx:IxR X (aI8 X.K):=by
 intro value slice pins s σ H x y v u Q I rx ry h hs;obtain⟨p,xs,i,z,rfl,rfl,hq,he,q⟩:=h;cases rx;obtain⟨t,rfl⟩:=ry;obtain⟨its,r,pl,hz⟩:=I.list hq;obtain⟨j,h1,h2,h3,h4,h5⟩:=DP he;obtain⟨w,ew,Qy⟩:=r.get h2;have hl:=r.length;have hn:=Ry;have fin:EP X pins σ Q w s:=⟨z,H,I,Qy,q⟩
 by_cases h0:0≤i
 ·have hj:i.toNat=j:=by rw[EH h0 h5]at h1;exact F5 h1
  exact item_listR pl.isList h0 (by omega) (by rw[hj];simpa using ew) fin hs
 ·have hj:(i+(its.toArray.size:Int)).toNat=j:=by rw[HI (by omega) h4]at h1;rw[C6,←hl];exact F5 h1
  exact Fa (x:=w) pl.isList.typeIs slot_list_getitem.lookup
   (wpAny_getItem_list_neg (Q:=λr s'=>r=w∧EP X pins σ Q r s') pl.isList (by omega) (by rw[C6]<;>omega) (by omega) (by rw[hj];simpa using ew) ⟨U,fin⟩) hs
theorem aHh:IxR X (aI9 X.K):=by
 intro value slice pins s σ H x y v u Q I rx ry h hs;obtain⟨p,xs,i,z,rfl,rfl,hq,he,q⟩:=h;cases rx;obtain⟨t,rfl⟩:=ry;obtain⟨its,r,pl,hz⟩:=I.tuple hq;obtain⟨j,h1,h2,h3,h4,h5⟩:=DP he;obtain⟨w,ew,Qy⟩:=r.get h2;have hl:=r.length;have hn:=Ry;have fin:EP X pins σ Q w s:=⟨z,H,I,Qy,q⟩
 exact Fa (x:=w) pl.typeIs slot_tuple_getitem.lookup
  (getItem_tuple (j:=j) (Q:=λr s'=>r=w∧EP X pins σ Q r s') pl (by omega) (by omega) (by rw[C6,←hl];exact h1) (by simpa using ew) ⟨U,fin⟩) hs
theorem aHi:IxR X aJa:=by
 intro value slice pins s σ H x y v u Q I rx ry h hs;obtain⟨z,i,c,rfl,rfl,hz,he,q⟩:=h;obtain⟨t,rfl⟩:=rx;obtain⟨t',rfl⟩:=ry;obtain⟨j,h1,h2,h3,h4,h5⟩:=DP he;have hl:z.cps.toList.length=z.length:=by simp[Str.length]
 rw[hl]at h1 h4 h5;have hn:=Ry;exact tail_any (typeIs_str s z t) slot_str_getitem.lookup (getItem_str (c:=c) (by
  have e1:decide (i < -(2 ^ 63:Int))=NG:=decide_eq_false (by omega);have e2:decide (i≥2 ^ 63)=NG:=decide_eq_false (by omega);rw[e1,e2,m9]) (by rw[h1];simpa using h2) ⟨.str ⟨#[c]⟩,H,I.tok _,⟨_,U⟩,q⟩) hs
def rIx(K:aJ):R2:=λx y H Q=>aI8 K x y H Q∨aI9 K x y H Q∨aJa x y H Q
theorem aHj:IxR X (rIx X.K):=aEx.or (aHh.or aHi)
theorem gf(its:List A6)(n j:Nat)(u:A6):DM (·.setIfInBounds j u) {cls:=.type "list", data:=.seq its.toArray n}={cls:=.type "list", data:=.seq (its.set j u).toArray n}:=by simp[DM]
theorem Inv.lst{pins:List (A7×Obj)}{σ:St}{H:Hp}{s:A8}{p:A7}{xs:List V}(I:Inv X pins σ H s)(h:H p=NC (.lst xs)) :
  ∃(its:List A6)(n:Nat),Vals xs its∧s.heap.get? p=NC {cls:=.type "list", data:=.seq its.toArray n}∧xs.length≤sizeLine:=by
 obtain⟨z,its,n,r,e⟩:=I.hok p _ h;exact⟨its,n,r,e,z⟩
theorem Inv.aHk{pins:List (A7×Obj)}{σ:St}{H:Hp}{s:A8}{p:A7}{xs ys:List V}{its its':List A6}{n n':Nat}{f:Obj→Obj}(I:Inv X pins σ H s)(h:H p=NC (.lst xs))
  (ho:s.heap.get? p=NC {cls:=.type "list", data:=.seq its.toArray n}) (hf:f {cls:=.type "list", data:=.seq its.toArray n}={cls:=.type "list", data:=.seq its'.toArray n'}) (r:Vals ys its') (hz:ys.length≤sizeLine) (t:Nat) :
  Inv X pins σ (upd H p (.lst ys)) {s with heap:=s.heap.update p f,toks:=t}:=by
 have e:(s.heap.update p f).get? p=NC {cls:=.type "list", data:=.seq its'.toArray n'}:=by rw[B4 f ho (by rw[hf]<;>rfl),hf]
 refine I.write (x:=p) (e:=p) (by rw[h];trivial) (.inl U) (λb u hb q=>(BD _ _ (Ne.symm hb)).trans q) ⟨_,e⟩ ?_;exact⟨hz,its',n',r,e⟩
def Yh:V→V→V→Hp→(Hp→Prop)→Prop:=λo i v H Q=>∃p xs k j,o=.ref p∧i=.int k∧H p=NC (.lst xs)∧aq xs.length k=NC j∧Q (upd H p (.lst (xs.set j v)))
theorem set_list:aIV X Yh:=by
 intro pins s σ H o i v ov iv u Q I ro ri rv h;obtain⟨p,xs,k,j,rfl,rfl,hp,hj,q⟩:=h;cases ro;obtain⟨t,rfl⟩:=ri;obtain⟨its,n,r,ho,hz⟩:=I.lst hp;obtain⟨h1,h2,h3,h4⟩:=ud hj;have hl:=r.length;have hn:=Ry;have I':Inv X pins σ (upd H p (.lst (xs.set j v))) {s with heap:=s.heap.update p (DM (·.setIfInBounds j u))}:=
  I.aHk hp ho (gf its n j u) (r.set rv j) (by rw[K9];exact hz) s.toks
 by_cases h0:0≤k
 ·have hk:k.toNat=j:=by rw[EH h0 h4]at h1;exact F5 h1
  exact PySem.W.ki_setAt ho h0 (by omega) (by rw[C6,←hl];exact h4) (by rw[hk];exact⟨_,I',q⟩)
 ·have hk:(k+(its.toArray.size:Int)).toNat=j:=by rw[HI (by omega) h3]at h1;rw[C6,←hl];exact F5 h1
  exact PySem.W.ki_setBack ho (by omega) (by rw[C6,←hl];exact h3) (by omega) (by rw[hk];exact⟨_,I',q⟩)
theorem DR(lo hi:Option Int)(n:Nat):(DD lo hi none n).1=((HT.Wm n 0 lo:Nat):Int)∧(DD lo hi none n).2.1=((HT.Wm n n hi:Nat):Int)∧(DD lo hi none n).2.2=1:=by
 refine⟨?_,?_,U⟩
 ·cases lo with
  | none=>simp[DD,HT.Wm]
  | some i=>
   simp only[DD,HT.Wm,j4,show (1:Int) > 0 by decide,if_true];by_cases h:i<0
   ·simp only[h,if_true]<;>omega
   ·simp only[h,if_false]<;>omega
 ·cases hi with
  | none=>simp[DD,HT.Wm]
  | some i=>
   simp only[DD,HT.Wm,j4,show (1:Int) > 0 by decide,if_true];by_cases h:i<0
   ·simp only[h,if_true]<;>omega
   ·simp only[h,if_false]<;>omega
theorem Wn(its:List A6)(lo hi:Option Int):slicePick its.toArray lo hi none=((its.drop (HT.Wm its.length 0 lo)).take (HT.Wm its.length its.length hi-HT.Wm its.length 0 lo)).toArray:=by obtain⟨h1,h2,h3⟩:=DR lo hi its.toArray.size;unfold slicePick;rw[h1,h2,h3];simp only[sliceRange_one,pick_run,C6]<;>rfl
def aEy(K:aJ):V→Option Int→Option Int→Hp→VK→Prop:=λx lo hi H Q=>∃a xs,x=.ref a∧rJ K H a xs∧∀p,H p=none→Q (.ref p) (upd H p (.lst (fj xs lo hi)))
theorem aEz:SlR X (aEy X.K):=by intro pins s σ H x v vl vu lo hi sl Q I rx hs pl pu h;obtain⟨a,xs,rfl,hx,q⟩:=h;cases rx;obtain⟨its,r,ht,hz⟩:=I.list hx;have hlen:=r.length;refine⟨"list", _,slot_list_getitem.lookup,ht.isList.typeIs,?_⟩;refine wpAny_getItem_list_slice ht.isList hs pl pu .none (by simp) ?_ (by rw[C6]<;>omega);rw[Wn,←hlen];refine⟨.ref s.heap.objs.size,_,I.laid (t':=s.toks) (o:=.lst (fj xs lo hi)) (λb ob q=>AA _ q) (C5 _) ?_,U,q _ (I.hok.fresh (C5 _))⟩;exact⟨G0 (QG xs lo hi) hz,_,0,(r.drop (HT.Wm xs.length 0 lo)).take (HT.Wm xs.length xs.length hi-HT.Wm xs.length 0 lo),AK _ U⟩
def Bo:V→Bool
 | .non=>NF
 | .bl _=>NF
 | .int _=>NF
 | .str _=>NF
 | _=>NG
def eqV:V→V→Bool
 | .non,.non=>NF
 | .bl a,.bl b=>a==b
 | .bl a,.int b=>(if a then 1 else 0)==b
 | .int a,.bl b=>a==(if b then 1 else 0)
 | .int a,.int b=>a==b
 | .str a,.str b=>a==b
 | _,_=>NG
theorem aHl{A:AL}{s:A8}{y x:V}{u v:A6}(ry:RelV y u)(rx:RelV x v)(fy:Bo y=NF)(fx:Bo x=NF):LV A s u v (eqV y x):=by
 cases y with
 | non=>
  cases ry;cases x with
  | non=>cases rx;exact MY _
  | bl b=>cases rx;exact LW b
  | int b=>obtain⟨t,rfl⟩:=rx;exact Lm b t
  | str b=>obtain⟨t,rfl⟩:=rx;exact Lo b t
  | _=>exact absurd (show NG=NF from fx) E8
 | bl a=>
  cases ry;cases x with
  | non=>cases rx;exact LX a
  | bl b=>cases rx;exact LY a b
  | int b=>obtain⟨t,rfl⟩:=rx;exact Lu a b t
  | str b=>obtain⟨t,rfl⟩:=rx;exact Lv a b t
  | _=>exact absurd (show NG=NF from fx) E8
 | int a=>
  obtain⟨t',rfl⟩:=ry;cases x with
  | non=>cases rx;exact MA a t'
  | bl b=>cases rx;exact MB a t' b
  | int b=>obtain⟨t,rfl⟩:=rx;exact MI a t' b t
  | str b=>obtain⟨t,rfl⟩:=rx;exact Go a t' b t
  | _=>exact absurd (show NG=NF from fx) E8
 | str a=>
  obtain⟨t',rfl⟩:=ry;cases x with
  | non=>cases rx;exact MC a t'
  | bl b=>cases rx;exact MD a t' b
  | int b=>obtain⟨t,rfl⟩:=rx;exact HA a t' b t
  | str b=>obtain⟨t,rfl⟩:=rx;exact ML a t' b t
  | _=>exact absurd (show NG=NF from fx) E8
 | _=>exact absurd (show NG=NF from fy) E8
def eqU(x:V)(u:A6):Bool:=match u with
 | .none=>eqV .non x
 | .bool b=>eqV (.bl b) x
 | .int i _=>eqV (.int i) x
 | .str z _=>eqV (.str z) x
 | _=>NG
theorem aBO{x y:V}{u:A6}(r:RelV y u)(f:Bo y=NF):eqU x u=eqV y x:=by
 cases y with
 | non=>cases r;rfl
 | bl b=>cases r;rfl
 | int i=>obtain⟨t,rfl⟩:=r;rfl
 | str z=>obtain⟨t,rfl⟩:=r;rfl
 | _=>exact absurd (show NG=NF from f) E8
theorem DW{x:V}:∀{xs:List V} {us:List A6},Vals xs us→xs.all Bo=NF→us.any (eqU x)=xs.any λy=>eqV y x
 | _,_,.nil,_=>rfl
 | y::xs,u::us,.cons r t,f=>by rw[n8,G7]at f;rw[S9,S9,aBO r f.1,DW t f.2]
theorem Sg{A:AL}{s:A8}{x:V}{v:A6}(rx:RelV x v)(fx:Bo x=NF):∀{xs:List V} {us:List A6},Vals xs us→xs.all Bo=NF→∀u∈us,LV A s u v (eqU x u)
 | _,_,.nil,_=>λu hu=>by cases hu
 | y::xs,u::us,.cons r t,f=>λu' hu=>by
  rw[n8,G7]at f;rcases D5.mp hu with rfl | hu
  ·rw[aBO r f.1];exact aHl r rx f.1 fx
  ·exact Sg rx fx t f.2 u' hu
def inV(x:V)(xs:List V):Bool:=xs.any λy=>eqV y x
def rIn(K:aJ)(neg:Bool):R2:=λx y H Q=>∃p xs,y=.ref p∧(rJ K H p xs∨yV K H p xs)∧Bo x=NF∧xs.all Bo=NF∧Q (.bl (if neg then !inV x xs else inV x xs)) H
theorem DX:xR X (AS .NotIn) (rIn X.K NF):=by
 intro pins s σ H x y v u Q I rx ry h;obtain⟨p,xs,rfl,hq,fx,fs,q⟩:=h;cases ry;rcases hq with hq | hq
 ·obtain⟨its,r,pl,hz⟩:=I.list hq;refine SeqAt.notIn_listAt (eqU x) pl.isList (λw hw=>Sg rx fx r fs w (by simpa using hw)) ⟨.bl _,H,I,U,?_⟩;rw[show its.toArray.any (eqU x)=its.any (eqU x) by simp,DW r fs];exact q
 ·obtain⟨its,r,pl,hz⟩:=I.tuple hq;refine SeqAt.notIn_tupleAt (eqU x) pl (λw hw=>Sg rx fx r fs w (by simpa using hw)) ⟨.bl _,H,I,U,?_⟩;rw[show its.toArray.any (eqU x)=its.any (eqU x) by simp,DW r fs];exact q
theorem DY:oJ X (.builtin "len") (λxs H Q=>∃p ys,xs=[.ref p]∧(rJ X.K H p ys∨yV X.K H p ys)∧Q (.int ys.length) H):=by
 intro pins s σ H xs us Q I r h;obtain⟨p,ys,rfl,hq,q⟩:=h;obtain⟨u,rfl,rx⟩:=vals1 r;cases rx;have hn:=Ry;rcases hq with hq | hq
 ·obtain⟨its,r',pl,hz⟩:=I.list hq;have hlen:=r'.length;exact Calls.call_len_list pl.isList (by simp only[C6]<;>omega) ⟨.int ys.length,H,I.tok _,⟨s.toks+1,by rw[C6,hlen]⟩,q⟩
 ·obtain⟨its,r',pl,hz⟩:=I.tuple hq;have hlen:=r'.length;exact len_tuple pl (by simp only[C6]<;>omega) ⟨.int ys.length,H,I.tok _,⟨s.toks+1,by rw[C6,hlen]⟩,q⟩
theorem EY:oJ X (.type "list") (λxs H Q=>∃p ys,xs=[.ref p]∧(rJ X.K H p ys∨yV X.K H p ys)∧∀l,H l=none→Q (.ref l) (upd H l (.lst ys))):=by
 intro pins s σ H xs us Q I r h;obtain⟨p,ys,rfl,hq,q⟩:=h;obtain⟨u,rfl,rx⟩:=vals1 r;cases rx;have fin:∀(its:List A6),Vals ys its→ys.length≤sizeLine→∀(h':AM)(c':Nat),(∀b o',s.heap.get? b=NC o'→h'.get? b=NC o') →
   h'.get? s.heap.objs.size=NC {cls:=.type "list", dict:=none,data:=.seq its.toArray c',slots:=#[]}→EP X pins σ Q (.ref s.heap.objs.size) {s with heap:=h'}:=λits r' hz h' c' kp e=>
  ⟨.ref s.heap.objs.size,_,I.laid (t':=s.toks) kp (C5 _) (show jZ X.prog X.w _ h' _ (.lst ys)from⟨hz,its,c',r',e⟩),U,q _ (I.hok.fresh (C5 _))⟩
 rcases hq with hq | hq
 ·obtain⟨its,r',pl,hz⟩:=I.list hq;have hlen:=r'.length;obtain⟨o,ho,hc,n,hd⟩:=pl.isList;exact KO p (.inl U) ho hc hd (λh' c' kp e=>fin its r' hz h' c' kp e) (by simp only[C6]<;>omega)
 ·obtain⟨its,r',pl,hz⟩:=I.tuple hq;have hlen:=r'.length;obtain⟨o,ho,hc,n,hd⟩:=pl;exact KO p (.inr U) ho hc hd (λh' c' kp e=>fin its r' hz h' c' kp e) (by simp only[C6]<;>omega)
theorem Wo:oJ X (.type "tuple") (λxs H Q=>∃p ys,xs=[.ref p]∧((rJ X.K H p ys∧∀l,H l=none→Q (.ref l) (upd H l (.tup ys)))∨(yV X.K H p ys∧Q (.ref p) H))):=by
 intro pins s σ H xs us Q I r h;obtain⟨p,ys,rfl,h⟩:=h;obtain⟨u,rfl,rx⟩:=vals1 r;cases rx;rcases h with ⟨hq,q⟩ | ⟨hq,q⟩
 ·obtain⟨its,r',pl,hz⟩:=I.list hq;have hlen:=r'.length;refine call_tuple_list pl.isList (λh' kp=>?_) (by simp only[C6]<;>omega);have I1:Inv X pins σ H {s with heap:=h'}:=I.kept (t':=s.toks) kp;have I2:Inv X pins σ (upd H h'.objs.size (.tup ys)) {s with heap:=h'.push {cls:=.type "tuple", data:=.seq its.toArray}}:=
   I1.laid (t':=s.toks) (λb o e=>AA _ e) (C5 _) (show jZ X.prog X.w _ _ _ (.tup ys)from⟨hz,its,r',MH _ _⟩)
  exact⟨.ref h'.objs.size,_,I2,U,q _ (I1.hok.fresh (C5 _))⟩
 ·obtain⟨its,r',pl,hz⟩:=I.tuple hq;exact call_tuple_same pl ⟨.ref p,H,I,U,q⟩
def tyV(K:aJ)(T:String)(x:V)(H:Hp):Prop:=match x with
 | .str _=>T = "str"
 | .int _=>T = "int"
 | .ref p=>(T = "list" ∧ ∃xs,rJ K H p xs)∨(T = "tuple" ∧ ∃o,K.lookup p=NC o∧o.cls=.type "tuple" ∧ o.dict=none) ∨
   (T = "dict" ∧ ((∃kvs,H p=NC (.dK kvs))∨∃kvs,H p=NC (.dT kvs)))∨(T = "set" ∧ ∃S n,H p=NC (.set S n))
 | _=>False
theorem aHm{pins:List (A7×Obj)}{σ:St}{H:Hp}{s:A8}{T:String}{x:V}{v:A6}(I:Inv X pins σ H s)(r:RelV x v)(ty:tyV X.K T x H) :
  s.TypeIs v T∧∀a,v=.ref a→∃ob,s.heap.get? a=NC ob∧ob.dict=none:=by
 cases x with
 | str z=>
  obtain⟨t,rfl⟩:=r
  cases(show T = "str" from ty)
  exact⟨typeIs_str s z t,λ_ e=>nomatch e⟩
 | int i=>
  obtain⟨t,rfl⟩:=r
  cases(show T = "int" from ty)
  exact⟨typeIs_int s i t,λ_ e=>nomatch e⟩
 | ref p=>
  cases r;rcases ty with ⟨rfl,xs,hq⟩ | ⟨rfl,o,hk,hc,hd⟩ | ⟨rfl,hk⟩ | ⟨rfl,S,n,hk⟩
  ·obtain⟨its,_,pl,_⟩:=I.list hq;refine⟨pl.isList.typeIs,λa e=>?_⟩;cases e;obtain⟨o,n,e,c,hd,_⟩:=pl;exact⟨o,e,hd⟩
  ·refine⟨⟨o,I.Lw p o hk,hc⟩,λa e=>?_⟩;cases e;exact⟨o,I.Lw _ o hk,hd⟩
  ·have z:∃o,s.heap.get? p=NC o∧o.ExactDict:=by
    rcases hk with ⟨kvs,hk⟩ | ⟨kvs,hk⟩
    ·obtain⟨_,_,_,_,o,_,_,e,ex,_⟩:=I.hok p _ hk;exact⟨o,e,ex⟩
    ·obtain⟨_,_,_,_,o,_,_,e,ex,_⟩:=I.hok p _ hk;exact⟨o,e,ex⟩
   obtain⟨o,e,ex⟩:=z;refine⟨⟨o,e,ex.1⟩,λa e2=>?_⟩;cases e2;exact⟨o,e,ex.2.1⟩
  ·obtain⟨o,_,_,_,e,ex,_⟩:=I.hok p _ hk;refine⟨⟨o,e,ex.1⟩,λa e2=>?_⟩;cases e2;exact⟨o,e,ex.2.1⟩
 | _=>exact False.elim ty
def Sh(K:aJ)(T:String)(r:V→List V→Hp→VK→Prop)(to:TE)(t:TA):TE:=λσ H Q=>to σ H λx H1=>tyV K T x H1∧t σ H1 λxs H2=>r x xs H2 Q
variable{o e:AD}{es:List AD}{to:TE}{t:TA}{name:Str}{apos cpos:Pos}{T id:String}{r:V→List V→Hp→VK→Prop}
theorem sG(pa:PlainAttrs T)(slot:Slot T name id)(hty:typeOf (.builtin id)=pure (.type "method_descriptor")) (hm:MtR X id r) (ho:PE X o to) (ha:PA X (e::es) t)
  (hbase:CI o name X.env (AO o X.env)=AO o X.env:=by rfl)
  (hfew:((AY cpos (AB (e::es) X.env)).all (λx=>!x.1)&&(DJ cpos (Bz [] X.env)).all (λx=>x.1.isSome)
   && decide ((e::es).length+([]:List EW).length+(if([]:List EW).isEmpty then 0 else 1)<30))=NF:=by rfl)
  (hline:(apos.endLine==cpos.line)=NF:=by rfl) (hs:AB (e::es) X.env=(NG,AO e X.env)::AB es X.env:=by rfl) (hplain:(AY cpos (AB es X.env)).any (·.1)=NG:=by rfl) :
  PE X (.Call (.Attribute o name apos) (e::es) [] cpos) (Sh X.K T r to t):=by
 intro pins s σ H Q I h;refine wpAny_Call_method_late hbase hfew hline U (jG (ho pins s σ H _ I h) λv s1 ⟨x,H1,I1,r1,ty,q1⟩=>?_);obtain⟨h1,h2⟩:=aHm I1 r1 ty;refine⟨T,id,pa,slot,hty,h1,h2,?_⟩;have hA:=ha cpos pins s1 σ H1 _ I1 q1;rw[hs]at hA ⊢;refine Fh (by show (NG||(AY cpos (AB es X.env)).any (·.1))=NG;rw[hplain]<;>rfl) (GL ?_);exact jG hA λus s2 ⟨vs,H2,I2,r2,q2⟩=>hm pins s2 σ H2 x vs v us Q I2 r1 r2 q2
end
end L2
namespace L2
open PySem PySem.Spec PyProof.Rows
def MtM(X:Cx)(id:String)(r:V→List V→Hp→VK→Prop):Prop:=
 ∀(pins:List (A7×Obj))(s:A8)(σ:St)(H:Hp)(x:V)(xs:List V)(v:A6)(us:List A6)(Q:VK),Inv X pins σ H s→RelV x v→Vals xs us→r x xs H Q →
  AF (AG X.prog X.w) X.A (call (.builtin id) (v::us)) (EP X pins σ Q) X.xe s
theorem Vals.one:∀{x:V} {us:List A6},Vals [x] us→∃u,us=[u]∧RelV x u
 | _,_,.cons r .nil=>⟨_,U,r⟩
theorem Vals.two:∀{x y:V} {us:List A6},Vals [x,y] us→∃u v,us=[u,v]∧RelV x u∧RelV y v
 | _,_,_,.cons r (.cons q .nil)=>⟨_,_,U,r,q⟩
theorem Vals.eraseIdx:∀{xs:List V} {us:List A6} (i:Nat),Vals xs us→Vals (xs.eraseIdx i) (us.eraseIdx i)
 | _,_,_,.nil=>.nil
 | _,_,0,.cons _ t=>t
 | _,_,i+1,.cons r t=>.cons r (Vals.eraseIdx i t)
theorem Lz{α:Type}:∀(l:List α)(i:Nat),(l.eraseIdx i).length≤l.length
 | [],_=>C5 _
 | _::_,0=>M9 _
 | _::r,i+1=>T0 (Lz r i)
section
variable{X:Cx}{pins:List (A7×Obj)}{σ:St}{H:Hp}{s:A8}{l b:A7}{xs ys zs:List V}
theorem Inv.aEA{its its':List A6}{n:Nat}{f:Array A6→Array A6}{t':Nat}(I:Inv X pins σ H s)(hH:H l=NC (.lst xs))
  (e:s.heap.get? l=NC {cls:=.type "list", data:=.seq its.toArray n}) (hf:f its.toArray=its'.toArray) (hv:Vals ys its') (hz:ys.length≤sizeLine) :
  Inv X pins σ (upd H l (.lst ys)) {s with heap:=s.heap.update l (DM f),toks:=t'}:=by
 have q:=PySem.IsL.update e f;rw[hf]at q;refine I.write (x:=l) (e:=l) (by rw[hH];exact trivial) (.inl U) (λb' u hb hu=>(BD s.heap (DM f) (Ne.symm hb)).trans hu) ⟨_,q⟩ ?_;exact⟨hz,its',_,hv,q⟩
theorem Inv.aJc{its:List A6}{t':Nat}(I:Inv X pins σ H s)(hv:Vals ys its)(hz:ys.length≤sizeLine) :
  Inv X pins σ (upd H s.heap.objs.size (.lst ys)) {s with heap:=s.heap.push {cls:=.type "list", data:=.seq its.toArray},toks:=t'}:=
 I.laid (λ_ _ q=>AA _ q) (C5 _) ⟨hz,its,0,hv,AK _ U⟩
theorem Inv.fresh(I:Inv X pins σ H s):H s.heap.objs.size=none:=I.hok.fresh (C5 _)
theorem Inv.aEB(I:Inv X pins σ H s)(hH:H l=NC (.lst xs)):xs.length≤sizeLine∧∃(its:List A6)(n:Nat),Vals xs its∧xs.length=its.length∧s.heap.get? l=NC {cls:=.type "list", data:=.seq its.toArray n}:=by obtain⟨z,its,n,r,e⟩:=I.hok l _ hH;exact⟨z,its,n,r,r.length,e⟩
end
section
variable{X:Cx}
def uA:V→List V→Hp→VK→Prop:=λx vs H Q=>∃l xs y,x=.ref l∧vs=[y]∧H l=NC (.lst xs)∧xs.length<sizeLine∧Q .non (upd H l (.lst (xs++[y])))
theorem lM:MtM X "list.append" uA:=by intro pins s σ H x vs v us Q I rx rv h;obtain⟨l,xs,y,rfl,rfl,hH,hz,q⟩:=h;cases rx;obtain⟨u,rfl,ru⟩:=rv.one;obtain⟨z,its,n,r,hl,e⟩:=I.aEB hH;refine EV F.slot_list_append ⟨_,e,U⟩ F.entry_list_append (F.args_list_append_2 _ _) (PySem.list_append l its.toArray n u (by rw[C6];omega)) ⟨e,?_⟩;refine⟨.non,_,I.aEA (its':=its++[u]) hH e (by simp) (r.append (.cons ru .nil)) ?_,U,q⟩;rw[C7,List.length_singleton];omega
def Gx:V→List V→Hp→VK→Prop:=λx vs H Q=>∃l xs i k y,x=.ref l∧vs=[.int i]∧H l=NC (.lst xs)∧-(2 ^ 63)≤i∧i<2 ^ 63∧KE i xs.length=NC k∧xs[k]?=NC y∧Q y (upd H l (.lst (xs.eraseIdx k)))
theorem QH:MtM X "list.pop" Gx:=by
 intro pins s σ H x vs v us Q I rx rv h;obtain⟨l,xs,i,k,y,rfl,rfl,hH,h1,h2,hk,hy,q⟩:=h;cases rx;obtain⟨u,rfl,ru⟩:=rv.one;obtain⟨t,rfl⟩:=ru;obtain⟨z,its,n,r,hl,e⟩:=I.aEB hH;obtain⟨w,hw,Qy⟩:=r.get hy;refine EV F.slot_list_pop ⟨_,e,U⟩ F.entry_list_pop (F.args_list_pop_2 _ _)
  (LZ l its.toArray n i t k w (JE h1 h2) (by rw[C6,←hl];exact hk) (by rw[←L7];exact hw) (by rw[C6];omega)) ⟨e,?_⟩
 refine⟨y,_,I.aEA (its':=its.eraseIdx k) hH e ?_ (r.eraseIdx k) ?_,Qy,q⟩
 ·show its.toArray.eraseIdxIfInBounds k=(its.eraseIdx k).toArray;rw[T9]
 ·have:=Lz xs k;omega
end
section
variable{prog:AJ}{w:AN}{A:AL}{E:A6→A8→Prop}{s:A8}
end
section
variable{X:Cx}
end
end L2
namespace L2
open PySem PySem.Spec PyProof.Rows
section
variable{κ:Type} [DecidableEq κ]
def tG(kvs:List (κ×V))(k:κ):Option V:=(kvs.find? λkv=>decide (kv.1=k)).map (·.2)
def putK(kvs:List (κ×V))(k:κ)(v:V):List (κ×V):=
 if(kvs.any λkv=>decide (kv.1=k))=NF then kvs.map (λkv=>if kv.1=k then(kv.1,v)else kv)else kvs++[(k,v)]
def aLq(kvs:List (κ×V))(k:κ):List (κ×V):=kvs.filter λkv=>decide (kv.1≠k)
theorem Sq{p:κ×V}{r:List (κ×V)}{k:κ}(e:p.1=k):tG (p::r) k=NC p.2:=by simp[tG,O0,e]
theorem Ss{p:κ×V}{r:List (κ×V)}{k:κ}(e:¬p.1=k):tG (p::r) k=tG r k:=by simp[tG,O0,e]
theorem Bp(k:κ):∀kvs:List (κ×V),(kvs.any λkv=>decide (kv.1=k))=(tG kvs k).isSome
 | []=>rfl
 | p::r=>by
  rw[S9];by_cases e:p.1=k
  ·simp only[Sq e,decide_eq_true e,Bool.true_or,e9]
  ·rw[Ss e,decide_eq_false e,Bool.false_or];exact Bp k r
theorem wC(kvs:List (κ×V))(k:κ)(v:V):(putK kvs k v).length≤kvs.length+1:=by
 unfold putK;split
 ·rw[B6];omega
 ·rw[C7,F0,j9];omega
theorem aBP{kvs:List (κ×V)}{k:κ}(v:V)(h:tG kvs k=none):putK kvs k v=kvs++[(k,v)]:=by unfold putK;rw[Bp,h];exact if_neg (by decide)
theorem Bd.xT{o:Option V}{u:Option A6}(r:Bd o u):o.isSome=u.isSome:=by
 cases o with
 | none=>cases u with
  | none=>rfl
  | some _=>exact(show False from r).elim
 | some _=>cases u with
  | none=>exact(show False from r).elim
  | some _=>rfl
theorem Bd.getD{o:Option V}{u:Option A6}{d:V}{d':A6}(r:Bd o u)(rd:RelV d d'):RelV (o.getD d) (u.getD d'):=by
 cases o with
 | none=>cases u with
  | none=>exact rd
  | some _=>exact(show False from r).elim
 | some _=>cases u with
  | none=>exact(show False from r).elim
  | some _=>exact r
theorem KV.val{kvs:List (κ×V)}{vs:List (κ×A6)}(r:KV kvs vs)(k:κ):Bd (tG kvs k) (EX vs k):=by
 unfold KV at r
 induction r with
 | nil=>exact True.intro
 | @cons p q ps qs h t ih=>
  obtain⟨h1,h2⟩:=h;by_cases e:p.1=k
  ·have e':q.1=k:=h1.symm.trans e;have b:EX (q::qs) k=NC q.2:=by simp[EX,O0,e']
   rw[Sq e,b];exact h2
  ·have e':¬q.1=k:=λz=>e (h1.trans z);have b:EX (q::qs) k=EX qs k:=by simp[EX,O0,e']
   rw[Ss e,b];exact ih
theorem KV.any{kvs:List (κ×V)}{vs:List (κ×A6)}(r:KV kvs vs)(k:κ):(kvs.any λkv=>decide (kv.1=k))=vs.any λkv=>decide (kv.1=k):=by
 unfold KV at r
 induction r with
 | nil=>rfl
 | cons h t ih=>rw[S9,S9,ih,h.1]
theorem KV.repl{kvs:List (κ×V)}{vs:List (κ×A6)}(r:KV kvs vs)(k:κ){y:V}{u:A6}(ry:RelV y u) :
  KV (kvs.map λkv=>if kv.1=k then(kv.1,y)else kv) (vs.map λkv=>if kv.1=k then(kv.1,u)else kv):=by
 unfold KV at r ⊢
 induction r with
 | nil=>exact .nil
 | @cons p q ps qs h t ih=>
  rw[D3,D3];refine .cons ?_ ih;obtain⟨h1,h2⟩:=h;by_cases e:p.1=k
  ·rw[if_pos e,if_pos (h1.symm.trans e)];exact⟨h1,ry⟩
  ·rw[if_neg e,if_neg (λz=>e (h1.trans z))];exact⟨h1,h2⟩
theorem KV.put{kvs:List (κ×V)}{vs:List (κ×A6)}(r:KV kvs vs)(k:κ){y:V}{u:A6}(ry:RelV y u):KV (putK kvs k y) (stored vs k u):=by
 unfold putK stored;rw[r.any k];by_cases e:(vs.any λkv=>decide (kv.1=k))=NF
 ·rw[if_pos e,if_pos e];exact r.repl k ry
 ·rw[if_neg e,if_neg e];exact LU r ⟨U,ry⟩
theorem KV.keys{kvs:List (κ×V)}{vs:List (κ×A6)}(r:KV kvs vs):kvs.map (·.1)=vs.map (·.1):=by
 unfold KV at r
 induction r with
 | nil=>rfl
 | cons h t ih=>rw[D3,D3,ih,h.1]
theorem KV.length{kvs:List (κ×V)}{vs:List (κ×A6)}(r:KV kvs vs):kvs.length=vs.length:=GO r
end
theorem Su{P:AJ}{w:AN}{k:Key}{u:A6}(r:RelV (kV k) u):(iI P w).is k u=NF:=by
 cases k with
 | inl i=>obtain⟨t,e⟩:=(show ∃t,u=CL i t from r);subst e;exact PB P w i t
 | inr x=>obtain⟨t,e⟩:=(show ∃t,u=FV x t from r);subst e;exact PJ P w x t
theorem Yi{P:AJ}{w:AN}:∀{ks:List Key} {us:List A6},Vals (ks.map kV) us→ItemsAre (iI P w) ks us
 | [],_,r=>by rw[G6]at r;cases r;exact .nil
 | k::ks,_,r=>by
  rw[D3]at r;cases r with
  | cons h t=>exact .cons (Su h) (Yi t)
abbrev KT(H:Hp):List (List Key×V)→List (List Key×A7×A6)→Prop:=Paired λp q=>p.1=q.1∧H q.2.1=NC (.tup (p.1.map kV))∧RelV p.2 q.2.2
theorem KT.val{H:Hp}{kvs:List (List Key×V)}{xs:List (List Key×A7×A6)}(r:KT H kvs xs)(k:List Key):Bd (tG kvs k) ((FX xs k).map (·.2)):=by
 induction r with
 | nil=>exact True.intro
 | @cons p q ps qs h t ih=>
  obtain⟨h1,_,h2⟩:=h;by_cases e:p.1=k
  ·have e':q.1=k:=h1.symm.trans e;have b:FX (q::qs) k=NC q.2:=by simp[FX,O0,e']
   rw[Sq e,b];exact h2
  ·have e':¬q.1=k:=λz=>e (h1.trans z);have b:FX (q::qs) k=FX qs k:=by simp[FX,O0,e']
   rw[Ss e,b];exact ih
theorem KT.repl{H:Hp}{kvs:List (List Key×V)}{xs:List (List Key×A7×A6)}(r:KT H kvs xs)(k:List Key){y:V}{u:A6}(ry:RelV y u) :
  KT H (kvs.map λkv=>if kv.1=k then(kv.1,y)else kv) (xs.map (putAt k u)):=by
 induction r with
 | nil=>exact .nil
 | @cons p q ps qs h t ih=>
  rw[D3,D3];refine .cons ?_ ih;obtain⟨h1,h2,h3⟩:=h;unfold putAt;by_cases e:p.1=k
  ·rw[if_pos e,if_pos (h1.symm.trans e)];exact⟨h1,h2,ry⟩
  ·rw[if_neg e,if_neg (λz=>e (h1.trans z))];exact⟨h1,h2,h3⟩
theorem KT.put{H:Hp}{kvs:List (List Key×V)}{xs:List (List Key×A7×A6)}(r:KT H kvs xs)(k:List Key){b:A7}{y:V}{u:A6}(hb:H b=NC (.tup (k.map kV)))(ry:RelV y u) :
  KT H (putK kvs k y) (storedH xs k b u):=by
 have e:(kvs.any λkv=>decide (kv.1=k))=(FX xs k).isSome:=by rw[Bp,(r.val k).xT,W9]
 unfold putK storedH;rw[e];by_cases q:(FX xs k).isSome=NF
 ·rw[if_pos q,if_pos q];exact r.repl k ry
 ·rw[if_neg q,if_neg q];exact LU r ⟨U,hb,ry⟩
theorem KT.keeps{H H':Hp}{kvs:List (List Key×V)}{xs:List (List Key×A7×A6)}(r:KT H kvs xs)(ht:∀b ys,H b=NC (.tup ys)→H' b=NC (.tup ys)):KT H' kvs xs:=
 Paired.aGP r λ_ _ z=>⟨z.1,ht _ _ z.2.1,z.2.2⟩
section
variable{P:AJ}{w:AN}{H:Hp}{h:AM}{a:A7}
theorem aGb{u:HO}(ok:Gs P w H h)(e:Rd H a u):jZ P w H h a u:=e.ok ok
theorem Ou{kvs:List (Key×V)}(ok:Gs P w H h)(e:Rd H a (.dK kvs)):kvs.length≤sizeLine∧(a==BM)=NG∧∃vs,KV kvs vs∧h.DictOf (iI P w) a vs:=
 show jZ P w H h a (.dK kvs)from aGb ok e
theorem aGc{kvs:List (Key×V)}(ok:Gs P w H h)(e:H a=NC (.dK kvs)):kvs.length≤sizeLine∧(a==BM)=NG∧∃vs,KV kvs vs∧h.DictOf (iI P w) a vs:=Ou ok (.inl e)
theorem Ma{ks:List Key}(ok:Gs P w H h)(e:H a=NC (.tup (ks.map kV))):(EI (iI P w)).is h ks a:=by
 obtain⟨_,its,r,o,h1,h2,n,h3⟩:=(show jZ P w H h a (.tup (ks.map kV))from ok a _ e)
 exact⟨o,its.toArray,n,h1,h2,h3,by simpa using Yi r⟩
theorem Sv{kvs:List (List Key×V)}(ok:Gs P w H h)(e:Rd H a (.dT kvs)):kvs.length≤sizeLine∧(a==BM)=NG ∧
  ∃xs,KT H kvs xs∧h.DictOfH (EI (iI P w)) a xs:=by
 obtain⟨z,y,xs,r,o,es,ep,h1,h2,h3,h4,h5⟩:=(show jZ P w H h a (.dT kvs)from aGb ok e)
 refine⟨z,y,xs,r,o,es,ep,h1,h2,h3,h4,λx hx=>?_,h5⟩;have all:∀{l:List (List Key×V)} {m:List (List Key×A7×A6)},KT H l m→∀x∈m,(EI (iI P w)).is h x.1 x.2.1:=by
  intro l m q
  induction q with
  | nil=>intro x hx;exact nomatch hx
  | @cons p q ps qs hq t ih=>
   intro x hx;rcases D5.mp hx with e | hx
   ·subst e;exact Ma ok (by rw[←hq.1];exact hq.2.1)
   ·exact ih x hx
 exact all r x hx
theorem aJd{kvs:List (List Key×V)}(ok:Gs P w H h)(e:H a=NC (.dT kvs)):kvs.length≤sizeLine∧(a==BM)=NG ∧
  ∃xs,KT H kvs xs∧h.DictOfH (EI (iI P w)) a xs:=Sv ok (.inl e)
end
def Jj(H:Hp)(a:A7)(y:V)(r:Option V):Prop:=
 (∃kvs k,Rd H a (.dK kvs)∧y=kV k∧r=tG kvs k)∨∃kvs k b,Rd H a (.dT kvs)∧y=.ref b∧H b=NC (.tup (k.map kV))∧r=tG kvs k
def aJe(H:Hp)(a:A7)(y v:V)(H':Hp):Prop:=
 (∃kvs k,H a=NC (.dK kvs)∧y=kV k∧kvs.length<sizeLine∧H'=upd H a (.dK (putK kvs k v))) ∨
 ∃kvs k b,H a=NC (.dT kvs)∧y=.ref b∧H b=NC (.tup (k.map kV))∧kvs.length<sizeLine∧H'=upd H a (.dT (putK kvs k v))
theorem Jj.k{H:Hp}{a:A7}{kvs:List (Key×V)}{k:Key}(e:H a=NC (.dK kvs)):Jj H a (kV k) (tG kvs k):=.inl ⟨kvs,k,.inl e,U,U⟩
section
variable{X:Cx}{pins:List (A7×Obj)}{σ:St}{H:Hp}{s:A8}{a:A7}{y v:V}{u r:A6}{o:Option V}{A:AL}{E:A6→A8→Prop}
theorem Inv.big(I:Inv X pins σ H s):BM<s.heap.objs.size:=by have h:AV<s.heap.objs.size:=(I.mod.glob.keeps I.bk).lt;exact Nat.lt_trans (by decide) h
theorem aAl{Q:A6→A8→Prop}(hu:A.units+1<Ap)(I:Inv X pins σ H s)(g:Jj H a y (NC v))(ry:RelV y u)(h:∀w' s',Inv X pins σ H s'→RelV v w'→Q w' s') :
  AF (AG X.prog X.w) A (Fs (.ref a) u) Q E s:=by
 rcases g with ⟨kvs,k,e,ey,l⟩ | ⟨kvs,k,b,e,ey,eb,l⟩
 ·subst ey;obtain⟨z,hd,vs,rel,dd⟩:=Ou I.hok e;obtain⟨w',hw,Qy⟩:=Bd.some_of (v:=v) (o:=EX vs k) (by rw[l];exact rel.val k);exact wpAny_getItem_of (Su ry) dd.mapOf hw (h w' _ (I.tok _) Qy)
 ·subst ey
  cases(show u=AQ b from ry)
  obtain⟨z,hd,xs,rel,dd⟩:=Sv I.hok e;obtain⟨w',hw,Qy⟩:=Bd.some_of (v:=v) (o:=(FX xs k).map (·.2)) (by rw[l];exact rel.val k);obtain⟨p,hp,hp2⟩:=lY hw;refine wpAny_getItem_heap (CO hu) (Ma I.hok eb) dd hp ?_;rw[hp2];exact h w' _ (I.tok _) Qy
theorem aKE{Q:A6→A8→Prop}(hu:A.units+1<Ap)(I:Inv X pins σ H s)(g:Jj H a y o)(ry:RelV y u)(h:∀s',Inv X pins σ H s'→Q (.bool o.isSome) s') :
  AF (AG X.prog X.w) A (AS .In u (.ref a)) Q E s:=by
 rcases g with ⟨kvs,k,e,ey,l⟩ | ⟨kvs,k,b,e,ey,eb,l⟩
 ·subst ey;obtain⟨z,hd,vs,rel,dd⟩:=Ou I.hok e;refine wpAny_in_of (Su ry) hd dd.mapOf ?_;rw[←(rel.val k).xT,←l];exact h _ (I.tok _)
 ·subst ey
  cases(show u=AQ b from ry)
  obtain⟨z,hd,xs,rel,dd⟩:=Sv I.hok e;refine wpAny_in_heap (CO hu) (Ma I.hok eb) hd dd ?_;have q:=(rel.val k).xT;rw[W9]at q;rw[←q,←l];exact h _ (I.tok _)
theorem aEC{Q:A6→A8→Prop}(hu:A.units+1<Ap)(I:Inv X pins σ H s)(g:Jj H a y o)(ry:RelV y u)(h:∀s',Inv X pins σ H s'→Q (.bool (!o.isSome)) s') :
  AF (AG X.prog X.w) A (AS .NotIn u (.ref a)) Q E s:=by
 rcases g with ⟨kvs,k,e,ey,l⟩ | ⟨kvs,k,b,e,ey,eb,l⟩
 ·subst ey;obtain⟨z,hd,vs,rel,dd⟩:=Ou I.hok e;refine wpAny_notIn_of (Su ry) hd dd.mapOf ?_;rw[←(rel.val k).xT,←l];exact h _ (I.tok _)
 ·subst ey
  cases(show u=AQ b from ry)
  obtain⟨z,hd,xs,rel,dd⟩:=Sv I.hok e;refine wpAny_notIn_heap (CO hu) (Ma I.hok eb) hd dd ?_;have q:=(rel.val k).xT;rw[W9]at q;rw[←q,←l];exact h _ (I.tok _)
theorem FJ{h':AM}{t':Nat}{ob:HO}(I:Inv X pins σ H s)(mu:Mut (H a))(hs:BG a s.heap h')(he:∃q,h'.get? a=NC q)(new:jZ X.prog X.w (upd H a ob) h' a ob) :
  Inv X pins σ (upd H a ob) {s with heap:=h',toks:=t'}:=
 I.write (x:=a) (e:=a) mu (.inl U) (λb q hb z=>(hs.2 b hb).trans z) he new
theorem aBQ{P:AJ}{w:AN}{H':Hp}{h':AM}{kvs:List (Key×V)}{vs:List (Key×A6)}(z:kvs.length≤sizeLine)(hd:(a==BM)=NG)(rel:KV kvs vs)(dd:h'.DictOf (iI P w) a vs) :
  jZ P w H' h' a (.dK kvs):=⟨z,hd,vs,rel,dd⟩
theorem aAm{H':Hp}{Q:Unit→A8→Prop}(hu:A.units+1<Ap)(I:Inv X pins σ H s)(g:aJe H a y v H')(ry:RelV y u)(rv:RelV v r)(h:∀s',Inv X pins σ H' s'→Q () s') :
  AF (AG X.prog X.w) A (setItem (.ref a) u r) Q E s:=by
 rcases g with ⟨kvs,k,e,ey,l,eH⟩ | ⟨kvs,k,b,e,ey,eb,l,eH⟩
 ·subst ey eH;obtain⟨z,hd,vs,rel,dd⟩:=aGc I.hok e;have hz:vs.length≤sizeLine:=by rw[←rel.length];exact z
  have hl:(putK kvs k v).length≤sizeLine:=by have:=wC kvs k v;omega
  refine wpAny_setItem_pairs (hsz:=hz) (Su ry) dd λh' dd' hs=>h _ ?_;have he:∃q,h'.get? a=NC q:=let ⟨q,_,_,hq,_⟩:=dd';⟨q,hq⟩;exact FJ I (by rw[e];exact True.intro) hs he (aBQ hl hd (rel.put k rv) dd')
 ·subst ey eH
  cases(show u=AQ b from ry)
  obtain⟨z,hd,xs,rel,dd⟩:=aJd I.hok e;have hz:xs.length≤sizeLine:=by rw[←GO rel];exact z
  have hl:(putK kvs k v).length≤sizeLine:=by have:=wC kvs k v;omega
  refine wpAny_setItem_heap (hsz:=hz) (CO hu) (Ma I.hok eb) dd λh' dd' hs=>h _ ?_;obtain⟨q,es,ep,hq,h2,h3,h4,_,h5⟩:=dd';refine FJ I (by rw[e];exact True.intro) hs ⟨q,hq⟩ ⟨hl,hd,_,(rel.put k eb rv).keeps λc ys ec=>?_,q,es,ep,hq,h2,h3,h4,h5⟩;rw[bN (aIN ec e (λz=>nomatch z))];exact ec
end
section
variable{X:Cx}{pins:List (A7×Obj)}{σ:St}{H:Hp}{s:A8}{a:A7}{kvs:List (Key×V)}{k:Key}{u:A6}{A:AL}{E:A6→A8→Prop}
end
def aBR(i:AD):Prop:=∀ov iv,FY i NG ov iv=operate [ov,iv] (Fs ov iv)
theorem aED{prog:AJ}{w:AN}{A:AL}{E:A6→A8→Prop}{s:A8}{env:Env}{value slice:AD}{pos:Pos}{T id:String}{Q:A6→A8→Prop}
  (hl:typeLookup (.type T) "__getitem__" = pure (NC (.builtin id))) (hs:aBR slice)
  (h:AF (AG prog w) A (AO value env) (λo s₁=>AF (AG prog w) A (AO slice env) (λi s₂=>s₂.TypeIs o T∧AF (AG prog w) A (Fs o i) Q E s₂) E s₁) E s) :
  AF (AG prog w) A (AO (.Subscript value slice pos) env) Q E s:=by
 refine IQ (AX h (λo s₁ h₁=>AX h₁ (λi s₂ h₂=>?_) λ_ _ x=>x) λ_ _ x=>x);obtain⟨hT,h₂⟩:=h₂;unfold GW;refine A9 ?_;rw[getitemInPython_of_ne hT.not_modules];refine A9 (IS hT hl ?_);have fin:AF (AG prog w) A (FY slice NG o i) (λr s₃=>AF (AG prog w) A (letTemporaryGo value o r >>= λ_=>pure r) Q E s₃) E s₂:=by rw[hs o i];exact wpAny_operating (AX h₂ (λr s₃ h₃=>A9 (wpAny_letTemporaryGo (AE h₃))) λ_ _ x=>x)
 first
  | exact AE (A9 fin)
  | exact A9 (AE (A9 fin))
  | exact A9 fin
theorem QJ{X:Cx}{pins:List (A7×Obj)}{σ:St}{H:Hp}{s:A8}{a:A7}{y:V}{o:Option V}(I:Inv X pins σ H s)(g:Jj H a y o):s.TypeIs (.ref a) "dict" := by
 rcases g with ⟨kvs,k,e,_,_⟩ | ⟨kvs,k,b,e,_,_,_⟩
 ·obtain⟨_,_,vs,_,dd⟩:=Ou I.hok e;exact dd.typeIs
 ·obtain⟨_,_,xs,_,dd⟩:=Sv I.hok e;exact dd.typeIs
def ue(td ty:TE):TE:=λσ H Q=>td σ H λx H1=>ty σ H1 λy H2=>∃a v,x=.ref a∧Jj H2 a y (NC v)∧Q v H2
def aEE(ty td:TE):TE:=λσ H Q=>ty σ H λy H1=>td σ H1 λx H2=>∃a o,x=.ref a∧Jj H2 a y o∧Q (.bl o.isSome) H2
def FN(ty td:TE):TE:=λσ H Q=>ty σ H λy H1=>td σ H1 λx H2=>∃a o,x=.ref a∧Jj H2 a y o∧Q (.bl (!o.isSome)) H2
def Jk(td ty tv:TE):TS:=λD σ H=>tv σ H λv H1=>td σ H1 λx H2=>ty σ H2 λy H3=>∃a H4,x=.ref a∧aJe H3 a y v H4∧D.nx σ H4
section
variable{X:Cx}{o i e value:AD}{pos pos' tpos:Pos}{td ty tv:TE}
theorem FQ(hu:X.A.units+1<Ap)(ho:PE X o td)(hi:PE X i ty)(hs:aBR i):PE X (.Subscript o i pos) (ue td ty):=by intro pins s σ H Q I h;refine aED PySem.F.slot_dict_getitem.lookup hs (jG (ho pins s σ H _ I h) λu s1 ⟨x,H1,I1,rx,q1⟩=>jG (hi pins s1 σ H1 _ I1 q1) λiv s2 ⟨y,H2,I2,ry,a,v,ex,g,q2⟩=>?_);subst ex;obtain rfl:u=AQ a:=rx;exact⟨QJ I2 g,aAl hu I2 g ry λw' s3 I3 Qy=>⟨v,H2,I3,Qy,q2⟩⟩
theorem gh(hu:X.A.units+1<Ap)(hi:PE X i ty)(ho:PE X o td):PC X .In i o (aEE ty td):=by intro pins s σ H Q I h;refine jG (hi pins s σ H _ I h) λiv s1 ⟨y,H1,I1,ry,q1⟩=>jG (ho pins s1 σ H1 _ I1 q1) λu s2 ⟨x,H2,I2,rx,a,ov,ex,g,q2⟩=>?_;subst ex;obtain rfl:u=AQ a:=rx;exact aKE hu I2 g ry λs3 I3=>⟨.bl ov.isSome,H2,I3,U,q2⟩
theorem Yj(hu:X.A.units+1<Ap)(hi:PE X i ty)(ho:PE X o td):PC X .NotIn i o (FN ty td):=by intro pins s σ H Q I h;refine jG (hi pins s σ H _ I h) λiv s1 ⟨y,H1,I1,ry,q1⟩=>jG (ho pins s1 σ H1 _ I1 q1) λu s2 ⟨x,H2,I2,rx,a,ov,ex,g,q2⟩=>?_;subst ex;obtain rfl:u=AQ a:=rx;exact aEC hu I2 g ry λs3 I3=>⟨.bl (!ov.isSome),H2,I3,U,q2⟩
theorem pN(hu:X.A.units+1<Ap)(ho:PE X o td)(hi:PE X i ty)(hv:PE X value tv)(hs:Ct value (NC (.Subscript o i pos')) pos.line X.env=pure NG) :
  PS X (.Assign [.Subscript o i pos'] value pos) (Jk td ty tv):=by
 intro pins s σ H D I h;refine wpAny_Assign_Subscript (jG (hv pins s σ H _ I h) λr s1 ⟨v,H1,I1,rv,q1⟩=>jG (ho pins s1 σ H1 _ I1 q1) λu s2 ⟨x,H2,I2,rx,q2⟩=>jG (hi pins s2 σ H2 _ I2 q2) λiv s3 ⟨y,H3,I3,ry,a,H4,ex,g,q3⟩=>?_) hs;subst ex;obtain rfl:u=AQ a:=rx;exact aAm hu I3 g ry rv λs4 I4=>⟨σ,H4,I4,q3⟩
end
theorem QK{P:AJ}{w:AN}{H:Hp}(h:AM)(hb:BM<h.objs.size):jZ P w H (h.push {cls:=.type "dict", data:=.dict #[]}) h.objs.size (.dK []):=
 ⟨M0 _,beq_eq_false_iff_ne.mpr (Ne.symm (E7 hb)),[],.nil,MZ h⟩
theorem aBS{P:AJ}{w:AN}{H:Hp}(h:AM)(hb:BM<h.objs.size):jZ P w H (h.push {cls:=.type "dict", data:=.dict #[]}) h.objs.size (.dT []):=
 ⟨M0 _,beq_eq_false_iff_ne.mpr (Ne.symm (E7 hb)),[],.nil,_,#[],0,AK _ U,⟨U,U,U⟩,U,U,a8⟩
def gj:TE:=λ_ H Q=>∀p,H p=none→Q (.ref p) (upd H p (.dK []))
def aBT:TE:=λ_ H Q=>∀p,H p=none→Q (.ref p) (upd H p (.dT []))
section
variable{X:Cx}{pos:Pos}
theorem aBU:PE X (.Dict [] [] pos) gj:=λpins s σ H Q I h=>
 IF ⟨.ref s.heap.objs.size,_,I.laid (a:=s.heap.objs.size) (o:=.dK []) (t':=s.toks) (λ_ _ q=>AA _ q) (C5 _) (QK s.heap I.big),U,h _ (I.hok.fresh (C5 _))⟩
theorem aBV:PE X (.Dict [] [] pos) aBT:=λpins s σ H Q I h=>
 IF ⟨.ref s.heap.objs.size,_,I.laid (a:=s.heap.objs.size) (o:=.dT []) (t':=s.toks) (λ_ _ q=>AA _ q) (C5 _) (aBS s.heap I.big),U,h _ (I.hok.fresh (C5 _))⟩
end
def FW:List (TE×TE)→St→Hp→(List (V×V)→Hp→Prop)→Prop
 | [],_,H,Q=>Q [] H
 | (tk,tv)::r,σ,H,Q=>tk σ H λx H1=>tv σ H1 λy H2=>FW r σ H2 λps H3=>Q ((x,y)::ps) H3
abbrev VV:List (V×V)→List (A6×A6)→Prop:=Paired λp q=>RelV p.1 q.1∧RelV p.2 q.2
def PPs(X:Cx)(pos:Pos)(keys:List (Option AD))(values:List AD)(trs:List (TE×TE)):Prop:=
 ∀(pins:List (A7×Obj))(s:A8)(σ:St)(H:Hp)(Q:List (V×V)→Hp→Prop),Inv X pins σ H s→FW trs σ H Q →
  AF (AG X.prog X.w) X.A (evalPairs (pairTrees keys values X.env pos)) (λvs s'=>∃ps H',Inv X pins σ H' s'∧VV ps vs∧Q ps H') X.xe s
theorem aEG{X:Cx}{pos:Pos}:PPs X pos [] [] []:=λpins s σ H Q I h=>pairTrees_nil_walk ⟨[],H,I,.nil,h⟩
theorem QL{X:Cx}{pos:Pos}{k v:AD}{ks:List (Option AD)}{vs:List AD}{tk tv:TE}{trs:List (TE×TE)}(hk:PE X k tk)(hv:PE X v tv)(hr:PPs X pos ks vs trs) :
  PPs X pos (NC k::ks) (v::vs) ((tk,tv)::trs):=λpins s σ H Q I h=>
 pairTrees_cons_walk (jG (hk pins s σ H _ I h) λu s1 ⟨x,H1,I1,rx,q1⟩=>jG (hv pins s1 σ H1 _ I1 q1) λw2 s2 ⟨y,H2,I2,ry,q2⟩=>
  jG (hr pins s2 σ H2 _ I2 q2) λws s3 ⟨ps,H3,I3,rel,q3⟩=>⟨(x,y)::ps,H3,I3,.cons ⟨rx,ry⟩ rel,q3⟩)
def yZ(kvs more:List (Key×V)):List (Key×V):=more.foldl (λacc kv=>putK acc kv.1 kv.2) kvs
theorem KV.merge:∀{more:List (Key×V)} {rs:List (Key×A6)} {kvs:List (Key×V)} {vs:List (Key×A6)},KV more rs→KV kvs vs→KV (yZ kvs more) (merged vs rs):=by
 intro more rs kvs vs r;unfold KV at r
 induction r generalizing kvs vs with
 | nil=>intro q;exact q
 | @cons p q ps qs h t ih=>
  intro r0;have e:KV (putK kvs p.1 p.2) (stored vs q.1 q.2):=by have:=r0.put p.1 h.2;rw[←h.1];exact this
  exact ih e
theorem Gb:∀(more kvs:List (Key×V)),(yZ kvs more).length≤kvs.length+more.length
 | [],kvs=>by show kvs.length≤kvs.length+0;omega
 | p::r,kvs=>by have h1:=Gb r (putK kvs p.1 p.2);have h2:=wC kvs p.1 p.2;show (yZ (putK kvs p.1 p.2) r).length≤_;rw[F0];omega
theorem Sw{P:AJ}{w:AN}:∀{kvs:List (Key×V)} {ws:List (A6×A6)},VV (kvs.map λkv=>(kV kv.1,kv.2)) ws→∃rs,Carries (iI P w) ws rs∧KV kvs rs
 | [],_,r=>by rw[G6]at r;cases r;exact⟨[],True.intro,.nil⟩
 | p::kvs,_,r=>by
  rw[D3]at r;cases r with
  | @cons a b as bs h t=>obtain⟨rs,c,q⟩:=Sw (P:=P) (w:=w) t;obtain⟨b1,b2⟩:=b;exact⟨(p.1,b2)::rs,⟨Su h.1,U,c⟩,.cons ⟨U,h.2⟩ q⟩
def aGd(trs:List (TE×TE)):TE:=λσ H Q=>∀p,H p=none→FW trs σ (upd H p (.dK [])) λps H2=>H2 p=NC (.dK [])∧∃kvs:List (Key×V),ps=kvs.map (λkv=>(kV kv.1,kv.2))∧kvs.length≤15∧Q (.ref p) (upd H2 p (.dK (yZ [] kvs)))
theorem aEH{X:Cx}{pos:Pos}{keys:List (Option AD)}{values:List AD}{trs:List (TE×TE)}(h:PPs X pos keys values trs)(hall:keys.all (·.isSome)=NF)(hl:keys.length=values.length)(h0:keys≠[])
  (h15:keys.length≤15):PE X (.Dict keys values pos) (aGd trs):=by
 intro pins s σ H Q I q;have hn:=I.hok.fresh (C5 s.heap.objs.size);have I1:=I.laid (a:=s.heap.objs.size) (o:=.dK []) (h':=s.heap.push {cls:=.type "dict", data:=.dict #[]}) (t':=s.toks) (λ_ _ q=>AA _ q) (C5 _) (QK s.heap I.big);refine wpAny_Dict_walk (knd:=iI X.prog X.w) hall hl h0 h15 (jG (h pins _ σ _ _ I1 (q _ hn)) λws s2 ⟨ps,H2,I2,rel,e,kvs,ep,lk,q2⟩=>?_);subst ep;obtain⟨rs,c,rk⟩:=Sw (P:=X.prog) (w:=X.w) rel;obtain⟨z,hd,vs0,r0,dd⟩:=aGc I2.hok e;cases r0;refine⟨rs,c,dd,λh' dd' hs=>⟨.ref s.heap.objs.size,_,?_,U,q2⟩⟩;have hz:(yZ [] kvs).length≤sizeLine:=by have h1:=Gb kvs [];rw[j9]at h1;rw[EG];omega
 have he:∃q,h'.get? s.heap.objs.size=NC q:=let ⟨q,_,_,hq,_⟩:=dd';⟨q,hq⟩;exact FJ I2 (by rw[e];exact True.intro) hs he (aBQ hz hd (rk.merge .nil) dd')
structure M1(X:Cx)(o:AD)(m:Str)(apos:Pos)(e:AD)(cpos:Pos):Prop where
 base:CI o m X.env (AO o X.env)=AO o X.env
 few:((AY cpos (AB [e] X.env)).all (λx=>!x.1)&&(DJ cpos (Bz [] X.env)).all (λx=>x.1.isSome)
  && decide (([e]:List AD).length+([]:List EW).length+(if([]:List EW).isEmpty then 0 else 1)<30))=NF
 line:(apos.endLine==cpos.line)=NF
 trees:AY cpos (AB [e] X.env)=[(NG,AO e X.env)]
structure M2(X:Cx)(o:AD)(m:Str)(apos:Pos)(e f:AD)(cpos:Pos):Prop where
 base:CI o m X.env (AO o X.env)=AO o X.env
 few:((AY cpos (AB [e,f] X.env)).all (λx=>!x.1)&&(DJ cpos (Bz [] X.env)).all (λx=>x.1.isSome)
  && decide (([e,f]:List AD).length+([]:List EW).length+(if([]:List EW).isEmpty then 0 else 1)<30))=NF
 line:(apos.endLine==cpos.line)=NF
 trees:AY cpos (AB [e,f] X.env)=[(NG,AO e X.env),(NG,AO f X.env)]
def IsD(H:Hp)(a:A7):Prop:=(∃kvs,Rd H a (.dK kvs))∨∃kvs,Rd H a (.dT kvs)
theorem aHo{X:Cx}{pins:List (A7×Obj)}{σ:St}{H:Hp}{s:A8}{a:A7}(I:Inv X pins σ H s)(d:IsD H a) :
  s.TypeIs (.ref a) "dict" ∧ (∀b,AQ a=.ref b→∃ob,s.heap.get? b=NC ob∧ob.dict=none)∧(a==BM)=NG:=by
 rcases d with ⟨kvs,e⟩ | ⟨kvs,e⟩
 ·obtain⟨_,hd,vs,_,dd⟩:=Ou I.hok e;refine⟨dd.typeIs,λb q=>?_,hd⟩;cases q;obtain⟨ob,_,_,h1,h2,_⟩:=dd;exact⟨ob,h1,h2.2.1⟩
 ·obtain⟨_,hd,xs,_,dd⟩:=Sv I.hok e;refine⟨dd.typeIs,λb q=>?_,hd⟩;cases q;obtain⟨ob,_,_,h1,h2,_⟩:=dd;exact⟨ob,h1,h2.2.1⟩
section
variable{X:Cx}{pins:List (A7×Obj)}{σ:St}{H:Hp}{s:A8}{a:A7}{y d:V}{u r:A6}{o:Option V}{A:AL}{E:A6→A8→Prop}
theorem aHp{Q:A6→A8→Prop}(hu:A.units+1<Ap)(I:Inv X pins σ H s)(g:Jj H a y o)(ry:RelV y u)(h:∀w' s',Inv X pins σ H s'→RelV (o.getD .non) w'→Q w' s') :
  AF (AG X.prog X.w) A (call (.builtin "dict.get") [.ref a,u]) Q E s:=by
 rcases g with ⟨kvs,k,e,ey,l⟩ | ⟨kvs,k,b,e,ey,eb,l⟩
 ·subst ey;obtain⟨z,hd,vs,rel,dd⟩:=Ou I.hok e;refine Kn T6 dd.typeIs Z6 (Y3 _ _) (meets_dict_get (iI X.prog X.w) a (Su ry) hd) ⟨_,dd.mapOf,h _ _ (I.tok _) ?_⟩;rw[l];exact(rel.val k).getD U
 ·subst ey
  cases(show u=AQ b from ry)
  obtain⟨z,hd,xs,rel,dd⟩:=Sv I.hok e;refine Kn T6 dd.typeIs Z6 (Y3 _ _) (meetsH_dict_get (EI (iI X.prog X.w)) a b hd) ⟨CO hu,k,xs,Ma I.hok eb,dd,h _ _ (I.tok _) ?_⟩;rw[l];exact(rel.val k).getD U
end
def aBW(td ty:TE):TE:=λσ H Q=>td σ H λx H1=>∃a,x=.ref a∧IsD H1 a∧ty σ H1 λy H2=>∃o,Jj H2 a y o∧Q (o.getD .non) H2
section
variable{X:Cx}{o e f:AD}{apos cpos:Pos}{td ty tx:TE}
theorem aBX(hu:X.A.units+1<Ap)(ho:PE X o td)(he:PE X e ty)(m:M1 X o "get" apos e cpos):PE X (.Call (.Attribute o "get" apos) [e] [] cpos) (aBW td ty):=by intro pins s σ H Q I h;refine wpAny_Call_method m.base m.few m.line PySem.F.plainAttrs_dict T6 PySem.F.type_dict_get (jG (ho pins s σ H _ I h) λu s1 ⟨x,H1,I1,rx,a,ex,d,q1⟩=>?_);subst ex;obtain rfl:u=AQ a:=rx;obtain⟨t1,t2,_⟩:=aHo I1 d;refine⟨t1,t2,?_⟩;rw[m.trees];refine Fh U (GL (CM (jG (he pins s1 σ H1 _ I1 q1) λiv s2 ⟨y,H2,I2,ry,ov,g,q2⟩=>Cb ?_)));exact aHp hu I2 g ry λw' s3 I3 Qy=>⟨_,H2,I3,Qy,q2⟩
end
section
variable{X:Cx}{pins:List (A7×Obj)}{σ:St}{H:Hp}{s:A8}{a:A7}{kvs:List (Key×V)}{A:AL}{E:A6→A8→Prop}
end
section
variable{X:Cx}{pins:List (A7×Obj)}{σ:St}{H:Hp}{s:A8}{a:A7}{y:V}{u:A6}{A:AL}{E:A6→A8→Prop}
end
end L2
namespace Att
open PySem PySem.W PySem.Calls PyProof.Rows
theorem Qg{P:Kt}{h:AM}:∀(ns:List Int)(vs:List A6),WellAll P h vs (ns.map WData.int)→Da vs ns:=by
 intro ns
 induction ns with
 | nil=>
  intro vs w;rw[G6]at w;cases w;exact .nil
 | cons n ns ih=>
  intro vs w;rw[D3]at w;cases w with
  | cons a b=>cases a;exact .cons _ _ (ih _ b)
theorem aAn{l:OpenLaw}{n:Nat}(hn:l.most=NC n){P:Kt}{h:AM}{args:List WData}{vals:List A6}
  (hpre:l.row.toRowW.claim.pre args=NF) (hwl:WellAll P h vals args) :
  ∃a vs ns,vals=[AQ a]∧args=[WData.list (ns.map WData.int)]∧h.get? a=NC {cls:=.type "list", data:=.seq vs.toArray}∧Da vs ns∧ns.length≤n:=by
 have hsh:WShape.hasAll [] args [.list .int]=NF:=(pre_splitW hpre).1;have hc:l.pre.holds [] {args:=args}=NF:=(pre_splitW hpre).2;obtain⟨d,r,rfl,h1,h2⟩:=hasAllW_cons hsh;obtain rfl:=hasAllW_nil h2;obtain⟨xs,rfl,h3⟩:=hasW_list h1;obtain⟨ns,rfl⟩:=items_int h3;have hlen:ns.length≤n:=by
  unfold OpenLaw.pre at hc;have h4:(WTm.not (.lt (.lit (.int (n:Int))) (.len (.arg 0)))).holds [] {args:=[.list (ns.map .int)]}=NF:=by have h4:=(holds_andW hc).1;rw[hn]at h4;exact h4
  have h5:=condW_of h4 (w_not (w_lt w_lit (w_len_list (w_arg U))));rw[B6]at h5;refine Nat.le_of_not_lt λq=>?_;have q':(n:Int)<((ns.length:Nat):Int):=by omega
  first
   | (rw[decide_eq_true q']at h5;exact absurd h5 (by decide))
   | (simp at h5;omega)
 cases hwl with
 | cons w1 w2=>
  cases w2;cases w1 with
  | list ho hall=>exact⟨_,_,ns,U,U,ho,Qg ns _ hall,hlen⟩
theorem aAo(l:OpenLaw)(args:List WData):l.row.toRowW.claim.post args (.bool NF) args=NF:=
 postW_of (r:=l.row.toRowW) (X:=(NF==NF))
  (show WShape.has [] (.bool NF) .bool=NF by first | rfl | decide | simp[WShape.has,WShape.arms,WShape.armsAll])
  (show (WTm.eq .res (.lit (.bool NF))).value [] {args:=args,res:=NC (.bool NF),after:=args}=NC (.bool (NF==NF))from w_eq_bool (w_res U) w_lit) U
section
variable{prog:AJ}{w:AN}{A:AL}{E:A6→A8→Prop}{s:A8}{K:Frag}
end
end Att
namespace L2
open PySem PySem.Spec PyProof.Rows
theorem Dz:∀{vs:List A6} {ns:List Int},Da vs ns→Vals (ns.map V.int) vs
 | _,_,.nil=>.nil
 | _,_,.cons n t h=>.cons ⟨t,U⟩ (Dz h)
def Only(H:Hp):Prop:=∀b,H b=none∨∃o xs,H b=NC (.Jg o (.lst xs))
theorem aBY{P:AJ}{w:AN}{K:aJ}{mg mb:Str→Option A6}{CX:CXT}{k:Nat}{fa a:A7}{fd:BE}{x:Str}{sp:Sp}{s₁:A8}{vs:List A6}{ns:List Int}
  (KX:K.In s₁.heap) (hns:s₁.heap.Ns AV mg) (hb:s₁.heap.Ns IH mb) (hbb:∀x:Str,x ≠ "__name__" → mb x=AW x) (hlim:s₁.heap.NoLimit) (hg:s₁.gens=#[])
  (ha:s₁.heap.get? a=NC {cls:=.type "list", data:=.seq vs.toArray}) (hi:Da vs ns) (hl:ns.length≤sizeLine) (hr:lA k EZ)
  (F:∀base:AM,K.In base→base.Ns AV mg→Fj P w K mg base CX k fa fd [x] sp) (hbind:∀(s:A8)(u:A6),Fn s fd ⟨[u],[]⟩ [(x,u)])
  (hsp:∀H:Hp,Only H→rJ K H a (ns.map V.int)→sp [.ref a] H (λv _=>v=.bl NF) λ_ _ _=>False)
  (hCX:∀H e s',CX [] H s₁ (λ_ _ _=>False) e s'→False) :
  CH (AG P w) EZ (.call (.ref fa) ⟨[.ref a],[]⟩) (λr s'=>r=.ok (.ret (.bool NF))∧OldK s₁.heap s'.heap∧s'.os=s₁.os∧DZ s'.gens) s₁:=by
 have rv:=Dz hi;have lenV:=hi.length;have core:∀H:Hp,Only H→rJ K H a (ns.map V.int)→Gs P w H s₁.heap→(∀b,H b≠none→b=a)→(H a≠none→K.lookup a=none) →
   CH (AG P w) EZ (.call (.ref fa) ⟨[.ref a],[]⟩) (λr s'=>r=.ok (.ret (.bool NF))∧OldK s₁.heap s'.heap∧s'.os=s₁.os∧DZ s'.gens) s₁:=by
  intro H hO hS hok hA hK;have uf:∀{b:A7} {o:Obj},s₁.heap.get? b=NC o→H b=none→(CV s₁.heap H).get? b=NC o:=λe n=>aBl e n;have noA:∀{b:A7} {o:Obj} {es:Array DictEntry} {ep:Nat},s₁.heap.get? b=NC o→o.data=.dict es ep→H b=none:=λ{b o es ep} e d=>by
   cases q:H b with
   | none=>rfl
   | some u=>have e':b=a:=hA b (by rw[q];simp);subst e';rw[ha]at e;cases e;have d':Data.seq vs.toArray _=Data.dict es ep:=d;cases d'
  have nsK:∀{b:A7} {m:Str→Option A6},s₁.heap.Ns b m→(CV s₁.heap H).Ns b m:=λ{b m} ⟨o,es,ep,e,d,r⟩=>⟨o,es,ep,uf e (noA e d),d,r⟩
  have hKb:K.In (CV s₁.heap H):=λb o e=>uf (KX b o e) (by
   cases q:H b with
   | none=>rfl
   | some u=>
    have e':b=a:=hA b (by rw[q];simp);subst e';rw[hK (by rw[q];simp)]at e;cases e)
  have hM:Mod K mg (CV s₁.heap H):=⟨hKb,nsK hns,⟨mb,nsK hb,hbb⟩,let ⟨mc,h1,h2⟩:=hlim;⟨mc,nsK h1,h2⟩⟩
  have e0:dw P w K mg (CV s₁.heap H) EZ [] s₁ H:=⟨U,hM,λb o e=>aD7 e,d9 (zu _ _),trivial,λb hb=>absurd (show b∈([]:List A7)from hb) (by simp),hok,.of_eq hg⟩
  refine Ch ((F _ hKb (nsK hns)).run EZ [] s₁ H ⟨[.ref a],[]⟩ [.ref a] [.ref a] _ _ hr e0 (hbind s₁ (.ref a)) (.cons U .nil) (hsp H hO hS)) λr s' h=>?_;cases r with
  | error e=>exact(hCX H e s' h).elim
  | ok fl=>
   cases fl with
   | next=>exact False.elim h
   | brk=>exact False.elim h
   | cont=>exact False.elim h
   | ret u=>
    obtain⟨v,H',os,bare,un,hok',r',q⟩:=h;have q':v=.bl NF:=q;subst q';obtain rfl:u=DB NF:=r';refine⟨U,OldK.of_keep λb o e=>?_,os,bare⟩;cases q:H b with
    | none=>exact un.keep b o e q (by intro z;exact absurd (show b∈([]:List A7)from z) (by simp)) (by simp)
    | some u=>
     rcases hO b with z | ⟨ob,xs,z⟩
     ·rw[q]at z;cases z
     ·have z2:=un.CT b ob _ z;obtain⟨e1,_⟩:=hok b _ z;obtain⟨e2,_⟩:=hok' b _ z2;rw[e]at e1;cases e1;exact e2
 cases hk:K.lookup a with
 | some o=>
  have e:=KX a o hk;rw[ha]at e;cases e;refine core (λ_=>none) (λ_=>.inl U) (.inr ⟨_,vs.toArray,_,hk,U,U,U,by rw[C6,lenV];exact hl,by simpa using rv⟩) (λb u z=>by have z':(none:Option HO)=NC u:=z;cases z') (λb z=>absurd U z) λz=>absurd U z
 | none=>
  refine core (λb=>if b=a then NC (.Jg {cls:=.type "list", data:=.seq vs.toArray} (.lst (ns.map V.int)))else none) (λb=>?_) (.inl (.inr ⟨{cls:=.type "list", data:=.seq vs.toArray},if_pos U⟩)) (λb u z=>?_) (λb z=>?_) λ_=>hk
  ·by_cases hb:b=a
   ·exact .inr ⟨_,_,if_pos hb⟩
   ·exact .inl (if_neg hb)
  ·by_cases hb:b=a
   ·have z':=(if_pos hb).symm.trans z;cases z';subst hb;exact⟨ha,by rw[B6];exact hl,vs,_,rv,ha⟩
   ·have z':=(if_neg hb).symm.trans z;cases z'
  ·by_cases hb:b=a
   ·exact hb
   ·exact absurd (if_neg hb) z
end L2
namespace L2
open PySem PySem.Spec PyProof.Rows
end L2
namespace L2
open PySem PySem.Spec PyProof.Rows
def inClass(s:AH)(j:Nat):AH:=match s with
 | .ClassDef _ _ _ body _ _ _ _ _ _ _=>body.getD j (.Pass ⟨0,0,0,0⟩)
 | _=>.Pass ⟨0,0,0,0⟩
def gD(s:AH):Arguments:=match s with
 | .FunctionDef _ a _ _ _ _ _ _ _ _=>a
 | _=>{posonlyargs:=[],args:=[],vararg:=none,kwonlyargs:=[],kw_defaults:=[],kwarg:=none,defaults:=[]}
def cR(s:AH):List AH:=match s with
 | .FunctionDef _ _ b _ _ _ _ _ _ _=>b
 | _=>[]
def aK(s:AH):BF:=match s with
 | .FunctionDef _ _ _ _ _ _ sc _ _ _=>sc
 | _=>{kind:=.function,names:=[],isGenerator:=NG,isCoroutine:=NG}
abbrev FZ:CXT:=λ_ _ _ _ _ _=>False
abbrev E0:XK:=λ_ _ _=>False
theorem Yk{X:Cx}:Passes FZ X E0:=λ_ _ _ _ _ _ _ h=>h.elim
structure Fun(K:aJ)(x qual:Str)(st:AH)(f:A7)(fd:BE):Prop where
 ex:∃(oc:A6)(od:Option A7)(kV doc pm:A6)(an:Option A7)(cdv ct:A6)(osl:Array (Option A6)),
  fd=F8 x qual (gD st) (cR st) (aK st) .none kV doc pm an cdv ct∧K.lookup f=NC ⟨oc,od,.func fd,osl⟩∧K3 K cdv qual=NF
 kp:K2 K (.ref f)=NF
section
variable{P:AJ}{w:AN}{K:aJ}{mg:Str→Option A6}{base:AM}
theorem Fun.ok{x qual:Str}{st:AH}{f:A7}{fd:BE}{N ps:List Str}{k:Nat}{sp:Sp}(F:Fun K x qual st f fd)(S:aZ N ps (aK st))(len:∀vs H Q E,sp vs H Q E→vs.length=ps.length)
  (hbody:∀(cdv:A6)(A:AL)(outer:List Env)(s:A8)(H:Hp)(vs:List V)(Q:VK)(E:XK),lA k (A.deeper (BN qual (aK st) s.heap.objs.size f cdv))→sp vs H Q E →
   ∃t,bh (Gw FZ P w K mg base N qual (aK st) f cdv A outer s H E).bw (cR st) t∧t {nx:=λ_ H'=>Q .non H',rt:=Q} (start N vs) H):Fj P w K mg base FZ (k+1) f fd ps sp:=by
 obtain⟨oc,od,kV,doc,pm,an,cdv,ct,osl,rfl,lk,hcd⟩:=F.ex;refine aBM lk hcd S len λA outer s H vs Q E hr hsp=>?_;obtain⟨t,h,q⟩:=hbody cdv A outer s H vs Q E hr hsp;exact⟨t,h.bw,q⟩
theorem Fun.binds{x qual:Str}{st:AH}{f:A7}{fd:BE}{ps:List Str}(F:Fun K x qual st f fd)
  (h:∀(kV doc pm:A6)(an:Option A7)(cdv ct:A6)(us:List A6),us.length=ps.length→DU (F8 x qual (gD st) (cR st) (aK st) .none kV doc pm an cdv ct) ⟨us,[]⟩=pure (ps.zip us)):Binds K fd ps []:=by
 obtain⟨oc,od,kV,doc,pm,an,cdv,ct,osl,rfl,lk,hcd⟩:=F.ex;exact .all (h kV doc pm an cdv ct)
theorem aHq{x qual:Str}{st:AH}{f:A7}{oc:A6}{od an:Option A7}{osl:Array (Option A6)}{kV doc pm cdv ct:A6}(l:K.lookup f=NC ⟨oc,od,.func (F8 x qual (gD st) (cR st) (aK st) .none kV doc pm an cdv ct),osl⟩)
  (c:K3 K cdv qual=NF) (k:K2 K (.ref f)=NF):Fun K x qual st f (F8 x qual (gD st) (cR st) (aK st) .none kV doc pm an cdv ct):=⟨⟨oc,od,kV,doc,pm,an,cdv,ct,osl,U,l,c⟩,k⟩
end
theorem cI{A:AL}{k:Nat}(hr:lA k A):A.units+1<Ap:=P1 (Nat.add_le_add_left (by decide:1≤64) _) hr.units
theorem xU{n:Nat}(h:n≤1000):n<sizeLine:=P1 h (by decide)
section
variable{X:Cx}
theorem pv(i:Nat){x:Str}{pos:Pos}(hN:X.N[i]?=NC x:=by rfl)(hv:Vis X.env.scope x:=by first | exact D1 U | exact C9 (D1 U) | exact C9 (C9 U))(hd:(x==("__debug__" : Str))=NG:=by decide)
  (hcd:(x==("__classdict__" : Str))=NG:=by decide):PE X (.Name x pos) (sE i):=aGR hN hv hd hcd
end
def aV(H H':Hp):Prop:=∀b o,H b=NC o→H' b=NC o
theorem aV.refl(H:Hp):aV H H:=λ_ _ h=>h
theorem aV.trans{H H1 H2:Hp}(a:aV H H1)(b:aV H1 H2):aV H H2:=λc o h=>b c o (a c o h)
theorem aV.free{H H':Hp}(e:aV H H'){l:A7}(h:H' l=p4):H l=p4:=by
 cases q:H l with
 | none=>rfl
 | some o=>rw[e l o q]at h;cases h
theorem aV.seq{K:aJ}{H H':Hp}{a:A7}{xs:List V}(e:aV H H')(h:rJ K H a xs):rJ K H' a xs:=by
 rcases h with (h | ⟨o,h⟩) | h
 ·exact .inl (.inl (e _ _ h))
 ·exact .inl (.inr ⟨o,e _ _ h⟩)
 ·exact .inr h
section
variable{κ:Type} [DecidableEq κ]
theorem aEI{kvs:List (κ×V)}{k:κ}{v:V}(h:tG kvs k=NC v):k∈kvs.map (·.1):=by
 have q:(kvs.any λkv=>decide (kv.1=k))=NF:=by
  rw[Bp,h]
  all_goals rfl
 obtain⟨p,hp,e⟩:=Q6.mp q;exact J2.mpr ⟨p,hp,of_decide_eq_true e⟩
end
end L2


namespace L2
open PySem PySem.Spec PyProof.Rows
theorem Gy(env:Env):∀(names:List (Str×FD))(acc:List (Str×A7)),(∀x∈names,x.2=.free→∃c,env.cells.lookup x.1=NC c) →
    ∃cl:List (Str×A7),(forIn names acc (λ(x:Str×FD) (r:List (Str×A7))=>(match x with
      | (name,kind)=>if(kind==.free)=NF then do let c ←cellOf env name;pure (ForInStep.yield ((name,c)::r))else pure (ForInStep.yield r):Sem (ForInStep (List (Str×A7))))))=pure cl ∧
      (∀x c,cl.lookup x=NC c→(∃k,(x,k)∈names∧k=.free∧env.cells.lookup x=NC c)∨acc.lookup x=NC c) ∧
      (∀x,(x,As)∈names→∃c,cl.lookup x=NC c)∧(∀x c,acc.lookup x=NC c→∃c',cl.lookup x=NC c')
  | [],acc,_=>⟨acc,U,λx c h=>.inr h,λx h=>by simp at h,λx c h=>⟨c,h⟩⟩
  | (n,k)::r,acc,h=>by
    rw[List.forIn_cons];by_cases hk:k=.free
    · subst hk
      obtain⟨c,hc⟩:=h (n,.free) D6 U;obtain⟨cl,e,h1,h2,h3⟩:=Gy env r ((n,c)::acc) λx hx=>h x (C8 _ hx);refine⟨cl,?_,λx d hd=>?_,λx hx=>?_,λx d hd=>?_⟩
      · have e0:cellOf env n=pure c:=by unfold cellOf;rw[hc]
        simp only[beq_self_eq_true,if_true,e0,pure_bind];exact e
      · rcases h1 x d hd with ⟨k',m,q⟩ | q
        · exact .inl ⟨k',C8 _ m,q⟩
        · rw[T1]at q
          by_cases e:x==n
          · rw[e]at q
            have e':=eq_of_beq e;subst e';cases q;exact .inl ⟨.free,D6,U,hc⟩
          · have e':(x==n)=NG:=by simpa using e
            rw[e']at q;exact .inr q
      · rcases D5.mp hx with q | q
        · cases q
          exact h3 n c (by simp)
        · exact h2 x q
      · by_cases e:x==n
        · exact h3 x c (by rw[T1,e])
        · have e':(x==n)=NG:=by simpa using e
          exact h3 x d (by rw[T1,e'];exact hd)
    · obtain⟨cl,e,h1,h2,h3⟩:=Gy env r acc λx hx=>h x (C8 _ hx)
      have hb:(k==As)=NG:=by simpa using hk
      refine⟨cl,?_,λx d hd=>?_,λx hx=>?_,h3⟩
      · simp only[hb,V8,if_false,pure_bind]
        exact e
      · rcases h1 x d hd with ⟨k',m,q⟩ | q
        · exact .inl ⟨k',C8 _ m,q⟩
        · exact .inr q
      · rcases D5.mp hx with q | q
        · cases q
          exact absurd U hk
        · exact h2 x q
theorem Gd(scope:BF)(env:Env)(h:∀x∈scope.names,x.2=.free→∃c,env.cells.lookup x.1=NC c) :
    ∃cl,closureFor scope env=pure cl∧(∀x c,cl.lookup x=NC c→(x,As)∈scope.names∧env.cells.lookup x=NC c)∧∀x,(x,As)∈scope.names→∃c,cl.lookup x=NC c:=by
  obtain⟨cl,e,h1,h2,_⟩:=Gy env scope.names [] h;refine⟨cl,?_,λx c hx=>?_,h2⟩
  · unfold closureFor
    exact(congrArg (λt=>t >>= pure) e).trans (pure_bind _ _)
  · rcases h1 x c hx with ⟨k,m,rfl,q⟩ | q
    · exact⟨m,q⟩
    · simp at q
theorem GC{scope:BF}{env:Env}(hcell:∀y∈scope.names,y.2≠.cell){x:Str}(h:(Fu scope env).names.lookup x=NC .cell∨(Fu scope env).names.lookup x=NC .free):(x,As)∈scope.names:=by
 have m:(x,Mn)∈(Fu scope env).names∨(x,As)∈(Fu scope env).names:=by
  rcases h with h | h
  ·exact .inl (M5 h)
  ·exact .inr (M5 h)
 unfold Fu at m;rcases m with m | m
 all_goals
  obtain⟨⟨n,k⟩,hm,e⟩:=J2.mp m;dsimp only at e;split at e
  ·rename_i hc;simp only[G7,beq_iff_eq]at hc;cases e
   first
    | (rw[hc.1.1]at hm;exact hm)
    | skip
  ·cases e
   first
    | exact hm
    | exact absurd U (hcell _ hm)
def mK(X:Cx)(scope:BF)(N:List Str)(cl:List (Str×A7))(fp:List A7)(s:A8)(H:Hp)(C:A7):Cx where
 prog:=X.prog
 w:=X.w
 K:=X.K
 mg:=X.mg
 base:=X.base
 A:=X.A
 N:=N
 s₀:=s
 H₀:=H
 env:=Kx scope cl C X.env
 outer:=X.stack
 stack:=X.stack
 ex:=fp
 calm:=X.calm
 fn:=λ_=>NG
 pn:=[]
 xe:=λ_ _=>False
def gq(σ:St)(fr:List Nat):St:=fr.map λi=>σ.getD i none
def blk(k:Nat)(σ:St)(fr:List Nat):St:=E4 k none++gq σ fr
def Kp(k:Nat)(σ:St)(fr:List Nat)(σ2:St):Prop:=σ2.length=(blk k σ fr).length∧∀(j:Nat) v,(blk k σ fr)[j]?=NC (NC v)→σ2[j]?=NC (NC v)
def PTs(X:Cx)(ifs:List AD)(t:TT):Prop:=
 ∀(pins:List (A7×Obj))(s:A8)(σ:St)(H:Hp)(Q:Bool→Hp→Prop),Inv X pins σ H s→t σ H Q →
  AF (AG X.prog X.w) X.A (forIn ifs NF λc r=>if r=NF then do let ok ←Fk c X.env (AO c X.env);pure (ForInStep.yield ok)else pure (ForInStep.yield r)) (TP X pins σ Q) X.xe s
def aJg:TT:=λ_ H Q=>Q NF H
theorem aEJ{X:Cx}:PTs X [] aJg:=λ_ _ _ H _ I h=>wpAny_tests_nil ⟨H,I,h⟩
theorem aEK{X:Cx}{c:AD}{t:TT}(h:PT X c t):PTs X [c] t:=λpins s σ H Q I q=>wpAny_tests_one (h pins s σ H Q I q)
theorem Fl{prog:AJ}{w:AN}{A:AL}{R:FB→A8→Prop}{s:A8}{elt target iter:AD}{ifs:List AD}{scope:BF}{pos:Pos}{it acc:A6}{env:Env}(I:Nat→A8→Prop)
  (turn:∀n s,I n s→AF (AG prog w) A (DC it) (λr s₁=>match r with
   | none=>R (.ok .next) s₁
   | some v=>AF (AG prog w) A (EC target it v) (λ_ s₀=>AF (AG prog w) A (EJ target env v) (λ_ s₂=>
     AF (AG prog w) A (forIn ifs NF λc r=>if r=NF then do let ok ←Fk c env (AO c env);pure (ForInStep.yield ok)else pure (ForInStep.yield r)) (λok s₃=>
      if ok=NF then AF (AG prog w) A (AO elt env) (λx s₄=>
       AF (AG prog w) A (call (.builtin "list.append") [acc,x]) (λ_ s₅=>∃m,m<n∧I m s₅) (λ_ _=>False) s₄) (λ_ _=>False) s₃
      else ∃m,m<n∧I m s₃) (λ_ _=>False) s₂) (λ_ _=>False) s₀) (λ_ _=>False) s₁) (λ_ _=>False) s)
  (n:Nat) (h:I n s) :
  CH (AG prog w) A (.compLoop (.ListComp elt [⟨target,iter,ifs,0⟩] scope pos) 0 it acc env) R s:=by
 refine codeAny_loop U I (λn s hI=>?_) n h;show AF _ A ((compTurn (.ListComp elt [⟨target,iter,ifs,0⟩] scope pos) 0 it acc env).onRaise (λx=>do noteFrame x env;theTreesLotGoes x)) _ _ s;refine wpAny_noted ?_;rw[compTurn_list];refine AX (E:=λ_ _=>False) ?_ (λ_ _ q=>q) λ_ _ x=>x.elim;refine A9 (GU (A9 (AX (turn n s hI) (λr s₁ h₁=>?_) λ_ _ h'=>h')));cases r with
 | none=>exact AE h₁
 | some v=>
  refine A9 (AX h₁ (λ_ s₀ h₀=>?_) λ_ _ h'=>h');refine A9 (AX h₀ (λ_ s₂ h₂=>A9 (AX h₂ (λok s₃ h₃=>?_) λ_ _ h'=>h')) λ_ _ h'=>h');cases ok with
  | false=>exact AE ⟨U,h₃⟩
  | true=>exact A9 (A9 (AX h₃ (λx s₄ h₄=>A9 (AX h₄ (λ_ s₅ h₅=>AE (AE ⟨U,h₅⟩)) λ_ _ h'=>h')) λ_ _ h'=>h'))
def aGe(J:It)(k:Nat)(fr:List Nat)(g:TG)(tc:TT)(te:TE)(σ:St)(H1:Hp)(Q:VK)(D:A7):Prop:=∃W:Nat→Nat→List V→Hp→Prop,(∃m,W 0 m [] (upd H1 D (.lst []))) ∧
 ∀i m ys H,W i m ys H→H D=NC (.lst ys)∧((J.stop i H∧Q (.ref D) H)∨(J.go i H∧∀x H',J.yld i H x H'→g x (blk k σ fr) H' λσ2 H2=>Kp k σ fr σ2∧tc σ2 H2 λok H3=>if ok=NF then
  te σ2 H3 λy H4=>H4 D=NC (.lst ys)∧ys.length<sizeLine∧∃m',m'<m∧W (i+1) m' (ys++[y]) (upd H4 D (.lst (ys++[y])))else ∃m',m'<m∧W (i+1) m' ys H3))
def QM(wi:TI)(k:Nat)(fr:List Nat)(g:TG)(tc:TT)(te:TE):TE:=λσ H Q=>wi σ H λJ H1=>∀D,H1 D=none→aGe J k fr g tc te σ H1 Q D
def xV(scope NZ:BF):BF:=
 {scope with names:=scope.names.map λ(n,k)=>if(k==.free&&NZ.kind==.function&&NZ.names.lookup n==NC .cell)then(n,.cell)else(n,k)}
structure mG(NZ scope:BF)(oN N:List Str)(k:Nat)(fr:List Nat):Prop where
 kind:scope.kind=.function
 cell:∀y∈scope.names,y.2≠.cell
 loc:∀y∈scope.names,y.2=.local→scope.names.lookup y.1=NC .local
 free:∀y∈scope.names,y.2=.free→NZ.names.lookup y.1=NC .cell∨NZ.names.lookup y.1=NC .free
 len:N.length=k+fr.length
 slots:∀j∈D4 fr.length,oN[fr.getD j 0]?=N[k+j]?
 from_:∀x∈N.drop k,(x,As)∈scope.names∧((xV scope NZ).names.lookup x=NC .cell∨(xV scope NZ).names.lookup x=NC .free)
def ug(NZ scope:BF)(oN N:List Str)(k:Nat)(fr:List Nat):Bool:=
 decide (scope.kind=.function)&&decide (∀y∈scope.names,y.2≠.cell)&&decide (∀y∈scope.names,y.2=.local→scope.names.lookup y.1=NC .local) &&
 decide (∀y∈scope.names,y.2=.free→NZ.names.lookup y.1=NC .cell∨NZ.names.lookup y.1=NC .free)&&decide (N.length=k+fr.length) &&
 decide (∀j∈D4 fr.length,oN[fr.getD j 0]?=N[k+j]?) &&
 decide (∀x∈N.drop k,(x,As)∈scope.names∧((xV scope NZ).names.lookup x=NC .cell∨(xV scope NZ).names.lookup x=NC .free))
theorem mG.of{NZ scope:BF}{oN N:List Str}{k:Nat}{fr:List Nat}(h:ug NZ scope oN N k fr=NF):mG NZ scope oN N k fr:=by unfold ug at h;simp only[G7,decide_eq_true_eq]at h;obtain⟨⟨⟨⟨⟨⟨h1,h2⟩,h3⟩,h4⟩,h5⟩,h6⟩,h7⟩:=h;exact⟨h1,h2,h3,h4,h5,h6,h7⟩
section
variable{X:Cx}
theorem aEL{k:Nat}{σ:St}{fr:List Nat}{i:Nat}{v:V}(h:(blk k σ fr)[i]?=NC (NC v)):∃j o,i=k+j∧fr[j]?=NC o∧σ[o]?=NC (NC v):=by
 unfold blk at h;by_cases hi:i<k
 ·rw[G4 (by simpa using hi),P0]at h;rw[if_pos hi]at h;cases h
 ·rw[L3 (by simpa using hi),P8]at h;unfold gq at h;rw[B9]at h;cases e:fr[i-k]? with
  | none=>rw[e]at h;cases h
  | some o=>
   rw[e]at h;refine⟨i-k,o,by omega,e,?_⟩;have h:NC (σ.getD o none)=NC (NC v):=h;have h:=F5 h;rw[B8]at h;cases e2:σ[o]? with
   | none=>rw[e2]at h;cases h
   | some z=>rw[e2]at h;exact congrArg NC h
theorem gr{pins:List (A7×Obj)}{σ:St}{H:Hp}{s:A8}{scope:BF}{N:List Str}{k:Nat}{fr:List Nat}{cl:List (Str×A7)}{fp:List A7}{h₁:AM}{tk:Nat}{m:Str→Option A6}
    (I:Inv X pins σ H s) (B:mG X.env.scope scope X.N N k fr) (hf:∀b∈fp,DG X pins H b) (hfo:∀b∈fp,b<s.heap.objs.size)
    (hcl:∀x c,cl.lookup x=NC c→(x,As)∈scope.names∧X.env.cells.lookup x=NC c) (aEM:∀x,(x,As)∈scope.names→∃c,cl.lookup x=NC c)
    (hn:h₁.Ns (s.heap.objs.size+1) m) (hs:BG (s.heap.objs.size+1) ((s.heap.push {cls:=.type "list", data:=.seq ([]:List A6).toArray}).push {cls:=.type "dict", data:=.dict #[]}) h₁) :
    Inv (mK X scope N cl fp s H (s.heap.objs.size+1)) [] (blk k σ fr) (upd H s.heap.objs.size (.lst [])) {s with heap:=h₁,toks:=tk}:=by
  have I3:=I.aJc (ys:=[]) (its:=[]) (t':=tk) .nil (M0 _);have hD:H s.heap.objs.size=none:=I.fresh;have hC:H (s.heap.objs.size+1)=none:=I.hok.fresh (M9 _);have neC:∀b o,(s.heap.push {cls:=.type "list", data:=.seq ([]:List A6).toArray}).get? b=NC o→b≠s.heap.objs.size+1:=λb o e=>by have:=AI e;rw[AZ]at this;exact E7 this
  have aGf:∀b o,(s.heap.push {cls:=.type "list", data:=.seq ([]:List A6).toArray}).get? b=NC o→h₁.get? b=NC o:=λb o e=>
    hs.extBut b o (neC b o e) (AA _ e)
  have kept:∀b o,s.heap.get? b=NC o→h₁.get? b=NC o:=λb o e=>aGf b o (AA _ e);refine⟨⟨I.ok.mod,B.kind,I.ok.glob,I.ok.blt,M9 _,λx y c h1 h2=>I.ok.inj x y c (hcl x c h1).2 (hcl y c h2).2,λx hx=>aEM x (GC B.cell hx),λx c h _=>(nomatch h),
      I.ok.hd,I.ok.frames,.inl U,λb hb=>⟨?_,λx c e=>(hf b hb).2.2.2.2.1 x c (hcl x c e).2⟩,λb o e=>I.bs b o e,G0 I.ok.bsz I.sz,λb o e hb=>?_,λb hb hb2=>?_,I.stack,I.qy⟩,
    rfl,I.bare,Un.laid kept (C5 _) hD,⟨m,hn,λi x v h1 h2 h3=>?_⟩,λx c e=>?_,?_,λx c e=>?_,λp hp=>absurd (show p∈([]:List (A7×Obj))from hp) (by simp),?_,?_⟩
  · exact E7 (M4 (hfo b hb))
  · rcases(hf b hb).2.2.2.1 with z | z
    · exact I.ok.aBm b o e z
    · exact absurd (E1 (AI e) (G0 I.ok.bsz z)) (K6 _)
  · rcases D5.mp (I.CW b hb2)with z | z
    · exact(hf b hb).2.1 z
    · exact(hf b hb).2.2.1 z
  · obtain⟨j,o,rfl,h4,h5⟩:=aEL h2
    have h1:N[k+j]?=NC x:=h1;have hj:j<fr.length:=(D2.mp h4).1;have hx:X.N[o]?=NC x:=by have q:=B.slots j (F9.mpr hj);rw[B8,h4]at q;exact q.trans h1
    obtain⟨hfr,hre⟩:=B.from_ x (E6 (i:=j) (by rw[V9];exact h1));have hk:=B.free _ hfr U;obtain⟨m0,hn0,hl0⟩:=I.loc;have hv:Vis X.env.scope x:=by
      rcases hk with q | q
      · exact .inr (.inl q)
      · exact .inr (.inr q)
    obtain⟨u,r,l⟩:=hl0 o x v hx h5 hv;refine⟨u,r,.inr ?_⟩;rcases l with ⟨q,_⟩ | ⟨_,c,e,z⟩
    · rcases hk with q' | q'
      · exact absurd (q.symm.trans q') (by intro z;cases z)
      · exact absurd (q.symm.trans q') (by intro z;cases z)
    · obtain⟨c',e'⟩:=aEM x hfr
      have e2:=(hcl x c' e').2;rw[e]at e2;cases e2;refine⟨hre,c,e',?_⟩;obtain⟨oc,hoc,hd⟩:=z;exact⟨oc,kept c oc hoc,hd⟩
  · obtain⟨v,oc,hoc,hd⟩:=I.cell x c (hcl x c e).2
    exact⟨v,oc,kept c oc hoc,hd⟩
  · show upd H s.heap.objs.size (.lst []) (s.heap.objs.size+1)=none
    rw[bN (O6 (M7 _))];exact hC
  · have hc:=(hcl x c e).2
    obtain⟨v,oc,hoc,hd⟩:=I.cell x c hc;show upd H s.heap.objs.size (.lst []) c=none;rw[bN (E7 (AI hoc))];exact I.Av x c hc
  · exact Gs.kept I3.hok aGf
  · show (blk k σ fr).length=N.length
    rw[B.len];unfold blk gq;simp
theorem QQ{tg elt iter:AD}{ifs:List AD}{scope:BF}{pos:Pos}{N:List Str}{k:Nat}{fr:List Nat}{g:TG}{tc:TT}{te:TE}{cl:List (Str×A7)}{pins:List (A7×Obj)}{σ:St}{H:Hp}{s:A8}{it:A7}{fp:List A7}{tn:Nat→AM→Prop}{J:It}{Q:VK}
    {RR:A6→A7→FB→A8→Prop} {E:A6→A8→Prop} (hcalm:X.calm=NF) (I:Inv X pins σ H s) (T:Turn X.prog X.w X.K tg J fp it tn) (st:tn 0 s.heap) (hf:∀b∈fp,DG X pins H b) (B:mG X.env.scope scope X.N N k fr)
    (hcl:∀x c,cl.lookup x=NC c→(x,As)∈scope.names∧X.env.cells.lookup x=NC c) (aEM:∀x,(x,As)∈scope.names→∃c,cl.lookup x=NC c)
    (hg:∀cl fp s H C,PG (mK X scope N cl fp s H C) tg g) (hc:∀cl fp s H C,PTs (mK X scope N cl fp s H C) ifs tc) (he:∀cl fp s H C,PE (mK X scope N cl fp s H C) elt te)
    (hw:∀D,H D=none→aGe J k fr g tc te σ H Q D)
    (hRR:∀D C m s' H',s'.heap.Ns C m→s.heap.objs.size≤C→H' C=none→C≠D→Inv X pins σ H' s'→Q (.ref D) H'→RR (.ref D) C (.ok .next) s') :
    AF (AG X.prog X.w) X.A (newList []) (λacc s₃=>AF (AG X.prog X.w) X.A (newFunctionEnv scope X.env.globals cl [] X.env.qual none .none (NC X.env)) (λcenv s₄=>
      CH (AG X.prog X.w) X.A (.compStart (.ListComp elt [⟨tg,iter,ifs,0⟩] scope pos) 0 (.ref it) acc {cenv with scope:=Fu scope X.env}) (RR acc cenv.locals) s₄) E s₃) E s:=by
  refine BT (wpAny_newFunctionEnv B.cell (by intro y hy;simp at hy) (λh₁ hns₁ hsb₁=>?_) B.kind);dsimp only at hns₁ hsb₁ ⊢;rw[AZ]at hns₁ hsb₁ ⊢;have hfo:∀b∈fp,b<s.heap.objs.size:=λb hb=>by obtain⟨o,e,_⟩:=T.obj 0 _ st b hb;exact AI e
  have I4:=gr (tk:=s.toks+([]:List (Str×A6)).length) I B hf hfo hcl aEM hns₁ hsb₁;generalize hD:s.heap.objs.size=D at *;have hDn:H D=none:=by rw[←hD];exact I.fresh
  obtain⟨W,⟨m0,w0⟩,turn⟩:=hw D hDn;have st1:tn 0 h₁:=T.keep 0 _ _ st λb hb o e=>hsb₁.extBut b o (E7 (M4 (by have:=hfo b hb;exact this))) (AA _ (AA _ e));have fr0:∀b∈fp,(upd H D (.lst [])) b=none:=λb hb=>by rw[bN (E7 (hfo b hb))];exact(hf b hb).1
  generalize hX':mK X scope N cl fp s H (D+1)=X' at I4;have stat:∀{H':Hp},(∀b∈fp,H' b=none)→∀b∈fp,DG X' [] H' b:=λ{H'} hn b hb=>by
    subst hX';refine⟨hn b hb,?_,λz=>?_,.inl hb,λx c e=>(hf b hb).2.2.2.2.1 x c (hcl x c e).2,λp hp=>absurd (show p∈([]:List (A7×Obj))from hp) (by simp)⟩
    · exact E7 (M4 (hfo b hb))
    · rcases D5.mp (I.CW b z)with z | z
      · exact(hf b hb).2.1 z
      · exact(hf b hb).2.2.1 z
  have loop:∀s₃:A8,s₃={s with heap:=h₁,toks:=s.toks+([]:List (Str×A6)).length} →
      CH (AG X.prog X.w) X.A (.compLoop (.ListComp elt [⟨tg,iter,ifs,0⟩] scope pos) 0 (.ref it) (.ref D) (Kx scope cl (D+1) X.env)) (RR (.ref D) (D+1)) s₃:=by
    rintro s₃ rfl;refine Fl (λn s'=>∃i ys H',Inv X' [] (blk k σ fr) H' s'∧tn i s'.heap∧(∀b∈fp,H' b=none)∧W i n ys H') ?_ m0 ⟨0,[],_,I4,st1,fr0,w0⟩;rintro n s5 ⟨i,ys,H5,I5,st5,fr5,w5⟩;obtain⟨hys,way⟩:=turn i n ys H5 w5;have e1:X'.prog=X.prog:=by rw[←hX'];rfl
    have e2:X'.w=X.w:=by rw[←hX'];rfl
    have e3:X'.K=X.K:=by rw[←hX'];rfl
    have e4:X'.A=X.A:=by rw[←hX'];rfl
    have e5:X'.calm=NF:=by rw[←hX'];exact hcalm
    have e6:X'.env=Kx scope cl (D+1) X.env:=by rw[←hX'];rfl
    have e7:X'.xe=λ_ _=>False:=by rw[←hX'];rfl
    rcases way with ⟨stop,q⟩ | ⟨go,step⟩
    · have d:=T.done X' e1 e2 e3 e5 i [] s5 _ H5 (λ_ _=>False) I5 (stat fr5) st5 stop
      rw[e4]at d;refine jG d λr s6 ⟨hr,I6⟩=>?_;subst hr;subst hX';obtain⟨m6,hn6,_⟩:=I6.loc;refine hRR D (D+1) m6 s6 H5 hn6 (M9 _) I6.free (O6 (M7 _)) ?_ q;exact I.call' I6.os I6.base I6.hok I6.bare λb hb=>⟨(hf b hb).2.2.2.1,(hf b hb).2.1,(hf b hb).2.2.2.2.1,(hf b hb).2.2.2.2.2⟩
    · have d:=T.item X' e1 e2 e3 e5 i [] s5 _ H5 (λ_ _=>False) I5 (stat fr5) st5 go
      rw[e4]at d;refine jG d λr s6 ⟨u,hr,h6⟩=>?_;subst hr;refine jG h6 λ_ s7 ⟨x,H7,I7,r7,y7,st7,fr7⟩=>?_;have I7':=I7.pinned (stat fr7) (T.obj _ _ st7);have hg':PG X' tg g:=by rw[←hX'];exact hg _ _ _ _ _
      have hc':PTs X' ifs tc:=by rw[←hX'];exact hc _ _ _ _ _
      have he':PE X' elt te:=by rw[←hX'];exact he _ _ _ _ _
      have a1:=hg' _ s7 _ H7 x u _ I7' r7 (step x H7 y7);rw[e1,e2,e4,e6,e7]at a1;refine jG a1 λ_ s8 ⟨σ8,H8,I8,⟨kl,kk⟩,q8⟩=>?_;have a2:=hc' _ s8 σ8 H8 _ I8 q8;rw[e1,e2,e4,e6,e7]at a2;refine jG a2 λok s9 ⟨H9,I9,q9⟩=>?_;have again:∀{Ha:Hp} {ya:List V} {sa:A8},Inv X' ([]++Rx fp s7.heap) σ8 Ha sa→(∃m',m'<n∧W (i+1) m' ya Ha) →
          ∃m,m<n∧∃i ys H',Inv X' [] (blk k σ fr) H' sa∧tn i sa.heap∧(∀b∈fp,H' b=none)∧W i m ys H':=λ{Ha ya sa} Ia ⟨m',hm,w'⟩=>by
        refine⟨m',hm,i+1,ya,Ha,(Ia.weak kl.symm kk).Ji,T.keep _ _ _ st7 λb hb o e=>(Ia.pin (b,o) (J1 _ (J1 _ (yX hb e)))).1,λb hb=>?_,w'⟩;obtain⟨o,e,d⟩:=T.obj _ _ st7 b hb;exact(Ia.pin (b,o) (J1 _ (J1 _ (yX hb e)))).2.1
      cases ok with
      | false=>exact again I9 q9
      | true=>have a3:=he' _ s9 σ8 H9 _ I9 q9;rw[e1,e2,e4,e6,e7]at a3;show AF _ _ _ _ _ s9;refine jG a3 λv s10 ⟨y,H10,I10,r10,hD10,hz,q10⟩=>?_;have a4:=lM (X:=X') _ s10 σ8 H10 (.ref D) [y] (.ref D) [v] (λ_ H11=>H11=upd H10 D (.lst (ys++[y]))) I10 U (.cons r10 .nil) ⟨D,ys,y,U,U,hD10,hz,U⟩;rw[e1,e2,e4,e7]at a4;refine jG a4 λ_ s11 ⟨_,H11,I11,_,e11⟩=>?_;subst e11;exact again I11 q10
  exact codeAny_compStart_list (loop _ U) (T.self _ 0 _ _ _ st1 (loop _ U))
theorem aEN{tg elt iter:AD}{ifs:List AD}{scope:BF}{pos:Pos}{wi:TI}{g:TG}{tc:TT}{te:TE}(N:List Str)(k:Nat)(fr:List Nat)(hcalm:X.calm=NF)(B:mG X.env.scope scope X.N N k fr)(hi:PI X tg iter wi)
  (hg:∀cl fp s H C,PG (mK X scope N cl fp s H C) tg g) (hc:∀cl fp s H C,PTs (mK X scope N cl fp s H C) ifs tc) (he:∀cl fp s H C,PE (mK X scope N cl fp s H C) elt te)
  (hs:∀x,BC iter X.env x=pure x:=by intro _;rfl):PE X (.ListComp elt [⟨tg,iter,ifs,0⟩] scope pos) (QM wi k fr g tc te):=by
 intro pins s σ H Q I h;obtain⟨cl,e,h1,h2⟩:=Gd scope X.env λy hy hk=>I.ok.has y.1 (B.free y hy hk);rw[eval_ListComp];refine FH (use:=none) U hs e B.kind B.loc (AX (hi pins s σ H _ I h) (λxv s₁ q₁=>AX q₁ (λitv s₂ q₂=>?_) λ_ _ x=>x) λ_ _ x=>x);obtain⟨it,fp,tn,J,H2,rfl,I2,T,st2,f2,hw⟩:=q₂;refine QQ (Q:=Q) (RR:=λacc C=>compPost (AG X.prog X.w) X.A X.xe none (EP X pins σ Q) acc C) hcalm I2 T st2 f2 B h1 h2 hg hc he hw ?_;intro D C m s' H' hn hC hf hne I' q;refine⟨m,hn,λh' hs'=>⟨.ref D,H',?_,U,q⟩⟩;exact I'.turned (t':=s'.toks) (λb o hb eb=>(hs'.2 b hb).trans eb) hf (O6 (E1 I2.lt hC)) (.inr (G0 I2.sz hC)) (λx c ec z=>by
  obtain⟨v,q⟩:=I2.cell x c ec;exact absurd (E1 q.lt (by rw[z];exact hC)) (K6 _)) λp hp z=>absurd (E1 (AI (I2.pin p hp).1) (by rw[z];exact hC)) (K6 _)
theorem aEO{tg elt iter:AD}{ifs:List AD}{scope:BF}{pos spos py:Pos}{y:Str}{i:Nat}{wi:TI}{g:TG}{tc:TT}{te:TE}(N:List Str)(k:Nat)(fr:List Nat)(hcalm:X.calm=NF)(B:mG X.env.scope scope X.N N k fr)(hN:X.N.Nodup)(hy:X.N[i]?=NC y)(hx:Loc X.env.scope y)(hi:PI X tg iter wi)
  (hg:∀cl fp s H C,PG (mK X scope N cl fp s H C) tg g) (hc:∀cl fp s H C,PTs (mK X scope N cl fp s H C) ifs tc) (he:∀cl fp s H C,PE (mK X scope N cl fp s H C) elt te)
  (hsw:Ct (.ListComp elt [⟨tg,iter,ifs,0⟩] scope pos) (NC (.Name y py)) spos.line X.env=pure NF:=by rfl)
  (hs:∀x,BC iter X.env x=pure x:=by intro _;rfl) (hf:X.fn y=NF∨X.env.scope.names.lookup y=NC .local:=by first | exact .inl U | exact .inr U | assumption) :
  PS X (.Assign [.Name y py] (.ListComp elt [⟨tg,iter,ifs,0⟩] scope pos) spos) (Bm (QM wi k fr g tc te) (lW i)):=by
 intro pins s σ H D I h;obtain⟨cl,e,h1,h2⟩:=Gd scope X.env λy hy hk=>I.ok.has y.1 (B.free y hy hk);rw[exec_Assign_Name_used _ _ _ _ hsw];refine A9 (GU (A9 ?_));show AF _ X.A (do let _ ←comprehension (.ListComp elt [⟨tg,iter,ifs,0⟩] scope pos) scope X.env _ (newList []) NG (AO iter X.env) (NC (EJ (.Name y py) X.env))) _ _ s;refine A9 (AX (FH (use:=NC (EJ (.Name y py) X.env)) (Q:=λ_ s'=>SP X pins D .next s') U hs e B.kind B.loc
  (AX (hi pins s σ H _ I h) (λxv s₁ q₁=>AX q₁ (λitv s₂ q₂=>?_) λ_ _ x=>x) λ_ _ x=>x)) (λ_ s' hq=>AE (AE hq)) λ_ _ x=>x)
 obtain⟨it,fp,tn,J,H2,rfl,I2,T,st2,f2,hw⟩:=q₂;refine QQ (Q:=λx H1=>lW i x σ H1 D.nx) (RR:=λacc C=>compPost (AG X.prog X.w) X.A X.xe (NC (EJ (.Name y py) X.env)) (λ_ s'=>SP X pins D .next s') acc C) hcalm I2 T st2 f2 B h1 h2 hg hc he hw ?_;intro E C m s' H' hn hC hfr hne I' q;show AF _ X.A (EJ (.Name y py) X.env (.ref E)) _ _ _;have cne:∀x c,X.env.cells.lookup x=NC c→c≠C:=λx c ec z=>by obtain⟨v,q⟩:=I2.cell x c ec;exact absurd (E1 q.lt (by rw[z];exact hC)) (K6 _)
 refine HZ (Xu I' hN hy hx (show RelV (.ref E) (.ref E)from rfl) (λs6 I6 ⟨a,hsb,ha⟩=>?_) hf);have neA:C≠a:=by
  rcases ha with z | z
  ·rw[z];exact O6 (E1 I2.lt hC)
  ·exact λq=>cne _ _ z q.symm
 refine⟨m,hn.sameBut hsb neA,λh'' hs''=>⟨_,H',?_,q⟩⟩;exact I6.turned (t':=s6.toks) (λb o hb eb=>(hs''.2 b hb).trans eb) hfr (O6 (E1 I2.lt hC)) (.inr (G0 I2.sz hC)) cne
  λp hp z=>absurd (E1 (AI (I2.pin p hp).1) (by rw[z];exact hC)) (K6 _)
end
end L2


set_option maxHeartbeats 4000000
namespace L2
open PySem PySem.Spec PyProof.Rows
def JIs(J:It)(P:Hp→Prop)(xs:List V):Prop:=
 ∀i H,P H→(i<xs.length→J.go i H)∧(∀x H',J.yld i H x H'→H'=H∧(i<xs.length→xs[i]?=NC x))∧(xs.length≤i→J.stop i H)
theorem QR{K:aJ}{a:A7}{xs:List V}:JIs (Itl K a) (λH=>rJ K H a xs) xs:=λi H hq=>
 ⟨λh=>⟨xs,xs[i],hq,by simp[h]⟩,λx H' ⟨e,y⟩=>⟨e,λ_=>y xs hq⟩,λh=>⟨xs,hq,h⟩⟩
theorem aEP{K:aJ}{a:A7}{xs:List V}:JIs (Itt K a) (λH=>yV K H a xs) xs:=λi H hq=>
 ⟨λh=>⟨xs,xs[i],hq,by simp[h]⟩,λx H' ⟨e,y⟩=>⟨e,λ_=>y xs hq⟩,λh=>⟨xs,hq,h⟩⟩
theorem Ea{lo:Int}{n:Nat}:JIs (Itr lo n) (λ_=>True) ((D4 n).map λi:Nat=>V.int (lo+(i:Int))):=λi H _=>
 ⟨λh=>show i<n by simpa using h,λx H' ⟨e,y⟩=>⟨e,λh=>by
  have h:i<n:=by simpa using h
  subst y;simp[h]⟩,λh=>show n≤i by simpa using h⟩
section
variable{X:Cx}
theorem iU{scope:BF}{N:List Str}{x:Str}{pos:Pos}(hN:N.Nodup)(hi:N[0]?=NC x)(hx:(xV scope X.env.scope).names.lookup x=NC .local) :
  ∀cl fp s H C,PG (mK X scope N cl fp s H C) (.Name x pos) (lW 0):=λ_ _ _ _ _=>kI hN hi (D1 hx) (C9 hx)
theorem aEQ{P:AJ}{w:AN}{k:Key}{v:A6}(h:(iI P w).is k v=NF):RelV (kV k) v:=by
 rcases iZ (k:=k) (v:=v) h with ⟨i,t,rfl,rfl⟩ | ⟨x,t,rfl,rfl⟩
 ·exact⟨t,U⟩
 ·exact⟨t,U⟩
theorem GD{J:It}{P:Hp→Prop}{xs:List V}(hJ:JIs J P xs){g:TG}{tb:TS}{D:Ends}{σ:St}{H:Hp}(Pv:Nat→St→Hp→Prop)(h0:Pv 0 σ H)(hl:∀i σ H,i≤xs.length→Pv i σ H→P H)
  (hs:∀i x σ H,xs[i]?=NC x→Pv i σ H→g x σ H λσ2 H2=>tb {D with nx:=Pv (i+1),ct:=Pv (i+1),bk:=D.nx} σ2 H2) (hd:∀σ H,Pv xs.length σ H→D.nx σ H) :
  ∃W:Nat→Nat→St→Hp→Prop,(∃m,W 0 m σ H)∧∀i m σ H,W i m σ H →
   (J.stop i H∧D.nx σ H)∨(J.go i H∧∃N:St→Hp→Prop,(∀σ' H',N σ' H'→∃m',m'<m∧W (i+1) m' σ' H')∧∀x H',J.yld i H x H'→g x σ H' λσ2 H2=>tb {D with nx:=N,ct:=N,bk:=D.nx} σ2 H2):=by
 refine⟨λi m σ H=>m=xs.length-i∧i≤xs.length∧Pv i σ H,⟨xs.length,by simp,M0 _,h0⟩,?_⟩;rintro i m σ H ⟨rfl,hi,p⟩;obtain⟨j1,j2,j3⟩:=hJ i H (hl i σ H hi p);by_cases hlt:i<xs.length
 ·refine .inr ⟨j1 hlt,Pv (i+1),λσ' H' p'=>⟨xs.length-(i+1),by omega,U,hlt,p'⟩,λx H' y=>?_⟩;obtain⟨e,ex⟩:=j2 x H' y;subst e;exact hs i x σ _ (ex hlt) p
 ·have e:i=xs.length:=by omega
  subst e;exact .inl ⟨j3 (C5 _),hd σ H p⟩
end
end L2


namespace L2
open PySem PySem.Spec PyProof.Rows
section
variable{X:Cx}
theorem Ov:∀{bs:List Bool} {us:List A6},Vals (bs.map V.bl) us→us=bs.map DB
 | [],us,r=>by rw[G6]at r;cases r;rfl
 | b::bs,us,r=>by
  rw[D3]at r;cases r with
  | cons r1 r2=>
   cases(show _=DB b from r1)
   rw[Ov r2];rfl
theorem gw(bs:List Bool):((D4 bs.length).all λi=>(bs[i]?).getD NF)=bs.all id:=by
 rw[L5,L8,L8];constructor
 ·intro h b hb;obtain⟨i,hi,rfl⟩:=K0 hb;have:=h i (F9.mpr hi);simpa[hi]using this
 ·intro h i hi;have hi':=F9.mp hi;simp only[B7 hi',T2];exact h _ (N6 hi')
theorem uh{s:A8}{h':AM}{o:Obj}(hk:∀b x,b∉[s.heap.objs.size]→(s.heap.push o).get? b=NC x→h'.get? b=NC x):∀b x,s.heap.get? b=NC x→h'.get? b=NC x:=
 λb x e=>hk b x (λhm=>by rw[E3.mp hm]at e;exact K6 _ (AI e)) (AA _ e)
theorem aBZ(hc:X.calm=NF):oJ X (.builtin "all") (λxs H Q=>∃(p:A7)(bs:List Bool),xs=[.ref p]∧rJ X.K H p (bs.map V.bl)∧Q (.bl (bs.all id)) H):=by
 intro pins s σ H xs us Q I r h;obtain⟨p,bs,rfl,hq,q⟩:=h;obtain⟨u,rfl,rx⟩:=vals1 r;cases rx;obtain⟨its,rv,pl,hz⟩:=I.list hq;have hb:=Ov rv;subst hb;have hl:=pl.isList;have hlt:p<s.heap.objs.size:=by obtain⟨_,e,_⟩:=hl;exact AI e
 refine call_all_walk (DO hl ?_);refine⟨s.heap.objs.size,[s.heap.objs.size,p],[s.heap.objs.size],_,_,_,λi=>(bs[i]?).getD NF,U,IT (A:=X.A.in1) (I.ok.hd hc) _ p (E7 hlt) _,
  ⟨⟨_,AK _ U,U,U⟩,hl.push _⟩,λi v s' Q' E' hP hQ=>?_,λh' tk hk=>?_⟩
 ·have e:(bs.map DB)[i]?=NC v:=by simpa using hP
  rw[B9]at e;cases e2:bs[i]? with
  | none=>rw[e2]at e;cases e
  | some b=>rw[e2]at e;cases e;simp only[e2,T2]at hQ;exact Au hQ
 ·have e:((D4 (bs.map DB).toArray.size).all λi=>(bs[i]?).getD NF)=bs.all id:=by rw[C6,B6];exact gw bs
  rw[e];exact⟨.bl _,H,I.kept (uh hk),U,q⟩
theorem aAp{P:AJ}{w:AN}{kvs:List (Key×V)}{vs:List (Key×A6)}(rel:KV kvs vs){us:List A6}(hl:us.length=vs.length)(hv:∀(j:Nat)(v:A6),us[j]?=NC v→∃k x,vs[j]?=NC (k,x)∧(iI P w).is k v=NF) :
  Vals (kvs.map λkv=>kV kv.1) us:=by
 have ek:=KV.keys rel;have e0:(kvs.map λkv=>kV kv.1)=(vs.map (·.1)).map kV:=by rw[←ek,K7];rfl
 rw[e0];clear e0 ek rel
 induction vs generalizing us with
 | nil=>
  cases us with
  | nil=>exact .nil
  | cons _ _=>simp at hl
 | cons p r ih=>
  cases us with
  | nil=>simp at hl
  | cons u us=>refine .cons ?_ (ih (by simpa using hl) λj v e=>by simpa using hv (j+1) v (by simpa using e));obtain⟨k,x,e,h⟩:=hv 0 u U;simp at e;subst e;exact aEQ h
theorem Bq(hc:X.calm=NF):oJ X (.type "list") (λxs H Q=>∃p kvs,xs=[.ref p]∧Rd H p (.dK kvs)∧∀l,H l=none→Q (.ref l) (upd H l (.lst (kvs.map λkv=>kV kv.1)))):=by intro pins s σ H xs us Q I r h;obtain⟨p,kvs,rfl,hq,q⟩:=h;obtain⟨u,rfl,rx⟩:=vals1 r;cases rx;obtain⟨hz,hsm,vs,rel,dd⟩:=Ou I.hok hq;obtain⟨ep,hat⟩:=dd.dictAt;have hl:=KV.length rel;refine PySem.W.kdl_call (PySem.W.kdl_dict (knd:=iI X.prog X.w) (kvs:=vs) (ep:=ep) hsm) (I.ok.hd hc) hat (by omega) ?_;intro h' tk acc c kp e hacc;have hk:=aAp (P:=X.prog) (w:=X.w) rel (us:=acc.toList) (by rw[J9];exact hacc.1) λj v ej=>hacc.2 j v (by rw[←L7];exact ej);exact⟨.ref s.heap.objs.size,_,I.laid (t':=tk) kp (C5 _) (show jZ X.prog X.w _ h' _ (.lst (kvs.map λkv=>kV kv.1))from⟨by rw[B6];exact hz,acc.toList,c,hk,by simpa using e⟩),U,q _ (I.hok.fresh (C5 _))⟩
def rising(ns ms:List Int):Prop:=ms.Perm ns∧ms.Pairwise (·≤·)
theorem QS:oJ X (.builtin "sorted") (λxs H Q=>∃(p:A7)(ns:List Int),xs=[.ref p]∧rJ X.K H p (ns.map V.int)∧ns.length<64∧∀l ms,H l=none→rising ns ms→Q (.ref l) (upd H l (.lst (ms.map V.int)))):=by
 intro pins s σ H xs us Q I r h;obtain⟨p,ns,rfl,hq,h64,q⟩:=h;obtain⟨u,rfl,rx⟩:=vals1 r;cases rx;obtain⟨its,rv,pl,hz⟩:=I.list hq;have hlen:=rv.length;rw[B6]at hlen;refine sorted_ints pl.isList (intsAre_of rv) (by omega) λout ns' a1 a2 a3=>?_;obtain⟨e,he⟩:=sortedAll_at s.heap its out;have hl2:ns'.length=ns.length:=a2.length_eq;have hs:H (s.heap.objs.size+1)=none:=I.hok.fresh (M9 _);have I2:=I.laid (t':=s.toks) (a:=s.heap.objs.size+1) (o:=.lst (ns'.map V.int)) (h':=sortedAll s.heap its out) (λb o e=>sortedAll_old e) (M9 _)
  ⟨by rw[B6];exact O5 (xU (by omega)),out.toList,e,Dz a1,by simpa[HK]using he⟩
 exact⟨.ref _,_,I2,U,q _ _ hs ⟨a2,a3⟩⟩
end
inductive DV where
  | int (i:Int) | non | lst (ds:List DV) | tup (ds:List DV)
mutual
def Reads(K:aJ)(H:Hp):DV→V→Prop
 | .int i,x=>x=.int i
 | .non,x=>x=.non
 | .lst ds,x=>∃a xs,x=.ref a∧rJ K H a xs∧fK K H ds xs
 | .tup ds,x=>∃a xs,x=.ref a∧yV K H a xs∧fK K H ds xs
def fK(K:aJ)(H:Hp):List DV→List V→Prop
 | [],xs=>xs=[]
 | d::ds,xs=>∃y ys,xs=y::ys∧Reads K H d y∧fK K H ds ys
end
mutual
def DV.depth:DV→Nat
 | .int _=>0
 | .non=>0
 | .lst ds=>dH ds+1
 | .tup ds=>dH ds+1
def dH:List DV→Nat
 | []=>0
 | d::ds=>max d.depth (dH ds)
end
theorem fK.length{K:aJ}{H:Hp}:∀{ds:List DV} {xs:List V},fK K H ds xs→xs.length=ds.length
 | [],xs,h=>by unfold fK at h;rw[h];rfl
 | d::ds,xs,h=>by unfold fK at h;obtain⟨y,ys,rfl,_,h2⟩:=h;simp[fK.length h2]
theorem fK.get{K:aJ}{H:Hp}:∀{ds:List DV} {xs:List V} {i:Nat} {d:DV},fK K H ds xs→ds[i]?=NC d→∃x,xs[i]?=NC x∧Reads K H d x
 | [],xs,i,d,h,e=>by simp at e
 | d'::ds,xs,0,d,h,e=>by unfold fK at h;obtain⟨y,ys,rfl,h1,_⟩:=h;simp at e;subst e;exact⟨y,U,h1⟩
 | d'::ds,xs,i+1,d,h,e=>by unfold fK at h;obtain⟨y,ys,rfl,_,h2⟩:=h;obtain⟨x,e1,e2⟩:=fK.get h2 (by simpa using e);exact⟨x,by simpa using e1,e2⟩
theorem Sx:∀{ds:List DV} {i:Nat} {d:DV},ds[i]?=NC d→d.depth≤dH ds
 | [],i,d,e=>by simp at e
 | d'::ds,0,d,e=>by simp at e;subst e;unfold dH;exact Nat.le_max_left _ _
 | d'::ds,i+1,d,e=>by have:=Sx (ds:=ds) (i:=i) (d:=d) (by simpa using e);unfold dH;exact G0 this (Nat.le_max_right _ _)
theorem ie(A:AL):A.in1.units=A.units+1:=rfl
section
open SeqAt
open Classical in
noncomputable def Br(d e:DV):Bool:=decide (d=e)
theorem uP{d e:DV}:Br d e=NF↔d=e:=by unfold Br;simp
theorem pO(d:DV):Br d d=NF:=uP.mpr U
theorem lZ{d e:DV}(h:d≠e):Br d e=NG:=by unfold Br;simp[h]
theorem aER(a b:Int):Br (.int a) (.int b)=(a==b):=by
 by_cases h:a=b
 ·subst h;simp[pO]
 ·rw[lZ (by simpa using h)];simp[h]
open Classical in
theorem rK{ds es:List DV}(hl:ds.length=es.length):((D4 ds.length).all λi=>match ds[i]?,es[i]? with | some d,NC e=>Br d e | _,_=>NF)=decide (ds=es):=by
 rw[L5,L8,decide_eq_true_iff];constructor
 ·intro h;apply X5 hl;intro i h1 h2;have:=h i (F9.mpr h1);simp only[B7 h1,B7 h2]at this;exact uP.mp this
 ·rintro rfl i hi;have hi':=F9.mp hi;simp only[B7 hi'];exact pO _
variable{X:Cx}{pins:List (A7×Obj)}{σ:St}{H:Hp}{s:A8}
open Classical in
theorem um(ds es:List DV):Br (.lst ds) (.lst es)=decide (ds=es):=by
 by_cases h:ds=es
 ·subst h;simp[pO]
 ·rw[lZ (by intro z;cases z;exact h U)];simp[h]
open Classical in
theorem uo(ds es:List DV):Br (.tup ds) (.tup es)=decide (ds=es):=by
 by_cases h:ds=es
 ·subst h;simp[pO]
 ·rw[lZ (by intro z;cases z;exact h U)];simp[h]
theorem Yl(I:Inv X pins σ H s):∀(n:Nat)(d e:DV)(x:V),d.depth≤n→Reads X.K H d x→Reads X.K H e x→d=e:=by
 have lists:∀(n:Nat),(∀(d e:DV)(x:V),d.depth≤n→Reads X.K H d x→Reads X.K H e x→d=e)→∀(ds es:List DV)(xs:List V),dH ds≤n→fK X.K H ds xs→fK X.K H es xs→ds=es:=by
  intro n ih ds
  induction ds with
  | nil=>
   intro es xs _ h1 h2;have l1:=h1.length;have l2:=h2.length;cases es with
   | nil=>rfl
   | cons _ _=>rw[l1]at l2;simp at l2
  | cons d ds ihl=>
   intro es xs hd h1 h2;have hd1:d.depth≤n:=by unfold dH at hd;omega
   have hd2:dH ds≤n:=by unfold dH at hd;omega
   unfold fK at h1;obtain⟨y,ys,rfl,a1,a2⟩:=h1;cases es with
   | nil=>have:=h2.length;simp at this
   | cons e es=>unfold fK at h2;obtain⟨y',ys',q,b1,b2⟩:=h2;cases q;rw[ih d e y hd1 a1 b1,ihl es ys hd2 a2 b2]
 have kinds:∀{a:A7} {xs ys:List V},rJ X.K H a xs→yV X.K H a ys→False:=λ{a xs ys} h1 h2=>by obtain⟨_,_,p1,_⟩:=I.list h1;obtain⟨_,_,p2,_⟩:=I.tuple h2;exact ne_of_list_tuple p1.isList (show s.heap.IsTuple a _ from p2) U
 intro n
 induction n with
 | zero=>
  intro d e x hd h1 h2;cases d with
  | int i=>
   unfold Reads at h1;subst h1;cases e with
   | int j=>unfold Reads at h2;cases h2;rfl
   | non=>unfold Reads at h2;cases h2
   | lst es=>unfold Reads at h2;obtain⟨_,_,q,_⟩:=h2;cases q
   | tup es=>unfold Reads at h2;obtain⟨_,_,q,_⟩:=h2;cases q
  | non=>
   unfold Reads at h1;subst h1;cases e with
   | non=>rfl
   | int j=>unfold Reads at h2;cases h2
   | lst es=>unfold Reads at h2;obtain⟨_,_,q,_⟩:=h2;cases q
   | tup es=>unfold Reads at h2;obtain⟨_,_,q,_⟩:=h2;cases q
  | lst ds=>unfold DV.depth at hd;omega
  | tup ds=>unfold DV.depth at hd;omega
 | succ n ih=>
  intro d e x hd h1 h2;cases d with
  | int i=>
   unfold Reads at h1;subst h1;cases e with
   | int j=>unfold Reads at h2;cases h2;rfl
   | non=>unfold Reads at h2;cases h2
   | lst es=>unfold Reads at h2;obtain⟨_,_,q,_⟩:=h2;cases q
   | tup es=>unfold Reads at h2;obtain⟨_,_,q,_⟩:=h2;cases q
  | non=>
   unfold Reads at h1;subst h1;cases e with
   | non=>rfl
   | int j=>unfold Reads at h2;cases h2
   | lst es=>unfold Reads at h2;obtain⟨_,_,q,_⟩:=h2;cases q
   | tup es=>unfold Reads at h2;obtain⟨_,_,q,_⟩:=h2;cases q
  | lst ds=>
   unfold Reads at h1;obtain⟨a,xs,rfl,hq,r⟩:=h1;cases e with
   | int j=>unfold Reads at h2;cases h2
   | non=>unfold Reads at h2;cases h2
   | lst es=>
    unfold Reads at h2;obtain⟨b,ys,q,hq2,r2⟩:=h2;cases q;have:=I.PQ hq hq2;subst this;rw[lists n ih ds es xs (by unfold DV.depth at hd;omega) r r2]
   | tup es=>
    unfold Reads at h2;obtain⟨b,ys,q,hq2,r2⟩:=h2;cases q;exact(kinds hq hq2).elim
  | tup ds=>
   unfold Reads at h1;obtain⟨a,xs,rfl,hq,r⟩:=h1;cases e with
   | int j=>unfold Reads at h2;cases h2
   | non=>unfold Reads at h2;cases h2
   | lst es=>
    unfold Reads at h2;obtain⟨b,ys,q,hq2,r2⟩:=h2;cases q;exact(kinds hq2 hq).elim
   | tup es=>unfold Reads at h2;obtain⟨b,ys,q,hq2,r2⟩:=h2;cases q;have:=I.Xv hq hq2;subst this;rw[lists n ih ds es xs (by unfold DV.depth at hd;omega) r r2]
theorem aB0(I:Inv X pins σ H s)(i:Int)(e:DV)(y:V)(u v:A6)(A:AL)(hu:A.units<Ap)(r2:Reads X.K H e y)(rx:RelV (.int i) u)(ry:RelV y v):RcAt A s u v (Br (.int i) e)∧EqAt A s u v (Br (.int i) e):=by
 obtain⟨t,rfl⟩:=rx;cases e with
 | int j=>unfold Reads at r2;subst r2;obtain⟨t',rfl⟩:=ry;rw[aER];exact⟨RcAt.int_int _ _ _ _,EqAt.int_int _ _ _ _⟩
 | non=>
  unfold Reads at r2;subst r2;cases ry;rw[lZ (by intro z;cases z)];exact⟨RcAt.int_none _ _,EqAt.int_none _ _⟩
 | lst es=>
  unfold Reads at r2;obtain⟨b,ys,rfl,hq,_⟩:=r2;cases ry;obtain⟨its,_,pl,_⟩:=I.list hq;rw[lZ (by intro z;cases z)];exact⟨RcAt.int_list _ _ pl.isList (hu),EqAt.int_list _ _ pl.isList (hu)⟩
 | tup es=>unfold Reads at r2;obtain⟨b,ys,rfl,hq,_⟩:=r2;cases ry;obtain⟨its,_,pl,_⟩:=I.tuple hq;rw[lZ (by intro z;cases z)];exact⟨RcAt.int_tuple _ _ pl (hu),EqAt.int_tuple _ _ pl (hu)⟩
theorem aB1(I:Inv X pins σ H s)(e:DV)(y:V)(u v:A6)(A:AL)(hu:A.units<Ap)(r2:Reads X.K H e y)(rx:RelV .non u)(ry:RelV y v):RcAt A s u v (Br .non e)∧EqAt A s u v (Br .non e):=by
 cases rx;cases e with
 | non=>
  unfold Reads at r2;subst r2;cases ry;rw[pO];exact⟨RcAt.none_none,EqAt.same _⟩
 | int j=>unfold Reads at r2;subst r2;obtain⟨t',rfl⟩:=ry;rw[lZ (by intro z;cases z)];exact⟨RcAt.none_int _ _,EqAt.none_int _ _⟩
 | lst es=>
  unfold Reads at r2;obtain⟨b,ys,rfl,hq,_⟩:=r2;cases ry;obtain⟨its,_,pl,_⟩:=I.list hq;rw[lZ (by intro z;cases z)];exact⟨RcAt.none_list pl.isList hu,EqAt.none_list pl.isList hu⟩
 | tup es=>unfold Reads at r2;obtain⟨b,ys,rfl,hq,_⟩:=r2;cases ry;obtain⟨its,_,pl,_⟩:=I.tuple hq;rw[lZ (by intro z;cases z)];exact⟨RcAt.none_tuple pl hu,EqAt.none_tuple pl hu⟩
theorem Sy(I:Inv X pins σ H s):∀(n:Nat)(A:AL),(∀(d e:DV)(x y:V)(u v:A6)(A:AL),d.depth≤n→A.units+n<Ap→Reads X.K H d x→Reads X.K H e y→RelV x u→RelV y v→RcAt A s u v (Br d e)∧EqAt A s u v (Br d e)) →
  ∀(ds es:List DV)(xs ys:List V)(us vs:List A6),dH ds≤n→A.units+(n+1)<Ap→fK X.K H ds xs→fK X.K H es ys→Vals xs us→Vals ys vs →
  ∀j (h1:j<us.toArray.size) (h2:j<vs.toArray.size),EqAt A.in1 s us.toArray[j] vs.toArray[j] (match ds[j]?,es[j]? with | some d,NC e=>Br d e | _,_=>NF):=by
 intro n A ih ds es xs ys us vs hd hu r1 r2 v1 v2 j h1 h2;have l1:j<ds.length:=by rw[←r1.length,v1.length];simpa using h1
 have l2:j<es.length:=by rw[←r2.length,v2.length];simpa using h2
 obtain⟨x,ex,rx⟩:=r1.get (i:=j) (d:=ds[j]) (by simp);obtain⟨y,ey,ry⟩:=r2.get (i:=j) (d:=es[j]) (by simp);obtain⟨u,eu,ru⟩:=v1.get ex;obtain⟨v,ev,rv⟩:=v2.get ey;have e1:us.toArray[j]=u:=by rw[D2]at eu;obtain⟨_,eu⟩:=eu;simpa using eu
 have e2:vs.toArray[j]=v:=by rw[D2]at ev;obtain⟨_,ev⟩:=ev;simpa using ev
 rw[e1,e2];simp only[B7 l1,B7 l2];exact(ih _ _ x y u v A.in1 (G0 (Sx (i:=j) (by simp)) hd) (by rw[ie];omega) rx ry ru rv).2
theorem GF(I:Inv X pins σ H s):∀(n:Nat)(d e:DV)(x y:V)(u v:A6)(A:AL),d.depth≤n→A.units+n<Ap→Reads X.K H d x→Reads X.K H e y→RelV x u→RelV y v→RcAt A s u v (Br d e)∧EqAt A s u v (Br d e):=by
 have items:=Sy I;have seqs:∀(n:Nat)(A:AL),(∀(d e:DV)(x y:V)(u v:A6)(A:AL),d.depth≤n→A.units+n<Ap→Reads X.K H d x→Reads X.K H e y→RelV x u→RelV y v→RcAt A s u v (Br d e)∧EqAt A s u v (Br d e)) →
   ∀(d e:DV)(x y:V)(u v:A6),d.depth≤n+1→A.units+(n+1)<Ap→Reads X.K H d x→Reads X.K H e y→RelV x u→RelV y v→RcAt A s u v (Br d e)∧EqAt A s u v (Br d e):=by
  intro n A ih d e x y u v hd hu r1 r2 rx ry;have of_same:∀{a b:A7} {k:Bool},(a=b→k=NF)→RcAt A s (.ref a) (.ref b) k→EqAt A s (.ref a) (.ref b) k:=λ{a b k} hk h=>by
   by_cases hab:a=b
   ·subst hab;rw[hk rfl];exact EqAt.same _
   ·exact EqAt.of_refs hab h
  cases d with
  | int i=>unfold Reads at r1;subst r1;exact aB0 I i e y u v A (by omega) r2 rx ry
  | non=>unfold Reads at r1;subst r1;exact aB1 I e y u v A (by omega) r2 rx ry
  | lst ds=>
   unfold Reads at r1;obtain⟨a,xs,rfl,hq1,rl1⟩:=r1;cases rx;obtain⟨Tc,v1,Wq,_⟩:=I.list hq1;have hd':dH ds≤n:=by unfold DV.depth at hd;omega
   cases e with
   | int j=>unfold Reads at r2;subst r2;obtain⟨t',rfl⟩:=ry;rw[lZ (by intro z;cases z)];exact⟨RcAt.list_int _ _ Wq.isList (by omega),EqAt.list_int _ _ Wq.isList (by omega)⟩
   | non=>
    unfold Reads at r2;subst r2;cases ry;rw[lZ (by intro z;cases z)];exact⟨RcAt.list_none Wq.isList (by omega),EqAt.list_none Wq.isList (by omega)⟩
   | lst es=>
    unfold Reads at r2;obtain⟨b,ys,rfl,hq2,ig⟩:=r2;cases ry;obtain⟨its2,v2,QT,_⟩:=I.list hq2;have e1:Tc.toArray.size=ds.length:=by rw[C6,←v1.length,rl1.length]
    have e2:its2.toArray.size=es.length:=by rw[C6,←v2.length,ig.length]
    have rc:RcAt A s (.ref a) (.ref b) (Br (.lst ds) (.lst es)):=by
     by_cases hl:ds.length=es.length
     ·have q:=RcAt.lists (A:=A) (s:=s) Wq.isList QT.isList (by rw[e1,e2];exact hl) (by omega) (items n A ih ds es xs ys Tc its2 hd' hu rl1 ig v1 v2);rw[e1,rK hl]at q;rw[um];exact q
     ·rw[lZ (by intro z;cases z;exact hl U)];exact RcAt.lists_lengths Wq.isList QT.isList (by rw[e1,e2];simpa using hl) (by omega)
    exact⟨rc,of_same (λhab=>by
     subst hab;refine uP.mpr (Yl I (n+1) _ _ (.ref a) hd ?_ ?_)
     ·unfold Reads;exact⟨a,xs,U,hq1,rl1⟩
     ·unfold Reads;exact⟨a,ys,U,hq2,ig⟩) rc⟩
   | tup es=>
    unfold Reads at r2;obtain⟨b,ys,rfl,hq2,ig⟩:=r2;cases ry;obtain⟨its2,v2,QT,_⟩:=I.tuple hq2;rw[lZ (by intro z;cases z)];exact⟨RcAt.list_tuple Wq.isList QT (by omega),EqAt.list_tuple Wq.isList QT (by omega)⟩
  | tup ds=>
   unfold Reads at r1;obtain⟨a,xs,rfl,hq1,rl1⟩:=r1;cases rx;obtain⟨Tc,v1,Wq,_⟩:=I.tuple hq1;have hd':dH ds≤n:=by unfold DV.depth at hd;omega
   cases e with
   | int j=>unfold Reads at r2;subst r2;obtain⟨t',rfl⟩:=ry;rw[lZ (by intro z;cases z)];exact⟨RcAt.tuple_int _ _ Wq (by omega),EqAt.tuple_int _ _ Wq (by omega)⟩
   | non=>
    unfold Reads at r2;subst r2;cases ry;rw[lZ (by intro z;cases z)];exact⟨RcAt.tuple_none Wq (by omega),EqAt.tuple_none Wq (by omega)⟩
   | lst es=>
    unfold Reads at r2;obtain⟨b,ys,rfl,hq2,ig⟩:=r2;cases ry;obtain⟨its2,v2,QT,_⟩:=I.list hq2;rw[lZ (by intro z;cases z)];exact⟨RcAt.tuple_list Wq QT.isList (by omega),EqAt.tuple_list Wq QT.isList (by omega)⟩
   | tup es=>
    unfold Reads at r2;obtain⟨b,ys,rfl,hq2,ig⟩:=r2;cases ry;obtain⟨its2,v2,QT,_⟩:=I.tuple hq2;have e1:Tc.toArray.size=ds.length:=by rw[C6,←v1.length,rl1.length]
    have e2:its2.toArray.size=es.length:=by rw[C6,←v2.length,ig.length]
    have rc:RcAt A s (.ref a) (.ref b) (Br (.tup ds) (.tup es)):=by
     have q:=RcAt.tuples (A:=A) (s:=s) (l:=a) (b:=b) Wq QT (by omega) (items n A ih ds es xs ys Tc its2 hd' hu rl1 ig v1 v2);rw[e1,e2]at q;by_cases hl:ds.length=es.length
     ·rw[←hl,f6,rK hl]at q;rw[uo];simpa using q
     ·rw[lZ (by intro z;cases z;exact hl U)];have z:(ds.length==es.length)=NG:=by simpa using hl
      rw[z,l6]at q;exact q
    exact⟨rc,of_same (λhab=>by
     subst hab;refine uP.mpr (Yl I (n+1) _ _ (.ref a) hd ?_ ?_)
     ·unfold Reads;exact⟨a,xs,U,hq1,rl1⟩
     ·unfold Reads;exact⟨a,ys,U,hq2,ig⟩) rc⟩
 intro n
 induction n with
 | zero=>
  intro d e x y u v A hd hu r1 r2 rx ry;cases d with
  | int i=>unfold Reads at r1;subst r1;exact aB0 I i e y u v A (by omega) r2 rx ry
  | non=>unfold Reads at r1;subst r1;exact aB1 I e y u v A (by omega) r2 rx ry
  | lst ds=>unfold DV.depth at hd;omega
  | tup ds=>unfold DV.depth at hd;omega
 | succ n ih=>intro d e x y u v A hd hu r1 r2 rx ry;exact seqs n A ih d e x y u v hd hu r1 r2 rx ry
end
section
variable{X:Cx}
def aHs(K:aJ)(neg:Bool):R2:=λx y H Q=>∃d e,Reads K H d x∧Reads K H e y∧d.depth≤32∧Q (.bl (if neg then !Br d e else Br d e)) H
theorem aHt(hu:X.A.units+64<Ap):xR X (AS .Eq) (aHs X.K NG):=by intro pins s σ H x y v u Q I rx ry h;obtain⟨d,e,r1,r2,hd,q⟩:=h;exact(GF I 32 d e x y v u X.A hd (by omega) r1 r2 rx ry).1 X.prog X.w X.xe _ ⟨.bl _,H,I,U,q⟩
open SeqAt in
theorem aHu(hu:X.A.units+64<Ap):xR X (AS .NotEq) (λx y H Q=>∃ds es,Reads X.K H (.lst ds) x∧Reads X.K H (.lst es) y∧dH ds≤32∧Q (.bl (!Br (.lst ds) (.lst es))) H):=by
 intro pins s σ H x y v u Q I rx ry h;obtain⟨ds,es,r1,r2,hd,q⟩:=h;unfold Reads at r1 r2;obtain⟨a,xs,rfl,hq1,rl1⟩:=r1;obtain⟨b,ys,rfl,hq2,ig⟩:=r2;cases rx;cases ry;obtain⟨Tc,v1,Wq,_⟩:=I.list hq1;obtain⟨its2,v2,QT,_⟩:=I.list hq2;have e1:Tc.toArray.size=ds.length:=by rw[C6,←v1.length,rl1.length]
 have e2:its2.toArray.size=es.length:=by rw[C6,←v2.length,ig.length]
 have rc:RcNeAt X.A s (.ref a) (.ref b) (!Br (.lst ds) (.lst es)):=by
  by_cases hl:ds.length=es.length
  ·have z:=RcNeAt.lists (A:=X.A) (s:=s) Wq.isList QT.isList (by rw[e1,e2];exact hl) (by omega) (Sy I 32 X.A (λd e x y u v A a1 a2 a3 a4 a5 a6=>GF I 32 d e x y u v A a1 a2 a3 a4 a5 a6) ds es xs ys Tc its2 hd (by omega) rl1 ig v1 v2);rw[e1,rK hl]at z;rw[um];exact z
  ·rw[lZ (by intro z;cases z;exact hl U)];exact RcNeAt.lists_lengths Wq.isList QT.isList (by rw[e1,e2];simpa using hl) (by omega)
 exact rc X.prog X.w X.xe _ ⟨.bl _,H,I,U,q⟩
end
end L2


namespace L2
open PySem PySem.Spec PyProof.Rows
structure Raw(K:aJ)(mg:Str→Option A6)(x:Str)(st:AH):Prop where
 ex:∃f fd,Fun K x x st f fd∧mg x=NC (.ref f)
theorem aHv{K:aJ}{h:AM}{mg:Str→Option A6}{x:Str}{st:AH}{f:A7}{oc:A6}{od an:Option A7}{osl:Array (Option A6)}{kV doc pm cdv ct:A6}(X:K.In h)(G:h.Ns AV mg)
  (a:R3 K AV x=NC (NC (.ref f))) (l:K.lookup f=NC ⟨oc,od,.func (F8 x x (gD st) (cR st) (aK st) .none kV doc pm an cdv ct),osl⟩)
  (c:K3 K cdv x=NF) (k:K2 K (.ref f)=NF):Raw K mg x st:=⟨⟨f,_,aHq l c k,c7 X G a⟩⟩
structure lN(P:AJ)(w:AN)(K:aJ)(mg:Str→Option A6)(base:AM)(x:Str)(k:Nat)(n:Nat)(sp:Sp):Prop where
 ex:∃f fd ps,ps.length=n∧Fj P w K mg base FZ k f fd ps sp∧Binds K fd ps []∧K2 K (.ref f)=NF∧mg x=NC (.ref f)
theorem Raw.cal{P:AJ}{w:AN}{K:aJ}{mg:Str→Option A6}{base:AM}{x:Str}{st:AH}{N ps:List Str}{k:Nat}{sp:Sp}(R:Raw K mg x st)(S:aZ N ps (aK st))(len:∀vs H Q E,sp vs H Q E→vs.length=ps.length)
  (hb:∀(kV doc pm:A6)(an:Option A7)(cdv ct:A6)(us:List A6),us.length=ps.length→DU (F8 x x (gD st) (cR st) (aK st) .none kV doc pm an cdv ct) ⟨us,[]⟩=pure (ps.zip us))
  (hbody:∀(f:A7)(cdv:A6)(A:AL)(outer:List Env)(s:A8)(H:Hp)(vs:List V)(Q:VK)(E:XK),lA k (A.deeper (BN x (aK st) s.heap.objs.size f cdv))→sp vs H Q E →
   ∃t,bh (Gw FZ P w K mg base N x (aK st) f cdv A outer s H E).bw (cR st) t∧t {nx:=λ_ H'=>Q .non H',rt:=Q} (start N vs) H):lN P w K mg base x (k+1) ps.length sp:=by
 obtain⟨f,fd,F,m⟩:=R.ex;exact⟨f,fd,ps,U,F.ok S len λcdv A outer s H vs Q E hr h=>hbody f cdv A outer s H vs Q E hr h,F.binds hb,F.kp,m⟩
theorem il{X:Cx}{x:Str}{k n:Nat}{sp:Sp}{e:AD}{es:List AD}{p pos:Pos}{t:TA}(C:lN X.prog X.w X.K X.mg X.base x k n sp)(hr:lA k X.A)(hg:Gl X x)
  (ha:PA X (e::es) t) (hdb:(x==("__debug__" : Str))=NG:=by decide) (he:AB (e::es) X.env=(NG,AO e X.env)::AB es X.env:=by rfl) (hpl:(AY pos (AB es X.env)).any (·.1)=NG:=by rfl) :
  PE X (.Call (.Name x p) (e::es) [] pos) (Sd sp [] E0 t):=by
 obtain⟨f,fd,ps,_,F,hb,hk,hm⟩:=C.ex;exact aEp F hr hg hm hk hb .nil Yk ha hdb he hpl
theorem call_of{sp:Sp}{E:XK}{t:TA}{σ:St}{H:Hp}{Q:VK}(h:t σ H λvs H1=>sp vs H1 Q E):Sd sp [] E t σ H Q:=by
 unfold Sd;have e:(λ(vs:List V) (H1:Hp)=>sp (vs++[]) H1 Q E)=λvs H1=>sp vs H1 Q E:=by funext vs H1;rw[F3]
 rw[e];exact h
theorem dI{H:Hp}{p:A7}(h:H p=none)(o:HO):aV H (upd H p o):=λb u q=>by rw[bN (gK q h)];exact q
theorem aV.tup{K:aJ}{H H':Hp}{a:A7}{xs:List V}(e:aV H H')(h:yV K H a xs):yV K H' a xs:=by
 rcases h with (h | ⟨o,h⟩) | h
 ·exact .inl (.inl (e _ _ h))
 ·exact .inl (.inr ⟨o,e _ _ h⟩)
 ·exact .inr h
mutual
theorem aV.reads{K:aJ}{H H':Hp}(e:aV H H'):∀(d:DV)(x:V),Reads K H d x→Reads K H' d x
 | .int i,x,h=>by unfold Reads at h ⊢;exact h
 | .non,x,h=>by unfold Reads at h ⊢;exact h
 | .lst ds,x,h=>by unfold Reads at h ⊢;obtain⟨a,xs,r,hq,l⟩:=h;exact⟨a,xs,r,e.seq hq,aV.ir e ds xs l⟩
 | .tup ds,x,h=>by unfold Reads at h ⊢;obtain⟨a,xs,r,hq,l⟩:=h;exact⟨a,xs,r,e.tup hq,aV.ir e ds xs l⟩
theorem aV.ir{K:aJ}{H H':Hp}(e:aV H H'):∀(ds:List DV)(xs:List V),fK K H ds xs→fK K H' ds xs
 | [],xs,h=>by unfold fK at h ⊢;exact h
 | d::ds,xs,h=>by unfold fK at h ⊢;obtain⟨y,ys,r,h1,h2⟩:=h;exact⟨y,ys,r,aV.reads e d y h1,aV.ir e ds ys h2⟩
end
theorem qP:∀ns:List Int,dH (ns.map DV.int)=0
 | []=>by rw[G6];unfold dH;rfl
 | n::ns=>by rw[D3];unfold dH DV.depth;rw[qP ns];rfl
theorem Td{ns ms:List Int}:ns.map DV.int=ms.map DV.int↔ns=ms:=by
 constructor
 ·intro h;have:∀(a b:Int),DV.int a=DV.int b→a=b:=λa b e=>by cases e;rfl
  exact(List.map_inj_right this).mp h
 ·rintro rfl;rfl
theorem aKH{xs:List V}{k:Int}{v:V}(h0:0≤k)(h:xs[k.toNat]?=NC v):au xs k=NC v:=by
 have ek:k=((k.toNat:Nat):Int):=by omega
 rw[ek];exact aEw h
theorem aES(z:Int)(ns:List Int):inV (.int z) (ns.map V.int)=decide (z∈ns):=by
 unfold inV;rw[L5,Q6,decide_eq_true_iff];constructor
 ·rintro⟨v,hv,e⟩
  obtain⟨m,hm,rfl⟩:=J2.mp hv;have:m=z:=by simpa[eqV]using e
  subst this;exact hm
 ·intro h;exact⟨.int z,J2.mpr ⟨z,h,U⟩,by simp[eqV]⟩
theorem aAr(ns:List Int):(ns.map V.int).all Bo=NF:=by rw[L8];intro v hv;obtain⟨m,_,rfl⟩:=J2.mp hv;rfl
def mk(ns:List Int):List (Key×V):=ns.foldl (λkvs n=>putK kvs (F4 n) (V.bl NF)) []
theorem aET(ns:List Int)(n:Int):mk (ns++[n])=putK (mk ns) (F4 n) (V.bl NF):=by unfold mk;rw[h9];rfl
theorem zA(ns:List Int):(mk ns).length≤ns.length:=by
 have h:∀(l:List Int),(mk l.reverse).length≤l.length:=by
  intro l
  induction l with
  | nil=>exact C5 _
  | cons a l ih=>rw[List.reverse_cons,aET,F0];exact G0 (wC _ _ _) (T0 ih)
 have q:=h ns.reverse;rw[List.reverse_reverse,List.length_reverse]at q;exact q
end L2
namespace L2
theorem mG.at{scope:PySem.Scope}{N:List PySem.Str}{k:Nat}{fr:List Nat}(NZ:PySem.Scope)(oN:List PySem.Str)(h:ug NZ scope oN N k fr=NF):mG NZ scope oN N k fr:=mG.of h
end L2
namespace L2
open PySem PySem.Spec PyProof.Rows
def Aw(H:Hp)(p:A7):Prop:=(∀xs,H p≠NC (.tup xs))∧∀o xs,H p≠NC (.Jg o (.tup xs))
theorem xW{H:Hp}{p:A7}{xs:List V}(h:H p=NC (.lst xs)):Aw H p:=⟨λys e=>(by rw[h]at e;cases e),λo ys e=>(by rw[h]at e;cases e)⟩
theorem Jl{H:Hp}{p:A7}{kvs:List (Key×V)}(h:H p=NC (.dK kvs)):Aw H p:=⟨λys e=>(by rw[h]at e;cases e),λo ys e=>(by rw[h]at e;cases e)⟩
theorem yV.upd{K:aJ}{H:Hp}{a p:A7}{xs:List V}{o:HO}(h:yV K H a xs)(n:Aw H p):yV K (upd H p o) a xs:=by
 rcases h with (h | ⟨u,h⟩) | h
 ·exact .inl (.inl (by rw[bN (λz=>n.1 xs (by rw[←z];exact h))];exact h))
 ·exact .inl (.inr ⟨u,by rw[bN (λz=>n.2 u xs (by rw[←z];exact h))];exact h⟩)
 ·exact .inr h
mutual
def jJ:DV→Bool
 | .int _=>NF
 | .non=>NF
 | .lst _=>NG
 | .tup ds=>fU ds
def fU:List DV→Bool
 | []=>NF
 | d::ds=>jJ d&&fU ds
end
mutual
theorem aAs{K:aJ}{H:Hp}{p:A7}{o:HO}(n:Aw H p):∀(d:DV)(x:V),jJ d=NF→Reads K H d x→Reads K (upd H p o) d x
 | .int i,x,_,h=>by unfold Reads at h ⊢;exact h
 | .non,x,_,h=>by unfold Reads at h ⊢;exact h
 | .lst ds,x,hi,h=>by unfold jJ at hi;cases hi
 | .tup ds,x,hi,h=>by unfold jJ at hi;unfold Reads at h ⊢;obtain⟨a,xs,r,hq,l⟩:=h;exact⟨a,xs,r,hq.upd n,Te n ds xs hi l⟩
theorem Te{K:aJ}{H:Hp}{p:A7}{o:HO}(n:Aw H p):∀(ds:List DV)(xs:List V),fU ds=NF→fK K H ds xs→fK K (upd H p o) ds xs
 | [],xs,_,h=>by unfold fK at h ⊢;exact h
 | d::ds,xs,hi,h=>by unfold fU at hi;rw[G7]at hi;unfold fK at h ⊢;obtain⟨y,ys,r,h1,h2⟩:=h;exact⟨y,ys,r,aAs n d y hi.1 h1,Te n ds ys hi.2 h2⟩
end
theorem Tf{n d:Nat}{k:Nat}:HT.Wm n d (NC (k:Int))=min k n:=HT.aEs n d k
end L2
namespace L2
open PySem PySem.Spec PyProof.Rows
section
variable{X:Cx}
end
end L2
namespace L2
open PySem PySem.Spec PyProof.Rows
end L2
namespace L2
open PySem PySem.Spec PyProof.Rows
section
variable{X:Cx}
end
theorem rN:∀{l m:List Int},l.Pairwise (·<·)→m.Pairwise (·<·)→(∀j,j∈l↔j∈m)→l=m
  | [],[],_,_,_=>rfl
  | [],b::m,_,_,h=>absurd ((h b).mpr D6) (by simp)
  | a::l,[],_,_,h=>absurd ((h a).mp D6) (by simp)
  | a::l,b::m,h1,h2,h=>by
    obtain⟨h1a,h1b⟩:=I0.mp h1;obtain⟨h2a,h2b⟩:=I0.mp h2;have e:a=b:=by
      rcases D5.mp ((h a).mp D6)with q | q
      · exact q
      · rcases D5.mp ((h b).mpr D6)with q' | q'
        · exact q'.symm
        · have:=h2a a q
          have:=h1a b q';omega
    subst e;rw[rN h1b h2b λj=>?_];constructor
    · intro hj
      rcases D5.mp ((h j).mp (C8 _ hj))with q | q
      · have:=h1a j hj
        omega
      · exact q
    · intro hj
      rcases D5.mp ((h j).mpr (C8 _ hj))with q | q
      · have:=h2a j hj
        omega
      · exact q
theorem Ge:∀{l:List Int},l.Pairwise (·≤·)→l.Nodup→l.Pairwise (·<·)
 | [],_,_=>.nil
 | a::l,h,n=>by obtain⟨h1,h2⟩:=I0.mp h;obtain⟨n1,n2⟩:=K8.mp n;refine I0.mpr ⟨λb hb=>?_,Ge h2 n2⟩;have:=h1 b hb;have:a≠b:=λe=>n1 (e▸hb);omega
theorem rising.strict{ks ms:List Int}(h:rising ks ms)(n:ks.Nodup):ms.Pairwise (·<·)∧∀j,j∈ms↔j∈ks:=
 ⟨Ge h.2 (h.1.nodup_iff.mpr n),λj=>h.1.mem_iff⟩
theorem QV{K:aJ}:J7 K (.type "int") (.type "int")=NC NF:=by unfold J7;rfl
theorem Wr{K:aJ}:J7 K (.type "bool") (.type "bool")=NC NF:=by unfold J7;rfl
theorem Ws{K:aJ}:J7 K (.type "list") (.type "list")=NC NF:=by unfold J7;rfl
theorem Qh{K:aJ}:J7 K (.type "tuple") (.type "tuple")=NC NF:=by unfold J7;rfl
theorem GJ{K:aJ}:J7 K (.type "int") (.type "bool")=NC NG:=by
  first | rfl | decide | (unfold J7 l7;rfl) | (unfold J7 l7;simp;decide)
end L2


namespace L2
open PySem PySem.Spec PyProof.Rows
section
variable{X:Cx}
def Qz(ns:List Int)(m:Int):Prop:=m∈ns∧∀a∈ns,m≤a
theorem Gf(ns:List Int):∀k,k<ns.length→argBest (λi j=>decide (ns.getD i 0<ns.getD j 0)) k≤k∧∀i,i≤k→ns.getD (argBest (λi j=>decide (ns.getD i 0<ns.getD j 0)) k) 0≤ns.getD i 0
 | 0,_=>⟨C5 _,λi hi=>by
  have:i=0:=by omega
  subst this;exact S5 _⟩
 | k+1,h=>by
  obtain⟨h1,h2⟩:=Gf ns k (by omega);unfold argBest;split
  ·rename_i c;have c':=of_decide_eq_true c;refine⟨C5 _,λi hi=>?_⟩;rcases K4 i (k+1)with q | q
   ·have:=h2 i (by omega);omega
   ·have:i=k+1:=by omega
    subst this;exact S5 _
  ·rename_i c;have c':=of_decide_eq_false (Bool.eq_false_iff.mpr c);refine⟨by omega,λi hi=>?_⟩;rcases K4 i (k+1)with q | q
   ·exact h2 i (by omega)
   ·have:i=k+1:=by omega
    subst this;omega
theorem aAt(hc:X.calm=NF):oJ X (.builtin "min") (λxs H Q=>∃(p:A7)(ns:List Int),xs=[.ref p]∧rJ X.K H p (ns.map V.int)∧0<ns.length∧∀m,Qz ns m→Q (.int m) H):=by
 intro pins s σ H xs us Q I r h;obtain⟨p,ns,rfl,hq,hpos,q⟩:=h;obtain⟨u,rfl,rx⟩:=vals1 r;cases rx;obtain⟨its,rv,pl,hz⟩:=I.list hq;have hl:=pl.isList;have hlen:=rv.length;rw[B6]at hlen;have hlt:p<s.heap.objs.size:=by obtain⟨_,e,_⟩:=hl;exact AI e
 have item:∀(i:Nat)(v:A6),its.toArray[i]?=NC v→∃t,v=.int (ns.getD i 0) t∧i<ns.length:=λi v e=>by
  have e':its[i]?=NC v:=by simpa using e
  have hi:=(D2.mp e').1;obtain⟨u,eu,ru⟩:=rv.get (i:=i) (x:=.int (ns.getD i 0)) (by rw[B9,B8,B7 (by omega)];rfl);rw[e']at eu;cases eu;obtain⟨t,rfl⟩:=ru;exact⟨t,U,by omega⟩
 refine call_min_walk (DO hl ?_);refine⟨s.heap.objs.size,[s.heap.objs.size,p],[s.heap.objs.size],its.toArray.size,_,_,λi j=>decide (ns.getD i 0<ns.getD j 0),U,IT (A:=X.A.in1) (I.ok.hd hc) _ p (E7 hlt) _,
  ⟨⟨_,AK _ U,U,U⟩,hl.push _⟩,λb hb=>?_,by rw[C6];omega,λi j vi vj s' Q' E' hi hj hQ=>?_,λv h' tk hP hk=>?_⟩
 ·show b<(s.heap.push _).objs.size;rw[AZ];rcases D5.mp hb with e | hb
  ·rw[e];exact M7 _
  ·rw[E3.mp hb];exact M4 hlt
 ·obtain⟨t1,rfl,_⟩:=item i vi hi;obtain⟨t2,rfl,_⟩:=item j vj hj;exact HT.aBN _ _ _ _ _ _ _ _ _ _ hQ
 ·obtain⟨t,rfl,hi⟩:=item _ v hP;rw[C6,←hlen]at hi ⊢;obtain⟨h1,h2⟩:=Gf ns (ns.length-1) (by omega);refine⟨.int _,H,I.kept (uh hk),⟨t,U⟩,q _ ⟨?_,λa ha=>?_⟩⟩
  ·rw[B8,B7 hi];exact N6 _
  ·obtain⟨i,hi',rfl⟩:=K0 ha;have:=h2 i (by omega);rw[show ns.getD i 0=ns[i]from by rw[B8,B7 hi'];rfl]at this;exact this
open SeqAt in
theorem aHw(hu:X.A.units+64<Ap):xR X (AS .NotEq) (λx y H Q=>∃ds es,Reads X.K H (.tup ds) x∧Reads X.K H (.tup es) y∧dH ds≤32∧Q (.bl (!Br (.tup ds) (.tup es))) H):=by
 intro pins s σ H x y v u Q I rx ry h;obtain⟨ds,es,r1,r2,hd,q⟩:=h;unfold Reads at r1 r2;obtain⟨a,xs,rfl,hq1,rl1⟩:=r1;obtain⟨b,ys,rfl,hq2,ig⟩:=r2;cases rx;cases ry;obtain⟨Tc,v1,Wq,_⟩:=I.tuple hq1;obtain⟨its2,v2,QT,_⟩:=I.tuple hq2;have e1:Tc.toArray.size=ds.length:=by rw[C6,←v1.length,rl1.length]
 have e2:its2.toArray.size=es.length:=by rw[C6,←v2.length,ig.length]
 have rc:RcNeAt X.A s (.ref a) (.ref b) (!Br (.tup ds) (.tup es)):=by
  have z:=RcNeAt.tuples (A:=X.A) (s:=s) (l:=a) (b:=b) Wq QT (by omega) (Sy I 32 X.A (λd e x y u v A a1 a2 a3 a4 a5 a6=>GF I 32 d e x y u v A a1 a2 a3 a4 a5 a6) ds es xs ys Tc its2 hd (by omega) rl1 ig v1 v2);rw[e1,e2]at z;by_cases hl:ds.length=es.length
  ·rw[←hl,f6,rK hl]at z;rw[uo];simpa using z
  ·rw[lZ (by intro z;cases z;exact hl U)];have zz:(ds.length==es.length)=NG:=by simpa using hl
   rw[zz,l6]at z;exact z
 exact rc X.prog X.w X.xe _ ⟨.bl _,H,I,U,q⟩
end
end L2


namespace L2
open PySem PySem.Spec PyProof.Rows
inductive D where
  | non | bl (b:Bool) | int (i:Int) | str (x:Str)
  | lst (ds:List D) | tup (ds:List D)
  | dk (ks:List Key) (ds:List D)
  | dt (ks:List (List Key)) (ds:List D)
  | ins (C:A7) (nm:List Str) (ds:List D)
abbrev Fp:=A7→Prop
def Apart(A B:Fp):Prop:=∀x,A x→¬B x
def Is(A B:Fp):Prop:=∀x,A x↔B x
def None(A:Fp):Prop:=∀x,¬A x
abbrev gB(A B:Fp):Fp:=λx=>A x∨B x
mutual
def Rv(K:aJ)(H:Hp):D→V→Prop
 | .non,v=>v=.non
 | .bl b,v=>v=.bl b
 | .int i,v=>v=.int i
 | .str x,v=>v=.str x
 | .lst ds,v=>∃a xs,v=.ref a∧rJ K H a xs∧fQ K H ds xs
 | .tup ds,v=>∃a xs,v=.ref a∧yV K H a xs∧fQ K H ds xs
 | .dk ks ds,v=>∃a xs,v=.ref a∧Rd H a (.dK (ks.zip xs))∧ks.length=xs.length∧fQ K H ds xs
 | .dt ks ds,v=>∃a xs,v=.ref a∧Rd H a (.dT (ks.zip xs))∧ks.length=xs.length∧fQ K H ds xs
 | .ins C nm ds,v=>∃a dx xs,v=.ref a∧H a=NC (.ins C dx (nm.zip xs))∧nm.length=xs.length∧fQ K H ds xs
def fQ(K:aJ)(H:Hp):List D→List V→Prop
 | [],xs=>xs=[]
 | d::ds,xs=>∃y ys,xs=y::ys∧Rv K H d y∧fQ K H ds ys
end
theorem aV.rd{H H':Hp}(e:aV H H'){a:A7}{u:HO}(h:Rd H a u):Rd H' a u:=by
 rcases h with h | ⟨o,h⟩
 ·exact .inl (e _ _ h)
 ·exact .inr ⟨o,e _ _ h⟩
mutual
theorem aV.rv{K:aJ}{H H':Hp}(e:aV H H'):∀(d:D)(v:V),Rv K H d v→Rv K H' d v
 | .non,v,h=>by unfold Rv at h ⊢;exact h
 | .bl _,v,h=>by unfold Rv at h ⊢;exact h
 | .int _,v,h=>by unfold Rv at h ⊢;exact h
 | .str _,v,h=>by unfold Rv at h ⊢;exact h
 | .lst ds,v,h=>by unfold Rv at h ⊢;obtain⟨a,xs,r,hq,l⟩:=h;exact⟨a,xs,r,e.seq hq,aV.uq e ds xs l⟩
 | .tup ds,v,h=>by unfold Rv at h ⊢;obtain⟨a,xs,r,hq,l⟩:=h;exact⟨a,xs,r,e.tup hq,aV.uq e ds xs l⟩
 | .dk ks ds,v,h=>by unfold Rv at h ⊢;obtain⟨a,xs,r,hq,hl,l⟩:=h;exact⟨a,xs,r,e.rd hq,hl,aV.uq e ds xs l⟩
 | .dt ks ds,v,h=>by unfold Rv at h ⊢;obtain⟨a,xs,r,hq,hl,l⟩:=h;exact⟨a,xs,r,e.rd hq,hl,aV.uq e ds xs l⟩
 | .ins C nm ds,v,h=>by unfold Rv at h ⊢;obtain⟨a,dx,xs,r,hq,hl,l⟩:=h;exact⟨a,dx,xs,r,e _ _ hq,hl,aV.uq e ds xs l⟩
theorem aV.uq{K:aJ}{H H':Hp}(e:aV H H'):∀(ds:List D)(xs:List V),fQ K H ds xs→fQ K H' ds xs
 | [],xs,h=>by unfold fQ at h ⊢;exact h
 | d::ds,xs,h=>by unfold fQ at h ⊢;obtain⟨y,ys,r,h1,h2⟩:=h;exact⟨y,ys,r,aV.rv e d y h1,aV.uq e ds ys h2⟩
end
theorem fQ.length{K:aJ}{H:Hp}:∀{ds:List D} {xs:List V},fQ K H ds xs→xs.length=ds.length
 | [],xs,h=>by unfold fQ at h;subst h;rfl
 | d::ds,xs,h=>by unfold fQ at h;obtain⟨y,ys,rfl,_,h2⟩:=h;rw[F0,F0,fQ.length h2]
theorem fQ.get{K:aJ}{H:Hp}:∀{ds:List D} {xs:List V} {i:Nat} {d:D},fQ K H ds xs→ds[i]?=NC d→∃x,xs[i]?=NC x∧Rv K H d x
 | [],xs,i,d,h,e=>by simp at e
 | d'::ds,xs,0,d,h,e=>by unfold fQ at h;obtain⟨y,ys,rfl,h1,_⟩:=h;simp at e;subst e;exact⟨y,rfl,h1⟩
 | d'::ds,xs,i+1,d,h,e=>by unfold fQ at h;obtain⟨y,ys,rfl,_,h2⟩:=h;obtain⟨x,e1,e2⟩:=fQ.get (i:=i) (d:=d) h2 (by simpa using e);exact⟨x,by simpa using e1,e2⟩
theorem fQ.of{K:aJ}{H:Hp}:∀{ds:List D} {xs:List V},xs.length=ds.length→(∀(i:Nat)(d:D)(x:V),ds[i]?=NC d→xs[i]?=NC x→Rv K H d x)→fQ K H ds xs
 | [],xs,hl,_=>by unfold fQ;exact F6 hl
 | d::ds,[],hl,_=>by simp at hl
 | d::ds,x::xs,hl,h=>by unfold fQ;exact⟨x,xs,U,h 0 d x U U,fQ.of (by simpa using hl) λi e y h1 h2=>h (i+1) e y (by simpa using h1) (by simpa using h2)⟩
def eO{α β:Type}(R:α→Fp→β→Prop):List α→Fp→List β→Prop
 | [],A,ys=>None A∧ys=[]
 | d::ds,A,ys=>∃y yt A1 A2,ys=y::yt∧Apart A1 A2∧Is A (gB A1 A2)∧R d A1 y∧eO R ds A2 yt
section
variable{α β:Type}{R R':α→Fp→β→Prop}
theorem eO.congr:∀{ds:List α} {A A':Fp} {ys:List β},eO R ds A ys→Is A A'→eO R ds A' ys
 | [],A,A',ys,h,e=>⟨λx q=>h.1 x ((e x).mpr q),h.2⟩
 | d::ds,A,A',ys,⟨y,yt,A1,A2,h1,h2,h3,h4⟩,e=>⟨y,yt,A1,A2,h1,h2,λx=>((e x).symm).trans (h3 x),h4⟩
theorem eO.mono:∀{ds:List α} {A:Fp} {ys:List β},eO R ds A ys→(∀e B z,(∀x,B x→A x)→R e B z→R' e B z)→eO R' ds A ys
 | [],A,ys,h,_=>h
 | d::ds,A,ys,⟨y,yt,A1,A2,h1,h2,h3,h4,h5⟩,m=>
  ⟨y,yt,A1,A2,h1,h2,h3,m _ _ _ (λx q=>(h3 x).mpr (.inl q)) h4,h5.mono λe B z hb=>m e B z λx q=>(h3 x).mpr (.inr (hb x q))⟩
theorem eO.len:∀{ds:List α} {A:Fp} {ys:List β},eO R ds A ys→ys.length=ds.length
 | [],A,ys,h=>by rw[h.2];rfl
 | d::ds,A,ys,⟨y,yt,A1,A2,h1,h2,h3,h4,h5⟩=>by rw[h1,F0,F0,h5.len]
theorem eO.focus:∀{ds:List α} {A:Fp} {ys:List β} {i:Nat} {d:α},eO R ds A ys→ds[i]?=NC d→∃y A1 C,ys[i]?=NC y∧Apart A1 C∧Is A (gB A1 C)∧R d A1 y ∧
    ∀(R':α→Fp→β→Prop),(∀e B z,(∀x,B x→C x)→R e B z→R' e B z)→∀d' y' az,Apart az C→R' d' az y'→eO R' (ds.set i d') (gB az C) (ys.set i y')
  | [],A,ys,i,d,h,e=>by simp at e
  | d0::ds,A,ys,0,d,⟨y,yt,A1,A2,h1,h2,h3,h4,h5⟩,e=>by simp at e;subst e h1;exact⟨y,A1,A2,U,h2,h3,h4,λR' m d' y' az ap r=>⟨y',yt,az,A2,U,ap,λx=>Iff.rfl,r,h5.mono m⟩⟩
  | d0::ds,A,ys,i+1,d,⟨y,yt,A1,A2,h1,h2,h3,h4,h5⟩,e=>by
    subst h1;obtain⟨z,B1,C,e1,ap,hA,r,k⟩:=eO.focus (i:=i) (d:=d) h5 (by simpa using e);refine⟨z,B1,gB A1 C,by simpa using e1,?_,?_,r,λR' m d' y' az ap' r'=>?_⟩
    · intro x hx hc
      rcases hc with hc | hc
      · exact h2 x hc ((hA x).mpr (.inl hx))
      · exact ap x hx hc
    · intro x
      rw[h3 x];constructor
      · rintro(q | q)
        · exact .inr (.inl q)
        · rcases(hA x).mp q with q | q
          · exact .inl q
          · exact .inr (.inr q)
      · rintro(q | q | q)
        · exact .inr ((hA x).mpr (.inl q))
        · exact .inl q
        · exact .inr ((hA x).mpr (.inr q))
    · refine⟨y,_,A1,gB az C,U,?_,?_,m _ _ _ (λx q=>.inl q) h4,k R' (λe B z hb=>m e B z λx q=>.inr (hb x q)) d' y' az (λx q q'=>ap' x q (.inr q')) r'⟩
      · intro x q q'
        rcases q' with q' | q'
        · exact ap' x q' (.inl q)
        · exact h2 x q ((hA x).mpr (.inr q'))
      · intro x
        show (az x∨A1 x∨C x)↔(A1 x∨az x∨C x)
        constructor
        · rintro(q | q | q)
          · exact .inr (.inl q)
          · exact .inl q
          · exact .inr (.inr q)
        · rintro(q | q | q)
          · exact .inr (.inl q)
          · exact .inl q
          · exact .inr (.inr q)
theorem eO.snoc:∀{ds:List α} {A A1:Fp} {ys:List β} {d:α} {y:β},eO R ds A ys→R d A1 y→Apart A A1→eO R (ds++[d]) (gB A A1) (ys++[y])
 | [],A,A1,ys,d,y,h,r,ap=>by rw[h.2];exact⟨y,[],A1,λ_=>False,U,λ_ _ z=>z,λx=>⟨λq=>q.elim (λq=>absurd q (h.1 x)) .inl,λq=>q.elim .inr False.elim⟩,r,λ_ z=>z,U⟩
 | d0::ds,A,A1,ys,d,y,⟨y0,yt,B1,B2,h1,h2,h3,h4,h5⟩,r,ap=>by
  subst h1;refine⟨y0,yt++[y],B1,gB B2 A1,U,?_,?_,h4,eO.snoc h5 r λx q=>ap x ((h3 x).mpr (.inr q))⟩
  ·intro x q q';rcases q' with q' | q'
   ·exact h2 x q q'
   ·exact ap x ((h3 x).mpr (.inl q)) q'
  ·intro x;show (A x∨A1 x)↔(B1 x∨B2 x∨A1 x)
   rw[h3 x];exact or_assoc
end
mutual
def Ow(K:aJ)(H:Hp):D→Fp→V→Prop
 | .non,A,v=>None A∧v=.non
 | .bl b,A,v=>None A∧v=.bl b
 | .int i,A,v=>None A∧v=.int i
 | .str x,A,v=>None A∧v=.str x
 | .lst ds,A,v=>∃a xs B,v=.ref a∧H a=NC (.lst xs)∧¬B a∧Is A (gB (·=a) B)∧eQ K H ds B xs
 | .tup ds,A,v=>∃a xs,v=.ref a∧yV K H a xs∧eQ K H ds A xs
 | .dk ks ds,A,v=>∃a xs B,v=.ref a∧H a=NC (.dK (ks.zip xs))∧ks.length=xs.length∧¬B a∧Is A (gB (·=a) B)∧eQ K H ds B xs
 | .dt ks ds,A,v=>∃a xs B,v=.ref a∧H a=NC (.dT (ks.zip xs))∧ks.length=xs.length∧¬B a∧Is A (gB (·=a) B)∧eQ K H ds B xs
 | .ins C nm ds,A,v=>∃a dx xs B,v=.ref a∧H a=NC (.ins C dx (nm.zip xs))∧H dx=NC (.own a)∧nm.length=xs.length∧¬B a∧¬B dx∧Is A (gB (λx=>x=a∨x=dx) B)∧eQ K H ds B xs
def eQ(K:aJ)(H:Hp):List D→Fp→List V→Prop
 | [],A,ys=>None A∧ys=[]
 | d::ds,A,ys=>∃y yt A1 A2,ys=y::yt∧Apart A1 A2∧Is A (gB A1 A2)∧Ow K H d A1 y∧eQ K H ds A2 yt
end
theorem cZ{K:aJ}{H:Hp}:∀{ds:List D} {A:Fp} {ys:List V},eQ K H ds A ys↔eO (Ow K H) ds A ys
 | [],A,ys=>by unfold eQ eO;exact Iff.rfl
 | d::ds,A,ys=>by
  unfold eQ eO;constructor
  ·rintro⟨y,yt,A1,A2,h1,h2,h3,h4,h5⟩;exact⟨y,yt,A1,A2,h1,h2,h3,h4,cZ.mp h5⟩
  ·rintro⟨y,yt,A1,A2,h1,h2,h3,h4,h5⟩;exact⟨y,yt,A1,A2,h1,h2,h3,h4,cZ.mpr h5⟩
def Gz(K:aJ)(H H':Hp):Prop:=∀a xs,yV K H a xs→yV K H' a xs
theorem aV.tk{K:aJ}{H H':Hp}(e:aV H H'):Gz K H H':=λ_ _ h=>e.tup h
theorem Ow.congr{K:aJ}{H:Hp}{d:D}{A A':Fp}{v:V}(h:Ow K H d A v)(e:Is A A'):Ow K H d A' v:=by
 cases d with
 | non=>unfold Ow at h ⊢;exact⟨λx q=>h.1 x ((e x).mpr q),h.2⟩
 | bl b=>unfold Ow at h ⊢;exact⟨λx q=>h.1 x ((e x).mpr q),h.2⟩
 | int b=>unfold Ow at h ⊢;exact⟨λx q=>h.1 x ((e x).mpr q),h.2⟩
 | str b=>unfold Ow at h ⊢;exact⟨λx q=>h.1 x ((e x).mpr q),h.2⟩
 | lst ds=>unfold Ow at h ⊢;obtain⟨a,xs,B,h1,h2,h3,h4,h5⟩:=h;exact⟨a,xs,B,h1,h2,h3,λx=>(e x).symm.trans (h4 x),h5⟩
 | tup ds=>unfold Ow at h ⊢;obtain⟨a,xs,h1,h2,h3⟩:=h;exact⟨a,xs,h1,h2,cZ.mpr ((cZ.mp h3).congr e)⟩
 | dk ks ds=>unfold Ow at h ⊢;obtain⟨a,xs,B,h1,h2,h2',h3,h4,h5⟩:=h;exact⟨a,xs,B,h1,h2,h2',h3,λx=>(e x).symm.trans (h4 x),h5⟩
 | dt ks ds=>unfold Ow at h ⊢;obtain⟨a,xs,B,h1,h2,h2',h3,h4,h5⟩:=h;exact⟨a,xs,B,h1,h2,h2',h3,λx=>(e x).symm.trans (h4 x),h5⟩
 | ins C nm ds=>unfold Ow at h ⊢;obtain⟨a,dx,xs,B,h1,h2,h2',h3,h3',h3'',h4,h5⟩:=h;exact⟨a,dx,xs,B,h1,h2,h2',h3,h3',h3'',λx=>(e x).symm.trans (h4 x),h5⟩
mutual
theorem Ow.frame{K:aJ}{H H':Hp}(t:Gz K H H'):∀(d:D)(A:Fp)(v:V),Ow K H d A v→(∀a,A a→H' a=H a)→Ow K H' d A v
 | .non,A,v,h,f=>by unfold Ow at h ⊢;exact h
 | .bl _,A,v,h,f=>by unfold Ow at h ⊢;exact h
 | .int _,A,v,h,f=>by unfold Ow at h ⊢;exact h
 | .str _,A,v,h,f=>by unfold Ow at h ⊢;exact h
 | .lst ds,A,v,h,f=>by unfold Ow at h ⊢;obtain⟨a,xs,B,h1,h2,h3,h4,h5⟩:=h;exact⟨a,xs,B,h1,(f a ((h4 a).mpr (.inl U))).trans h2,h3,h4,eQ.frame t ds B xs h5 λb q=>f b ((h4 b).mpr (.inr q))⟩
 | .tup ds,A,v,h,f=>by unfold Ow at h ⊢;obtain⟨a,xs,h1,h2,h3⟩:=h;exact⟨a,xs,h1,t _ _ h2,eQ.frame t ds A xs h3 f⟩
 | .dk ks ds,A,v,h,f=>by unfold Ow at h ⊢;obtain⟨a,xs,B,h1,h2,h2',h3,h4,h5⟩:=h;exact⟨a,xs,B,h1,(f a ((h4 a).mpr (.inl U))).trans h2,h2',h3,h4,eQ.frame t ds B xs h5 λb q=>f b ((h4 b).mpr (.inr q))⟩
 | .dt ks ds,A,v,h,f=>by unfold Ow at h ⊢;obtain⟨a,xs,B,h1,h2,h2',h3,h4,h5⟩:=h;exact⟨a,xs,B,h1,(f a ((h4 a).mpr (.inl U))).trans h2,h2',h3,h4,eQ.frame t ds B xs h5 λb q=>f b ((h4 b).mpr (.inr q))⟩
 | .ins C nm ds,A,v,h,f=>by unfold Ow at h ⊢;obtain⟨a,dx,xs,B,h1,h2,h2',h3,h3',h3'',h4,h5⟩:=h;exact⟨a,dx,xs,B,h1,(f a ((h4 a).mpr (.inl (.inl U)))).trans h2,(f dx ((h4 dx).mpr (.inl (.inr U)))).trans h2',h3,h3',h3'',h4,eQ.frame t ds B xs h5 λb q=>f b ((h4 b).mpr (.inr q))⟩
theorem eQ.frame{K:aJ}{H H':Hp}(t:Gz K H H'):∀(ds:List D)(A:Fp)(ys:List V),eQ K H ds A ys→(∀a,A a→H' a=H a)→eQ K H' ds A ys
 | [],A,ys,h,f=>by unfold eQ at h ⊢;exact h
 | d::ds,A,ys,h,f=>by unfold eQ at h ⊢;obtain⟨y,yt,A1,A2,h1,h2,h3,h4,h5⟩:=h;exact⟨y,yt,A1,A2,h1,h2,h3,Ow.frame t d A1 y h4 λb q=>f b ((h3 b).mpr (.inl q)),eQ.frame t ds A2 yt h5 λb q=>f b ((h3 b).mpr (.inr q))⟩
end
mutual
theorem Ow.rv{K:aJ}{H:Hp}:∀(d:D)(A:Fp)(v:V),Ow K H d A v→Rv K H d v
 | .non,A,v,h=>by unfold Ow at h;unfold Rv;exact h.2
 | .bl _,A,v,h=>by unfold Ow at h;unfold Rv;exact h.2
 | .int _,A,v,h=>by unfold Ow at h;unfold Rv;exact h.2
 | .str _,A,v,h=>by unfold Ow at h;unfold Rv;exact h.2
 | .lst ds,A,v,h=>by unfold Ow at h;unfold Rv;obtain⟨a,xs,B,h1,h2,h3,h4,h5⟩:=h;exact⟨a,xs,h1,rJ.of h2,eQ.rv ds B xs h5⟩
 | .tup ds,A,v,h=>by unfold Ow at h;unfold Rv;obtain⟨a,xs,h1,h2,h3⟩:=h;exact⟨a,xs,h1,h2,eQ.rv ds A xs h3⟩
 | .dk ks ds,A,v,h=>by unfold Ow at h;unfold Rv;obtain⟨a,xs,B,h1,h2,h2',h3,h4,h5⟩:=h;exact⟨a,xs,h1,.inl h2,h2',eQ.rv ds B xs h5⟩
 | .dt ks ds,A,v,h=>by unfold Ow at h;unfold Rv;obtain⟨a,xs,B,h1,h2,h2',h3,h4,h5⟩:=h;exact⟨a,xs,h1,.inl h2,h2',eQ.rv ds B xs h5⟩
 | .ins C nm ds,A,v,h=>by unfold Ow at h;unfold Rv;obtain⟨a,dx,xs,B,h1,h2,h2',h3,h3',h3'',h4,h5⟩:=h;exact⟨a,dx,xs,h1,h2,h3,eQ.rv ds B xs h5⟩
theorem eQ.rv{K:aJ}{H:Hp}:∀(ds:List D)(A:Fp)(ys:List V),eQ K H ds A ys→fQ K H ds ys
 | [],A,ys,h=>by unfold eQ at h;unfold fQ;exact h.2
 | d::ds,A,ys,h=>by unfold eQ at h;unfold fQ;obtain⟨y,yt,A1,A2,h1,h2,h3,h4,h5⟩:=h;exact⟨y,yt,h1,Ow.rv d A1 y h4,eQ.rv ds A2 yt h5⟩
end
def nZ(H:Hp)(a:A7):Prop:=(∃o,H a=NC o)∧Aw H a
mutual
theorem Ow.cells{K:aJ}{H:Hp}:∀(d:D)(A:Fp)(v:V),Ow K H d A v→∀a,A a→nZ H a
 | .non,A,v,h,a,q=>by unfold Ow at h;exact absurd q (h.1 a)
 | .bl _,A,v,h,a,q=>by unfold Ow at h;exact absurd q (h.1 a)
 | .int _,A,v,h,a,q=>by unfold Ow at h;exact absurd q (h.1 a)
 | .str _,A,v,h,a,q=>by unfold Ow at h;exact absurd q (h.1 a)
 | .lst ds,A,v,h,a,q=>by
  unfold Ow at h;obtain⟨p,xs,B,h1,h2,h3,h4,h5⟩:=h
  rcases(h4 a).mp q with z | z
  ·cases z;exact⟨⟨_,h2⟩,xW h2⟩
  ·exact eQ.cells ds B xs h5 a z
 | .tup ds,A,v,h,a,q=>by unfold Ow at h;obtain⟨p,xs,h1,h2,h3⟩:=h;exact eQ.cells ds A xs h3 a q
 | .dk ks ds,A,v,h,a,q=>by
  unfold Ow at h;obtain⟨p,xs,B,h1,h2,h2',h3,h4,h5⟩:=h
  rcases(h4 a).mp q with z | z
  ·cases z;exact⟨⟨_,h2⟩,Jl h2⟩
  ·exact eQ.cells ds B xs h5 a z
 | .dt ks ds,A,v,h,a,q=>by
  unfold Ow at h;obtain⟨p,xs,B,h1,h2,h2',h3,h4,h5⟩:=h
  rcases(h4 a).mp q with z | z
  ·cases z;exact⟨⟨_,h2⟩,λys e=>(by rw[h2]at e;cases e),λo ys e=>(by rw[h2]at e;cases e)⟩
  ·exact eQ.cells ds B xs h5 a z
 | .ins C nm ds,A,v,h,a,q=>by
  unfold Ow at h;obtain⟨p,dx,xs,B,h1,h2,h2',h3,h3',h3'',h4,h5⟩:=h
  rcases(h4 a).mp q with (z | z) | z
  ·cases z;exact⟨⟨_,h2⟩,λys e=>(by rw[h2]at e;cases e),λo ys e=>(by rw[h2]at e;cases e)⟩
  ·cases z;exact⟨⟨_,h2'⟩,λys e=>(by rw[h2']at e;cases e),λo ys e=>(by rw[h2']at e;cases e)⟩
  ·exact eQ.cells ds B xs h5 a z
theorem eQ.cells{K:aJ}{H:Hp}:∀(ds:List D)(A:Fp)(ys:List V),eQ K H ds A ys→∀a,A a→nZ H a
 | [],A,ys,h,a,q=>by unfold eQ at h;exact absurd q (h.1 a)
 | d::ds,A,ys,h,a,q=>by
  unfold eQ at h;obtain⟨y,yt,A1,A2,h1,h2,h3,h4,h5⟩:=h
  rcases(h3 a).mp q with z | z
  ·exact Ow.cells d A1 y h4 a z
  ·exact eQ.cells ds A2 yt h5 a z
end
mutual
def D.jJ:D→Bool
  | .non=>NF | .bl _=>NF | .int _=>NF | .str _=>NF
  | .tup ds=>D.fU ds
  | _=>NG
def D.fU:List D→Bool
  | []=>NF
  | d::ds=>D.jJ d&&D.fU ds
end
abbrev nil:Fp:=λ_=>False
mutual
theorem Bu{K:aJ}{H:Hp}:∀(d:D)(v:V),d.jJ=NF→Rv K H d v→Ow K H d nil v
 | .non,v,_,h=>by unfold Rv at h;unfold Ow;exact⟨λ_ z=>z,h⟩
 | .bl _,v,_,h=>by unfold Rv at h;unfold Ow;exact⟨λ_ z=>z,h⟩
 | .int _,v,_,h=>by unfold Rv at h;unfold Ow;exact⟨λ_ z=>z,h⟩
 | .str _,v,_,h=>by unfold Rv at h;unfold Ow;exact⟨λ_ z=>z,h⟩
 | .tup ds,v,i,h=>by unfold D.jJ at i;unfold Rv at h;unfold Ow;obtain⟨a,xs,h1,h2,h3⟩:=h;exact⟨a,xs,h1,h2,Eb ds xs i h3⟩
 | .lst ds,v,i,h=>by unfold D.jJ at i;cases i
 | .dk _ ds,v,i,h=>by unfold D.jJ at i;cases i
 | .dt _ ds,v,i,h=>by unfold D.jJ at i;cases i
 | .ins _ _ ds,v,i,h=>by unfold D.jJ at i;cases i
theorem Eb{K:aJ}{H:Hp}:∀(ds:List D)(ys:List V),D.fU ds=NF→fQ K H ds ys→eQ K H ds nil ys
 | [],ys,_,h=>by unfold fQ at h;unfold eQ;exact⟨λ_ z=>z,h⟩
 | d::ds,ys,i,h=>by unfold D.fU at i;rw[G7]at i;unfold fQ at h;unfold eQ;obtain⟨y,yt,h1,h2,h3⟩:=h;exact⟨y,yt,nil,nil,h1,λ_ z _=>z,λx=>⟨False.elim,λz=>z.elim id id⟩,Bu d y i.1 h2,Eb ds yt i.2 h3⟩
end
open Classical in
noncomputable def out(H:Hp)(A:Fp):Hp:=λa=>if A a then none else H a
theorem aHx{H:Hp}{A:Fp}{a:A7}(h:¬A a):out H A a=H a:=by unfold out;rw[if_neg h]
theorem bG{H:Hp}{A:Fp}{a:A7}{o:HO}:out H A a=NC o↔¬A a∧H a=NC o:=by
 unfold out;split
 ·rename_i h;exact⟨λz=>(by cases z),λz=>absurd h z.1⟩
 ·rename_i h;exact⟨λz=>⟨h,z⟩,λz=>z.2⟩
theorem mU(H:Hp)(A:Fp):aV (out H A) H:=λb o h=>(bG.mp h).2
theorem Tg{K:aJ}{H:Hp}{A:Fp}(h:∀a,A a→Aw H a):Gz K H (out H A):=λa xs q=>by
 rcases q with (q | ⟨o,q⟩) | q
 ·exact .inl (.inl (bG.mpr ⟨λz=>(h a z).1 _ q,q⟩))
 ·exact .inl (.inr ⟨o,bG.mpr ⟨λz=>(h a z).2 _ _ q,q⟩⟩)
 ·exact .inr q
theorem Ow.out{K:aJ}{H:Hp}{d:D}{A A':Fp}{v:V}(h:Ow K H d A' v)(ap:Apart A' A)(c:∀a,A a→Aw H a):Rv K (out H A) d v:=
 Ow.rv d A' v (Ow.frame (Tg c) d A' v h λa q=>aHx (ap a q))
end L2


namespace L2
open PySem PySem.Spec PyProof.Rows
abbrev DE:=List (Option D)
abbrev FE:=DE→Option D
abbrev FA:=DE→Option (List D)
abbrev FT:=DE→Option Bool
def Fq(K:aJ)(H:Hp)(e:DE)(σ:St):Prop:=∀(i:Nat)(d:D),e[i]?=NC (NC d)→∃v,σ[i]?=NC (NC v)∧Rv K H d v
theorem Fq.same{K:aJ}{H H':Hp}{e:DE}{σ:St}(h:Fq K H e σ)(s:aV H H'):Fq K H' e σ:=λi d q=>let ⟨v,h1,h2⟩:=h i d q;⟨v,h1,s.rv _ _ h2⟩
structure Zn(K:aJ)(N:Fp)(Z H:Hp):Prop where
 sm:aV Z H
 tk:Gz K H Z
 no:∀a,N a→Z a=none∧¬H a=none
theorem Zn.self(K:aJ)(H:Hp):Zn K nil H H:=⟨aV.refl _,λ_ _ h=>h,λ_ z=>z.elim⟩
theorem Gz.trans{K:aJ}{H H1 H2:Hp}(a:Gz K H H1)(b:Gz K H1 H2):Gz K H H2:=λp xs h=>b p xs (a p xs h)
theorem Ow.same{K:aJ}{H H':Hp}{d:D}{A:Fp}{v:V}(h:Ow K H d A v)(s:aV H H'):Ow K H' d A v:=
 Ow.frame s.tk d A v h λa q=>by obtain⟨⟨o,e⟩,_⟩:=Ow.cells d A v h a q;rw[e];exact s a o e
theorem eQ.same{K:aJ}{H H':Hp}{ds:List D}{A:Fp}{vs:List V}(h:eQ K H ds A vs)(s:aV H H'):eQ K H' ds A vs:=
 eQ.frame s.tk ds A vs h λa q=>by obtain⟨⟨o,e⟩,_⟩:=eQ.cells ds A vs h a q;rw[e];exact s a o e
def Wt(K:aJ)(H H':Hp)(d:D)(v:V):Prop:=∃A,Ow K H' d A v∧∀a,A a→H a=none
def GK(K:aJ)(H H':Hp)(ds:List D)(vs:List V):Prop:=∃A,eQ K H' ds A vs∧∀a,A a→H a=none
theorem Wt.rv{K:aJ}{H H':Hp}{d:D}{v:V}(h:Wt K H H' d v):Rv K H' d v:=let ⟨A,o,_⟩:=h;Ow.rv d A v o
theorem GK.rv{K:aJ}{H H':Hp}{ds:List D}{vs:List V}(h:GK K H H' ds vs):fQ K H' ds vs:=let ⟨A,o,_⟩:=h;eQ.rv ds A vs o
theorem Wt.same{K:aJ}{H H' H2:Hp}{d:D}{v:V}(h:Wt K H H' d v)(s:aV H' H2):Wt K H H2 d v:=let ⟨A,o,f⟩:=h;⟨A,o.same s,f⟩
theorem Wt.back{K:aJ}{H0 H H':Hp}{d:D}{v:V}(h:Wt K H H' d v)(s:aV H0 H):Wt K H0 H' d v:=let ⟨A,o,f⟩:=h;⟨A,o,λa q=>s.free (f a q)⟩
theorem Wt.jJ{K:aJ}{H H':Hp}{d:D}{v:V}(i:d.jJ=NF)(h:Rv K H' d v):Wt K H H' d v:=⟨nil,Bu d v i h,λ_ z=>z.elim⟩
theorem GK.fU{K:aJ}{H H':Hp}{ds:List D}{vs:List V}(i:D.fU ds=NF)(h:fQ K H' ds vs):GK K H H' ds vs:=⟨nil,Eb ds vs i h,λ_ z=>z.elim⟩
open Classical in
noncomputable def GP(Z H H':Hp):Hp:=λa=>if H a=none then H' a else Z a
theorem Jm{Z H H':Hp}{a:A7}(h:H a=none):GP Z H H' a=H' a:=by unfold GP;rw[if_pos h]
theorem Th{Z H H':Hp}{a:A7}(h:¬H a=none):GP Z H H' a=Z a:=by unfold GP;rw[if_neg h]
theorem Mf{K:aJ}{N:Fp}{Z H H':Hp}(z:Zn K N Z H):aV Z (GP Z H H'):=λb o e=>by rw[Th (by rw[z.sm b o e];intro q;cases q)];exact e
theorem GQ{K:aJ}{N:Fp}{Z H H':Hp}(z:Zn K N Z H)(s:aV H H'):Zn K N (GP Z H H') H' where
  sm:=λb o e=>by
    by_cases c:H b=none
    · rw[Jm c]at e;exact e
    · rw[Th c]at e;exact s b o (z.sm b o e)
  tk:=λa xs h=>by
    by_cases c:H a=none
    · rcases h with (h | ⟨o,h⟩) | h
      · exact .inl (.inl (by rw[Jm c];exact h))
      · exact .inl (.inr ⟨o,by rw[Jm c];exact h⟩)
      · exact .inr h
    · have q:yV K H a xs:=by
        rcases h with (h | ⟨o,h⟩) | h
        · cases e:H a with
          | none=>exact absurd e c
          | some o=>have:=s a o e;rw[h]at this;cases this;exact .inl (.inl e)
        · cases e:H a with
          | none=>exact absurd e c
          | some o=>have:=s a o e;rw[h]at this;cases this;exact .inl (.inr ⟨_,e⟩)
        · exact .inr h
      exact(Mf z).tup (z.tk a xs q)
  no:=λa q=>⟨by rw[Th (z.no a q).2];exact(z.no a q).1,λh=>(z.no a q).2 (s.free h)⟩
theorem Wt.zone{K:aJ}{N:Fp}{Z H H':Hp}{d:D}{v:V}(h:Wt K H H' d v)(z:Zn K N Z H)(s:aV H H'):Rv K (GP Z H H') d v:=by obtain⟨A,o,f⟩:=h;exact Ow.rv d A v (Ow.frame (GQ z s).tk d A v o λa q=>Jm (f a q))
def Ls(K:aJ)(t:TE)(f:FE):Prop:=∀{N:Fp}(σ:St)(H Z:Hp)(e:DE)(d:D)(Q:VK),Zn K N Z H→Fq K Z e σ→f e=NC d →
 (∀v H' Z',aV H H'→aV Z Z'→Zn K N Z' H'→Rv K Z' d v→Q v H')→t σ H Q
def Wk(K:aJ)(t:TE)(f:FE):Prop:=∀(σ:St)(H:Hp)(e:DE)(d:D)(Q:VK),Fq K H e σ→f e=NC d →
 (∀v H',aV H H'→Wt K H H' d v→Q v H')→t σ H Q
def iu(K:aJ)(t:TT)(f:FT):Prop:=∀(σ:St)(H:Hp)(e:DE)(b:Bool)(Q:Bool→Hp→Prop),Fq K H e σ→f e=NC b→(∀H',aV H H'→Q b H')→t σ H Q
def EvA(K:aJ)(t:TA)(f:FA):Prop:=∀{N:Fp}(σ:St)(H Z:Hp)(e:DE)(ds:List D)(Q:List V→Hp→Prop),Zn K N Z H→Fq K Z e σ→f e=NC ds →
 (∀vs H' Z',aV H H'→aV Z Z'→Zn K N Z' H'→fQ K Z' ds vs→Q vs H')→t σ H Q
def EvB(K:aJ)(t:TA)(f:FA):Prop:=∀(σ:St)(H:Hp)(e:DE)(ds:List D)(Q:List V→Hp→Prop),Fq K H e σ→f e=NC ds →
 (∀vs H',aV H H'→GK K H H' ds vs→Q vs H')→t σ H Q
theorem Wk.r{K:aJ}{t:TE}{f:FE}(h:Wk K t f):Ls K t f:=λσ H Z e d Q z r q k=>
 h σ H e d Q (r.same z.sm) q λv H' s n=>k v H' (GP Z H H') s (Mf z) (GQ z s) (n.zone z s)
def bO(f:FE):FE:=λe=>(f e).bind λd=>if d.jJ=NF then NC d else none
theorem Ym{f:FE}{e:DE}{d:D}:bO f e=NC d↔f e=NC d∧d.jJ=NF:=by
 unfold bO;cases q:f e with
 | none=>simp
 | some a=>
  simp only[C4];split
  ·rename_i h;constructor
   ·intro z;cases z;exact⟨U,h⟩
   ·rintro⟨z,_⟩;exact z
  ·rename_i h;constructor
   ·intro z;cases z
   ·rintro⟨z,z2⟩;cases z;exact absurd z2 h
theorem Ls.n{K:aJ}{t:TE}{f:FE}(h:Ls K t f):Wk K t (bO f):=λσ H e d Q r q k=>by obtain⟨q1,q2⟩:=Ym.mp q;exact h σ H H e d Q (Zn.self K H) r q1 λv H' Z' s1 s2 z' rv=>k v H' s1 (.jJ q2 (z'.sm.rv _ _ rv))
def aD(i:Nat):FE:=λe=>(e[i]?).getD none
theorem aHz{K:aJ}(i:Nat):Ls K (sE i) (aD i):=λσ H Z e d Q z r q k=>by
 have e1:e[i]?=NC (NC d):=by
  unfold aD at q;cases h:e[i]? with
  | none=>rw[h]at q;cases q
  | some o=>rw[h]at q;cases q;rfl
 obtain⟨v,h1,h2⟩:=r i d e1;exact⟨v,h1,k v H Z (aV.refl _) (aV.refl _) z h2⟩
def fC(d:D):FE:=λ_=>NC d
theorem aB2{K:aJ}(i:Int):Wk K (tC (.int i)) (fC (.int i)):=λσ H e d Q r q k=>by cases q;exact k _ H (aV.refl _) (.jJ U (by unfold Rv;rfl))
theorem aJh{K:aJ}(i:Bool):Wk K (tC (.bl i)) (fC (.bl i)):=λσ H e d Q r q k=>by cases q;exact k _ H (aV.refl _) (.jJ U (by unfold Rv;rfl))
theorem aHA{K:aJ}:Wk K (tC .non) (fC .non):=λσ H e d Q r q k=>by cases q;exact k _ H (aV.refl _) (.jJ U (by unfold Rv;rfl))
theorem aHB{K:aJ}(i:Str):Wk K (tC (.str i)) (fC (.str i)):=λσ H e d Q r q k=>by cases q;exact k _ H (aV.refl _) (.jJ U (by unfold Rv;rfl))
def f2(φ:D→D→Option D)(f g:FE):FE:=λe=>(f e).bind λa=>(g e).bind λb=>φ a b
theorem Jo{φ:D→D→Option D}{f g:FE}{e:DE}{d:D}(h:f2 φ f g e=NC d):∃a b,f e=NC a∧g e=NC b∧φ a b=NC d:=by unfold f2 at h;obtain⟨a,h1,h2⟩:=bA h;obtain⟨b,h3,h4⟩:=bA h2;exact⟨a,b,h1,h3,h4⟩
def OpD(K:aJ)(r:R2)(φ:D→D→Option D):Prop:=∀{N:Fp}(x y:V)(H Z:Hp)(a b d:D)(Q:VK),Zn K N Z H→Rv K Z a x→Rv K Z b y→φ a b=NC d →
 (∀v H' Z',aV H H'→aV Z Z'→Zn K N Z' H'→Rv K Z' d v→Q v H')→r x y H Q
def OD(K:aJ)(r:R2)(φ:D→D→Option D):Prop:=∀(x y:V)(H:Hp)(a b d:D)(Q:VK),Rv K H a x→Rv K H b y→φ a b=NC d →
 (∀v H',aV H H'→Wt K H H' d v→Q v H')→r x y H Q
theorem aJi{K:aJ}{r:R2}{φ:D→D→Option D}{ta tb:TE}{f g:FE}(o:OpD K r φ)(ha:Ls K ta f)(hb:Ls K tb g):Ls K (Xx r ta tb) (f2 φ f g):=λσ H Z e d Q z re q k=>by obtain⟨a,b,h1,h2,h3⟩:=Jo q;refine ha σ H Z e a _ z re h1 λx H1 Z1 s1 t1 z1 rx=>hb σ H1 Z1 e b _ z1 (re.same t1) h2 λy H2 Z2 s2 t2 z2 ry=>?_;exact o x y H2 Z2 a b d Q z2 (t2.rv _ _ rx) ry h3 λv H3 Z3 s3 t3 z3 rv=>k v H3 Z3 (s1.trans (s2.trans s3)) (t1.trans (t2.trans t3)) z3 rv
theorem aB3{K:aJ}{r:R2}{φ:D→D→Option D}{ta tb:TE}{f g:FE}(o:OD K r φ)(ha:Ls K ta f)(hb:Ls K tb g):Wk K (Xx r ta tb) (f2 φ f g):=λσ H e d Q re q k=>by obtain⟨a,b,h1,h2,h3⟩:=Jo q;refine ha σ H H e a _ (Zn.self K H) re h1 λx H1 Z1 s1 t1 z1 rx=>hb σ H1 Z1 e b _ z1 (re.same t1) h2 λy H2 Z2 s2 t2 z2 ry=>?_;exact o x y H2 a b d Q (z2.sm.rv _ _ (t2.rv _ _ rx)) (z2.sm.rv _ _ ry) h3 λv H3 s3 n=>k v H3 (s1.trans (s2.trans s3)) (n.back (s1.trans s2))
def Ti(C:Int→Int→Prop) [∀i j,Decidable (C i j)] (g:Int→Int→D):D→D→Option D
 | .int i,.int j=>if C i j then NC (g i j)else none
 | _,_=>none
theorem Tj{C:Int→Int→Prop} [∀i j,Decidable (C i j)] {g:Int→Int→D} {a b d:D} (h:Ti C g a b=NC d):∃i j,a=.int i∧b=.int j∧C i j∧d=g i j:=by
 unfold Ti at h;split at h
 ·split at h
  ·rename_i i j c;cases h;exact⟨i,j,U,U,c,U⟩
  ·cases h
 ·cases h
theorem GR{K:aJ}{C:Int→Int→Prop} [∀i j,Decidable (C i j)] {C':Int→Int→Prop} (hC:∀i j,C i j→C' i j) {g:Int→Int→Int}:OD K (rI C' λi j=>.int (g i j)) (Ti C λi j=>.int (g i j)):=λx y H a b d Q ra rb q k=>by obtain⟨i,j,rfl,rfl,c,rfl⟩:=Tj q;unfold Rv at ra rb;exact⟨i,j,ra,rb,hC i j c,k _ H (aV.refl _) (.jJ U (by unfold Rv;rfl))⟩
theorem aEU{K:aJ}{g:Int→Int→Int}:OD K (rI0 λi j=>.int (g i j)) (Ti (λ_ _=>True) λi j=>.int (g i j)):=λx y H a b d Q ra rb q k=>by obtain⟨i,j,rfl,rfl,c,rfl⟩:=Tj q;unfold Rv at ra rb;exact⟨i,j,ra,rb,k _ H (aV.refl _) (.jJ U (by unfold Rv;rfl))⟩
theorem uQ{K:aJ}{g:Int→Int→Bool}:OD K (rI0 λi j=>.bl (g i j)) (Ti (λ_ _=>True) λi j=>.bl (g i j)):=λx y H a b d Q ra rb q k=>by obtain⟨i,j,rfl,rfl,c,rfl⟩:=Tj q;unfold Rv at ra rb;exact⟨i,j,ra,rb,k _ H (aV.refl _) (.jJ U (by unfold Rv;rfl))⟩
def aM:FA:=λ_=>NC []
def aB(f:FE)(fs:FA):FA:=λe=>(f e).bind λa=>(fs e).bind λr=>NC (a::r)
theorem Ox{f:FE}{fs:FA}{e:DE}{ds:List D}(h:aB f fs e=NC ds):∃a r,f e=NC a∧fs e=NC r∧ds=a::r:=by unfold aB at h;obtain⟨a,h1,h2⟩:=bA h;obtain⟨b,h3,h4⟩:=bA h2;cases h4;exact⟨a,b,h1,h3,U⟩
theorem aB4{K:aJ}:EvA K oK aM:=λσ H Z e ds Q z re q k=>by cases q;exact k [] H Z (aV.refl _) (aV.refl _) z (by unfold fQ;rfl)
theorem aEV{K:aJ}{te:TE}{t:TA}{f:FE}{fs:FA}(h:Ls K te f)(hs:EvA K t fs):EvA K (gF te t) (aB f fs):=λσ H Z e ds Q z re q k=>by obtain⟨a,r,h1,h2,rfl⟩:=Ox q;refine h σ H Z e a _ z re h1 λx H1 Z1 s1 t1 z1 rx=>hs σ H1 Z1 e r _ z1 (re.same t1) h2 λvs H2 Z2 s2 t2 z2 rs=>?_;exact k _ H2 Z2 (s1.trans s2) (t1.trans t2) z2 (by unfold fQ;exact⟨x,vs,U,t2.rv _ _ rx,rs⟩)
theorem aHC{K:aJ}:EvB K oK aM:=λσ H e ds Q re q k=>by cases q;exact k [] H (aV.refl _) (.fU U (by unfold fQ;rfl))
theorem aEW{K:aJ}{te:TE}{t:TA}{f:FE}{fs:FA}(h:Wk K te f)(hs:EvB K t fs):EvB K (gF te t) (aB f fs):=λσ H e ds Q re q k=>by obtain⟨a,r,h1,h2,rfl⟩:=Ox q;refine h σ H e a _ re h1 λx H1 s1 n1=>hs σ H1 e r _ (re.same s1) h2 λvs H2 s2 n2=>?_;refine k _ H2 (s1.trans s2) ?_;obtain⟨A,oA,fA⟩:=n1;obtain⟨B,oB,fB⟩:=n2;refine⟨gB A B,?_,λp q=>q.elim (fA p) λz=>s1.free (fB p z)⟩;unfold eQ;refine⟨x,vs,A,B,U,λp qa qb=>?_,λ_=>Iff.rfl,oA.same s2,oB⟩;obtain⟨⟨o,e1⟩,_⟩:=Ow.cells _ _ _ oA p qa;rw[fB p qb]at e1;cases e1
def cap(n:Nat)(d:D):Option D:=if n≤100000 then NC d else none
theorem Tn{n:Nat}{d d':D}(h:cap n d=NC d'):n≤100000∧d'=d:=by
 unfold cap at h;split at h
 ·rename_i c;cases h;exact⟨c,U⟩
 ·cases h
theorem Yn{n:Nat}(h:n≤100000):n≤sizeLine:=by rw[EG];omega
theorem Yo{n:Nat}(h:n≤100000):n<sizeLine:=by rw[EG];omega
def kJ(fs:FA):FE:=λe=>(fs e).bind λds=>cap ds.length (.lst ds)
def pP(fs:FA):FE:=λe=>(fs e).bind λds=>cap ds.length (.tup ds)
theorem wD{K:aJ}{H H1:Hp}{ds:List D}{xs:List V}{p:A7}(s:aV H H1)(n:GK K H H1 ds xs)(hp:H1 p=none):Wt K H (upd H1 p (.lst xs)) (.lst ds) (.ref p):=by obtain⟨A,o,f⟩:=n;refine⟨gB (·=p) A,?_,λa q=>q.elim (λz=>by cases z;exact s.free hp) (f a)⟩;unfold Ow;refine⟨p,xs,A,U,cM,λz=>?_,λ_=>Iff.rfl,o.same (dI hp _)⟩;obtain⟨⟨u,e⟩,_⟩:=eQ.cells _ _ _ o p z;rw[hp]at e;cases e
theorem GX{K:aJ}{H H1:Hp}{ds:List D}{xs:List V}{p:A7}(n:GK K H H1 ds xs)(hp:H1 p=none):Wt K H (upd H1 p (.tup xs)) (.tup ds) (.ref p):=by obtain⟨A,o,f⟩:=n;refine⟨A,?_,f⟩;unfold Ow;exact⟨p,xs,U,yV.of cM,o.same (dI hp _)⟩
theorem aHD{K:aJ}{t:TA}{fs:FA}(h:EvB K t fs):Wk K (aBG t) (kJ fs):=λσ H e d Q re q k=>by
 unfold kJ at q;obtain⟨ds,h1,h2⟩:=bA q;obtain⟨hc,rfl⟩:=Tn h2;refine h σ H e ds _ re h1 λxs H1 s1 n=>⟨Yn (by rw[n.rv.length];exact hc),λp hp=>?_⟩
 exact k _ _ (s1.trans (dI hp _)) (wD s1 n hp)
theorem aHE{K:aJ}{t:TA}{fs:FA}(h:EvB K t fs):Wk K (aEo t) (pP fs):=λσ H e d Q re q k=>by
 unfold pP at q;obtain⟨ds,h1,h2⟩:=bA q;obtain⟨hc,rfl⟩:=Tn h2;refine h σ H e ds _ re h1 λxs H1 s1 n=>⟨Yn (by rw[n.rv.length];exact hc),λp hp=>?_⟩
 exact k _ _ (s1.trans (dI hp _)) (GX n hp)
theorem aB5{K:aJ}{N:Fp}{Z H:Hp}{p:A7}{o:HO}(z:Zn K N Z H)(hp:H p=none):aV Z (upd Z p o)∧Zn K N (upd Z p o) (upd H p o):=by
 have hz:Z p=none:=z.sm.free hp;refine⟨dI hz o,⟨λb u e=>?_,λa xs h=>?_,λa q=>?_⟩⟩
 ·by_cases c:b=p
  ·subst c;rw[cM]at e;rw[cM];exact e
  ·rw[bN c]at e;rw[bN c];exact z.sm b u e
 ·by_cases c:a=p
  ·subst c;rcases h with (h | ⟨u,h⟩) | h
   ·rw[cM]at h;exact .inl (.inl (by rw[cM];exact h))
   ·rw[cM]at h;exact .inl (.inr ⟨u,by rw[cM];exact h⟩)
   ·exact .inr h
  ·have q:yV K H a xs:=by
    rcases h with (h | ⟨u,h⟩) | h
    ·rw[bN c]at h;exact .inl (.inl h)
    ·rw[bN c]at h;exact .inl (.inr ⟨u,h⟩)
    ·exact .inr h
   exact(dI hz o).tup (z.tk a xs q)
 ·have c:a≠p:=λz'=>(z.no a q).2 (by rw[z'];exact hp);rw[bN c,bN c];exact z.no a q
theorem aHF{K:aJ}{t:TA}{fs:FA}(h:EvA K t fs):Ls K (aBG t) (kJ fs):=λσ H Z e d Q z re q k=>by
 unfold kJ at q;obtain⟨ds,h1,h2⟩:=bA q;obtain⟨hc,rfl⟩:=Tn h2;refine h σ H Z e ds _ z re h1 λxs H1 Z1 s1 t1 z1 rs=>⟨Yn (by rw[rs.length];exact hc),λp hp=>?_⟩
 obtain⟨a1,a2⟩:=aB5 (o:=.lst xs) z1 hp;exact k _ _ _ (s1.trans (dI hp _)) (t1.trans a1) a2 (by unfold Rv;exact⟨p,xs,U,rJ.of cM,a1.uq _ _ rs⟩)
end L2


namespace L2
open PySem PySem.Spec PyProof.Rows
structure XR(K:aJ)(X:Cx)(e:AD)(t:TE)(f:FE):Prop where
 hk:X.K=K
 pe:PE X e t
 ev:Ls K t f
structure XN(K:aJ)(X:Cx)(e:AD)(t:TE)(f:FE):Prop where
 hk:X.K=K
 pe:PE X e t
 ev:Wk K t f
structure XT(K:aJ)(X:Cx)(e:AD)(t:TT)(f:FT):Prop where
 hk:X.K=K
 pt:PT X e t
 ev:iu K t f
structure XW(K:aJ)(X:Cx)(e:AD)(t:TT)(f:FT):Prop where
 hk:X.K=K
 pw:PW X e t
 ev:iu K t f
structure XA(K:aJ)(X:Cx)(es:List AD)(t:TA)(f:FA):Prop where
 hk:X.K=K
 pa:PA X es t
 ev:EvA K t f
structure XB(K:aJ)(X:Cx)(es:List AD)(t:TA)(f:FA):Prop where
 hk:X.K=K
 pa:PA X es t
 ev:EvB K t f
section
variable{K:aJ}{X:Cx}{e a b c:AD}{es:List AD}{t ta tb:TE}{f g:FE}{tA:TA}{fs:FA}{pos:Pos}
theorem XN.r(h:XN K X e t f):XR K X e t f:=⟨h.hk,h.pe,h.ev.r⟩
theorem XR.n(h:XR K X e t f):XN K X e t (bO f):=⟨h.hk,h.pe,Ls.n h.ev⟩
theorem aF{i:Nat}(h:PE X e (sE i))(hk:X.K=K:=by rfl):XR K X e (sE i) (aD i):=⟨hk,h,aHz i⟩
theorem aN{i:Int}{j:Nat}(hk:X.K=K:=by rfl):XN K X (.Constant (.int i) j pos) (tC (.int i)) (fC (.int i)):=⟨hk,aGS,aB2 i⟩
theorem uR{i:Bool}{j:Nat}(hk:X.K=K:=by rfl):XN K X (.Constant (.bool i) j pos) (tC (.bl i)) (fC (.bl i)):=⟨hk,aIR,aJh i⟩
theorem Hf{j:Nat}(hk:X.K=K:=by rfl):XN K X (.Constant .none j pos) (tC .non) (fC .non):=⟨hk,aGT,aHA⟩
theorem bW{x:Str}{j:Nat}(hk:X.K=K:=by rfl):XN K X (.Constant (.str x) j pos) (tC (.str x)) (fC (.str x)):=⟨hk,bj,aHB x⟩
theorem Tp{op:Operator}{r:R2}{φ:D→D→Option D}(ho:xR X (BS op) r)(hd:OD K r φ)(ha:XR K X a ta f)(hb:XR K X b tb g):XN K X (.BinOp a op b pos) (Xx r ta tb) (f2 φ f g):=⟨ha.hk,aI1 ho ha.pe hb.pe,aB3 hd ha.ev hb.ev⟩
def Mg:D→D→Option D:=Ti (λ_ _=>True) λi j=>.int (i-j)
instance (i j:Int):Decidable (Wl i j):=by unfold Wl;exact inferInstance
instance (i j:Int):Decidable (aAd i j):=by unfold aAd;exact inferInstance
instance (i j:Int):Decidable (aAe i j):=by unfold aAe;exact inferInstance
def vY:D→D→Option D:=Ti Wl λi j=>.int (i*j)
def pQ:D→D→Option D:=Ti aAd λi j=>.int (i/j)
def gM:D→D→Option D:=Ti (λ_ j=>0<j) λi j=>.int (i%j)
def Jp:D→D→Option D:=Ti aAe λi j=>.int (i ^ j.toNat)
theorem wZ(ha:XR K X a ta f)(hb:XR K X b tb g):XN K X (.BinOp a .Sub b pos) (Xx (rI0 λi j=>.int (i-j)) ta tb) (f2 Mg f g):=Tp aG8 aEU ha hb
theorem mV(ha:XR K X a ta f)(hb:XR K X b tb g):XN K X (.BinOp a .Mult b pos) (Xx (rI Wl λi j=>.int (i*j)) ta tb) (f2 vY f g):=Tp aG9 (GR λ_ _ h=>h) ha hb
theorem lB(ha:XR K X a ta f)(hb:XR K X b tb g):XN K X (.BinOp a .FloorDiv b pos) (Xx (rI aAd λi j=>.int (i/j)) ta tb) (f2 pQ f g):=Tp aEi (GR λ_ _ h=>h) ha hb
theorem bU(ha:XR K X a ta f)(hb:XR K X b tb g):XN K X (.BinOp a .Mod b pos) (Xx (rI (λ_ j=>0<j) λi j=>.int (i%j)) ta tb) (f2 gM f g):=Tp aHa (GR λ_ _ h=>h) ha hb
theorem Bv(ha:XR K X a ta f)(hb:XR K X b tb g):XN K X (.BinOp a .Pow b pos) (Xx (rI aAe λi j=>.int (i ^ j.toNat)) ta tb) (f2 Jp f g):=Tp aHb (GR λ_ _ h=>h) ha hb
theorem Hg{op:Dx}{r:R2}{φ:D→D→Option D}(ho:xR X (AS op) r)(hd:OD K r φ)(ha:XR K X a ta f)(hb:XR K X b tb g)(hm:behindInMarks op b=NG):XN K X (.Compare a [op] [b] pos) (Xx r ta tb) (f2 φ f g):=⟨ha.hk,aEk ho ha.pe hb.pe hm,aB3 hd ha.ev hb.ev⟩
def fB(f:FE):FT:=λe=>(f e).bind λd=>match d with | .bl b=>NC b | _=>none
theorem Jq{f:FE}{e:DE}{b:Bool}(h:fB f e=NC b):f e=NC (.bl b):=by
 unfold fB at h;obtain⟨d,h1,h2⟩:=bA h;split at h2
 ·cases h2;exact h1
 ·cases h2
theorem aEX(h:Ls K t f):iu K (Xz t) (fB f):=λσ H e b Q re q k=>h σ H H e _ _ (Zn.self K H) re (Jq q) λv H' Z' s1 s2 z rv=>by unfold Rv at rv;exact⟨b,rv,k H' s1⟩
theorem aGg(h:Ls K t f):iu K (tB t) (fB f):=λσ H e b Q re q k=>h σ H H e _ _ (Zn.self K H) re (Jq q) λv H' Z' s1 s2 z rv=>by unfold Rv at rv;exact⟨b,rv,k H' s1⟩
theorem eV{op:Dx}{r:R2}{φ:D→D→Option D}(ho:xR X (AS op) r)(hd:OD K r φ)(ha:XR K X a ta f)(hb:XR K X b tb g)(hm:behindInMarks op b=NG):XT K X (.Compare a [op] [b] pos) (Xz (Xx r ta tb)) (fB (f2 φ f g)):=⟨ha.hk,tu ho ha.pe hb.pe hm,aEX (aB3 hd ha.ev hb.ev).r⟩
theorem qQ(h:XR K X e t f)(he:∀whole,Fk e X.env whole=(do let v ←whole;DL e.pos;CF [v] (truthy v)):=by intro _;rfl):XT K X e (tB t) (fB f):=⟨h.hk,aBn h.pe he,aGg h.ev⟩
def dLt:D→D→Option D:=Ti (λ_ _=>True) λi j=>.bl (decide (i<j))
def dLe:D→D→Option D:=Ti (λ_ _=>True) λi j=>.bl (decide (i≤j))
def dGt:D→D→Option D:=Ti (λ_ _=>True) λi j=>.bl (decide (j<i))
def dGe:D→D→Option D:=Ti (λ_ _=>True) λi j=>.bl (decide (j≤i))
def toV:D→Option V
  | .non=>NC .non | .bl b=>NC (.bl b) | .int i=>NC (.int i) | .str x=>NC (.str x)
  | _=>none
theorem Mh{H:Hp}{d:D}{v x:V}(h:toV d=NC v)(r:Rv K H d x):x=v:=by cases d<;>unfold toV at h<;>first | (cases h;unfold Rv at r;exact r) | cases h
mutual
def iQ:D→Option DV
 | .int i=>NC (.int i)
 | .non=>NC .non
 | .lst ds=>(lF ds).map DV.lst
 | .tup ds=>(lF ds).map DV.tup
 | _=>none
def lF:List D→Option (List DV)
 | []=>NC []
 | d::ds=>(iQ d).bind λx=>(lF ds).bind λxs=>NC (x::xs)
end
mutual
theorem zB{H:Hp}:∀(d:D)(x:DV)(v:V),iQ d=NC x→Rv K H d v→Reads K H x v
 | .int i,x,v,h,r=>by unfold iQ at h;cases h;unfold Rv at r;unfold Reads;exact r
 | .lst ds,x,v,h,r=>by unfold iQ at h;obtain⟨xs,h1,rfl⟩:=lY h;unfold Rv at r;unfold Reads;obtain⟨a,vs,r1,r2,r3⟩:=r;exact⟨a,vs,r1,r2,Tq ds xs vs h1 r3⟩
 | .tup ds,x,v,h,r=>by unfold iQ at h;obtain⟨xs,h1,rfl⟩:=lY h;unfold Rv at r;unfold Reads;obtain⟨a,vs,r1,r2,r3⟩:=r;exact⟨a,vs,r1,r2,Tq ds xs vs h1 r3⟩
 | .non,x,v,h,r=>by unfold iQ at h;cases h;unfold Rv at r;unfold Reads;exact r
 | .bl _,x,v,h,r=>by unfold iQ at h;cases h
 | .str _,x,v,h,r=>by unfold iQ at h;cases h
 | .dk _ _,x,v,h,r=>by unfold iQ at h;cases h
 | .dt _ _,x,v,h,r=>by unfold iQ at h;cases h
 | .ins _ _ _,x,v,h,r=>by unfold iQ at h;cases h
theorem Tq{H:Hp}:∀(ds:List D)(xs:List DV)(vs:List V),lF ds=NC xs→fQ K H ds vs→fK K H xs vs
 | [],xs,vs,h,r=>by unfold lF at h;cases h;unfold fQ at r;unfold fK;exact r
 | d::ds,xs,vs,h,r=>by unfold lF at h;obtain⟨x,h1,h2⟩:=bA h;obtain⟨xt,h3,h4⟩:=bA h2;cases h4;unfold fQ at r;unfold fK;obtain⟨y,ys,r1,r2,r3⟩:=r;exact⟨y,ys,r1,zB d x y h1 r2,Tq ds xt ys h3 r3⟩
end
mutual
theorem aB6:∀(d e:D)(x:DV),iQ d=NC x→iQ e=NC x→d=e
 | .int i,e,x,h,h'=>by
  unfold iQ at h;cases h;cases e<;>unfold iQ at h'<;>first | (cases h';rfl) | cases h' | (obtain⟨xs,q1,q2⟩:=lY h';cases q2)
 | .lst ds,e,x,h,h'=>by
  unfold iQ at h;obtain⟨xs,h1,rfl⟩:=lY h;cases e with
  | lst es=>unfold iQ at h';obtain⟨ys,q1,q2⟩:=lY h';cases q2;rw[Mi ds es xs h1 q1]
  | tup es=>unfold iQ at h';obtain⟨ys,q1,q2⟩:=lY h';cases q2
  | _=>unfold iQ at h';cases h'
 | .tup ds,e,x,h,h'=>by
  unfold iQ at h;obtain⟨xs,h1,rfl⟩:=lY h;cases e with
  | tup es=>unfold iQ at h';obtain⟨ys,q1,q2⟩:=lY h';cases q2;rw[Mi ds es xs h1 q1]
  | lst es=>unfold iQ at h';obtain⟨ys,q1,q2⟩:=lY h';cases q2
  | _=>unfold iQ at h';cases h'
 | .non,e,x,h,h'=>by
  unfold iQ at h;cases h;cases e<;>unfold iQ at h'<;>first | (cases h';rfl) | cases h' | (obtain⟨xs,q1,q2⟩:=lY h';cases q2)
 | .bl _,e,x,h,h'=>by unfold iQ at h;cases h
 | .str _,e,x,h,h'=>by unfold iQ at h;cases h
 | .dk _ _,e,x,h,h'=>by unfold iQ at h;cases h
 | .dt _ _,e,x,h,h'=>by unfold iQ at h;cases h
 | .ins _ _ _,e,x,h,h'=>by unfold iQ at h;cases h
theorem Mi:∀(ds es:List D)(xs:List DV),lF ds=NC xs→lF es=NC xs→ds=es
 | [],[],xs,h,h'=>rfl
 | [],e::es,xs,h,h'=>by
  unfold lF at h h';cases h;obtain⟨x,h1,h2⟩:=bA h';obtain⟨xt,h3,h4⟩:=bA h2;cases h4
 | d::ds,[],xs,h,h'=>by
  unfold lF at h h';cases h';obtain⟨x,h1,h2⟩:=bA h;obtain⟨xt,h3,h4⟩:=bA h2;cases h4
 | d::ds,e::es,xs,h,h'=>by unfold lF at h h';obtain⟨x,h1,h2⟩:=bA h;obtain⟨xt,h3,h4⟩:=bA h2;cases h4;obtain⟨y,k1,k2⟩:=bA h';obtain⟨yt,k3,k4⟩:=bA k2;cases k4;rw[aB6 d e x h1 k1,Mi ds es xt h3 k3]
end
noncomputable def Ft(a b:D):Option D:=match toV a,toV b with
 | some x,NC y=>if aEj x y=NF then NC (.bl (decide (x=y)))else none
 | _,_=>match iQ a,iQ b with
  | some x,NC y=>if x.depth≤32 then NC (.bl (Br x y))else none
  | _,_=>none
theorem sH:OD K (λx y H Q=>rEq x y H Q∨aHs K NG x y H Q) Ft:=λx y H a b d Q ra rb q k=>by
 unfold Ft at q;split at q
 ·rename_i u v h1 h2;split at q
  ·rename_i hs;cases q;rw[Mh h1 ra,Mh h2 rb];exact .inl ⟨hs,k _ H (aV.refl _) (.jJ U (by unfold Rv;rfl))⟩
  ·cases q
 ·split at q
  ·rename_i u v h1 h2;split at q
   ·rename_i hs;cases q;exact .inr ⟨u,v,zB a u x h1 ra,zB b v y h2 rb,hs,k _ H (aV.refl _) (.jJ U (by unfold Rv;rfl))⟩
   ·cases q
  ·cases q
noncomputable def Tr(a b:D):Option D:=match toV a,toV b with
 | some x,NC y=>if aEj x y=NF then NC (.bl (!decide (x=y)))else none
 | _,_=>match iQ a,iQ b with
  | some (.lst x),NC (.lst y)=>if dH x≤32 then NC (.bl (!Br (.lst x) (.lst y)))else none
  | some (.tup x),NC (.tup y)=>if dH x≤32 then NC (.bl (!Br (.tup x) (.tup y)))else none
  | _,_=>none
def aJj(K:aJ):R2:=λx y H Q=>rNe x y H Q∨(∃ds es,Reads K H (.lst ds) x∧Reads K H (.lst es) y∧dH ds≤32∧Q (.bl (!Br (.lst ds) (.lst es))) H)∨(∃ds es,Reads K H (.tup ds) x∧Reads K H (.tup es) y∧dH ds≤32∧Q (.bl (!Br (.tup ds) (.tup es))) H)
theorem Gg:OD K (aJj K) Tr:=λx y H a b d Q ra rb q k=>by
 unfold Tr at q;split at q
 ·rename_i u v h1 h2;split at q
  ·rename_i hs;cases q;rw[Mh h1 ra,Mh h2 rb];exact .inl ⟨hs,k _ H (aV.refl _) (.jJ U (by unfold Rv;rfl))⟩
  ·cases q
 ·split at q
  ·rename_i u v h1 h2;split at q
   ·rename_i hs;cases q;exact .inr (.inl ⟨u,v,zB a _ x h1 ra,zB b _ y h2 rb,hs,k _ H (aV.refl _) (.jJ U (by unfold Rv;rfl))⟩)
   ·cases q
  ·rename_i u v h1 h2;split at q
   ·rename_i hs;cases q;exact .inr (.inr ⟨u,v,zB a _ x h1 ra,zB b _ y h2 rb,hs,k _ H (aV.refl _) (.jJ U (by unfold Rv;rfl))⟩)
   ·cases q
  ·cases q
theorem or_eq(hu:X.A.units+64<Ap)(hk:X.K=K):xR X (AS .Eq) (λx y H Q=>rEq x y H Q∨aHs K NG x y H Q):=by subst hk;exact aI4.or (aHt hu)
theorem Gh(hu:X.A.units+64<Ap)(hk:X.K=K):xR X (AS .NotEq) (aJj K):=by subst hk;exact aI5.or ((aHu hu).or (aHw hu))
def QW:List D→Option (List V)
 | []=>NC []
 | d::ds=>(toV d).bind λx=>(QW ds).bind λxs=>NC (x::xs)
theorem ur{H:Hp}:∀{ds:List D} {vs xs:List V},QW ds=NC vs→fQ K H ds xs→xs=vs
 | [],vs,xs,h,r=>by unfold QW at h;cases h;unfold fQ at r;exact r
 | d::ds,vs,xs,h,r=>by unfold QW at h;obtain⟨x,h1,h2⟩:=bA h;obtain⟨xt,h3,h4⟩:=bA h2;cases h4;unfold fQ at r;obtain⟨y,ys,rfl,r2,r3⟩:=r;rw[Mh h1 r2,ur h3 r3]
def Bf:D→Option (List D)
 | .lst ds=>NC ds
 | .tup ds=>NC ds
 | _=>none
theorem Ra{H:Hp}{d:D}{ds:List D}{v:V}(h:Bf d=NC ds)(r:Rv K H d v):∃p xs,v=.ref p∧(rJ K H p xs∨yV K H p xs)∧fQ K H ds xs:=by
 cases d with
 | lst es=>unfold Bf at h;cases h;unfold Rv at r;obtain⟨p,xs,r1,r2,r3⟩:=r;exact⟨p,xs,r1,.inl r2,r3⟩
 | tup es=>unfold Bf at h;cases h;unfold Rv at r;obtain⟨p,xs,r1,r2,r3⟩:=r;exact⟨p,xs,r1,.inr r2,r3⟩
 | _=>unfold Bf at h;cases h
def dIn(neg:Bool)(a b:D):Option D:=(toV a).bind λx=>(Bf b).bind λds=>(QW ds).bind λxs=>if Bo x=NF∧xs.all Bo=NF then NC (.bl (if neg then !inV x xs else inV x xs))else none
theorem aJl(neg:Bool):OD K (rIn K neg) (dIn neg):=λx y H a b d Q ra rb q k=>by
 unfold dIn at q;obtain⟨u,h1,q⟩:=bA q;obtain⟨ds,h2,q⟩:=bA q;obtain⟨us,h3,q⟩:=bA q;split at q
 ·rename_i c;cases q;obtain⟨p,xs,rfl,r2,r3⟩:=Ra h2 rb;have:=ur h3 r3;subst this;rw[Mh h1 ra];exact⟨p,xs,U,r2,c.1,c.2,k _ H (aV.refl _) (.jJ U (by unfold Rv;rfl))⟩
 ·cases q
theorem aB7(hk:X.K=K):xR X (AS .NotIn) (rIn K NF):=by subst hk;exact DX
end
section
variable{κ:Type} [DecidableEq κ] {K:aJ} {H:Hp}
def posK:List κ→κ→Option Nat
 | [],_=>none
 | a::ks,k=>if a=k then NC 0 else(posK ks k).map (·+1)
theorem sI:∀{ks:List κ} {xs:List V} {k:κ},ks.length=xs.length→tG (ks.zip xs) k=(posK ks k).bind λj=>xs[j]?
 | [],xs,k,h=>by unfold posK;rfl
 | a::ks,[],k,h=>by simp at h
 | a::ks,x::xs,k,h=>by
  have ih:=sI (ks:=ks) (xs:=xs) (k:=k) (by simpa using h);unfold posK;rw[P2];unfold tG at ih ⊢;rw[O0];by_cases c:a=k
  ·rw[if_pos c,decide_eq_true c];rfl
  ·rw[if_neg c,decide_eq_false c];show Option.map _ (List.find? _ (ks.zip xs))=_;rw[ih];cases posK ks k<;>rfl
theorem uB:∀{ks:List κ} {k:κ} {j:Nat},posK ks k=NC j→j<ks.length∧ks[j]?=NC k
 | [],k,j,h=>by unfold posK at h;cases h
 | a::ks,k,j,h=>by
  unfold posK at h;split at h
  ·rename_i c;cases h;exact⟨by simp,by simp[c]⟩
  ·obtain⟨i,h1,rfl⟩:=lY h;obtain⟨a1,a2⟩:=uB h1;exact⟨by simpa using a1,by simpa using a2⟩
theorem Ec:∀{ks:List κ} {k:κ},posK ks k=none↔k∉ks
  | [],k=>by unfold posK;simp
  | a::ks,k=>by
    unfold posK;have ih:=Ec (ks:=ks) (k:=k);split
    · rename_i c;simp[c]
    · rename_i c
      rw[Z7,ih,D5];constructor
      · rintro h (q | q)
        · exact c q.symm
        · exact h q
      · intro h q;exact h (.inr q)
def mL(ks:List κ)(k:κ):List κ:=if(posK ks k).isSome then ks else ks++[k]
def putD{β:Type}(ks:List κ)(ds:List β)(k:κ)(d:β):List β:=if(posK ks k).isSome then P9 (λk' d'=>if k'=k then d else d') ks ds else ds++[d]
theorem xX{β:Type}{ks:List κ}{ds:List β}{k:κ}{d:β}(h:ks.length=ds.length):(mL ks k).length=(putD ks ds k d).length:=by
 unfold mL putD;split
 ·rw[List.length_zipWith,h,f6]
 ·rw[C7,C7,h];rfl
theorem QX{ks:List κ}{xs:List V}{k:κ}{v:V}(h:ks.length=xs.length):putK (ks.zip xs) k v=(mL ks k).zip (putD ks xs k v):=by
 have ha:((ks.zip xs).any λkv=>decide (kv.1=k))=(posK ks k).isSome:=by
  rw[Bp,sI h];cases q:posK ks k with
  | none=>rfl
  | some j=>obtain⟨h1,h2⟩:=uB q;rw[C4,B7 (by omega)];rfl
 unfold putK mL putD;rw[ha];by_cases c:(posK ks k).isSome=NF
 ·rw[if_pos c,if_pos c,if_pos c];clear ha c
  induction ks generalizing xs with
  | nil=>rfl
  | cons a ks ih=>
   cases xs with
   | nil=>simp at h
   | cons x xs=>
    rw[P2,D3,J6,P2,ih (by simpa using h)]
    split<;>rfl
 ·rw[if_neg c,if_neg c,if_neg c,List.zip_append h];rfl
end
def Tt:D→Option Key
 | .int i=>NC (.inl i)
 | .str x=>NC (.inr x)
 | _=>none
theorem Ed{K:aJ}{H:Hp}{d:D}{k:Key}{v:V}(h:Tt d=NC k)(r:Rv K H d v):v=kV k:=by cases d<;>unfold Tt at h<;>first | (cases h;unfold Rv at r;exact r) | cases h
def kD:Key→D
 | .inl i=>.int i
 | .inr x=>.str x
section
variable{K:aJ}{X:Cx}{e a b c:AD}{es:List AD}{t ta tb:TE}{f g:FE}{pos:Pos}
def Fv(neg:Bool)(k d:D):Option D:=match d with
 | .dk ks ds=>(Tt k).bind λk=>NC (.bl (if neg then !(posK ks k).isSome else(posK ks k).isSome))
 | _=>none
def jD(d k:D):Option D:=match d with
 | .dk ks ds=>(Tt k).bind λk=>(posK ks k).bind λj=>ds[j]?
 | _=>none
theorem iw{ks:List Key}{xs:List V}{k:Key}(h:ks.length=xs.length):(tG (ks.zip xs) k).isSome=(posK ks k).isSome:=by
 rw[sI h];cases q:posK ks k with
 | none=>rfl
 | some j=>obtain⟨h1,h2⟩:=uB q;rw[C4,B7 (by omega)];rfl
theorem QZ{H:Hp}{x y:V}{ka d r:D}{neg:Bool}(h:Fv neg ka d=NC r)(rk:Rv K H ka y)(rd:Rv K H d x):∃p o,x=.ref p∧Jj H p y o∧r=.bl (if neg then !o.isSome else o.isSome):=by
 unfold Fv at h;split at h
 ·rename_i ks ds;obtain⟨k,h1,h2⟩:=bA h;cases h2;unfold Rv at rd;obtain⟨p,xs,r1,r2,r3,r4⟩:=rd;refine⟨p,tG (ks.zip xs) k,r1,.inl ⟨_,k,r2,Ed h1 rk,U⟩,?_⟩;rw[iw r3]
 ·cases h
theorem aB8(hu:X.A.units+1<Ap)(ha:XR K X a ta f)(hb:XR K X b tb g)(h1:behindInMarks .In b=NG:=by first | exact nobehind _ (by decide) (by decide) | rfl):XN K X (.Compare a [.In] [b] pos) (aEE ta tb) (f2 (Fv NG) f g):=
 ⟨ha.hk,bu (gh hu ha.pe hb.pe) h1,λσ H e d Q re q k=>by
  obtain⟨da,db,q1,q2,q3⟩:=Jo q;refine ha.ev σ H H e da _ (Zn.self K H) re q1 λx H1 Z1 s1 t1 z1 rx=>hb.ev σ H1 Z1 e db _ z1 (re.same t1) q2 λy H2 Z2 s2 t2 z2 ry=>?_;obtain⟨p,o,e1,e2,e3⟩:=QZ q3 (z2.sm.rv _ _ (t2.rv _ _ rx)) (z2.sm.rv _ _ ry);subst e3;exact⟨p,o,e1,e2,k _ H2 (s1.trans s2) (.jJ U (by unfold Rv;rfl))⟩⟩
theorem aAu(hu:X.A.units+1<Ap)(ha:XR K X a ta f)(hb:XR K X b tb g)(h1:behindInMarks .NotIn b=NG:=by first | exact nobehind _ (by decide) (by decide) | rfl):XN K X (.Compare a [.NotIn] [b] pos) (FN ta tb) (f2 (Fv NF) f g):=
 ⟨ha.hk,bu (Yj hu ha.pe hb.pe) h1,λσ H e d Q re q k=>by
  obtain⟨da,db,q1,q2,q3⟩:=Jo q;refine ha.ev σ H H e da _ (Zn.self K H) re q1 λx H1 Z1 s1 t1 z1 rx=>hb.ev σ H1 Z1 e db _ z1 (re.same t1) q2 λy H2 Z2 s2 t2 z2 ry=>?_;obtain⟨p,o,e1,e2,e3⟩:=QZ q3 (z2.sm.rv _ _ (t2.rv _ _ rx)) (z2.sm.rv _ _ ry);subst e3;exact⟨p,o,e1,e2,k _ H2 (s1.trans s2) (.jJ U (by unfold Rv;rfl))⟩⟩
theorem aGh{op:Dx}(h:XN K X (.Compare a [op] [b] pos) t f)(pc:PC X op a b t)(h1:behindInMarks op b=NG):XT K X (.Compare a [op] [b] pos) (tB t) (fB f):=⟨h.hk,aGU pc h1,aGg h.ev.r⟩
theorem Mj(hu:X.A.units+1<Ap)(ha:XR K X a ta f)(hb:XR K X b tb g)(h1:behindInMarks .NotIn b=NG:=by first | exact nobehind _ (by decide) (by decide) | rfl):XT K X (.Compare a [.NotIn] [b] pos) (tB (FN ta tb)) (fB (f2 (Fv NF) f g)):=aGh (aAu hu ha hb h1) (Yj hu ha.pe hb.pe) h1
theorem bQ(hu:X.A.units+1<Ap)(ha:XR K X a ta f)(hb:XR K X b tb g)(hs:aBR b):XR K X (.Subscript a b pos) (ue ta tb) (f2 jD f g):=
 ⟨ha.hk,FQ hu ha.pe hb.pe hs,λσ H Z e d Q z re q k=>by
  obtain⟨da,db,q1,q2,q3⟩:=Jo q;refine ha.ev σ H Z e da _ z re q1 λx H1 Z1 s1 t1 z1 rx=>hb.ev σ H1 Z1 e db _ z1 (re.same t1) q2 λy H2 Z2 s2 t2 z2 ry=>?_;have rx2:=t2.rv _ _ rx;unfold jD at q3;split at q3
  ·rename_i ks ds;obtain⟨kk,h1,h2⟩:=bA q3;obtain⟨j,h3,h4⟩:=bA h2;unfold Rv at rx2;obtain⟨p,xs,r1,r2,r3,r4⟩:=rx2;obtain⟨v,e1,e2⟩:=r4.get h4;refine⟨p,v,r1,.inl ⟨_,kk,z2.sm.rd r2,Ed h1 ry,?_⟩,k v H2 Z2 (s1.trans s2) (t1.trans t2) z2 e2⟩;rw[sI r3,h3];exact e1.symm
  ·cases q3⟩
def dU(a i:D):Option D:=match i with
 | .int i=>(Bf a).bind λds=>au ds i
 | _=>none
theorem aGi{H:Hp}{ds:List D}{xs:List V}{i:Int}{d:D}(r:fQ K H ds xs)(h:au ds i=NC d):∃v,au xs i=NC v∧Rv K H d v:=by unfold au at h ⊢;obtain⟨j,h1,h2⟩:=bA h;rw[r.length,h1];exact r.get h2
theorem aGj(hk:X.K=K):IxR X (rIx K):=by subst hk;exact aHj
theorem bI(ha:XR K X a ta f)(hb:XR K X b tb g)(hs:DQ b):XR K X (.Subscript a b pos) (Xx (rIx K) ta tb) (f2 dU f g):=
 ⟨ha.hk,aGa (aGj ha.hk) ha.pe hb.pe hs,aJi (λx y H Z da db d Q z ra rb q k=>by
  unfold dU at q;split at q
  ·rename_i i;obtain⟨ds,h1,h2⟩:=bA q;unfold Rv at rb;cases da with
   | lst es=>
    unfold Bf at h1;cases h1;unfold Rv at ra;obtain⟨p,xs,r1,r2,r3⟩:=ra;obtain⟨v,e1,e2⟩:=aGi r3 h2;exact .inl ⟨p,xs,i,v,r1,rb,z.sm.seq r2,e1,k v H Z (aV.refl _) (aV.refl _) z e2⟩
   | tup es=>
    unfold Bf at h1;cases h1;unfold Rv at ra;obtain⟨p,xs,r1,r2,r3⟩:=ra;obtain⟨v,e1,e2⟩:=aGi r3 h2;exact .inr (.inl ⟨p,xs,i,v,r1,rb,z.sm.tup r2,e1,k v H Z (aV.refl _) (aV.refl _) z e2⟩)
   | _=>unfold Bf at h1;cases h1
  ·cases q) ha.ev hb.ev⟩
end
end L2


namespace L2
open PySem PySem.Spec PyProof.Rows
section
variable{K:aJ}{X:Cx}{e a b c:AD}{es rest:List AD}{t ta tb:TE}{f g:FE}{tA:TA}{fs:FA}{pos:Pos}{tc:TT}{fc fd:FT}{td:TT}
theorem aO(hk:X.K=K:=by rfl):XA K X [] oK aM:=⟨hk,jM,aB4⟩
theorem aG(h:XR K X e t f)(hs:XA K X es tA fs)(hst:AB (e::es) X.env=(NG,AO e X.env)::AB es X.env:=by rfl):XA K X (e::es) (gF t tA) (aB f fs):=⟨h.hk,dG h.pe hs.pa hst,aEV h.ev hs.ev⟩
theorem dY(hk:X.K=K:=by rfl):XB K X [] oK aM:=⟨hk,jM,aHC⟩
theorem aY(h:XN K X e t f)(hs:XB K X es tA fs)(hst:AB (e::es) X.env=(NG,AO e X.env)::AB es X.env:=by rfl):XB K X (e::es) (gF t tA) (aB f fs):=⟨h.hk,dG h.pe hs.pa hst,aEW h.ev hs.ev⟩
theorem tH(h:XB K X es tA fs):XN K X (.List es pos) (aBG tA) (kJ fs):=⟨h.hk,aBI h.pa,aHD h.ev⟩
theorem jN(h:XA K X es tA fs):XR K X (.List es pos) (aBG tA) (kJ fs):=⟨h.hk,aBI h.pa,aHF h.ev⟩
theorem lC{x1:Nat}(h:XB K X es tA fs):XN K X (.Tuple es x1 pos) (aEo tA) (pP fs):=⟨h.hk,aBH h.pa,aHE h.ev⟩
theorem aEY:Wk K gj (fC (.dk [] [])):=λσ H e d Q re q k=>by cases q;intro p hp;refine k _ _ (dI hp _) ⟨(·=p),?_,λa q=>by cases q;exact hp⟩;unfold Ow;exact⟨p,[],nil,U,cM,U,λz=>z,λx=>⟨.inl,λz=>z.elim id False.elim⟩,by unfold eQ;exact⟨λ_ z=>z,U⟩⟩
theorem rO(hk:X.K=K:=by rfl):XN K X (.Dict [] [] pos) gj (fC (.dk [] [])):=⟨hk,aBU,aEY⟩
def Hh(f g:FT):FT:=λe=>(f e).bind λc=>if c=NF then g e else NC NG
def fOr(f g:FT):FT:=λe=>(f e).bind λc=>if c=NF then NC NF else g e
def xY(f:FT):FT:=λe=>(f e).map λc=>!c
theorem aHG(h1:iu K tc fc)(h2:iu K td fd):iu K (aGV tc td) (Hh fc fd):=λσ H e b Q re q k=>by
 unfold Hh at q;obtain⟨c,q1,q2⟩:=bA q;refine h1 σ H e c _ re q1 λH1 s1=>?_;cases c with
 | true=>rw[if_pos rfl]at q2 ⊢;exact h2 σ H1 e b Q (re.same s1) q2 λH2 s2=>k H2 (s1.trans s2)
 | false=>rw[if_neg (by decide)]at q2 ⊢;cases q2;exact k H1 s1
theorem aJn(h1:iu K tc fc)(h2:iu K td fd):iu K (tOr tc td) (fOr fc fd):=λσ H e b Q re q k=>by
 unfold fOr at q;obtain⟨c,q1,q2⟩:=bA q;refine h1 σ H e c _ re q1 λH1 s1=>?_;cases c with
 | false=>rw[if_neg (by decide)]at q2 ⊢;exact h2 σ H1 e b Q (re.same s1) q2 λH2 s2=>k H2 (s1.trans s2)
 | true=>rw[if_pos rfl]at q2 ⊢;cases q2;exact k H1 s1
theorem aHH(h1:iu K tc fc):iu K (aEd tc) (xY fc):=λσ H e b Q re q k=>by unfold xY at q;obtain⟨c,q1,rfl⟩:=lY q;exact h1 σ H e c _ re q1 k
theorem XW.xt(h:XW K X e tc fc):XT K X e tc fc:=⟨h.hk,h.pw.pt,h.ev⟩
theorem Jr(h:XT K X a tc fc):XW K X (.BoolOp .And [a] pos) tc fc:=⟨h.hk,aEe h.pt,h.ev⟩
theorem GZ(h:XT K X a tc fc):XW K X (.BoolOp .Or [a] pos) tc fc:=⟨h.hk,aGW h.pt,h.ev⟩
theorem Tu(h:XT K X a tc fc)(h2:XW K X (.BoolOp .And (b::rest) pos) td fd):XW K X (.BoolOp .And (a::b::rest) pos) (aGV tc td) (Hh fc fd):=⟨h.hk,aGX h.pt h2.pw,aHG h.ev h2.ev⟩
theorem Tv(h:XT K X a tc fc)(h2:XW K X (.BoolOp .Or (b::rest) pos) td fd):XW K X (.BoolOp .Or (a::b::rest) pos) (tOr tc td) (fOr fc fd):=⟨h.hk,aIS h.pt h2.pw,aJn h.ev h2.ev⟩
theorem oY(h:XT K X a tc fc):XT K X (.UnaryOp .Not a pos) (aEd tc) (xY fc):=⟨h.hk,aBo h.pt,aHH h.ev⟩
def Ax(f g:FE):FE:=λe=>(fB f e).bind λc=>if c=NF then g e else NC (.bl NG)
def Wu(f g:FE):FE:=λe=>(fB f e).bind λc=>if c=NF then NC (.bl NF)else g e
def RB(f:FE):FE:=λe=>(fB f e).map λc=>.bl (!c)
theorem wF{op:BoolOp}(h:XN K X a t f):XN K X (.BoolOp op [a] pos) t f:=⟨h.hk,aGY h.pe,h.ev⟩
theorem Ml(h:XR K X a ta f)(h2:XN K X (.BoolOp .And (b::rest) pos) tb g):XN K X (.BoolOp .And (a::b::rest) pos) (aFZ ta tb) (Ax f g):=⟨h.hk,aGZ h.pe h2.pe,λσ H e d Q re q k=>by
 unfold Ax at q;obtain⟨c,q1,q2⟩:=bA q;refine h.ev σ H H e _ _ (Zn.self K H) re (Jq q1) λv H1 Z1 s1 t1 z1 rv=>?_;unfold Rv at rv;refine⟨c,rv,?_⟩;cases c with
 | true=>rw[if_pos rfl]at q2 ⊢;exact h2.ev σ H1 e d Q (re.same s1) q2 λv H2 s2 n=>k v H2 (s1.trans s2) (n.back s1)
 | false=>rw[if_neg (by decide)]at q2 ⊢;cases q2;exact k _ H1 s1 (.jJ U (by unfold Rv;rfl))⟩
theorem aGk(h:XR K X a ta f)(h2:XN K X (.BoolOp .Or (b::rest) pos) tb g):XN K X (.BoolOp .Or (a::b::rest) pos) (aIT ta tb) (Wu f g):=⟨h.hk,aIU h.pe h2.pe,λσ H e d Q re q k=>by
 unfold Wu at q;obtain⟨c,q1,q2⟩:=bA q;refine h.ev σ H H e _ _ (Zn.self K H) re (Jq q1) λv H1 Z1 s1 t1 z1 rv=>?_;unfold Rv at rv;refine⟨c,rv,?_⟩;cases c with
 | false=>rw[if_neg (by decide)]at q2 ⊢;exact h2.ev σ H1 e d Q (re.same s1) q2 λv H2 s2 n=>k v H2 (s1.trans s2) (n.back s1)
 | true=>rw[if_pos rfl]at q2 ⊢;cases q2;exact k _ H1 s1 (.jJ U (by unfold Rv;rfl))⟩
theorem aHI(h:XR K X a ta f):XN K X (.UnaryOp .Not a pos) (aF0 ta) (RB f):=⟨h.hk,aG0 h.pe,λσ H e d Q re q k=>by
 unfold RB at q;obtain⟨c,q1,rfl⟩:=lY q;refine h.ev σ H H e _ _ (Zn.self K H) re (Jq q1) λv H1 Z1 s1 t1 z1 rv=>?_;unfold Rv at rv;exact⟨c,rv,k _ H1 s1 (.jJ U (by unfold Rv;rfl))⟩⟩
def fIf(c:FT)(f g:FE):FE:=λe=>(c e).bind λb=>if b=NF then f e else g e
theorem aGm(hc:XT K X c tc fc)(ha:XN K X a ta f)(hb:XN K X b tb g):XN K X (.IfExp c a b pos) (tIf tc ta tb) (fIf fc f g):=⟨ha.hk,aBp hc.pt ha.pe hb.pe,λσ H e d Q re q k=>by
 unfold fIf at q;obtain⟨c,q1,q2⟩:=bA q;refine hc.ev σ H e c _ re q1 λH1 s1=>?_;cases c with
 | true=>rw[if_pos rfl]at q2 ⊢;exact ha.ev σ H1 e d Q (re.same s1) q2 λv H2 s2 n=>k v H2 (s1.trans s2) (n.back s1)
 | false=>rw[if_neg (by decide)]at q2 ⊢;exact hb.ev σ H1 e d Q (re.same s1) q2 λv H2 s2 n=>k v H2 (s1.trans s2) (n.back s1)⟩
theorem aHJ(ha:XR K X a ta f):XN K X (.UnaryOp .USub a pos) (tUn (rU λi=>.int (-i)) ta) (λe=>(f e).bind λd=>match d with | .int i=>NC (.int (-i)) | _=>none):=⟨ha.hk,aI2 aHc ha.pe,λσ H e d Q re q k=>by
 obtain⟨c,q1,q2⟩:=bA q;split at q2
 ·rename_i i;cases q2;refine ha.ev σ H H e _ _ (Zn.self K H) re q1 λv H1 Z1 s1 t1 z1 rv=>?_;unfold Rv at rv;exact⟨i,rv,k _ H1 s1 (.jJ U (by unfold Rv;rfl))⟩
 ·cases q2⟩
def fL(φ:List D→Option D)(fs:FA):FE:=λe=>(fs e).bind φ
def Ay(K:aJ)(r:List V→Hp→VK→Prop)(φ:List D→Option D):Prop:=∀(vs:List V)(H:Hp)(ds:List D)(d:D)(Q:VK),fQ K H ds vs→φ ds=NC d →
 (∀v H',aV H H'→Wt K H H' d v→Q v H')→r vs H Q
theorem aGn{r:List V→Hp→VK→Prop}{φ:List D→Option D}(o:Ay K r φ)(h:EvA K tA fs):Wk K (tCB r tA) (fL φ fs):=λσ H e d Q re q k=>by obtain⟨ds,q1,q2⟩:=bA q;exact h σ H H e ds _ (Zn.self K H) re q1 λvs H1 Z1 s1 t1 z1 rs=>o vs H1 ds d Q (z1.sm.uq _ _ rs) q2 λv H2 s2 n=>k v H2 (s1.trans s2) (n.back s1)
theorem fV{r:List V→Hp→VK→Prop}{φ:List D→Option D}{x:Str}{id:String}{p:Pos}(o:Ay K r φ)(hc:oJ X (.builtin id) r)(hg:Gl X x)(hm:X.mg x=none)(hv:AW x=NC (.builtin id))(ha:XA K X (e::es) tA fs)(hn:x ≠ "__name__" := by decide) (hdb:(x==("__debug__" : Str))=NG:=by decide)
  (he:AB (e::es) X.env=(NG,AO e X.env)::AB es X.env:=by rfl) (hpl:(AY pos (AB es X.env)).any (·.1)=NG:=by rfl):XN K X (.Call (.Name x p) (e::es) [] pos) (tCB r tA) (fL φ fs):=⟨ha.hk,QD hc hg hm hv ha.pa hn hdb he hpl,aGn o ha.ev⟩
theorem Bw{r:List V→Hp→VK→Prop}{φ:List D→Option D}{x:Str}{id:String}{p:Pos}(o:Ay K r φ)(hc:oJ X (.type id) r)(hg:Gl X x)(hm:X.mg x=none)(hv:AW x=NC (.type id))(ha:XA K X (e::es) tA fs)(hn:x ≠ "__name__" := by decide) (hdb:(x==("__debug__" : Str))=NG:=by decide)
  (he:AB (e::es) X.env=(NG,AO e X.env)::AB es X.env:=by rfl) (hpl:(AY pos (AB es X.env)).any (·.1)=NG:=by rfl):XN K X (.Call (.Name x p) (e::es) [] pos) (tCB r tA) (fL φ fs):=⟨ha.hk,aAj hc hg hm hv ha.pa hn hdb he hpl,aGn o ha.ev⟩
theorem uT{H:Hp}{d:D}{vs:List V}(h:fQ K H [d] vs):∃v,vs=[v]∧Rv K H d v:=by unfold fQ at h;obtain⟨y,ys,rfl,h1,h2⟩:=h;unfold fQ at h2;subst h2;exact⟨y,U,h1⟩
theorem iy{H:Hp}{d d':D}{vs:List V}(h:fQ K H [d,d'] vs):∃v v',vs=[v,v']∧Rv K H d v∧Rv K H d' v':=by unfold fQ at h;obtain⟨y,ys,rfl,h1,h2⟩:=h;obtain⟨v,rfl,h3⟩:=uT h2;exact⟨y,v,U,h1,h3⟩
def kO:List D→Option D
 | [d]=>(Bf d).map λds=>.int ds.length
 | _=>none
def aJo(K:aJ):List V→Hp→VK→Prop:=λxs H Q=>∃p ys,xs=[.ref p]∧(rJ K H p ys∨yV K H p ys)∧Q (.int ys.length) H
theorem eX:Ay K (aJo K) kO:=λvs H ds d Q rs q k=>by
 unfold kO at q;split at q
 ·rename_i d0;obtain⟨es,q1,rfl⟩:=lY q;obtain⟨v,rfl,r⟩:=uT rs;obtain⟨p,xs,rfl,r2,r3⟩:=Ra q1 r;refine⟨p,xs,U,r2,k _ H (aV.refl _) (.jJ U ?_)⟩;rw[r3.length];unfold Rv;rfl
 ·cases q
theorem eY(hk:X.K=K):oJ X (.builtin "len") (aJo K):=by subst hk;exact DY
def dList:List D→Option D
 | [d]=>(Bf d).bind λds=>if D.fU ds=NF then NC (.lst ds)else none
 | _=>none
def aGo(K:aJ):List V→Hp→VK→Prop:=λxs H Q=>∃p ys,xs=[.ref p]∧(rJ K H p ys∨yV K H p ys)∧∀l,H l=none→Q (.ref l) (upd H l (.lst ys))
theorem zF:Ay K (aGo K) dList:=λvs H ds d Q rs q k=>by
 unfold dList at q;split at q
 ·rename_i d0;obtain⟨es,q1,q2⟩:=bA q;split at q2
  ·rename_i hi;cases q2;obtain⟨v,rfl,r⟩:=uT rs;obtain⟨p,xs,rfl,r2,r3⟩:=Ra q1 r;exact⟨p,xs,U,r2,λl hl=>k _ _ (dI hl _) (wD (aV.refl _) (.fU hi r3) hl)⟩
  ·cases q2
 ·cases q
theorem zG(hk:X.K=K):oJ X (.type "list") (aGo K):=by subst hk;exact EY
def Tw:List D→Option D
 | [.dk ks ds]=>NC (.lst (ks.map kD))
 | _=>none
theorem Yp:∀ks:List Key,D.fU (ks.map kD)=NF
 | []=>by rw[G6];unfold D.fU;rfl
 | k::ks=>by rw[D3];unfold D.fU;rw[Yp ks];cases k<;>(unfold kD D.jJ;rfl)
theorem RC{H:Hp}:∀ks:List Key,fQ K H (ks.map kD) (ks.map kV)
 | []=>by rw[G6,G6];unfold fQ;rfl
 | k::ks=>by rw[D3,D3];unfold fQ;exact⟨_,_,U,by cases k<;>(unfold kD kV Rv;rfl),RC ks⟩
def aHK:List V→Hp→VK→Prop:=λxs H Q=>∃p kvs,xs=[.ref p]∧Rd H p (.dK kvs)∧∀l,H l=none→Q (.ref l) (upd H l (.lst (kvs.map λkv=>kV kv.1)))
theorem aB9{ks:List Key}{xs:List V}(h:ks.length=xs.length):((ks.zip xs).map λkv=>kV kv.1)=ks.map kV:=by
 have:((ks.zip xs).map λkv=>kV kv.1)=((ks.zip xs).map Prod.fst).map kV:=by rw[K7];rfl
 rw[this,j5 (by omega)]
theorem RD:Ay K aHK Tw:=λvs H ds d Q rs q k=>by
 unfold Tw at q;split at q
 ·rename_i ks es;cases q;obtain⟨v,rfl,r⟩:=uT rs;unfold Rv at r;obtain⟨p,xs,rfl,r2,r3,r4⟩:=r;refine⟨p,_,U,r2,λl hl=>?_⟩;rw[aB9 r3];exact k _ _ (dI hl _) (wD (aV.refl _) (.fU (Yp ks) (RC ks)) hl)
 ·cases q
def Mm:List D→Option D
 | [d]=>(Bf d).bind λds=>if D.fU ds=NF then NC (.tup ds)else none
 | _=>none
def aCa(K:aJ):List V→Hp→VK→Prop:=λxs H Q=>∃p ys,xs=[.ref p]∧((rJ K H p ys∧∀l,H l=none→Q (.ref l) (upd H l (.tup ys)))∨(yV K H p ys∧Q (.ref p) H))
theorem RG:Ay K (aCa K) Mm:=λvs H ds d Q rs q k=>by
 unfold Mm at q;split at q
 ·rename_i d0;obtain⟨es,q1,q2⟩:=bA q;split at q2
  ·rename_i hi;cases q2;obtain⟨v,rfl,r⟩:=uT rs;obtain⟨p,xs,rfl,r2,r3⟩:=Ra q1 r;refine⟨p,xs,U,?_⟩;rcases r2 with r2 | r2
   ·exact .inl ⟨r2,λl hl=>k _ _ (dI hl _) (GX (.fU hi r3) hl)⟩
   ·exact .inr ⟨r2,k _ H (aV.refl _) (.jJ (by unfold D.jJ;exact hi) (by unfold Rv;exact⟨p,xs,U,r2,r3⟩))⟩
  ·cases q2
 ·cases q
theorem RJ(hk:X.K=K):oJ X (.type "tuple") (aCa K):=by subst hk;exact Wo
def intsOf:List D→Option (List Int)
 | []=>NC []
 | .int i::ds=>(intsOf ds).map (i::·)
 | _=>none
theorem mC:∀ns:List Int,intsOf (ns.map D.int)=NC ns
 | []=>rfl
 | n::ns=>by rw[D3];unfold intsOf;rw[mC ns];rfl
theorem sJ:∀{ds:List D} {ns:List Int},intsOf ds=NC ns→ds=ns.map D.int
 | [],ns,h=>by unfold intsOf at h;cases h;rfl
 | d::ds,ns,h=>by
  cases d with
  | int i=>unfold intsOf at h;obtain⟨ms,h1,rfl⟩:=lY h;rw[D3,←sJ h1]
  | _=>unfold intsOf at h;cases h
theorem kW{H:Hp}:∀{ns:List Int} {xs:List V},fQ K H (ns.map D.int) xs↔xs=ns.map V.int
 | [],xs=>by rw[G6,G6];unfold fQ;rfl
 | n::ns,xs=>by
  rw[D3,D3];unfold fQ;constructor
  ·rintro⟨y,ys,rfl,h1,h2⟩
   unfold Rv at h1;rw[h1,kW.mp h2]
  ·rintro rfl;exact⟨_,_,U,by unfold Rv;rfl,kW.mpr U⟩
theorem cY:∀ns:List Int,D.fU (ns.map D.int)=NF
 | []=>by rw[G6];unfold D.fU;rfl
 | n::ns=>by rw[D3];unfold D.fU D.jJ;rw[cY ns];rfl
theorem By{H:Hp}{ds:List D}{ns:List Int}{v:V}(h:intsOf ds=NC ns)(r:Rv K H (.lst ds) v):∃p,v=.ref p∧rJ K H p (ns.map V.int):=by rw[sJ h]at r;unfold Rv at r;obtain⟨p,xs,r1,r2,r3⟩:=r;rw[kW.mp r3]at r2;exact⟨p,r1,r2⟩
def sortI(ns:List Int):List Int:=ns.mergeSort λa b=>decide (a≤b)
theorem iV(ns:List Int):rising ns (sortI ns):=⟨List.mergeSort_perm _ _,by
 have h:=List.pairwise_mergeSort (le:=λa b:Int=>decide (a≤b)) (λa b c h1 h2=>decide_eq_true (Int.le_trans (of_decide_eq_true h1) (of_decide_eq_true h2))) (λa b=>by
  rw[k7,decide_eq_true_iff,decide_eq_true_iff];exact Int.le_total a b) ns
 exact h.imp λh=>of_decide_eq_true h⟩
theorem Yq:∀{l m:List Int},l.Pairwise (·≤·)→m.Pairwise (·≤·)→l.Perm m→l=m
  | [],m,_,_,p=>(List.Perm.nil_eq p)
  | a::l,[],_,_,p=>absurd p.symm (by simp)
  | a::l,b::m,h1,h2,p=>by
    obtain⟨h1a,h1b⟩:=I0.mp h1;obtain⟨h2a,h2b⟩:=I0.mp h2;have e:a=b:=by
      have q1:a∈b::m:=p.mem_iff.mp D6;have q2:b∈a::l:=p.mem_iff.mpr D6;rcases D5.mp q1 with q1 | q1
      · exact q1
      · rcases D5.mp q2 with q2 | q2
        · exact q2.symm
        · have:=h1a b q2
          have:=h2a a q1;omega
    subst e;rw[Yq h1b h2b (List.Perm.cons_inv p)]
theorem HD{ns ms:List Int}(h:rising ns ms):ms=sortI ns:=Yq h.2 (iV ns).2 (h.1.trans (iV ns).1.symm)
def Rb:List D→Option D
 | [.lst ds]=>(intsOf ds).bind λns=>if ns.length<64 then NC (.lst ((sortI ns).map D.int))else none
 | _=>none
def uv(K:aJ):List V→Hp→VK→Prop:=λxs H Q=>∃(p:A7)(ns:List Int),xs=[.ref p]∧rJ K H p (ns.map V.int)∧ns.length<64∧∀l ms,H l=none→rising ns ms→Q (.ref l) (upd H l (.lst (ms.map V.int)))
theorem aAv:Ay K (uv K) Rb:=λvs H ds d Q rs q k=>by
 unfold Rb at q;split at q
 ·obtain⟨ns,q1,q2⟩:=bA q;split at q2
  ·rename_i hl;cases q2;obtain⟨v,rfl,r⟩:=uT rs;obtain⟨p,rfl,r2⟩:=By q1 r;refine⟨p,ns,U,r2,hl,λl ms hl hr=>?_⟩;rw[HD hr];exact k _ _ (dI hl _) (wD (aV.refl _) (.fU (cY _) (kW.mpr U)) hl)
  ·cases q2
 ·cases q
theorem aAw(hk:X.K=K):oJ X (.builtin "sorted") (uv K):=by subst hk;exact QS
def Gi:List D→Option (List Bool)
 | []=>NC []
 | .bl i::ds=>(Gi ds).map (i::·)
 | _=>none
theorem RK{H:Hp}:∀{ds:List D} {bs:List Bool} {xs:List V},Gi ds=NC bs→fQ K H ds xs→xs=bs.map V.bl
 | [],bs,xs,h,r=>by unfold Gi at h;cases h;unfold fQ at r;exact r
 | d::ds,bs,xs,h,r=>by
  cases d with
  | bl i=>unfold Gi at h;obtain⟨cs,h1,rfl⟩:=lY h;unfold fQ at r;obtain⟨y,ys,rfl,r1,r2⟩:=r;unfold Rv at r1;rw[r1,RK h1 r2];rfl
  | _=>unfold Gi at h;cases h
theorem Yr{α:Type}(p:α→Bool):∀l:List α,Gi (l.map λx=>D.bl (p x))=NC (l.map p)
 | []=>rfl
 | a::l=>by rw[D3];unfold Gi;rw[Yr p l];rfl
def iz:List D→Option D
 | [.lst ds]=>(Gi ds).map λbs=>.bl (bs.all id)
 | _=>none
def aJp(K:aJ):List V→Hp→VK→Prop:=λxs H Q=>∃(p:A7)(bs:List Bool),xs=[.ref p]∧rJ K H p (bs.map V.bl)∧Q (.bl (bs.all id)) H
theorem aEZ{H:Hp}{ds:List D}{bs:List Bool}{v:V}(h:Gi ds=NC bs)(r:Rv K H (.lst ds) v):∃p,v=.ref p∧rJ K H p (bs.map V.bl):=by unfold Rv at r;obtain⟨p,xs,r1,r2,r3⟩:=r;rw[RK h r3]at r2;exact⟨p,r1,r2⟩
theorem HF:Ay K (aJp K) iz:=λvs H ds d Q rs q k=>by
 unfold iz at q;split at q
 ·obtain⟨bs,q1,rfl⟩:=lY q;obtain⟨v,rfl,r⟩:=uT rs;obtain⟨p,rfl,r2⟩:=aEZ q1 r;exact⟨p,bs,U,r2,k _ H (aV.refl _) (.jJ U (by unfold Rv;rfl))⟩
 ·cases q
theorem HH(hk:X.K=K)(hc:X.calm=NF:=by rfl):oJ X (.builtin "all") (aJp K):=by subst hk;exact aBZ hc
def RL:List D→Option D
 | [.int i,.int j]=>NC (.int (if j > i then j else i))
 | _=>none
def aLu:List D→Option D
 | [.int i,.int j]=>NC (.int (if j<i then j else i))
 | _=>none
theorem aE0:Ay K (λxs H Q=>∃i j,xs=[.int i,.int j]∧Q (.int (if j > i then j else i)) H) RL:=λvs H ds d Q rs q k=>by
 unfold RL at q;split at q
 ·cases q;obtain⟨v,w,rfl,r1,r2⟩:=iy rs;unfold Rv at r1 r2;exact⟨_,_,by rw[r1,r2],k _ H (aV.refl _) (.jJ U (by unfold Rv;rfl))⟩
 ·cases q
def RM:List Int→Int
 | []=>0
 | [a]=>a
 | a::b::l=>let m:=RM (b::l);if m<a then m else a
theorem Hi:∀{ns:List Int},0<ns.length→Qz ns (RM ns)
 | [],h=>absurd h (by simp)
 | [a],_=>⟨E3.mpr U,λb hb=>by rw[E3.mp hb];exact S5 _⟩
 | a::b::l,_=>by
  obtain⟨h1,h2⟩:=Hi (ns:=b::l) (by simp);unfold RM;dsimp only;split
  ·rename_i c;refine⟨C8 _ h1,λx hx=>?_⟩;rcases D5.mp hx with q | q
   ·omega
   ·exact h2 x q
  ·rename_i c;refine⟨D6,λx hx=>?_⟩;rcases D5.mp hx with q | q
   ·omega
   ·have:=h2 x q;omega
theorem Tz{ns:List Int}{m:Int}(h:Qz ns m):m=RM ns:=by obtain⟨h1,h2⟩:=Hi (List.length_pos_of_mem h.1);have:=h.2 _ h1;have:=h2 _ h.1;omega
def uw:List D→Option D
 | [.lst ds]=>(intsOf ds).bind λns=>if 0<ns.length then NC (.int (RM ns))else none
 | _=>none
def aGp(K:aJ):List V→Hp→VK→Prop:=λxs H Q=>∃(p:A7)(ns:List Int),xs=[.ref p]∧rJ K H p (ns.map V.int)∧0<ns.length∧∀m,Qz ns m→Q (.int m) H
theorem aE1:Ay K (aGp K) uw:=λvs H ds d Q rs q k=>by
 unfold uw at q;split at q
 ·obtain⟨ns,q1,q2⟩:=bA q;split at q2
  ·rename_i hl;cases q2;obtain⟨v,rfl,r⟩:=uT rs;obtain⟨p,rfl,r2⟩:=By q1 r;refine⟨p,ns,U,r2,hl,λm hm=>?_⟩;rw[Tz hm];exact k _ H (aV.refl _) (.jJ U (by unfold Rv;rfl))
  ·cases q2
 ·cases q
theorem aE2(hk:X.K=K)(hc:X.calm=NF:=by rfl):oJ X (.builtin "min") (aGp K):=by subst hk;exact aAt hc
end
end L2


namespace L2
open PySem PySem.Spec PyProof.Rows
section
variable{K:aJ}{X:Cx}{e a b c:AD}{es rest:List AD}{t ta tb:TE}{f g:FE}{tA:TA}{fs:FA}{pos:Pos}{tc:TT}{fc fd:FT}{td:TT}
abbrev FO:=DE→Option (Option Int)
def EvO(K:aJ)(t:TO)(f:FO):Prop:=∀(σ:St)(H:Hp)(e:DE)(o:Option Int)(Q:Option Int→Hp→Prop),Fq K H e σ→f e=NC o→(∀H',aV H H'→Q o H')→t σ H Q
structure XO(K:aJ)(X:Cx)(e:Option AD)(t:TO)(f:FO):Prop where
 po:PO X e t
 ev:EvO K t f
def jb:FO:=λ_=>NC none
def tK(f:FE):FO:=λe=>(f e).bind λd=>match d with | .int i=>NC (NC i) | _=>none
theorem aE3:XO K X none uc jb:=⟨aEt,λσ H e o Q re q k=>by cases q;exact k H (aV.refl _)⟩
theorem HJ(h:XR K X e t f):XO K X (NC e) (aF9 t) (tK f):=⟨aEu h.pe,λσ H e o Q re q k=>by
 unfold tK at q;obtain⟨d,q1,q2⟩:=bA q;split at q2
 ·rename_i i;cases q2;refine h.ev σ H H e _ _ (Zn.self K H) re q1 λv H1 Z1 s1 t1 z1 rv=>?_;unfold Rv at rv;exact⟨i,rv,k H1 s1⟩
 ·cases q2⟩
def Fw{α:Type}(xs:List α)(lo hi:Option Int):List α:=(xs.drop (HT.Wm xs.length 0 lo)).take (HT.Wm xs.length xs.length hi-HT.Wm xs.length 0 lo)
theorem fQ.drop{H:Hp}:∀{ds:List D} {xs:List V} (n:Nat),fQ K H ds xs→fQ K H (ds.drop n) (xs.drop n)
 | ds,xs,0,h=>h
 | [],xs,n+1,h=>by unfold fQ at h;subst h;simp;unfold fQ;rfl
 | d::ds,xs,n+1,h=>by unfold fQ at h;obtain⟨y,ys,rfl,_,h2⟩:=h;simpa using fQ.drop n h2
theorem fQ.take{H:Hp}:∀{ds:List D} {xs:List V} (n:Nat),fQ K H ds xs→fQ K H (ds.take n) (xs.take n)
 | ds,xs,0,h=>by simp;unfold fQ;rfl
 | [],xs,n+1,h=>by unfold fQ at h;subst h;simp;unfold fQ;rfl
 | d::ds,xs,n+1,h=>by unfold fQ at h;obtain⟨y,ys,rfl,h1,h2⟩:=h;rw[c8,c8];unfold fQ;exact⟨y,_,U,h1,fQ.take n h2⟩
theorem ux{H:Hp}{ds:List D}{xs:List V}(lo hi:Option Int)(h:fQ K H ds xs):fQ K H (Fw ds lo hi) (fj xs lo hi):=by unfold Fw fj;rw[h.length];exact(h.drop _).take _
def fSl(jJ:Bool)(f:FE)(l h:FO):FE:=λe=>(f e).bind λd=>(l e).bind λlo=>(h e).bind λhi=>match d with
 | .lst ds=>if jJ=NG∨D.fU (Fw ds lo hi)=NF then NC (.lst (Fw ds lo hi))else none
 | _=>none
theorem RN{jJ:Bool}{f:FE}{l h:FO}{e:DE}{d:D}(q:fSl jJ f l h e=NC d):∃ds lo hi,f e=NC (.lst ds)∧l e=NC lo∧h e=NC hi∧(jJ=NG∨D.fU (Fw ds lo hi)=NF)∧d=.lst (Fw ds lo hi):=by
 unfold fSl at q;obtain⟨d0,q1,q⟩:=bA q;obtain⟨lo,q2,q⟩:=bA q;obtain⟨hi,q3,q⟩:=bA q;split at q
 ·split at q
  ·rename_i c;cases q;exact⟨_,lo,hi,q1,q2,q3,c,U⟩
  ·cases q
 ·cases q
theorem uy(hk:X.K=K):SlR X (aEy K):=by subst hk;exact aEz
variable{lo hi:Option AD}{tl th:TO}{fl fh:FO}{p2:Pos}
theorem aCb(h:XR K X e t f)(hl:XO K X lo tl fl)(hu:XO K X hi th fh):XR K X (.Subscript e (.Slice lo hi none p2) pos) (tSl (aEy K) t tl th) (fSl NG f fl fh):=⟨h.hk,QF (uy h.hk) h.pe hl.po hu.po,λσ H Z e d Q z re q k=>by
 obtain⟨ds,lo,hi,q1,q2,q3,_,rfl⟩:=RN q;refine h.ev σ H Z e _ _ z re q1 λv H1 Z1 s1 t1 z1 rv=>hl.ev σ H1 e lo _ (re.same (z.sm.trans s1)) q2 λH2 s2=>hu.ev σ H2 e hi _ (re.same (z.sm.trans (s1.trans s2))) q3 λH3 s3=>?_;have z3:=GQ z1 (s2.trans s3);have t3:aV Z1 (GP Z1 H1 H3):=Mf z1;unfold Rv at rv;obtain⟨p,xs,rfl,r2,r3⟩:=rv;refine⟨p,xs,U,z3.sm.seq (t3.seq r2),λl hl=>?_⟩;obtain⟨a1,a2⟩:=aB5 (o:=.lst (fj xs lo hi)) z3 hl;exact k _ _ _ (s1.trans (s2.trans (s3.trans (dI hl _)))) (t1.trans (t3.trans a1)) a2 (by unfold Rv;exact⟨l,_,U,rJ.of cM,a1.uq _ _ (t3.uq _ _ (ux lo hi r3))⟩)⟩
theorem aCc(h:XR K X e t f)(hl:XO K X lo tl fl)(hu:XO K X hi th fh):XN K X (.Subscript e (.Slice lo hi none p2) pos) (tSl (aEy K) t tl th) (fSl NF f fl fh):=⟨h.hk,QF (uy h.hk) h.pe hl.po hu.po,λσ H e d Q re q k=>by
 obtain⟨ds,lo,hi,q1,q2,q3,qi,rfl⟩:=RN q;refine h.ev σ H H e _ _ (Zn.self K H) re q1 λv H1 Z1 s1 t1 z1 rv=>hl.ev σ H1 e lo _ (re.same s1) q2 λH2 s2=>hu.ev σ H2 e hi _ (re.same (s1.trans s2)) q3 λH3 s3=>?_;have rv3:=(z1.sm.trans (s2.trans s3)).rv _ _ rv;unfold Rv at rv3;obtain⟨p,xs,rfl,r2,r3⟩:=rv3;refine⟨p,xs,U,r2,λl hl=>?_⟩;have HN:=s1.trans (s2.trans s3);exact k _ _ (HN.trans (dI hl _)) (wD HN (.fU (qi.resolve_left (by decide)) (ux lo hi r3)) hl)⟩
def aCd(K:aJ):R2:=λx y H Q=>∃l b xs zs,x=.ref l∧y=.ref b∧rJ K H l xs∧rJ K H b zs∧xs.length+zs.length≤sizeLine∧∀p,H p=none→Q (.ref p) (upd H p (.lst (xs++zs)))
theorem aE4(hk:X.K=K):xR X (BS .Add) (aCd K):=by
 subst hk;intro pins s σ H x y v u Q I rx ry h;obtain⟨l,b,xs,zs,rfl,rfl,h1,h2,hz,q⟩:=h;cases rx;cases ry;obtain⟨its,r,pl,_⟩:=I.list h1;obtain⟨its2,r2,QT,_⟩:=I.list h2;obtain⟨⟨cl,dd,da,sl⟩,ho,hc,n,hd⟩:=pl.isList;obtain⟨⟨cl2,dd2,da2,sl2⟩,ho2,hc2,n2,hd2⟩:=QT.isList;dsimp only at hc hd hc2 hd2;subst hc hd hc2 hd2;have hlen:its.toArray.size+its2.toArray.size≤sizeLine:=by rw[C6,C6,←r.length,←r2.length];exact hz
 have ea:its.toArray++its2.toArray=(its++its2).toArray:=by simp
 refine FF ⟨_,ho,U⟩ ⟨_,ho2,U⟩ noFill_list_add seq_list_add PySem.F.slot_list_add PySem.F.entry_list_add (PySem.F.args_list_add_2 _ _)
  (list_addW l b its.toArray its2.toArray n n2 dd dd2 sl sl2 hlen) ⟨ho,ho2,?_⟩
 rw[ea];exact⟨.ref _,_,I.aJc (t':=s.toks) (r.append r2) (by rw[C7];exact hz),U,q _ I.fresh⟩
def eU(a b:D):Option D:=match a,b with
 | .int i,.int j=>NC (.int (i+j))
 | .lst x,.lst y=>if D.fU (x++y)=NF∧x.length+y.length≤100000 then NC (.lst (x++y))else none
 | _,_=>none
theorem fQ.append{H:Hp}:∀{ds es:List D} {xs ys:List V},fQ K H ds xs→fQ K H es ys→fQ K H (ds++es) (xs++ys)
 | [],es,xs,ys,h,h'=>by unfold fQ at h;subst h;exact h'
 | d::ds,es,xs,ys,h,h'=>by unfold fQ at h;obtain⟨y,yt,rfl,h1,h2⟩:=h;rw[N7,N7];unfold fQ;exact⟨y,_,U,h1,fQ.append h2 h'⟩
theorem aE5:OD K (λx y H Q=>rI0 (λi j=>.int (i+j)) x y H Q∨aCd K x y H Q) eU:=λx y H a b d Q ra rb q k=>by
 unfold eU at q;split at q
 ·cases q;unfold Rv at ra rb;exact .inl ⟨_,_,ra,rb,k _ H (aV.refl _) (.jJ U (by unfold Rv;rfl))⟩
 ·split at q
  ·rename_i c;cases q;unfold Rv at ra rb;obtain⟨p,xs,rfl,r2,r3⟩:=ra;obtain⟨p',xs',rfl,r2',r3'⟩:=rb;refine .inr ⟨p,p',xs,xs',U,U,r2,r2',Yn (by rw[r3.length,r3'.length];exact c.2),λl hl=>?_⟩;exact k _ _ (dI hl _) (wD (aV.refl _) (.fU c.1 (r3.append r3')) hl)
  ·cases q
 ·cases q
theorem cG(ha:XR K X a ta f)(hb:XR K X b tb g):XN K X (.BinOp a .Add b pos) (Xx (λx y H Q=>rI0 (λi j=>.int (i+j)) x y H Q∨aCd K x y H Q) ta tb) (f2 eU f g):=Tp (aG7.or (aE4 ha.hk)) aE5 ha hb
def EvI(K:aJ)(wi:TI)(fi:FA):Prop:=∀{N:Fp}(σ:St)(H Z:Hp)(e:DE)(ds:List D)(R:It→Hp→Prop),Zn K N Z H→Fq K Z e σ→fi e=NC ds →
 (∀J H' Z' P vs,aV H H'→aV Z Z'→Zn K N Z' H'→JIs J P vs→(∀H2,aV Z' H2→P H2)→fQ K Z' ds vs→R J H')→wi σ H R
structure XI(K:aJ)(X:Cx)(tg iter:AD)(wi:TI)(fi:FA):Prop where
 hk:X.K=K
 pi:PI X tg iter wi
 ev:EvI K wi fi
def mW(f:FE):FA:=λe=>(f e).bind Bf
def aHL(K:aJ)(t:TE):TI:=λσ H R=>aF5 K t σ H R∨aIZ K t σ H R
theorem mX{tg:AD}(h:XR K X e t f):XI K X tg e (aHL K t) (mW f):=⟨h.hk,by
 have hk:=h.hk;subst hk;exact λpins s σ H R I q=>q.elim (rn h.pe pins s σ H R I) (aBw h.pe pins s σ H R I),λσ H Z e ds R z re q k=>by
 unfold mW at q;obtain⟨d,q1,q2⟩:=bA q;cases d with
 | lst es=>
  unfold Bf at q2;cases q2;refine .inl (h.ev σ H Z e _ _ z re q1 λv H1 Z1 s1 t1 z1 rv=>?_);unfold Rv at rv;obtain⟨p,xs,rfl,r2,r3⟩:=rv;exact⟨p,U,⟨xs,z1.sm.seq r2⟩,k _ H1 Z1 _ xs s1 t1 z1 QR (λH2 s=>s.seq r2) r3⟩
 | tup es=>
  unfold Bf at q2;cases q2;refine .inr (h.ev σ H Z e _ _ z re q1 λv H1 Z1 s1 t1 z1 rv=>?_);unfold Rv at rv;obtain⟨p,xs,rfl,r2,r3⟩:=rv;exact⟨p,U,⟨xs,z1.sm.tup r2⟩,k _ H1 Z1 _ xs s1 t1 z1 aEP (λH2 s=>s.tup r2) r3⟩
 | _=>unfold Bf at q2;cases q2⟩
def jO(lo:Int)(n:Nat):List D:=(D4 n).map λi:Nat=>D.int (lo+(i:Int))
theorem Ef{H:Hp}(lo:Int)(n:Nat):fQ K H (jO lo n) ((D4 n).map λi:Nat=>V.int (lo+(i:Int))):=by
 unfold jO;refine fQ.of (by simp) λi d x h1 h2=>?_;rw[B9]at h1 h2;cases q:(D4 n)[i]? with
 | none=>rw[q]at h1;cases h1
 | some j=>rw[q]at h1 h2;cases h1;cases h2;unfold Rv;rfl
def lim(i:Int):Bool:=decide (-100000≤i∧i≤100000)
def sO(fs:FA):FA:=λe=>(fs e).bind λds=>match ds with
 | [.int n]=>if lim n=NF then NC (jO 0 n.toNat)else none
 | _=>none
def Gj(fs:FA):FA:=λe=>(fs e).bind λds=>match ds with
 | [.int i,.int j]=>if lim i=NF∧lim j=NF then NC (jO i (j-i).toNat)else none
 | _=>none
theorem Mq{i:Int}(h:lim i=NF):-100000≤i∧i≤100000:=of_decide_eq_true h
theorem Eg{tg:AD}{p:Pos}(hg:Gl X "range") (hm:X.mg "range" = none) (ha:XA K X [a] tA fs) (hs:AB [a] X.env=[(NG,AO a X.env)]:=by rfl):XI K X tg (.Call (.Name "range" p) [a] [] pos) (aBx tA) (sO fs):=⟨ha.hk,Xw hg hm ha.pa hs,λσ H Z e ds R z re q k=>by
 unfold sO at q;obtain⟨es,q1,q2⟩:=bA q;split at q2
 ·rename_i n;split at q2
  ·rename_i hl;cases q2;have hl:=Mq hl;refine ha.ev σ H Z e _ _ z re q1 λvs H1 Z1 s1 t1 z1 rs=>?_;obtain⟨v,rfl,r⟩:=uT rs;unfold Rv at r;subst r;exact⟨n,U,by omega,by omega,k _ H1 Z1 _ _ s1 t1 z1 Ea (λ_ _=>True.intro) (Ef 0 n.toNat)⟩
  ·cases q2
 ·cases q2⟩
def tW(e:DE)(fr:List Nat):DE:=fr.map λi=>(e[i]?).getD none
theorem aE6{H:Hp}{e:DE}{σ:St}{fr:List Nat}{d:D}{x:V}(re:Fq K H e σ)(r:Rv K H d x):Fq K H (NC d::tW e fr) (NC x::gq σ fr):=λi d' h=>by
 cases i with
 | zero=>simp at h;subst h;exact⟨x,rfl,r⟩
 | succ i=>
  rw[List.getElem?_cons_succ]at h ⊢;unfold tW at h;unfold gq;rw[B9]at h ⊢;cases q:fr[i]? with
  | none=>rw[q]at h;cases h
  | some j=>
   rw[q]at h;have h:(e[j]?).getD none=NC d':=F5 h;have h2:e[j]?=NC (NC d'):=by
    cases q2:e[j]? with
    | none=>rw[q2]at h;cases h
    | some o=>rw[q2]at h;rw[show o=NC d' from h]
   obtain⟨v,h3,h4⟩:=re j d' h2;refine⟨v,?_,h4⟩;show NC (σ.getD j none)=_;rw[B8,h3];rfl
def pR(c:D→Option Bool)(el:D→Option D):List D→Option (List D)
 | []=>NC []
 | x::xs=>(c x).bind λb=>if b=NF then(el x).bind λy=>(pR c el xs).map (y::·)else pR c el xs
def gU(fi:FA)(fr:List Nat)(fc:FT)(fe:FE):FE:=λe=>(fi e).bind λxs=>if xs.length≤100000 then(pR (λx=>fc (NC x::tW e fr)) (λx=>fe (NC x::tW e fr)) xs).map D.lst else none
theorem uU{H:Hp}{p:A7}{o:HO}(n:Aw H p):Gz K H (upd H p o):=λa xs h=>h.upd n
theorem uz{wi:TI}{fi:FA}{fr:List Nat}{te:TE}{fe:FE}(hi:EvI K wi fi)(hc:iu K tc fc)(he:Wk K te fe):Wk K (QM wi 1 fr (lW 0) tc te) (gU fi fr fc fe):=by
 intro σ H e d Q re q k;unfold gU at q;obtain⟨xs,q1,q⟩:=bA q;split at q
 ·rename_i hlen;obtain⟨ds,q2,rfl⟩:=lY q;refine hi σ H H e xs _ (Zn.self K H) re q1 λJ H1 Z1 P vs s1 t1 z1 hJ hP rvs=>?_;intro D0 hD;have hl:=rvs.length;have hHD:H D0=none:=s1.free hD;generalize hcc:(λx=>fc (NC x::tW e fr))=cc at q2;generalize hel:(λx=>fe (NC x::tW e fr))=el at q2;refine⟨λi m ys H2=>∃ds1 ds2 A,m=vs.length-i∧i≤vs.length∧ds=ds1++ds2∧pR cc el (xs.drop i)=NC ds2∧aV H1 H2∧H2 D0=NC (.lst ys)∧eQ K H2 ds1 A ys∧(∀a,A a→H1 a=none∧a≠D0)∧ys.length≤i,
   ⟨vs.length,[],ds,nil,by simp,M0 _,U,by simpa using q2,dI hD _,cM,by unfold eQ;exact⟨λ_ z=>z,U⟩,λ_ z=>z.elim,C5 _⟩,?_⟩
  rintro i m ys H2 ⟨ds1,ds2,A,rfl,hi',hds,hcl,s2,hD2,ow,fr2,hyl⟩;obtain⟨j1,j2,j3⟩:=hJ i H2 (hP H2 (z1.sm.trans s2));refine⟨hD2,?_⟩;by_cases hlt:i<vs.length
  ·refine .inr ⟨j1 hlt,λx H' y=>?_⟩;obtain⟨e1,ex⟩:=j2 x H' y;subst e1;have hx:=ex hlt;have hxi:i<xs.length:=by omega
   have hxs:xs.drop i=xs[i]::xs.drop (i+1):=O2 hxi;obtain⟨x',hx',rx⟩:=rvs.get (B7 hxi);rw[hx]at hx';cases hx';rw[hxs]at hcl;unfold pR at hcl;obtain⟨bb,c1,c2⟩:=bA hcl;show Kp 1 σ fr (NC x::gq σ fr)∧_;refine⟨⟨by simp[blk],λj v hv=>?_⟩,?_⟩
   ·cases j with
    | zero=>simp[blk]at hv
    | succ j=>simpa[blk]using hv
   have re2:Fq K H' (NC xs[i]::tW e fr) (NC x::gq σ fr):=aE6 (re.same (s1.trans s2)) ((z1.sm.trans s2).rv _ _ rx);refine hc _ H' _ bb _ re2 (by rw[←hcc]at c1;exact c1) λH3 s3=>?_;have hD3:=s3 _ _ hD2;cases bb with
   | false=>rw[if_neg (by decide)]at c2 ⊢;exact⟨vs.length-(i+1),by omega,ds1,ds2,A,U,by omega,hds,c2,s2.trans s3,hD3,ow.same s3,fr2,by omega⟩
   | true=>
    rw[if_pos rfl]at c2 ⊢;obtain⟨dy,c3,c4⟩:=bA c2;obtain⟨ds3,c5,rfl⟩:=lY c4;refine he _ H3 _ dy _ (re2.same s3) (by rw[←hel]at c3;exact c3) λyv H4 s4 n4=>?_;have hD4:=s4 _ _ hD3;refine⟨hD4,Yo (by omega),vs.length-(i+1),by omega,ds1++[dy],ds3,?_⟩;obtain⟨B,oB,fB⟩:=n4;have hB:∀a,B a→H1 a=none∧a≠D0:=λa qa=>⟨(s2.trans s3).free (fB a qa),λz=>by have q0:=fB a qa;rw[z,hD3]at q0;cases q0⟩
    refine⟨gB A B,U,by omega,by rw[hds];simp,c5,λb o eb=>?_,cM,?_,λa qa=>qa.elim (fr2 a) (hB a),by rw[C7];simp;exact hyl⟩
    ·rw[bN (gK eb hD)];exact(s2.trans (s3.trans s4)) b o eb
    ·have o4:=(ow.same s3).same s4;have ap:Apart A B:=λa qa qb=>by obtain⟨⟨u,eu⟩,_⟩:=eQ.cells _ _ _ (ow.same s3) a qa;rw[fB a qb]at eu;cases eu
     have all:eQ K H4 (ds1++[dy]) (gB A B) (ys++[yv]):=cZ.mpr ((cZ.mp o4).snoc oB ap);exact eQ.frame (uU (xW hD4)) _ _ _ all λa qa=>bN (qa.elim (λz=>(fr2 a z).2) λz=>(hB a z).2)
  ·have ei:i=vs.length:=by omega
   subst ei;have:xs.drop vs.length=[]:=List.drop_eq_nil_of_le (by omega);rw[this]at hcl;unfold pR at hcl;cases hcl;rw[F3]at hds;subst hds;refine .inl ⟨j3 (C5 _),k _ H2 (s1.trans s2) ⟨gB (·=D0) A,?_,λa qa=>qa.elim (λz=>by cases z;exact hHD) λz=>s1.free (fr2 a z).1⟩⟩;unfold Ow;exact⟨D0,ys,A,U,hD2,λz=>(fr2 D0 z).2 U,λ_=>Iff.rfl,ow⟩
 ·cases q
def lG:FT:=λ_=>NC NF
structure XTs(K:aJ)(X:Cx)(ifs:List AD)(t:TT)(f:FT):Prop where
 pts:PTs X ifs t
 ev:iu K t f
theorem nJ:XTs K X [] aJg lG:=⟨aEJ,λσ H e b Q re q k=>by cases q;exact k H (aV.refl _)⟩
theorem Eh(h:XT K X c tc fc):XTs K X [c] tc fc:=⟨aEK h.pt,h.ev⟩
theorem mD{tg elt iter:AD}{ifs:List AD}{scope:BF}{wi:TI}{fi:FA}{te:TE}{fe:FE}(N:List Str)(fr:List Nat)(hcalm:X.calm=NF)(B:mG X.env.scope scope X.N N 1 fr)(hi:XI K X tg iter wi fi)
  (hg:∀cl fp s H C,PG (mK X scope N cl fp s H C) tg (lW 0)) (hc:∀cl fp s H C,XTs K (mK X scope N cl fp s H C) ifs tc fc) (he:∀cl fp s H C,XN K (mK X scope N cl fp s H C) elt te fe)
  (hs:∀x,BC iter X.env x=pure x:=by intro _;rfl):XN K X (.ListComp elt [⟨tg,iter,ifs,0⟩] scope pos) (QM wi 1 fr (lW 0) tc te) (gU fi fr fc fe):=
 ⟨hi.hk,aEN N 1 fr hcalm B hi.pi hg (λcl fp s H C=>(hc cl fp s H C).pts) (λcl fp s H C=>(he cl fp s H C).pe) hs,
  uz hi.ev (hc [] [] X.s₀ X.H₀ 0).ev (he [] [] X.s₀ X.H₀ 0).ev⟩
def gW(K:aJ)(n:Nat)(F:List D→Option D):Sp:=λvs H Q _=>∃ds d,ds.length=n∧fQ K H ds vs∧F ds=NC d∧∀v H',aV H H'→Wt K H H' d v→Q v H'
def cN(n:Nat)(F:List D→Option D)(fs:FA):FE:=λe=>(fs e).bind λds=>if ds.length=n then F ds else none
theorem bZ{x:Str}{k n:Nat}{F:List D→Option D}{p:Pos}(C:lN X.prog X.w X.K X.mg X.base x k n (gW K n F))(hr:lA k X.A)(hg:Gl X x)(ha:XA K X (e::es) tA fs)(hdb:(x==("__debug__" : Str))=NG:=by decide)
  (he:AB (e::es) X.env=(NG,AO e X.env)::AB es X.env:=by rfl) (hpl:(AY pos (AB es X.env)).any (·.1)=NG:=by rfl):XN K X (.Call (.Name x p) (e::es) [] pos) (Sd (gW K n F) [] E0 tA) (cN n F fs):=
 ⟨ha.hk,il C hr hg ha.pa hdb he hpl,λσ H e d Q re q k=>by
  unfold cN at q;obtain⟨ds,q1,q2⟩:=bA q;split at q2
  ·rename_i hl;refine call_of (ha.ev σ H H e ds _ (Zn.self K H) re q1 λvs H1 Z1 s1 t1 z1 rs=>?_);exact⟨ds,d,hl,z1.sm.uq _ _ rs,q2,λv H2 s2 n=>k v H2 (s1.trans s2) (n.back s1)⟩
  ·cases q2⟩
end
end L2


namespace L2
open PySem PySem.Spec PyProof.Rows
inductive SD where
  | no | fro (d:D) | own (d:D) | inn (v:V) (d:D)
def SD.z:SD→Option D
 | .fro d=>NC d
 | .own d=>if d.jJ=NF then NC d else none
 | .inn _ d=>if d.jJ=NF then NC d else none
 | .no=>none
def SD.r:SD→Option D
 | .fro d=>NC d
 | .own d=>NC d
 | .inn _ d=>NC d
 | .no=>none
abbrev EN:=List SD
def zE(env:EN):DE:=env.map SD.z
def rE(env:EN):DE:=env.map SD.r
def gG(K:aJ)(H Z:Hp):SD→Fp→Option V→Prop
 | .no,A,_=>None A
 | .fro d,A,y=>None A∧∃v,y=NC v∧Rv K Z d v
 | .own d,A,y=>∃v,y=NC v∧Ow K H d A v
 | .inn v d,A,y=>y=NC v∧Ow K H d A v
def Rel(K:aJ)(B:Hp)(env:EN)(σ:St)(H:Hp):Prop:=∃A,eO (gG K H (out H A)) env A σ∧aV B (out H A)
section
variable{K:aJ}{B B' H H' Z Z':Hp}{env:EN}{σ:St}{A:Fp}
theorem eO.all{α β:Type}{R:α→Fp→β→Prop}{Pr:A7→Prop}:∀{ds:List α} {A:Fp} {ys:List β},eO R ds A ys→(∀d B y,R d B y→∀a,B a→Pr a)→∀a,A a→Pr a
 | [],A,ys,h,_,a,q=>absurd q (h.1 a)
 | d::ds,A,ys,⟨y,yt,A1,A2,h1,h2,h3,h4,h5⟩,m,a,q=>((h3 a).mp q).elim (m _ _ _ h4 a) (eO.all h5 m a)
theorem gG.cells{s:SD}{y:Option V}(h:gG K H Z s A y):∀a,A a→nZ H a:=by
 cases s with
 | no=>exact λa q=>absurd q (h a)
 | fro d=>exact λa q=>absurd q (h.1 a)
 | own d=>obtain⟨v,_,o⟩:=h;exact Ow.cells d A v o
 | inn v d=>exact Ow.cells d A v h.2
theorem lO(h:eO (gG K H Z) env A σ):∀a,A a→nZ H a:=eO.all h λ_ _ _ q=>q.cells
theorem Rel.len(h:Rel K B env σ H):σ.length=env.length:=let ⟨_,s,_⟩:=h;s.len
theorem Rel.mono(h:Rel K B' env σ H)(s:aV B B'):Rel K B env σ H:=let ⟨A,a,b⟩:=h;⟨A,a,s.trans b⟩
theorem cH{A A':Fp}(s:aV H H')(h:∀a,A' a→A a∨H a=none):aV (out H A) (out H' A'):=λb o e=>by
 obtain⟨e1,e2⟩:=bG.mp e;refine bG.mpr ⟨λq=>?_,s b o e2⟩;rcases h b q with q | q
 ·exact e1 q
 ·rw[q]at e2;cases e2
theorem gG.same{s:SD}{y:Option V}(h:gG K H Z s A y)(e:aV H H')(z:aV Z Z'):gG K H' Z' s A y:=by
 cases s with
 | no=>exact h
 | fro d=>obtain⟨h1,v,h2,h3⟩:=h;exact⟨h1,v,h2,z.rv _ _ h3⟩
 | own d=>obtain⟨v,h1,h2⟩:=h;exact⟨v,h1,h2.same e⟩
 | inn v d=>exact⟨h.1,h.2.same e⟩
theorem Rel.same(h:Rel K B env σ H)(s:aV H H'):Rel K B env σ H':=by obtain⟨A,a,b⟩:=h;have g:aV (out H A) (out H' A):=cH s λa q=>.inl q;exact⟨A,a.mono λe C z _ q=>q.same s g,b.trans g⟩
theorem HQ(h:eO (gG K H (out H A)) env A σ):Zn K A (out H A) H:=⟨mU H A,Tg λa q=>(lO h a q).2,λa q=>⟨by
 unfold out;rw[if_pos q],λz=>by obtain⟨⟨o,e⟩,_⟩:=lO h a q;rw[z]at e;cases e⟩⟩
theorem Rel.r(h:Rel K B env σ H):Fq K H (rE env) σ:=λi d q=>by
 obtain⟨A,a,b⟩:=h;unfold rE at q;rw[B9]at q;cases e:env[i]? with
 | none=>rw[e]at q;cases q
 | some s=>
  rw[e]at q;obtain⟨y,A1,C,h1,h2,h3,h4,_⟩:=a.focus e;cases s with
  | no=>cases q
  | fro d0=>cases q;obtain⟨_,v,rfl,h5⟩:=h4;exact⟨v,h1,(mU H A).rv _ _ h5⟩
  | own d0=>cases q;obtain⟨v,rfl,h5⟩:=h4;exact⟨v,h1,Ow.rv _ _ _ h5⟩
  | inn v d0=>cases q;obtain⟨rfl,h5⟩:=h4;exact⟨v,h1,Ow.rv _ _ _ h5⟩
theorem aJq(a:eO (gG K H (out H A)) env A σ):Fq K (out H A) (zE env) σ:=λi d q=>by
 unfold zE at q;rw[B9]at q;cases e:env[i]? with
 | none=>rw[e]at q;cases q
 | some s=>
  rw[e]at q;obtain⟨y,A1,C,h1,h2,h3,h4,_⟩:=a.focus e;cases s with
  | no=>cases q
  | fro d0=>cases q;obtain⟨_,v,rfl,h5⟩:=h4;exact⟨v,h1,h5⟩
  | own d0=>
   obtain⟨v,rfl,h5⟩:=h4;have q:(if d0.jJ=NF then NC d0 else none)=NC d:=F5 q;split at q
   ·rename_i im;cases q;exact⟨v,h1,(Bu _ v im (Ow.rv _ _ _ h5)).out (λ_ z=>z.elim) λx hx=>(lO a x hx).2⟩
   ·cases q
  | inn v d0=>
   obtain⟨rfl,h5⟩:=h4;have q:(if d0.jJ=NF then NC d0 else none)=NC d:=F5 q;split at q
   ·rename_i im;cases q;exact⟨v,h1,(Bu _ v im (Ow.rv _ _ _ h5)).out (λ_ z=>z.elim) λx hx=>(lO a x hx).2⟩
   ·cases q
theorem Rel.own{i:Nat}{d:D}{v:V}(h:Rel K B env σ H)(hi:i<env.length)(s:aV H H')(n:Wt K H H' d v):Rel K B (env.set i (.own d)) (σ.set i (NC v)) H':=by obtain⟨A,a,b⟩:=h;obtain⟨N,o,f⟩:=n;have cl:=lO a;obtain⟨y,A1,C,h1,h2,h3,h4,k⟩:=a.focus (B7 hi);have g:aV (out H A) (out H' (gB N C)):=cH s λx q=>q.elim (λq=>.inr (f x q)) λq=>.inl ((h3 x).mpr (.inr q));refine⟨gB N C,k (gG K H' (out H' (gB N C))) (λe D z _ q=>q.same s g) (.own d) (NC v) N (λx q c=>?_) ⟨v,U,o⟩,b.trans g⟩;obtain⟨⟨u,e⟩,_⟩:=cl x ((h3 x).mpr (.inr c));rw[f x q]at e;cases e
theorem HR{i:Nat}{d:D}{v:V}(a:eO (gG K H (out H A)) env A σ)(b:aV B (out H A))(hi:i<env.length)(s:aV H H')(t:aV (out H A) Z')(z:Zn K A Z' H')(r:Rv K Z' d v):Rel K B (env.set i (.fro d)) (σ.set i (NC v)) H':=by obtain⟨y,A1,C,h1,h2,h3,h4,k⟩:=a.focus (B7 hi);have hC:∀x,gB nil C x→A x:=λx q=>q.elim False.elim λq=>(h3 x).mpr (.inr q);have g:aV (out H A) (out H' (gB nil C)):=cH s λx q=>.inl (hC x q);have g2:aV Z' (out H' (gB nil C)):=λx o e=>bG.mpr ⟨λq=>(by rw[(z.no x (hC x q)).1]at e;cases e),z.sm x o e⟩;exact⟨gB nil C,k (gG K H' (out H' (gB nil C))) (λe D z _ q=>q.same s g) (.fro d) (NC v) nil (λx q c=>q) ⟨λ_ z=>z,v,U,g2.rv _ _ r⟩,b.trans g⟩
def aCe(env:EN)(j:Nat):EN:=match env[j]? with
 | some (.own d)=>env.set j (.fro d)
 | _=>env
def Jg(js:List Nat)(env:EN):EN:=js.foldl aCe env
theorem set_same{α:Type}{l:List α}{i:Nat}{x:α}(h:l[i]?=NC x):l.set i x=l:=by
 apply K1;intro j;rw[F7];by_cases c:i=j
 ·subst c;rw[if_pos U,h];split
  ·rfl
  ·rename_i q;rw[E2 (by omega)]at h;cases h
 ·rw[if_neg c]
theorem Rel.aCe{j:Nat}(h:Rel K B env σ H):Rel K B (aCe env j) σ H:=by
 unfold L2.aCe;cases e:env[j]? with
 | none=>exact h
 | some s=>
  cases s with
  | no=>exact h
  | fro d=>exact h
  | inn v d=>exact h
  | own d=>
   obtain⟨A,a,b⟩:=h;have cl:=lO a;obtain⟨y,A1,C,h1,h2,h3,h4,k⟩:=a.focus e;obtain⟨v,rfl,o⟩:=h4;have g:aV (out H A) (out H (gB nil C)):=cH (aV.refl _) λx q=>q.elim False.elim λq=>.inl ((h3 x).mpr (.inr q));have:=k (gG K H (out H (gB nil C))) (λe D z _ q=>q.same (aV.refl _) g) (.fro d) (NC v) nil (λx q c=>q)
    ⟨λ_ z=>z,v,U,o.out (λx q c=>h2 x q (c.elim False.elim id)) λx q=>(cl x ((h3 x).mpr (.inr (q.elim False.elim id)))).2⟩
   rw[set_same h1]at this;exact⟨gB nil C,this,b.trans g⟩
theorem Rel.Jg{js:List Nat}(h:Rel K B env σ H):Rel K B (Jg js env) σ H:=by
 unfold L2.Jg
 induction js generalizing env with
 | nil=>exact h
 | cons j js ih=>exact ih h.aCe
end
inductive SR where
  | next (env:EN) | ret (d:D) | brk (env:EN) | cont (env:EN) | bad | rete (d:D) (env:EN)
def Wv(K:aJ)(B:Hp)(E:Ends):SR→Prop
 | .next env=>∀σ H,Rel K B env σ H→E.nx σ H
 | .ret d=>∀v H A,aV B (out H A)→Ow K H d A v→E.rt v H
 | .brk env=>∀σ H,Rel K B env σ H→E.bk σ H
 | .cont env=>∀σ H,Rel K B env σ H→E.ct σ H
 | .bad=>False
 | .rete d env=>∀v σ H,Rel K B (env++[.own d]) (σ++[NC v]) H→E.rt v H
theorem Wv.mono{K:aJ}{B B':Hp}{E:Ends}{r:SR}(h:Wv K B E r)(s:aV B B'):Wv K B' E r:=by
 cases r with
 | next env=>exact λσ H q=>h σ H (q.mono s)
 | ret d=>exact λv H A q=>h v H A (s.trans q)
 | brk env=>exact λσ H q=>h σ H (q.mono s)
 | cont env=>exact λσ H q=>h σ H (q.mono s)
 | bad=>exact h
 | rete d env=>exact λv σ H q=>h v σ H (q.mono s)
abbrev GS:=EN→SR
def DS(K:aJ)(t:TS)(g:GS):Prop:=∀(B:Hp)(E:Ends)(σ:St)(H:Hp)(env:EN),Rel K B env σ H→Wv K B E (g env)→t E σ H
def aJr(K:aJ)(B:Hp)(E:Ends)(σ:St):SR→Prop
 | .next env=>∀H,Rel K B env σ H→E.nx σ H
 | r=>Wv K B E r
def DSs(K:aJ)(t:TS)(g:GS):Prop:=∀(B:Hp)(E:Ends)(σ:St)(H:Hp)(env:EN),Rel K B env σ H→aJr K B E σ (g env)→t E σ H
theorem DSs.ds{K:aJ}{t:TS}{g:GS}(h:DSs K t g):DS K t g:=λB E σ H env r p=>h B E σ H env r (by
 cases q:g env with
 | next e=>rw[q]at p;exact λH' r'=>p σ H' r'
 | ret d=>rw[q]at p;exact p
 | brk e=>rw[q]at p;exact p
 | cont e=>rw[q]at p;exact p
 | bad=>rw[q]at p;exact p
 | rete d e=>rw[q]at p;exact p)
structure YS(K:aJ)(X:Cx)(st:AH)(t:TS)(g:GS):Prop where
 ps:PS X st t
 ev:DS K t g
structure YB(K:aJ)(X:Cx)(st:List AH)(t:TS)(g:GS):Prop where
 ps:bh X st t
 ev:DS K t g
section
variable{K:aJ}{X:Cx}{st:AH}{sts:List AH}{t u:TS}{g g1 g2:GS}{e a b c:AD}{te ta tb:TE}{f fa fb:FE}{tc:TT}{fc:FT}{pos:Pos}
def aW(g1 g2:GS):GS:=λenv=>match g1 env with
 | .next env'=>g2 env'
 | r=>r
theorem aHM(h1:DS K t g1)(h2:DS K u g2):DS K (aG1 t u) (aW g1 g2):=λB E σ H env r p=>by
 unfold aW at p;refine h1 B {E with nx:=u E} σ H env r ?_;cases q:g1 env with
 | next env'=>rw[q]at p;exact λσ' H' r'=>h2 B E σ' H' env' r' p
 | ret d=>rw[q]at p;exact p
 | brk d=>rw[q]at p;exact p
 | cont d=>rw[q]at p;exact p
 | bad=>rw[q]at p;exact p
 | rete d e=>rw[q]at p;exact p
def gH:GS:=λenv=>.next env
theorem fM:YB K X [] aF1 gH:=⟨aEf,λB E σ H env r p=>p σ H r⟩
theorem aU(h:YS K X st t g):YB K X [st] t g:=⟨aEg h.ps,h.ev⟩
theorem aL(h:YS K X st t g1)(h2:YB K X sts u g2):YB K X (st::sts) (aG1 t u) (aW g1 g2):=⟨aBq h.ps h2.ps,aHM h.ev h2.ev⟩
def cU(i:Nat)(f:FE):GS:=λenv=>match f (rE env)with
 | some d=>if i<env.length then .next (env.set i (.own d))else .bad
 | none=>.bad
theorem aCf{i:Nat}(h:Wk K te f):DS K (Bm te (lW i)) (cU i f):=λB E σ H env r p=>by
 unfold cU at p;split at p
 ·rename_i d q;split at p
  ·rename_i hi;exact h σ H (rE env) d _ r.r q λv H' s n=>p _ _ (r.own hi s n)
  ·exact p.elim
 ·exact p.elim
theorem bK{i:Nat}{x:Str}{pos':Pos}(h:XN K X e te f)(hp:PE X e te→PS X (.Assign [.Name x pos'] e pos) (Bm te (lW i))):YS K X (.Assign [.Name x pos'] e pos) (Bm te (lW i)) (cU i f):=⟨hp h.pe,aCf h.ev⟩
def gO(f:FE):GS:=λenv=>match f (rE env)with
 | some d=>.ret d
 | none=>.bad
theorem cA(h:XN K X e te f):YS K X (.Return (NC e) pos) (zy te) (gO f):=⟨Ru h.pe,λB E σ H env r p=>by
 unfold gO at p;split at p
 ·rename_i d q;refine h.ev σ H (rE env) d _ r.r q λv H' s ⟨N,o,fr⟩=>p v H' N (λx u ex=>?_) o;obtain⟨A,a,b⟩:=r;have h1:=(bG.mp (b x u ex)).2;exact bG.mpr ⟨λz=>(by rw[fr x z]at h1;cases h1),s x u h1⟩
 ·exact p.elim⟩
def Oz(i:Nat):GS:=λenv=>match env[i]? with
 | some (.own d)=>.ret d
 | some (.fro d)=>if d.jJ=NF then .ret d else .bad
 | _=>.bad
theorem HS{i:Nat}(h:PE X e (sE i)):YS K X (.Return (NC e) pos) (zy (sE i)) (Oz i):=⟨Ru h,λB E σ H env r p=>by
 unfold Oz at p;obtain⟨A,a,b⟩:=r;split at p
 ·rename_i d q;obtain⟨y,A1,C,h1,h2,h3,h4,_⟩:=a.focus q;obtain⟨v,rfl,o⟩:=h4;exact⟨v,h1,p v H A1 (b.trans (cH (aV.refl _) λx z=>.inl ((h3 x).mpr (.inl z)))) o⟩
 ·rename_i d q;split at p
  ·rename_i im;obtain⟨y,A1,C,h1,h2,h3,h4,_⟩:=a.focus q;obtain⟨_,v,rfl,rv⟩:=h4;exact⟨v,h1,p v H nil (b.trans (cH (aV.refl _) λx z=>z.elim)) (Bu d v im ((mU H A).rv _ _ rv))⟩
  ·exact p.elim
 ·exact p.elim⟩
def xZ(f:FE):GS:=λenv=>match f (rE env)with
 | some _=>.next env
 | none=>.bad
theorem aE7(h:Ls K te f):DS K (oH te) (xZ f):=λB E σ H env r p=>by
 unfold xZ at p;split at p
 ·rename_i d q;exact h σ H H (rE env) d _ (Zn.self K H) r.r q λv H' Z' s t z rv=>p _ _ (r.same s)
 ·exact p.elim
def uV(f:FT)(g1 g2:GS):GS:=λenv=>match f (rE env)with
 | some NF=>g1 env
 | some NG=>g2 env
 | none=>.bad
theorem jK{s1 s2:List AH}(hc:XT K X c tc fc)(h1:YB K X s1 t g1)(h2:YB K X s2 u g2):YS K X (.If c s1 s2 pos) (aG2 tc t u) (uV fc g1 g2):=⟨aF2 hc.pt h1.ps h2.ps,λB E σ H env r p=>by
 unfold uV at p;split at p
 ·rename_i q;refine hc.ev σ H (rE env) NF _ r.r q λH' s=>?_;rw[if_pos rfl];exact h1.ev B E σ H' env (r.same s) p
 ·rename_i q;refine hc.ev σ H (rE env) NG _ r.r q λH' s=>?_;rw[if_neg (by decide)];exact h2.ev B E σ H' env (r.same s) p
 ·exact p.elim⟩
def Mr(i:Nat)(g:GS):List D→EN→SR
 | [],env=>.next env
 | x::xs,env=>if i<env.length then match g (env.set i (.fro x))with
   | .next env'=>Mr i g xs env'
   | .cont env'=>Mr i g xs env'
   | .brk env'=>.next env'
   | r=>r
  else .bad
def Ww(js:List Nat)(i:Nat)(fi:FA)(g:GS):GS:=λenv=>match fi (zE (Jg js env))with
 | some xs=>Mr i g xs (Jg js env)
 | none=>.bad
theorem aHN{js:List Nat}{i:Nat}{wi:TI}{fi:FA}{tb:TS}(hi:EvI K wi fi)(h:DS K tb g):DS K (cu wi (lW i) tb) (Ww js i fi g):=λB E σ H env r p=>by
 unfold Ww at p;have r':Rel K B (Jg js env) σ H:=r.Jg;generalize Jg js env=Qi at r' p;split at p
 ·rename_i xs q;obtain⟨A,a,b⟩:=r';refine hi σ H (out H A) (zE Qi) xs _ (HQ a) (aJq a) q λJ H1 Z1 P vs s t z hJ hP rvs=>?_;have hl:=rvs.length;have g0:aV Z1 (out H1 A):=λx o e=>bG.mpr ⟨λqa=>(by rw[(z.no x qa).1]at e;cases e),z.sm x o e⟩;have aKM:Rel K Z1 Qi σ H1:=⟨A,a.mono λe D y _ qq=>qq.same s (cH s λx q=>.inl q),g0⟩
  have bz:aV B Z1:=b.trans t;have p':=p.mono bz;refine GD hJ (λk σ2 H2=>∃fW,Rel K Z1 fW σ2 H2∧Wv K Z1 E (Mr i g (xs.drop k) fW)) ⟨Qi,aKM,by simpa using p'⟩ (λk σ2 H2 _ ⟨fW,⟨A2,a2,b2⟩,_⟩=>hP H2 (b2.trans (mU H2 A2))) ?_ ?_
  ·rintro k x σ2 H2 hx ⟨fW,r2,p2⟩;have hk:k<xs.length:=by have:=D2.mp hx;obtain⟨h1,_⟩:=this;omega
   rw[O2 hk]at p2;unfold Mr at p2;obtain⟨x',hx',rx⟩:=rvs.get (B7 hk);rw[hx]at hx';cases hx';split at p2
   ·rename_i hlen;obtain⟨A2,a2,b2⟩:=r2;have r3:Rel K Z1 (fW.set i (.fro xs[k])) (σ2.set i (NC x)) H2:=HR a2 b2 hlen (aV.refl _) (aV.refl _) (HQ a2) (b2.rv _ _ rx);refine h Z1 _ _ H2 _ r3 ?_;split at p2
    ·rename_i env' q2;rw[q2];exact λσ' H' r'=>⟨env',r',p2⟩
    ·rename_i env' q2;rw[q2];exact λσ' H' r'=>⟨env',r',p2⟩
    ·rename_i env' q2;rw[q2];exact p2
    ·rename_i n1 n2 n3;cases q2:g (fW.set i (.fro xs[k]))with
     | next e=>exact absurd q2 (n1 e)
     | cont e=>exact absurd q2 (n2 e)
     | brk e=>exact absurd q2 (n3 e)
     | ret d=>rw[q2]at p2;exact p2
     | bad=>rw[q2]at p2;exact p2
     | rete d e=>rw[q2]at p2;exact p2
   ·exact p2.elim
  ·rintro σ2 H2 ⟨fW,r2,p2⟩;rw[hl,T3]at p2;exact p2 σ2 H2 r2
 ·exact p.elim
def qR(c:FT)(g:GS):Nat→EN→SR
 | 0,_=>.bad
 | n+1,env=>match c (rE env)with
  | some NF=>(match g env with
   | .next env'=>qR c g n env'
   | .cont env'=>qR c g n env'
   | .brk env'=>.next env'
   | r=>r)
  | some NG=>.next env
  | none=>.bad
theorem aCg{n:Nat}{tb:TS}(hc:iu K tc fc)(h:DS K tb g):DS K (bx tc tb) (qR fc g n):=λB E σ H env r p=>by
 refine⟨λm σ2 H2=>∃fW,Rel K B fW σ2 H2∧Wv K B E (qR fc g m fW),⟨n,env,r,p⟩,?_⟩;rintro m σ2 H2 ⟨fW,r2,p2⟩;cases m with
 | zero=>exact p2.elim
 | succ m=>
  unfold qR at p2;split at p2
  ·rename_i q;refine hc σ2 H2 (rE fW) NF _ r2.r q λH3 s=>?_;rw[if_pos rfl];refine⟨λσ' H'=>∃env',Rel K B env' σ' H'∧Wv K B E (qR fc g m env'),λσ' H' ⟨env',a1,a2⟩=>⟨m,M7 m,env',a1,a2⟩,?_⟩;refine h B _ σ2 H3 fW (r2.same s) ?_;split at p2
   ·rename_i env' q2;rw[q2];exact λσ' H' r'=>⟨env',r',p2⟩
   ·rename_i env' q2;rw[q2];exact λσ' H' r'=>⟨env',r',p2⟩
   ·rename_i env' q2;rw[q2];exact p2
   ·rename_i n1 n2 n3;cases q2:g fW with
    | next e=>exact absurd q2 (n1 e)
    | cont e=>exact absurd q2 (n2 e)
    | brk e=>exact absurd q2 (n3 e)
    | ret d=>rw[q2]at p2;exact p2
    | bad=>rw[q2]at p2;exact p2
    | rete d e=>rw[q2]at p2;exact p2
  ·rename_i q;refine hc σ2 H2 (rE fW) NG _ r2.r q λH3 s=>?_;rw[if_neg (by decide)];exact p2 σ2 H3 (r2.same s)
  ·exact p2.elim
theorem HW{tg iter:AD}{body:List AH}{wi:TI}{fi:FA}{tb:TS}{i:Nat}(js:List Nat)(hp:EK (AG X.prog X.w) X.A X.env X.xe)(aCh:X.calm=NF)(hi:XI K X tg iter wi fi)(hg:PG X tg (lW i))(hb:YB K X body tb g)
  (hs:∀x,BC iter X.env x=pure x:=by intro _;rfl):YS K X (.For tg iter body [] pos) (cu wi (lW i) tb) (Ww js i fi g):=⟨cz hp aCh hi.pi hg hb.ps hs,aHN hi.ev hb.ev⟩
theorem RP{body:List AH}{tb:TS}(n:Nat)(hp:EK (AG X.prog X.w) X.A X.env X.xe)(hc:XT K X c tc fc)(hb:YB K X body tb g):YS K X (.While c body [] pos) (bx tc tb) (qR fc g n):=⟨aBu hp hc.pt hb.ps,aCg hc.ev hb.ev⟩
end
end L2


namespace L2
open PySem PySem.Spec PyProof.Rows
inductive Step where
  | ix (k:Nat) | key (k:Key) | fld (C:A7) (f:Str)
def kids:D→List D
 | .lst ds=>ds
 | .dk _ ds=>ds
 | .ins _ _ ds=>ds
 | _=>[]
def Js:D→List D→D
 | .lst _,ds=>.lst ds
 | .dk ks _,ds=>.dk ks ds
 | .ins C nm _,ds=>.ins C nm ds
 | d,_=>d
def Fx:Step→D→Option Nat
 | .ix k,.lst ds=>NC k
 | .key k,.dk ks _=>posK ks k
 | .fld C f,.ins C' nm _=>if C'=C then posK nm f else none
 | _,_=>none
def gC:List Step→D→Option D
 | [],d=>NC d
 | s::p,d=>(Fx s d).bind λj=>((kids d)[j]?).bind (gC p)
def fG:List Step→D→D→D
 | [],_,d'=>d'
 | s::p,d,d'=>match Fx s d with
  | some j=>(match (kids d)[j]? with
   | some c=>Js d ((kids d).set j (fG p c d'))
   | none=>d)
  | none=>d
def stepV(H:Hp)(s:Step)(v:V):Option V:=match v with
 | .ref a=>(match s,H a with
  | .ix k,NC (.lst xs)=>xs[k]?
  | .key k,NC (.dK kvs)=>tG kvs k
  | .fld C f,NC (.ins C' _ fs)=>if C'=C then fs.lookup f else none
  | _,_=>none)
 | _=>none
def Qj(H:Hp):List Step→V→Option V
 | [],v=>NC v
 | s::p,v=>(stepV H s v).bind (Qj H p)
theorem jc{H H':Hp}(e:aV H H'){s:Step}{v w:V}(h:stepV H s v=NC w):stepV H' s v=NC w:=by
 cases v with
 | ref a=>
  unfold stepV at h ⊢;dsimp only at h ⊢;cases q:H a with
  | none=>rw[q]at h;cases s<;>cases h
  | some o=>rw[e a o q];rw[q]at h;exact h
 | _=>unfold stepV at h;cases h
theorem Ca{H H':Hp}(e:aV H H'):∀{p:List Step} {v w:V},Qj H p v=NC w→Qj H' p v=NC w
 | [],v,w,h=>h
 | s::p,v,w,h=>by unfold Qj at h ⊢;obtain⟨u,h1,h2⟩:=bA h;rw[jc e h1];exact Ca e h2
theorem Hj{nm:List Str}{xs:List V}{f:Str}(h:nm.length=xs.length):(nm.zip xs).lookup f=(posK nm f).bind λj=>xs[j]?:=by
 induction nm generalizing xs with
 | nil=>unfold posK;rfl
 | cons a nm ih=>
  cases xs with
  | nil=>simp at h
  | cons x xs=>
   have ih:=ih (xs:=xs) (by simpa using h);unfold posK;rw[P2,T1];by_cases c:a=f
   ·subst c;simp
   ·have c2:(f==a)=NG:=by rw[beq_eq_false_iff_ne];exact λz=>c z.symm
    rw[c2,if_neg c,ih];cases posK nm f<;>rfl
theorem Ow.kids{K:aJ}{H:Hp}{d:D}{A:Fp}{v:V}{s:Step}{j:Nat}(h:Ow K H d A v)(q:Fx s d=NC j):∃xs T Bt,(∀x,xs[j]?=NC x→stepV H s v=NC x)∧eQ K H (kids d) Bt xs∧Is A (gB T Bt)∧Apart T Bt ∧
  ∀H' ds' B',ds'.length=(kids d).length→eQ K H' ds' B' xs→(∀a,T a→H' a=H a)→Apart T B'→Ow K H' (Js d ds') (gB T B') v:=by
 cases d with
 | lst ds=>
  unfold Ow at h;obtain⟨a,xs,B,rfl,h2,h3,h4,h5⟩:=h;cases s with
  | ix k=>
   unfold Fx at q;cases q;refine⟨xs,(·=a),B,λx hx=>?_,h5,h4,λx qx qb=>h3 (qx▸qb),λH' ds' B' hl o f ap=>?_⟩
   ·unfold stepV;dsimp only;rw[h2];exact hx
   ·show Ow K H' (.lst ds') _ _;unfold Ow;exact⟨a,xs,B',U,(f a U).trans h2,ap a U,λ_=>Iff.rfl,o⟩
  | _=>unfold Fx at q;cases q
 | dk ks ds=>
  unfold Ow at h;obtain⟨a,xs,B,rfl,h2,h2',h3,h4,h5⟩:=h;cases s with
  | key k=>
   have q:posK ks k=NC j:=q;refine⟨xs,(·=a),B,λx hx=>?_,h5,h4,λx qx qb=>h3 (qx▸qb),λH' ds' B' hl o f ap=>?_⟩
   ·unfold stepV;dsimp only;rw[h2];show tG (ks.zip xs) k=_;rw[sI h2',q];exact hx
   ·show Ow K H' (.dk ks ds') _ _;unfold Ow;exact⟨a,xs,B',U,(f a U).trans h2,h2',ap a U,λ_=>Iff.rfl,o⟩
  | _=>unfold Fx at q;cases q
 | ins C nm ds=>
  unfold Ow at h;obtain⟨a,dx,xs,B,rfl,h2,h2',h3,h3',h3'',h4,h5⟩:=h;cases s with
  | fld C0 k=>
   have q:(if C=C0 then posK nm k else none)=NC j:=q;by_cases hc:C=C0
   rotate_left
   ·rw[if_neg hc]at q;cases q
   rw[if_pos hc]at q;refine⟨xs,(λx=>x=a∨x=dx),B,λx hx=>?_,h5,h4,λx qx qb=>qx.elim (λz=>h3' (z▸qb)) λz=>h3'' (z▸qb),λH' ds' B' hl o f ap=>?_⟩
   ·unfold stepV;dsimp only;rw[h2];show (if C=C0 then(nm.zip xs).lookup k else none)=_;rw[if_pos hc,Hj h3,q];exact hx
   ·show Ow K H' (.ins C nm ds') _ _;unfold Ow;exact⟨a,dx,xs,B',U,(f a (.inl U)).trans h2,(f dx (.inr U)).trans h2',h3,ap a (.inl U),ap dx (.inr U),λ_=>Iff.rfl,o⟩
  | _=>unfold Fx at q;cases q
 | _=>cases s<;>(unfold Fx at q;cases q)
theorem Ow.at{K:aJ}{H:Hp}:∀{p:List Step} {d d1:D} {A:Fp} {v:V},Ow K H d A v→gC p d=NC d1→∃w A1 C,Qj H p v=NC w∧Apart A1 C∧Is A (gB A1 C)∧Ow K H d1 A1 w ∧
    ∀H' d' A',Apart A' C→(∀a,C a→H' a=H a)→Gz K H H'→Ow K H' d' A' w→Ow K H' (fG p d d') (gB A' C) v
  | [],d,d1,A,v,h,q=>by
    unfold gC at q;cases q;exact⟨v,A,nil,U,λ_ _ z=>z,λx=>⟨.inl,λz=>z.elim id False.elim⟩,h,λH' d' A' _ _ _ o=>o.congr λx=>⟨.inl,λz=>z.elim id False.elim⟩⟩
  | s::p,d,d1,A,v,h,q=>by
    unfold gC at q;obtain⟨j,q1,q2⟩:=bA q;obtain⟨c,q3,q4⟩:=bA q2;obtain⟨xs,T,Bt,k1,k2,k3,k4,k5⟩:=h.kids q1;obtain⟨y,B1,C1,f1,f2,f3,f4,f5⟩:=(cZ.mp k2).focus q3;obtain⟨w,A1,C2,g1,g2,g3,g4,g5⟩:=Ow.at f4 q4;refine⟨w,A1,gB T (gB C1 C2),?_,?_,?_,g4,λH' d' A' ap fr tk o=>?_⟩
    · unfold Qj
      rw[k1 y f1];exact g1
    · intro x qx qc
      have b1:B1 x:=(g3 x).mpr (.inl qx);rcases qc with qc | qc | qc
      · exact k4 x qc ((f3 x).mpr (.inl b1))
      · exact f2 x b1 qc
      · exact g2 x qx qc
    · intro x
      rw[k3 x];constructor
      · rintro(z | z)
        · exact .inr (.inl z)
        · rcases(f3 x).mp z with z | z
          · rcases(g3 x).mp z with z | z
            · exact .inl z
            · exact .inr (.inr (.inr z))
          · exact .inr (.inr (.inl z))
      · rintro(z | z | z | z)
        · exact .inr ((f3 x).mpr (.inl ((g3 x).mpr (.inl z))))
        · exact .inl z
        · exact .inr ((f3 x).mpr (.inr z))
        · exact .inr ((f3 x).mpr (.inl ((g3 x).mpr (.inr z))))
    · have o1:Ow K H' (fG p c d') (gB A' C2) y:=g5 H' d' A' (λx a b=>ap x a (.inr (.inr b))) (λa z=>fr a (.inr (.inr z))) tk o
      have ap1:Apart (gB A' C2) C1:=λx a b=>a.elim (λz=>ap x z (.inr (.inl b))) λz=>f2 x ((g3 x).mpr (.inr z)) b;have o2:=f5 (Ow K H') (λe B z hb qq=>Ow.frame tk e B z qq λa za=>fr a (.inr (.inl (hb a za)))) (fG p c d') y (gB A' C2) ap1 o1;rw[set_same f1]at o2;have o3:=k5 H' ((L2.kids d).set j (fG p c d')) _ (by rw[K9]) (cZ.mpr o2) (λa z=>fr a (.inl z)) (λx a b=>by
        rcases b with (b | b) | b
        · exact ap x b (.inl a)
        · exact k4 x a ((f3 x).mpr (.inl ((g3 x).mpr (.inr b))))
        · exact k4 x a ((f3 x).mpr (.inr b)))
      have e:fG (s::p) d d'=Js d ((L2.kids d).set j (fG p c d')):=by show (match Fx s d with | some j=>_ | none=>_)=_;rw[q1];show (match (L2.kids d)[j]? with | some c=>_ | none=>_)=_;rw[q3]
      rw[e];refine o3.congr λx=>?_;show (T x∨(A' x∨C2 x)∨C1 x)↔(A' x∨T x∨C1 x∨C2 x)
      constructor
      · rintro(z | (z | z) | z)
        · exact .inr (.inl z)
        · exact .inl z
        · exact .inr (.inr (.inr z))
        · exact .inr (.inr (.inl z))
      · rintro(z | z | z | z)
        · exact .inr (.inl (.inl z))
        · exact .inl z
        · exact .inr (.inr z)
        · exact .inr (.inl (.inr z))
section
variable{K:aJ}{B H:Hp}{env:EN}{σ:St}
theorem Rel.at{i:Nat}{p:List Step}{d0 d:D}(h:Rel K B env σ H)(e:env[i]?=NC (.own d0))(q:gC p d0=NC d):∃v0 w A1 C,σ[i]?=NC (NC v0)∧Qj H p v0=NC w∧Ow K H d A1 w∧Apart A1 C∧(∀a,C a→nZ H a) ∧
    ∀H' d' A',Apart A' C→(∀a,C a→H' a=H a)→Gz K H H'→Ow K H' d' A' w→aV (out H (gB A1 C)) (out H' (gB A' C))→Rel K B (env.set i (.own (fG p d0 d'))) σ H':=by
  obtain⟨A,a,b⟩:=h;have cl:=lO a;obtain⟨y,A1,C,h1,h2,h3,h4,k⟩:=a.focus e;obtain⟨v0,rfl,o⟩:=h4;obtain⟨w,B1,C1,g1,g2,g3,g4,g5⟩:=o.at q;refine⟨v0,w,B1,gB C1 C,h1,g1,g4,λx z1 z2=>?_,λx z=>?_,λH' d' A' ap fr tk o' sm=>?_⟩
  · exact z2.elim (g2 x z1) (h2 x ((g3 x).mpr (.inl z1)))
  · exact cl x ((h3 x).mpr (z.elim (λz=>.inl ((g3 x).mpr (.inr z))) .inr))
  · have o2:=g5 H' d' A' (λx z1 z2=>ap x z1 (.inl z2)) (λx z=>fr x (.inl z)) tk o'
    have ap2:Apart (gB A' C1) C:=λx z1 z2=>z1.elim (λz=>ap x z (.inr z2)) λz=>h2 x ((g3 x).mpr (.inr z)) z2;have hA:Is A (gB B1 (gB C1 C)):=λx=>by
      rw[h3 x];constructor
      · rintro(z | z)
        · exact((g3 x).mp z).elim .inl λz=>.inr (.inl z)
        · exact .inr (.inr z)
      · rintro(z | z | z)
        · exact .inl ((g3 x).mpr (.inl z))
        · exact .inl ((g3 x).mpr (.inr z))
        · exact .inr z
    have g:aV (out H A) (out H' (gB (gB A' C1) C)):=λx u ex=>by obtain⟨e1,e2⟩:=bG.mp ex;have:=sm x u (bG.mpr ⟨λz=>e1 ((hA x).mpr z),e2⟩);obtain⟨e3,e4⟩:=bG.mp this;exact bG.mpr ⟨λz=>e3 (z.elim (λz=>z.elim .inl λz=>.inr (.inl z)) λz=>.inr (.inr z)),e4⟩
    have s:=k (gG K H' (out H' (gB (gB A' C1) C))) (λs D z hb qq=>by
      cases s with
      | no=>exact qq
      | fro d=>obtain⟨q1,v,q2,q3⟩:=qq;exact⟨q1,v,q2,g.rv _ _ q3⟩
      | inn v d=>exact⟨qq.1,Ow.frame tk _ _ _ qq.2 λx zx=>fr x (.inr (hb x zx))⟩
      | own d=>obtain⟨v,q1,q2⟩:=qq;exact⟨v,q1,Ow.frame tk _ _ _ q2 λx zx=>fr x (.inr (hb x zx))⟩) (.own (fG p d0 d')) (NC v0) (gB A' C1) ap2 ⟨v0,U,o2⟩
    rw[set_same h1]at s;exact⟨_,s,b.trans g⟩
theorem Rel.RQ{i:Nat}{p:List Step}{d0:D}{ds:List D}(h:Rel K B env σ H)(e:env[i]?=NC (.own d0))(q:gC p d0=NC (.lst ds)):∃v0 a xs Bs,σ[i]?=NC (NC v0)∧Qj H p v0=NC (.ref a)∧H a=NC (.lst xs)∧¬Bs a∧eQ K H ds Bs xs ∧
    ∀H2 ds' xs' Bn,aV H H2→eQ K H2 ds' Bn xs'→(∀b,Bn b→Bs b∨H b=none)→Rel K B (env.set i (.own (fG p d0 (.lst ds')))) σ (upd H2 a (.lst xs')):=by
  obtain⟨v0,w,A1,C,h1,h2,h3,h4,h5,h6⟩:=h.at e q;unfold Ow at h3;obtain⟨a,xs,Bs,rfl,o2,o3,o4,o5⟩:=h3;refine⟨v0,a,xs,Bs,h1,h2,o2,o3,o5,λH2 ds' xs' Bn s o hb=>?_⟩;have nBa:¬Bn a:=λz=>(hb a z).elim o3 λz=>by rw[o2]at z;cases z
  have hC:∀x,C x→¬x=a:=λx z y=>h4 x ((o4 x).mpr (.inl y)) z;have Wx:H2 a=NC (.lst xs):=s a _ o2;refine h6 _ (.lst ds') (gB (·=a) Bn) (λx z1 z2=>?_) (λx z=>?_) (s.tk.trans (uU (xW Wx))) ?_ (λx u ex=>?_)
  · rcases z1 with z1 | z1
    · exact hC x z2 z1
    · rcases hb x z1 with z | z
      · exact h4 x ((o4 x).mpr (.inr z)) z2
      · obtain⟨⟨u,eu⟩,_⟩:=h5 x z2
        rw[z]at eu;cases eu
  · obtain⟨⟨u,eu⟩,_⟩:=h5 x z
    rw[bN (hC x z),eu,s x u eu]
  · unfold Ow
    refine⟨a,xs',Bn,U,cM,nBa,λ_=>Iff.rfl,eQ.frame (uU (xW Wx)) _ _ _ o λx zx=>bN λy=>nBa (y▸zx)⟩
  · obtain⟨e1,e2⟩:=bG.mp ex
    have na:x≠a:=λy=>e1 (.inl ((o4 x).mpr (.inl y)));refine bG.mpr ⟨λz=>?_,by rw[bN na];exact s x u e2⟩;rcases z with (z | z) | z
    · exact na z
    · rcases hb x z with z | z
      · exact e1 (.inl ((o4 x).mpr (.inr z)))
      · rw[z]at e2;cases e2
    · exact e1 (.inr z)
theorem Rel.aKN{i:Nat}{p:List Step}{d0:D}{ks:List Key}{ds:List D}(h:Rel K B env σ H)(e:env[i]?=NC (.own d0))(q:gC p d0=NC (.dk ks ds)):∃v0 a xs Bs,σ[i]?=NC (NC v0)∧Qj H p v0=NC (.ref a)∧H a=NC (.dK (ks.zip xs))∧ks.length=xs.length∧¬Bs a∧eQ K H ds Bs xs ∧
    ∀H2 ks' ds' xs' Bn,aV H H2→ks'.length=xs'.length→eQ K H2 ds' Bn xs'→(∀b,Bn b→Bs b∨H b=none)→Rel K B (env.set i (.own (fG p d0 (.dk ks' ds')))) σ (upd H2 a (.dK (ks'.zip xs'))):=by
  obtain⟨v0,w,A1,C,h1,h2,h3,h4,h5,h6⟩:=h.at e q;unfold Ow at h3;obtain⟨a,xs,Bs,rfl,o2,o2',o3,o4,o5⟩:=h3;refine⟨v0,a,xs,Bs,h1,h2,o2,o2',o3,o5,λH2 ks' ds' xs' Bn s hl o hb=>?_⟩;have nBa:¬Bn a:=λz=>(hb a z).elim o3 λz=>by rw[o2]at z;cases z
  have hC:∀x,C x→¬x=a:=λx z y=>h4 x ((o4 x).mpr (.inl y)) z;have Wx:H2 a=NC (.dK (ks.zip xs)):=s a _ o2;refine h6 _ (.dk ks' ds') (gB (·=a) Bn) (λx z1 z2=>?_) (λx z=>?_) (s.tk.trans (uU (Jl Wx))) ?_ (λx u ex=>?_)
  · rcases z1 with z1 | z1
    · exact hC x z2 z1
    · rcases hb x z1 with z | z
      · exact h4 x ((o4 x).mpr (.inr z)) z2
      · obtain⟨⟨u,eu⟩,_⟩:=h5 x z2
        rw[z]at eu;cases eu
  · obtain⟨⟨u,eu⟩,_⟩:=h5 x z
    rw[bN (hC x z),eu,s x u eu]
  · unfold Ow
    refine⟨a,xs',Bn,U,cM,hl,nBa,λ_=>Iff.rfl,eQ.frame (uU (Jl Wx)) _ _ _ o λx zx=>bN λy=>nBa (y▸zx)⟩
  · obtain⟨e1,e2⟩:=bG.mp ex
    have na:x≠a:=λy=>e1 (.inl ((o4 x).mpr (.inl y)));refine bG.mpr ⟨λz=>?_,by rw[bN na];exact s x u e2⟩;rcases z with (z | z) | z
    · exact na z
    · rcases hb x z with z | z
      · exact e1 (.inl ((o4 x).mpr (.inr z)))
      · rw[z]at e2;cases e2
    · exact e1 (.inr z)
end
end L2


namespace L2
open PySem PySem.Spec PyProof.Rows
abbrev FP:=DE→Option (List Step)
def EvP(K:aJ)(t:TE)(i:Nat)(π:FP):Prop:=∀(σ:St)(H:Hp)(e:DE)(v0:V)(p:List Step)(v:V)(Q:VK),Fq K H e σ→σ[i]?=NC (NC v0)→π e=NC p→Qj H p v0=NC v→(∀H',aV H H'→Q v H')→t σ H Q
structure XP(K:aJ)(X:Cx)(e:AD)(t:TE)(i:Nat)(π:FP):Prop where
 hk:X.K=K
 pe:PE X e t
 ev:EvP K t i π
theorem Jt{H:Hp}{s:Step}:∀{p:List Step} {v0 v:V},Qj H (p++[s]) v0=NC v→∃w,Qj H p v0=NC w∧stepV H s w=NC v
 | [],v0,v,h=>by
  rw[P4]at h;unfold Qj at h;obtain⟨w,h1,h2⟩:=bA h;unfold Qj at h2;cases h2;exact⟨v0,U,h1⟩
 | s'::p,v0,v,h=>by rw[N7]at h;unfold Qj at h;obtain⟨u,h1,h2⟩:=bA h;obtain⟨w,h3,h4⟩:=Jt h2;refine⟨w,?_,h4⟩;unfold Qj;rw[h1];exact h3
theorem aCj{H:Hp}{k:Nat}{w v:V}(h:stepV H (.ix k) w=NC v):∃a xs,w=.ref a∧H a=NC (.lst xs)∧xs[k]?=NC v:=by
 cases w with
 | ref a=>
  unfold stepV at h;dsimp only at h;cases q:H a with
  | none=>rw[q]at h;cases h
  | some o=>
   rw[q]at h;cases o with
   | lst xs=>exact⟨a,xs,U,q,h⟩
   | _=>cases h
 | _=>unfold stepV at h;cases h
def dD:FP:=λ_=>NC []
def vd(π:FP)(g:FE):FP:=λe=>(π e).bind λp=>(g e).bind λd=>match d with
 | .int k=>if 0≤k then NC (p++[.ix k.toNat])else none
 | _=>none
section
variable{K:aJ}{X:Cx}{e a b c:AD}{es:List AD}{t ta tb te:TE}{f g:FE}{tA:TA}{fs:FA}{pos:Pos}{i j:Nat}{π:FP}{st:AH}
theorem gP(h:PE X e (sE i))(hk:X.K=K:=by rfl):XP K X e (sE i) i dD:=⟨hk,h,λσ H e v0 p v Q re h1 h2 h3 k=>by
 cases h2;unfold Qj at h3;cases h3;exact⟨v0,h1,k H (aV.refl _)⟩⟩
theorem RT(h:XP K X a ta i π)(hb:XR K X b tb g)(hs:DQ b):XP K X (.Subscript a b pos) (Xx (rIx K) ta tb) i (vd π g):=⟨h.hk,aGa (aGj h.hk) h.pe hb.pe hs,λσ H e v0 p v Q re h1 h2 h3 k=>by
 unfold vd at h2;obtain⟨p0,q1,q2⟩:=bA h2;obtain⟨d,q3,q4⟩:=bA q2;split at q4
 ·rename_i n;split at q4
  ·rename_i hn;cases q4;obtain⟨w,w1,w2⟩:=Jt h3;obtain⟨ad,xs,rfl,w3,w4⟩:=aCj w2;refine h.ev σ H e v0 p0 _ _ re h1 q1 w1 λH1 s1=>hb.ev σ H1 H1 e _ _ (Zn.self K H1) (re.same s1) q3 λy H2 Z2 s2 t2 z2 ry=>?_;unfold Rv at ry;exact .inl ⟨ad,xs,n,v,U,ry,rJ.of (s2 _ _ (s1 _ _ w3)),aKH hn w4,k H2 (s1.trans s2)⟩
  ·cases q4
 ·cases q4⟩
def zH(i:Nat)(π:FP)(f:FE):GS:=λenv=>match env[i]?,π (rE env),f (rE env)with
 | some (.own d0),NC p,NC d=>(match gC p d0 with
  | some (.lst ds)=>if ds.length<100000 then .next (env.set i (.own (fG p d0 (.lst (ds++[d])))))else .bad
  | _=>.bad)
 | _,_,_=>.bad
theorem HX{H H1:Hp}{A:Fp}{ds:List D}{xs:List V}{N:Fp}(o:eQ K H ds A xs)(fr:∀a,N a→H a=none):Apart A N:=λx q1 q2=>by obtain⟨⟨u,eu⟩,_⟩:=eQ.cells _ _ _ o x q1;rw[fr x q2]at eu;cases eu
theorem aCk(h:EvP K ta i π)(he:Wk K te f):DSs K (oH (Sh K "list" uA ta (gF te oK))) (zH i π f):=λB E σ H env r p=>by
 unfold zH at p;split at p
 ·rename_i d0 pp d q1 q2 q3;split at p
  ·rename_i ds q4;split at p
   ·rename_i hl;obtain⟨v0,a,xs,Bs,k1,k2,k3,k4,k5,k6⟩:=r.RQ q1 q4;refine h σ H (rE env) v0 pp _ _ r.r k1 q2 k2 λH1 s1=>⟨.inl ⟨U,xs,rJ.of (s1 _ _ k3)⟩,?_⟩
    refine he σ H1 (rE env) d _ (r.r.same s1) q3 λy H2 s2 n=>?_;obtain⟨N,o,fr⟩:=n.back s1;have s12:=s1.trans s2;refine⟨a,xs,y,U,U,s12 _ _ k3,Yo (by rw[(eQ.rv _ _ _ k5).length];omega),p _ ?_⟩;exact k6 H2 (ds++[d]) (xs++[y]) (gB Bs N) s12 (cZ.mpr ((cZ.mp (k5.same s12)).snoc o (HX (H1:=H) k5 fr))) λb z=>z.imp id (fr b)
   ·exact p.elim
  ·exact p.elim
 ·exact p.elim
theorem Ua{m:Str}{apos cpos:Pos}(h:XP K X a ta i π)(he:XN K X e te f)(hp:PE X a ta→PE X e te→PS X (.Expr (.Call (.Attribute a m apos) [e] [] cpos) pos) (oH (Sh K "list" uA ta (gF te oK)))):YS K X (.Expr (.Call (.Attribute a m apos) [e] [] cpos) pos) (oH (Sh K "list" uA ta (gF te oK))) (zH i π f):=⟨hp h.pe he.pe,(aCk h.ev he.ev).ds⟩
def wG(i:Nat)(π:FP)(g f:FE):GS:=λenv=>match env[i]?,π (rE env),g (rE env),f (rE env)with
 | some (.own d0),NC p,NC (.int k),NC d=>(match gC p d0 with
  | some (.lst ds)=>(match aq ds.length k with
   | some j=>.next (env.set i (.own (fG p d0 (.lst (ds.set j d)))))
   | none=>.bad)
  | _=>.bad)
 | _,_,_,_=>.bad
theorem aHO{n:Nat}{k:Int}{j:Nat}(h:aq n k=NC j):j<n:=by
 unfold aq at h;split at h
 ·split at h
  ·cases h;omega
  ·cases h
 ·split at h
  ·cases h;omega
  ·cases h
theorem vf(h:EvP K ta i π)(hx:Ls K tb g)(he:Wk K te f):DSs K (Bm te (aAa ta tb Yh)) (wG i π g f):=λB E σ H env r p=>by
 unfold wG at p;split at p
 ·rename_i d0 pp k d q1 q2 q3 q3';split at p
  ·rename_i ds q4;split at p
   ·rename_i j q5;obtain⟨v0,a,xs,Bs,k1,k2,k3,k4,k5,k6⟩:=r.RQ q1 q4;refine he σ H (rE env) d _ r.r q3' λy H1 s1 n=>?_;refine h σ H1 (rE env) v0 pp _ _ (r.r.same s1) k1 q2 (Ca s1 k2) λH2 s2=>hx σ H2 H2 (rE env) _ _ (Zn.self K H2) (r.r.same (s1.trans s2)) q3 λy' H3 Z3 s3 t3 z3 ry=>?_;unfold Rv at ry;have HN:=s1.trans (s2.trans s3);obtain⟨N,o,fr⟩:=n.same (s2.trans s3);have hlen:=(eQ.rv _ _ _ k5).length;refine⟨a,xs,k,j,U,ry,HN _ _ k3,by rw[hlen];exact q5,p _ ?_⟩;obtain⟨y0,A1,C,f1,f2,f3,f4,f5⟩:=(cZ.mp (k5.same HN)).focus (B7 (aHO q5));have ap:Apart N C:=λx q1 q2=>HX (H1:=H) k5 fr x ((f3 x).mpr (.inr q2)) q1;exact k6 H3 (ds.set j d) (xs.set j y) (gB N C) HN (cZ.mpr (f5 (Ow K H3) (λ_ _ _ _ qq=>qq) d y N ap o)) λb z=>z.elim (λz=>.inr (fr b z)) λz=>.inl ((f3 b).mpr (.inr z))
   ·exact p.elim
  ·exact p.elim
 ·exact p.elim
theorem vg{pos':Pos}(h:XP K X a ta i π)(hx:XR K X b tb g)(he:XN K X e te f)(hp:PE X a ta→PE X b tb→PE X e te→PS X (.Assign [.Subscript a b pos'] e pos) (Bm te (aAa ta tb Yh))):YS K X (.Assign [.Subscript a b pos'] e pos) (Bm te (aAa ta tb Yh)) (wG i π g f):=⟨hp h.pe hx.pe he.pe,(vf h.ev hx.ev he.ev).ds⟩
def pF(i:Nat)(π:FP)(g f:FE):GS:=λenv=>match env[i]?,π (rE env),g (rE env),f (rE env)with
 | some (.own d0),NC p,NC k,NC d=>(match gC p d0,Tt k with
  | some (.dk ks ds),NC k=>if d.jJ=NF∧ks.length<100000 then .next (env.set i (.own (fG p d0 (.dk (mL ks k) (putD ks ds k d)))))else .bad
  | _,_=>.bad)
 | _,_,_,_=>.bad
theorem RV{H:Hp}{d:D}{v:V}(o:Ow K H d nil v)(k:Key):∀{ks:List Key} {ds:List D} {A:Fp} {xs:List V},ks.length=xs.length→eQ K H ds A xs→∃A',(∀x,A' x→A x)∧eQ K H (P9 (λk' d'=>if k'=k then d else d') ks ds) A' (P9 (λk' d'=>if k'=k then v else d') ks xs)
 | [],ds,A,xs,hl,h=>by
  cases xs with
  | nil=>exact⟨nil,λ_ z=>z.elim,by rw[Q1,Q1];unfold eQ;exact⟨λ_ z=>z,U⟩⟩
  | cons x xs=>simp at hl
 | k0::ks,[],A,xs,hl,h=>by unfold eQ at h;rw[h.2]at hl;simp at hl
 | k0::ks,d0::ds,A,xs,hl,h=>by
  unfold eQ at h;obtain⟨y,yt,A1,A2,rfl,h2,h3,h4,h5⟩:=h;obtain⟨A',a1,a2⟩:=RV o k (by simpa using hl) h5;by_cases c:k0=k
  ·refine⟨A',λx q=>(h3 x).mpr (.inr (a1 x q)),?_⟩;rw[J6,J6,if_pos c,if_pos c];unfold eQ;exact⟨v,_,nil,A',U,λ_ z=>z.elim,λx=>⟨.inr,λz=>z.elim False.elim id⟩,o,a2⟩
  ·refine⟨gB A1 A',λx q=>(h3 x).mpr (q.imp id (a1 x)),?_⟩;rw[J6,J6,if_neg c,if_neg c];unfold eQ;exact⟨y,_,A1,A',U,λx z1 z2=>h2 x z1 (a1 x z2),λ_=>Iff.rfl,h4,a2⟩
theorem vh(h:EvP K ta i π)(hx:Ls K tb g)(he:Ls K te f):DSs K (Jk ta tb te) (pF i π g f):=λB E σ H env r p=>by
 unfold pF at p;split at p
 ·rename_i d0 pp kd d q1 q2 q3 q3';split at p
  ·rename_i ks ds k q4 q5;split at p
   ·rename_i hc;obtain⟨v0,a,xs,Bs,k1,k2,k3,k3',k4,k5,k6⟩:=r.aKN q1 q4;refine he σ H H (rE env) d _ (Zn.self K H) r.r q3' λy H1 Z1 s1 t1 z1 ry=>?_;refine h σ H1 (rE env) v0 pp _ _ (r.r.same s1) k1 q2 (Ca s1 k2) λH2 s2=>hx σ H2 H2 (rE env) _ _ (Zn.self K H2) (r.r.same (s1.trans s2)) q3 λy' H3 Z3 s3 t3 z3 ry'=>?_;have HN:=s1.trans (s2.trans s3);have o:Ow K H3 d nil y:=Bu d y hc.1 ((z1.sm.trans (s2.trans s3)).rv _ _ ry);have ek:=Ed q5 (z3.sm.rv _ _ ry');refine⟨a,_,U,.inl ⟨ks.zip xs,k,HN _ _ k3,ek,Yo (by rw[U3];omega),U⟩,p _ ?_⟩;rw[QX k3'];have ow3:=k5.same HN;have hl3:=(eQ.rv _ _ _ k5).length;by_cases c:(posK ks k).isSome=NF
    ·obtain⟨A',a1,a2⟩:=RV o k k3' ow3;refine k6 H3 (mL ks k) (putD ks ds k d) (putD ks xs k y) A' HN (xX k3') ?_ λb z=>.inl (a1 b z);unfold putD;rw[if_pos c,if_pos c];exact a2
    ·refine k6 H3 (mL ks k) (putD ks ds k d) (putD ks xs k y) (gB Bs nil) HN (xX k3') ?_ λb z=>z.elim .inl False.elim;unfold putD;rw[if_neg c,if_neg c];exact cZ.mpr ((cZ.mp ow3).snoc o λ_ _ z=>z)
   ·exact p.elim
  ·exact p.elim
 ·exact p.elim
theorem HY{pos':Pos}(h:XP K X a ta i π)(hx:XR K X b tb g)(he:XR K X e te f)(hp:PE X a ta→PE X b tb→PE X e te→PS X (.Assign [.Subscript a b pos'] e pos) (Jk ta tb te)):YS K X (.Assign [.Subscript a b pos'] e pos) (Jk ta tb te) (pF i π g f):=⟨hp h.pe hx.pe he.pe,(vh h.ev hx.ev he.ev).ds⟩
theorem Ys{α β:Type}{R:α→Fp→β→Prop}:∀{ds:List α} {A:Fp} {ys:List β} (k:Nat),eO R ds A ys→∃A',(∀x,A' x→A x)∧eO R (ds.eraseIdx k) A' (ys.eraseIdx k)
 | [],A,ys,k,h=>⟨A,λ_ z=>z,by rw[h.2];exact⟨h.1,U⟩⟩
 | d::ds,A,ys,0,⟨y,yt,A1,A2,h1,h2,h3,h4,h5⟩=>⟨A2,λx z=>(h3 x).mpr (.inr z),by rw[h1];exact h5⟩
 | d::ds,A,ys,k+1,⟨y,yt,A1,A2,h1,h2,h3,h4,h5⟩=>by obtain⟨A',a1,a2⟩:=Ys k h5;refine⟨gB A1 A',λx z=>(h3 x).mpr (z.imp id (a1 x)),?_⟩;rw[h1,M3,M3];exact⟨y,_,A1,A',U,λx z1 z2=>h2 x z1 (a1 x z2),λ_=>Iff.rfl,h4,a2⟩
def Ei(i j:Nat)(f:FE):GS:=λenv=>match env[i]?,env[j]?,f (rE env)with
 | some (.own (.lst ds)),NC (.own (.lst es)),NC (.int k)=>if i≠j∧ds.length<100000∧0≤k∧k<es.length∧es.length≤100000 then(match es[k.toNat]? with
   | some d=>if d.jJ=NF then .next ((env.set j (.own (.lst (es.eraseIdx k.toNat)))).set i (.own (.lst (ds++[d]))))else .bad
   | none=>.bad)else .bad
 | _,_,_=>.bad
theorem aAy(he:Ls K te f):DS K (oH (Sh K "list" uA (sE i) (gF (Sh K "list" Gx (sE j) (gF te oK)) oK))) (Ei i j f):=λB E σ H env r p=>by
 unfold Ei at p;split at p
 ·rename_i ds es k q1 q2 q3;split at p
  ·rename_i hc;obtain⟨c1,c2,c3,c4,c5⟩:=hc;split at p
   ·rename_i d q4;split at p
    ·rename_i im;obtain⟨w0,b,ys,Cs,m1,m2,m3,m4,m5,m6⟩:=r.RQ (p:=[]) q2 U;obtain⟨v0,a,xs,Bs,k1,k2,k3,k4,k5,k6⟩:=r.RQ (p:=[]) q1 U;have e1:v0=.ref a:=by unfold Qj at k2;exact F5 k2
     have e2:w0=.ref b:=by unfold Qj at m2;exact F5 m2
     subst e1 e2;refine⟨_,k1,.inl ⟨U,xs,rJ.of k3⟩,⟨_,m1,.inl ⟨U,ys,rJ.of m3⟩,?_⟩⟩;refine he σ H H (rE env) _ _ (Zn.self K H) r.r q3 λy H1 Z1 s1 t1 z1 ry=>?_;unfold Rv at ry;have hly:=(eQ.rv _ _ _ m5).length;have hlx:=(eQ.rv _ _ _ k5).length;obtain⟨x',hx',rx'⟩:=(eQ.rv _ _ _ m5).get q4;refine⟨b,ys,k,k.toNat,x',U,by rw[ry],s1 _ _ m3,by omega,by omega,EH c3 (by rw[hly];exact c4),hx',?_⟩;have o1:=m5.same s1;obtain⟨A',a1,a2⟩:=Ys k.toNat (cZ.mp o1);have r1:=m6 H1 (es.eraseIdx k.toNat) (ys.eraseIdx k.toNat) A' s1 (cZ.mpr a2) λx z=>.inl (a1 x z);have r1':Rel K B (env.set j (.own (.lst (es.eraseIdx k.toNat)))) σ (upd H1 b (.lst (ys.eraseIdx k.toNat))):=r1;have q1':(env.set j (.own (.lst (es.eraseIdx k.toNat))))[i]?=NC (.own (.lst ds)):=by rw[F7,if_neg (Ne.symm c1)];exact q1
     obtain⟨v0',a',xs',Bs',n1,n2,n3,n4,n5,n6⟩:=r1'.RQ (p:=[]) q1' U;rw[k1]at n1;cases n1;have e3:a'=a:=by unfold Qj at n2;cases n2;rfl
     subst e3;have ne:a'≠b:=by
      intro z;subst z;obtain⟨A0,sA,_⟩:=r;obtain⟨y1,A1,C,f1,f2,f3,f4,f5⟩:=sA.focus q1;obtain⟨v1,ev1,o1⟩:=f4;have g1:=f5 (gG K H (out H A0)) (λ_ _ _ _ qq=>qq) (.own (.lst ds)) (NC v1) A1 f2 ⟨v1,U,o1⟩;rw[k1]at f1;cases f1;cases ev1;unfold Ow at o1;obtain⟨p1,_,_,ep1,_,_,ip1,_⟩:=o1;cases ep1;have other:∀{l:EN} {A:Fp} {ys:St} (i j:Nat),eO (gG K H (out H A0)) l A ys→i≠j→∀s s',l[i]?=NC s→l[j]?=NC s'→∃y y' A1 A2,ys[i]?=NC y∧ys[j]?=NC y'∧gG K H (out H A0) s A1 y∧gG K H (out H A0) s' A2 y'∧Apart A1 A2:=by
       intro l
       induction l with
       | nil=>intro A ys i j _ _ s s' h1 _;simp at h1
       | cons d l ih=>
        rintro A ys i j ⟨y,yt,B1,B2,rfl,h2,h3,h4,h5⟩ hij s s' h6 h7;cases i with
        | zero=>
         cases j with
         | zero=>exact absurd U hij
         | succ j=>simp at h6;subst h6;obtain⟨y2,A3,C3,w1,w2,w3,w4,_⟩:=h5.focus (i:=j) (d:=s') (by simpa using h7);exact⟨y,y2,B1,A3,U,by simpa using w1,h4,w4,λx z1 z2=>h2 x z1 ((w3 x).mpr (.inl z2))⟩
        | succ i=>
         cases j with
         | zero=>simp at h7;subst h7;obtain⟨y2,A3,C3,w1,w2,w3,w4,_⟩:=h5.focus (i:=i) (d:=s) (by simpa using h6);exact⟨y2,y,A3,B1,by simpa using w1,U,w4,h4,λx z1 z2=>h2 x z2 ((w3 x).mpr (.inl z1))⟩
         | succ j=>obtain⟨y2,y3,A3,A4,w1,w2,w3,w4,w5⟩:=ih i j h5 (λz=>hij (by rw[z])) s s' (by simpa using h6) (by simpa using h7);exact⟨y2,y3,A3,A4,by simpa using w1,by simpa using w2,w3,w4,w5⟩
      obtain⟨y2,y3,A3,A4,w1,w2,w3,w4,w5⟩:=other i j sA c1 _ _ q1 q2;rw[k1]at w1;cases w1;rw[m1]at w2;cases w2;obtain⟨_,ea,oa⟩:=w3;obtain⟨_,eb,ob⟩:=w4;cases ea;cases eb;unfold Ow at oa ob;obtain⟨p1,_,_,e1,_,_,i1,_⟩:=oa;obtain⟨p2,_,_,e2,_,_,i2,_⟩:=ob;cases e1;cases e2;exact w5 _ ((i1 _).mpr (.inl U)) ((i2 _).mpr (.inl U))
     have n3':H1 a'=NC (.lst xs'):=by rw[bN ne]at n3;exact n3
     have exx:xs'=xs:=by have:=s1 _ _ k3;rw[n3']at this;cases this;rfl
     subst exx;have imo:Ow K (upd H1 b (.lst (ys.eraseIdx k.toNat))) d nil x':=Ow.frame (uU (xW (s1 _ _ m3))) _ _ _ (Bu d x' im (s1.rv _ _ rx')) λ_ z=>z.elim;refine⟨a',xs',x',U,U,n3,Yo (by omega),p _ _ ?_⟩;exact n6 _ (ds++[d]) (xs'++[x']) (gB Bs' nil) (aV.refl _) (cZ.mpr ((cZ.mp n5).snoc imo λ_ _ z=>z)) λx z=>z.elim .inl False.elim
    ·exact p.elim
   ·exact p.elim
  ·exact p.elim
 ·exact p.elim
end
end L2


namespace L2
open PySem PySem.Spec PyProof.Rows
def jd(K:aJ)(B:Hp)(R:Fp)(env:EN)(σ:St)(H:Hp):Prop:=∃A,eO (gG K H (out H (gB A R))) env A σ∧Apart A R∧aV B (out H (gB A R))
section
variable{K:aJ}{B H H':Hp}{env:EN}{σ:St}{R R' A1:Fp}
theorem Rel.x(h:Rel K B env σ H)(s:aV H H')(f:∀a,R a→H a=none):jd K B R env σ H':=by obtain⟨A,a,b⟩:=h;have cl:=lO a;have g:aV (out H A) (out H' (gB A R)):=cH s λx q=>q.imp id (f x);refine⟨A,a.mono λe C z _ q=>q.same s g,λx q1 q2=>?_,b.trans g⟩;obtain⟨⟨u,eu⟩,_⟩:=cl x q1;rw[f x q2]at eu;cases eu
theorem jd.own{i:Nat}{d:D}{v:V}(h:jd K B R env σ H)(e:Is R (gB A1 R'))(ap:Apart A1 R')(o:Ow K H d A1 v)(hi:i<env.length):jd K B R' (env.set i (.own d)) (σ.set i (NC v)) H:=by
 obtain⟨A,a,aR,b⟩:=h;obtain⟨y,A0,C,h1,h2,h3,h4,k⟩:=a.focus (B7 hi);have g:aV (out H (gB A R)) (out H (gB (gB A1 C) R')):=cH (aV.refl _) λx q=>by
  rcases q with (q | q) | q
  ·exact .inl (.inr ((e x).mpr (.inl q)))
  ·exact .inl (.inl ((h3 x).mpr (.inr q)))
  ·exact .inl (.inr ((e x).mpr (.inr q)))
 refine⟨gB A1 C,k _ (λs D z _ q=>q.same (aV.refl _) g) (.own d) (NC v) A1 (λx q1 q2=>aR x ((h3 x).mpr (.inr q2)) ((e x).mpr (.inl q1))) ⟨v,U,o⟩,λx q1 q2=>?_,b.trans g⟩;rcases q1 with q1 | q1
 ·exact ap x q1 q2
 ·exact aR x ((h3 x).mpr (.inr q1)) ((e x).mpr (.inr q2))
theorem jd.done(h:jd K B R env σ H)(e:None R):Rel K B env σ H:=by obtain⟨A,a,aR,b⟩:=h;have g:aV (out H (gB A R)) (out H A):=cH (aV.refl _) λx q=>.inl (.inl q);exact⟨A,a.mono λs D z _ q=>q.same (aV.refl _) g,b.trans g⟩
end
def Hl:List Nat→TGs
 | []=>aIW
 | i::is=>aF4 (lW i) (Hl is)
def wH:EN→List Nat→List D→EN
 | env,i::is,d::ds=>wH (env.set i (.own d)) is ds
 | env,_,_=>env
theorem RW{K:aJ}{B H:Hp}{Q:St→Hp→Prop}:∀{is:List Nat} {ds:List D} {xs:List V} {R:Fp} {env:EN} {σ:St},jd K B R env σ H→eQ K H ds R xs→is.length=ds.length→(∀i∈is,i<env.length) →
  (∀σ',Rel K B (wH env is ds) σ' H→Q σ' H)→Hl is xs σ H Q
 | [],ds,xs,R,env,σ,r,o,hl,hi,k=>by
  cases ds with
  | cons d ds=>simp at hl
  | nil=>unfold eQ at o;unfold Hl;exact⟨o.2,k σ (by unfold wH;exact r.done o.1)⟩
 | i::is,ds,xs,R,env,σ,r,o,hl,hi,k=>by
  cases ds with
  | nil=>simp at hl
  | cons d ds=>unfold eQ at o;obtain⟨y,yt,A1,A2,rfl,h2,h3,h4,h5⟩:=o;unfold Hl;refine⟨y,yt,U,?_⟩;have hi0:=hi i D6;exact RW (r.own h3 h2 h4 hi0) h5 (by simpa using hl) (λj hj=>by rw[K9];exact hi j (C8 _ hj)) λσ' r'=>k σ' (by unfold wH;exact r')
def wI(is:List Nat)(f:FE):GS:=λenv=>match f (rE env)with
 | some (.tup ds)=>if is.length=ds.length∧is.all (λi=>decide (i<env.length))=NF then .next (wH env is ds)else .bad
 | _=>.bad
section
variable{K:aJ}{X:Cx}{e a b c:AD}{es:List AD}{t ta tb te:TE}{f g:FE}{tA:TA}{fs:FA}{pos:Pos}{i j:Nat}{π:FP}{st:AH}
theorem aAz{is:List Nat}{n:Nat}(h:Wk K te f)(hn:n=is.length):DS K (Bm te (aEh K n (Hl is))) (wI is f):=λB E σ H env r p=>by
 unfold wI at p;split at p
 ·rename_i ds q;split at p
  ·rename_i hc;refine h σ H (rE env) _ _ r.r q λv H' s ⟨N,o,fr⟩=>?_;unfold Ow at o;obtain⟨ad,xs,rfl,o1,o2⟩:=o;refine⟨ad,xs,U,o1,by rw[(eQ.rv _ _ _ o2).length,hn,hc.1],?_⟩;exact RW (r.x s fr) o2 hc.1 (λi hi=>of_decide_eq_true (L8.mp hc.2 i hi)) λσ' r'=>p σ' H' r'
  ·exact p.elim
 ·exact p.elim
theorem Yt{is:List Nat}{n:Nat}{tg:AD}(h:XN K X e te f)(hp:PE X e te→PS X (.Assign [tg] e pos) (Bm te (aEh K n (Hl is))))(hn:n=is.length:=by rfl):YS K X (.Assign [tg] e pos) (Bm te (aEh K n (Hl is))) (wI is f):=⟨hp h.pe,aAz h.ev hn⟩
def xF:EN→List Nat→Option (List D)
 | _,[]=>NC []
 | env,i::is=>(match env[i]? with
  | some (.own d)=>(xF env is).map (d::·)
  | _=>none)
theorem Ub:∀{is:List Nat} {env:EN} {i:Nat} {s:SD},i∉is→xF (env.set i s) is=xF env is
 | [],env,i,s,h=>by unfold xF;rfl
 | j::is,env,i,s,h=>by have hj:i≠j:=λz=>h (z▸D6);unfold xF;rw[F7,if_neg hj,Ub λz=>h (C8 _ z)]
theorem RX{H Z:Hp}:∀{is:List Nat} {ds:List D} {env:EN} {A:Fp} {σ:St},is.Nodup→xF env is=NC ds→eO (gG K H Z) env A σ→∃xs A',(∀x,A' x→A x)∧eQ K H ds A' xs∧xs.length=is.length∧∀(k i:Nat),is[k]?=NC i→∃x,xs[k]?=NC x∧σ[i]?=NC (NC x)
 | [],ds,env,A,σ,nd,q,h=>by
  unfold xF at q;cases q;exact⟨[],nil,λ_ z=>z.elim,by unfold eQ;exact⟨λ_ z=>z,U⟩,U,λk i e=>by simp at e⟩
 | i::is,ds,env,A,σ,nd,q,h=>by
  unfold xF at q;split at q
  ·rename_i d q1;obtain⟨ds',q2,rfl⟩:=lY q;obtain⟨n1,n2⟩:=K8.mp nd;obtain⟨y,A1,C,h1,h2,h3,h4,k⟩:=h.focus q1;obtain⟨v,rfl,o⟩:=h4;have h':=k (gG K H Z) (λ_ _ _ _ qq=>qq) .no none nil (λ_ z=>z.elim) (λ_ z=>z);obtain⟨xs,A',a1,a2,a3,a4⟩:=RX (env:=env.set i .no) n2 (by rw[Ub n1];exact q2) h';have hC:∀x,A' x→C x:=λx z=>(a1 x z).elim False.elim id;refine⟨v::xs,gB A1 A',λx z=>(h3 x).mpr (z.imp id (hC x)),?_,by simp[a3],λk j e=>?_⟩
   ·unfold eQ;exact⟨v,xs,A1,A',U,λx z1 z2=>h2 x z1 (hC x z2),λ_=>Iff.rfl,o,a2⟩
   ·cases k with
    | zero=>simp at e;subst e;exact⟨v,rfl,h1⟩
    | succ k=>
     have e:is[k]?=NC j:=by simpa using e
     obtain⟨x,b1,b2⟩:=a4 k j e;refine⟨x,by simpa using b1,?_⟩;have hj:i≠j:=λz=>n1 (z▸E6 e);rw[F7,if_neg hj]at b2;exact b2
  ·cases q
inductive TyS(K:aJ)(H:Hp):V→A6→Prop where
 | bl (x:Bool):TyS K H (.bl x) (.type "bool")
 | int (i:Int):TyS K H (.int i) (.type "int")
 | lst {a:A7} {xs:List V} (e:rJ K H a xs):TyS K H (.ref a) (.type "list")
 | tup {a:A7} {xs:List V} (e:yV K H a xs):TyS K H (.ref a) (.type "tuple")
theorem IK:oJ X (.builtin "isinstance") (λxs H Q=>∃x T t b,xs=[x,.ty T]∧TyS X.K H x t∧J7 X.K t (.type T)=NC b∧Q (.bl b) H):=by
 intro pins s σ H xs us Q I r h;obtain⟨x,T,t,b,rfl,ty,hk,q⟩:=h;obtain⟨u,w',rfl,rx,rt⟩:=vals2 r;cases rt;cases ty with
 | bl y=>exact Yb I rx (.bl y) hk λtk=>⟨.bl b,H,I.tok _,U,q⟩
 | int i=>exact Yb I rx (.int i) hk λtk=>⟨.bl b,H,I.tok _,U,q⟩
 | @lst a xs e=>
  cases(show u=AQ a from rx)
  obtain⟨its,_,pl,_⟩:=I.list e;obtain⟨o,n,h1,h2,_⟩:=pl;exact J8 W8 I.Lw ⟨o,h1,h2⟩ hk (λz=>nomatch z) λtk=>⟨.bl b,H,I.tok _,rfl,q⟩
 | @tup a xs e=>
  cases(show u=AQ a from rx)
  obtain⟨its,_,pl,_⟩:=I.tuple e;obtain⟨o,h1,h2,_⟩:=pl;exact J8 e8 I.Lw ⟨o,h1,h2⟩ hk (λz=>nomatch z) λtk=>⟨.bl b,H,I.tok _,rfl,q⟩
def RZ(T:String)(d:D):Option D:=match d with
 | .int _=>if T = "int" then NC (.bl NF)else if T = "bool" then NC (.bl NG)else none
 | .bl _=>if T = "bool" then NC (.bl NF)else none
 | .lst _=>if T = "list" then NC (.bl NF)else none
 | .tup _=>if T = "tuple" then NC (.bl NF)else none
 | _=>none
def Wy(T:String)(f:FE):FE:=λe=>(f e).bind (RZ T)
def aJu(K:aJ):List V→Hp→VK→Prop:=λxs H Q=>∃x T t b,xs=[x,.ty T]∧TyS K H x t∧J7 K t (.type T)=NC b∧Q (.bl b) H
theorem aHR{H:Hp}{T:String}{d r:D}{v:V}(h:RZ T d=NC r)(rv:Rv K H d v):∃t b,TyS K H v t∧J7 K t (.type T)=NC b∧r=.bl b:=by
 cases d with
 | int i=>
  unfold RZ at h;dsimp only at h;unfold Rv at rv;subst rv;split at h
  ·rename_i c;cases h;subst c;exact⟨_,_,.int i,QV,rfl⟩
  ·split at h
   ·rename_i c;cases h;subst c;exact⟨_,_,.int i,GJ,rfl⟩
   ·cases h
 | bl b=>
  unfold RZ at h;dsimp only at h;unfold Rv at rv;subst rv;split at h
  ·rename_i c;cases h;subst c;exact⟨_,_,.bl b,Wr,rfl⟩
  ·cases h
 | lst ds=>
  unfold RZ at h;dsimp only at h;unfold Rv at rv;obtain⟨a,xs,rfl,r2,_⟩:=rv;split at h
  ·rename_i c;cases h;subst c;exact⟨_,_,.lst r2,Ws,rfl⟩
  ·cases h
 | tup ds=>
  unfold RZ at h;dsimp only at h;unfold Rv at rv;obtain⟨a,xs,rfl,r2,_⟩:=rv;split at h
  ·rename_i c;cases h;subst c;exact⟨_,_,.tup r2,Qh,rfl⟩
  ·cases h
 | _=>unfold RZ at h;cases h
theorem aHS(hk:X.K=K):oJ X (.builtin "isinstance") (aJu K):=by subst hk;exact IK
theorem Ms{T:String}{p:Pos}{eT:AD}(h:XR K X e t f)(hT:PE X eT (tC (.ty T)))(hg:Gl X "isinstance") (hm:X.mg "isinstance" = none) (hst:AB (e::[eT]) X.env=(NG,AO e X.env)::AB [eT] X.env:=by rfl) (hst2:AB [eT] X.env=(NG,AO eT X.env)::AB [] X.env:=by rfl)
  (hpl:(AY pos (AB [eT] X.env)).any (·.1)=NG:=by rfl):XN K X (.Call (.Name "isinstance" p) [e,eT] [] pos) (tCB (aJu K) (gF t (gF (tC (.ty T)) oK))) (Wy T f):=
 ⟨h.hk,QD (aHS h.hk) hg hm PyProof.Rows.boot_isinstance (dG h.pe (dG hT jM hst2) hst) (by decide) (by decide) hst hpl,λσ H e d Q re q k=>by
  unfold Wy at q;obtain⟨d0,q1,q2⟩:=bA q;refine h.ev σ H H e d0 _ (Zn.self K H) re q1 λv H1 Z1 s1 t1 z1 rv=>?_;obtain⟨ty,b,b1,b2,rfl⟩:=aHR q2 (z1.sm.rv _ _ rv);exact⟨v,T,ty,b,U,b1,b2,k _ H1 s1 (.jJ U (by unfold Rv;rfl))⟩⟩
structure jL(mg:Str→Option A6)(x:Str)(i:Int):Prop where
 ex:∃t,mg x=NC (.int i t)
structure aLz(K:aJ)(mg:Str→Option A6)(x:Str)(ns:List Int):Prop where
 ex:∃a,mg x=NC (.ref a)∧∀H:Hp,yV K H a (ns.map V.int)
theorem pG{x:Str}{i:Int}(G:jL X.mg x i)(hg:Gl X x)(hd:(x==("__debug__" : Str))=NG:=by decide) (hk:X.K=K:=by rfl):XN K X (.Name x pos) (tC (.int i)) (fC (.int i)):=by obtain⟨t,h⟩:=G.ex;exact⟨hk,aEc hg h ⟨t,U⟩ hd,aB2 i⟩
def dTup(ns:List Int):D:=.tup (ns.map D.int)
end
def oZ(n m:Nat)(g:GS):List D→Option D:=λds=>if ds.length=m then(match g (ds.map SD.fro++E4 (n-m) SD.no)with
  | .ret d=>NC d
  | .next _=>NC .non
  | _=>none)else none
theorem Uc{K:aJ}{H Z:Hp}{k:Nat}:∀{ds:List D} {vs:List V},fQ K Z ds vs→eO (gG K H Z) (ds.map SD.fro++E4 k SD.no) nil (vs.map NC++E4 k none)
 | [],vs,h=>by
  unfold fQ at h;subst h;simp only[G6,P4]
  induction k with
  | zero=>exact⟨λ_ z=>z,U⟩
  | succ k ih=>rw[c9,c9];exact⟨none,_,nil,nil,U,λ_ z=>z.elim,λx=>⟨.inl,λz=>z.elim id id⟩,λ_ z=>z,ih⟩
 | d::ds,vs,h=>by unfold fQ at h;obtain⟨y,ys,rfl,h1,h2⟩:=h;rw[D3,D3,N7,N7];exact⟨NC y,_,nil,nil,U,λ_ z=>z.elim,λx=>⟨.inl,λz=>z.elim id id⟩,⟨λ_ z=>z,y,U,h1⟩,Uc h2⟩
theorem Mt{K:aJ}{H:Hp}{k:Nat}{ds:List D}{vs:List V}(h:fQ K H ds vs):Rel K H (ds.map SD.fro++E4 k SD.no) (vs.map NC++E4 k none) H:=by have g:aV H (out H nil):=λx u e=>bG.mpr ⟨λz=>z,e⟩;exact⟨nil,Uc (g.uq _ _ h),g⟩
theorem Raw.uW{P:AJ}{w:AN}{K:aJ}{mg:Str→Option A6}{base:AM}{x:Str}{st:AH}{N ps:List Str}{k:Nat}{g:GS}(R:Raw K mg x st)(S:aZ N ps (aK st))
  (hb:∀(kV doc pm:A6)(an:Option A7)(cdv ct:A6)(us:List A6),us.length=ps.length→DU (F8 x x (gD st) (cR st) (aK st) .none kV doc pm an cdv ct) ⟨us,[]⟩=pure (ps.zip us))
  (hbody:∀(f:A7)(cdv:A6)(A:AL)(outer:List Env)(s:A8)(H:Hp)(E:XK),lA k (A.deeper (BN x (aK st) s.heap.objs.size f cdv)) →
   ∃t,YB K (Gw FZ P w K mg base N x (aK st) f cdv A outer s H E).bw (cR st) t g):lN P w K mg base x (k+1) ps.length (gW K ps.length (oZ N.length ps.length g)):=by
 refine R.cal S (λvs H Q E h=>?_) hb (λf cdv A outer s H vs Q E hr h=>?_)
 ·obtain⟨ds,d,h1,h2,_⟩:=h;rw[h2.length];exact h1
 obtain⟨ds,d,h1,h2,h3,kk⟩:=h;obtain⟨t,yb⟩:=hbody f cdv A outer s H E hr;refine⟨t,yb.ps,yb.ev H _ _ H (ds.map SD.fro++E4 (N.length-ps.length) SD.no) ?_ ?_⟩
 ·have hl:vs.length=ps.length:=by rw[h2.length];exact h1
  have:=Mt (k:=N.length-ps.length) h2;unfold start;rw[hl];exact this
 ·unfold oZ at h3;rw[if_pos h1]at h3;cases q:g (ds.map SD.fro++E4 (N.length-ps.length) SD.no)with
  | ret d'=>
   rw[q]at h3;cases h3;refine λv H' A' s' o=>kk v H' (s'.trans (mU _ _)) ⟨A',o,λa qa=>?_⟩;cases e:H a with
   | none=>rfl
   | some u=>exact absurd qa (bG.mp (s' a u e)).1
  | next env'=>
   rw[q]at h3;cases h3;refine λσ' H' ⟨A',_,s'⟩=>kk .non H' (s'.trans (mU _ _)) (.jJ U (by unfold Rv;rfl))
  | brk env'=>rw[q]at h3;cases h3
  | cont env'=>rw[q]at h3;cases h3
  | bad=>rw[q]at h3;cases h3
  | rete d e=>rw[q]at h3;cases h3
end L2


namespace L2
open PySem PySem.Spec PyProof.Rows
section
variable{K:aJ}{X:Cx}{e a b c:AD}{es:List AD}{t ta tb te:TE}{f g:FE}{tA:TA}{fs:FA}{pos:Pos}{i j:Nat}{π:FP}{st:AH}{gb:GS}{tc:TT}{fc:FT}
def Cd(f:FE):FE:=λe=>(f e).bind λd=>match d with | .int i=>NC (.int (-i)) | _=>none
theorem uC(ha:XR K X a ta f):XN K X (.UnaryOp .USub a pos) (tUn (rU λi=>.int (-i)) ta) (Cd f):=aHJ ha
theorem Rc{tg elt iter:AD}{ifs:List AD}{scope:BF}{spos py:Pos}{y:Str}{wi:TI}{fi:FA}{fe:FE}(N:List Str)(fr:List Nat)(hcalm:X.calm=NF)(B:mG X.env.scope scope X.N N 1 fr)(hN:X.N.Nodup)(hy:X.N[i]?=NC y)(hx:Loc X.env.scope y)(hi:XI K X tg iter wi fi)
  (hg:∀cl fp s H C,PG (mK X scope N cl fp s H C) tg (lW 0)) (hc:∀cl fp s H C,XTs K (mK X scope N cl fp s H C) ifs tc fc) (he:∀cl fp s H C,XN K (mK X scope N cl fp s H C) elt te fe)
  (hsw:Ct (.ListComp elt [⟨tg,iter,ifs,0⟩] scope pos) (NC (.Name y py)) spos.line X.env=pure NF:=by rfl)
  (hs:∀x,BC iter X.env x=pure x:=by intro _;rfl) (hf:X.fn y=NF∨X.env.scope.names.lookup y=NC .local:=by first | exact .inl U | exact .inr U | assumption) :
  YS K X (.Assign [.Name y py] (.ListComp elt [⟨tg,iter,ifs,0⟩] scope pos) spos) (Bm (QM wi 1 fr (lW 0) tc te) (lW i)) (cU i (gU fi fr fc fe)):=
 ⟨aEO N 1 fr hcalm B hN hy hx hi.pi hg (λcl fp s H C=>(hc cl fp s H C).pts) (λcl fp s H C=>(he cl fp s H C).pe) hsw hs hf,aCf (uz hi.ev (hc [] [] X.s₀ X.H₀ 0).ev (he [] [] X.s₀ X.H₀ 0).ev)⟩
def EvJ(K:aJ)(wi:TI)(fi:FA):Prop:=∀(σ:St)(H:Hp)(e:DE)(ds:List D)(R:It→Hp→Prop),Fq K H e σ→fi e=NC ds →
 (∀J H' P vs,aV H H'→JIs J P vs→(∀H2,P H2)→(∀Z,fQ K Z ds vs)→R J H')→wi σ H R
structure XJ(K:aJ)(X:Cx)(tg iter:AD)(wi:TI)(fi:FA):Prop where
 pi:PI X tg iter wi
 ev:EvJ K wi fi
theorem Ej{tg:AD}{p:Pos}(hg:Gl X "range") (hm:X.mg "range" = none) (ha:XA K X [a] tA fs) (hs:AB [a] X.env=[(NG,AO a X.env)]:=by rfl):XJ K X tg (.Call (.Name "range" p) [a] [] pos) (aBx tA) (sO fs):=⟨Xw hg hm ha.pa hs,λσ H e ds R re q k=>by
 unfold sO at q;obtain⟨es,q1,q2⟩:=bA q;split at q2
 ·rename_i n;split at q2
  ·rename_i hl;cases q2;have hl:=Mq hl;refine ha.ev σ H H e _ _ (Zn.self K H) re q1 λvs H1 Z1 s1 t1 z1 rs=>?_;obtain⟨v,rfl,r⟩:=uT rs;unfold Rv at r;subst r;exact⟨n,U,by omega,by omega,k _ H1 _ _ s1 Ea (λ_=>True.intro) λZ=>Ef 0 n.toNat⟩
  ·cases q2
 ·cases q2⟩
theorem aAA{tg:AD}{p:Pos}(hp:PA X [a,b] tA→PI X tg (.Call (.Name "range" p) [a,b] [] pos) (QB tA)) (ha:XA K X [a,b] tA fs):XJ K X tg (.Call (.Name "range" p) [a,b] [] pos) (QB tA) (Gj fs):=⟨hp ha.pa,λσ H e ds R re q k=>by
 unfold Gj at q;obtain⟨es,q1,q2⟩:=bA q;split at q2
 ·rename_i i j;split at q2
  ·rename_i hl;cases q2;have hl1:=Mq hl.1;have hl2:=Mq hl.2;refine ha.ev σ H H e _ _ (Zn.self K H) re q1 λvs H1 Z1 s1 t1 z1 rs=>?_;obtain⟨v,w,rfl,r,r'⟩:=iy rs;unfold Rv at r r';subst r r';exact⟨i,j,U,⟨by omega,by omega,by omega,by omega⟩,k _ H1 _ _ s1 Ea (λ_=>True.intro) λZ=>Ef i (j-i).toNat⟩
  ·cases q2
 ·cases q2⟩
theorem aGq{tg:AD}{p:Pos}(hp:PA X [a,b] tA→PI X tg (.Call (.Name "range" p) [a,b] [] pos) (QB tA)) (ha:XA K X [a,b] tA fs):XI K X tg (.Call (.Name "range" p) [a,b] [] pos) (QB tA) (Gj fs):=⟨ha.hk,hp ha.pa,λσ H Z e ds R z re q k=>by
 unfold Gj at q;obtain⟨es,q1,q2⟩:=bA q;split at q2
 ·rename_i i j;split at q2
  ·rename_i hl;cases q2;have hl1:=Mq hl.1;have hl2:=Mq hl.2;refine ha.ev σ H Z e _ _ z re q1 λvs H1 Z1 s1 t1 z1 rs=>?_;obtain⟨v,w,rfl,r,r'⟩:=iy rs;unfold Rv at r r';subst r r';exact⟨i,j,U,⟨by omega,by omega,by omega,by omega⟩,k _ H1 Z1 _ _ s1 t1 z1 Ea (λ_ _=>True.intro) (Ef i (j-i).toNat)⟩
  ·cases q2
 ·cases q2⟩
def yC(i:Nat)(fi:FA)(g:GS):GS:=λenv=>match fi (rE env)with
 | some xs=>Mr i g xs env
 | none=>.bad
theorem aE8{wi:TI}{fi:FA}{tb:TS}(hi:EvJ K wi fi)(h:DS K tb gb):DS K (cu wi (lW i) tb) (yC i fi gb):=λB E σ H env r p=>by
 unfold yC at p;split at p
 ·rename_i xs q;refine hi σ H (rE env) xs _ r.r q λJ H1 P vs s hJ hP rvs=>?_;have hl:=(rvs H).length;refine GD hJ (λk σ2 H2=>∃fW,Rel K B fW σ2 H2∧Wv K B E (Mr i gb (xs.drop k) fW)) ⟨env,r.same s,by simpa using p⟩ (λk σ2 H2 _ _=>hP H2) ?_ ?_
  ·rintro k x σ2 H2 hx ⟨fW,r2,p2⟩;have hk:k<xs.length:=by obtain⟨h1,_⟩:=D2.mp hx;omega
   rw[O2 hk]at p2;unfold Mr at p2;split at p2
   ·rename_i hlen;obtain⟨A2,a2,b2⟩:=r2;obtain⟨x',hx',rx⟩:=(rvs (out H2 A2)).get (B7 hk);rw[hx]at hx';cases hx';have r3:Rel K B (fW.set i (.fro xs[k])) (σ2.set i (NC x)) H2:=HR a2 b2 hlen (aV.refl _) (aV.refl _) (HQ a2) rx;refine h B _ _ H2 _ r3 ?_;split at p2
    ·rename_i env' q2;rw[q2];exact λσ' H' r'=>⟨env',r',p2⟩
    ·rename_i env' q2;rw[q2];exact λσ' H' r'=>⟨env',r',p2⟩
    ·rename_i env' q2;rw[q2];exact p2
    ·rename_i n1 n2 n3;cases q2:gb (fW.set i (.fro xs[k]))with
     | next e=>exact absurd q2 (n1 e)
     | cont e=>exact absurd q2 (n2 e)
     | brk e=>exact absurd q2 (n3 e)
     | ret d=>rw[q2]at p2;exact p2
     | bad=>rw[q2]at p2;exact p2
     | rete d e=>rw[q2]at p2;exact p2
   ·exact p2.elim
  ·rintro σ2 H2 ⟨fW,r2,p2⟩;rw[hl,T3]at p2;exact p2 σ2 H2 r2
 ·exact p.elim
theorem Ju{tg iter:AD}{body:List AH}{wi:TI}{fi:FA}{tb:TS}(hp:EK (AG X.prog X.w) X.A X.env X.xe)(aCh:X.calm=NF)(hi:XJ K X tg iter wi fi)(hg:PG X tg (lW i))(hb:YB K X body tb gb)
  (hs:∀x,BC iter X.env x=pure x:=by intro _;rfl):YS K X (.For tg iter body [] pos) (cu wi (lW i) tb) (yC i fi gb):=⟨cz hp aCh hi.pi hg hb.ps hs,aE8 hi.ev hb.ev⟩
theorem aAB{m m':Str}{apos cpos aGr aGs:Pos}(he:XR K X e te f)(hp:PE X e te→PS X (.Expr (.Call (.Attribute a m apos) [.Call (.Attribute b m' aGr) [e] [] aGs] [] cpos) pos) (oH (Sh K "list" uA (sE i) (gF (Sh K "list" Gx (sE j) (gF te oK)) oK)))):YS K X (.Expr (.Call (.Attribute a m apos) [.Call (.Attribute b m' aGr) [e] [] aGs] [] cpos) pos) (oH (Sh K "list" uA (sE i) (gF (Sh K "list" Gx (sE j) (gF te oK)) oK))) (Ei i j f):=⟨hp he.pe,aAy he.ev⟩
end
theorem je{K:aJ}{st:AH}{f:A7}{fd:BE}(F:Fun K "law" "law" st f fd) (hb:∀(kV doc pm:A6)(an:Option A7)(cdv ct:A6)(u:A6),DU (F8 "law" "law" (gD st) (cR st) (aK st) .none kV doc pm an cdv ct) ⟨[u],[]⟩=pure [(("script" : Str),u)]):∀(s:A8)(u:A6),Fn s fd ⟨[u],[]⟩ [("script", u)]:=by obtain⟨oc,od,kV,doc,pm,an,cdv,ct,osl,rfl,lk,hcd⟩:=F.ex;exact λs u=>.of_eq (hb kV doc pm an cdv ct u)
theorem oM{K:aJ}{h:AM}{mg:Str→Option A6}{x:Str}{i:Int}{t:Tok}(X:K.In h)(G:h.Ns AV mg)(a:R3 K AV x=NC (NC (.int i t))):jL mg x i:=⟨t,c7 X G a⟩
end L2


namespace L2
open PySem PySem.Spec PyProof.Rows
section
variable{K:aJ}{X:Cx}{e a b c:AD}{es:List AD}{t ta tb te:TE}{f g:FE}{tA:TA}{fs:FA}{pos:Pos}{i j:Nat}{π:FP}{st:AH}
variable{lo hi:Option AD}{tl th:TO}{fl fh:FO}{p2:Pos}
def aCl(K:aJ):R2:=λx y H Q=>∃a b xs ys,x=.ref a∧y=.ref b∧yV K H a xs∧yV K H b ys∧xs.length+ys.length≤sizeLine ∧
 (xs=[]→Q (.ref b) H)∧(xs≠[]→ys=[]→Q (.ref a) H)∧(xs≠[]→ys≠[]→∀p,H p=none→Q (.ref p) (upd H p (.tup (xs++ys))))
theorem aCm{s:A8}{A:AL}{prog:AJ}{w:AN}{E:A6→A8→Prop}{x y:A7}{us ws:List A6}{Q:A6→A8→Prop}(hx:IG s.heap x us.toArray)(hy:IG s.heap y ws.toArray)(hu:us=[])(q:Q (.ref y) s):AF (AG prog w) A (BS .Add (.ref x) (.ref y)) Q E s:=by obtain⟨⟨k1,f1,g1,l1⟩,a1,b1,n1,c1⟩:=hx;obtain⟨⟨k2,f2,g2,l2⟩,a2,b2,n2,c2⟩:=hy;dsimp only at b1 c1 b2 c2;subst b1 c1 b2 c2;exact FF ⟨_,a1,U⟩ ⟨_,a2,U⟩ FG GV S0 R8 (R1 _ _) (tuple_addW0 x y us.toArray ws.toArray n1 n2 f1 f2 l1 l2 (by simp[hu])) ⟨a1,a2,q⟩
theorem aE9(hk:X.K=K):xR X (BS .Add) (aCl K):=by
 subst hk;intro pins s σ H x y v u Q I rx ry h;obtain⟨a,b,xs,ys,rfl,rfl,ha,hb,hz,q0,q1,q2⟩:=h;by_cases hx:xs=[]
 ·cases rx;cases ry;obtain⟨its,r1,p1,_⟩:=I.tuple ha;obtain⟨its2,r2,p2,_⟩:=I.tuple hb;exact aCm p1 p2 (r1.Qx.mpr hx) ⟨.ref b,H,I,U,q0 hx⟩
 ·exact aEv pins s σ H (.ref a) (.ref b) v u Q I rx ry ⟨a,b,xs,ys,U,U,ha,hb,hx,hz,q1 hx,q2 hx⟩
def Yu(a b:D):Option D:=match a,b with
 | .tup x,.tup y=>if D.fU x=NF∧D.fU y=NF∧x.length+y.length≤100000 then NC (.tup (x++y))else none
 | _,_=>none
theorem aFa:OD K (aCl K) Yu:=λx y H a b d Q ra rb q k=>by
 unfold Yu at q;split at q
 ·rename_i u v;split at q
  ·rename_i c;cases q;unfold Rv at ra rb;obtain⟨p,xs,rfl,r2,r3⟩:=ra;obtain⟨p',xs',rfl,r2',r3'⟩:=rb;refine⟨p,p',xs,xs',U,U,r2,r2',Yn (by rw[r3.length,r3'.length];exact c.2.2),λz=>?_,λ_ z=>?_,λ_ _ l hl=>?_⟩
   ·have hu:u=[]:=F6 (by rw[←r3.length,z];rfl);rw[hu,P4]at k;exact k _ H (aV.refl _) (.jJ (by unfold D.jJ;exact c.2.1) (by unfold Rv;exact⟨p',xs',U,r2',r3'⟩))
   ·have hv:v=[]:=F6 (by rw[←r3'.length,z];rfl);rw[hv,F3]at k;exact k _ H (aV.refl _) (.jJ (by unfold D.jJ;exact c.1) (by unfold Rv;exact⟨p,xs,U,r2,r3⟩))
   ·have hi:D.fU (u++v)=NF:=by
     have:∀(u v:List D),D.fU u=NF→D.fU v=NF→D.fU (u++v)=NF:=by
      intro u v h1 h2
      induction u with
      | nil=>exact h2
      | cons x u ih=>unfold D.fU at h1;rw[G7]at h1;rw[N7];unfold D.fU;rw[G7];exact⟨h1.1,ih h1.2⟩
     exact this u v c.1 c.2.1
    exact k _ _ (dI hl _) (GX (.fU hi (r3.append r3')) hl)
  ·cases q
 ·cases q
theorem aFb(ha:XR K X a ta f)(hb:XR K X b tb g):XN K X (.BinOp a .Add b pos) (Xx (aCl K) ta tb) (f2 Yu f g):=Tp (aE9 ha.hk) aFa ha hb
end
end L2


namespace L2
open PySem PySem.Spec PyProof.Rows
theorem bgo(xs:Array Nat)(j:Nat):∀(fuel lo hi:Nat),hi-lo≤fuel→lo≤hi→hi≤xs.size→xs.toList.Pairwise (·<·) →
  (∀i,i<lo→xs.getD i 0<j)→(∀i,hi≤i→i<xs.size→j≤xs.getD i 0) →
  Cf xs j fuel lo hi≤xs.size∧(∀i,i<Cf xs j fuel lo hi→xs.getD i 0<j)∧(∀i,Cf xs j fuel lo hi≤i→i<xs.size→j≤xs.getD i 0)
 | 0,lo,hi,h1,h2,h3,up,h4,h5=>by
  unfold Cf;have e:lo=hi:=by omega
  subst e;exact⟨h3,h4,h5⟩
 | fuel+1,lo,hi,h1,h2,h3,up,h4,h5=>by
  unfold Cf;have mono:∀a b,a<b→b<xs.size→xs.getD a 0<xs.getD b 0:=λa b q q'=>by have:=K5.mp up a b (by simp;omega) (by simpa using q') q;simp only[U4]at this;simpa[O3,q',show a<xs.size by omega]using this
  split
  ·rename_i c;have hm:(lo+hi)/2<xs.size:=by omega
   have e:xs.getD ((lo+hi)/2) j=xs.getD ((lo+hi)/2) 0:=by simp[O3,hm]
   dsimp only;rw[e];by_cases c2:xs.getD ((lo+hi)/2) 0<j
   ·rw[if_pos c2];refine bgo xs j fuel ((lo+hi)/2+1) hi (by omega) (by omega) h3 up (λi hi'=>?_) h5;rcases K4 i ((lo+hi)/2)with z | z
    ·have:=mono i _ z hm;omega
    ·have z':i=(lo+hi)/2:=by omega
     subst z';exact c2
   ·rw[if_neg c2];refine bgo xs j fuel lo ((lo+hi)/2) (by omega) (by omega) (by omega) up h4 λi hi' hs=>?_;rcases K4 ((lo+hi)/2) i with z | z
    ·have:=mono _ i z hs;omega
    ·have z':i=(lo+hi)/2:=by omega
     subst z';omega
  ·have e:lo=hi:=by omega
   subst e;exact⟨h3,h4,h5⟩
theorem below_at{xs:Array Nat}(up:xs.toList.Pairwise (·<·))(j:Nat) :
  AR xs j≤xs.size∧(∀i,i<AR xs j→xs.getD i 0<j)∧(∀i,AR xs j≤i→i<xs.size→j≤xs.getD i 0):=by
 unfold AR;exact bgo xs j xs.size 0 xs.size (by omega) (M0 _) (C5 _) up (λi h=>absurd h (L6 _)) λi h h'=>by omega
def Led(b:Bool)(t:SetTable):Prop:=t.led=b∧(t.plain=NF→t.place.toList.Pairwise (·<·)∧t.dummies=#[])
theorem Led.fresh(b:Bool):Led b (.fresh 0 0 b):=⟨U,λ_=>⟨by simp[Md],U⟩⟩
theorem Led.standIn{b:Bool}{t:SetTable}(h:Led b t)(n:Nat):Led b (t.standIn n):=⟨h.1,λq=>by simp[MV]at q⟩
theorem Led.off{b:Bool}{t:SetTable}(h:Led b t):Led b {t with plain:=NG}:=⟨h.1,λq=>by simp at q⟩
theorem pgo{t:SetTable}(hd:t.dummies=#[]){g:Nat→Int}{h:Int}:∀(fuel:Nat)(p:Me)(j:Nat)(d:Option Nat),p.dummy=none→ES t g h fuel p=NC (.empty j d)→d=none∧t.slot j=.empty
 | 0,p,j,d,_,q=>by simp[ES]at q
 | fuel+1,p,j,d,e,q=>by
  unfold ES at q;have adv:(t.advance p).dummy=none:=by
   unfold MW;split
   ·exact e
   ·exact e
  split at q
  ·rename_i c;injection q with q;injection q with q1 q2;rw[←q1,←q2];exact⟨e,c⟩
  ·rename_i c;exfalso;unfold KP at c;dsimp only at c;split at c
   ·cases c
   ·split at c
    ·rename_i z;rw[hd]at z;simp[HL]at z
    ·cases c
  ·split at q
   ·cases q
   ·exact pgo hd fuel _ j d adv q
theorem Yv{t:SetTable}(hd:t.dummies=#[]){h:Int}{j:Nat}{w:Bool}(q:t.freeSlot h=NC (j,w)):t.slot j=.empty∧w=NG:=by
 unfold MQ at q;split at q
 ·rename_i j' d e;obtain⟨rfl,e2⟩:=pgo hd _ _ _ _ (by rfl) e;simp at q;obtain⟨rfl,rfl⟩:=q;exact⟨e2,U⟩
 ·cases q
theorem aCn{t:SetTable}(hd:t.dummies=#[])(up:t.place.toList.Pairwise (·<·)){j:Nat}(q:t.slot j=.empty):(t.put j).1.place.toList.Pairwise (·<·)∧(t.put j).1.dummies=#[]:=by
 obtain⟨b1,b2,b3⟩:=below_at up j;refine⟨?_,?_⟩
 ·show (MR t.place (AR t.place j) j).toList.Pairwise (·<·);rw[LA];have ne:t.place[AR t.place j]?≠NC j:=λz=>by unfold KP at q;dsimp only at q;rw[z]at q;simp at q
  have lo:∀x∈t.place.toList.take (AR t.place j),x<j:=λx hx=>by
   obtain⟨i,hi,rfl⟩:=K0 hx;rw[J4]at hi;have hs:i<t.place.size:=by simp at hi;omega
   have:=b2 i (by omega);simpa[O3,hs]using this
  have hi:∀x∈t.place.toList.drop (AR t.place j),j<x:=λx hx=>by
   obtain⟨i,hi,rfl⟩:=K0 hx;rw[Q5,J9]at hi;have hs:AR t.place j+i<t.place.size:=by omega
   have h1:=b3 (AR t.place j+i) (by omega) hs;have e:(t.place.toList.drop (AR t.place j))[i]=t.place.getD (AR t.place j+i) 0:=by simp[O3,hs]
   rw[e];rcases W0 i with z | z
   ·subst z;rcases K4 j (t.place.getD (AR t.place j+0) 0)with y | y
    ·exact y
    ·refine absurd ?_ ne;have e2:t.place.getD (AR t.place j) 0=j:=by simp only[Nat.add_zero]at y h1;omega
     rw[M8 (by omega)];simpa[O3,show AR t.place j<t.place.size by omega]using e2
   ·have h0:=b3 (AR t.place j) (C5 _) (by omega);have:=K5.mp up (AR t.place j) (AR t.place j+i) (by simp;omega) (by simpa using hs) (by omega);simp only[U4]at this;have e3:t.place.getD (AR t.place j) 0<t.place.getD (AR t.place j+i) 0:=by simpa[O3,hs,show AR t.place j<t.place.size by omega]using this
    omega
  refine N3.mpr ⟨up.sublist (O1 _ _),I0.mpr ⟨hi,up.sublist (i3 _ _)⟩,λx hx y hy=>?_⟩;have h1:=lo x hx;rcases D5.mp hy with z | z
  ·omega
  ·have:=hi y z;omega
 ·show (if HL t.dummies j then _ else t.dummies)=#[];rw[hd];simp[HL]
theorem Led.lay{b:Bool}{t:SetTable}(h:Led b t)(es:Array (Int×A6))(k:Int)(x:A6):Led b (layNew t es k x).2.1:=by
 unfold layNew;split
 ·rename_i j w e;dsimp only;unfold MM;split
  ·refine⟨h.1,λq=>?_⟩;obtain⟨u,d⟩:=h.2 q;exact aCn d u (Yv d e).1
  ·exact Led.standIn (t:=(t.put j).1) ⟨h.1,λq=>by
    obtain⟨u,d⟩:=h.2 q;exact aCn d u (Yv d e).1⟩ _
 ·exact h.standIn _
theorem aGt{β:Type}(f:Nat→Option β):∀l:List Nat,l.Pairwise (·<·)→((l.filterMap λj=>(f j).map λy=>(j,y)).map (·.1)).Pairwise (·<·)∧∀x∈((l.filterMap λj=>(f j).map λy=>(j,y)).map (·.1)),x∈l
 | [],_=>⟨.nil,λx h=>by simp at h⟩
 | a::l,h=>by
  obtain⟨h1,h2⟩:=I0.mp h;obtain⟨i1,i2⟩:=aGt f l h2;rw[Q8];cases e:f a with
  | none=>exact⟨i1,λx hx=>C8 _ (i2 x hx)⟩
  | some y=>
   refine⟨I0.mpr ⟨λx hx=>h1 x (i2 x hx),i1⟩,λx hx=>?_⟩;rcases D5.mp hx with z | z
   ·exact z▸D6
   ·exact C8 _ (i2 x z)
theorem Led.aJv{b:Bool}{t:SetTable}(h:Led b t)(es:Array (Int×A6))(n:Nat):Led b (EE t es n).2.1:=by
 unfold EE;split
 ·rename_i t' order e;dsimp only;split
  ·dsimp only;unfold Mb Mo at e;obtain⟨ow,e1,e2⟩:=bA e;injection e2 with e2;injection e2 with e3 e4;rw[←e3];exact⟨h.1,λ_=>⟨by simpa using (aGt (λj=>ow.getD j none) _ S6).1,U⟩⟩
  ·exact h.standIn _
 ·exact h.standIn _
theorem Ho{α:Type}:∀(l:List α)(i:Nat)(h:i<l.length),(l[i]::l.eraseIdx i).Perm l
 | [],i,h=>absurd h (by simp)
 | a::l,0,h=>R6 _
 | a::l,i+1,h=>by have:=Ho l i (by simpa using h);simp only[List.getElem_cons_succ,M3];exact(l8 a _ _).trans (this.cons a)
theorem vm{α:Type}(next:Nat→Nat):∀(n:Nat)(left:List α)(k:Nat)(out:Array α),left.length=n→((HM next n k left out).toList).Perm (out.toList++left)
 | 0,left,k,out,hn=>by have:left=[]:=F6 hn;subst this;simp[HM]
 | n+1,left,k,out,hn=>by
  unfold HM;have hl:next k%left.length<left.length:=U5 _ (by omega)
  rw[B7 hl];dsimp only;refine(vm next n (left.eraseIdx (next k%left.length)) (k+1) _ (by rw[W5 hl];omega)).trans ?_;rw[i4,P6];exact a9 _ (Ho _ _ hl)
theorem aAC{α:Type}(next:Nat→Nat)(xs:Array α):(HP next xs).toList.Perm xs.toList:=by
 have:=vm next xs.size xs.toList 0 #[] (by simp)
 simpa[HP]using this
end L2


namespace L2
open PySem PySem.Spec PyProof.Rows
section
variable{prog:AJ}{w:AN}{A:AL}{E:A6→A8→Prop}{s:A8}{b:Bool}
def Hq(prog:AJ)(w:AN)(b:Bool)(h:AM)(a:A7)(S:Int→Bool)(n:Nat):Prop:=
 ∃o es ep t,h.get? a=NC o∧o.ExactSet∧o.data=.set es ep t∧JI (intKind prog w) es.toList∧(∀k,S k=NF↔∃e∈es.toList,(intKind prog w).is k e.2=NF)∧es.size<CS∧t.fits es.size=NF∧es.size=n∧Led b t
theorem Hq.at_{h h':AM}{a:A7}{S:Int→Bool}{n:Nat}(x:Hq prog w b h a S n)(e:∀o,h.get? a=NC o→h'.get? a=NC o):Hq prog w b h' a S n:=
 let ⟨o,es,ep,t,ho,r⟩:=x;⟨o,es,ep,t,e o ho,r⟩
theorem Hq.to{h:AM}{a:A7}{S S':Int→Bool}{n n':Nat}(x:Hq prog w b h a S n)(e:∀k,S k=S' k)(en:n=n'):Hq prog w b h a S' n':=by subst en;have:S=S':=funext e;rw[←this];exact x
theorem aGu{h:AM}{a:A7}{o:Obj}{es es':Array (Int×A6)}{ep:Nat}{t t':SetTable}{S':Int→Bool}(ho:h.get? a=NC o)(hex:o.ExactSet)(hd:o.data=.set es ep t)(hel:JI (intKind prog w) es'.toList)
  (hm:∀k,S' k=NF↔∃e∈es'.toList,(intKind prog w).is k e.2=NF) (hz:es'.size<CS) (hf:t'.fits es'.size=NF) (hl:Led b t') :
  (h.update a (IU es' t')).get? a=NC {o with data:=.set es' (ep+1) t'}∧Hq prog w b (h.update a (IU es' t')) a S' es'.size:=
 have g:=(SetOf_store (knd:=intKind prog w) ho hex hd hel hm hz hf).1
 ⟨g,_,es',ep+1,t',g,hex,U,hel,hm,hz,hf,U,hl⟩
theorem aCo{g:Bool→Sem Unit}(hg:∀(c:Bool)(s₁:A8)(Q':Unit→A8→Prop),Q' () s₁→AF (AG prog w) A (g c) Q' E s₁){a:A7}{o:Obj}{es e1:Array (Int×A6)}{ep:Nat}{t t2:SetTable}{S':Int→Bool}
  (ho:s.heap.get? a=NC o) (hex:o.ExactSet) (hd:o.data=.set es ep t) (hel:JI (intKind prog w) e1.toList) (hm:∀k,S' k=NF↔∃e∈e1.toList,(intKind prog w).is k e.2=NF) (hz:e1.size<CS) (hf:t2.fits e1.size=NF) (hl:Led b t2)
  {wd:Bool} {R:Option Bool→A8→Prop} (h:∀h',BG a s.heap h'→Hq prog w b h' a S' e1.size→R (NC NF) {s with heap:=h'}) :
  AF (AG prog w) A (do
    storeSet a e1 t2
    if(!wd&&t2.tooFull)=NF then do
      g (EE t2 e1 (BH e1.size)).2.2
      storeSet a (EE t2 e1 (BH e1.size)).1 (EE t2 e1 (BH e1.size)).2.1
      pure (NC NF)
     else pure (NC NF)) R E s:=by
 obtain⟨g1,s1⟩:=aGu (prog:=prog) (w:=w) ho hex hd hel hm hz hf hl;refine A9 (He ho hd ?_ (ET hz));have sb:=B3 s.heap a (IU e1 t2);split
 ·have pm:=relayAll_perm t2 e1 (BH e1.size);have ff:=relayAll_fits t2 e1 (BH e1.size);have ll:=hl.aJv e1 (BH e1.size);have sz:(EE t2 e1 (BH e1.size)).1.size=e1.size:=by rw[←J9,pm.length_eq,J9]
  have zz:(EE t2 e1 (BH e1.size)).1.size<CS:=by rw[sz];exact hz
  refine A9 (hg _ _ _ (A9 (He g1 U ?_ (ET zz))));obtain⟨_,s2⟩:=aGu (prog:=prog) (w:=w) (S':=S') g1 hex U (hel.perm pm) (λk=>(hm k).trans ⟨λ⟨e,he,q⟩=>⟨e,pm.mem_iff.mpr he,q⟩,λ⟨e,he,q⟩=>⟨e,pm.mem_iff.mp he,q⟩⟩) zz ff ll;rw[sz]at s2;exact AE (h _ (sb.trans (B3 _ a _)) s2)
 ·exact AE (h _ sb s1)
theorem aJw{a:A7}{S:Int→Bool}{n:Nat}{k:Int}{tk:Tok}{Q:Bool→A8→Prop}(hS:Hq prog w b s.heap a S n)(room:n+1<CS)
  (h:∀h',BG a s.heap h'→Hq prog w b h' a (λj=>S j||decide (j=k)) (if S k then n else n+1)→Q (!S k) {s with heap:=h'}) :
  AF (AG prog w) A (LB a (.int k tk) ((intKind prog w).hash k)) Q E s:=by
 obtain⟨o,es,ep,t,ho,hex,hd,hel,hm,hb,hf,hn,hl⟩:=hS;have key:(intKind prog w).is k (.int k tk)=NF:=IX _ _ _ _;have sc:(CL k tk).scannable=NF:=rfl;unfold LB setAddHashedIn;refine BQ (A9 (BU ho hd hf ?_));dsimp only;rw[byScan_of sc hb hel];simp only[↓reduceIte];unfold setAddByScan;refine A9 (A9 (IY (A9 (wpAny_setScan_of key ho hd hf hel ?_))));cases hr:List.findIdx? (λe=>(intKind prog w).is k e.2) es.toList with
 | some j=>
  dsimp only;obtain⟨hj,pj,_⟩:=List.findIdx?_eq_some_iff_getElem.mp hr;have hk:S k=NF:=(hm k).mpr ⟨es.toList[j],N6 hj,pj⟩;have z:=h s.heap (MS a s.heap) ⟨o,es,ep,t,ho,hex,hd,hel,λj=>by
   rw[k7,decide_eq_true_eq,←hm j];exact⟨λq=>q.elim id λe=>by rw[e];exact hk,.inl⟩,hb,hf,by rw[hk];exact hn,hl⟩
  rw[hk]at z;exact AE (AE z)
 | none=>
  dsimp only;have hk:S k=NG:=by
   cases e:S k with
   | false=>rfl
   | true=>obtain⟨x,hx,px⟩:=(hm k).mp e;have:=List.findIdx?_eq_none_iff.mp hr x hx;rw[px]at this;cases this
  have hgw:∀(c:Bool) {s₁:A8} {Q':Unit→A8→Prop},Q' () s₁→AF (AG prog w) A (match c with | true=>rule "set.scan.the-table-gave-way" | false=>pure ()) Q' E s₁:=λc s₁ Q' q=>by
   cases c
   ·exact AE q
   ·exact IY q
  have pm:=layNew_perm t es ((intKind prog w).hash k) (.int k tk);have ff:=layNew_fits t es ((intKind prog w).hash k) (.int k tk);have ll:=hl.lay es ((intKind prog w).hash k) (.int k tk);generalize layNew t es ((intKind prog w).hash k) (.int k tk)=Y at pm ff ll ⊢;obtain⟨e1,t1,wd,gave⟩:=Y;dsimp only at pm ff ll ⊢;rw[i4]at pm;have sz:e1.size=n+1:=by rw[←J9,pm.length_eq,C7,J9,hn];rfl
  have zz:e1.size<CS:=by omega
  have el1:=(hel.push key sc).perm pm;have m1:=mem_push_iff (k:=k) key hm pm;refine A9 (hgw _ ?_);have fin:∀h',BG a s.heap h'→Hq prog w b h' a (λj=>S j||decide (j=k)) e1.size→Q NF {s with heap:=h'}:=λh' q1 q2=>by have z:=h h' q1;rw[hk]at z;rw[sz]at q2;exact z q2
  split
  ·rw[hashByValue_scannable 8 sc];refine A9 (AE ?_);refine aCo (b:=b) (λc s₁ Q' q=>hgw c q) ho hex hd el1 m1 zz ?_ ?_ λh' q1 q2=>?_
   ·split
    ·exact ff
    ·exact LL ff
   ·split
    ·exact ll
    ·exact ll.off
   ·dsimp only;exact AE (fin h' q1 q2)
  ·refine A9 (AE ?_);simp only[↓reduceIte];refine aCo (b:=b) (λc s₁ Q' q=>hgw c q) ho hex hd el1 m1 zz ff ll λh' q1 q2=>?_;dsimp only;exact AE (fin h' q1 q2)
end
section
variable{prog:AJ}{w:AN}{A:AL}{R:FB→A8→Prop}{I:A7}{fp wr:List A7}{G:Array ID→Array ID→Prop}{n:Nat}{P:Nat→A6→Prop}{St:Nat→A8→Prop}{b:Bool}
abbrev jf(prog:AJ)(w:AN)(b:Bool)(h:AM)(a:A7)(val:Nat→Int)(i:Nat):Prop:=Hq prog w b h a (λk=>(FI val i).any (·==k)) (FI val i).length
theorem aHT(W:WalksS prog w A.in1 I fp wr G n P St)(a:A7)(hf:a∉fp)(val:Nat→Int)(hval:∀i v,P i v→∃t,v=.int (val i) t)(hz:n+1<CS) :
  ∀(m i:Nat)(s:A8),n-i=m→i≤n→St i s→jf prog w b s.heap a val i→(∀s',Moved (a::wr) G s s'→jf prog w b s'.heap a val n→R (.ok (.ret .none)) s') →
   CH (AG prog w) A (.builtin "set.update.loop" ⟨[.ref a,.ref I],[]⟩) R s:=by
 have hw:a∉wr:=λz=>hf (W.sub _ z);have sub:∀c∈wr,c∈a::wr:=λc hc=>C8 _ hc;intro m
 induction m with
 | zero=>
  intro i s hk hi hst hS hR;have e:i=n:=by omega
  subst e;refine CU R4 ?_;rw[Bi N8 _];show AF _ A.in1 (DC (.ref I) >>= _) _ _ s;refine A9 (W.done s _ _ hst λs' mv=>?_);show AF _ A.in1 (ret BB) _ _ s';exact AE (hR s' (mv.mono sub) (hS.at_ λo e=>mv.heap a o hw e))
 | succ m ih=>
  intro i s hk hi hst hS hR;have lt:i<n:=by omega
  refine CU R4 ?_;rw[Bi N8 _];show AF _ A.in1 (DC (.ref I) >>= _) _ _ s;refine A9 (W.item i s _ _ lt hst λv s1 hP st1 mv=>?_);obtain⟨tk,rfl⟩:=hval i v hP;have S1:jf prog w b s1.heap a val i:=hS.at_ λo e=>mv.heap a o hw e;show AF _ A.in1 (CF [CL (val i) tk] (setAdd a (.int (val i) tk)) >>= _) _ _ s1;unfold setAdd;refine A9 (BQ (BQ (A9 ((intKind prog w).pyHash (k:=val i) (IX _ _ _ _) ?_))));have room:(FI val i).length+1<CS:=by have:=HU val i;omega
  refine aJw (s:={s1 with toks:=s1.toks+1}) S1 room λh' sb S2=>?_;have S3:jf prog w b h' a val (i+1):=S2.to (λj=>by rw[GY,step_any]) (by rw[GY,step_length]);refine AE ⟨DT N8 _,ih (i+1) _ (by omega) lt (W.frame _ s1 _ _ st1 (M9 _) λc hc o e=>?_) S3 λs2 mv2 S4=>?_⟩
  ·rw[sb.2 c λz=>hf (by rw[←z];exact hc)];exact e
  ·refine hR s2 (Moved.trans W.gtrans ((mv.mono sub).then_heap (M9 _) λc o hc e=>?_) mv2) S4;rw[sb.2 c λz=>hc (by rw[z];exact D6)];exact e
end
end L2


namespace L2
open PySem PySem.Spec PyProof.Rows
section
variable{prog:AJ}{w:AN}{A:AL}{E:A6→A8→Prop}{s:A8}
abbrev xG(b:Bool):Obj:={cls:=.type "set", dict:=none,data:=.set #[] 0 (.fresh 0 0 b)}
abbrev xH(w:AN):Bool:=!w.params.followText "set-order"
theorem aJx(a:A6){Q:A6→A8→Prop}(h:Q (.ref s.heap.objs.size) {s with heap:=s.heap.push (xG (xH w))}) :
  CH (AG prog w) A (.call (.builtin "set.__new__") ⟨[.type "set", a],[]⟩) (wants Q E) s:=by
 refine IZ ?_;show AF _ A.in1 (checkBuiltinCall "set.__new__" ⟨[.type "set", a],[]⟩ >>= λ_=>again (.builtin "set.__new__" ⟨[.type "set", a],[]⟩)) _ _ s;refine A9 (DF (PySem.F.newCall_set_1 a) (AE ⟨DT b4 _,CU PySem.F.entry_set_new ?_⟩));rw[Bi b4 _];unfold DH.«set.__new__» KS;have sub:=sub_set_self;obtain⟨hp,g,d,tk,os⟩:=s;dsimp only
 wp_walk
 refine CA (AE ?_);dsimp only;simp only[newObj];exact A9 (wpAny_alloc (AE (AE h)))
theorem aFc(b:Bool){h:AM}{a:A7}{val:Nat→Int}(e:h.get? a=NC (xG b)):jf prog w b h a val 0:=
 ⟨_,#[],0,_,e,⟨U,U,U⟩,U,λx hx=>by simp at hx,λk=>by simp[KU],by decide,by rfl,U,Led.fresh b⟩
theorem aJy{l:A7}{its:Array A6}{ns:List Int}{Q:A6→A8→Prop}(hh:A.handled=none)(hl:s.heap.IsList l its)(hi:Da its.toList ns)(hz:its.size+1<CS)
  (h:∀(h':AM)(tk:Nat),jf prog w (xH w) h' s.heap.objs.size (λi=>ns.getD i 0) its.size→(∀b o,s.heap.get? b=NC o→h'.get? b=NC o)→Q (.ref s.heap.objs.size) {s with heap:=h',toks:=tk}) :
  AF (AG prog w) A (call (.type "set") [.ref l]) Q E s:=by
 obtain⟨c,tl,hmro⟩:=L9.mro;have hmade:=L9.made;have hsub:=L9.sub;refine IP (IZ ?_);show AF _ _ (callAny (.type "set") _) _ _ _;refine AE ⟨Code.quiet_builtin _ (by decide +kernel),CU PySem.F.entry_type_call ?_⟩;rw[Around.under_plain (weight_type_call_type "set" [.ref l] []) rfl];have h1:=L9.notType;have h2:=L9.canCreate;have hct:=PySem.F.typeCall_set_1 (.ref l)
 repeat (any_goals (first | assumption | wp_step))
 refine Ch (aJx (.ref l) (E:=E) (Q:=λv s1=>v=.ref s.heap.objs.size∧s1={s with heap:=s.heap.push (xG (xH w))}) ⟨U,U⟩) λr s1 hr=>?_;cases r with
 | error e=>exact hr
 | ok fl=>
  cases fl with
  | ret obj=>
   obtain⟨rfl,rfl⟩:=hr;have g0:(s.heap.push (xG (xH w))).get? s.heap.objs.size=NC (xG (xH w)):=AK _ U;have hT:KW {s with heap:=s.heap.push (xG (xH w))} (.ref s.heap.objs.size) "set" := ⟨_,g0,U⟩
   have hli:=L9.init.lookup;have hbi:=L9.init.bind (.ref s.heap.objs.size)
   repeat (any_goals (first | assumption | wp_step))
   refine Ch (codeAny_call_builtin (R:=wants (λr s2=>r=.none∧∃h' tk,s2={s with heap:=h',toks:=tk}∧jf prog w (xH w) h' s.heap.objs.size (λi=>ns.getD i 0) its.size∧(∀b o,s.heap.get? b=NC o→h'.get? b=NC o)) E) L9.init.plain PySem.F.entry_set_init (check_set_init_1 hT ?_)) λr2 s2 hr2=>?_
   ·obtain⟨ol,hol,hcl,nl,hdl⟩:=hl;obtain⟨ocls,odict,odata,oslots⟩:=ol;simp only at hcl hdl;subst hcl hdl;have hol':(s.heap.push (xG (xH w))).get? l=NC {cls:=.type "list", dict:=odict,data:=.seq its nl,slots:=oslots}:=AA _ hol;have q1:=PySem.F.sub_list_set;have q2:=PySem.F.sub_list_frozenset;have q3:(BY "list" == BY "dict")=NG:=by decide
    have L1:(s.heap.push (xG (xH w))).IsList l its:=⟨_,hol',U,nl,U⟩
    unfold DH.«set.__init__» noKeywords JJ;generalize hPI:HC=PI
    wp_walk
    subst hPI;refine DO L1 (A9 (JO ?_));have lt:=AI hol;have hh3:A.in1.in1.in1.handled=none:=by simp[hh]
    have ne:l≠(s.heap.push (xG (xH w))).objs.size:=by rw[AZ];exact E7 (M4 lt)
    have nf:s.heap.objs.size∉[(s.heap.push (xG (xH w))).objs.size,l]:=by
     rw[AZ];intro z;rcases D5.mp z with z | z
     ·exact absurd z (E7 (M7 _))
     ·exact absurd (E3.mp z) (O6 lt)
    have hval:∀(i:Nat)(v:A6),its[i]?=NC v→∃t,v=.int ((λi=>ns.getD i 0) i) t:=λi v hv=>hi.int_at i v (by rw[L7];exact hv);refine aHT ((IT hh3 _ l ne its).toS) s.heap.objs.size nf (λi=>ns.getD i 0) hval hz (its.size-0) 0 _ (by omega) (M0 _) ⟨⟨_,AK _ U,U,U⟩,(L1.push _)⟩ (aFc (xH w) (AA _ g0)) λs' mv S'=>?_;obtain⟨h',g',d',tk',os'⟩:=s';have eg:g'=s.gens:=mv.gens;have ed:d'=s.drawn:=mv.drawn;have eo:os'=s.os:=mv.os;subst eg ed eo;show AF _ _ _ _ _ _;refine AE ?_;show AF _ _ (ret BB) _ _ _;refine AE ⟨U,h',tk',U,S',λb o e=>?_⟩;have lb:=AI e;refine mv.heap b o (λz=>?_) (AA _ (AA _ e));rcases D5.mp z with z | z
    ·exact absurd z (E7 lb)
    ·have:=E3.mp z;rw[AZ]at this;exact absurd this (E7 (M4 lb))
   ·cases r2 with
    | error e=>exact hr2
    | ok f2=>
     cases f2 with
     | ret r=>
      obtain⟨rfl,h',tk,rfl,S',kp⟩:=hr2
      repeat (any_goals (first | assumption | wp_step))
      exact h _ _ S' kp
     | _=>exact hr2.elim
  | _=>exact hr.elim
end
end L2


namespace L2
open PySem PySem.Spec PyProof.Rows
theorem aCp:Mc.lookup (String.ofList ['r','o','t','a','r','e','t','i','_','t','e','s'].reverse)=NC Kj:=by kernel_rfl
theorem pU:Slot "set_iterator" "__next__" "set_iterator.__next__" := Slot.of (owner := "set_iterator") (n := "__next__") (by rw[Ic,GA];kernel_rfl) (by decide +kernel) (by decide +kernel) (by decide +kernel) (by first | exact .inl (by decide +kernel) | exact .inr (by decide +kernel)) (by rw[GG];kernel_rfl)
theorem Ek:LD table "set_iterator.__next__" = NC DH.«set_iterator.__next__»:=entryFor_of_tree (by kernel_rfl)
theorem El(a:A6):LF "set_iterator.__next__" ⟨[a],[]⟩:=by unfold LF;rw[Kb (id := "set_iterator.__next__") (n:=['_','_','t','x','e','n','_','_']) (o:=['r','o','t','a','r','e','t','i','_','t','e','s']) (by kernel_rfl) aCp];kernel_rfl
theorem vo:Slot "set_iterator" "__iter__" "set_iterator.__iter__" := Slot.of (owner := "set_iterator") (n := "__iter__") (by rw[Ic,GA];kernel_rfl) (by decide +kernel) (by decide +kernel) (by decide +kernel) (by first | exact .inl (by decide +kernel) | exact .inr (by decide +kernel)) (by rw[GG];kernel_rfl)
theorem aAD(a:A6):LF "set_iterator.__iter__" ⟨[a],[]⟩:=by unfold LF;rw[Kb (id := "set_iterator.__iter__") (n:=['_','_','r','e','t','i','_','_']) (o:=['r','o','t','a','r','e','t','i','_','t','e','s']) (by kernel_rfl) aCp];kernel_rfl
theorem aAE:LD table "set_iterator.__iter__" = NC DH.«dict_keyiterator.__iter__»:=JU (id' := "dict_keyiterator.__iter__") (by kernel_rfl) (by first | rfl | decide +kernel | (unfold String.splitOn;simp +decide [String.splitOnAux])) (by decide +kernel) (by kernel_rfl)
theorem aAF:LD table "set.__iter__" = NC DH.«frozenset.__iter__»:=JU (id' := "frozenset.__iter__") (by kernel_rfl) U (by decide +kernel) (by kernel_rfl)
def vp(h:AM)(I:A7)(f:A6)(i:Nat)(a:A7)(n ep:Nat):Prop:=∃o,h.get? I=NC o∧o.cls=.type "set_iterator" ∧ o.data=.fields #[f,.int (i:Int) 0,.ref a,.int (n:Int) 0,.int (ep:Int) 0]
def jg(h:AM)(a:A7)(es:Array (Int×A6))(ep:Nat)(t:SetTable):Prop:=∃o,h.get? a=NC o∧o.cls=.type "set" ∧ o.data=.set es ep t∧t.fits es.size=NF
theorem vp.at_{h h':AM}{I a:A7}{f:A6}{i n ep:Nat}(x:vp h I f i a n ep)(e:∀o,h.get? I=NC o→h'.get? I=NC o):vp h' I f i a n ep:=let ⟨o,ho,r⟩:=x;⟨o,e o ho,r⟩
theorem jg.at_{h h':AM}{a:A7}{es:Array (Int×A6)}{ep:Nat}{t:SetTable}(x:jg h a es ep t)(e:∀o,h.get? a=NC o→h'.get? a=NC o):jg h' a es ep t:=let ⟨o,ho,r⟩:=x;⟨o,e o ho,r⟩
section
variable{prog:AJ}{w:AN}{A:AL}{E:A6→A8→Prop}{s:A8}{I a T:A7}{f:A6}{i n ep:Nat}{es:Array (Int×A6)}{t:SetTable}
theorem vp.ty(x:vp s.heap I f i a n ep):s.TypeIs (.ref I) "set_iterator" := let ⟨o,ho,hc,_⟩:=x;⟨o,ho,hc⟩
theorem jg.ty(x:jg s.heap a es ep t):s.TypeIs (.ref a) "set" := let ⟨o,ho,hc,_⟩:=x;⟨o,ho,hc⟩
theorem vq{Q:A6→A8→Prop}(x:vp s.heap I f i a n ep)(h:Q (.ref I) s):AF (AG prog w) A (HC (.ref I)) Q E s:=by refine IA x.ty vo (BI vo x.ty aAE ?_ (aAD _));show AF _ _ (ret (.ref I)) _ _ s;exact AE ⟨_,U, "set_iterator", _,x.ty,pU.lookup,h⟩
theorem SJ{α:Type}{h1:AM}{Q0:α→A8→Prop}{E':A6→A8→Prop}(hh:A.handled=none)(hQ:∀(v:A6) h',KW {s with heap:=h'} v "StopIteration" → (∀b o,h1.get? b=NC o→h'.get? b=NC o)→E' v {s with heap:=h'}) :
  AF (AG prog w) A.in1 (newExc (.type "StopIteration") [] >>= λe=>(raiseNew e:Sem α)) Q0 E' {s with heap:=h1}:=by
 refine A9 ?_;simp only[newExc,newTuple];refine A9 (BT (A9 (m:=JY _ _) (DF (a:=BB) (by first | rfl | (simp only[JY];rfl)) (BT ?_ (by size_fits)))) (by size_fits));simp only[raiseNew];refine A9 (wpAny_handled ?_);rw[show A.in1.handled=none from hh];refine A9 (AE (wpAny_throw ?_));refine hQ (.ref _) _ ?_ λb o e=>AA _ (AA _ e);exact⟨_,AK _ U,U⟩
theorem aFd{slot nxt:Nat}{x:A6}{Q:Option A6→A8→Prop}(hit:vp s.heap I (.int (slot:Int) 0) i a es.size ep)(hs:jg s.heap a es ep t)
  (hN:∀(Q':Option (A6×Nat)→A8→Prop) E',Q' (NC (x,nxt)) s→AF (AG prog w) A.in1 (Ee a slot i ep) Q' E' s)
  (hQ:∀h',vp h' I (.int (nxt:Int) 0) (i+1) a es.size ep→BG I s.heap h'→Q (NC x) {s with heap:=h'}):AF (AG prog w) A (DC (.ref I)) Q E s:=by
 obtain⟨o,ho,hc,hd⟩:=id hit;obtain⟨oa,ha,_,hda,hf⟩:=id hs;unfold DC;refine A9 (EO (CD (name:=FM "__next__") hit.ty pU (BI pU hit.ty Ek ?_ (El _))));unfold DH.«set_iterator.__next__»;refine A9 (DF (a:=(AQ I,[])) U ?_);dsimp only;refine A9 (EF ho hd ?_);dsimp only;refine A9 (CB ha hda hf ?_);rw[if_neg (by simp)];dsimp only[D7];refine A9 (hN _ _ ?_);dsimp only;refine A9 (Cn ho hd (by simp) ?_);have g1:=B4 (Ki (·.setIfInBounds 0 (ED (nxt:Int)))) ho (Co (BA hd _));have d1:=BA hd (·.setIfInBounds 0 (ED (nxt:Int)));refine A9 (Cn g1 d1 (by simp) (AE ⟨x,U,AE (hQ _ ?_ ((B3 ..).trans (B3 ..)))⟩));refine⟨_,B4 _ g1 (Co (BA d1 _)),(EU ..).trans ((EU ..).trans hc),?_⟩;rw[BA d1];simp[ED]
theorem aHU{slot:Nat}{Q:Option A6→A8→Prop}(hh:A.handled=none)(hit:vp s.heap I (.int (slot:Int) 0) i a es.size ep)(hs:jg s.heap a es ep t)
  (hN:∀(Q':Option (A6×Nat)→A8→Prop) E',Q' none s→AF (AG prog w) A.in1 (Ee a slot i ep) Q' E' s)
  (hQ:∀h',(∀b o,b≠I→s.heap.get? b=NC o→h'.get? b=NC o)→Q none {s with heap:=h'}):AF (AG prog w) A (DC (.ref I)) Q E s:=by
 obtain⟨o,ho,hc,hd⟩:=id hit;obtain⟨oa,ha,_,hda,hf⟩:=id hs;unfold DC;refine A9 (EO (CD (name:=FM "__next__") hit.ty pU (BI pU hit.ty Ek ?_ (El _))));unfold DH.«set_iterator.__next__»;refine A9 (DF (a:=(AQ I,[])) U ?_);dsimp only;refine A9 (EF ho hd ?_);dsimp only;refine A9 (CB ha hda hf ?_);rw[if_neg (by simp)];dsimp only[D7];refine A9 (hN _ _ ?_);dsimp only;refine A9 (Cn ho hd (by simp) ?_);refine SJ hh λv h' ty kp=>A9 (FR ty Jn ?_);exact AE (hQ h' λb o nb e=>kp b o ((B3 s.heap I _).extBut b o nb e))
theorem aFe{ps:Array A6}{c p:Nat}{tk:Tok}{hx:Int}{x:A6}{oT:Obj}{Q:Option A6→A8→Prop}(hit:vp s.heap I (.ref T) i a es.size ep)(hs:jg s.heap a es ep t)(hT:s.heap.get? T=NC oT)(hTd:oT.data=.seq ps c)(hp:ps[i]?=NC (.int (p:Int) tk))(he:es[p]?=NC (hx,x))
  (hQ:∀h',vp h' I (.ref T) (i+1) a es.size ep→BG I s.heap h'→Q (NC x) {s with heap:=h'}):AF (AG prog w) A (DC (.ref I)) Q E s:=by
 obtain⟨o,ho,hc,hd⟩:=id hit;obtain⟨oa,ha,_,hda,hf⟩:=id hs;unfold DC;refine A9 (EO (CD (name:=FM "__next__") hit.ty pU (BI pU hit.ty Ek ?_ (El _))));unfold DH.«set_iterator.__next__»;refine A9 (DF (a:=(AQ I,[])) U ?_);dsimp only;refine A9 (EF ho hd ?_);dsimp only;refine A9 (CB ha hda hf ?_);rw[if_neg (by simp)];dsimp only[D7];refine A9 (KA hT hTd ?_);dsimp only;rw[hp];dsimp only[D7];unfold setNextDrawn;refine A9 (A9 (BU ha hda hf ?_));dsimp only;rw[if_neg (by simp),he];dsimp only;refine AE (A9 (Cn ho hd (by simp) (AE ⟨x,U,AE (hQ _ ?_ (B3 ..))⟩)));refine⟨_,B4 _ ho (Co (BA hd _)),(EU ..).trans hc,?_⟩;rw[BA hd];simp[ED]
theorem aHV{ps:Array A6}{c:Nat}{oT:Obj}{Q:Option A6→A8→Prop}(hh:A.handled=none)(hit:vp s.heap I (.ref T) i a es.size ep)(hs:jg s.heap a es ep t)(hT:s.heap.get? T=NC oT)(hTd:oT.data=.seq ps c)(hp:ps[i]?=none)
  (hQ:∀h',(∀b o,b≠I→s.heap.get? b=NC o→h'.get? b=NC o)→Q none {s with heap:=h'}):AF (AG prog w) A (DC (.ref I)) Q E s:=by
 obtain⟨o,ho,hc,hd⟩:=id hit;obtain⟨oa,ha,_,hda,hf⟩:=id hs;unfold DC;refine A9 (EO (CD (name:=FM "__next__") hit.ty pU (BI pU hit.ty Ek ?_ (El _))));unfold DH.«set_iterator.__next__»;refine A9 (DF (a:=(AQ I,[])) U ?_);dsimp only;refine A9 (EF ho hd ?_);dsimp only;refine A9 (CB ha hda hf ?_);rw[if_neg (by simp)];dsimp only[D7];refine A9 (KA hT hTd ?_);dsimp only;rw[hp];dsimp only;refine A9 (Cn ho hd (by simp) ?_);have g1:=B4 (Ki (·.setIfInBounds 0 (ED 0))) ho (Co (BA hd _));have d1:=BA hd (·.setIfInBounds 0 (ED 0));refine A9 (Cn g1 d1 (by simp) ?_);refine SJ hh λv h' ty kp=>A9 (FR ty Jn ?_);exact AE (hQ h' λb o nb e=>kp b o (((B3 s.heap I _).trans (B3 _ I _)).extBut b o nb e))
theorem aHW{slot:Nat}{Q:Option (A6×Nat)→A8→Prop}(hb:xH w=NG)(hs:jg s.heap a es ep t)(h:Q (((HP (w.params.setOrder a ep) es)[i]?).map λe=>(e.2,slot)) s):AF (AG prog w) A (Ee a slot i ep) Q E s:=by
 obtain⟨oa,ha,_,hda,hf⟩:=id hs;have ft:w.params.followText "set-order" = NF:=by simpa using hb
 unfold Ee;refine A9 (BU ha hda hf ?_);dsimp only;unfold GN;refine A9 (A9 (CA (AE ?_)));dsimp only;rw[show (AG prog w).w.params.followText "set-order" = NF from ft,if_pos U,if_neg (by simp)];unfold setWalk GN;refine A9 (A9 (BU ha hda hf ?_));dsimp only;refine A9 (A9 (CA (AE ?_)));dsimp only;rw[show (AG prog w).w.params.followText "set-order" = NF from ft,if_pos rfl];refine A9 (CA (AE (AE ?_)));exact h
def Jv(t:SetTable):Nat→Nat
 | 0=>0
 | i+1=>t.place.getD i 0+1
theorem jh(up:t.place.toList.Pairwise (·<·))(hi:i≤t.place.size):AR t.place (Jv t i)=i:=by
 obtain⟨b1,b2,b3⟩:=below_at up (Jv t i);have mono:∀a b,a<b→b<t.place.size→t.place.getD a 0<t.place.getD b 0:=λa b q q'=>by have:=K5.mp up a b (by simp;omega) (by simpa using q') q;simp only[U4]at this;simpa[O3,q',show a<t.place.size by omega]using this
 rcases Nat.lt_trichotomy (AR t.place (Jv t i)) i with z | z | z
 ·cases i with
  | zero=>omega
  | succ i=>have h1:=b3 i (by omega) (by omega);rw[show Jv t (i+1)=t.place.getD i 0+1 from rfl]at h1;omega
 ·exact z
 ·have h1:=b2 i z;cases i with
  | zero=>exact absurd h1 (L6 _)
  | succ i=>rw[show Jv t (i+1)=t.place.getD i 0+1 from rfl]at h1;have:=mono i (i+1) (by omega) (by omega);omega
theorem aHX{Q:Option (A6×Nat)→A8→Prop}(hb:xH w=NF)(hs:jg s.heap a es ep t)(hl:Led (xH w) t)(hdr:(!t.plain&&decide (es.size > 1))=NG)(hi:i≤es.size)(h:Q ((es[i]?).map λe=>(e.2,Jv t (i+1))) s):AF (AG prog w) A (Ee a (Jv t i) i ep) Q E s:=by
 obtain⟨oa,ha,_,hda,hf⟩:=id hs;have ft:w.params.followText "set-order" = NG:=by simpa using hb
 have hz:t.place.size=es.size:=by simp only[NA,G7,beq_iff_eq]at hf;exact hf.1
 have up:t.place.toList.Pairwise (·<·):=by
  cases e:t.plain with
  | true=>exact(hl.2 e).1
  | false=>
   rw[e]at hdr;have:es.size≤1:=by simpa using hdr
   match h:t.place.toList with
   | []=>exact .nil
   | [x]=>simp
   | x::y::r=>have:=congrArg i8 h;simp at this;omega
 unfold Ee;refine A9 (BU ha hda hf ?_);dsimp only;unfold GN;refine A9 (A9 (CA (AE ?_)));dsimp only;rw[show (AG prog w).w.params.followText "set-order" = NG from ft,if_neg (by simp)];refine CY (λq=>?_) λ_=>?_
 ·exfalso;have q':(!t.plain&&decide (es.size > 1))=NF:=q;rw[hdr]at q';cases q'
 ·refine A9 ?_;refine CY (λq=>?_) λ_=>AE ?_
  ·exfalso;have:t.led=NF:=by rw[hl.1,hb]
   rw[this]at q;simp at q
  ·rw[jh up (by omega)];refine AE ?_;rcases K4 i es.size with z | z
   ·rw[M8 z]at h ⊢;rw[M8 (by omega)];have e:t.place[i]'(by omega)=t.place.getD i 0:=by simp[O3,show i<t.place.size by omega]
    simpa[Jv,e]using h
   ·rw[Array.getElem?_eq_none z]at h ⊢;exact h
end
end L2


namespace L2
open PySem PySem.Spec PyProof.Rows
section
variable{prog:AJ}{w:AN}{A:AL}{E:A6→A8→Prop}{s:A8}{I a T:A7}{f:A6}{i n ep:Nat}{es:Array (Int×A6)}{t:SetTable}
theorem aFf{M:IJ}{src:Source}{m:Nat}{Q:Nat→A8→Prop}(hm:m≠0)(h:∀i dr,i<m→Q i {s with drawn:=dr}):AF M A (choose src m) Q E s:=λ_ _ _=>⟨hm,h _ _ (U5 _ (Nat.pos_of_ne_zero hm))⟩
theorem Yw{M:IJ}{α:Type}:∀(m:Nat)(xs:List α)(s:A8)(Q:List α→A8→Prop),xs.length=m→(∀ys dr,ys.Perm xs→Q ys {s with drawn:=dr})→AF M A (KF m xs) Q E s
 | 0,xs,s,Q,hn,h=>by have:xs=[]:=F6 hn;subst this;unfold KF;exact AE (h [] s.drawn (R6 _))
 | m+1,[],s,Q,hn,h=>absurd hn (by simp)
 | m+1,x::xs,s,Q,hn,h=>by unfold KF;refine A9 (aFf (by simp) λi dr hi=>?_);rw[B7 hi];dsimp only;refine A9 (Yw m ((x::xs).eraseIdx i) _ _ (by rw[W5 hi];omega) λys dr' pm=>AE ?_);exact h _ dr' ((pm.cons _).trans (Ho _ _ hi))
def Ord(S:Int→Bool)(n:Nat)(ord:List A6):Prop:=ord.length=n∧∃ns,Da ord ns∧∀k,S k=NF↔k∈ns
theorem ji{S:Int→Bool}{l:List (Int×A6)}{ord:List A6}(hel:JI (intKind prog w) l)(hm:∀k,S k=NF↔∃e∈l,(intKind prog w).is k e.2=NF)(hn:l.length=n)(pm:ord.Perm (l.map (·.2))):Ord S n ord:=by
  refine⟨by rw[pm.length_eq,B6,hn],?_⟩;have allI:∀v∈ord,∃k t,v=CL k t:=λv hv=>by obtain⟨e,he,rfl⟩:=J2.mp (pm.mem_iff.mp hv);obtain⟨⟨k,hk,_⟩,_⟩:=hel e he;obtain⟨t,ht⟩:=ER hk;exact⟨k,t,ht⟩
  have mk:∀vs:List A6,(∀v∈vs,∃k t,v=CL k t)→∃ns,Da vs ns∧∀k,k∈ns↔∃t,CL k t∈vs:=by
    intro vs
    induction vs with
    | nil=>exact λ_=>⟨[],.nil,λk=>by simp⟩
    | cons v vs ih=>
      intro hv;obtain⟨ns,h1,h2⟩:=ih λv q=>hv v (C8 _ q);obtain⟨k,t,rfl⟩:=hv v D6;refine⟨k::ns,.cons k t h1,λj=>?_⟩;rw[D5,h2];constructor
      · rintro(rfl | ⟨t',q⟩)
        · exact⟨t,D6⟩
        · exact⟨t',C8 _ q⟩
      · rintro⟨t',q⟩
        rcases D5.mp q with q | q
        · injection q with q
          exact .inl q
        · exact .inr ⟨t',q⟩
  obtain⟨ns,h1,h2⟩:=mk ord allI;refine⟨ns,h1,λk=>?_⟩;rw[hm,h2];constructor
  · rintro⟨e,he,hk⟩
    obtain⟨t,ht⟩:=ER hk;exact⟨t,pm.mem_iff.mpr (J2.mpr ⟨e,he,ht⟩)⟩
  · rintro⟨t,q⟩
    obtain⟨e,he,q⟩:=J2.mp (pm.mem_iff.mp q);exact⟨e,he,by rw[q];exact IX _ _ _ _⟩
theorem Ud(hh:A.handled=none)(ne:a≠I){slot:Nat→Nat}{ord:List A6}(hz:ord.length=es.size)
  (hN:∀(s:A8)(i:Nat)(Q':Option (A6×Nat)→A8→Prop) E',i≤es.size→jg s.heap a es ep t→Q' ((ord[i]?).map λv=>(v,slot (i+1))) s→AF (AG prog w) A.in1 (Ee a (slot i) i ep) Q' E' s) :
  Walks prog w A I [I,a] [I] es.size (λi v=>ord[i]?=NC v) (λi h=>vp h I (.int (slot i:Int) 0) i a es.size ep∧jg h a es ep t) where
 sub:=λb hb=>by simp at hb;simp[hb]
 frame:=λ_ _ _ x kp=>⟨x.1.at_ λo e=>kp I (by simp) o e,x.2.at_ λo e=>kp a (by simp) o e⟩
 item:=λi s Q E hi x hQ=>by have e:ord[i]?=NC (ord[i]'(by omega)):=B7 (by omega);refine aFd (x:=ord[i]'(by omega)) (nxt:=slot (i+1)) x.1 x.2 (λQ' E' q=>hN s i Q' E' (by omega) x.2 (by rw[e];exact q)) λh' st sb=>?_;exact hQ _ h' s.toks e ⟨st,x.2.at_ λo eo=>sb.extBut a o ne eo⟩ λb o hb eo=>sb.extBut b o (λz=>hb (by simp[z])) eo
 done:=λs Q E x hQ=>aHU hh x.1 x.2 (λQ' E' q=>hN s es.size Q' E' (C5 _) x.2 (by rw[E2 (by omega)];exact q)) λh' kp=>hQ h' s.toks λb o hb e=>kp b o (λz=>hb (by simp[z])) e
 self:=λ_ _ _ _ x hQ=>vq x.1 hQ
theorem jj(hh:A.handled=none)(ne:a≠I)(neT:T≠I){ps:List Nat}(hz:ps.length=es.size)(hp:∀p∈ps,p<es.size) :
  Walks prog w A I [I,a,T] [I] es.size (λi v=>(ps.map λp=>(es.getD p (0,.none)).2)[i]?=NC v) (λi h=>vp h I (.ref T) i a es.size ep∧jg h a es ep t∧∃o c,h.get? T=NC o∧o.data=.seq (ps.map λ(p:Nat)=>ED p).toArray c) where
 sub:=λb hb=>by simp at hb;simp[hb]
 frame:=λ_ _ _ x kp=>⟨x.1.at_ λo e=>kp I (by simp) o e,x.2.1.at_ λo e=>kp a (by simp) o e,let ⟨o,c,ho,hd⟩:=x.2.2;⟨o,c,kp T (by simp) o ho,hd⟩⟩
 item:=λi s Q E hi x hQ=>by
  obtain⟨h1,h2,oT,c,hT,hTd⟩:=x;have lt:i<ps.length:=by omega
  have lp:=hp ps[i] (N6 lt);refine aFe (p:=ps[i]) (tk:=0) (hx:=es[ps[i]].1) (x:=es[ps[i]].2) h1 h2 hT hTd (by simp[lt,ED]) (by rw[M8 lp]) λh' st sb=>?_;exact hQ _ h' s.toks (by simp[lt,O3,lp]) ⟨st,h2.at_ λo eo=>sb.extBut a o ne eo,oT,c,sb.extBut T oT neT hT,hTd⟩ λb o hb eo=>sb.extBut b o (λz=>hb (by simp[z])) eo
 done:=λs Q E x hQ=>by obtain⟨h1,h2,oT,c,hT,hTd⟩:=x;exact aHV hh h1 h2 hT hTd (by simp[hz]) λh' kp=>hQ h' s.toks λb o hb e=>kp b o (λz=>hb (by simp[z])) e
 self:=λ_ _ _ _ x hQ=>vq x.1 hQ
theorem aCq{S:Int→Bool}{Q:A6→A8→Prop}(hh:A.handled=none)(hs:Hq prog w (xH w) s.heap a S n)
    (h:∀(h1:AM)(dr:II)(I:A7)(fp:List A7)(ord:List A6)(St:Nat→AM→Prop),(∀b o,s.heap.get? b=NC o→h1.get? b=NC o)→Walks prog w A I fp [I] n (λi v=>ord[i]?=NC v) St→St 0 h1→(∀x∈fp,x=a∨s.heap.objs.size≤x)→s.heap.objs.size≤I→Ord S n ord→Q (.ref I) {s with heap:=h1,drawn:=dr}) :
    AF (AG prog w) A (HC (.ref a)) Q E s:=by
  obtain⟨o,es,ep,t,ho,hex,hd,hel,hm,hz,hf,hn,hl⟩:=hs;have sat:jg s.heap a es ep t:=⟨o,ho,hex.1,hd,hf⟩
  have lt:=AI ho;subst hn;refine IA sat.ty b5 (BI b5 sat.ty aAF ?_ (PySem.F.args_set_iter_1 _));unfold DH.«frozenset.__iter__» LM;refine A9 (A9 (DF (a:=(AQ a,[])) U ?_));unfold LG LH;refine AE (A9 (A9 (CB ho hd hf (AE ?_))));unfold setDrawn GN;refine A9 (A9 (BU ho hd hf ?_));dsimp only;refine A9 (A9 (CA (AE ?_)));refine AE ?_;refine CY (λc=>?_) λc=>?_
  · have c':(xH w&&(!t.plain&&decide (es.size > 1)))=NF:=c
    rw[G7]at c';refine A9 (Yw es.size (D4 es.size) s _ (by simp) λps dr pm=>?_);have lps:ps.length=es.size:=by rw[pm.length_eq,D8]
    have hp:∀p∈ps,p<es.size:=λp hp=>F9.mp (pm.mem_iff.mp hp);refine A9 (wpAny_newTuple ?_ (by rw[B6,lps];exact ET hz));have g1:(s.heap.push {cls:=.type "tuple", data:=.seq (ps.map λ(i:Nat)=>ED i).toArray}).get? a=NC o:=AA _ ho;refine A9 (IB g1 hd hf ?_);refine A9 (BT (AE ⟨_,U, "set_iterator", _,⟨_,AK _ U,U⟩,pU.lookup,?_⟩));refine h _ dr _ _ (ps.map λp=>(es.getD p (0,.none)).2) _ (λb o e=>AA _ (AA _ e)) (jj (T:=s.heap.objs.size) (t:=t) (ep:=ep) hh ?_ ?_ lps hp) ⟨⟨_,AK _ U,U,U⟩,sat.at_ λo e=>AA _ (AA _ e),_,_,AA _ (AK _ U),U⟩ ?_ ?_ ?_
    · show a≠(s.heap.push _).objs.size
      rw[AZ];exact E7 (M4 lt)
    · show s.heap.objs.size≠(s.heap.push _).objs.size
      rw[AZ];exact E7 (M7 _)
    · intro x hx
      rcases D5.mp hx with z | z
      · rw[z]
        show _∨s.heap.objs.size≤(s.heap.push _).objs.size;rw[AZ];exact .inr (M9 _)
      · rcases D5.mp z with z | z
        · exact .inl z
        · rw[E3.mp z]
          exact .inr (C5 _)
    · show s.heap.objs.size≤(s.heap.push _).objs.size
      rw[AZ];exact M9 _
    · refine ji (prog:=prog) (w:=w) hel hm (by simp) ?_
      have e:es.toList.map (·.2)=(D4 es.size).map λp=>(es.getD p (0,.none)).2:=by refine X5 (by simp) λk k1 k2=>?_;simp at k1;simp[O3,k1]
      rw[e];exact pm.map _
  · refine A9 (AE ?_)
    refine A9 (IB ho hd hf ?_);refine A9 (BT (AE ⟨_,U, "set_iterator", _,⟨_,AK _ U,U⟩,pU.lookup,?_⟩));have ne:a≠s.heap.objs.size:=E7 lt;have fp':∀x∈[s.heap.objs.size,a],x=a∨s.heap.objs.size≤x:=λx hx=>by
      rcases D5.mp hx with z | z
      · exact .inr (d9 z.symm)
      · exact .inl (E3.mp z)
    cases hb:xH w with
    | false=>have pm:=aAC (w.params.setOrder a ep) es;refine h _ s.drawn _ _ ((HP (w.params.setOrder a ep) es).toList.map (·.2)) _ (λb o e=>AA _ e) (Ud (t:=t) (ep:=ep) (slot:=λ_=>0) hh ne (by rw[B6,pm.length_eq,J9]) λs i Q' E' hi x q=>?_) ⟨⟨_,AK _ U,U,U⟩,sat.at_ λo e=>AA _ e⟩ fp' (C5 _) (ji (prog:=prog) (w:=w) hel hm (by simp) (pm.map _));refine aHW hb x ?_;rw[B9,L7,l9]at q;exact q
    | true=>
      have c':(!t.plain&&decide (es.size > 1))=NG:=by have c2:¬(xH w&&(!t.plain&&decide (es.size > 1)))=NF:=c;rw[hb,Bool.true_and]at c2;simpa using c2
      refine h _ s.drawn _ _ (es.toList.map (·.2)) _ (λb o e=>AA _ e) (Ud (t:=t) (ep:=ep) (slot:=Jv t) hh ne (by simp) λs i Q' E' hi x q=>?_) ⟨⟨_,AK _ U,U,U⟩,sat.at_ λo e=>AA _ e⟩ fp' (C5 _) (ji (prog:=prog) (w:=w) hel hm (by simp) (R6 _));refine aHX hb x hl c' hi ?_;rw[B9,L7,l9]at q;exact q
end
end L2


namespace L2
open PySem PySem.Spec PySem.Calls PyProof.Rows PyProof.V
section
variable{prog:AJ}{w:AN}{A:AL}{E:A6→A8→Prop}{s:A8}{I a T:A7}{n:Nat}{S:Int→Bool}
theorem aCr{Q:Bool→A8→Prop}(hT:s.TypeIs (.ref a) "set") (h:Q NG s):AF (AG prog w) A (EL (.ref a)) Q E s:=by
 unfold EL;refine A9 (IS hT PySem.F.slot_set_len.lookup ?_);generalize hid:("set.__len__" : String)=id0
 wp_delta
 rw[show splitId id0=NC ("set", "__len__")from by subst hid;decide +kernel];subst hid;refine A9 (FR (T := "set") (b:=NF) hT (by rw[GG];kernel_rfl) (CY (λz=>absurd z (by decide)) λ_=>CY (λ_=>?_) λz=>absurd (by decide +kernel) z));exact A9 (LI hT (AE h))
theorem aFg{R:FB→A8→Prop}(hh:A.handled=none)(hs:Hq prog w (xH w) s.heap a S n)(hz:n≤sizeLine)(L:A7)(ne:L≠a)(hL:s.heap.get? L=NC {cls:=.type "list", data:=.seq #[] 0})
    (hR:∀h' dr tk acc c,(∀b o,b≠L→s.heap.get? b=NC o→h'.get? b=NC o)→h'.get? L=NC {cls:=.type "list", dict:=none,data:=.seq acc c,slots:=#[]}→Ord S n acc.toList→R (.ok (.ret (.ref L))) {s with heap:=h',drawn:=dr,toks:=tk}) :
    AF (AG prog w) A.in1 (DA (.ref L) (.ref a) (.ref L)) (λfin s'=>match fin with | .done f=>R (.ok f) s' | .again c'=>c'.quiet=NF∧CH (AG prog w) A c' R s') (λe s'=>R (.error e) s') s:=by
  have lt:L<s.heap.objs.size:=AI hL;have ty:s.TypeIs (.ref a) "set" := let ⟨o,_,_,_,ho,hex,_⟩:=hs;⟨o,ho,hex.1⟩;unfold DA;refine A9 (LI (T := "set") ty ?_);have h1:FU (.ref L) (.ref a)=NG:=by simp[FU,ne]
  have h2:(BY "set" == BY "list")=NG:=by decide
  have h3:(BY "set" == BY "tuple")=NG:=by decide
  simp only[h1,h2,h3,m9,V8,if_false];refine A9 (aCq (A:=A.in1) hh hs λh0 dr I fp ord St kp W st fpo lI od=>?_);have hL1:=kp _ _ hL;have nf:L∉fp:=λz=>by
    rcases fpo L z with z | z
    · exact ne z
    · exact absurd lt (Nat.not_lt.mpr z)
  have nI:∀b o,s.heap.get? b=NC o→b≠I:=λb o e=>E7 (E1 (AI e) lI);have key:∀(h:AM)(c1 tk:Nat),St 0 h→(∀b o,b≠L→s.heap.get? b=NC o→h.get? b=NC o)→h.get? L=NC {cls:=.type "list", data:=.seq #[] c1}→CH (AG prog w) A (.builtin "list.extend.loop" ⟨[.ref L,.ref I,.ref L],[]⟩) R {s with heap:=h,drawn:=dr,toks:=tk}:=by
    intro h c1 tk st0 k0 g0;refine codeAny_extend_loopS W.toS hz L nf (.ref L) n 0 _ #[] c1 U (M0 _) st0 g0 (ItemsOf.nil _) λs' acc c mv g' it=>?_;rw[Moved.eq_with mv];refine hR s'.heap dr s'.toks acc c (λb o nb e=>mv.heap b o (λz=>?_) (k0 b o nb e)) g' ?_
    · rcases D5.mp z with z | z
      · exact nb z
      · exact nI b o e (E3.mp z)
    · have e:acc.toList=ord:=by
        refine K1 λj=>?_;rcases K4 j acc.size with z | z
        · have e1:acc[j]?=NC acc[j]:=M8 z
          rw[L7,e1,it.2 j _ e1]
        · rw[E2 (by simpa using z),E2 (by have:=it.1;have:=od.1;omega)]
      rw[e];exact od
  refine A9 (BQ (aCr (hT:=let ⟨o,ho,hc⟩:=ty;⟨o,kp _ _ ho,hc⟩) ?_));refine CY (λ_=>?_) λ_=>AE ⟨DT X1 _,key _ 0 _ st (λb o _ e=>kp b o e) hL1⟩;refine A9 (IY (A9 ?_));show AF _ _ (updateSeq L (·.push .none) >>= λ_=>updateSeq L (·.pop)) _ _ _;refine A9 (Iq hL1 U ?_);have g2:=B4 (DM (·.push BB)) hL1 U;refine Iq (hz:=by seq_fits) g2 U ?_;have g3:=B4 (DM (·.pop)) g2 U;refine AE ⟨DT X1 _,key _ _ _ (W.frame 0 _ _ st λb hb o e=>?_) (λb o hb e=>?_) g3⟩
  · have nb:b≠L:=λz=>nf (z▸hb)
    exact(BD _ _ (Ne.symm nb)).trans ((BD _ _ (Ne.symm nb)).trans e)
  · exact(BD _ _ (Ne.symm hb)).trans ((BD _ _ (Ne.symm hb)).trans (kp b o e))
theorem SM{R:List A6→A8→Prop}(hh:A.handled=none)(hs:Hq prog w (xH w) s.heap a S n)(hz:n≤sizeLine)
  (h:∀(h':AM)(dr:II)(tk:Nat)(acc:List A6),(∀b o,s.heap.get? b=NC o→h'.get? b=NC o)→Ord S n acc→R acc {s with heap:=h',drawn:=dr,toks:=tk}):AF (AG prog w) A (collect (.ref a)) R E s:=by
 have lt:a<s.heap.objs.size:=let ⟨o,_,_,_,ho,_⟩:=hs;AI ho;unfold collect;refine A9 (JO (CU entry_proto_collect' ?_));rw[Bi PySem.F.plain_proto_collect _];show AF _ A.in1 (newList [] >>= λl=>again (.builtin "list.__iadd__" ⟨[l,.ref a],[]⟩)) _ _ s;refine A9 (BT (AE ⟨DT Y4 _,CU entry_list_iadd' ?_⟩));rw[Bi Y4 _];have g1:(s.heap.push {cls:=.type "list", data:=.seq ([]:List A6).toArray}).get? s.heap.objs.size=NC {cls:=.type "list", data:=.seq #[]}:=AK _ U;show AF _ A.in1 (DA (.ref s.heap.objs.size) (.ref a) (.ref s.heap.objs.size)) _ _ _;have key:=aFg (A:=A) (s:={s with heap:=s.heap.push {cls:=.type "list", data:=.seq ([]:List A6).toArray}})
  (R:=λ(q:FB) (s':A8)=>∃(h':AM)(dr:II)(tk:Nat)(acc:Array A6)(c:Nat),q=.ok (.ret (.ref s.heap.objs.size))∧s'={s with heap:=h',drawn:=dr,toks:=tk}∧(∀b o,s.heap.get? b=NC o→h'.get? b=NC o)∧h'.get? s.heap.objs.size=NC {cls:=.type "list", dict:=none,data:=.seq acc c,slots:=#[]}∧Ord S n acc.toList)
  hh (hs.at_ λo e=>AA _ e) hz s.heap.objs.size (O6 lt) g1 λh' dr tk acc c kp g od=>⟨h',dr,tk,acc,c,U,U,λb o e=>kp b o (E7 (AI e)) (AA _ e),g,od⟩
 refine AX key (λfin s' x=>?_) λe s' x=>?_
 ·cases fin with
  | done f=>
   obtain⟨h',dr,tk,acc,c,e,rfl,kp,g,od⟩:=x;cases e;show AF _ A (load s.heap.objs.size >>= _) _ _ _;exact A9 (IM g (AE (h h' dr tk acc.toList kp od)))
  | again c1=>refine⟨x.1,Ch x.2 λq s2 y=>?_⟩;obtain⟨h',dr,tk,acc,c,rfl,rfl,kp,g,od⟩:=y;show AF _ A (load s.heap.objs.size >>= _) _ _ _;exact A9 (IM g (AE (h h' dr tk acc.toList kp od)))
 ·obtain⟨_,_,_,_,_,e',_⟩:=x;cases e'
end
end L2


namespace L2
open PySem PySem.Spec PySem.Calls PyProof.Rows PyProof.V
def Ue(k:Int):List Int→List Int
 | []=>[k]
 | a::l=>if k<a then k::a::l else if k=a then a::l else a::Ue k l
theorem Ug(k j:Int):∀l:List Int,j∈Ue k l↔j=k∨j∈l
  | []=>by simp[Ue]
  | a::l=>by
    unfold Ue;split
    · simp
    · split
      · rename_i e
        subst e;simp
      · rw[D5,Ug k j l,D5]
        constructor
        · rintro(h | h | h)
          · exact .inr (.inl h)
          · exact .inl h
          · exact .inr (.inr h)
        · rintro(h | h | h)
          · exact .inr (.inl h)
          · exact .inl h
          · exact .inr (.inr h)
theorem vy(k:Int):∀l:List Int,l.Pairwise (·<·)→(Ue k l).Pairwise (·<·)
 | [],_=>by simp[Ue]
 | a::l,h=>by
  obtain⟨h1,h2⟩:=I0.mp h;unfold Ue;split
  ·rename_i c;refine I0.mpr ⟨λx hx=>?_,h⟩;rcases D5.mp hx with z | z
   ·omega
   ·have:=h1 x z;omega
  ·split
   ·exact h
   ·refine I0.mpr ⟨λx hx=>?_,vy k l h2⟩
    rcases(Ug k x l).mp hx with z | z
    ·omega
    ·exact h1 x z
def bc:List Int→List Int
 | []=>[]
 | a::l=>Ue a (bc l)
theorem Rg(j:Int):∀ns:List Int,j∈bc ns↔j∈ns
 | []=>Iff.rfl
 | a::l=>by rw[bc,Ug,Rg j l,D5]
theorem IV:∀ns:List Int,(bc ns).Pairwise (·<·)
 | []=>.nil
 | a::l=>vy a _ (IV l)
theorem aCs{ns ms:List Int}(h:ms.Pairwise (·<·))(m:∀k,k∈ms↔k∈ns):ms=bc ns:=rN h (IV ns) λj=>(m j).trans (Rg j ns).symm
theorem SN(k:Int):∀l:List Int,(Ue k l).length≤l.length+1
 | []=>by simp[Ue]
 | a::l=>by
  unfold Ue;split
  ·simp
  ·split
   ·simp
   ·have:=SN k l;simp only[F0];omega
theorem vz:∀ns:List Int,(bc ns).length≤ns.length
 | []=>C5 _
 | a::l=>by have:=SN a (bc l);have:=vz l;simp only[bc,F0];omega
theorem Uh{α:Type} [DecidableEq α]:∀{l m:List α},l.Nodup→(∀x∈l,x∈m)→m.length≤l.length→l.Perm m
 | [],m,_,_,h=>by have:m=[]:=F6 (by simpa using h);subst this;exact R6 _
 | a::l,m,hn,hs,hl=>by
  obtain⟨h1,h2⟩:=K8.mp hn;have ha:=hs a D6;have e:=List.perm_cons_erase ha;refine List.Perm.trans (List.Perm.cons a (Uh h2 (λx hx=>?_) ?_)) e.symm
  ·have ne:x≠a:=λz=>by rw[z]at hx;exact h1 hx
   exact(List.mem_erase_of_ne ne).mpr (hs x (C8 _ hx))
  ·rw[X6 ha];simp only[F0]at hl;omega
theorem uX(val:Nat→Int):∀i,(FI val i).Nodup
 | 0=>by rw[KU];exact a8
 | i+1=>by
  rw[GY];unfold step_dedup;have ih:=uX val i;split
  ·exact ih
  ·rename_i c;refine N4.mpr ⟨ih,by simp,λx hx y hy=>?_⟩;rw[E3.mp hy];intro z;subst z;exact c (Q6.mpr ⟨_,hx,by simp⟩)
theorem aAG{ns ks ms:List Int}(hk:∀k,(FI (λi=>ns.getD i 0) ns.length).any (·==k)=NF↔k∈ks)(hl:ks.length=(FI (λi=>ns.getD i 0) ns.length).length)(hm:ms.Perm ks)(hs:ms.Pairwise (·≤·)):ms=bc ns:=by
 have hmem:∀k,k∈ks↔k∈ns:=λk=>by
  rw[←hk,firstMet_any];have e:(D4 ns.length).map (λi=>ns.getD i 0)=ns:=by refine X5 (by simp) λi h1 h2=>?_;simp[B8,h2]
  rw[e,Q6];exact⟨λ⟨x,hx,q⟩=>by rw[←(beq_iff_eq.mp q)];exact hx,λh=>⟨k,h,by simp⟩⟩
 have nd:ks.Nodup:=by have p:=Uh (uX (λi=>ns.getD i 0) ns.length) (m:=ks) (λx hx=>(hk x).mp (Q6.mpr ⟨x,hx,by simp⟩)) (by omega);exact p.nodup_iff.mp (uX _ _)
 refine aCs ?_ λk=>(hm.mem_iff).trans (hmem k);have ndm:=hm.nodup_iff.mpr nd;exact(hs.and ndm).imp λq=>by have:=q.1;have:=q.2;omega
section
variable{X:Cx}{e:AD}{t:TE}{x y:Str}{p p2 pos pos2:Pos}
theorem aFh{T id:String}{r:V→Hp→VK→Prop}(hc:∀(pins:List (A7×Obj))(s:A8)(σ:St)(H:Hp)(v:V)(u:A6)(Q:VK),Inv X pins σ H s→RelV v u→r v H Q→AF (AG X.prog X.w) X.A (call (.type T) [u]) (λu' s'=>AF (AG X.prog X.w) X.A (call (.builtin id) [u']) (EP X pins σ Q) X.xe s') X.xe s)
  (ha:PE X e t) (hg:Gl X x) (hm:X.mg x=none) (hv:AW x=NC (.builtin id)) (hg2:Gl X y) (hm2:X.mg y=none) (hv2:AW y=NC (.type T)) (hn:x ≠ "__name__" := by decide) (hdb:(x==("__debug__" : Str))=NG:=by decide) (hn2:y ≠ "__name__" := by decide) (jk:(y==("__debug__" : Str))=NG:=by decide)
  (he:AB [e] X.env=[(NG,AO e X.env)]:=by rfl) (he2:AB [.Call (.Name y p2) [e] [] pos2] X.env=[(NG,AO (.Call (.Name y p2) [e] [] pos2) X.env)]:=by rfl) :
  PE X (.Call (.Name x p) [.Call (.Name y p2) [e] [] pos2] [] pos) (tUn r t):=by
 intro pins s σ H Q I h;refine B5 (yW I hg hm hv ?_ hn hdb);refine U2 ?_ he2 U;rw[he2];refine CM (B5 (yW I hg2 hm2 hv2 ?_ hn2 jk));refine L0 ?_ he U;rw[he];exact CM (jG (ha pins s σ H _ I h) λu s1 ⟨v,H1,I1,r1,q1⟩=>Cb (jG (hc pins s1 σ H1 v u Q I1 r1 q1) λu' s' z=>Cb z))
theorem Inv.drew{pins:List (A7×Obj)}{σ:St}{H:Hp}{s:A8}(J:Inv X pins σ H s)(dr:II):Inv X pins σ H {s with drawn:=dr}:=⟨J.ok,J.os,J.bare,J.base,J.loc,J.cell,J.free,J.Av,J.pin,J.hok,J.len⟩
def aGv(K:aJ):V→Hp→VK→Prop:=λv H Q=>∃(p:A7)(ns:List Int),v=.ref p∧rJ K H p (ns.map V.int)∧ns.length<64∧∀l,H l=none→Q (.ref l) (upd H l (.lst ((bc ns).map V.int)))
theorem aHY(hc:X.calm=NF)(pins:List (A7×Obj))(s:A8)(σ:St)(H:Hp)(v:V)(u:A6)(Q:VK)(I:Inv X pins σ H s)(rv:RelV v u)(h:aGv X.K v H Q) :
  AF (AG X.prog X.w) X.A (call (.type "set") [u]) (λu' s'=>AF (AG X.prog X.w) X.A (call (.builtin "sorted") [u']) (EP X pins σ Q) X.xe s') X.xe s:=by
 obtain⟨p,ns,rfl,hq,h64,q⟩:=h;cases rv;obtain⟨its,r,pl,hz⟩:=I.list hq;have hlen:=r.length;rw[B6]at hlen;refine aJy (its:=its.toArray) (ns:=ns) (I.ok.hd hc) pl.isList (by simpa using intsAre_of r) (by rw[C6];unfold CS;omega) λh1 tk1 S1 kp1=>?_;have I1:Inv X pins σ H {s with heap:=h1,toks:=tk1}:=I.kept (t':=tk1) kp1;have ez:its.toArray.size=ns.length:=by simp[hlen]
 rw[ez]at S1;have hfl:=HU (λi=>ns.getD i 0) ns.length;refine Calls.call_function_entry kind_sorted plain_sorted entry_sorted (args_sorted1 _) ?_;unfold DH.«sorted»;refine A9 (m:=checkCount "sorted" 1 1 _) (AE (A9 (SM (A:=X.A.in1) (I.ok.hd hc) S1 (O5 (xU (by omega))) λh2 dr tk2 acc kp2 od=>?_)));obtain⟨al,ks,ik,mk⟩:=od;have hla:ks.length=acc.length:=(IntsAre.length ik).symm;refine A9 (wpAny_newList ?_ (by rw[al];exact O5 (xU (by omega))));have hoL:(h2.push (HK "list" acc.toArray 0)).get? h2.objs.size=NC (HK "list" acc.toArray 0):=AK _ U;refine A9 (BQ (BI slot_list_sort ⟨_,hoL,U⟩ entry_list_sort (list_sort_tree hoL ik (by omega) λout ns' a1 a2 a3=>⟨_,U,?_⟩) (args_list_sort _)));refine AE ⟨_,U,?_⟩;obtain⟨e,he⟩:=sortedHeap_at (out:=out) hoL;have I2:Inv X pins σ H {s with heap:=h2,drawn:=dr,toks:=tk2}:=(I1.kept (t':=tk2) kp2).drew dr;have hs:H h2.objs.size=none:=I2.hok.fresh (C5 _);have hl2:ns'.length=ks.length:=a2.length_eq;have I3:=I2.laid (t':=tk2) (a:=h2.objs.size) (o:=.lst (ns'.map V.int)) (h':=sortedHeap (h2.push (HK "list" acc.toArray 0)) h2.objs.size acc out)
  (λb o eb=>by
   have hlt:=AI eb;rw[sortedHeap_old (E7 hlt) (by rw[AZ];exact M4 hlt)];exact AA _ eb) (C5 _)
  ⟨by rw[B6];exact O5 (xU (by omega)),out.toList,e,Dz a1,by simpa[HK]using he⟩
 rw[aAG mk (by omega) a2 a3]at I3;exact⟨.ref _,_,I3,U,q _ hs⟩
end
end L2


namespace L2
open PySem PySem.Spec PySem.Calls PyProof.Rows PyProof.V
section
variable{prog:AJ}{w:AN}{A:AL}{E:A6→A8→Prop}{s:A8}{I l:A7}
end
section
variable{K:aJ}{X:Cx}{e:AD}{t:TE}{f:FE}{x y:Str}{p p2 pos pos2:Pos}
def tL(φ:D→Option D)(f:FE):FE:=λe=>(f e).bind φ
def SQ:D→Option D
 | .lst ds=>(intsOf ds).bind λns=>if ns.length<64 then NC (.lst ((bc ns).map D.int))else none
 | _=>none
theorem wg(h:XR K X e t f)(hg:Gl X x)(hm:X.mg x=none)(hv:AW x=NC (.builtin "sorted")) (hg2:Gl X y) (hm2:X.mg y=none) (hv2:AW y=NC (.type "set")) (hc:X.calm=NF:=by rfl) (hn:x ≠ "__name__" := by decide) (hdb:(x==("__debug__" : Str))=NG:=by decide) (hn2:y ≠ "__name__" := by decide) (jk:(y==("__debug__" : Str))=NG:=by decide)
  (he:AB [e] X.env=[(NG,AO e X.env)]:=by rfl) (he2:AB [.Call (.Name y p2) [e] [] pos2] X.env=[(NG,AO (.Call (.Name y p2) [e] [] pos2) X.env)]:=by rfl) :
  XN K X (.Call (.Name x p) [.Call (.Name y p2) [e] [] pos2] [] pos) (tUn (aGv K) t) (tL SQ f):=⟨h.hk,aFh (by have:=h.hk;subst this;exact aHY hc) h.pe hg hm hv hg2 hm2 hv2 hn hdb hn2 jk he he2,λσ H e d Q re q k=>by
 obtain⟨d0,q1,q2⟩:=bA q;unfold SQ at q2;split at q2
 ·obtain⟨ns,q3,q4⟩:=bA q2;split at q4
  ·rename_i hl;cases q4;refine h.ev σ H H e _ _ (Zn.self K H) re q1 λv H1 Z1 s1 t1 z1 rv=>?_;obtain⟨p,rfl,r2⟩:=By q3 (z1.sm.rv _ _ rv);exact⟨p,ns,U,r2,hl,λl hl=>k _ _ (s1.trans (dI hl _)) ((wD (aV.refl _) (.fU (cY _) (kW.mpr U)) hl).back s1)⟩
  ·cases q4
 ·cases q2⟩
end
end L2


namespace L2
open PySem PySem.Spec PySem.Calls PyProof.Rows PyProof.V PySem.W Att
abbrev Small(k:Int):Prop:=CC k≤1048576
theorem aCt{ns:List Int}(h:WData.layableAll [WData.list (ns.map WData.int)]=NF):∀k∈ns,Small k:=λk hk=>by
 have h1:(WData.list (ns.map WData.int)).layable=NF:=by simpa[WData.layableAll]using h
 obtain⟨c,_,w⟩:=layableW_iff.mp h1;have c':WData.canLayAll (ns.map WData.int)=NF:=by simpa[WData.canLay]using c
 have w':WData.weightAll (ns.map WData.int)≤2 ^ 20:=by simpa[WData.weight]using w
 have:=(items_part (J2.mpr ⟨k,hk,U⟩) c').2.2;have e:(WData.int k).weight=CC k:=by simp only[WData.weight,CC]
 rw[e]at this;exact G0 this w'
theorem SX{l:OpenLaw}{n:Nat}{q:AJ}{loose:List Str}{XP:(Str→Option A6)→AM→Prop}{YP:AN→AM→Prop}{d:DefRec}(hn:l.most=NC n)(hdf:d.params.defaults=[])
  (call:∀(w:AN)(s₀ s₁:A8)(mg mb:Str→Option A6)(fa:A7)(o:Obj)(pm cd doc:A6)(a:A7)(vs:List A6)(ns:List Int),Ground q loose [] XP w s₀ mg mb s₁.heap→YP w s₁.heap →
   s₁.heap.get? fa=NC o→o.data=.func (docDef d.name d.params d.body d.scope pm cd doc)→s₁.heap.CodeRec cd d.name→mg d.name=NC (.ref fa) →
   s₁.heap.get? a=NC {cls:=.type "list", data:=.seq vs.toArray}→Da vs ns→ns.length≤n→(∀k∈ns,Small k)→s₁.gens=#[] →
   CH (AG l.prog w) EZ (.call (.ref fa) ⟨[.ref a],[]⟩) (λr s'=>r=.ok (.ret (.bool NF))∧OldK s₁.heap s'.heap∧s'.os=s₁.os∧DZ s'.gens) s₁) :
  WalkO q loose XP YP l.row.toRowW d [] (λf vs=>k8 f vs):=by
 intro w s₀ s₁ mg mb G Y fa o pm cd doc dV kV ho hd hcd hD hmg hg args vals as hpre hlay hrd hwl hlo;obtain rfl:dV=.none:=Dflts.none hD hdf;obtain rfl:kV=.none:=Dflts.noKw hD;obtain⟨a,vs,ns,rfl,rfl,hobj,hints,hlen⟩:=aAn hn hpre hwl;refine enter_call (Ch (call w s₀ s₁ mg mb fa o pm cd doc a vs ns G Y ho (fd_plain hd) hcd hmg hobj hints hlen (aCt hlay) hg) λr s' hq=>?_);obtain⟨rfl,h2,h3,h4⟩:=hq;exact⟨.inl ⟨.bool NF,.bool NF,[],rfl,λ_=>rfl,.bool NF,aAo l _,λ_=>⟨List.Pairwise.nil,λ_ hm=>(nomatch hm)⟩⟩,h2,h3,h4⟩
theorem aAH{l:k9}{n k:Nat}{q:AJ}{loose:List Str}{XP:(Str→Option A6)→AM→Prop}{YP:AN→AM→Prop}{d:DefRec}{K:Kt→aJ}{CX:AN→CXT}{sp:AN→Sp}{x:Str}(hn:l.most=NC n)(hn2:n≤sizeLine)(hdf:d.params.defaults=[])(hr:lA k EZ)
  (hY:∀(w:AN)(h:AM),YP w h→(K w.params).In h)
  (F:∀(w:AN)(mg:Str→Option A6)(fa:A7)(h:AM),(K w.params).In h→h.Ns AV mg→mg d.name=NC (.ref fa)→∃fd:BE,(∀(s:A8)(u:A6),Fn s fd ⟨[u],[]⟩ [(x,u)])∧∀base:AM,(K w.params).In base→base.Ns AV mg→Fj l.prog w (K w.params) mg base (CX w) k fa fd [x] (sp w))
  (hsp:∀(w:AN)(H:Hp)(a:A7)(ns:List Int),ns.length≤n→(∀k∈ns,Small k)→Only H→rJ (K w.params) H a (ns.map V.int)→sp w [.ref a] H (λv _=>v=.bl NF) λ_ _ _=>False)
  (hCX:∀(w:AN)(H:Hp)(s:A8)(e:A6)(s':A8),CX w [] H s (λ_ _ _=>False) e s'→False) :
  n9 q loose XP YP l.row.toRowW d [] (λf vs=>k8 f vs):=by
 refine SX hn hdf λw s₀ s₁ mg mb fa o pm cd doc a vs ns G Y ho hd hcd hmg hobj hints hlen hsm hg=>?_;have KX:=hY w _ Y;obtain⟨fd,hb,hF⟩:=F w mg fa _ KX G.T.g hmg;exact aBY KX G.T.g G.T.b G.T.builtins G.T.nolimit hg hobj hints (G0 hlen hn2) hr hF hb (λH hO hS=>hsp w H a ns hlen hsm hO hS) λH e s'=>hCX w H s₁ e s'
def spB(K:aJ):Sp:=λvs H Q _=>∃(a:A7)(ns:List Int),vs=[.ref a]∧rJ K H a (ns.map V.int)∧ns.length≤63∧(∀k∈ns,Small k)∧∀H',Q (.bl NF) H'
theorem Fun.okB{P:AJ}{w:AN}{K:aJ}{mg:Str→Option A6}{base:AM}{x:Str}{st:AH}{N:List Str}{k:Nat}{g:GS}{f:A7}{fd:BE}(F:Fun K x x st f fd)(S:aZ N ["script"] (aK st))
  (hbody:∀(cdv:A6)(A:AL)(outer:List Env)(s:A8)(H:Hp)(E:XK),lA k (A.deeper (BN x (aK st) s.heap.objs.size f cdv))→∃t,YB K (Gw FZ P w K mg base N x (aK st) f cdv A outer s H E).bw (cR st) t g)
  (aHZ:∀ns:List Int,ns.length≤63→(∀k∈ns,Small k)→oZ N.length 1 g [.lst (ns.map D.int)]=NC (.bl NF)):Fj P w K mg base FZ (k+1) f fd ["script"] (spB K):=by
 refine F.ok S (λvs H Q E h=>?_) (λcdv A outer s H vs Q E hr h=>?_)
 ·obtain⟨a,ns,rfl,_⟩:=h;rfl
 obtain⟨a,ns,rfl,hS,hl,hb,q⟩:=h;obtain⟨t,yb⟩:=hbody cdv A outer s H E hr;have h3:=aHZ ns hl hb;have rv:fQ K H [.lst (ns.map D.int)] [.ref a]:=by unfold fQ;exact⟨_,_,U,by unfold Rv;exact⟨a,_,U,hS,kW.mpr U⟩,by unfold fQ;rfl⟩
 refine⟨t,yb.ps,yb.ev H _ _ H ([D.lst (ns.map D.int)].map SD.fro++E4 (N.length-1) SD.no) (Mt rv) ?_⟩;unfold oZ at h3;rw[if_pos (show [D.lst (ns.map D.int)].length=1 from rfl)]at h3;cases qq:g ([D.lst (ns.map D.int)].map SD.fro++E4 (N.length-1) SD.no)with
 | ret d'=>
  rw[qq]at h3;cases h3;refine λv H' A' s' o=>?_;have:=Ow.rv _ _ _ o;unfold Rv at this;subst this;exact q _
 | _=>rw[qq]at h3;cases h3
section
variable{K:aJ}{X:Cx}{e a b c:AD}{es:List AD}{t ta tb te:TE}{f g:FE}{pos:Pos}
def aCu(i j:Int):Prop:=CC i≤4000000∧CC j≤4000000
instance (i j:Int):Decidable (aCu i j):=by unfold aCu;exact inferInstance
def aLE:D→D→Option D:=Ti aCu λi j=>.int (i*j)
variable{lo hi:Option AD}{tl th:TO}{fl fh:FO}{p2:Pos}
end
end L2


namespace L2
open PySem PySem.Spec PySem.Calls PyProof.Rows PyProof.V
section
variable{K:aJ}{X:Cx}
def aLF:List D→Option D
 | [.bl c]=>NC (.int (if c then 1 else 0))
 | _=>none
end
end L2


namespace L2
open PySem PySem.Spec PySem.Calls PyProof.Rows PyProof.V
section
variable{X:Cx}{pins:List (A7×Obj)}{σ:St}{H:Hp}{s:A8}{h':AM}
end
section
variable{K:aJ}{X:Cx}{e a b c:AD}{es:List AD}{t ta tb te:TE}{f g fe:FE}{tc:TT}{fc:FT}{pos p p2:Pos}{x:Str}
end
end L2


namespace L2
open PySem PySem.Spec PySem.Calls PyProof.Rows PyProof.V
section
variable{K:aJ}{B H:Hp}{env:EN}{σ:St}{i:Nat}{v:V}{d:D}
theorem Rel.aCv(h:Rel K B env σ H)(e:env[i]?=NC (.inn v d)):Rel K B (env.set i (.own d)) σ H∧σ[i]?=NC (NC v):=by obtain⟨A,a,b⟩:=h;obtain⟨y,A1,C,h1,h2,h3,h4,k⟩:=a.focus e;obtain⟨rfl,o⟩:=h4;have eA:A=gB A1 C:=funext λx=>propext (h3 x);subst eA;have s:=k _ (λ_ _ _ _ q=>q) (.own d) (NC v) A1 h2 ⟨v,U,o⟩;rw[set_same h1]at s;exact⟨⟨_,s,b⟩,h1⟩
theorem Rel.aCw(h:Rel K B env σ H)(e:env[i]?=NC (.own d))(hv:σ[i]?=NC (NC v)):Rel K B (env.set i (.inn v d)) σ H:=by obtain⟨A,a,b⟩:=h;obtain⟨y,A1,C,h1,h2,h3,h4,k⟩:=a.focus e;obtain⟨v',rfl,o⟩:=h4;rw[hv]at h1;cases h1;have eA:A=gB A1 C:=funext λx=>propext (h3 x);subst eA;have s:=k _ (λ_ _ _ _ q=>q) (.inn v d) (NC v) A1 h2 ⟨U,o⟩;rw[set_same hv]at s;exact⟨_,s,b⟩
end
section
variable{K:aJ}{X:Cx}{st:AH}{sts:List AH}{t u tb:TS}{g g1 g2:GS}{e a b c:AD}{es:List AD}{te ta t0:TE}{f f0 fa fb:FE}{gk:FE}{tA:TA}{fs:FA}{tc:TT}{fc:FT}{pos:Pos}{i:Nat}{π:FP}
end
end L2


namespace L2
open PySem PySem.Spec PySem.Calls PyProof.Rows PyProof.V
section
variable{α β:Type}{R:α→Fp→β→Prop}
theorem eO.Mu:∀{ds:List α} {A:Fp} {ys:List β} {d:α} {y:β},eO R (ds++[d]) A (ys++[y])→∃A0 A1,eO R ds A0 ys∧R d A1 y∧Apart A0 A1∧Is A (gB A0 A1)
  | [],A,ys,d,y,h=>by
    obtain⟨y0,yt,A1,A2,h1,h2,h3,h4,h5,h6⟩:=h;subst h6;cases ys with
    | nil=>
      cases h1;exact⟨nil,A1,⟨λ_ z=>z,U⟩,h4,λ_ z=>z.elim,λx=>⟨λq=>((h3 x).mp q).elim .inr λz=>absurd z (h5 x),λq=>q.elim False.elim λz=>(h3 x).mpr (.inl z)⟩⟩
    | cons z zs=>
      injection h1 with _ h1;cases zs<;>cases h1
  | d0::ds,A,ys,d,y,h=>by
    obtain⟨y0,yt,A1,A2,h1,h2,h3,h4,h5⟩:=h;have hl:=h5.len;cases ys with
    | nil=>injection h1 with _ h1;subst h1;have hl:0=(ds++[d]).length:=hl;rw[C7]at hl;simp at hl
    | cons z zs=>
      injection h1 with e1 e2;subst e1 e2;obtain⟨B0,B1,k1,k2,k3,k4⟩:=eO.Mu h5;refine⟨gB A1 B0,B1,⟨z,zs,A1,B0,U,λx q q'=>h2 x q ((k4 x).mpr (.inl q')),λx=>Iff.rfl,h4,k1⟩,k2,λx q q'=>?_,λx=>?_⟩
      · rcases q with q | q
        · exact h2 x q ((k4 x).mpr (.inr q'))
        · exact k3 x q q'
      · rw[h3 x]
        constructor
        · rintro(q | q)
          · exact .inl (.inl q)
          · exact((k4 x).mp q).elim (λz=>.inl (.inr z)) .inr
        · rintro((q | q) | q)
          · exact .inl q
          · exact .inr ((k4 x).mpr (.inl q))
          · exact .inr ((k4 x).mpr (.inr q))
end
section
variable{K:aJ}{B H H':Hp}{env:EN}{σ:St}{i:Nat}{v:V}{d:D}
theorem Rel.snoc(h:Rel K B env σ H)(s:aV H H')(n:Wt K H H' d v):Rel K B (env++[.own d]) (σ++[NC v]) H':=by obtain⟨A,a,b⟩:=h;obtain⟨N,o,f⟩:=n;have cl:=lO a;have g:aV (out H A) (out H' (gB A N)):=cH s λx q=>q.elim .inl λq=>.inr (f x q);refine⟨gB A N,eO.snoc (a.mono λe D z _ q=>q.same s g) ⟨v,U,o⟩ λx q1 q2=>?_,b.trans g⟩;obtain⟨⟨u,e⟩,_⟩:=cl x q1;rw[f x q2]at e;cases e
theorem Rel.pop{s:SD}{y:Option V}(h:Rel K B (env++[s]) (σ++[y]) H):Rel K B env σ H:=by obtain⟨A,a,b⟩:=h;obtain⟨A0,A1,k1,k2,k3,k4⟩:=a.Mu;have g:aV (out H A) (out H A0):=cH (aV.refl _) λx q=>.inl ((k4 x).mpr (.inl q));exact⟨A0,k1.mono λe D z _ q=>q.same (aV.refl _) g,b.trans g⟩
theorem Rel.jl(h:Rel K B (env++[.own d]) (σ++[NC v]) H):Rv K H d v:=by obtain⟨A,a,b⟩:=h;obtain⟨A0,A1,k1,⟨v',e,o⟩,k3,k4⟩:=a.Mu;cases e;exact Ow.rv _ _ _ o
theorem Rel.move(h:Rel K B (env++[.own d]) (σ++[NC v]) H)(hi:i<env.length):Rel K B (env.set i (.own d)) (σ.set i (NC v)) H:=by obtain⟨A,a,b⟩:=h;obtain⟨A0,A1,k1,⟨v',e,o⟩,k3,k4⟩:=a.Mu;cases e;obtain⟨y,B1,C,f1,f2,f3,f4,f5⟩:=k1.focus (B7 hi);have g:aV (out H A) (out H (gB A1 C)):=cH (aV.refl _) λx q=>.inl ((k4 x).mpr (q.elim .inr λq=>.inl ((f3 x).mpr (.inr q))));exact⟨gB A1 C,f5 (gG K H (out H (gB A1 C))) (λe D z _ q=>q.same (aV.refl _) g) (.own d) (NC v) A1 (λx q q'=>k3 x ((f3 x).mpr (.inr q')) q) ⟨v,U,o⟩,b.trans g⟩
theorem Rel.give(h:Rel K B env σ H)(e:env[i]?=NC (.own d)):∃v,σ[i]?=NC (NC v)∧Rel K B (env.set i .no++[.own d]) (σ++[NC v]) H:=by obtain⟨A,a,b⟩:=h;obtain⟨y,A1,C,h1,h2,h3,h4,k⟩:=a.focus e;obtain⟨v,rfl,o⟩:=h4;have eA:A=gB A1 C:=funext λx=>propext (h3 x);subst eA;have s:=k _ (λ_ _ _ _ q=>q) .no (NC v) nil (λ_ z=>z.elim) (λ_ z=>z);rw[set_same h1]at s;have s2:=eO.snoc (d:=SD.own d) (y:=NC v) (A1:=A1) s ⟨v,U,o⟩ (λx q q'=>q.elim False.elim (h2 x q'));have eA2:(gB (gB nil C) A1)=gB A1 C:=funext λx=>propext ⟨λq=>q.elim (λq=>q.elim False.elim .inr) .inl,λq=>q.elim .inr λq=>.inl (.inr q)⟩;rw[eA2]at s2;exact⟨v,h1,_,s2,b⟩
end
def iW(i:Nat)(g:GS):GS:=λenv=>match env[i]? with
 | some (.inn v d)=>(match g (env.set i (.own d))with
  | .next env'=>(match env'[i]? with
   | some (.own d')=>.next (env'.set i (.inn v d'))
   | _=>.bad)
  | _=>.bad)
 | _=>.bad
theorem aCx{K:aJ}{t:TS}{g:GS}{i:Nat}(h:DSs K t g):DSs K t (iW i g):=λB E σ H env r p=>by
 unfold iW at p;split at p
 ·rename_i v d q1;obtain⟨r',hσ⟩:=r.aCv q1;refine h B E σ H _ r' ?_;split at p
  ·rename_i env' q2;rw[q2];split at p
   ·rename_i d' q3;exact λH' r2=>p H' (r2.aCw q3 hσ)
   ·exact p.elim
  ·exact p.elim
 ·exact p.elim
theorem Hr{K:aJ}{X:Cx}{st:AH}{t:TS}{g:GS}(i:Nat)(hp:PS X st t)(h:DSs K t g):YS K X st t (iW i g):=⟨hp,(aCx h).ds⟩
def aCy:GS:=λ_=>.bad
theorem IW{K:aJ}{X:Cx}{st:AH}:YS K X st aBr aCy:=⟨aBs,λ_ _ _ _ _ _ p=>p.elim⟩
section
variable{K:aJ}{X:Cx}{st:AH}{sts:List AH}{t u tb:TS}{g g1 g2:GS}{e a b c o:AD}{es:List AD}{te ta t0 tv:TE}{f f0 fa fb:FE}{gk:FE}{tA:TA}{fs:FA}{tc:TT}{fc:FT}{pos apos:Pos}{i:Nat}{π:FP}
structure jE(K:aJ)(C:A7)(nm:List Str):Prop where
 cl:Cls K C
 no:∀f∈nm,Gv K C f
def fO(C:A7)(x:Str)(d:D):Option D:=match d with
 | .ins C' nm ds=>if C'=C then(posK nm x).bind λj=>ds[j]? else none
 | _=>none
theorem aFi{H:Hp}{C:A7}{x:Str}{d r:D}{v:V}(q:fO C x d=NC r)(rv:Rv K H d v):∃a dx fs y,v=.ref a∧H a=NC (.ins C dx fs)∧fs.lookup x=NC y∧Rv K H r y:=by
 unfold fO at q;split at q
 ·rename_i C' nm ds;split at q
  ·rename_i hc;subst hc;obtain⟨j,q1,q2⟩:=bA q;unfold Rv at rv;obtain⟨a,dx,xs,rfl,h1,h2,h3⟩:=rv;obtain⟨y,h4,h5⟩:=h3.get q2;exact⟨a,dx,_,y,U,h1,by rw[Hj h2,q1];exact h4,h5⟩
  ·cases q
 ·cases q
theorem dM{C:A7}{nm:List Str}{x:Str}(F:jE K C nm)(h:XR K X e ta f)(hx:x∈nm)(hb:CI e x X.env (AO e X.env)=AO e X.env):XR K X (.Attribute e x pos) (aHd K ta x) (tL (fO C x) f):=⟨h.hk,by have:=h.hk;subst this;exact aBF h.pe hb,λσ H Z e d Q z re q k=>by
 obtain⟨d0,q1,q2⟩:=bA q;refine h.ev σ H Z e d0 _ z re q1 λv H1 Z1 s1 t1 z1 rv=>?_;obtain⟨a,dx,fs,y,rfl,h1,h2,h3⟩:=aFi q2 rv;exact⟨a,C,dx,fs,y,U,z1.sm _ _ h1,F.cl,F.no x hx,h2,k y H1 Z1 s1 t1 z1 h3⟩⟩
theorem aAI{H:Hp}{C:A7}{x:Str}{w v:V}(h:stepV H (.fld C x) w=NC v):∃a dx fs,w=.ref a∧H a=NC (.ins C dx fs)∧fs.lookup x=NC v:=by
 cases w with
 | ref a=>
  cases q:H a with
  | none=>unfold stepV at h;dsimp only at h;rw[q]at h;cases h
  | some u=>
   unfold stepV at h;dsimp only at h;rw[q]at h;cases u with
   | ins C' dx fs=>
    have h2:(if C'=C then fs.lookup x else none)=NC v:=h;by_cases hc:C'=C
    ·rw[if_pos hc]at h2;rw[←hc];exact⟨a,dx,fs,U,q,h2⟩
    ·rw[if_neg hc]at h2;cases h2
   | _=>cases h
 | _=>unfold stepV at h;cases h
def Ce(C:A7)(x:Str)(π:FP):FP:=λe=>(π e).bind λp=>NC (p++[.fld C x])
theorem pA{C:A7}{nm:List Str}{x:Str}(F:jE K C nm)(h:XP K X a ta i π)(hx:x∈nm)(hb:CI a x X.env (AO a X.env)=AO a X.env):XP K X (.Attribute a x pos) (aHd K ta x) i (Ce C x π):=⟨h.hk,by have:=h.hk;subst this;exact aBF h.pe hb,λσ H e v0 p v Q re h1 h2 h3 k=>by
 unfold Ce at h2;obtain⟨p0,q1,q2⟩:=bA h2;cases q2;obtain⟨w,w1,w2⟩:=Jt h3;obtain⟨ad,dx,fs,rfl,w3,w4⟩:=aAI w2;exact h.ev σ H e v0 p0 _ _ re h1 q1 w1 λH1 s1=>⟨ad,C,dx,fs,v,U,s1 _ _ w3,F.cl,F.no x hx,w4,k H1 s1⟩⟩
end
theorem TF{x:Str}{y:V}:∀{nm:List Str} {xs:List V},nm.length=xs.length→Be x y (nm.zip xs)=(match posK nm x with | some j=>nm.zip (xs.set j y) | none=>(nm++[x]).zip (xs++[y]))
 | [],xs,h=>by
  cases xs with
  | nil=>rfl
  | cons=>simp at h
 | a::nm,[],h=>by simp at h
 | a::nm,z::xs,h=>by
  have ih:=TF (x:=x) (y:=y) (nm:=nm) (xs:=xs) (by simpa using h);rw[P2];unfold Be posK;by_cases c:a=x
  ·rw[if_pos c,if_pos c];rfl
  ·rw[if_neg c,if_neg c,ih];cases q:posK nm x with
   | none=>rfl
   | some j=>rfl
section
variable{K:aJ}{B H:Hp}{env:EN}{σ:St}
theorem aAJ{H:Hp}{a C dx:A7}{fs:List (Str×V)}(h:H a=NC (.ins C dx fs)):Aw H a:=⟨λys e=>(by rw[h]at e;cases e),λo ys e=>(by rw[h]at e;cases e)⟩
theorem Rel.aKS{i:Nat}{p:List Step}{d0:D}{C:A7}{nm:List Str}{ds:List D}(h:Rel K B env σ H)(e:env[i]?=NC (.own d0))(q:gC p d0=NC (.ins C nm ds)):∃v0 a dx xs Bs,σ[i]?=NC (NC v0)∧Qj H p v0=NC (.ref a)∧H a=NC (.ins C dx (nm.zip xs))∧nm.length=xs.length∧eQ K H ds Bs xs ∧
    ∀H2 nm' ds' xs' Bn,aV H H2→nm'.length=xs'.length→eQ K H2 ds' Bn xs'→(∀b,Bn b→Bs b∨H b=none)→Rel K B (env.set i (.own (fG p d0 (.ins C nm' ds')))) σ (upd H2 a (.ins C dx (nm'.zip xs'))):=by
  obtain⟨v0,w,A1,Cc,h1,h2,h3,h4,h5,h6⟩:=h.at e q;have hc:=Ow.cells _ _ _ h3;unfold Ow at h3;obtain⟨a,dx,xs,Bs,rfl,o2,o2',o3,o3',aKT,o4,o5⟩:=h3;refine⟨v0,a,dx,xs,Bs,h1,h2,o2,o3,o5,λH2 nm' ds' xs' Bn s hl o hb=>?_⟩;have nad:dx≠a:=λz=>by rw[z,o2]at o2';cases o2'
  have nBa:¬Bn a:=λz=>(hb a z).elim o3' λz=>by rw[o2]at z;cases z
  have nBd:¬Bn dx:=λz=>(hb dx z).elim aKT λz=>by rw[o2']at z;cases z
  have hC:∀x,Cc x→¬(x=a∨x=dx):=λx z y=>h4 x ((o4 x).mpr (.inl y)) z;have Wx:H2 a=NC (.ins C dx (nm.zip xs)):=s a _ o2;have nt:Aw H2 a:=aAJ Wx;refine h6 _ (.ins C nm' ds') (gB (λx=>x=a∨x=dx) Bn) (λx z1 z2=>?_) (λx z=>?_) (s.tk.trans (uU nt)) ?_ (λx u ex=>?_)
  · rcases z1 with z1 | z1
    · exact hC x z2 z1
    · rcases hb x z1 with z | z
      · exact h4 x ((o4 x).mpr (.inr z)) z2
      · obtain⟨⟨u,eu⟩,_⟩:=h5 x z2
        rw[z]at eu;cases eu
  · obtain⟨⟨u,eu⟩,_⟩:=h5 x z
    rw[bN (λy=>hC x z (.inl y)),eu,s x u eu]
  · unfold Ow
    refine⟨a,dx,xs',Bn,U,cM,by rw[bN nad];exact s dx _ o2',hl,nBa,nBd,λ_=>Iff.rfl,eQ.frame (uU nt) _ _ _ o λx zx=>bN λy=>nBa (y▸zx)⟩
  · obtain⟨e1,e2⟩:=bG.mp ex
    have na:x≠a:=λy=>e1 (.inl ((o4 x).mpr (.inl (.inl y))));refine bG.mpr ⟨λz=>?_,by rw[bN na];exact s x u e2⟩;rcases z with (z | z) | z
    · exact e1 (.inl ((o4 x).mpr (.inl z)))
    · rcases hb x z with z | z
      · exact e1 (.inl ((o4 x).mpr (.inr z)))
      · rw[z]at e2;cases e2
    · exact e1 (.inr z)
end
section
variable{K:aJ}{X:Cx}{st:AH}{sts:List AH}{t u tb:TS}{g g1 g2:GS}{e a b c o:AD}{es:List AD}{te ta t0 tv:TE}{f f0 fa fb:FE}{gk:FE}{tA:TA}{fs:FA}{tc:TT}{fc:FT}{pos apos:Pos}{i:Nat}{π:FP}
def Yx(nm:List Str)(ds:List D)(x:Str)(d:D):List Str×List D:=match posK nm x with
 | some j=>(nm,ds.set j d)
 | none=>(nm++[x],ds++[d])
def yD(C:A7)(i:Nat)(π:FP)(x:Str)(f:FE):GS:=λenv=>match env[i]?,π (rE env),f (rE env)with
 | some (.own d0),NC p,NC d=>(match gC p d0 with
  | some (.ins C' nm ds)=>if C'=C∧nm.length<900 then .next (env.set i (.own (fG p d0 (.ins C' (Yx nm ds x d).1 (Yx nm ds x d).2))))else .bad
  | _=>.bad)
 | _,_,_=>.bad
theorem aH0{C:A7}{nm0:List Str}{x:Str}(F:jE K C nm0)(hx:x∈nm0)(h:EvP K ta i π)(he:Wk K te f):DSs K (aHe K ta te x) (yD C i π x f):=λB E σ H env r p=>by
 unfold yD at p;split at p
 ·rename_i d0 pp d q1 q2 q3;split at p
  ·rename_i C' nm ds q4;split at p
   ·rename_i hc;obtain⟨rfl,hl⟩:=hc;obtain⟨v0,a,dx,xs,Bs,k1,k2,k3,k4,k5,k6⟩:=r.aKS q1 q4;refine he σ H (rE env) d _ r.r q3 λy H1 s1 n=>?_;refine h σ H1 (rE env) v0 pp _ _ (r.r.same s1) k1 q2 (Ca s1 k2) λH2 s2=>?_;have s12:=s1.trans s2;obtain⟨N,o,fr⟩:=n.same s2;refine⟨a,C',dx,_,U,s12 _ _ k3,F.cl,F.no x hx,by rw[U3];omega,p _ ?_⟩;rw[TF k4];unfold Yx;cases qj:posK nm x with
    | none=>exact k6 H2 (nm++[x]) (ds++[d]) (xs++[y]) (gB Bs N) s12 (by simp[k4]) (cZ.mpr ((cZ.mp (k5.same s12)).snoc o (HX (H1:=H) k5 fr))) λb z=>z.imp id (fr b)
    | some j=>have hj:=(uB qj).1;have hlen:=(eQ.rv _ _ _ k5).length;obtain⟨y0,A1,Cc,f1,f2,f3,f4,f5⟩:=(cZ.mp (k5.same s12)).focus (B7 (show j<ds.length by omega));have ap:Apart N Cc:=λx q1 q2=>HX (H1:=H) k5 fr x ((f3 x).mpr (.inr q2)) q1;exact k6 H2 nm (ds.set j d) (xs.set j y) (gB N Cc) s12 (by rw[K9];exact k4) (cZ.mpr (f5 (Ow K H2) (λ_ _ _ _ qq=>qq) d y N ap o)) λb z=>z.elim (λz=>.inr (fr b z)) λz=>.inl ((f3 b).mpr (.inr z))
   ·exact p.elim
  ·exact p.elim
 ·exact p.elim
end
end L2


namespace L2
open PySem PySem.Spec PySem.Calls PyProof.Rows PyProof.V
section
variable{K:aJ}{B H H':Hp}{env:EN}{σ:St}{i:Nat}{p:List Step}{d0 d:D}
theorem nZ.same{a:A7}(h:nZ H a)(s:aV H H'):nZ H' a:=by obtain⟨⟨o,e⟩,n⟩:=h;have e':=s _ _ e;exact⟨⟨o,e'⟩,λxs z=>n.1 xs (by rw[e,←e'];exact z),λu xs z=>n.2 u xs (by rw[e,←e'];exact z)⟩
theorem aCz{A:Fp}(c:∀x,A x→nZ H x):Zn K A (out H A) H:=⟨mU H A,Tg λx q=>(c x q).2,λx q=>⟨by unfold out;rw[if_pos q],λz=>by obtain⟨⟨o,e⟩,_⟩:=c x q;rw[z]at e;cases e⟩⟩
theorem aGw{A:Fp}{Z:Hp}(z:Zn K A Z H):aV Z (out H A):=λx o e=>bG.mpr ⟨λq=>(by rw[(z.no x q).1]at e;cases e),z.sm x o e⟩
theorem Rel.atR(h:Rel K B env σ H)(e:env[i]?=NC (.own d0))(q:gC p d0=NC d):∃v0 w A1 C,σ[i]?=NC (NC v0)∧Qj H p v0=NC w∧Ow K H d A1 w∧Apart A1 C∧(∀a,C a→nZ H a)∧Fq K (out H A1) (rE (env.set i .no)) σ ∧
    ∀H' d' r x A' A2,Apart A' C→Apart A2 C→Apart A' A2→(∀a,C a→H' a=H a)→Gz K H H'→Ow K H' d' A' w→Ow K H' r A2 x→aV (out H (gB A1 C)) (out H' (gB (gB A' A2) C))→Rel K B (env.set i (.own (fG p d0 d'))++[.own r]) (σ++[NC x]) H':=by
  obtain⟨A,a,b⟩:=h;have cl:=lO a;obtain⟨y,A1,C,h1,h2,h3,h4,k⟩:=a.focus e;obtain⟨v0,rfl,o⟩:=h4;obtain⟨w,B1,C1,g1,g2,g3,g4,g5⟩:=o.at q;refine⟨v0,w,B1,gB C1 C,h1,g1,g4,λx z1 z2=>?_,λx z=>?_,?_,λH' d' r x A' A2 ap apr apx fr tk o' o'' sm=>?_⟩
  · exact z2.elim (g2 x z1) (h2 x ((g3 x).mpr (.inl z1)))
  · exact cl x ((h3 x).mpr (z.elim (λz=>.inl ((g3 x).mpr (.inr z))) .inr))
  · intro j dj qj
    unfold rE at qj;rw[B9]at qj;cases ej:(env.set i .no)[j]? with
    | none=>rw[ej]at qj;cases qj
    | some sd=>
      rw[ej]at qj;have ne:i≠j:=λz=>by subst z;rw[J5 (D2.mp e).1]at ej;cases ej;cases qj
      have S':=k (gG K H (out H A)) (λ_ _ _ _ q=>q) .no none nil (λ_ z=>z.elim) λ_ z=>z;obtain⟨y,Ak,Ck,f1,f2,f3,f4,_⟩:=S'.focus ej;rw[F7,if_neg ne]at f1;have hB:∀x,B1 x→A x:=λx z=>(h3 x).mpr (.inl ((g3 x).mpr (.inl z)));have apk:Apart Ak B1:=λx z1 z2=>h2 x ((g3 x).mpr (.inl z2)) (((f3 x).mpr (.inl z1)).elim False.elim id);cases sd with
      | no=>cases qj
      | fro d1=>
        cases qj;obtain⟨_,v1,rfl,f5⟩:=f4;exact⟨v1,f1,(cH (aV.refl _) λx q=>.inl (hB x q):aV (out H A) (out H B1)).rv _ _ f5⟩
      | own d1=>
        cases qj;obtain⟨v1,rfl,f5⟩:=f4;exact⟨v1,f1,f5.out apk λx q=>(cl x (hB x q)).2⟩
      | inn v1 d1=>cases qj;obtain⟨rfl,f5⟩:=f4;exact⟨v1,f1,f5.out apk λx q=>(cl x (hB x q)).2⟩
  · have o2:=g5 H' d' A' (λx z1 z2=>ap x z1 (.inl z2)) (λx z=>fr x (.inl z)) tk o'
    have ap2:Apart (gB A' C1) C:=λx z1 z2=>z1.elim (λz=>ap x z (.inr z2)) λz=>h2 x ((g3 x).mpr (.inr z)) z2;have hA:Is A (gB B1 (gB C1 C)):=λx=>by
      rw[h3 x];constructor
      · rintro(z | z)
        · exact((g3 x).mp z).elim .inl λz=>.inr (.inl z)
        · exact .inr (.inr z)
      · rintro(z | z | z)
        · exact .inl ((g3 x).mpr (.inl z))
        · exact .inl ((g3 x).mpr (.inr z))
        · exact .inr z
    have g:aV (out H A) (out H' (gB (gB (gB A' C1) C) A2)):=λx u ex=>by
      obtain⟨e1,e2⟩:=bG.mp ex;have:=sm x u (bG.mpr ⟨λz=>e1 ((hA x).mpr z),e2⟩);obtain⟨e3,e4⟩:=bG.mp this;refine bG.mpr ⟨λz=>e3 ?_,e4⟩;rcases z with ((z | z) | z) | z
      · exact .inl (.inl z)
      · exact .inr (.inl z)
      · exact .inr (.inr z)
      · exact .inl (.inr z)
    have s:=k (gG K H' (out H' (gB (gB (gB A' C1) C) A2))) (λs D z hb qq=>by
      cases s with
      | no=>exact qq
      | fro d=>obtain⟨q1,v,q2,q3⟩:=qq;exact⟨q1,v,q2,g.rv _ _ q3⟩
      | inn v d=>exact⟨qq.1,Ow.frame tk _ _ _ qq.2 λx zx=>fr x (.inr (hb x zx))⟩
      | own d=>obtain⟨v,q1,q2⟩:=qq;exact⟨v,q1,Ow.frame tk _ _ _ q2 λx zx=>fr x (.inr (hb x zx))⟩) (.own (fG p d0 d')) (NC v0) (gB A' C1) ap2 ⟨v0,U,o2⟩
    rw[set_same h1]at s;refine⟨_,eO.snoc s ⟨x,U,o''⟩ λy z1 z2=>?_,b.trans g⟩;rcases z1 with (z | z) | z
    · exact apx y z z2
    · exact apr y z2 (.inl z)
    · exact apr y z2 (.inr z)
def spS(K:aJ)(m:Nat)(F:List D→Option (D×D)):Sp:=λvs H Q _=>∃d es v ws A r d',vs=v::ws∧es.length+1=m∧Ow K H d A v∧fQ K (out H A) es ws∧F (d::es)=NC (r,d')∧∀w H' A' A2,Ow K H' d' A' v→Ow K H' r A2 w→Apart A' A2→aV (out H A) (out H' (gB A' A2))→Q w H'
theorem TJ{m:Nat}{F:List D→Option (D×D)}{E:XK}{Q:VK}{es:List D}{r d':D}(h:Rel K B env σ H)(e:env[i]?=NC (.own d0))(q:gC p d0=NC d)(hl:es.length+1=m)(hF:F (d::es)=NC (r,d'))(k:∀w H',Rel K B (env.set i (.own (fG p d0 d'))++[.own r]) (σ++[NC w]) H'→Q w H') :
  ∃v0 w0 A1,σ[i]?=NC (NC v0)∧Qj H p v0=NC w0∧Ow K H d A1 w0∧Fq K (out H A1) (rE (env.set i .no)) σ∧∀H2 vs,aV H H2→fQ K (out H2 A1) es vs→spS K m F (w0::vs) H2 Q E:=by
 obtain⟨v0,w,A1,C,h1,h2,h3,h4,h5,h6,h7⟩:=h.atR e q;have c1:=Ow.cells _ _ _ h3;refine⟨v0,w,A1,h1,h2,h3,h6,λH2 vs s rvs=>⟨d,es,w,vs,A1,r,d',U,hl,h3.same s,rvs,hF,λx H3 A' A2 o1 o2 ap sm=>k x H3 ?_⟩⟩;have hC:∀y,C y→¬A' y∧¬A2 y∧H3 y=H y:=λy hy=>by obtain⟨⟨u,eu⟩,_⟩:=h5 y hy;obtain⟨n1,n2⟩:=bG.mp (sm y u (bG.mpr ⟨λz=>h4 y z hy,s y u eu⟩));exact⟨λz=>n1 (.inl z),λz=>n1 (.inr z),n2.trans eu.symm⟩
 have tk:Gz K H H3:=(Tg λx q=>(c1 x q).2).trans ((cH s λx q=>.inl q:aV (out H A1) (out H2 A1)).trans (sm.trans (mU _ _))).tk;refine h7 H3 d' r x A' A2 (λy z1 z2=>(hC y z2).1 z1) (λy z1 z2=>(hC y z2).2.1 z1) ap (λy hy=>(hC y hy).2.2) tk o1 o2 λy u ey=>?_;obtain⟨e1,e2⟩:=bG.mp ey;obtain⟨n1,n2⟩:=bG.mp (sm y u (bG.mpr ⟨λz=>e1 (.inl z),s y u e2⟩));exact bG.mpr ⟨λz=>z.elim n1 λz=>e1 (.inr z),n2⟩
def SD.hold:SD→Option (D×(D→SD))
 | .own d=>NC (d,.own)
 | .inn v d=>NC (d,.inn v)
 | _=>none
theorem TQ{m:Nat}{F:List D→Option (D×D)}{E:XK}{Q:VK}{es:List D}{r d':D}{back:D→SD}(h:Rel K B env σ H)(e:env[i]?.bind SD.hold=NC (d0,back))(q:gC p d0=NC d)(hl:es.length+1=m)(hF:F (d::es)=NC (r,d'))(k:∀w H',Rel K B (env.set i (back (fG p d0 d'))++[.own r]) (σ++[NC w]) H'→Q w H') :
  ∃v0 w0 A1,σ[i]?=NC (NC v0)∧Qj H p v0=NC w0∧Ow K H d A1 w0∧Fq K (out H A1) (rE (env.set i .no)) σ∧∀H2 vs,aV H H2→fQ K (out H2 A1) es vs→spS K m F (w0::vs) H2 Q E:=by
 obtain⟨s,e1,e2⟩:=bA e;cases s with
 | no=>cases e2
 | fro d=>cases e2
 | own d=>cases e2;exact TJ h e1 q hl hF k
 | inn v d=>
  cases e2;obtain⟨r',hσ⟩:=h.aCv e1;have hi:i<env.length:=(D2.mp e1).1;have:=TJ (E:=E) (Q:=Q) r' (J5 hi) q hl hF λw H' rr=>by
   rw[X7]at rr;have r2:=rr.aCw (i:=i) (v:=v) (d:=fG p d0 d') (by rw[G4 (by rw[K9];exact hi)];exact J5 hi) (by
    have hl:=h.len;rw[G4 (by omega)];exact hσ)
   rw[List.set_append_left _ _ (by rw[K9];exact hi),X7]at r2;exact k w H' r2
  rw[X7]at this;exact this
end
abbrev GM:=EN→Option (D×EN)
def EvM(K:aJ)(t:TE)(g:GM):Prop:=∀(B:Hp)(σ:St)(H:Hp)(env:EN)(d:D)(env':EN)(Q:VK),Rel K B env σ H→g env=NC (d,env')→(∀v H',Rel K B (env'++[.own d]) (σ++[NC v]) H'→Q v H')→t σ H Q
structure XM(K:aJ)(X:Cx)(e:AD)(t:TE)(g:GM):Prop where
 hk:X.K=K
 pe:PE X e t
 ev:EvM K t g
abbrev GB:=EN→Option (Bool×EN)
def aJA(K:aJ)(t:TT)(g:GB):Prop:=∀(B:Hp)(σ:St)(H:Hp)(env:EN)(b:Bool)(env':EN)(Q:Bool→Hp→Prop),Rel K B env σ H→g env=NC (b,env')→(∀H',Rel K B env' σ H'→Q b H')→t σ H Q
structure XTM(K:aJ)(X:Cx)(e:AD)(t:TT)(g:GB):Prop where
 hk:X.K=K
 pt:PT X e t
 ev:aJA K t g
structure XWM(K:aJ)(X:Cx)(e:AD)(t:TT)(g:GB):Prop where
 hk:X.K=K
 pw:PW X e t
 ev:aJA K t g
abbrev FA2:=DE→DE→Option (List D)
def aJC(K:aJ)(t:TA)(fs:FA2):Prop:=∀(A1:Fp)(σ:St)(H:Hp)(eF eZ:DE)(ds:List D)(Q:List V→Hp→Prop),(∀x,A1 x→nZ H x)→Fq K H eF σ→Fq K (out H A1) eZ σ→fs eF eZ=NC ds →
 (∀vs H',aV H H'→fQ K (out H' A1) ds vs→Q vs H')→t σ H Q
structure XAB(K:aJ)(X:Cx)(es:List AD)(t:TA)(fs:FA2):Prop where
 hk:X.K=K
 pa:PA X es t
 ev:aJC K t fs
section
variable{K:aJ}{X:Cx}{st:AH}{sts:List AH}{t u tb:TS}{g:GM}{g1 g2:GS}{e a b c o:AD}{es rest:List AD}{te ta t0 tv:TE}{f f0 fa fb:FE}{tA:TA}{fs:FA2}{tc td:TT}{fc:FT}{gb gc:GB}{pos apos:Pos}{i:Nat}{π:FP}
def iY:FA2:=λ_ _=>NC []
def qO(f:FE)(fs:FA2):FA2:=λeF eZ=>(f eZ).bind λd=>(fs eF eZ).map λr=>d::r
def faN(f:FE)(fs:FA2):FA2:=λeF eZ=>(f eF).bind λd=>(fs eF eZ).map λr=>d::r
theorem gY(hk:X.K=K:=by rfl):XAB K X [] oK iY:=⟨hk,jM,λA1 σ H eF eZ ds Q c re rz q k=>by
 cases q;exact k [] H (aV.refl _) (by unfold fQ;rfl)⟩
theorem dF(h:XR K X e te f)(hs:XAB K X es tA fs)(hst:AB (e::es) X.env=(NG,AO e X.env)::AB es X.env:=by rfl):XAB K X (e::es) (gF te tA) (qO f fs):=⟨h.hk,dG h.pe hs.pa hst,λA1 σ H eF eZ ds Q c re rz q k=>by
 obtain⟨d,q1,q2⟩:=bA q;obtain⟨ds',q3,rfl⟩:=lY q2;refine h.ev σ H (out H A1) eZ d _ (aCz c) rz q1 λv H1 Z1 s1 t1 z1 rv=>?_;refine hs.ev A1 σ H1 eF eZ ds' _ (λx q=>(c x q).same s1) (re.same s1) (rz.same (cH s1 λx q=>.inl q)) q3 λvs H2 s2 rvs=>?_;refine k (v::vs) H2 (s1.trans s2) ?_;unfold fQ;exact⟨v,vs,U,((aGw z1).trans (cH s2 λx q=>.inl q)).rv _ _ rv,rvs⟩⟩
theorem Gk(h:XN K X e te f)(hs:XAB K X es tA fs)(hst:AB (e::es) X.env=(NG,AO e X.env)::AB es X.env:=by rfl):XAB K X (e::es) (gF te tA) (faN f fs):=⟨h.hk,dG h.pe hs.pa hst,λA1 σ H eF eZ ds Q c re rz q k=>by
 obtain⟨d,q1,q2⟩:=bA q;obtain⟨ds',q3,rfl⟩:=lY q2;refine h.ev σ H eF d _ re q1 λv H1 s1 n=>?_;have c1:∀x,A1 x→nZ H1 x:=λx q=>(c x q).same s1;refine hs.ev A1 σ H1 eF eZ ds' _ c1 (re.same s1) (rz.same (cH s1 λx q=>.inl q)) q3 λvs H2 s2 rvs=>?_;refine k (v::vs) H2 (s1.trans s2) ?_;obtain⟨N,o,fr⟩:=n;unfold fQ;refine⟨v,vs,U,(cH s2 λx q=>.inl q:aV (out H1 A1) (out H2 A1)).rv _ _ (o.out (λx z1 z2=>?_) λx q=>(c1 x q).2),rvs⟩;obtain⟨⟨u,eu⟩,_⟩:=c x z2;rw[fr x z1]at eu;cases eu⟩
structure dO(P:AJ)(w:AN)(K:aJ)(mg:Str→Option A6)(base:AM)(C:A7)(m:Str)(k n:Nat)(df:Bool)(sp:Sp):Prop where
 ex:∃f fd ps,ps.length=n∧Fj P w K mg base FZ k f fd ps sp∧Binds K fd ps []∧(df=NF→Binds K fd ps [BB])∧Meth K C m f
theorem Yy{nm:List Str}{xs:List V}{m:Str}(h:nm.length=xs.length)(n:m∉nm):(nm.zip xs).lookup m=none:=by rw[Hj h,Ec.mpr n];rfl
def pW(C:A7)(m:Str)(i:Nat)(π:FP)(F:List D→Option (D×D))(fs:FA2):GM:=λenv=>match env[i]?.bind SD.hold,π (rE env),fs (rE env) (rE (env.set i .no))with
 | some (d0,back),NC p,NC es=>(match gC p d0 with
  | some (.ins C' nm ds)=>if C'=C∧m∉nm then(F (.ins C' nm ds::es)).map λrd=>(rd.1,env.set i (back (fG p d0 rd.2)))else none
  | _=>none)
 | _,_,_=>none
theorem wj{C:A7}{m:Str}{n:Nat}{F:List D→Option (D×D)}{Lr:List V}{dds:List D}(hF:∀d es p,F (d::es)=NC p→es.length+1=n)(hd:∀H,fQ K H dds Lr)(ho:EvP K ta i π)(ha:aJC K tA fs):EvM K (Ot C m (spS K n F) Lr E0 ta tA) (pW C m i π F (λeF eZ=>(fs eF eZ).map (·++dds))):=λB σ H env d env' Q r q k=>by
 unfold pW at q;split at q
 ·rename_i d0 back p es' q1 q2 q3;obtain⟨es,q3a,rfl⟩:=lY q3;split at q
  ·rename_i C' nm ds q4;split at q
   ·rename_i hc;obtain⟨rfl,hm⟩:=hc;obtain⟨⟨r1,d1⟩,q5,q6⟩:=lY q;cases q6;obtain⟨v0,w0,A1,k1,k2,k3,k4,k5⟩:=TQ (E:=E0) (Q:=Q) r q1 q4 (hF _ _ _ q5) q5 k;have c1:=Ow.cells _ _ _ k3;have k3':=k3;unfold Ow at k3;obtain⟨a,dx,xs,Bs,rfl,o2,o2',o3,_⟩:=k3;refine ho σ H (rE env) v0 p _ _ r.r k1 q2 k2 λH1 s1=>⟨a,dx,_,U,s1 _ _ o2,Yy o3 hm,?_⟩
    refine ha A1 σ H1 (rE env) (rE (env.set i .no)) es _ (λx q=>(c1 x q).same s1) (r.r.same s1) (k4.same (cH s1 λx q=>.inl q)) q3a λvs H2 s2 rvs=>?_;exact k5 H2 (vs++Lr) (s1.trans s2) (rvs.append (hd _))
   ·cases q
  ·cases q
 ·cases q
theorem uD{C:A7}{m:Str}{k n:Nat}{df:Bool}{F:List D→Option (D×D)}{nm0:List Str}{pl:Sem Bool}(Cm:dO X.prog X.w X.K X.mg X.base C m k n df (spS K n F))(Fc:jE K C nm0)(hF:∀d es p,F (d::es)=NC p→es.length+1=n)(hr:lA k X.A)(ho:XP K X o ta i π)(ha:XAB K X (e::es) tA fs)
  (hst:AB (e::es) X.env=(NG,AO e X.env)::AB es X.env:=by rfl) (hpl:(AY pos (AB es X.env)).any (·.1)=NG:=by rfl)
  (ht:AO (.Call (.Attribute o m apos) (e::es) [] pos) X.env=(do
   let ov ←AO o X.env
   DL apos.atName
   let (f,first) ←CF [ov] (DI ov m pl)
   FC pos f first (AY pos (AB (e::es) X.env)) (DJ pos (Bz [] X.env))):=by rfl):XM K X (.Call (.Attribute o m apos) (e::es) [] pos) (Ot C m (spS K n F) [] E0 ta tA) (pW C m i π F (λeF eZ=>(fs eF eZ).map (·++[]))):=by
 have hk:=ho.hk;subst hk;obtain⟨f,fd,ps,_,Fo,hb,_,hm⟩:=Cm.ex;exact⟨U,DN (pl:=pl) ho.pe Fc.cl hm Fo hr hb .nil Yk ha.pa hst hpl ht,wj hF (λH=>by unfold fQ;rfl) ho.ev ha.ev⟩
theorem Jw{C:A7}{m:Str}{k n:Nat}{F:List D→Option (D×D)}{nm0:List Str}{pl:Sem Bool}(Cm:dO X.prog X.w X.K X.mg X.base C m k n NF (spS K n F))(Fc:jE K C nm0)(hF:∀d es p,F (d::es)=NC p→es.length+1=n)(hr:lA k X.A)(ho:XP K X o ta i π)(ha:XAB K X (e::es) tA fs)
  (hst:AB (e::es) X.env=(NG,AO e X.env)::AB es X.env:=by rfl) (hpl:(AY pos (AB es X.env)).any (·.1)=NG:=by rfl)
  (ht:AO (.Call (.Attribute o m apos) (e::es) [] pos) X.env=(do
   let ov ←AO o X.env
   DL apos.atName
   let (f,first) ←CF [ov] (DI ov m pl)
   FC pos f first (AY pos (AB (e::es) X.env)) (DJ pos (Bz [] X.env))):=by rfl):XM K X (.Call (.Attribute o m apos) (e::es) [] pos) (Ot C m (spS K n F) [.non] E0 ta tA) (pW C m i π F (λeF eZ=>(fs eF eZ).map (·++[.non]))):=by
 have hk:=ho.hk;subst hk;obtain⟨f,fd,ps,_,Fo,_,hb,hm⟩:=Cm.ex;exact⟨U,DN (pl:=pl) ho.pe Fc.cl hm Fo hr (hb U) (.cons U .nil) Yk ha.pa hst hpl ht,wj hF (λH=>by unfold fQ;exact⟨_,_,U,by unfold Rv;rfl,by unfold fQ;rfl⟩) ho.ev ha.ev⟩
def Qk(i:Nat)(F:List D→Option (D×D))(fs:FA2):GM:=λenv=>match env[i]?.bind SD.hold,fs (rE env) (rE (env.set i .no))with
 | some (d0,back),NC es=>(F (d0::es)).map λrd=>(rd.1,env.set i (back rd.2))
 | _,_=>none
theorem Cg{x y:Str}{k n:Nat}{F:List D→Option (D×D)}{pf py:Pos}(C:lN X.prog X.w X.K X.mg X.base x k n (spS K n F))(hF:∀d es p,F (d::es)=NC p→es.length+1=n)(hr:lA k X.A)(hg:Gl X x)(hv:PE X (.Name y py) (sE i))(ha:XAB K X es tA fs)(hdb:(x==("__debug__" : Str))=NG:=by decide)
  (he:AB (.Name y py::es) X.env=(NG,AO (.Name y py) X.env)::AB es X.env:=by rfl) (hpl:(AY pos (AB es X.env)).any (·.1)=NG:=by rfl):XM K X (.Call (.Name x pf) (.Name y py::es) [] pos) (Sd (spS K n F) [] E0 (gF (sE i) tA)) (Qk i F fs):=⟨ha.hk,il C hr hg (dG hv ha.pa he) hdb he hpl,λB σ H env d env' Q r q k=>by
 unfold Qk at q;split at q
 ·rename_i d0 back es' q1 q3;obtain⟨⟨r1,d1⟩,q5,q6⟩:=lY q;cases q6;obtain⟨v0,w0,A1,k1,k2,k3,k4,k5⟩:=TQ (E:=E0) (Q:=Q) (p:=[]) r q1 U (hF _ _ _ q5) q5 k;have c1:=Ow.cells _ _ _ k3;cases k2;refine⟨v0,k1,ha.ev A1 σ H (rE env) (rE (env.set i .no)) es' _ c1 r.r k4 q3 λvs H2 s2 rvs=>?_⟩;show spS K n F ((v0::vs)++[]) H2 Q E0;rw[F3];exact k5 H2 vs s2 rvs
 ·cases q⟩
def gJ(C:A7)(m:Str)(n:Nat)(F:List D→Option D)(fo:FE)(fs:FA)(dds:List D):FE:=λe=>(fo e).bind λd0=>match d0 with
 | .ins C' nm ds=>if C'=C∧m∉nm then(fs e).bind λes=>if es.length+dds.length+1=n then F (.ins C' nm ds::(es++dds))else none else none
 | _=>none
theorem wk{fsA:FA}{C:A7}{m:Str}{n:Nat}{F:List D→Option D}{Lr:List V}{dds:List D}(hd:∀H,fQ K H dds Lr)(ho:Ls K ta f)(ha:EvA K tA fsA):Wk K (Ot C m (gW K n F) Lr E0 ta tA) (gJ C m n F f fsA dds):=λσ H e d Q re q k=>by
 obtain⟨d0,q1,q2⟩:=bA q;split at q2
 ·rename_i C' nm ds;split at q2
  ·rename_i hc;obtain⟨rfl,hm⟩:=hc;obtain⟨es,q3,q4⟩:=bA q2;split at q4
   ·rename_i hl;refine ho σ H H e _ _ (Zn.self K H) re q1 λv H1 Z1 s1 t1 z1 rv=>?_;have rv1:=z1.sm.rv _ _ rv;have aKV:=rv1;unfold Rv at rv1;obtain⟨a,dx,xs,rfl,h1,h2,h3⟩:=rv1;refine⟨a,dx,_,U,h1,Yy h2 hm,?_⟩;refine ha σ H1 H1 e es _ (Zn.self K H1) (re.same s1) q3 λvs H2 Z2 s2 t2 z2 rvs=>?_;refine⟨_::(es++dds),d,by rw[F0,C7];omega,?_,q4,λw H3 s3 nw=>k w H3 (s1.trans (s2.trans s3)) (nw.back (s1.trans s2))⟩;unfold fQ;exact⟨_,_,U,s2.rv _ _ aKV,(z2.sm.uq _ _ rvs).append (hd _)⟩
   ·cases q4
  ·cases q2
 ·cases q2
theorem eE{fsA:FA}{C:A7}{m:Str}{k n:Nat}{df:Bool}{F:List D→Option D}{nm0:List Str}{pl:Sem Bool}(Cm:dO X.prog X.w X.K X.mg X.base C m k n df (gW K n F))(Fc:jE K C nm0)(hr:lA k X.A)(ho:XR K X o ta f)(ha:XA K X (e::es) tA fsA)
  (hst:AB (e::es) X.env=(NG,AO e X.env)::AB es X.env:=by rfl) (hpl:(AY pos (AB es X.env)).any (·.1)=NG:=by rfl)
  (ht:AO (.Call (.Attribute o m apos) (e::es) [] pos) X.env=(do
   let ov ←AO o X.env
   DL apos.atName
   let (f,first) ←CF [ov] (DI ov m pl)
   FC pos f first (AY pos (AB (e::es) X.env)) (DJ pos (Bz [] X.env))):=by rfl):XN K X (.Call (.Attribute o m apos) (e::es) [] pos) (Ot C m (gW K n F) [] E0 ta tA) (gJ C m n F f fsA []):=by
 have hk:=ho.hk;subst hk;obtain⟨f,fd,ps,_,Fo,hb,_,hm⟩:=Cm.ex;exact⟨U,DN (pl:=pl) ho.pe Fc.cl hm Fo hr hb .nil Yk ha.pa hst hpl ht,wk (λH=>by unfold fQ;rfl) ho.ev ha.ev⟩
theorem Cj{C:A7}{m:Str}{k n:Nat}{df:Bool}{F:List D→Option D}{nm0:List Str}{pl:Sem Bool}(Cm:dO X.prog X.w X.K X.mg X.base C m k n df (gW K n F))(Fc:jE K C nm0)(hr:lA k X.A)(ho:XR K X o ta f)
  (ht:AO (.Call (.Attribute o m apos) [] [] pos) X.env=(do
   let ov ←AO o X.env
   DL apos.atName
   let (f,first) ←CF [ov] (DI ov m pl)
   FC pos f first (AY pos (AB [] X.env)) (DJ pos (Bz [] X.env))):=by rfl):XN K X (.Call (.Attribute o m apos) [] [] pos) (Ot C m (gW K n F) [] E0 ta oK) (gJ C m n F f aM []):=by
 have hk:=ho.hk;subst hk;obtain⟨f,fd,ps,_,Fo,hb,_,hm⟩:=Cm.ex;exact⟨U,aBK (pl:=pl) ho.pe Fc.cl hm Fo hr hb .nil Yk ht,wk (λH=>by unfold fQ;rfl) ho.ev aB4⟩
structure aAN(P:AJ)(w:AN)(K:aJ)(mg:Str→Option A6)(base:AM)(x:Str)(C:A7)(k n:Nat)(sp:Sp):Prop where
 ex:∃f fd ps,ps.length=n∧Fj P w K mg base FZ k f fd ps sp∧Binds K fd ps []∧Mk K C f∧mg x=NC (.ref C)
def TV(C:A7)(F:List D→Option (D×D))(fs:FA):FE:=λe=>(fs e).bind λes=>match F (.ins C [] []::es)with
 | some (.non,d')=>NC d'
 | _=>none
theorem wu{fsA:FA}{x:Str}{C:A7}{k n:Nat}{F:List D→Option (D×D)}{p:Pos}(Ci:aAN X.prog X.w X.K X.mg X.base x C k n (spS K n F))(hF:∀d es p,F (d::es)=NC p→es.length+1=n)(hr:lA (k+1) X.A)(hg:Gl X x)(ha:XA K X (e::es) tA fsA)(hdb:(x==("__debug__" : Str))=NG:=by decide)
  (he:AB (e::es) X.env=(NG,AO e X.env)::AB es X.env:=by rfl) (hpl:(AY pos (AB es X.env)).any (·.1)=NG:=by rfl):XN K X (.Call (.Name x p) (e::es) [] pos) (aF7 C (spS K n F) [] E0 tA) (TV C F fsA):=by
 have hk:=ha.hk;subst hk;obtain⟨f,fd,ps,_,Fo,hb,M,hm⟩:=Ci.ex;refine⟨U,aEq M Fo hr hg hm hb .nil Yk ha.pa hdb he hpl,λσ H e d Q re q k=>?_⟩;obtain⟨es,q1,q2⟩:=bA q;split at q2
 ·rename_i d' q3;cases q2;refine ha.ev σ H H e es _ (Zn.self _ H) re q1 λvs H1 Z1 s1 t1 z1 rvs=>λx dx nx ndx ne=>?_;have s0:aV H1 (upd (upd H1 dx (.own x)) x (.ins C dx [])):=λb o eb=>by rw[bN (gK eb nx),bN (gK eb ndx)];exact eb
  have so:aV H1 (out (upd (upd H1 dx (.own x)) x (.ins C dx [])) (λy=>y=x∨y=dx)):=λb o eb=>bG.mpr ⟨λz=>z.elim (gK eb nx) (gK eb ndx),s0 b o eb⟩;refine⟨.ins C [] [],es,.ref x,vs++[],(λy=>y=x∨y=dx),.non,_,U,hF _ _ _ q3,?_,?_,q3,λw H2 A' A2 o1 o2 ap sm=>⟨?_,k (.ref x) H2 (λb o eb=>?_) ⟨A',o1,λb hb=>?_⟩⟩⟩
  ·unfold Ow;refine⟨x,dx,[],nil,U,cM,by rw[bN ne,cM],U,λz=>z,λz=>z,λy=>⟨.inl,λz=>z.elim id False.elim⟩,?_⟩;unfold eQ;exact⟨λ_ z=>z,U⟩
  ·rw[F3];exact(z1.sm.trans so).uq _ _ rvs
  ·have:=Ow.rv _ _ _ o2;unfold Rv at this;exact this
  ·exact(bG.mp (sm b o ((s1.trans so) b o eb))).2
  ·cases eb:H b with
   | none=>rfl
   | some o=>exact absurd (.inl hb) (bG.mp (sm b o ((s1.trans so) b o eb))).1
 ·cases q2
theorem aKW(h:XN K X e te f):XM K X e te (λenv=>(f (rE env)).map λd=>(d,env)):=⟨h.hk,h.pe,λB σ H env d env' Q r q k=>by
 obtain⟨d0,q1,q2⟩:=lY q;cases q2;exact h.ev σ H (rE env) d Q r.r q1 λv H' s n=>k v H' (r.snoc s n)⟩
def gbV(g:GM):GB:=λenv=>(g env).bind λde=>match de.1 with
 | .bl b=>NC (b,de.2)
 | _=>none
theorem wy(h:XM K X e te g)(he:∀whole,Fk e X.env whole=(do let v ←whole;DL e.pos;CF [v] (truthy v)):=by intro _;rfl):XTM K X e (tB te) (gbV g):=⟨h.hk,aBn h.pe he,λB σ H env b env' Q r q k=>by
 obtain⟨⟨d,e1⟩,q1,q2⟩:=bA q;dsimp only at q2;split at q2
 ·rename_i b';cases q2;refine h.ev B σ H env _ _ _ r q1 λv H' r'=>?_;have:=r'.jl;unfold Rv at this;exact⟨b,this,k H' r'.pop⟩
 ·cases q2⟩
def gbT(f:FT):GB:=λenv=>(f (rE env)).map λb=>(b,env)
def TX(g:GB):GB:=λenv=>(g env).map λbe=>(!be.1,be.2)
theorem wz(h:XTM K X a tc gb):XTM K X (.UnaryOp .Not a pos) (aEd tc) (TX gb):=⟨h.hk,aBo h.pt,λB σ H env b env' Q r q k=>by
 obtain⟨⟨b0,e0⟩,q1,q2⟩:=lY q;cases q2;exact h.ev B σ H env b0 e0 _ r q1 λH' r'=>k H' r'⟩
def aLH(g h:GB):GB:=λenv=>(g env).bind λbe=>if be.1=NF then h be.2 else NC (NG,be.2)
def aMs(g h:GB):GB:=λenv=>(g env).bind λbe=>if be.1=NF then NC (NF,be.2)else h be.2
def aCA(φ:D→D→Option D)(g:GM)(f:FE):GM:=λenv=>(g env).bind λde=>(f (rE de.2)).bind λd2=>(φ de.1 d2).bind λr=>if r.jJ=NF then NC (r,de.2)else none
theorem aJD{r:R2}{φ:D→D→Option D}(hd:OD K r φ)(ha:EvM K ta g)(hb:Ls K te f):EvM K (Xx r ta te) (aCA φ g f):=λB σ H env d env' Q rr q k=>by
 obtain⟨⟨d1,e1⟩,q1,q2⟩:=bA q;obtain⟨d2,q3,q4⟩:=bA q2;obtain⟨d3,q5,q6⟩:=bA q4;split at q6
 ·rename_i im;cases q6;refine ha B σ H env d1 _ _ rr q1 λx H1 r1=>?_;have p1:=r1.pop;refine hb σ H1 H1 _ d2 _ (Zn.self K H1) p1.r q3 λy H2 Z2 s2 t2 z2 ry=>?_;refine hd x y H2 d1 d2 _ _ (s2.rv _ _ r1.jl) (z2.sm.rv _ _ ry) q5 λv H3 s3 n=>k v H3 ?_;exact(p1.same s2).snoc s3 n
 ·cases q6
theorem aFj{op:Dx}{r:R2}{φ:D→D→Option D}(ho:xR X (AS op) r)(hd:OD K r φ)(ha:XM K X a ta g)(hb:XR K X b te f)(hm:behindInMarks op b=NG):XTM K X (.Compare a [op] [b] pos) (Xz (Xx r ta te)) (gbV (aCA φ g f)):=⟨ha.hk,tu ho ha.pe hb.pe hm,λB σ H env b env' Q rr q k=>by
 obtain⟨⟨d,e1⟩,q1,q2⟩:=bA q;dsimp only at q2;split at q2
 ·rename_i b';cases q2;refine aJD hd ha.ev hb.ev B σ H env _ _ _ rr q1 λv H' r'=>?_;have:=r'.jl;unfold Rv at this;exact⟨b,this,k H' r'.pop⟩
 ·cases q2⟩
def tX(i:Nat)(g:GM):GS:=λenv=>match g env with
 | some (d,env')=>if i<env'.length then .next (env'.set i (.own d))else .bad
 | none=>.bad
theorem pX{x:Str}{pos':Pos}(h:XM K X e te g)(hp:PE X e te→PS X (.Assign [.Name x pos'] e pos) (Bm te (lW i))):YS K X (.Assign [.Name x pos'] e pos) (Bm te (lW i)) (tX i g):=⟨hp h.pe,λB E σ H env r p=>by
 unfold tX at p;split at p
 ·rename_i d env' q;split at p
  ·rename_i hi;exact h.ev B σ H env d env' _ r q λv H' r'=>p _ _ (r'.move hi)
  ·exact p.elim
 ·exact p.elim⟩
def zJ(g:GM):GS:=λenv=>match g env with
 | some (_,env')=>.next env'
 | none=>.bad
theorem Jx(h:XM K X e te g)(hs:Ct e none pos.line X.env=pure NG:=by rfl):YS K X (.Expr e pos) (oH te) (zJ g):=⟨kE h.pe hs,λB E σ H env r p=>by
 unfold zJ at p;split at p
 ·rename_i d env' q;exact h.ev B σ H env d env' _ r q λv H' r'=>p _ _ r'.pop
 ·exact p.elim⟩
def pY(g:GM):GS:=λenv=>match g env with
 | some (d,env')=>.rete d env'
 | none=>.bad
theorem oW(h:XM K X e te g):YS K X (.Return (NC e) pos) (zy te) (pY g):=⟨Ru h.pe,λB E σ H env r p=>by
 unfold pY at p;split at p
 ·rename_i d env' q;exact h.ev B σ H env d env' _ r q λv H' r'=>p v σ H' r'
 ·exact p.elim⟩
def tM(i:Nat):GS:=λenv=>match env[i]? with
 | some (.own d)=>.rete d (env.set i .no)
 | some (.fro d)=>if d.jJ=NF then .rete d env else .bad
 | _=>.bad
theorem uY(h:PE X e (sE i)):YS K X (.Return (NC e) pos) (zy (sE i)) (tM i):=⟨Ru h,λB E σ H env r p=>by
 unfold tM at p;split at p
 ·rename_i d q;obtain⟨v,hv,r'⟩:=r.give q;exact⟨v,hv,p v σ H r'⟩
 ·rename_i d q;split at p
  ·rename_i im;obtain⟨v,hv,rv⟩:=r.r i d (by unfold rE;rw[B9,q];rfl);exact⟨v,hv,p v σ H (r.snoc (aV.refl _) (.jJ im rv))⟩
  ·exact p.elim
 ·exact p.elim⟩
def TY(g:GB)(g1 g2:GS):GS:=λenv=>match g env with
 | some (NF,env')=>g1 env'
 | some (NG,env')=>g2 env'
 | none=>.bad
theorem jm{s1 s2:List AH}(hc:XTM K X c tc gb)(h1:YB K X s1 t g1)(h2:YB K X s2 u g2):YS K X (.If c s1 s2 pos) (aG2 tc t u) (TY gb g1 g2):=⟨aF2 hc.pt h1.ps h2.ps,λB E σ H env r p=>by
 unfold TY at p;split at p
 ·rename_i env' q;exact hc.ev B σ H env NF env' _ r q λH' r'=>by rw[if_pos rfl];exact h1.ev B E σ H' env' r' p
 ·rename_i env' q;exact hc.ev B σ H env NG env' _ r q λH' r'=>by rw[if_neg (by decide)];exact h2.ev B E σ H' env' r' p
 ·exact p.elim⟩
end
end L2


namespace L2
open PySem PySem.Spec PySem.Calls PyProof.Rows PyProof.V
def aJE(K:aJ)(dN:Bool)(dV:A6):Prop:=match dN with
 | false=>dV=.none
 | true=>∃T o n,dV=.ref T∧K.lookup T=NC o∧o.data=.seq #[.none] n
structure UG(K:aJ)(f:A7)(m q:Str)(st:AH)(dN:Bool):Prop where
 ex:∃(oc:A6)(od:Option A7)(dV kV doc pm:A6)(an:Option A7)(cdv ct:A6)(osl:Array (Option A6)),
  K.lookup f=NC ⟨oc,od,.func (F8 m q (gD st) (cR st) (aK st) dV kV doc pm an cdv ct),osl⟩∧K3 K cdv q=NF∧aJE K dN dV
structure gZ(K:aJ)(C:A7)(m q:Str)(st:AH)(dN:Bool):Prop where
 ex:∃f,UG K f m q st dN∧Meth K C m f
structure UJ(K:aJ)(mg:Str→Option A6)(x:Str)(C:A7)(q:Str)(st:AH):Prop where
 ex:∃f,UG K f "__init__" q st NG∧Mk K C f∧mg x=NC (.ref C)
def HB(x q:Str)(st:AH)(ps:List Str):Prop:=∀(kV doc pm:A6)(an:Option A7)(cdv ct:A6)(us:List A6),us.length=ps.length→DU (F8 x q (gD st) (cR st) (aK st) .none kV doc pm an cdv ct) ⟨us,[]⟩=pure (ps.zip us)
def HBD(x q:Str)(st:AH)(ps:List Str):Prop:=∀(T:A7)(kV doc pm:A6)(an:Option A7)(cdv ct:A6)(us:List A6),(us.length=ps.length→∃k,DU (F8 x q (gD st) (cR st) (aK st) (.ref T) kV doc pm an cdv ct) ⟨us,[]⟩=seqItems? (AQ T) >>= k∧k (NC #[BB])=pure (ps.zip us)) ∧
 (us.length+1=ps.length→∃k,DU (F8 x q (gD st) (cR st) (aK st) (.ref T) kV doc pm an cdv ct) ⟨us,[]⟩=seqItems? (AQ T) >>= k∧k (NC #[BB])=pure (ps.zip (us++[BB])))
def HBs(dN:Bool)(x q:Str)(st:AH)(ps:List Str):Prop:=match dN with
 | false=>HB x q st ps
 | true=>HBD x q st ps
section
variable{P:AJ}{w:AN}{K:aJ}{mg:Str→Option A6}{base:AM}
theorem UG.binds{f:A7}{m q:Str}{st:AH}{dN:Bool}{ps:List Str}{oc:A6}{od:Option A7}{dV kV doc pm:A6}{an:Option A7}{cdv ct:A6}(hd:aJE K dN dV)(h:HBs dN m q st ps) :
  Binds K (F8 m q (gD st) (cR st) (aK st) dV kV doc pm an cdv ct) ps []∧(dN=NF→Binds K (F8 m q (gD st) (cR st) (aK st) dV kV doc pm an cdv ct) ps [BB]):=by
 cases dN with
 | false=>
  cases hd;exact⟨.all (h kV doc pm an cdv ct),λz=>by cases z⟩
 | true=>
  obtain⟨T,o,n,rfl,h1,h2⟩:=hd;refine⟨λs us kin hl=>?_,λ_ s us kin hl=>?_⟩
  ·rw[F3]at hl ⊢;obtain⟨k,e1,e2⟩:=(h T kV doc pm an cdv ct us).1 hl;exact .of_defaults U (kin _ _ h1) h2 e1 e2
  ·rw[C7]at hl;obtain⟨k,e1,e2⟩:=(h T kV doc pm an cdv ct us).2 hl;exact .of_defaults U (kin _ _ h1) h2 e1 e2
abbrev aAO(n m:Nat)(d:D)(es:List D)(v:V):EN:=.inn v d::(es.map SD.fro++E4 (n-m) SD.no)
def UL(r d':D)(v:V)(o:SR):Prop:=∃env',(o=.rete r env'∨(o=.next env'∧r=.non))∧env'[0]?=NC (.inn v d')
open Classical in
noncomputable def lQ(n m:Nat)(g:GS):List D→Option (D×D)
 | d::es=>if h:∃p:D×D,es.length+1=m∧∀v,UL p.1 p.2 v (g (aAO n m d es v))then NC h.choose else none
 | _=>none
theorem aCB{r d' r2 d2:D}{v:V}{o:SR}(h1:UL r d' v o)(h2:UL r2 d2 v o):r=r2∧d'=d2:=by
  obtain⟨e1,a1,a2⟩:=h1;obtain⟨e2,b1,b2⟩:=h2;rcases a1 with a1 | ⟨a1,rfl⟩
  · rcases b1 with b1 | ⟨b1,rfl⟩
    · rw[a1]at b1
      injection b1 with c1 c2;subst c2;rw[a2]at b2;injection b2 with b2;injection b2 with _ b2;exact⟨c1,b2⟩
    · rw[a1]at b1;cases b1
  · rcases b1 with b1 | ⟨b1,rfl⟩
    · rw[a1]at b1;cases b1
    · rw[a1]at b1
      injection b1 with c2;subst c2;rw[a2]at b2;injection b2 with b2;injection b2 with _ b2;exact⟨U,b2⟩
theorem aCC{n m:Nat}{g:GS}{d r d':D}{es:List D}(hl:es.length+1=m)(h:∀v,UL r d' v (g (aAO n m d es v))):lQ n m g (d::es)=NC (r,d'):=by
 have ex:∃p:D×D,es.length+1=m∧∀v,UL p.1 p.2 v (g (aAO n m d es v)):=⟨(r,d'),hl,h⟩
 unfold lQ;dsimp only;rw[dif_pos ex];obtain⟨e1,e2⟩:=aCB (ex.choose_spec.2 .non) (h .non);exact congrArg NC (j6 e1 e2)
theorem UT{n m:Nat}{g:GS}{d r d':D}{es:List D}(h:lQ n m g (d::es)=NC (r,d'))(v:V):es.length+1=m∧UL r d' v (g (aAO n m d es v)):=by
 unfold lQ at h;dsimp only at h;split at h
 ·rename_i ex;have:=ex.choose_spec;rw[F5 h]at this;exact⟨this.1,this.2 v⟩
 ·cases h
theorem cO{n m:Nat}{g:GS}(d:D)(es:List D)(p:D×D)(h:lQ n m g (d::es)=NC p):es.length+1=m:=(UT (r:=p.1) (d':=p.2) h .non).1
theorem aGz{X:Cx}{N ps:List Str}{g:GS}{body:List AH}{t:TS}{vs:List V}{H:Hp}{Q:VK}{E:XK}(yb:YB K X body t g)(h:spS K ps.length (lQ N.length ps.length g) vs H Q E):t {nx:=λ_ H'=>Q .non H',rt:=Q} (start N vs) H:=by
  obtain⟨d,es,v,ws,A1,r,d',rfl,hl,ho,hrs,hF,kk⟩:=h;obtain⟨_,env',q1,q2⟩:=UT hF v;have hw:=hrs.length;refine yb.ev (out H A1) _ _ H (aAO N.length ps.length d es v) ?_ ?_
  · have sa:=Uc (K:=K) (H:=H) (k:=N.length-ps.length) hrs
    have e:start N (v::ws)=NC v::(ws.map NC++E4 (N.length-ps.length) none):=by unfold start;rw[D3,F0,show N.length-(ws.length+1)=N.length-ps.length by omega];rfl
    rw[e];exact⟨A1,⟨_,_,A1,nil,U,λ_ _ z=>z,λx=>⟨.inl,λz=>z.elim id False.elim⟩,⟨U,ho⟩,sa⟩,aV.refl _⟩
  · rcases q1 with q1 | ⟨q1,rfl⟩
    · rw[q1]
      intro w σ' H' ⟨A2,a2,b2⟩;obtain⟨A3,A4,k1,⟨w',ew,o⟩,k3,k4⟩:=a2.Mu;cases ew;obtain⟨y,A5,C,h1,h2,h3,h4,_⟩:=k1.focus q2;exact kk w H' A5 A4 h4.2 o (λx z1 z2=>k3 x ((h3 x).mpr (.inl z1)) z2) (b2.trans (cH (aV.refl _) λx z=>.inl ((k4 x).mpr (z.elim (λz=>.inl ((h3 x).mpr (.inl z))) .inr))))
    · rw[q1]
      intro σ' H' ⟨A2,a2,b2⟩;obtain⟨y,A5,C,h1,h2,h3,h4,_⟩:=a2.focus q2;exact kk .non H' A5 nil h4.2 (by unfold Ow;exact⟨λ_ z=>z,U⟩) (λx z1 z2=>z2) (b2.trans (cH (aV.refl _) λx z=>.inl ((h3 x).mpr (.inl (z.elim id False.elim)))))
theorem aJF{ps:List Str}{F:List D→Option (D×D)}(vs:List V)(H:Hp)(Q:VK)(E:XK)(h:spS K ps.length F vs H Q E):vs.length=ps.length:=by obtain⟨d,es,v,ws,A,r,d',rfl,hl,_,rs,_⟩:=h;have:=rs.length;rw[F0];omega
theorem Raw.Hs{x:Str}{st:AH}{N ps:List Str}{k:Nat}{g:GS}(R:Raw K mg x st)(S:aZ N ps (aK st))(hb:HB x x st ps)
  (hbody:∀(f:A7)(cdv:A6)(A:AL)(outer:List Env)(s:A8)(H:Hp)(E:XK),lA k (A.deeper (BN x (aK st) s.heap.objs.size f cdv))→∃t,YB K (Gw FZ P w K mg base N x (aK st) f cdv A outer s H E).bw (cR st) t g):lN P w K mg base x (k+1) ps.length (spS K ps.length (lQ N.length ps.length g)):=by
 refine R.cal S aJF hb (λf cdv A outer s H vs Q E hr h=>?_);obtain⟨t,yb⟩:=hbody f cdv A outer s H E hr;exact⟨t,yb.ps,aGz yb h⟩
theorem UG.okS{f:A7}{m q:Str}{st:AH}{dN:Bool}{N ps:List Str}{k:Nat}{g:GS}(R:UG K f m q st dN)(S:aZ N ps (aK st))(hb:HBs dN m q st ps)
  (hbody:∀(f:A7)(cdv:A6)(A:AL)(outer:List Env)(s:A8)(H:Hp)(E:XK),lA k (A.deeper (BN q (aK st) s.heap.objs.size f cdv))→∃t,YB K (Gw FZ P w K mg base N q (aK st) f cdv A outer s H E).bw (cR st) t g) :
  ∃fd,Fj P w K mg base FZ (k+1) f fd ps (spS K ps.length (lQ N.length ps.length g))∧Binds K fd ps []∧(dN=NF→Binds K fd ps [BB]):=by
 obtain⟨oc,od,dV,kV,doc,pm,an,cdv,ct,osl,lk,hcd,hd⟩:=R.ex;refine⟨_,aBM lk hcd S aJF λA outer s H vs Q E hr hsp=>?_,UG.binds (f:=f) (oc:=oc) (od:=od) hd hb⟩;obtain⟨t,yb⟩:=hbody f cdv A outer s H E hr;exact⟨t,yb.ps.bw,aGz yb hsp⟩
theorem gZ.Hs{C:A7}{m q:Str}{st:AH}{dN:Bool}{N ps:List Str}{k:Nat}{g:GS}(R:gZ K C m q st dN)(S:aZ N ps (aK st))(hb:HBs dN m q st ps)
  (hbody:∀(f:A7)(cdv:A6)(A:AL)(outer:List Env)(s:A8)(H:Hp)(E:XK),lA k (A.deeper (BN q (aK st) s.heap.objs.size f cdv))→∃t,YB K (Gw FZ P w K mg base N q (aK st) f cdv A outer s H E).bw (cR st) t g):dO P w K mg base C m (k+1) ps.length dN (spS K ps.length (lQ N.length ps.length g)):=by
 obtain⟨f,Rf,M⟩:=R.ex;obtain⟨fd,F,b1,b2⟩:=Rf.okS (P:=P) (w:=w) (mg:=mg) (base:=base) S hb hbody;exact⟨f,fd,ps,U,F,b1,b2,M⟩
theorem UJ.aJG{C:A7}{x q:Str}{st:AH}{N ps:List Str}{k:Nat}{g:GS}(R:UJ K mg x C q st)(S:aZ N ps (aK st))(hb:HB "__init__" q st ps)
  (hbody:∀(f:A7)(cdv:A6)(A:AL)(outer:List Env)(s:A8)(H:Hp)(E:XK),lA k (A.deeper (BN q (aK st) s.heap.objs.size f cdv))→∃t,YB K (Gw FZ P w K mg base N q (aK st) f cdv A outer s H E).bw (cR st) t g):aAN P w K mg base x C (k+1) ps.length (spS K ps.length (lQ N.length ps.length g)):=by
 obtain⟨f,Rf,M,hm⟩:=R.ex;obtain⟨fd,F,b1,b2⟩:=Rf.okS (P:=P) (w:=w) (mg:=mg) (base:=base) S hb hbody;exact⟨f,fd,ps,U,F,b1,M,hm⟩
def nW(n m:Nat)(g:GS):List D→Option D:=λds=>if ds.length=m then(match g (ds.map SD.fro++E4 (n-m) SD.no)with
 | .ret d=>NC d
 | .next _=>NC .non
 | _=>none)else none
theorem aJH{X:Cx}{N ps:List Str}{g:GS}{body:List AH}{t:TS}{vs:List V}{H:Hp}{Q:VK}{E:XK}(yb:YB K X body t g)(h:gW K ps.length (nW N.length ps.length g) vs H Q E):t {nx:=λ_ H'=>Q .non H',rt:=Q} (start N vs) H:=by
 obtain⟨ds,d,h1,h2,h3,kk⟩:=h;refine yb.ev H _ _ H (ds.map SD.fro++E4 (N.length-ps.length) SD.no) ?_ ?_
 ·have hl:vs.length=ps.length:=by rw[h2.length];exact h1
  have:=Mt (k:=N.length-ps.length) h2;unfold start;rw[hl];exact this
 ·unfold nW at h3;rw[if_pos h1]at h3;cases q:g (ds.map SD.fro++E4 (N.length-ps.length) SD.no)with
  | ret d'=>
   rw[q]at h3;cases h3;refine λv H' A' s' o=>kk v H' (s'.trans (mU _ _)) ⟨A',o,λa qa=>?_⟩;cases e:H a with
   | none=>rfl
   | some u=>exact absurd qa (bG.mp (s' a u e)).1
  | next env'=>
   rw[q]at h3;cases h3;intro σ' H' ⟨A,a,b⟩;exact kk .non H' (b.trans (mU _ _)) (.jJ U (by unfold Rv;rfl))
  | bad=>rw[q]at h3;cases h3
  | brk e=>rw[q]at h3;cases h3
  | cont e=>rw[q]at h3;cases h3
  | rete d e=>rw[q]at h3;cases h3
theorem gZ.Jy{C:A7}{m q:Str}{st:AH}{dN:Bool}{N ps:List Str}{k:Nat}{g:GS}(R:gZ K C m q st dN)(S:aZ N ps (aK st))(hb:HBs dN m q st ps)
  (hbody:∀(f:A7)(cdv:A6)(A:AL)(outer:List Env)(s:A8)(H:Hp)(E:XK),lA k (A.deeper (BN q (aK st) s.heap.objs.size f cdv))→∃t,YB K (Gw FZ P w K mg base N q (aK st) f cdv A outer s H E).bw (cR st) t g):dO P w K mg base C m (k+1) ps.length dN (gW K ps.length (nW N.length ps.length g)):=by
 obtain⟨f,Rf,M⟩:=R.ex;obtain⟨oc,od,dV,kV,doc,pm,an,cdv,ct,osl,lk,hcd,hd⟩:=Rf.ex;obtain⟨b1,b2⟩:=UG.binds (f:=f) (oc:=oc) (od:=od) (kV:=kV) (doc:=doc) (pm:=pm) (an:=an) (cdv:=cdv) (ct:=ct) hd hb;refine⟨f,_,ps,U,aBM lk hcd S (λvs H Q E h=>?_) λA outer s H vs Q E hr hsp=>?_,b1,b2,M⟩
 ·obtain⟨ds,d,h1,h2,_⟩:=h;rw[h2.length];exact h1
 obtain⟨t,yb⟩:=hbody f cdv A outer s H E hr;exact⟨t,yb.ps.bw,aJH yb hsp⟩
theorem xf{f:A7}{m q:Str}{st:AH}{oc:A6}{od an:Option A7}{osl:Array (Option A6)}{kV doc pm cdv ct:A6}(l:K.lookup f=NC ⟨oc,od,.func (F8 m q (gD st) (cR st) (aK st) .none kV doc pm an cdv ct),osl⟩)(c:K3 K cdv q=NF):UG K f m q st NG:=⟨⟨oc,od,.none,kV,doc,pm,an,cdv,ct,osl,l,c,U⟩⟩
theorem aFk{C f:A7}{m q:Str}{st:AH}{oc:A6}{od an:Option A7}{osl:Array (Option A6)}{kV doc pm cdv ct:A6}(a:G2 K (.ref C) m=NC (NC (.ref f)))(i:O7 K (.ref f)=NF)(l:K.lookup f=NC ⟨oc,od,.func (F8 m q (gD st) (cR st) (aK st) .none kV doc pm an cdv ct),osl⟩)(c:K3 K cdv q=NF)(k:K2 K (.ref f)=NF):gZ K C m q st NG:=⟨⟨f,xf l c,⟨a,i,k⟩⟩⟩
theorem aCD{C f T:A7}{m q:Str}{st:AH}{oc oc2:A6}{od an od2:Option A7}{osl aKX:Array (Option A6)}{kV doc pm cdv ct:A6}{n:Nat}(a:G2 K (.ref C) m=NC (NC (.ref f)))(i:O7 K (.ref f)=NF)(l:K.lookup f=NC ⟨oc,od,.func (F8 m q (gD st) (cR st) (aK st) (.ref T) kV doc pm an cdv ct),osl⟩)(c:K3 K cdv q=NF)(k:K2 K (.ref f)=NF)(t:K.lookup T=NC ⟨oc2,od2,.seq #[.none] n,aKX⟩):gZ K C m q st NF:=⟨⟨f,⟨⟨oc,od,.ref T,kV,doc,pm,an,cdv,ct,osl,l,c,T,_,n,U,t,U⟩⟩,⟨a,i,k⟩⟩⟩
theorem aFl{h:AM}{x q:Str}{C f:A7}{st:AH}{oc:A6}{od an:Option A7}{osl:Array (Option A6)}{kV doc pm cdv ct:A6}(X:K.In h)(G:h.Ns AV mg)(aC:R3 K AV x=NC (NC (.ref C)))(a:G2 K (.ref C) "__init__" = NC (NC (.ref f))) (i:O7 K (.ref f)=NF) (l:K.lookup f=NC ⟨oc,od,.func (F8 "__init__" q (gD st) (cR st) (aK st) .none kV doc pm an cdv ct),osl⟩) (c:K3 K cdv q=NF) (mk:U1 K C=NF) (kc:K2 K (.ref C)=NF):UJ K mg x C q st:=⟨⟨f,xf l c,⟨mk,a,i,kc⟩,c7 X G aC⟩⟩
end
section
variable{K:aJ}{X:Cx}{st:AH}{g g1 g2 gb:GS}{e a b c o:AD}{es rest:List AD}{te ta tb tc t0 tv:TE}{f f0 fa fb fc:FE}{tA:TA}{fs:FA}{pos apos:Pos}{i j:Nat}{π:FP}{tbs:TS}
def aAP(φ φ':D→D→Option D)(f g h:FE):FT:=λe=>(f e).bind λa=>(g e).bind λb=>(φ a b).bind λr=>match r with
  | .bl NF=>(h e).bind λc=>(φ' b c).bind λr2=>match r2 with | .bl k=>NC k | _=>none
  | .bl NG=>NC NG
  | _=>none
theorem Ui{op op':Dx}{r r':R2}{φ φ':D→D→Option D}(ho:xR X (AS op) r)(ho':xR X (AS op') r')(hd:OD K r φ)(hd':OD K r' φ')(ha:XR K X a ta fa)(hb:XR K X b tb fb)(hc:XR K X c tc fc)(hm:lastMarks [op,op'] [b,c]=NG:=by with_unfolding_all rfl):XT K X (.Compare a [op,op'] [b,c] pos) (Xz (aBA r r' ta tb tc)) (aAP φ φ' fa fb fc):=⟨ha.hk,aBB ho ho' ha.pe hb.pe hc.pe hm,λσ H e k Q re q kk=>by
 obtain⟨d1,q1,q⟩:=bA q;obtain⟨d2,q2,q⟩:=bA q;obtain⟨d3,q3,q⟩:=bA q;refine ha.ev σ H H e d1 _ (Zn.self K H) re q1 λx H1 Z1 s1 t1 z1 rx=>hb.ev σ H1 H1 e d2 _ (Zn.self K H1) (re.same s1) q2 λy H2 Z2 s2 t2 z2 ry=>?_;refine hd x y H2 d1 d2 d3 _ (s2.rv _ _ (z1.sm.rv _ _ rx)) (z2.sm.rv _ _ ry) q3 λz H3 s3 n=>?_;have rz:=n.rv;split at q
 ·obtain⟨d4,q4,q⟩:=bA q;obtain⟨d5,q5,q⟩:=bA q;unfold Rv at rz;refine⟨NF,rz,?_⟩;rw[if_pos rfl];refine hc.ev σ H3 H3 e d4 _ (Zn.self K H3) (re.same (s1.trans (s2.trans s3))) q4 λw H4 Z4 s4 t4 z4 Qy=>?_;refine hd' y w H4 d2 d4 d5 _ ((s3.trans s4).rv _ _ (z2.sm.rv _ _ ry)) (z4.sm.rv _ _ Qy) q5 λv H5 s5 n5=>?_;have r5:=n5.rv;split at q
  ·cases q;unfold Rv at r5;exact⟨_,r5,kk H5 (s1.trans (s2.trans (s3.trans (s4.trans s5))))⟩
  ·cases q
 ·cases q;unfold Rv at rz;refine⟨NG,rz,?_⟩;rw[if_neg (by decide)];exact⟨_,U,kk H3 (s1.trans (s2.trans s3))⟩
 ·cases q⟩
open Classical in
noncomputable def Bg(j i:Nat)(g:GS)(v:V)(all:List D):List D→EN→SR
 | [],env=>if env[j]?=NC (.inn v (.lst all))then .next env else .bad
 | x::xs,env=>if i<env.length∧env[j]?=NC (.inn v (.lst all))then(match g (env.set i (.fro x))with
  | .next e=>Bg j i g v all xs e
  | .cont e=>Bg j i g v all xs e
  | _=>.bad)else .bad
open Classical in
noncomputable def Gm(j i:Nat)(g:GS):GS:=λenv=>match env[j]? with
 | some (.own (.lst xs))=>if h:(intsOf xs).isSome=NF∧∃env':EN,env'[j]?=NC (.own (.lst xs))∧∀v,Bg j i g v xs xs (env.set j (.inn v (.lst xs)))=.next (env'.set j (.inn v (.lst xs)))then .next h.2.choose else .bad
 | _=>.bad
theorem aFm{α:Type}{l m:List α}{j:Nat}{s:α}(h1:l.set j s=m.set j s)(h2:l[j]?=m[j]?):l=m:=by
 apply K1;intro k;by_cases c:j=k
 ·subst c;exact h2
 ·have:=congrArg (λx=>x[k]?) h1;simp only[F7,if_neg c]at this;exact this
theorem aCE{env env':EN}{ns:List Int}(h:env[j]?=NC (.own (.lst (ns.map D.int))))(h1:env'[j]?=NC (.own (.lst (ns.map D.int))))(h2:∀v,Bg j i g v (ns.map D.int) (ns.map D.int) (env.set j (.inn v (.lst (ns.map D.int))))=.next (env'.set j (.inn v (.lst (ns.map D.int))))):Gm j i g env=.next env':=by
 have ex:(intsOf (ns.map D.int)).isSome=NF∧∃env':EN,env'[j]?=NC (.own (.lst (ns.map D.int)))∧∀v,Bg j i g v (ns.map D.int) (ns.map D.int) (env.set j (.inn v (.lst (ns.map D.int))))=.next (env'.set j (.inn v (.lst (ns.map D.int)))):=⟨by rw[mC];rfl,env',h1,h2⟩
 unfold Gm;rw[h];dsimp only;rw[dif_pos ex];have c:=ex.2.choose_spec;have e:=(c.2 .non).symm.trans (h2 .non);injection e with e;rw[aFm e (c.1.trans h1.symm)]
theorem aAQ{xs:List D}{ns:List Int}(h:intsOf xs=NC ns):xs=ns.map D.int:=by
 induction xs generalizing ns with
 | nil=>unfold intsOf at h;cases h;rfl
 | cons x xs ih=>
  unfold intsOf at h;cases x with
  | int i=>obtain⟨ms,h1,h2⟩:=lY h;subst h2;rw[D3,ih h1]
  | _=>cases h
theorem aFn(hb:DS K tbs g):DS K (cu (aHL K (sE j)) (lW i) tbs) (Gm j i g):=λB E σ H env r p=>by
 unfold Gm at p;split at p
 ·rename_i xs q;split at p
  ·rename_i ex;obtain⟨ns,hns⟩:=X4.mp ex.1;have exx:=aAQ hns;obtain⟨c1,c2⟩:=ex.2.choose_spec;generalize ex.2.choose=env' at *;subst exx;have hj:j<env'.length:=(D2.mp c1).1;obtain⟨v,hσ,rv⟩:=r.r j _ (by unfold rE;rw[B9,q];rfl);have c2:=c2 v;have r1:=r.aCw q hσ;have lst:∀{fW:EN} {σ2:St} {H2:Hp},Rel K B fW σ2 H2→fW[j]?=NC (.inn v (.lst (ns.map D.int)))→∃a,v=.ref a∧rJ K H2 a (ns.map V.int):=by rintro fW σ2 H2 ⟨A,aa,bb⟩ e2;obtain⟨y,A1,C,h1,h2,h3,h4,_⟩:=aa.focus e2;have:=Ow.rv _ _ _ h4.2;unfold Rv at this;obtain⟨a,ys,e,sq,l⟩:=this;rw[kW.mp l]at sq;exact⟨a,e,sq⟩
   obtain⟨a,rfl,sq0⟩:=lst r1 (J5 (D2.mp q).1);refine .inl ⟨.ref a,hσ,a,U,⟨_,sq0⟩,?_⟩;refine GD QR (λk σ2 H2=>∃fW,Rel K B fW σ2 H2∧fW[j]?=NC (.inn (.ref a) (.lst (ns.map D.int)))∧Bg j i g (.ref a) (ns.map D.int) ((ns.map D.int).drop k) fW=.next (env'.set j (.inn (.ref a) (.lst (ns.map D.int))))) ⟨_,r1,J5 (D2.mp q).1,by rw[m7];exact c2⟩ (λk σ2 H2 _ ⟨fW,r2,e2,_⟩=>by
    obtain⟨a',e,sq⟩:=lst r2 e2;cases e;exact sq) ?_ ?_
   ·rintro k x σ2 H2 hx ⟨fW,r2,e2,f2⟩;have hk:k<ns.length:=by
     have:=(D2.mp hx).1
     rwa [B6]at this
    rw[O2 (by rw[B6];exact hk)]at f2;rw[B9,B7 hk]at hx;cases hx;rw[List.getElem_map]at f2;unfold Bg at f2;split at f2
    ·rename_i hlen;have r3:Rel K B (fW.set i (.fro (.int ns[k]))) (σ2.set i (NC (.int ns[k]))) H2:=by obtain⟨A2,a2,b2⟩:=r2;exact HR a2 b2 hlen.1 (aV.refl _) (aV.refl _) (HQ a2) (by unfold Rv;rfl)
     refine hb B _ _ H2 _ r3 ?_;have fin:∀{o:SR},o=g (fW.set i (.fro (.int ns[k])))→(match o with | .next e=>Bg j i g (.ref a) (ns.map D.int) ((ns.map D.int).drop (k+1)) e | .cont e=>Bg j i g (.ref a) (ns.map D.int) ((ns.map D.int).drop (k+1)) e | _=>.bad)=.next (env'.set j (.inn (.ref a) (.lst (ns.map D.int))))→Wv K B {E with nx:=λσ3 H3=>∃fW,Rel K B fW σ3 H3∧fW[j]?=NC (.inn (.ref a) (.lst (ns.map D.int)))∧Bg j i g (.ref a) (ns.map D.int) ((ns.map D.int).drop (k+1)) fW=.next (env'.set j (.inn (.ref a) (.lst (ns.map D.int)))),ct:=λσ3 H3=>∃fW,Rel K B fW σ3 H3∧fW[j]?=NC (.inn (.ref a) (.lst (ns.map D.int)))∧Bg j i g (.ref a) (ns.map D.int) ((ns.map D.int).drop (k+1)) fW=.next (env'.set j (.inn (.ref a) (.lst (ns.map D.int)))),bk:=E.nx} o:=by
      intro o _ ho;have there:∀{e3:EN} {xs:List D},Bg j i g (.ref a) (ns.map D.int) xs e3=.next (env'.set j (.inn (.ref a) (.lst (ns.map D.int))))→e3[j]?=NC (.inn (.ref a) (.lst (ns.map D.int))):=by
       intro e3 xs h3;cases xs with
       | nil=>
        unfold Bg at h3;split at h3
        ·rename_i z;exact z
        ·cases h3
       | cons y ys=>
        unfold Bg at h3;split at h3
        ·rename_i z;exact z.2
        ·cases h3
      cases o with
      | next e3=>exact λσ3 H3 r4=>⟨e3,r4,there ho,ho⟩
      | cont e3=>exact λσ3 H3 r4=>⟨e3,r4,there ho,ho⟩
      | ret d=>cases ho
      | brk d=>cases ho
      | bad=>cases ho
      | rete d e=>cases ho
     exact fin U f2
    ·cases f2
   ·rintro σ2 H2 ⟨fW,r2,e2,f2⟩;rw[B6]at f2;rw[show ns.length=(ns.map D.int).length by rw[B6],T3]at f2;unfold Bg at f2;rw[if_pos e2]at f2;injection f2 with f2;rw[f2]at r2;obtain⟨r3,_⟩:=r2.aCv (J5 hj);rw[X7,set_same c1]at r3;exact p σ2 H2 r3
  ·exact p.elim
 ·exact p.elim
theorem JB{tg:AD}{body:List AH}(hp:EK (AG X.prog X.w) X.A X.env X.xe)(aCh:X.calm=NF)(hv:PE X e (sE j))(hg:PG X tg (lW i))(hb:YB K X body tbs g)(hs:∀x,BC e X.env x=pure x:=by intro _;rfl)(hk:X.K=K:=by rfl):YS K X (.For tg e body [] pos) (cu (aHL K (sE j)) (lW i) tbs) (Gm j i g):=by
 subst hk;refine⟨cz hp aCh (λpins s σ H R I h=>?_) hg hb.ps hs,aFn hb.ev⟩;rcases h with h | h
 ·exact rn hv pins s σ H R I h
 ·exact aBw hv pins s σ H R I h
end
end L2


namespace L2
open PySem PySem.Spec PySem.Calls PyProof.Rows PyProof.V
theorem UW{H:Hp}{p:A7}{kvs:List (List Key×V)}(h:H p=NC (.dT kvs)):Aw H p:=⟨λys e=>(by rw[h]at e;cases e),λo ys e=>(by rw[h]at e;cases e)⟩
section
variable{K:aJ}{B H:Hp}{env:EN}{σ:St}
theorem Rel.aKY{i:Nat}{p:List Step}{d0:D}{ks:List (List Key)}{ds:List D}(h:Rel K B env σ H)(e:env[i]?=NC (.own d0))(q:gC p d0=NC (.dt ks ds)):∃v0 a xs Bs,σ[i]?=NC (NC v0)∧Qj H p v0=NC (.ref a)∧H a=NC (.dT (ks.zip xs))∧ks.length=xs.length∧¬Bs a∧eQ K H ds Bs xs ∧
    ∀H2 ks' ds' xs' Bn,aV H H2→ks'.length=xs'.length→eQ K H2 ds' Bn xs'→(∀b,Bn b→Bs b∨H b=none)→Rel K B (env.set i (.own (fG p d0 (.dt ks' ds')))) σ (upd H2 a (.dT (ks'.zip xs'))):=by
  obtain⟨v0,w,A1,C,h1,h2,h3,h4,h5,h6⟩:=h.at e q;unfold Ow at h3;obtain⟨a,xs,Bs,rfl,o2,o2',o3,o4,o5⟩:=h3;refine⟨v0,a,xs,Bs,h1,h2,o2,o2',o3,o5,λH2 ks' ds' xs' Bn s hl o hb=>?_⟩;have nBa:¬Bn a:=λz=>(hb a z).elim o3 λz=>by rw[o2]at z;cases z
  have hC:∀x,C x→¬x=a:=λx z y=>h4 x ((o4 x).mpr (.inl y)) z;have Wx:H2 a=NC (.dT (ks.zip xs)):=s a _ o2;refine h6 _ (.dt ks' ds') (gB (·=a) Bn) (λx z1 z2=>?_) (λx z=>?_) (s.tk.trans (uU (UW Wx))) ?_ (λx u ex=>?_)
  · rcases z1 with z1 | z1
    · exact hC x z2 z1
    · rcases hb x z1 with z | z
      · exact h4 x ((o4 x).mpr (.inr z)) z2
      · obtain⟨⟨u,eu⟩,_⟩:=h5 x z2
        rw[z]at eu;cases eu
  · obtain⟨⟨u,eu⟩,_⟩:=h5 x z
    rw[bN (hC x z),eu,s x u eu]
  · unfold Ow
    refine⟨a,xs',Bn,U,cM,hl,nBa,λ_=>Iff.rfl,eQ.frame (uU (UW Wx)) _ _ _ o λx zx=>bN λy=>nBa (y▸zx)⟩
  · obtain⟨e1,e2⟩:=bG.mp ex
    have na:x≠a:=λy=>e1 (.inl ((o4 x).mpr (.inl y)));refine bG.mpr ⟨λz=>?_,by rw[bN na];exact s x u e2⟩;rcases z with (z | z) | z
    · exact na z
    · rcases hb x z with z | z
      · exact e1 (.inl ((o4 x).mpr (.inr z)))
      · rw[z]at e2;cases e2
    · exact e1 (.inr z)
end
def VB:List D→Option (List Key)
 | []=>NC []
 | d::ds=>(Tt d).bind λk=>(VB ds).map λr=>k::r
theorem VD{K:aJ}{H:Hp}:∀{ds:List D} {ks:List Key} {vs:List V},VB ds=NC ks→fQ K H ds vs→vs=ks.map kV
 | [],ks,vs,h,r=>by
  unfold VB at h;cases h;unfold fQ at r;exact r
 | d::ds,ks,vs,h,r=>by unfold VB at h;obtain⟨k,h1,h2⟩:=bA h;obtain⟨ks',h3,rfl⟩:=lY h2;unfold fQ at r;obtain⟨y,ys,rfl,r1,r2⟩:=r;rw[Ed h1 r1,VD h3 r2];rfl
abbrev FK:=DE→Option (List Key)
def EvK(K:aJ)(t:TE)(fk:FK):Prop:=∀(σ:St)(H:Hp)(e:DE)(k:List Key)(Q:VK),Fq K H e σ→fk e=NC k→(∀b H',aV H H'→H' b=NC (.tup (k.map kV))→Q (.ref b) H')→t σ H Q
structure XKt(K:aJ)(X:Cx)(e:AD)(t:TE)(fk:FK):Prop where
 hk:X.K=K
 pe:PE X e t
 ev:EvK K t fk
section
variable{K:aJ}{X:Cx}{st:AH}{e a b c o:AD}{es rest:List AD}{te ta tb tc t0 tv:TE}{f fa fb:FE}{g:FK}{gd:FE}{tA:TA}{fs:FA}{pos apos:Pos}{i j:Nat}{π:FP}{tbs:TS}
def Mv(fs:FA):FK:=λe=>(fs e).bind λds=>if ds.length≤100 then VB ds else none
theorem Uj{x1:Nat}(h:XA K X es tA fs):XKt K X (.Tuple es x1 pos) (aEo tA) (Mv fs):=⟨h.hk,aBH h.pa,λσ H e k Q re q kk=>by
 obtain⟨ds,q1,q2⟩:=bA q;split at q2
 ·rename_i hl;refine h.ev σ H H e ds _ (Zn.self K H) re q1 λvs H1 Z1 s1 t1 z1 rvs=>⟨Yn (by rw[rvs.length];omega),λp hp=>kk p _ (s1.trans (dI hp _)) ?_⟩
  rw[cM,VD q2 rvs]
 ·cases q2⟩
def Wz(neg:Bool)(fk:FK)(f:FE):FE:=λe=>(fk e).bind λk=>(f e).bind λd=>match d with
 | .dt ks _=>NC (.bl (if neg then !(posK ks k).isSome else(posK ks k).isSome))
 | _=>none
theorem jn{ks:List (List Key)}{xs:List V}{k:List Key}(h:ks.length=xs.length):(tG (ks.zip xs) k).isSome=(posK ks k).isSome:=by
 rw[sI h];cases q:posK ks k with
 | none=>rfl
 | some j=>obtain⟨h1,h2⟩:=uB q;rw[C4,B7 (by omega)];rfl
theorem aH2{neg:Bool}{d:D}{σ:St}{H:Hp}{e:DE}{Q:VK}(ha:EvK K ta g)(hb:Ls K tb f)(re:Fq K H e σ)(q:Wz neg g f e=NC d)(k:∀v H',aV H H'→Wt K H H' d v→Q v H') :
  ta σ H λy H1=>tb σ H1 λx H2=>∃a o,x=.ref a∧Jj H2 a y o∧Q (.bl (if neg then !o.isSome else o.isSome)) H2:=by
 obtain⟨kk,q1,q⟩:=bA q;obtain⟨d1,q2,q⟩:=bA q;split at q
 ·rename_i ks ds;cases q;refine ha σ H e kk _ re q1 λbb H1 s1 hb1=>hb σ H1 H1 e _ _ (Zn.self K H1) (re.same s1) q2 λx H2 Z2 s2 t2 z2 rx=>?_;have rx:=z2.sm.rv _ _ rx;unfold Rv at rx;obtain⟨p,xs,r1,r2,r3,r4⟩:=rx;refine⟨p,tG (ks.zip xs) kk,r1,.inr ⟨_,kk,bb,r2,U,s2 _ _ hb1,U⟩,?_⟩;rw[jn r3];exact k _ H2 (s1.trans s2) (.jJ U (by unfold Rv;rfl))
 ·cases q
theorem aFo(hu:X.A.units+1<Ap)(ha:XKt K X a ta g)(hb:XR K X b tb f)(h1:behindInMarks .In b=NG:=by first | exact nobehind _ (by decide) (by decide) | rfl):XN K X (.Compare a [.In] [b] pos) (aEE ta tb) (Wz NG g f):=
 ⟨ha.hk,bu (gh hu ha.pe hb.pe) h1,λσ H e d Q re q k=>aH2 (neg:=NG) ha.ev hb.ev re q k⟩
theorem xg(hu:X.A.units+1<Ap)(ha:XKt K X a ta g)(hb:XR K X b tb f)(h1:behindInMarks .In b=NG:=by first | exact nobehind _ (by decide) (by decide) | rfl):XT K X (.Compare a [.In] [b] pos) (tB (aEE ta tb)) (fB (Wz NG g f)):=aGh (aFo hu ha hb h1) (gh hu ha.pe hb.pe) h1
def Uk(f:FE)(fk:FK):FE:=λe=>(f e).bind λd=>(fk e).bind λk=>match d with
 | .dt ks ds=>(posK ks k).bind λj=>(ds[j]?).bind λr=>if r.jJ=NF then NC r else none
 | _=>none
theorem VF(hu:X.A.units+1<Ap)(ha:XR K X a ta f)(hb:XKt K X b tb g)(hs:aBR b):XN K X (.Subscript a b pos) (ue ta tb) (Uk f g):=
 ⟨ha.hk,FQ hu ha.pe hb.pe hs,λσ H e d Q re q k=>by
  obtain⟨d1,q1,q⟩:=bA q;obtain⟨kk,q2,q⟩:=bA q;split at q
  ·rename_i ks ds;obtain⟨j,q3,q⟩:=bA q;obtain⟨r,q4,q⟩:=bA q;split at q
   ·rename_i im;cases q;refine ha.ev σ H H e _ _ (Zn.self K H) re q1 λx H1 Z1 s1 t1 z1 rx=>hb.ev σ H1 e kk _ (re.same s1) q2 λbb H2 s2 hb2=>?_;have rx:=s2.rv _ _ (z1.sm.rv _ _ rx);unfold Rv at rx;obtain⟨p,xs,r1,r2,r3,r4⟩:=rx;obtain⟨v,e1,e2⟩:=r4.get q4;refine⟨p,v,r1,.inr ⟨_,kk,bb,r2,U,hb2,?_⟩,k v H2 (s1.trans s2) (.jJ im e2)⟩;rw[sI r3,q3,C4,e1]
   ·cases q
  ·cases q⟩
theorem aCF(hk:X.K=K:=by rfl):XN K X (.Dict [] [] pos) aBT (fC (.dt [] [])):=⟨hk,aBV,λσ H e d Q re q k=>by
 cases q;intro p hp;refine k _ _ (dI hp _) ⟨(·=p),?_,λa q=>by cases q;exact hp⟩;unfold Ow;exact⟨p,[],nil,U,cM,U,λz=>z,λx=>⟨.inl,λz=>z.elim id False.elim⟩,by unfold eQ;exact⟨λ_ z=>z,U⟩⟩⟩
def Yz(i:Nat)(π:FP)(g:FK)(f:FE):GS:=λenv=>match env[i]?,π (rE env),g (rE env),f (rE env)with
 | some (.own d0),NC p,NC k,NC d=>(match gC p d0 with
  | some (.dt ks ds)=>if d.jJ=NF∧ks.length<100000 then .next (env.set i (.own (fG p d0 (.dt (mL ks k) (putD ks ds k d)))))else .bad
  | _=>.bad)
 | _,_,_,_=>.bad
theorem VG{H:Hp}{d:D}{v:V}(o:Ow K H d nil v)(k:List Key):∀{ks:List (List Key)} {ds:List D} {A:Fp} {xs:List V},ks.length=xs.length→eQ K H ds A xs→∃A',(∀x,A' x→A x)∧eQ K H (P9 (λk' d'=>if k'=k then d else d') ks ds) A' (P9 (λk' d'=>if k'=k then v else d') ks xs)
 | [],ds,A,xs,hl,h=>by
  cases xs with
  | nil=>exact⟨nil,λ_ z=>z.elim,by rw[Q1,Q1];unfold eQ;exact⟨λ_ z=>z,U⟩⟩
  | cons x xs=>simp at hl
 | k0::ks,[],A,xs,hl,h=>by unfold eQ at h;rw[h.2]at hl;simp at hl
 | k0::ks,d0::ds,A,xs,hl,h=>by
  unfold eQ at h;obtain⟨y,yt,A1,A2,rfl,h2,h3,h4,h5⟩:=h;obtain⟨A',a1,a2⟩:=VG o k (by simpa using hl) h5;by_cases c:k0=k
  ·refine⟨A',λx q=>(h3 x).mpr (.inr (a1 x q)),?_⟩;rw[J6,J6,if_pos c,if_pos c];unfold eQ;exact⟨v,_,nil,A',U,λ_ z=>z.elim,λx=>⟨.inr,λz=>z.elim False.elim id⟩,o,a2⟩
  ·refine⟨gB A1 A',λx q=>(h3 x).mpr (q.imp id (a1 x)),?_⟩;rw[J6,J6,if_neg c,if_neg c];unfold eQ;exact⟨y,_,A1,A',U,λx z1 z2=>h2 x z1 (a1 x z2),λ_=>Iff.rfl,h4,a2⟩
theorem aFp(h:EvP K ta i π)(hx:EvK K tb g)(he:Ls K te f):DSs K (Jk ta tb te) (Yz i π g f):=λB E σ H env r p=>by
 unfold Yz at p;split at p
 ·rename_i d0 pp k d q1 q2 q3 q3';split at p
  ·rename_i ks ds q4;split at p
   ·rename_i hc;obtain⟨v0,a,xs,Bs,k1,k2,k3,k3',k4,k5,k6⟩:=r.aKY q1 q4;refine he σ H H (rE env) d _ (Zn.self K H) r.r q3' λy H1 Z1 s1 t1 z1 ry=>?_;refine h σ H1 (rE env) v0 pp _ _ (r.r.same s1) k1 q2 (Ca s1 k2) λH2 s2=>hx σ H2 (rE env) _ _ (r.r.same (s1.trans s2)) q3 λbb H3 s3 hb3=>?_;have HN:=s1.trans (s2.trans s3);have o:Ow K H3 d nil y:=Bu d y hc.1 ((z1.sm.trans (s2.trans s3)).rv _ _ ry);refine⟨a,_,U,.inr ⟨ks.zip xs,k,bb,HN _ _ k3,U,hb3,Yo (by rw[U3];omega),U⟩,p _ ?_⟩;rw[QX k3'];have ow3:=k5.same HN;by_cases c:(posK ks k).isSome=NF
    ·obtain⟨A',a1,a2⟩:=VG o k k3' ow3;refine k6 H3 (mL ks k) (putD ks ds k d) (putD ks xs k y) A' HN (xX k3') ?_ λb z=>.inl (a1 b z);unfold putD;rw[if_pos c,if_pos c];exact a2
    ·refine k6 H3 (mL ks k) (putD ks ds k d) (putD ks xs k y) (gB Bs nil) HN (xX k3') ?_ λb z=>z.elim .inl False.elim;unfold putD;rw[if_neg c,if_neg c];exact cZ.mpr ((cZ.mp ow3).snoc o λ_ _ z=>z)
   ·exact p.elim
  ·exact p.elim
 ·exact p.elim
def aK0(K:aJ)(t:TA)(fs:FA)(i:Nat):Prop:=∀(σ:St)(H:Hp)(e:DE)(ds:List D)(v:V)(Q:List V→Hp→Prop),Fq K H e σ→fs e=NC ds→σ[i]?=NC (NC v)→(∀vs H',aV H H'→GK K H H' ds vs→Q (vs++[v]) H')→t σ H Q
structure XBm(K:aJ)(X:Cx)(es:List AD)(t:TA)(fs:FA)(i:Nat):Prop where
 hk:X.K=K
 pa:PA X es t
 ev:aK0 K t fs i
end
end L2


namespace L2
open PySem PySem.Spec PySem.Calls PyProof.Rows PyProof.V
section
variable{K:aJ}{X:Cx}{st:AH}{e a b c o:AD}{es rest:List AD}{te ta tb tc t0 tv:TE}{f fa fb g:FE}{gk:FK}{gd:FE}{tA:TA}{fs:FA}{pos apos:Pos}{i j:Nat}{π:FP}{tbs:TS}{gm:GM}
def gmN(f:FE):GM:=λenv=>(f (rE env)).map λd=>(d,env)
theorem zK(h:XN K X e te f):XM K X e te (gmN f):=aKW h
theorem zL(h:XR K X e te f)(hs:Ct e none pos.line X.env=pure NG:=by rfl):YS K X (.Expr e pos) (oH te) (xZ f):=⟨kE h.pe hs,aE7 h.ev⟩
theorem oX{C:A7}{nm0:List Str}{x:Str}{pos':Pos}(F:jE K C nm0)(hx:x∈nm0)(h:XP K X a ta i π)(he:XN K X e te f)(hs:Ct e (NC (.Attribute a x pos')) pos.line X.env=pure NG:=by rfl):YS K X (.Assign [.Attribute a x pos'] e pos) (aHe K ta te x) (iW i (yD C i π x f)):=⟨by have:=h.hk;subst this;exact aHf h.pe he.pe hs,(aCx (aH0 F hx h.ev he.ev)).ds⟩
theorem Rh{m:Str}{apos cpos:Pos}(h:XP K X a ta i π)(he:XN K X e te f)(hp:PE X a ta→PE X e te→PS X (.Expr (.Call (.Attribute a m apos) [e] [] cpos) pos) (oH (Sh K "list" uA ta (gF te oK)))):YS K X (.Expr (.Call (.Attribute a m apos) [e] [] cpos) pos) (oH (Sh K "list" uA ta (gF te oK))) (iW i (zH i π f)):=Hr i (hp h.pe he.pe) (aCk h.ev he.ev)
theorem Ul{pos':Pos}(h:XP K X a ta i π)(hx:XR K X b tb g)(he:XN K X e te f)(hp:PE X a ta→PE X b tb→PE X e te→PS X (.Assign [.Subscript a b pos'] e pos) (Bm te (aAa ta tb Yh))):YS K X (.Assign [.Subscript a b pos'] e pos) (Bm te (aAa ta tb Yh)) (iW i (wG i π g f)):=Hr i (hp h.pe hx.pe he.pe) (vf h.ev hx.ev he.ev)
theorem uZ{pos':Pos}(h:XP K X a ta i π)(hx:XR K X b tb g)(he:XR K X e te f)(hp:PE X a ta→PE X b tb→PE X e te→PS X (.Assign [.Subscript a b pos'] e pos) (Jk ta tb te)):YS K X (.Assign [.Subscript a b pos'] e pos) (Jk ta tb te) (iW i (pF i π g f)):=Hr i (hp h.pe hx.pe he.pe) (vh h.ev hx.ev he.ev)
theorem aCG{pos':Pos}(h:XP K X a ta i π)(hx:XKt K X b tb gk)(he:XR K X e te f)(hp:PE X a ta→PE X b tb→PE X e te→PS X (.Assign [.Subscript a b pos'] e pos) (Jk ta tb te)):YS K X (.Assign [.Subscript a b pos'] e pos) (Jk ta tb te) (iW i (Yz i π gk f)):=Hr i (hp h.pe hx.pe he.pe) (aFp h.ev hx.ev he.ev)
end
end L2
namespace L2
open PySem PySem.Spec PySem.Calls PyProof.Rows PyProof.V
def D.VH:D→Bool
 | .non=>NF
 | _=>NG
theorem VJ{K:aJ}{H:Hp}{d:D}{v:V}(r:Rv K H d v):decide (v=.non)=d.VH:=by
 cases d with
 | non=>unfold Rv at r;subst r;rfl
 | bl b=>unfold Rv at r;subst r;rfl
 | int b=>unfold Rv at r;subst r;rfl
 | str b=>unfold Rv at r;subst r;rfl
 | lst ds=>unfold Rv at r;obtain⟨a,xs,rfl,_⟩:=r;rfl
 | tup ds=>unfold Rv at r;obtain⟨a,xs,rfl,_⟩:=r;rfl
 | dk ks ds=>unfold Rv at r;obtain⟨a,xs,rfl,_⟩:=r;rfl
 | dt ks ds=>unfold Rv at r;obtain⟨a,xs,rfl,_⟩:=r;rfl
 | ins C nm ds=>unfold Rv at r;obtain⟨a,dx,xs,rfl,_⟩:=r;rfl
def Jz(neg:Bool)(a b:D):Option D:=match b with
 | .non=>NC (.bl (if neg then !a.VH else a.VH))
 | _=>none
theorem jo{K:aJ}:OD K (λx y H Q=>y=.non∧Q (.bl (decide (x=.non))) H) (Jz NG):=λx y H a b d Q ra rb q k=>by
 unfold Jz at q;split at q
 ·cases q;unfold Rv at rb;refine⟨rb,?_⟩;rw[VJ ra];exact k _ H (aV.refl _) (.jJ U (by unfold Rv;rfl))
 ·cases q
theorem Mw{K:aJ}:OD K (λx y H Q=>y=.non∧Q (.bl (!decide (x=.non))) H) (Jz NF):=λx y H a b d Q ra rb q k=>by
 unfold Jz at q;split at q
 ·cases q;unfold Rv at rb;refine⟨rb,?_⟩;rw[VJ ra];exact k _ H (aV.refl _) (.jJ U (by unfold Rv;rfl))
 ·cases q
end L2


namespace L2
open PySem PySem.Spec PySem.Calls PyProof.Rows PyProof.V
section
variable{K:aJ}{X:Cx}{e stx:AD}{te ts:TE}{f g:FE}{pos p2:Pos}
end
end L2


namespace L2
open PySem PySem.Spec PySem.Calls PyProof.Rows PyProof.V
abbrev FE2:=DE→DE→Option D
def EvZ(K:aJ)(t:TE)(f:FE2):Prop:=∀{N:Fp}(σ:St)(H Z:Hp)(eF eZ:DE)(d:D)(Q:VK),Zn K N Z H→Fq K H eF σ→Fq K Z eZ σ→f eF eZ=NC d →
 (∀v H' Z',aV H H'→aV Z Z'→Zn K N Z' H'→Rv K Z' d v→Q v H')→t σ H Q
def aK1(K:aJ)(t:TA)(f:FA2):Prop:=∀{N:Fp}(σ:St)(H Z:Hp)(eF eZ:DE)(ds:List D)(Q:List V→Hp→Prop),Zn K N Z H→Fq K H eF σ→Fq K Z eZ σ→f eF eZ=NC ds →
 (∀vs H' Z',aV H H'→aV Z Z'→Zn K N Z' H'→fQ K Z' ds vs→Q vs H')→t σ H Q
structure XZ(K:aJ)(X:Cx)(e:AD)(t:TE)(f:FE2):Prop where
 hk:X.K=K
 pe:PE X e t
 ev:EvZ K t f
structure XZA(K:aJ)(X:Cx)(es:List AD)(t:TA)(f:FA2):Prop where
 hk:X.K=K
 pa:PA X es t
 ev:aK1 K t f
section
variable{K:aJ}{X:Cx}{e a b:AD}{es:List AD}{te ta tb:TE}{f:FE}{g h:FE2}{tA:TA}{fs:FA2}{pos:Pos}{i:Nat}
def faZ(g:FE2)(fs:FA2):FA2:=λeF eZ=>(g eF eZ).bind λd=>(fs eF eZ).map λr=>d::r
def aLJ(fs:FA2):FE2:=λeF eZ=>(fs eF eZ).bind λds=>cap ds.length (.lst ds)
def aJJ(a b:D):Option D:=match a,b with
 | .lst x,.lst y=>if x.length+y.length≤100000 then NC (.lst (x++y))else none
 | _,_=>none
def aLK(g h:FE2):FE2:=λeF eZ=>(g eF eZ).bind λa=>(h eF eZ).bind λb=>aJJ a b
def aK2(js:List Nat)(i:Nat)(g:FE2):GS:=λenv=>match g (rE (Jg js env)) (zE (Jg js env))with
 | some d=>if i<(Jg js env).length then .next ((Jg js env).set i (.fro d))else .bad
 | none=>.bad
end
end L2


namespace L2
open PySem PySem.Spec PySem.Calls PyProof.Rows PyProof.V
inductive Ar where
  | ch (i:Nat) | rd (f:FE) | nw (f:FE)
def chA:List Ar→List Nat
 | []=>[]
 | .ch i::as=>i::chA as
 | .rd _::as=>chA as
 | .nw _::as=>chA as
def sS:List Ar→List Bool
 | []=>[]
 | .ch _::as=>NF::sS as
 | .rd _::as=>NG::sS as
 | .nw _::as=>NG::sS as
def rdA:List Ar→DE→DE→Option (List D)
 | [],_,_=>NC []
 | .ch _::as,eF,eZ=>rdA as eF eZ
 | .rd f::as,eF,eZ=>(f eZ).bind λd=>(rdA as eF eZ).map λr=>d::r
 | .nw f::as,eF,eZ=>(f eF).bind λd=>(rdA as eF eZ).map λr=>d::r
def xJ:List Bool→List D→List D→List D
 | true::m,c::cs,rs=>c::xJ m cs rs
 | false::m,cs,r::rs=>r::xJ m cs rs
 | _,_,_=>[]
def aAR:List Bool→List V→List V
 | true::m,v::vs=>v::aAR m vs
 | false::m,_::vs=>aAR m vs
 | _,_=>[]
def aCH:List Bool→List D→List V→EN
 | true::m,d::ds,v::vs=>.inn v d::aCH m ds vs
 | false::m,d::ds,_::vs=>.fro d::aCH m ds vs
 | _,_,_=>[]
def VL(K:aJ)(Z:Hp)(σ:St):List Ar→List D→List V→Prop
 | [],ds,vs=>ds=[]∧vs=[]
 | .ch i::as,ds,vs=>∃v r,vs=v::r∧σ[i]?=NC (NC v)∧VL K Z σ as ds r
 | .rd _::as,ds,vs=>∃d dr v r,ds=d::dr∧vs=v::r∧Rv K Z d v∧VL K Z σ as dr r
 | .nw _::as,ds,vs=>∃d dr v r,ds=d::dr∧vs=v::r∧Rv K Z d v∧VL K Z σ as dr r
def VsA(σ:St):List Nat→List V→Prop
 | [],vs=>vs=[]
 | j::js,vs=>∃v r,vs=v::r∧σ[j]?=NC (NC v)∧VsA σ js r
def takes:List Nat→EN→Option (List D×EN)
 | [],env=>NC ([],env)
 | j::js,env=>(env[j]?.bind SD.hold).bind λdb=>(takes js (env.set j .no)).map λde=>(db.1::de.1,de.2)
def Xa:List Nat→List D→EN→EN
 | j::js,d::ds,env=>(match env[j]?.bind SD.hold with
  | some db=>(Xa js ds (env.set j .no)).set j (db.2 d)
  | none=>env)
 | _,_,env=>env
section
variable{K:aJ}{X:Cx}{e:AD}{es:List AD}{te:TE}{f:FE}{tA:TA}{as:List Ar}{pos:Pos}{i:Nat}
def aK3(K:aJ)(t:TA)(as:List Ar):Prop:=∀(A1:Fp)(σ:St)(H:Hp)(eF eZ:DE)(ds:List D)(cv:List V)(Q:List V→Hp→Prop),(∀x,A1 x→nZ H x)→Fq K H eF σ→Fq K (out H A1) eZ σ→VsA σ (chA as) cv→rdA as eF eZ=NC ds →
 (∀vs H',aV H H'→VL K (out H' A1) σ as ds vs→Q vs H')→t σ H Q
structure XAC(K:aJ)(X:Cx)(es:List AD)(t:TA)(as:List Ar):Prop where
 hk:X.K=K
 pa:PA X es t
 ev:aK3 K t as
theorem xj(hk:X.K=K:=by rfl):XAC K X [] oK []:=⟨hk,jM,λA1 σ H eF eZ ds cv Q c re rz va q k=>by
 cases q;exact k [] H (aV.refl _) ⟨U,U⟩⟩
theorem JC{y:Str}{py:Pos}(hv:PE X (.Name y py) (sE i))(hs:XAC K X es tA as)(hst:AB (.Name y py::es) X.env=(NG,AO (.Name y py) X.env)::AB es X.env:=by rfl):XAC K X (.Name y py::es) (gF (sE i) tA) (.ch i::as):=⟨hs.hk,dG hv hs.pa hst,λA1 σ H eF eZ ds cv Q c re rz va q k=>by
 obtain⟨v,r,rfl,h1,h2⟩:=va;exact⟨v,h1,hs.ev A1 σ H eF eZ ds r _ c re rz h2 q λvs H' s a=>k (v::vs) H' s ⟨v,vs,U,h1,a⟩⟩⟩
theorem aGA(h:XR K X e te f)(hs:XAC K X es tA as)(hst:AB (e::es) X.env=(NG,AO e X.env)::AB es X.env:=by rfl):XAC K X (e::es) (gF te tA) (.rd f::as):=⟨h.hk,dG h.pe hs.pa hst,λA1 σ H eF eZ ds cv Q c re rz va q k=>by
 obtain⟨d,q1,q2⟩:=bA q;obtain⟨ds',q3,rfl⟩:=lY q2;refine h.ev σ H (out H A1) eZ d _ (aCz c) rz q1 λv H1 Z1 s1 t1 z1 rv=>?_;refine hs.ev A1 σ H1 eF eZ ds' cv _ (λx q=>(c x q).same s1) (re.same s1) (rz.same (cH s1 λx q=>.inl q)) va q3 λvs H2 s2 rvs=>?_;exact k (v::vs) H2 (s1.trans s2) ⟨d,ds',v,vs,U,U,((aGw z1).trans (cH s2 λx q=>.inl q)).rv _ _ rv,rvs⟩⟩
end
section
variable{K:aJ}{H H' Z Z' B:Hp}{σ:St}
theorem xn:∀(js:List Nat)(ds:List D)(env:EN)(p:List D×EN)(j:Nat),takes js env=NC p→env[j]?=NC .no→(Xa js ds env)[j]?=NC .no
 | [],ds,env,p,j,_,h=>by unfold Xa;exact h
 | i::js,[],env,p,j,_,h=>by unfold Xa;exact h
 | i::js,d::ds,env,p,j,q,h=>by
  unfold takes at q;obtain⟨db,q1,q2⟩:=bA q;obtain⟨de,q3,_⟩:=lY q2;have ne:i≠j:=λz=>by subst z;rw[h]at q1;cases q1
  unfold Xa;rw[q1];dsimp only;rw[F7,if_neg ne];exact xn js ds _ _ j q3 (by rw[F7,if_neg ne];exact h)
theorem eO.fp{α β:Type}{R:α→Fp→β→Prop}{ds:List α}{A A':Fp}{ys:List β}(h:eO R ds A ys)(e:Is A A'):eO R ds A' ys:=by have:A=A':=funext λx=>propext (e x);rw[←this];exact h
theorem VM:∀(js:List Nat)(env:EN)(A:Fp)(ds:List D)(e0:EN),eO (gG K H Z) env A σ→takes js env=NC (ds,e0)→∃A0 A1 vs,Apart A0 A1∧Is A (gB A0 A1)∧eO (gG K H Z) e0 A0 σ∧eQ K H ds A1 vs∧VsA σ js vs ∧
    ∀(H' Z':Hp)(ds':List D)(A0' az:Fp),eO (gG K H' Z') e0 A0' σ→eQ K H' ds' az vs→Apart A0' az→eO (gG K H' Z') (Xa js ds' env) (gB A0' az) σ
  | [],env,A,ds,e0,h,q=>by
    cases q;refine⟨A,nil,[],λ_ _ z=>z,λx=>⟨.inl,λz=>z.elim id False.elim⟩,h,by unfold eQ;exact⟨λ_ z=>z,U⟩,U,λH' Z' ds' A0' az s o ap=>?_⟩;cases ds' with
    | nil=>unfold eQ at o;unfold Xa;exact s.fp λx=>⟨.inl,λz=>z.elim id λz=>absurd z (o.1 x)⟩
    | cons d dr=>
      unfold eQ at o;obtain⟨y,yt,_,_,z,_⟩:=o;cases z
  | j::js,env,A,ds,e0,h,q=>by
    unfold takes at q;obtain⟨db,q1,q2⟩:=bA q;obtain⟨⟨dr,e1⟩,q3,q4⟩:=lY q2;cases q4;obtain⟨s,e,hs⟩:=bA q1;obtain⟨y,A1,C,h1,h2,h3,h4,k⟩:=h.focus e;have key:∃v,y=NC v∧Ow K H db.1 A1 v∧∀(H' Z':Hp)(d':D)(A':Fp),Ow K H' d' A' v→gG K H' Z' (db.2 d') A' (NC v):=by
      cases s with
      | no=>cases hs
      | fro d=>cases hs
      | own d=>cases hs;obtain⟨v,rfl,o⟩:=h4;exact⟨v,U,o,λH' Z' d' A' o'=>⟨v,U,o'⟩⟩
      | inn v d=>cases hs;obtain⟨rfl,o⟩:=h4;exact⟨v,U,o,λH' Z' d' A' o'=>⟨U,o'⟩⟩
    obtain⟨v,rfl,o,bk⟩:=key;have s0:=k _ (λ_ _ _ _ q=>q) .no (NC v) nil (λ_ z=>z.elim) (λ_ z=>z);rw[set_same h1]at s0;obtain⟨A0,A1r,vs,k1,k2,k3,k4,k5,k6⟩:=VM js (env.set j .no) _ dr e1 s0 q3;have hC:∀x,C x↔A0 x∨A1r x:=λx=>⟨λz=>(k2 x).mp (.inr z),λz=>((k2 x).mpr z).elim False.elim id⟩
    refine⟨A0,gB A1 A1r,v::vs,λx z1 z2=>z2.elim (λz=>h2 x z ((hC x).mpr (.inl z1))) (k1 x z1),λx=>?_,k3,?_,⟨v,vs,U,h1,k5⟩,λH' Z' ds' A0' az s' o' ap=>?_⟩
    · rw[h3 x]
      constructor
      · rintro(z | z)
        · exact .inr (.inl z)
        · exact((hC x).mp z).elim .inl λz=>.inr (.inr z)
      · rintro(z | z | z)
        · exact .inr ((hC x).mpr (.inl z))
        · exact .inl z
        · exact .inr ((hC x).mpr (.inr z))
    · unfold eQ
      exact⟨v,vs,A1,A1r,U,λx z1 z2=>h2 x z1 ((hC x).mpr (.inr z2)),λx=>Iff.rfl,o,k4⟩
    · cases ds' with
      | nil=>
        unfold eQ at o';cases o'.2
      | cons d' dr'=>
        unfold eQ at o';obtain⟨y',yt,Aj,Ar',z1,a1,a2,o1,o2⟩:=o';cases z1;have s1:=k6 H' Z' dr' A0' Ar' s' o2 λx w1 w2=>ap x w1 ((a2 x).mpr (.inr w2));have n1:=xn js dr' (env.set j .no) _ j q3 (J5 (D2.mp e).1);obtain⟨y2,Bx,C2,f1,f2,f3,f4,f5⟩:=s1.focus n1;have f4:∀x,¬Bx x:=f4;have hC2:∀x,C2 x↔A0' x∨Ar' x:=λx=>⟨λz=>(f3 x).mpr (.inr z),λz=>((f3 x).mp z).elim (λw=>absurd w (f4 x)) id⟩
        have s2:=f5 _ (λ_ _ _ _ q=>q) (db.2 d') (NC v) Aj (λx w1 w2=>((hC2 x).mp w2).elim (λw=>ap x w ((a2 x).mpr (.inl w1))) (a1 x w1)) (bk H' Z' d' Aj o1);rw[set_same h1]at s2;unfold Xa;rw[q1];dsimp only;refine s2.fp λx=>?_;constructor
        · rintro(z | z)
          · exact .inr ((a2 x).mpr (.inl z))
          · exact((hC2 x).mp z).elim .inl λz=>.inr ((a2 x).mpr (.inr z))
        · rintro(z | z)
          · exact .inr ((hC2 x).mpr (.inl z))
          · exact((a2 x).mp z).elim .inl λz=>.inr ((hC2 x).mpr (.inr z))
theorem Em:∀(as:List Ar)(Ql OJ:List D)(A:Fp)(xq vs:List V),eQ K H Ql A xq→VsA σ (chA as) xq→VL K Z σ as OJ vs→eO (gG K H Z) (aCH (sS as) (xJ (sS as) Ql OJ) vs) A (vs.map NC)∧aAR (sS as) vs=xq∧(xJ (sS as) Ql OJ).length=(sS as).length∧vs.length=(sS as).length
 | [],Ql,OJ,A,xq,vs,o,va,ar=>by
  obtain⟨rfl,rfl⟩:=ar;have va:xq=[]:=va;subst va;cases Ql with
  | nil=>unfold eQ at o;exact⟨⟨o.1,U⟩,U,U,U⟩
  | cons d dr=>unfold eQ at o;obtain⟨_,_,_,_,z,_⟩:=o;cases z
 | .ch i::as,Ql,OJ,A,xq,vs,o,va,ar=>by
  obtain⟨v,r,rfl,h1,h2⟩:=va;obtain⟨v',r',rfl,g1,g2⟩:=ar;rw[h1]at g1;cases g1;cases Ql with
  | nil=>unfold eQ at o;cases o.2
  | cons d dr=>
   unfold eQ at o;obtain⟨y,yt,A1,A2,z,a1,a2,o1,o2⟩:=o;cases z;obtain⟨m1,m2,m3,m4⟩:=Em as dr OJ A2 r r' o2 h2 g2;exact⟨⟨NC v,r'.map NC,A1,A2,U,a1,a2,⟨U,o1⟩,m1⟩,congrArg (v::·) m2,congrArg (·+1) m3,congrArg (·+1) m4⟩
 | .rd f::as,Ql,OJ,A,xq,vs,o,va,ar=>by
  obtain⟨d,dr,v,r,rfl,rfl,g1,g2⟩:=ar;obtain⟨m1,m2,m3,m4⟩:=Em as Ql dr A xq r o va g2;have e:xJ (sS (.rd f::as)) Ql (d::dr)=d::xJ (sS as) Ql dr:=by cases Ql<;>rfl
  rw[e];exact⟨⟨NC v,r.map NC,nil,A,U,λ_ z=>z.elim,λx=>⟨.inr,λz=>z.elim False.elim id⟩,⟨λ_ z=>z,v,U,g1⟩,m1⟩,m2,congrArg (·+1) m3,congrArg (·+1) m4⟩
 | .nw f::as,Ql,OJ,A,xq,vs,o,va,ar=>by
  obtain⟨d,dr,v,r,rfl,rfl,g1,g2⟩:=ar;obtain⟨m1,m2,m3,m4⟩:=Em as Ql dr A xq r o va g2;have e:xJ (sS (.nw f::as)) Ql (d::dr)=d::xJ (sS as) Ql dr:=by cases Ql<;>rfl
  rw[e];exact⟨⟨NC v,r.map NC,nil,A,U,λ_ z=>z.elim,λx=>⟨.inr,λz=>z.elim False.elim id⟩,⟨λ_ z=>z,v,U,g1⟩,m1⟩,m2,congrArg (·+1) m3,congrArg (·+1) m4⟩
theorem aJK{A A0 A1:Fp}{e0:EN}(h:eO (gG K H (out H A)) e0 A0 σ)(h0:Apart A0 A1)(hA:∀x,A1 x→A x)(c:∀x,A1 x→nZ H x):Fq K (out H A1) (rE e0) σ:=λj d q=>by
 unfold rE at q;rw[B9]at q;cases ej:e0[j]? with
 | none=>rw[ej]at q;cases q
 | some sd=>
  rw[ej]at q;obtain⟨y,Ak,Ck,f1,f2,f3,f4,_⟩:=h.focus ej;have apk:Apart Ak A1:=λx z1 z2=>h0 x ((f3 x).mpr (.inl z1)) z2;cases sd with
  | no=>cases q
  | fro d1=>
   cases q;obtain⟨_,v1,rfl,f5⟩:=f4;exact⟨v1,f1,(cH (aV.refl _) λx q=>.inl (hA x q):aV (out H A) (out H A1)).rv _ _ f5⟩
  | own d1=>
   cases q;obtain⟨v1,rfl,f5⟩:=f4;exact⟨v1,f1,f5.out apk λx q=>(c x q).2⟩
  | inn v1 d1=>cases q;obtain⟨rfl,f5⟩:=f4;exact⟨v1,f1,f5.out apk λx q=>(c x q).2⟩
end
def spG(K:aJ)(mask:List Bool)(F:List D→Option (D×List D)):Sp:=λvs H Q _=>∃A ds r ds',ds.length=mask.length∧vs.length=mask.length∧eO (gG K H (out H A)) (aCH mask ds vs) A (vs.map NC)∧F ds=NC (r,ds')∧∀w H' A' A2,eQ K H' ds' A' (aAR mask vs)→Ow K H' r A2 w→Apart A' A2→aV (out H A) (out H' (gB A' A2))→Q w H'
def Um(as:List Ar)(F:List D→Option (D×List D)):GM:=λenv=>(takes (chA as) env).bind λce=>(rdA as (rE env) (rE ce.2)).bind λOJ=>(F (xJ (sS as) ce.1 OJ)).map λrd=>(rd.1,Xa (chA as) rd.2 env)
section
variable{K:aJ}{X:Cx}{e:AD}{es:List AD}{tA:TA}{as:List Ar}{pos pf:Pos}
theorem xu{x:Str}{k n:Nat}{mask:List Bool}{F:List D→Option (D×List D)}(C:lN X.prog X.w X.K X.mg X.base x k n (spG K mask F))(hm:sS as=mask)(hr:lA k X.A)(hg:Gl X x)(ha:XAC K X (e::es) tA as)(hdb:(x==("__debug__" : Str))=NG:=by decide)
  (he:AB (e::es) X.env=(NG,AO e X.env)::AB es X.env:=by rfl) (hpl:(AY pos (AB es X.env)).any (·.1)=NG:=by rfl):XM K X (.Call (.Name x pf) (e::es) [] pos) (Sd (spG K mask F) [] E0 tA) (Um as F):=⟨ha.hk,il C hr hg ha.pa hdb he hpl,λB σ H env d env' Q r q k=>by
 subst hm;obtain⟨⟨Ql,e0⟩,q1,q⟩:=bA q;obtain⟨OJ,q2,q⟩:=bA q;obtain⟨⟨r1,ds'⟩,q3,q4⟩:=lY q;cases q4;have rr:=r.r;obtain⟨A,a,b⟩:=r;obtain⟨A0,A1,xq,t1,t2,t3,t4,t5,t6⟩:=VM _ _ _ _ _ a q1;have cl:=lO a;have c1:∀x,A1 x→nZ H x:=λx z=>cl x ((t2 x).mpr (.inr z));have c0:∀x,A0 x→nZ H x:=λx z=>cl x ((t2 x).mpr (.inl z));refine ha.ev A1 σ H (rE env) (rE e0) OJ xq _ c1 rr (aJK t3 t1 (λx z=>(t2 x).mpr (.inr z)) c1) t5 q2 λvs H2 s2 ar=>?_;show spG K (sS as) F (vs++[]) H2 Q E0;rw[F3];have o2:eQ K H2 Ql A1 xq:=cZ.mpr ((cZ.mp t4).mono λ_ _ _ _ z=>z.same s2);obtain⟨m1,m2,m3,m4⟩:=Em as Ql OJ A1 xq vs o2 t5 ar;refine⟨A1,_,r1,ds',m3,m4,m1,q3,λw H3 A' A2 p1 p2 ap sm=>k w H3 ?_⟩;rw[m2]at p1;have hC:∀y,A0 y→¬A' y∧¬A2 y∧H3 y=H y:=λy hy=>by obtain⟨⟨u,eu⟩,_⟩:=c0 y hy;obtain⟨n1,n2⟩:=bG.mp (sm y u (bG.mpr ⟨λz=>t1 y hy z,s2 y u eu⟩));exact⟨λz=>n1 (.inl z),λz=>n1 (.inr z),n2.trans eu.symm⟩
 have tk:Gz K H H3:=(Tg λx q=>(c1 x q).2).trans ((cH s2 λx q=>.inl q:aV (out H A1) (out H2 A1)).trans (sm.trans (mU _ _))).tk;have g:aV (out H A) (out H3 (gB (gB A0 A') A2)):=λy u ey=>by
  obtain⟨e1,e2⟩:=bG.mp ey;obtain⟨n1,n2⟩:=bG.mp (sm y u (bG.mpr ⟨λz=>e1 ((t2 y).mpr (.inr z)),s2 y u e2⟩));refine bG.mpr ⟨λz=>?_,n2⟩;rcases z with (z | z) | z
  ·exact e1 ((t2 y).mpr (.inl z))
  ·exact n1 (.inl z)
  ·exact n1 (.inr z)
 have f0:eO (gG K H3 (out H3 (gB (gB A0 A') A2))) e0 A0 σ:=t3.mono λs D z hb qq=>by
  cases s with
  | no=>exact qq
  | fro d=>obtain⟨q1,v,q2,q3⟩:=qq;exact⟨q1,v,q2,g.rv _ _ q3⟩
  | inn v d=>exact⟨qq.1,Ow.frame tk _ _ _ qq.2 λx zx=>(hC x (hb x zx)).2.2⟩
  | own d=>obtain⟨v,q1,q2⟩:=qq;exact⟨v,q1,Ow.frame tk _ _ _ q2 λx zx=>(hC x (hb x zx)).2.2⟩
 have s3:=t6 H3 _ ds' A0 A' f0 p1 λy z1 z2=>(hC y z1).1 z2;exact⟨_,eO.snoc s3 ⟨w,U,p2⟩ λy z1 z2=>z1.elim (λz=>(hC y z).2.1 z2) λz=>ap y z z2,b.trans g⟩⟩
end
def Za:List Bool→List V→EN→List D→Prop
 | true::m,v::vs,s::e,ds=>∃d r,s=.inn v d∧ds=d::r∧Za m vs e r
 | false::m,_::vs,_::e,ds=>Za m vs e ds
 | [],_,_,ds=>ds=[]
 | _,_,_,_=>False
def Xb(mask:List Bool)(r:D)(ds':List D)(vs:List V)(o:SR):Prop:=∃env',(o=.rete r env'∨(o=.next env'∧r=.non))∧Za mask vs env' ds'
theorem En:∀{m:List Bool} {vs:List V} {e:EN} {a b:List D},Za m vs e a→Za m vs e b→a=b
 | true::m,v::vs,s::e,a,b,⟨d,r,h1,h2,h3⟩,⟨d',r',g1,g2,g3⟩=>by rw[h1]at g1;injection g1 with _ g1;rw[h2,g2,En h3 g3,g1]
 | false::m,v::vs,s::e,a,b,h,g=>En (m:=m) (vs:=vs) (e:=e) h g
 | [],vs,e,a,b,h,g=>by have h:a=[]:=h;have g:b=[]:=g;rw[h,g]
 | true::m,[],e,a,b,h,g=>h.elim
 | false::m,[],e,a,b,h,g=>h.elim
 | true::m,v::vs,[],a,b,h,g=>h.elim
 | false::m,v::vs,[],a,b,h,g=>h.elim
theorem aCI{mask:List Bool}{r r2:D}{a b:List D}{vs:List V}{o:SR}(h1:Xb mask r a vs o)(h2:Xb mask r2 b vs o):r=r2∧a=b:=by
  obtain⟨e1,a1,a2⟩:=h1;obtain⟨e2,b1,b2⟩:=h2;rcases a1 with a1 | ⟨a1,rfl⟩
  · rcases b1 with b1 | ⟨b1,rfl⟩
    · rw[a1]at b1
      injection b1 with c1 c2;subst c2;exact⟨c1,En a2 b2⟩
    · rw[a1]at b1;cases b1
  · rcases b1 with b1 | ⟨b1,rfl⟩
    · rw[a1]at b1;cases b1
    · rw[a1]at b1
      injection b1 with c2;subst c2;exact⟨U,En a2 b2⟩
abbrev VN(n:Nat)(mask:List Bool)(ds:List D)(vs:List V):EN:=aCH mask ds vs++E4 (n-mask.length) SD.no
open Classical in
noncomputable def Pa(n:Nat)(mask:List Bool)(g:GS):List D→Option (D×List D):=λds=>if h:∃p:D×List D,ds.length=mask.length∧∀vs:List V,vs.length=mask.length→Xb mask p.1 p.2 vs (g (VN n mask ds vs))then NC h.choose else none
theorem Ka{n:Nat}{mask:List Bool}{g:GS}{ds ds':List D}{r:D}(hl:ds.length=mask.length)(h:∀vs:List V,vs.length=mask.length→Xb mask r ds' vs (g (VN n mask ds vs))):Pa n mask g ds=NC (r,ds'):=by
 have ex:∃p:D×List D,ds.length=mask.length∧∀vs:List V,vs.length=mask.length→Xb mask p.1 p.2 vs (g (VN n mask ds vs)):=⟨(r,ds'),hl,h⟩
 unfold Pa;rw[dif_pos ex];have hz:(E4 mask.length V.non).length=mask.length:=P8;obtain⟨e1,e2⟩:=aCI (ex.choose_spec.2 _ hz) (h _ hz);exact congrArg NC (j6 e1 e2)
theorem aCJ{n:Nat}{mask:List Bool}{g:GS}{ds ds':List D}{r:D}(h:Pa n mask g ds=NC (r,ds'))(vs:List V)(hv:vs.length=mask.length):Xb mask r ds' vs (g (VN n mask ds vs)):=by
 unfold Pa at h;split at h
 ·rename_i ex;have:=ex.choose_spec;rw[F5 h]at this;exact this.2 vs hv
 ·cases h
section
variable{P:AJ}{w:AN}{K:aJ}{mg:Str→Option A6}{base:AM}
theorem Ri{H Z:Hp}:∀(m:List Bool)(vs:List V)(env:EN)(ds:List D)(A:Fp)(σ:St),eO (gG K H Z) env A σ→Za m vs env ds→vs.length=m.length→∃A',(∀x,A' x→A x)∧eQ K H ds A' (aAR m vs)
 | true::m,v::vs,s::e,ds,A,σ,h,⟨d,r,h1,h2,h3⟩,hl=>by obtain⟨y,yt,A1,A2,k1,k2,k3,k4,k5⟩:=h;subst h1 h2;obtain⟨A',g1,g2⟩:=Ri m vs e r A2 yt k5 h3 (o9 hl);refine⟨gB A1 A',λx z=>(k3 x).mpr (z.elim .inl λz=>.inr (g1 x z)),?_⟩;unfold eQ;exact⟨v,aAR m vs,A1,A',U,λx z1 z2=>k2 x z1 (g1 x z2),λx=>Iff.rfl,k4.2,g2⟩
 | false::m,v::vs,s::e,ds,A,σ,h,h3,hl=>by obtain⟨y,yt,A1,A2,k1,k2,k3,k4,k5⟩:=h;obtain⟨A',g1,g2⟩:=Ri m vs e ds A2 yt k5 h3 (o9 hl);exact⟨A',λx z=>(k3 x).mpr (.inr (g1 x z)),g2⟩
 | [],vs,e,ds,A,σ,h,g,hl=>by
  have g:ds=[]:=g;subst g;refine⟨nil,λ_ z=>z.elim,?_⟩;unfold eQ;refine⟨λ_ z=>z,?_⟩;cases vs<;>rfl
 | true::m,[],e,ds,A,σ,h,g,hl=>g.elim
 | false::m,[],e,ds,A,σ,h,g,hl=>g.elim
 | true::m,v::vs,[],ds,A,σ,h,g,hl=>g.elim
 | false::m,v::vs,[],ds,A,σ,h,g,hl=>g.elim
theorem xx{H Z:Hp}:∀(n:Nat) {env:EN} {A:Fp} {σ:St},eO (gG K H Z) env A σ→eO (gG K H Z) (env++E4 n SD.no) A (σ++E4 n none)
 | 0,env,A,σ,h=>by show eO _ (env++[]) A (σ++[]);rw[F3,F3];exact h
 | n+1,env,A,σ,h=>by have s:=xx n (eO.snoc (d:=SD.no) (y:=none) (A1:=nil) h (λ_ z=>z) λ_ _ z=>z);rw[P6,P6]at s;exact s.fp λx=>⟨λz=>z.elim id False.elim,.inl⟩
theorem aJL{X:Cx}{N:List Str}{mask:List Bool}{g:GS}{body:List AH}{t:TS}{vs:List V}{H:Hp}{Q:VK}{E:XK}(yb:YB K X body t g)(h:spG K mask (Pa N.length mask g) vs H Q E):t {nx:=λ_ H'=>Q .non H',rt:=Q} (start N vs) H:=by
  obtain⟨A,ds,r,ds',hl,hv,hs,hF,kk⟩:=h;obtain⟨env',q1,q2⟩:=aCJ hF vs hv;refine yb.ev (out H A) _ _ H (VN N.length mask ds vs) ?_ ?_
  · have s:=xx (N.length-mask.length) hs
    have e:start N vs=vs.map NC++E4 (N.length-mask.length) none:=by unfold start;rw[hv]
    rw[e];exact⟨A,s,aV.refl _⟩
  · rcases q1 with q1 | ⟨q1,rfl⟩
    · rw[q1]
      intro w σ' H' ⟨A2,a2,b2⟩;obtain⟨A3,A4,k1,⟨w',ew,o⟩,k3,k4⟩:=a2.Mu;cases ew;obtain⟨A5,g1,g2⟩:=Ri mask vs env' ds' A3 σ' k1 q2 hv;exact kk w H' A5 A4 g2 o (λx z1 z2=>k3 x (g1 x z1) z2) (b2.trans (cH (aV.refl _) λx z=>.inl ((k4 x).mpr (z.elim (λz=>.inl (g1 x z)) .inr))))
    · rw[q1]
      intro σ' H' ⟨A2,a2,b2⟩;obtain⟨A5,g1,g2⟩:=Ri mask vs env' ds' A2 σ' a2 q2 hv;exact kk .non H' A5 nil g2 (by unfold Ow;exact⟨λ_ z=>z,U⟩) (λx z1 z2=>z2) (b2.trans (cH (aV.refl _) λx z=>.inl (z.elim (g1 x) False.elim)))
theorem Raw.aJM{x:Str}{st:AH}{N ps:List Str}{k:Nat}{g:GS}{mask:List Bool}(R:Raw K mg x st)(S:aZ N ps (aK st))(hb:HB x x st ps)(hm:mask.length=ps.length)
  (hbody:∀(f:A7)(cdv:A6)(A:AL)(outer:List Env)(s:A8)(H:Hp)(E:XK),lA k (A.deeper (BN x (aK st) s.heap.objs.size f cdv))→∃t,YB K (Gw FZ P w K mg base N x (aK st) f cdv A outer s H E).bw (cR st) t g):lN P w K mg base x (k+1) mask.length (spG K mask (Pa N.length mask g)):=by
 rw[hm];refine R.cal S (λvs H Q E h=>by obtain⟨A,ds,r,ds',hl,hv,_⟩:=h;exact hv.trans hm) hb (λf cdv A outer s H vs Q E hr h=>?_);obtain⟨t,yb⟩:=hbody f cdv A outer s H E hr;exact⟨t,yb.ps,aJL yb h⟩
end
section
variable{K:aJ}{X:Cx}{a b:AD}{rest:List AD}{ta tb:TE}{g h:GM}{f:FE}{pos:Pos}
def aLM(g h:GM):GM:=λenv=>(g env).bind λde=>match de.1 with
 | .bl NF=>h de.2
 | .bl NG=>NC (.bl NG,de.2)
 | _=>none
def aKn(f:FE):GS:=λenv=>match f (rE env)with
 | some (.lst _)=>.next env
 | _=>.bad
end
end L2


namespace L2
open PySem PySem.Spec PySem.Calls PyProof.Rows PyProof.V
section
variable{prog:AJ}{w:AN}{A:AL}{R:FB→A8→Prop}{I:A7}{fp wr:List A7}{n:Nat}{P:Nat→A6→Prop}{St:Nat→AM→Prop}{kw:List (Str×A6)}
end
section
variable{prog:AJ}{w:AN}{A:AL}{E:A6→A8→Prop}{s:A8}
end
section
variable{K:aJ}{X:Cx}{e e2:AD}{te t2:TE}{f g:FE}{x:Str}{p pos kp:Pos}
end
end L2


namespace L2
open PySem PySem.Spec PySem.Calls PyProof.Rows PyProof.V
section
variable{X:Cx}
def Rj:V→List V→Hp→VK→Prop:=λx vs H Q=>∃l xs i y,x=.ref l∧vs=[.int i,y]∧H l=NC (.lst xs)∧0≤i∧i.toNat≤xs.length∧xs.length<sizeLine∧Q .non (upd H l (.lst (xs.take i.toNat++y::xs.drop i.toNat)))
theorem Zb:MtM X "list.insert" Rj:=by
 intro pins s σ H x vs v us Q I rx rv h;obtain⟨l,xs,i,y,rfl,rfl,hH,h0,h1,hz,q⟩:=h;cases rx;obtain⟨u1,u2,rfl,ru1,ru2⟩:=rv.two;obtain⟨t,rfl⟩:=ru1;obtain⟨z,its,n,r,hl,e⟩:=I.aEB hH;have hsl:sizeLine<2 ^ 62:=by decide
 refine EV F.slot_list_insert ⟨_,e,U⟩ F.entry_list_insert (F.args_list_insert_3 _ _ _) (HV l its.toArray n i t u2 (by rw[JE (by omega) (by omega)];decide) (by rw[C6];omega)) ⟨e,?_⟩;refine⟨.non,_,I.aEA (its':=its.take i.toNat++u2::its.drop i.toNat) hH e ?_ ((r.take _).append (.cons ru2 (r.drop _))) ?_,U,q⟩
 ·show (its.toArray.extract 0 (if i<0 then(i+(its.toArray.size:Int)).toNat else min i.toNat its.toArray.size)).push u2++its.toArray.extract (if i<0 then(i+(its.toArray.size:Int)).toNat else min i.toNat its.toArray.size)=_;rw[if_neg (by omega),C6,show min i.toNat its.length=i.toNat by omega];apply Array.ext';simp;exact S7 (by rw[Q5];omega)
 ·rw[C7,F0,J4,Q5];omega
theorem JD{i:Int}{t:Tok}:∀{ns:List Int} {us:List A6},Vals (ns.map V.int) us→∀y∈us,MX y (.int i t) (eqU (.int i) y)
 | [],_,.nil=>λy hy=>by cases hy
 | n::ns,u::us,.cons r rs=>λy hy=>by
  rcases D5.mp hy with rfl | hy
  ·obtain⟨t',rfl⟩:=r;exact Lc n i t' t
  ·exact JD rs y hy
theorem Ht{i:Int}:∀{ns:List Int} {m:Nat} (h:m<ns.length),m<ns.idxOf i→ns[m]≠i
 | [],m,h,_=>absurd h (L6 _)
 | a::ns,0,h,hl=>λe=>by have e:a=i:=e;rw[Y9,e,beq_self_eq_true]at hl;exact absurd hl (K6 _)
 | a::ns,m+1,h,hl=>by
  rw[Y9]at hl;cases q:a==i with
  | true=>rw[q]at hl;exact absurd hl (L6 _)
  | false=>rw[q]at hl;have hl:m+1<ns.idxOf i+1:=hl;exact Ht (ns:=ns) (m:=m) (by simpa using h) (by omega)
theorem aCK{α β:Type}(φ:α→β):∀(l:List α)(k:Nat),(l.map φ).eraseIdx k=(l.eraseIdx k).map φ
 | [],_=>rfl
 | _::_,0=>rfl
 | a::l,k+1=>congrArg (φ a::·) (aCK φ l k)
theorem int_at{ns:List Int}{us:List A6}(h:Vals (ns.map V.int) us)(i:Int){m:Nat}(hm:m<us.toArray.size):∃hn:m<ns.length,eqU (.int i) us.toArray[m]=(ns[m]==i):=by
 have hl:=h.length;rw[B6]at hl;have hm':m<us.length:=by simpa using hm
 obtain⟨u,eu,ru⟩:=h.get (i:=m) (x:=.int (ns[m]'(by omega))) (by rw[B9,B7 (by omega)];rfl);obtain⟨t,rfl⟩:=ru;have e:us.toArray[m]=.int (ns[m]'(by omega)) t:=by have:=B7 hm';rw[eu]at this;simpa using (F5 this).symm
 refine⟨by omega,?_⟩;rw[e];rfl
def Rk:V→List V→Hp→VK→Prop:=λx vs H Q=>∃(l:A7)(ns:List Int)(i:Int),x=.ref l∧vs=[.int i]∧H l=NC (.lst (ns.map V.int))∧i∈ns∧Q .non (upd H l (.lst ((ns.eraseIdx (ns.idxOf i)).map V.int)))
theorem Zc:MtM X "list.remove" Rk:=by
 intro pins s σ H x vs v us Q I rx rv h;obtain⟨l,ns,i,rfl,rfl,hH,hi,q⟩:=h;cases rx;obtain⟨u,rfl,ru⟩:=rv.one;obtain⟨t,rfl⟩:=ru;obtain⟨z,its,n,r,hl,e⟩:=I.aEB hH;rw[B6]at hl;have hj:ns.idxOf i<ns.length:=W3 hi;have hz:its.length≤sizeLine:=by rw[B6]at z;omega
 refine EV F.slot_list_remove ⟨_,e,U⟩ F.entry_list_remove (F.args_list_remove_2 _ _) (Ll l its.toArray n (.int i t) (eqU (.int i)) (λy hy=>JD r y (by simpa using hy)) (ns.idxOf i) (by rw[C6];omega) ?_ ?_ (by rw[C6];exact hz)) ⟨e,?_⟩
 ·obtain⟨h1,h2⟩:=int_at r i (m:=ns.idxOf i) (by rw[C6];omega);rw[h2,f7];exact beq_self_eq_true i
 ·intro m hm hlt;obtain⟨h1,h2⟩:=int_at r i hm;rw[h2];exact beq_eq_false_iff_ne.mpr (Ht h1 hlt)
 ·refine⟨.non,_,I.aEA (its':=its.eraseIdx (ns.idxOf i)) hH e ?_ ?_ ?_,U,q⟩
  ·rw[T9]
  ·have:=r.eraseIdx (ns.idxOf i);rw[aCK]at this;exact this
  ·rw[B6];have:=Lz ns (ns.idxOf i);omega
def jq(K:aJ):V→List V→Hp→VK→Prop:=λx vs H Q=>∃(l:A7)(ns:List Int)(i:Int),x=.ref l∧vs=[.int i]∧rJ K H l (ns.map V.int)∧i∈ns∧Q (.int (ns.idxOf i)) H
theorem aCL:MtM X "list.index" (jq X.K):=by
 intro pins s σ H x vs v us Q I rx rv h;obtain⟨l,ns,i,rfl,rfl,hq,hi,q⟩:=h;cases rx;obtain⟨u,rfl,ru⟩:=rv.one;obtain⟨t,rfl⟩:=ru;obtain⟨its,r,pl,z⟩:=I.list hq;have hl:=r.length;rw[B6]at hl z;have hj:ns.idxOf i<ns.length:=W3 hi;have hsl:sizeLine<2 ^ 62:=by decide
 obtain⟨⟨cls,dd,data,sl⟩,ho,hc,n,hd⟩:=pl.isList;dsimp only at hc hd;subst hc hd;refine EV F.slot_list_index ⟨_,ho,U⟩ F.entry_list_index (F.args_list_index_2 _ _) (SeqAt.list_indexAt l its.toArray n dd sl (.int i t) (eqU (.int i)) (ns.idxOf i) (by rw[C6];omega) (by omega) ?_ ?_) ⟨ho,λy hy=>MX.at (JD r y (by simpa using hy)) _ _,?_⟩
 ·obtain⟨h1,h2⟩:=int_at r i (m:=ns.idxOf i) (by rw[C6];omega);rw[h2,f7];exact beq_self_eq_true i
 ·intro m hm hlt;obtain⟨h1,h2⟩:=int_at r i hm;rw[h2];exact beq_eq_false_iff_ne.mpr (Ht h1 hlt)
 ·exact⟨.int (ns.idxOf i),H,I.tok _,⟨_,U⟩,q⟩
end
section
variable{K:aJ}{X:Cx}{a b e:AD}{ta tb te:TE}{f g:FE}{i:Nat}{π:FP}{pos apos cpos:Pos}{m:Str}
def jr(i:Nat)(π:FP)(g f:FE):GS:=λenv=>match env[i]?,π (rE env),g (rE env),f (rE env)with
 | some (.own d0),NC p,NC (.int k),NC (.int y)=>(match gC p d0 with
  | some (.lst ds)=>(match intsOf ds with
   | some ns=>if 0≤k∧k.toNat≤ns.length∧ns.length<1000 then .next (env.set i (.own (fG p d0 (.lst ((ns.take k.toNat++y::ns.drop k.toNat).map D.int)))))else .bad
   | none=>.bad)
  | _=>.bad)
 | _,_,_,_=>.bad
theorem aH4(h:EvP K ta i π)(hx:Ls K tb g)(he:Ls K te f):DSs K (oH (Sh K "list" Rj ta (gF tb (gF te oK)))) (jr i π g f):=λB E σ H env r p=>by
 unfold jr at p;split at p
 ·rename_i d0 pp k y q1 q2 q3 q3';split at p
  ·rename_i ds q4;split at p
   ·rename_i ns q5;split at p
    ·rename_i hc;obtain⟨c0,c1,c2⟩:=hc;obtain⟨v0,a,xs,Bs,k1,k2,k3,k4,k5,k6⟩:=r.RQ q1 q4;have ed:=sJ q5;subst ed;have ex:=kW.mp (eQ.rv _ _ _ k5);subst ex;refine h σ H (rE env) v0 pp _ _ r.r k1 q2 k2 λH1 s1=>⟨.inl ⟨U,_,rJ.of (s1 _ _ k3)⟩,?_⟩
     refine hx σ H1 H1 (rE env) _ _ (Zn.self K H1) (r.r.same s1) q3 λu H2 Z2 s2 t2 z2 ru=>he σ H2 H2 (rE env) _ _ (Zn.self K H2) (r.r.same (s1.trans s2)) q3' λw H3 Z3 s3 t3 z3 Qy=>?_;unfold Rv at ru Qy;subst ru Qy;have HN:=s1.trans (s2.trans s3);refine⟨a,_,k,.int y,U,U,HN _ _ k3,c0,by rw[B6];exact c1,Yo (by rw[B6];omega),p _ ?_⟩;have e:(ns.map V.int).take k.toNat++V.int y::(ns.map V.int).drop k.toNat=(ns.take k.toNat++y::ns.drop k.toNat).map V.int:=by rw[J3,D3,o0,o6]
     rw[e];exact k6 H3 _ _ nil HN (Eb _ _ (cY _) (kW.mpr U)) λb z=>z.elim
    ·exact p.elim
   ·exact p.elim
  ·exact p.elim
 ·exact p.elim
def jt(i:Nat)(π:FP)(f:FE):GS:=λenv=>match env[i]?,π (rE env),f (rE env)with
 | some (.own d0),NC p,NC (.int y)=>(match gC p d0 with
  | some (.lst ds)=>(match intsOf ds with
   | some ns=>if y∈ns then .next (env.set i (.own (fG p d0 (.lst ((ns.eraseIdx (ns.idxOf y)).map D.int)))))else .bad
   | none=>.bad)
  | _=>.bad)
 | _,_,_=>.bad
theorem aH5(h:EvP K ta i π)(he:Ls K te f):DSs K (oH (Sh K "list" Rk ta (gF te oK))) (jt i π f):=λB E σ H env r p=>by
 unfold jt at p;split at p
 ·rename_i d0 pp y q1 q2 q3;split at p
  ·rename_i ds q4;split at p
   ·rename_i ns q5;split at p
    ·rename_i hc;obtain⟨v0,a,xs,Bs,k1,k2,k3,k4,k5,k6⟩:=r.RQ q1 q4;have ed:=sJ q5;subst ed;have ex:=kW.mp (eQ.rv _ _ _ k5);subst ex;refine h σ H (rE env) v0 pp _ _ r.r k1 q2 k2 λH1 s1=>⟨.inl ⟨U,_,rJ.of (s1 _ _ k3)⟩,?_⟩
     refine he σ H1 H1 (rE env) _ _ (Zn.self K H1) (r.r.same s1) q3 λw H2 Z2 s2 t2 z2 Qy=>?_;unfold Rv at Qy;subst Qy;have s12:=s1.trans s2;refine⟨a,ns,y,U,U,s12 _ _ k3,hc,p _ ?_⟩;exact k6 H2 _ _ nil s12 (Eb _ _ (cY _) (kW.mpr U)) λb z=>z.elim
    ·exact p.elim
   ·exact p.elim
  ·exact p.elim
 ·exact p.elim
theorem yc(h:XP K X a ta i π)(hx:XR K X b tb g)(he:XR K X e te f)(hp:PE X a ta→PE X b tb→PE X e te→PS X (.Expr (.Call (.Attribute a m apos) [b,e] [] cpos) pos) (oH (Sh K "list" Rj ta (gF tb (gF te oK))))):YS K X (.Expr (.Call (.Attribute a m apos) [b,e] [] cpos) pos) (oH (Sh K "list" Rj ta (gF tb (gF te oK)))) (iW i (jr i π g f)):=Hr i (hp h.pe hx.pe he.pe) (aH4 h.ev hx.ev he.ev)
theorem yd(h:XP K X a ta i π)(he:XR K X e te f)(hp:PE X a ta→PE X e te→PS X (.Expr (.Call (.Attribute a m apos) [e] [] cpos) pos) (oH (Sh K "list" Rk ta (gF te oK)))):YS K X (.Expr (.Call (.Attribute a m apos) [e] [] cpos) pos) (oH (Sh K "list" Rk ta (gF te oK))) (iW i (jt i π f)):=Hr i (hp h.pe he.pe) (aH5 h.ev he.ev)
def Uo(a b:D):Option D:=match a,b with
 | .lst ds,.int i=>(intsOf ds).bind λns=>if i∈ns then NC (.int (ns.idxOf i))else none
 | _,_=>none
theorem aCM(ha:XR K X a ta f)(he:XR K X e te g)(hp:PE X a ta→PE X e te→PE X (.Call (.Attribute a m apos) [e] [] pos) (Sh X.K "list" (jq X.K) ta (gF te oK))):XN K X (.Call (.Attribute a m apos) [e] [] pos) (Sh K "list" (jq K) ta (gF te oK)) (f2 Uo f g):=⟨ha.hk,by have:=ha.hk;subst this;exact hp ha.pe he.pe,λσ H e d Q re q k=>by
 obtain⟨d1,q1,q⟩:=bA q;obtain⟨d2,q2,q⟩:=bA q;unfold Uo at q;split at q
 ·obtain⟨ns,q3,q⟩:=bA q;split at q
  ·rename_i hi;cases q;refine ha.ev σ H H e _ _ (Zn.self K H) re q1 λv H1 Z1 s1 t1 z1 rv=>?_;have rv:=z1.sm.rv _ _ rv;obtain⟨p,rfl,r2⟩:=By q3 rv;refine⟨.inl ⟨U,_,r2⟩,he.ev σ H1 H1 e _ _ (Zn.self K H1) (re.same s1) q2 λu H2 Z2 s2 t2 z2 ru=>?_⟩;unfold Rv at ru;subst ru;obtain⟨p',e',r3⟩:=By q3 (s2.rv _ _ rv);cases e';exact⟨p,ns,_,U,U,r3,hi,k _ H2 (s1.trans s2) (.jJ U (by unfold Rv;rfl))⟩
  ·cases q
 ·cases q⟩
def vA(a b:D):Option D:=match a with
 | .dk ks ds=>(Tt b).bind λk=>match posK ks k with
  | none=>NC .non
  | some j=>(ds[j]?).bind λr=>if r.jJ=NF then NC r else none
 | _=>none
theorem mY(hu:X.A.units+1<Ap)(ha:XR K X a ta f)(he:XR K X e te g)(mm:M1 X a "get" apos e cpos):XN K X (.Call (.Attribute a "get" apos) [e] [] cpos) (aBW ta te) (f2 vA f g):=⟨ha.hk,aBX hu ha.pe he.pe mm,λσ H e d Q re q k=>by
 obtain⟨d1,q1,q⟩:=bA q;obtain⟨d2,q2,q⟩:=bA q;unfold vA at q;split at q
 ·rename_i ks ds _;obtain⟨kk,h1,q⟩:=bA q;refine ha.ev σ H H e _ _ (Zn.self K H) re q1 λx H1 Z1 s1 t1 z1 rx=>?_;have rx:=z1.sm.rv _ _ rx;have rx':=rx;unfold Rv at rx;obtain⟨p,xs,r1,r2,r3,r4⟩:=rx;refine⟨p,r1,.inl ⟨_,r2⟩,he.ev σ H1 H1 e _ _ (Zn.self K H1) (re.same s1) q2 λu H2 Z2 s2 t2 z2 ru=>?_⟩;have ru:=z2.sm.rv _ _ ru;have rx2:=s2.rv _ _ rx';unfold Rv at rx2;obtain⟨p',xs',e1,r2',r3',r4'⟩:=rx2;rw[r1]at e1;cases e1;refine⟨tG (ks.zip xs') kk,.inl ⟨_,kk,r2',Ed h1 ru,U⟩,?_⟩;rw[sI r3'];split at q
  ·rename_i hn;cases q;rw[hn];exact k _ H2 (s1.trans s2) (.jJ U (by unfold Rv;rfl))
  ·rename_i j hj;obtain⟨r,q4,q⟩:=bA q;split at q
   ·rename_i im;cases q;obtain⟨v,e1,e2⟩:=r4'.get q4;rw[hj,C4,e1];exact k v H2 (s1.trans s2) (.jJ im e2)
   ·cases q
 ·cases q⟩
def JF(π:FP)(g:FE):FP:=λe=>(π e).bind λp=>(g e).bind λd=>(Tt d).map λk=>p++[.key k]
theorem aAS{H:Hp}{k:Key}{w v:V}(h:stepV H (.key k) w=NC v):∃a kvs,w=.ref a∧H a=NC (.dK kvs)∧tG kvs k=NC v:=by
 cases w with
 | ref a=>
  unfold stepV at h;dsimp only at h;cases q:H a with
  | none=>rw[q]at h;cases h
  | some o=>
   rw[q]at h;cases o with
   | dK kvs=>exact⟨a,kvs,U,q,h⟩
   | _=>cases h
 | _=>unfold stepV at h;cases h
theorem Hu(hu:X.A.units+1<Ap)(h:XP K X a ta i π)(hb:XR K X b tb g)(hs:aBR b):XP K X (.Subscript a b pos) (ue ta tb) i (JF π g):=⟨h.hk,FQ hu h.pe hb.pe hs,λσ H e v0 p v Q re h1 h2 h3 k=>by
 unfold JF at h2;obtain⟨p0,q1,q2⟩:=bA h2;obtain⟨d,q3,q4⟩:=bA q2;obtain⟨kk,q5,q6⟩:=lY q4;subst q6;obtain⟨w,w1,w2⟩:=Jt h3;obtain⟨ad,kvs,rfl,w3,w4⟩:=aAS w2;refine h.ev σ H e v0 p0 _ _ re h1 q1 w1 λH1 s1=>hb.ev σ H1 H1 e _ _ (Zn.self K H1) (re.same s1) q3 λy H2 Z2 s2 t2 z2 ry=>?_;have ry:=z2.sm.rv _ _ ry;refine⟨ad,v,U,?_,k H2 (s1.trans s2)⟩;rw[Ed q5 ry,←w4];exact Jj.k (s2 _ _ (s1 _ _ w3))⟩
def aFs:List D→Option D
 | [.int a]=>NC (.int (if a<0 then -a else a))
 | _=>none
def aJN:List V→Hp→VK→Prop:=λxs H Q=>∃a:Int,xs=[.int a]∧Q (.int (if a<0 then -a else a)) H
theorem aH6:Ay K aJN aFs:=λvs H ds d Q rs q k=>by
 unfold aFs at q;split at q
 ·cases q;obtain⟨v,rfl,r⟩:=uT rs;unfold Rv at r;subst r;exact⟨_,U,k _ H (aV.refl _) (.jJ U (by unfold Rv;rfl))⟩
 ·cases q
theorem aH7:oJ X (.builtin "abs") aJN:=by intro pins s σ H xs us Q I r h;obtain⟨a,rfl,q⟩:=h;obtain⟨u,rfl,rx⟩:=vals1 r;obtain⟨t,rfl⟩:=rx;exact call_abs_int λu tk=>⟨.int _,H,I.tok _,⟨u,U⟩,q⟩
end
end L2


namespace L2
open PySem PySem.Spec PySem.Calls PyProof.Rows PyProof.V
theorem eO.append{α β:Type}{R:α→Fp→β→Prop}:∀{ds es:List α} {A A1:Fp} {ys zs:List β},eO R ds A ys→eO R es A1 zs→Apart A A1→eO R (ds++es) (gB A A1) (ys++zs)
 | [],es,A,A1,ys,zs,h,h1,ap=>by obtain⟨n,rfl⟩:=h;exact eO.congr h1 λx=>⟨.inr,λz=>z.elim (λz=>(n x z).elim) id⟩
 | d::ds,es,A,A1,ys,zs,⟨y,yt,B1,B2,e1,e2,e3,e4,e5⟩,h1,ap=>by
  subst e1;have ap2:Apart B2 A1:=λx z=>ap x ((e3 x).mpr (.inr z));refine⟨y,yt++zs,B1,gB B2 A1,U,λx z1 z2=>z2.elim (e2 x z1) (ap x ((e3 x).mpr (.inl z1))),λx=>?_,e4,eO.append e5 h1 ap2⟩;show (A x∨A1 x)↔(B1 x∨B2 x∨A1 x)
  rw[e3 x];exact or_assoc
theorem Zd:∀(more kvs:List (Key×V)),(kvs.map (·.1)++more.map (·.1)).Nodup→yZ kvs more=kvs++more
 | [],kvs,_=>by simp[yZ]
 | p::r,kvs,h=>by
  show yZ (putK kvs p.1 p.2) r=_;have hn:tG kvs p.1=none:=by
   cases e:tG kvs p.1 with
   | none=>rfl
   | some v=>have h1:=aEI e;rw[N4]at h;exact absurd U (h.2.2 p.1 h1 p.1 (by simp))
  rw[aBP _ hn,Zd r (kvs++[(p.1,p.2)]) (by simpa using h)];simp
def aH8(ks:List Key)(vs:List V):List (V×V):=(ks.zip vs).map λkv=>(kV kv.1,kv.2)
def aK5(K:aJ)(t:List (TE×TE))(ks:List Key)(is:List Nat)(fs:FA):Prop:=∀(σ:St)(H:Hp)(e:DE)(ds:List D)(xs:List V)(Q:List (V×V)→Hp→Prop),Fq K H e σ→fs e=NC ds→xs.length=is.length →
 (∀(k i:Nat),is[k]?=NC i→∃x,xs[k]?=NC x∧σ[i]?=NC (NC x))→(∀vs H',aV H H'→GK K H H' ds vs→Q (aH8 ks (xs++vs)) H')→FW t σ H Q
structure XDm(K:aJ)(X:Cx)(p:Pos)(keys:List (Option AD))(vals:List AD)(t:List (TE×TE))(ks:List Key)(is:List Nat)(fs:FA):Prop where
 hk:X.K=K
 pps:PPs X p keys vals t
 ev:aK5 K t ks is fs
section
variable{K:aJ}{X:Cx}{st:AH}{e:AD}{vals:List AD}{keys:List (Option AD)}{te:TE}{f:FE}{fs:FA}{pos p p1:Pos}{i j:Nat}{t:List (TE×TE)}{ks:List Key}{is:List Nat}{x:Str}
theorem aFt(hk:X.K=K:=by rfl):XDm K X p [] [] [] [] [] aM:=⟨hk,aEG,λσ H e ds xs Q re q hl h k=>by
 cases q;have hx:xs=[]:=F6 hl;subst hx;exact k [] H (aV.refl _) ⟨nil,by unfold eQ;exact⟨λ_ z=>z,U⟩,λ_ z=>z.elim⟩⟩
theorem Kc(h:XN K X e te f)(hs:XDm K X p keys vals t ks [] fs):XDm K X p (NC (.Constant (.str x) j p1)::keys) (e::vals) ((tC (.str x),te)::t) (.inr x::ks) [] (aB f fs):=⟨h.hk,QL bj h.pe hs.pps,λσ H e ds xs Q re q hl hx k=>by
 have hx0:xs=[]:=F6 hl;subst hx0;unfold aB at q;obtain⟨d,q1,q2⟩:=bA q;obtain⟨r,q3,q4⟩:=bA q2;cases q4;show te σ H _;refine h.ev σ H e d _ re q1 λy H1 s1 n=>hs.ev σ H1 e r [] _ (re.same s1) q3 U (λk i z=>by simp at z) λvs H2 s2 n2=>k (y::vs) H2 (s1.trans s2) ?_;obtain⟨A1,o1,f1⟩:=n;obtain⟨A2,o2,f2⟩:=n2;refine⟨gB A1 A2,?_,λa z=>z.elim (f1 a) λz=>s1.free (f2 a z)⟩;unfold eQ;refine⟨y,vs,A1,A2,U,λx z1 z2=>?_,λ_=>Iff.rfl,o1.same s2,o2⟩;obtain⟨⟨u,eu⟩,_⟩:=Ow.cells _ _ _ o1 x z1;rw[f2 x z2]at eu;cases eu⟩
theorem aCN(h:PE X e (sE i))(hs:XDm K X p keys vals t ks is fs):XDm K X p (NC (.Constant (.str x) j p1)::keys) (e::vals) ((tC (.str x),sE i)::t) (.inr x::ks) (i::is) fs:=⟨hs.hk,QL bj h hs.pps,λσ H e ds xs Q re q hl hx k=>by
 cases xs with
 | nil=>simp at hl
 | cons y ys=>
  obtain⟨y',b1,b2⟩:=hx 0 i U;cases b1;exact⟨y,b2,hs.ev σ H e ds ys _ re q (by simpa using hl) (λk j z=>by
   obtain⟨u,c1,c2⟩:=hx (k+1) j (by simpa using z);exact⟨u,by simpa using c1,c2⟩) λvs H' s n=>k vs H' s n⟩⟩
def VP(ks:List Key)(is:List Nat)(fs:FA):GS:=λenv=>match fs (rE env),xF env is with
 | some ds,NC os=>if decide is.Nodup=NF∧decide ks.Nodup=NF∧ks.length=os.length+ds.length∧ks.length≤15 then .ret (.dk ks (os++ds))else .bad
 | _,_=>.bad
theorem aFu(h:XDm K X p keys vals t ks is fs)(hall:keys.all (·.isSome)=NF:=by rfl)(hl:keys.length=vals.length:=by rfl)(h0:keys≠[]:=by simp)(h15:keys.length≤15:=by decide) :
  YS K X (.Return (NC (.Dict keys vals p)) pos) (zy (aGd t)) (VP ks is fs):=⟨Ru (aEH h.pps hall hl h0 h15),λB E σ H env r p=>by
 unfold VP at p;split at p
 ·rename_i ds os q1 q2;split at p
  ·rename_i hc;obtain⟨c1,c2,c3,c4⟩:=hc;have rr:=r.r;obtain⟨A,a,b⟩:=r;obtain⟨xs,A',a1,a2,a3,a4⟩:=RX (of_decide_eq_true c1) q2 a;intro l hl;refine h.ev σ (upd H l (.dK [])) (rE env) ds xs _ (rr.same (dI hl _)) q1 a3 a4 λvs H1 s1 n=>?_;have s0:aV H H1:=(dI hl _).trans s1;have el:H1 l=NC (.dK []):=s1 _ _ cM;have lv:=n.rv.length;obtain⟨N,on,fn⟩:=n;have lx:xs.length=os.length:=by have:=(eQ.rv _ _ _ a2).length;exact this
   have len:ks.length=(xs++vs).length:=by rw[C7,lx,lv];exact c3
   refine⟨el,ks.zip (xs++vs),U,by rw[U3];omega,?_⟩;have em:yZ [] (ks.zip (xs++vs))=ks.zip (xs++vs):=by rw[Zd _ _ (by rw[G6,P4,j5 (by omega)];exact of_decide_eq_true c2),P4]
   rw[em];have hA':∀x,A' x→∃u,H x=NC u:=λx z=>by obtain⟨⟨u,eu⟩,_⟩:=eQ.cells _ _ _ a2 x z;exact⟨u,eu⟩
   have nA:¬A' l:=λz=>by obtain⟨u,eu⟩:=hA' l z;rw[hl]at eu;cases eu
   have nN:¬N l:=λz=>by have:=fn l z;rw[cM]at this;cases this
   have ap:Apart A' N:=λx z1 z2=>by obtain⟨u,eu⟩:=hA' x z1;have e2:=fn x z2;rw[bN (gK eu hl),eu]at e2;cases e2
   refine p _ _ (gB (·=l) (gB A' N)) (λx u ex=>?_) ?_
   ·obtain⟨e1,e2⟩:=bG.mp (b x u ex);have nl:x≠l:=gK e2 hl;refine bG.mpr ⟨λz=>?_,by rw[bN nl];exact s0 _ _ e2⟩;rcases z with z | z | z
    ·exact nl z
    ·exact e1 (a1 x z)
    ·have e3:=fn x z;rw[bN nl,e2]at e3;cases e3
   ·unfold Ow;refine⟨l,xs++vs,gB A' N,U,cM,len,λz=>z.elim nA nN,λ_=>Iff.rfl,?_⟩;exact eQ.frame (uU (Jl el)) _ _ _ (cZ.mpr ((cZ.mp (a2.same s0)).append (cZ.mp on) ap)) λx z=>bN λy=>(z.elim (λz=>nA (y▸z)) (λz=>nN (y▸z)))
  ·exact p.elim
 ·exact p.elim⟩
end
section
variable{X:Cx}{K:aJ}{x y:Str}{p p2 pos pos2:Pos}{a b:AD}{t:TA}{fs:FA}
theorem VR(lo:Int):∀(m:Nat)(us:List A6)(s:Nat),us.length=m→(∀(j:Nat)(w:A6),us[j]?=NC w→∃t,w=.int (lo+((s+j:Nat):Int)) t)→Vals ((List.range' s m).map λk=>V.int (lo+((k:Nat):Int))) us
 | 0,us,s,hl,_=>by have:us=[]:=F6 hl;subst this;exact .nil
 | m+1,us,s,hl,hw=>by
  cases us with
  | nil=>cases hl
  | cons w us=>rw[List.range'_succ,D3];obtain⟨t0,e0⟩:=hw 0 w U;refine .cons ⟨t0,by rw[e0];rfl⟩ (VR lo m us (s+1) (by simpa using hl) λj w' hj=>?_);obtain⟨t1,e1⟩:=hw (j+1) w' (by simpa using hj);exact⟨t1,by rw[e1,show s+(j+1)=s+1+j by omega]⟩
def JG:List V→Hp→VK→Prop:=λvs H Q=>∃lo hi:Int,vs=[.int lo,.int hi]∧0≤lo∧lo≤1000∧0≤hi∧hi≤1000∧∀l,H l=none→Q (.ref l) (upd H l (.lst ((D4 (hi-lo).toNat).map λk=>V.int (lo+((k:Nat):Int)))))
theorem aCO(hc:X.calm=NF)(pins:List (A7×Obj))(s:A8)(σ:St)(H:Hp)(vs:List V)(us:List A6)(Q:VK)(I:Inv X pins σ H s)(rv:Vals vs us)(h:JG vs H Q) :
  AF (AG X.prog X.w) X.A (call (.type "range") us) (λu' s'=>AF (AG X.prog X.w) X.A (call (.type "list") [u']) (EP X pins σ Q) X.xe s') X.xe s:=by
 obtain⟨lo,hi,rfl,h0,h1,h2,h3,q⟩:=h;cases rv with
 | cons r rr=>
  cases rr with
  | cons r' rr=>
   cases rr;obtain⟨t,rfl⟩:=r;obtain⟨t',rfl⟩:=r';refine Kk ?_;refine call_list_range (n:=(hi-lo).toNat) (I.ok.hd hc) (LP _ _ _ _ _ _ _) (small_one (by omega) (by omega) (by omega) (by omega)) (by rw[KI];split<;>omega) (by omega) λh' tk acc c kp g it=>?_;have I1:Inv X pins σ H {s with heap:=s.heap.push {cls:=.type "range", data:=.fields #[.int lo t,.int hi t',.int 1 s.toks]},toks:=s.toks+1}:=I.kept (t':=s.toks+1) λb o e=>AA _ e;generalize hg':s.heap.push {cls:=.type "range", data:=.fields #[.int lo t,.int hi t',.int 1 s.toks]}=hp at *;have hs:H hp.objs.size=none:=I1.hok.fresh (C5 _);have rr:Vals ((D4 (hi-lo).toNat).map λk=>V.int (lo+((k:Nat):Int))) acc.toList:=by rw[List.range_eq_range'];refine VR lo _ acc.toList 0 (by rw[J9];exact it.1) λj w hj=>?_;obtain⟨t1,e1⟩:=it.2 j w (by rw[←L7];exact hj);exact⟨t1,by rw[e1,show lo+(j:Int)*1=lo+((0+j:Nat):Int) by omega]⟩
   exact⟨.ref _,_,I1.laid (t':=tk) (a:=hp.objs.size) (o:=.lst ((D4 (hi-lo).toNat).map λk=>V.int (lo+((k:Nat):Int)))) kp (C5 _) ⟨by rw[B6,D8];exact O5 (xU (by omega)),acc.toList,c,rr,by simpa[HK]using g⟩,U,q _ hs⟩
theorem aAT(hc:X.calm=NF)(ha:PA X [a,b] t)(hg:Gl X x)(hm:X.mg x=none)(hv:AW x=NC (.type "list")) (hg2:Gl X y) (hm2:X.mg y=none) (hv2:AW y=NC (.type "range")) (hn:x ≠ "__name__" := by decide) (hdb:(x==("__debug__" : Str))=NG:=by decide) (hn2:y ≠ "__name__" := by decide) (jk:(y==("__debug__" : Str))=NG:=by decide)
  (he:AB [a,b] X.env=[(NG,AO a X.env),(NG,AO b X.env)]:=by rfl) (he1:AB [b] X.env=[(NG,AO b X.env)]:=by rfl) (he2:AB [.Call (.Name y p2) [a,b] [] pos2] X.env=[(NG,AO (.Call (.Name y p2) [a,b] [] pos2) X.env)]:=by rfl) :
  PE X (.Call (.Name x p) [.Call (.Name y p2) [a,b] [] pos2] [] pos) (tCB JG t):=by
 intro pins s σ H Q I h;refine B5 (yW I hg hm hv ?_ hn hdb);refine L0 ?_ he2 U;rw[he2];refine CM (B5 (yW I hg2 hm2 hv2 ?_ hn2 jk));exact L0 (jG (ha pos2 pins s σ H _ I h) λus s1 ⟨vs,H1,I1,r1,q1⟩=>jG (aCO hc pins s1 σ H1 vs us Q I1 r1 q1) λu' s' z=>Cb z) (by rw[he,he1]) (by rw[he1];rfl)
def Kd:List D→Option D
 | [.int lo,.int hi]=>if 0≤lo∧lo≤1000∧0≤hi∧hi≤1000 then NC (.lst ((D4 (hi-lo).toNat).map λk=>D.int (lo+((k:Nat):Int))))else none
 | _=>none
theorem aAU(h:XA K X [a,b] t fs)(hg:Gl X x)(hm:X.mg x=none)(hv:AW x=NC (.type "list")) (hg2:Gl X y) (hm2:X.mg y=none) (hv2:AW y=NC (.type "range")) (hc:X.calm=NF:=by rfl) (hn:x ≠ "__name__" := by decide) (hdb:(x==("__debug__" : Str))=NG:=by decide) (hn2:y ≠ "__name__" := by decide) (jk:(y==("__debug__" : Str))=NG:=by decide)
  (he:AB [a,b] X.env=[(NG,AO a X.env),(NG,AO b X.env)]:=by rfl) (he1:AB [b] X.env=[(NG,AO b X.env)]:=by rfl) (he2:AB [.Call (.Name y p2) [a,b] [] pos2] X.env=[(NG,AO (.Call (.Name y p2) [a,b] [] pos2) X.env)]:=by rfl) :
  XN K X (.Call (.Name x p) [.Call (.Name y p2) [a,b] [] pos2] [] pos) (tCB JG t) (fL Kd fs):=⟨h.hk,aAT hc h.pa hg hm hv hg2 hm2 hv2 hn hdb hn2 jk he he1 he2,λσ H e d Q re q k=>by
 obtain⟨ds,q1,q2⟩:=bA q;unfold Kd at q2;split at q2
 ·rename_i lo hi;split at q2
  ·rename_i hl;cases q2;refine h.ev σ H H e _ _ (Zn.self K H) re q1 λvs H1 Z1 s1 t1 z1 rvs=>?_;unfold fQ at rvs;obtain⟨v1,r1,rfl,e1,rvs⟩:=rvs;unfold fQ at rvs;obtain⟨v2,r2,rfl,e2,rvs⟩:=rvs;unfold fQ at rvs;subst rvs;unfold Rv at e1 e2;subst e1 e2;refine⟨lo,hi,U,hl.1,hl.2.1,hl.2.2.1,hl.2.2.2,λl hl=>k _ _ (s1.trans (dI hl _)) ((wD (aV.refl _) (.fU ?_ ?_) hl).back s1)⟩
   ·have:=cY ((D4 (hi-lo).toNat).map λk=>lo+((k:Nat):Int));rw[K7]at this;exact this
   ·have:=kW (K:=K) (H:=H1) (ns:=(D4 (hi-lo).toNat).map λk=>lo+((k:Nat):Int)) |>.mpr U;rw[K7]at this;rw[show (λk:Nat=>V.int (lo+(k:Int)))=V.int∘λk:Nat=>lo+(k:Int)from rfl,←K7];exact this
  ·cases q2
 ·cases q2⟩
end
end L2


namespace L2
open PySem PySem.Spec PySem.Calls PyProof.Rows PyProof.V
section
variable{K:aJ}{X:Cx}{a e:AD}{ta te:TE}{f:FE}{π:FP}{i:Nat}{m:Str}{apos cpos pos:Pos}
def Ze(i:Nat)(π:FP)(f:FE):GS:=λenv=>match env[i]?,π (rE env),f (rE env)with
 | some (.own d0),NC p,NC (.int k)=>(match gC p d0 with
  | some (.lst ds)=>(match intsOf ds with
   | some ns=>if 0≤k∧k.toNat<ns.length∧ns.length<1000 then .next (env.set i (.own (fG p d0 (.lst ((ns.eraseIdx k.toNat).map D.int)))))else .bad
   | none=>.bad)
  | _=>.bad)
 | _,_,_=>.bad
theorem Up{α β:Type}(φ:α→β):∀(l:List α)(k:Nat),(l.map φ).eraseIdx k=(l.eraseIdx k).map φ
 | [],k=>by simp
 | a::l,0=>by simp
 | a::l,k+1=>by simp[Up φ l k]
theorem aFv(h:EvP K ta i π)(he:Ls K te f):DSs K (oH (Sh K "list" Gx ta (gF te oK))) (Ze i π f):=λB E σ H env r p=>by
 unfold Ze at p;split at p
 ·rename_i d0 pp k q1 q2 q3;split at p
  ·rename_i ds q4;split at p
   ·rename_i ns q5;split at p
    ·rename_i hc;obtain⟨c0,c1,c2⟩:=hc;obtain⟨v0,a,xs,Bs,k1,k2,k3,k4,k5,k6⟩:=r.RQ q1 q4;have ed:=sJ q5;subst ed;have ex:=kW.mp (eQ.rv _ _ _ k5);subst ex;refine h σ H (rE env) v0 pp _ _ r.r k1 q2 k2 λH1 s1=>⟨.inl ⟨U,_,rJ.of (s1 _ _ k3)⟩,?_⟩
     refine he σ H1 H1 (rE env) _ _ (Zn.self K H1) (r.r.same s1) q3 λw H2 Z2 s2 t2 z2 Qy=>?_;unfold Rv at Qy;subst Qy;have s12:=s1.trans s2;refine⟨a,ns.map V.int,k,k.toNat,.int (ns.getD k.toNat 0),U,U,s12 _ _ k3,by omega,by omega,?_,?_,p _ ?_⟩
     ·exact EH c0 (by rw[B6];omega)
     ·rw[B9,B8,B7 c1];rfl
     ·rw[Up];exact k6 H2 _ _ nil s12 (Eb _ _ (cY _) (kW.mpr U)) λb z=>z.elim
    ·exact p.elim
   ·exact p.elim
  ·exact p.elim
 ·exact p.elim
theorem aCP(h:XP K X a ta i π)(he:XR K X e te f)(hp:PE X a ta→PE X e te→PS X (.Expr (.Call (.Attribute a m apos) [e] [] cpos) pos) (oH (Sh K "list" Gx ta (gF te oK)))):YS K X (.Expr (.Call (.Attribute a m apos) [e] [] cpos) pos) (oH (Sh K "list" Gx ta (gF te oK))) (iW i (Ze i π f)):=Hr i (hp h.pe he.pe) (aFv h.ev he.ev)
end
end L2


namespace L2
open PySem PySem.Spec PyProof.Rows
abbrev aP(ns:List Int):D:=.lst (ns.map D.int)
theorem Eo{i:Nat}{g:GS}(I:Nat→EN→Prop):∀(xs:List D)(env:EN)(n:Nat),I n env→(∀k x env,xs[k]?=NC x→I (n+k) env→i<env.length∧∃env',g (env.set i (.fro x))=.next env'∧I (n+k+1) env')→∃env',Mr i g xs env=.next env'∧I (n+xs.length) env'
 | [],env,n,h,_=>⟨env,by unfold Mr;rfl,h⟩
 | x::xs,env,n,h,st=>by
  obtain⟨h1,env',h2,h3⟩:=st 0 x env U h;obtain⟨fW,a1,a2⟩:=Eo I xs env' (n+1) h3 λk y e hk hi=>by have:=st (k+1) y e (by simpa using hk) (by rw[show n+(k+1)=n+1+k by omega];exact hi);rw[show n+(k+1)+1=n+1+k+1 by omega]at this;exact this
  refine⟨fW,?_,?_⟩
  ·unfold Mr;rw[if_pos h1,h2];exact a1
  ·rw[F0,show n+(xs.length+1)=n+1+xs.length by omega];exact a2
theorem fH{g1 g2:GS}{env env':EN}(h:g1 env=.next env'):aW g1 g2 env=g2 env':=by unfold aW;rw[h]
theorem WD{g1 g2:GS}{env:EN}{d:D}(h:g1 env=.ret d):aW g1 g2 env=.ret d:=by unfold aW;rw[h]
theorem Cp{f:FT}{g1 g2:GS}{env:EN}(h:f (rE env)=NC NF):uV f g1 g2 env=g1 env:=by unfold uV;rw[h]
theorem pH{f:FT}{g1 g2:GS}{env:EN}(h:f (rE env)=NC NG):uV f g1 g2 env=g2 env:=by unfold uV;rw[h]
theorem wJ{i:Nat}{f:FE}{env:EN}{d:D}(h:f (rE env)=NC d)(hi:i<env.length):cU i f env=.next (env.set i (.own d)):=by unfold cU;rw[h];dsimp only;rw[if_pos hi]
theorem iB{f:FE}{env:EN}{d:D}(h:f (rE env)=NC d):gO f env=.ret d:=by unfold gO;rw[h]
theorem WK{i:Nat}{fi:FA}{g:GS}{env:EN}{xs:List D}(h:fi (rE env)=NC xs):yC i fi g env=Mr i g xs env:=by unfold yC;rw[h]
theorem aFw{js:List Nat}{i:Nat}{fi:FA}{g:GS}{env Qi:EN}{xs:List D}(h0:Jg js env=Qi)(h:fi (zE Qi)=NC xs):Ww js i fi g env=Mr i g xs Qi:=by unfold Ww;rw[h0,h]
theorem oO{n m:Nat}{g:GS}{ds:List D}{d:D}(hl:ds.length=m)(h:g (ds.map SD.fro++E4 (n-m) SD.no)=.ret d):oZ n m g ds=NC d:=by unfold oZ;rw[if_pos hl,h]
theorem aH{φ:D→D→Option D}{f g:FE}{e:DE}{a b d:D}(h1:f e=NC a)(h2:g e=NC b)(h:φ a b=NC d):f2 φ f g e=NC d:=by unfold f2;rw[h1,h2];exact h
theorem cT{φ:List D→Option D}{fs:FA}{e:DE}{ds:List D}{d:D}(h1:fs e=NC ds)(h:φ ds=NC d):fL φ fs e=NC d:=by unfold fL;rw[h1];exact h
theorem aA{f:FE}{fs:FA}{e:DE}{a:D}{r:List D}(h1:f e=NC a)(h2:fs e=NC r):aB f fs e=NC (a::r):=by unfold aB;rw[h1,h2];rfl
theorem bH{n:Nat}{F:List D→Option D}{fs:FA}{e:DE}{ds:List D}{d:D}(h1:fs e=NC ds)(hl:ds.length=n)(h:F ds=NC d):cN n F fs e=NC d:=by unfold cN;rw[h1];dsimp only[C4];rw[if_pos hl];exact h
theorem bR{f:FE}{e:DE}{b:Bool}(h:f e=NC (.bl b)):fB f e=NC b:=by unfold fB;rw[h];rfl
theorem lH{f:FT}{e:DE}{b:Bool}(h:f e=NC b):xY f e=NC (!b):=by unfold xY;rw[h];rfl
theorem aCQ{f g:FT}{e:DE}(h:f e=NC NF):Hh f g e=g e:=by unfold Hh;rw[h];rfl
theorem aCR{f g:FT}{e:DE}(h:f e=NC NG):Hh f g e=NC NG:=by unfold Hh;rw[h];rfl
theorem aX{f:FE}{e:DE}{d:D}(h:f e=NC d)(i:d.jJ=NF):bO f e=NC d:=Ym.mpr ⟨h,i⟩
theorem cP(i j:Int):eU (.int i) (.int j)=NC (.int (i+j)):=rfl
theorem lR(i j:Int):Mg (.int i) (.int j)=NC (.int (i-j)):=by unfold Mg Ti;exact if_pos True.intro
theorem iG{i j:Int}(h:Wl i j):vY (.int i) (.int j)=NC (.int (i*j)):=by unfold vY Ti;exact if_pos h
theorem dW{i j:Int}(h:0<j)(h2:j<1073741824):pQ (.int i) (.int j)=NC (.int (i/j)):=by unfold pQ Ti;exact if_pos (show aAd i j from⟨h,h2⟩)
theorem bC{i j:Int}(h:0<j):gM (.int i) (.int j)=NC (.int (i%j)):=by unfold gM Ti;exact if_pos h
theorem yE{i j:Int}(h:aAe i j):Jp (.int i) (.int j)=NC (.int (i ^ j.toNat)):=by unfold Jp Ti;exact if_pos h
theorem Ep(i j:Int):dLt (.int i) (.int j)=NC (.bl (decide (i<j))):=by unfold dLt Ti;exact if_pos True.intro
theorem Rm(i j:Int):dGt (.int i) (.int j)=NC (.bl (decide (j<i))):=by unfold dGt Ti;exact if_pos True.intro
theorem JH(i j:Int):dLe (.int i) (.int j)=NC (.bl (decide (i≤j))):=by unfold dLe Ti;exact if_pos True.intro
theorem yf(i j:Int):decide (V.int i=V.int j)=decide (i=j):=by
 by_cases c:i=j
 ·subst c;simp
 ·rw[decide_eq_false c,decide_eq_false (λz=>c (by cases z;rfl))]
theorem mQ(i j:Int):Ft (.int i) (.int j)=NC (.bl (decide (i=j))):=by unfold Ft toV;dsimp only;rw[if_pos (by rfl),yf]
theorem rP(i j:Int):Tr (.int i) (.int j)=NC (.bl (!decide (i=j))):=by unfold Tr toV;dsimp only;rw[if_pos (by rfl),yf]
theorem ju{α:Type}{xs:List α}{i:Int}{x:α}(h0:0≤i)(h:xs[i.toNat]?=NC x):au xs i=NC x:=by
 have h1:i.toNat<xs.length:=by obtain⟨h1,_⟩:=D2.mp h;exact h1
 unfold au aq;rw[if_pos h0,if_pos (by omega)];exact h
theorem aFx{α:Type}{xs:List α}{x:α}(h:xs.getLast?=NC x):au xs (-1)=NC x:=by
 have hl:0<xs.length:=by
  cases xs with
  | nil=>simp at h
  | cons=>simp
 unfold au aq;rw[if_neg (by omega),if_pos (by omega)];show xs[((-1:Int)+(xs.length:Int)).toNat]?=NC x;rw[X2]at h;rw[show ((-1:Int)+(xs.length:Int)).toNat=xs.length-1 by omega];exact h
theorem rQ{ds:List D}{i:Int}{d:D}(h0:0≤i)(h:ds[i.toNat]?=NC d):dU (.lst ds) (.int i)=NC d:=ju h0 h
theorem uE{ds:List D}{i:Int}{d:D}(h0:0≤i)(h:ds[i.toNat]?=NC d):dU (.tup ds) (.int i)=NC d:=ju h0 h
theorem fJ{ns:List Int}{i:Int}(h0:0≤i)(h:i<ns.length):dU (aP ns) (.int i)=NC (.int (ns.getD i.toNat 0)):=ju h0 (by
 rw[B9,B8,B7 (show i.toNat<ns.length by omega)];rfl)
theorem Uq(ds:List D):kO [.lst ds]=NC (.int ds.length):=rfl
theorem jP(ns:List Int):kO [aP ns]=NC (.int ns.length):=by show NC (D.int ((ns.map D.int).length:Nat))=_;rw[B6]
theorem Zf{c:D→Option Bool}{el:D→Option D}{φ:D→D}:∀{xs:List D},(∀x∈xs,c x=NC NF)→(∀x∈xs,el x=NC (φ x))→pR c el xs=NC (xs.map φ)
 | [],_,_=>by unfold pR;rfl
 | x::xs,hc,he=>by unfold pR;rw[hc x D6,he x D6,Zf (xs:=xs) (λy hy=>hc y (C8 _ hy)) λy hy=>he y (C8 _ hy)];rfl
theorem Ke{c:D→Option Bool}{el:D→Option D}{p:D→Bool}{φ:D→D}:∀{xs:List D},(∀x∈xs,c x=NC (p x))→(∀x∈xs,p x=NF→el x=NC (φ x))→pR c el xs=NC ((xs.filter p).map φ)
 | [],_,_=>by unfold pR;rfl
 | x::xs,hc,he=>by
  have ih:=Ke (xs:=xs) (p:=p) (φ:=φ) (λy hy=>hc y (C8 _ hy)) λy hy=>he y (C8 _ hy);unfold pR;rw[hc x D6,C4,j7];cases q:p x with
  | true=>rw[if_pos U,if_pos U,he x D6 q,ih];rfl
  | false=>rw[if_neg (by decide),if_neg (by decide)];exact ih
theorem Cq{fi:FA}{fr:List Nat}{fc:FT}{fe:FE}{e:DE}{xs ys:List D}(h1:fi e=NC xs)(hl:xs.length≤100000)(h:pR (λx=>fc (NC x::tW e fr)) (λx=>fe (NC x::tW e fr)) xs=NC ys):gU fi fr fc fe e=NC (.lst ys):=by unfold gU;rw[h1,C4,if_pos hl,h];rfl
theorem zM(lo:Int)(n:Nat):(jO lo n).length=n:=by unfold jO;rw[B6,D8]
theorem Hv{lo:Int}{n k:Nat}{x:D}(h:(jO lo n)[k]?=NC x):k<n∧x=.int (lo+k):=by
 unfold jO at h;rw[B9]at h;cases q:(D4 n)[k]? with
 | none=>rw[q]at h;cases h
 | some j=>rw[q]at h;obtain⟨h1,h2⟩:=D2.mp q;rw[D8]at h1;rw[List.getElem_range]at h2;subst h2;exact⟨h1,(F5 h).symm⟩
theorem Hw{lo:Int}{n:Nat}{x:D}(h:x∈jO lo n):∃k:Nat,k<n∧x=.int (lo+k):=by obtain⟨k,hk,e⟩:=K0 h;obtain⟨a1,a2⟩:=Hv (k:=k) (x:=x) (by rw[B7 hk,e]);exact⟨k,a1,a2⟩
theorem Ur{fs:FA}{e:DE}{n:Int}(h:fs e=NC [.int n])(h1:-100000≤n)(h2:n≤100000):sO fs e=NC (jO 0 n.toNat):=by unfold sO;rw[h];dsimp only[C4];rw[if_pos (show lim n=NF from decide_eq_true ⟨h1,h2⟩)]
theorem Us{fs:FA}{e:DE}{i j:Int}(h:fs e=NC [.int i,.int j])(h1:-100000≤i)(h2:i≤100000)(h3:-100000≤j)(h4:j≤100000):Gj fs e=NC (jO i (j-i).toNat):=by unfold Gj;rw[h];dsimp only[C4];rw[if_pos ⟨show lim i=NF from decide_eq_true ⟨h1,h2⟩,show lim j=NF from decide_eq_true ⟨h3,h4⟩⟩]
theorem Hx{i j:Int}(h1:-18446744073709551616<i)(h2:i<18446744073709551616):Wl i j:=.inl ⟨h1,h2⟩
theorem aJO{i j:Int}(h1:-18446744073709551616<j)(h2:j<18446744073709551616):Wl i j:=.inr ⟨h1,h2⟩
theorem jw{i:Nat}{f:FE}{env:EN}{ds:List D}{d:D}(h1:env[i]?=NC (.own (.lst ds)))(h2:f (rE env)=NC d)(hl:ds.length<100000):zH i dD f env=.next (env.set i (.own (.lst (ds++[d])))):=by unfold zH dD;rw[h1,h2];dsimp only[gC];rw[if_pos hl];rfl
end L2


namespace L2
open PySem PySem.Spec PyProof.Rows
section
variable{i j:Nat}{f:FE}{c:FT}{g1 g2 g:GS}{env env':EN}{d:D}{r:SR}{ds:List D}
theorem aCS(h:f (rE env)=NC d)(hi:i<env.length)(k:g (env.set i (.own d))=r):aW (cU i f) g env=r:=(fH (wJ h hi)).trans k
theorem aGB{b:Bool}(h:c (rE env)=NC b)(k1:b=NF→aW g1 g env=r)(k2:b=NG→aW g2 g env=r):aW (uV c g1 g2) g env=r:=by
 cases b with
 | true=>have k:=k1 rfl;unfold aW at k ⊢;rw[Cp h];exact k
 | false=>have k:=k2 rfl;unfold aW at k ⊢;rw[pH h];exact k
theorem aH9{b:Bool}(h:c (rE env)=NC b)(hb:b=NG)(k:aW g2 g env=r):aW (uV c g1 g2) g env=r:=aGB h (λz=>by rw[hb]at z;cases z) λ_=>k
theorem aIa{b:Bool}(h:c (rE env)=NC b)(hb:b=NF)(k:aW g1 g env=r):aW (uV c g1 g2) g env=r:=aGB h (λ_=>k) (λz=>by rw[hb]at z;cases z)
theorem aJP(k:g env=r):aW gH g env=r:=k
theorem aJQ(h:f (rE env)=NC d)(k:SR.ret d=r):aW (gO f) g env=r:=(WD (iB h)).trans k
theorem aGC(h:g1 env=.next env')(k:g env'=r):aW g1 g env=r:=(fH h).trans k
theorem aAV(h:env[i]?=NC (.own d)):Oz i env=.ret d:=by unfold Oz;rw[h]
theorem iC{fs:FA}{e:DE}(h:fs e=NC ds)(hl:ds.length≤100000):pP fs e=NC (.tup ds):=by unfold pP cap;rw[h];dsimp only[C4];rw[if_pos hl]
theorem iD{fs:FA}{e:DE}(h:fs e=NC ds)(hl:ds.length≤100000):kJ fs e=NC (.lst ds):=by unfold kJ cap;rw[h];dsimp only[C4];rw[if_pos hl]
theorem rR{e:DE}{z:Int}(h:f e=NC (.int z)):Cd f e=NC (.int (-z)):=by unfold Cd;rw[h];rfl
theorem Er{e:DE}{T:String}{d':D}(h:f e=NC d)(k:RZ T d=NC d'):Wy T f e=NC d':=by unfold Wy;rw[h];exact k
theorem aCT{e:DE}{b:Bool}(h:f e=NC (.bl b)):RB f e=NC (.bl (!b)):=by unfold RB;rw[bR h];rfl
theorem Kf{e:DE}{f':FE}(h:f e=NC (.bl NF))(k:f' e=NC d):Ax f f' e=NC d:=by unfold Ax;rw[bR h];exact k
theorem aCU{e:DE}{f':FE}{a b:Bool}(h:f e=NC (.bl a))(k:f' e=NC (.bl b)):Ax f f' e=NC (.bl (a&&b)):=by
 unfold Ax;rw[bR h];cases a with
 | true=>exact k
 | false=>rfl
theorem zN{e:DE}{c':FT}{a b:Bool}(h:c e=NC a)(k:c' e=NC b):Hh c c' e=NC (a&&b):=by
 unfold Hh;rw[h];cases a with
 | true=>exact k
 | false=>rfl
theorem Cr{e:DE}{c':FT}{a b:Bool}(h:c e=NC a)(k:c' e=NC b):fOr c c' e=NC (a||b):=by
 unfold fOr;rw[h];cases a with
 | true=>rfl
 | false=>exact k
theorem jF{e:DE}(h:f e=NC (.lst ds)):mW f e=NC ds:=by unfold mW;rw[h];rfl
theorem aCV{e:DE}(h:f e=NC (.tup ds)):mW f e=NC ds:=by unfold mW;rw[h];rfl
theorem Zg{a b:List D}(h:D.fU (a++b)=NF)(hl:a.length+b.length≤100000):eU (.lst a) (.lst b)=NC (.lst (a++b)):=by show (if D.fU (a++b)=NF∧a.length+b.length≤100000 then NC (D.lst (a++b))else none)=_;rw[if_pos ⟨h,hl⟩]
theorem uM(d:D)(ds:List D):D.fU (d::ds)=(d.jJ&&D.fU ds):=by rw[D.fU]
theorem WL{a b:List D}:D.fU (a++b)=(D.fU a&&D.fU b):=by
 induction a with
 | nil=>rw[P4,D.fU];rfl
 | cons x a ih=>rw[N7,uM,uM,ih,Bool.and_assoc]
theorem Kg{ds:List D}(h:∀d∈ds,d.jJ=NF):D.fU ds=NF:=by
 induction ds with
 | nil=>unfold D.fU;rfl
 | cons d ds ih=>unfold D.fU;rw[h d D6,ih λe he=>h e (C8 _ he)];rfl
theorem iR(ns:List Int):(dTup ns).jJ=NF:=by unfold dTup D.jJ;exact cY ns
theorem qT(h:D.fU ds=NF):dList [.lst ds]=NC (.lst ds):=by show (if D.fU ds=NF then NC (D.lst ds)else none)=_;rw[if_pos h]
theorem qU(ns:List Int):lF (ns.map D.int)=NC (ns.map DV.int):=by
 induction ns with
 | nil=>unfold lF;rfl
 | cons n ns ih=>rw[D3];unfold lF iQ;rw[C4,ih];rfl
theorem aFy(ns ms:List Int):Ft (dTup ns) (dTup ms)=NC (.bl (decide (ns=ms))):=by
 unfold Ft dTup toV;dsimp only;unfold iQ;rw[qU,qU];dsimp only[G1];rw[if_pos (by unfold DV.depth;rw[qP];decide)];congr 2;rw[L5,uP,decide_eq_true_iff];constructor
 ·intro z;injection z with z;exact Td.mp z
 ·intro z;rw[z]
theorem Ut(ns ms:List Int):Ft (aP ns) (aP ms)=NC (.bl (decide (ns=ms))):=by
 unfold Ft toV;dsimp only;unfold iQ;rw[qU,qU];dsimp only[G1];rw[if_pos (by unfold DV.depth;rw[qP];decide)];congr 2;rw[L5,uP,decide_eq_true_iff];constructor
 ·intro z;injection z with z;exact Td.mp z
 ·intro z;rw[z]
end
end L2
namespace L2
theorem JK{i:Nat}{e:DE}{d:D}(h:e[i]?=NC (NC d)):aD i e=NC d:=by unfold aD;rw[h];rfl
theorem aJR{e:DE}{d:D}:fC d e=NC d:=rfl
theorem aCW{e:DE}:aM e=NC []:=rfl
end L2
namespace L2
theorem aCX{i:Nat}{fi:FA}{gb:GS}{env:EN}{n:Nat}(I:Nat→EN→Prop)(h:fi (rE env)=NC (jO 0 n))(h0:I 0 env)
  (st:∀(k:Nat) env,k<n→I k env→i<env.length∧∃env',gb (env.set i (.fro (.int k)))=.next env'∧I (k+1) env'):∃env',yC i fi gb env=.next env'∧I n env':=by
 obtain⟨env',h1,h2⟩:=Eo (i:=i) (g:=gb) I (jO 0 n) env 0 h0 λk x e hx hi=>by rw[N9]at hi ⊢;obtain⟨hk,rfl⟩:=Hv hx;rw[f9];exact st k e hk hi
 rw[N9,zM]at h2;exact⟨env',(WK h).trans h1,h2⟩
theorem Zh{α β:Type}(φ:α→β):∀(l:List α)(k:Nat),(l.map φ).eraseIdx k=(l.eraseIdx k).map φ
 | [],k=>by simp
 | a::l,0=>by simp
 | a::l,k+1=>by rw[D3,M3,M3,D3,Zh φ l k]
theorem JL{i j:Nat}{f:FE}{env:EN}{ns ms:List Int}{k:Int}(h1:env[i]?=NC (.own (aP ns)))(h2:env[j]?=NC (.own (aP ms)))(h3:f (rE env)=NC (.int k))(hij:i≠j)(hn:ns.length<1000)(hm:ms.length<1000)(k0:0≤k)(k1:k<ms.length) :
  Ei i j f env=.next ((env.set j (.own (aP (ms.eraseIdx k.toNat)))).set i (.own (aP (ns++[ms.getD k.toNat 0])))):=by
 have hk:k.toNat<ms.length:=by omega
 unfold Ei;rw[h1,h2,h3];dsimp only;rw[if_pos ⟨hij,by rw[B6];omega,k0,by rw[B6];exact k1,by rw[B6];omega⟩];have e:(ms.map D.int)[k.toNat]?=NC (.int (ms.getD k.toNat 0)):=by rw[B9,B8,B7 hk];rfl
 rw[e];dsimp only;rw[if_pos (show D.jJ (.int (ms.getD k.toNat 0))=NF from rfl)];have e1:(ms.map D.int).eraseIdx k.toNat=(ms.eraseIdx k.toNat).map D.int:=by rw[Zh]
 have e2:ns.map D.int++[D.int (ms.getD k.toNat 0)]=(ns++[ms.getD k.toNat 0]).map D.int:=by rw[J3];rfl
 rw[e1,e2]
theorem vB(ns:List Int)(n:Int):D.lst (ns.map D.int++[.int n])=aP (ns++[n]):=by unfold aP;rw[J3];rfl
end L2


namespace L2
open PySem PySem.Spec PyProof.Rows
def Qs(Pr:SR→Prop)(r:SR):Prop:=Pr r
section
variable{i j:Nat}{f:FE}{c:FT}{g1 g2 g gb:GS}{env env':EN}{d:D}{ds:List D}{Pr:SR→Prop}
theorem cC(h:f (rE env)=NC d)(hi:i<env.length)(k:Qs Pr (g (env.set i (.own d)))):Qs Pr (aW (cU i f) g env):=by rw[fH (wJ h hi)];exact k
theorem aCY(h:f (rE env)=NC d)(hi:i<env.length)(k:Pr (.next (env.set i (.own d)))):Qs Pr (cU i f env):=by rw[wJ h hi];exact k
theorem aAW(h:g1 env=.next env')(k:Qs Pr (g env')):Qs Pr (aW g1 g env):=by rw[fH h];exact k
theorem Bh(k:Qs Pr (g env)):Qs Pr (aW gH g env):=k
theorem aJS(k:Pr (.next env)):Qs Pr (gH env):=k
theorem Xc{b:Bool}(h:c (rE env)=NC b)(k1:b=NF→Qs Pr (aW g1 g env))(k2:b=NG→Qs Pr (aW g2 g env)):Qs Pr (aW (uV c g1 g2) g env):=by
 cases b with
 | true=>have k:=k1 rfl;unfold aW at k ⊢;rw[Cp h];exact k
 | false=>have k:=k2 rfl;unfold aW at k ⊢;rw[pH h];exact k
theorem yg{b:Bool}(h:c (rE env)=NC b)(k1:b=NF→Qs Pr (g1 env))(k2:b=NG→Qs Pr (g2 env)):Qs Pr (uV c g1 g2 env):=by
 cases b with
 | true=>rw[Cp h];exact k1 U
 | false=>rw[pH h];exact k2 U
theorem Az{b:Bool}(h:c (rE env)=NC b)(hb:b=NG)(k:Qs Pr (aW g2 g env)):Qs Pr (aW (uV c g1 g2) g env):=Xc h (λz=>by rw[hb]at z;cases z) λ_=>k
theorem aCZ{b:Bool}(h:c (rE env)=NC b)(hb:b=NF)(k:Qs Pr (aW g1 g env)):Qs Pr (aW (uV c g1 g2) g env):=Xc h (λ_=>k) (λz=>by rw[hb]at z;cases z)
theorem aC0{b:Bool}(h:c (rE env)=NC b)(hb:b=NG)(k:Qs Pr (g2 env)):Qs Pr (uV c g1 g2 env):=yg h (λz=>by rw[hb]at z;cases z) λ_=>k
theorem WM(h:f (rE env)=NC d)(k:Pr (.ret d)):Qs Pr (aW (gO f) g env):=by rw[WD (iB h)];exact k
theorem pZ(h:f (rE env)=NC d)(k:Pr (.ret d)):Qs Pr (gO f env):=by rw[iB h];exact k
theorem JM(h:env[i]?=NC (.own d))(k:Pr (.ret d)):Qs Pr (Oz i env):=by rw[aAV h];exact k
theorem aGD(h1:env[i]?=NC (.own (.lst ds)))(h2:f (rE env)=NC d)(hl:ds.length<100000)(k:Qs Pr (g (env.set i (.own (.lst (ds++[d])))))):Qs Pr (aW (zH i dD f) g env):=by rw[fH (jw h1 h2 hl)];exact k
theorem Rn{fi:FA}{n:Nat}(I:Nat→EN→Prop)(h:fi (rE env)=NC (jO 0 n))(h0:I 0 env)
  (st:∀(k:Nat) env,k<n→I k env→i<env.length∧Qs (λr=>∃env',r=.next env'∧I (k+1) env') (gb (env.set i (.fro (.int k))))) (k:∀env',I n env'→Qs Pr (g env')):Qs Pr (aW (yC i fi gb) g env):=by
 obtain⟨env',h1,h2⟩:=aCX (gb:=gb) I h h0 λk env hk hi=>⟨(st k env hk hi).1,let ⟨e,a,b⟩:=(st k env hk hi).2;⟨e,a,b⟩⟩
 rw[fH h1];exact k env' h2
theorem yh{js:List Nat}{fi:FA}{Qi:EN}{xs:List D}(I:Nat→EN→Prop)(hf:Jg js env=Qi)(h:fi (zE Qi)=NC xs)(h0:I 0 Qi)
  (st:∀(k:Nat) x env,xs[k]?=NC x→I k env→i<env.length∧Qs (λr=>∃env',r=.next env'∧I (k+1) env') (gb (env.set i (.fro x)))) (k:∀env',I xs.length env'→Qs Pr (g env')):Qs Pr (aW (Ww js i fi gb) g env):=by
 obtain⟨env',h1,h2⟩:=Eo (i:=i) (g:=gb) I xs Qi 0 h0 λk x e hx hi=>by rw[N9]at hi ⊢;exact⟨(st k x e hx hi).1,let ⟨e,a,b⟩:=(st k x e hx hi).2;⟨e,a,b⟩⟩
 rw[N9]at h2;rw[fH ((aFw hf h).trans h1)];exact k env' h2
theorem aGE{is:List Nat}(h:f (rE env)=NC (.tup ds))(hl:is.length=ds.length)(hi:is.all (λi=>decide (i<env.length))=NF)(k:Qs Pr (g (wH env is ds))):Qs Pr (aW (wI is f) g env):=by
 have:wI is f env=.next (wH env is ds):=by unfold wI;rw[h];dsimp only;rw[if_pos ⟨hl,hi⟩]
 rw[fH this];exact k
theorem oE{n m:Nat}{Pd:D→Prop}(hl:ds.length=m)(h:Qs (λr=>∃d,r=.ret d∧Pd d) (g (ds.map SD.fro++E4 (n-m) SD.no))):∃d,oZ n m g ds=NC d∧Pd d:=by obtain⟨d,h1,h2⟩:=h;exact⟨d,oO hl h1,h2⟩
theorem Es{fs:FA}{e:DE}{n:Nat}(h:fs e=NC [.int (n:Int)])(hn:n≤100000):sO fs e=NC (jO 0 n):=by rw[Ur h (by omega) (by omega),D7]
end
end L2
namespace L2
theorem zO{fi:FA}{fr:List Nat}{fe:FE}{e:DE}{n:Nat}{φ:Nat→D}(h1:fi e=NC (jO 0 n))(hn:n≤1000)(he:∀k:Nat,k<n→fe (NC (.int k)::tW e fr)=NC (φ k)):gU fi fr lG fe e=NC (.lst ((D4 n).map φ)):=by
 refine Cq h1 (by rw[zM];omega) ?_;refine(Zf (c:=λx=>lG (NC x::tW e fr)) (φ:=λx=>match x with | .int i=>φ i.toNat | d=>d) (λ_ _=>rfl) ?_).trans ?_
 rotate_left
 ·congr 1;unfold jO;rw[K7];apply Q9;intro k _;show φ ((0:Int)+(k:Int)).toNat=φ k;rw[f9,D7]
 ·intro x hx;obtain⟨k,hk,rfl⟩:=Hw hx;rw[f9];show _=NC (φ ((k:Int)).toNat);rw[D7];exact he k hk
theorem Et{fi:FA}{fr:List Nat}{fe:FE}{e:DE}{α:Type}{xs:List α}{ψ φ:α→D}(h1:fi e=NC (xs.map ψ))(hn:xs.length≤1000)(he:∀x∈xs,fe (NC (ψ x)::tW e fr)=NC (φ x)):gU fi fr lG fe e=NC (.lst (xs.map φ)):=by
 refine Cq h1 (by rw[B6];omega) ?_;clear h1 hn
 induction xs with
 | nil=>rw[G6,G6];unfold pR;rfl
 | cons x xs ih=>rw[D3];unfold pR;show (NC NF).bind _=_;rw[C4,if_pos U,he x D6,C4,ih λy hy=>he y (C8 _ hy)];rfl
theorem Uu{α:Type} [Inhabited α]:∀(l:List α)(k:Nat)(d:α),k<l.length→(l.getD k d::l.eraseIdx k).Perm l
 | [],k,d,h=>absurd h (by simp)
 | a::l,0,d,_=>by simp
 | a::l,k+1,d,h=>by rw[M3,V3];exact(l8 _ _ _).trans ((Uu l k d (by simpa using h)).cons a)
theorem qC{α:Type}{l:List α}{k:Nat}{x d:α}(h:l[k]?=NC x):l.getD k d=x:=by rw[B8,h];rfl
theorem oR{α:Type}{l:List α}{k:Nat}{d:α}(h:k<l.length):l[k]?=NC (l.getD k d):=by rw[B8,B7 h];rfl
theorem aIb{b:Bool}{f:FE}{l h:FO}{e:DE}{ds:List D}{lo hi:Option Int}(h1:f e=NC (.lst ds))(h2:l e=NC lo)(h3:h e=NC hi)(h4:b=NG∨D.fU (Fw ds lo hi)=NF):fSl b f l h e=NC (.lst (Fw ds lo hi)):=by unfold fSl;rw[h1,h2,h3];dsimp only[C4];rw[if_pos h4]
theorem zP(ns ms:List Int)(h:ns.length+ms.length≤100000):eU (aP ns) (aP ms)=NC (aP (ns++ms)):=by have:=Zg (a:=ns.map D.int) (b:=ms.map D.int) (by rw[WL,cY,cY];rfl) (by rw[B6,B6];exact h);rw[←J3]at this;exact this
end L2


namespace L2
open PySem PySem.Spec PyProof.Rows
section
variable{i j:Nat}{f:FE}{c:FT}{g1 g2 g gb:GS}{env env':EN}{d:D}{ds:List D}{Pr:SR→Prop}
theorem aFz{x:D}(h:ds.getLast?=NC x):dU (.lst ds) (.int (-1))=NC x:=aFx h
theorem Zi{fc:FT}(I:Nat→EN→Prop)(hs:∀n env,I n env→(fc (rE env)=NC NG)∨(fc (rE env)=NC NF∧0<n∧∃env',gb env=.next env'∧I (n-1) env')):∀(fuel n:Nat)(env:EN),n<fuel→I n env→∃env' n',qR fc gb fuel env=.next env'∧I n' env'∧fc (rE env')=NC NG
 | 0,n,env,h,_=>absurd h (by omega)
 | fuel+1,n,env,h,hi=>by
  rcases hs n env hi with q | ⟨q,hn,env',h1,h2⟩
  ·exact⟨env,n,by unfold qR;rw[q],hi,q⟩
  ·obtain⟨e2,n2,a1,a2,a3⟩:=Zi I hs fuel (n-1) env' (by omega) h2;refine⟨e2,n2,?_,a2,a3⟩;unfold qR;rw[q,h1];exact a1
end
end L2
namespace L2
theorem yj{l:List Int}{b:Int}:(F4 b:Key)∈l.map (F4:Int→Key)↔b∈l:=by
 rw[J2];constructor
 ·rintro⟨a,h1,h2⟩;cases h2;exact h1
 ·intro h;exact⟨b,h,U⟩
theorem Cu{l:List Int}{b:Int}(h:b∉l):posK (l.map (F4:Int→Key)) (F4 b)=none:=Ec.mpr λz=>h (yj.mp z)
theorem aFA{i:Nat}{f f':FE}{env:EN}{ks:List Key}{ds:List D}{kd d:D}{k:Key}(h1:env[i]?=NC (.own (.dk ks ds)))(h2:f (rE env)=NC kd)(h3:f' (rE env)=NC d)(h4:Tt kd=NC k)(h5:posK ks k=none)(im:d.jJ=NF)(hl:ks.length<100000):pF i dD f f' env=.next (env.set i (.own (.dk (ks++[k]) (ds++[d])))):=by
 have e1:mL ks k=ks++[k]:=by unfold mL;rw[h5];rfl
 have e2:putD ks ds k d=ds++[d]:=by unfold putD;rw[h5];rfl
 unfold pF dD;rw[h1,h2,h3];dsimp only[gC];rw[h4];dsimp only;rw[if_pos ⟨im,hl⟩,e1,e2];rfl
theorem Zj(l:List Int):D.lst ((l.map (F4:Int→Key)).map kD)=aP l:=by unfold aP;rw[K7];rfl
theorem yl{fc:FT}{gb g:GS}{env:EN}{Pr:SR→Prop}{fuel n:Nat}(I:Nat→EN→Prop)(h0:I n env)(hn:n<fuel)(hs:∀n env,I n env→(fc (rE env)=NC NG)∨(fc (rE env)=NC NF∧0<n∧∃env',gb env=.next env'∧I (n-1) env'))
  (k:∀env' n',I n' env'→fc (rE env')=NC NG→Qs Pr (g env')):Qs Pr (aW (qR fc gb fuel) g env):=by
 obtain⟨env',n',a1,a2,a3⟩:=Zi I hs fuel n env hn h0;rw[fH a1];exact k env' n' a2 a3
end L2
namespace L2
theorem aAX(ns:List Int):QW (ns.map D.int)=NC (ns.map V.int):=by
 induction ns with
 | nil=>unfold QW;rfl
 | cons n ns ih=>rw[D3];unfold QW toV;rw[C4,ih];rfl
theorem aC1(neg:Bool)(i:Int)(ns:List Int):dIn neg (.int i) (aP ns)=NC (.bl (if neg then !decide (i∈ns)else decide (i∈ns))):=by unfold dIn;show (NC (V.int i)).bind _=_;rw[C4];show (NC (ns.map D.int)).bind _=_;rw[C4,aAX,C4,if_pos ⟨U,aAr ns⟩,aES]
theorem JN{ns:List Int}(h:ns.length<64):Rb [aP ns]=NC (aP (sortI ns)):=by show (intsOf (ns.map D.int)).bind _=_;rw[mC,C4,if_pos h]
end L2


namespace L2
open PySem PySem.Spec PyProof.Rows
def Qm(ks:List Int):D:=.dk (ks.map F4) (ks.map λ_=>.bl NF)
theorem aC2(i:Int)(ks:List Int):(posK (ks.map (F4:Int→Key)) (F4 i)).isSome=decide (i∈ks):=by
 by_cases c:i∈ks
 ·rw[decide_eq_true c];cases q:posK (ks.map (F4:Int→Key)) (F4 i)with
  | some j=>rfl
  | none=>exact absurd (yj.mpr c) (Ec.mp q)
 ·rw[decide_eq_false c,Cu c];rfl
theorem Uv(neg:Bool)(i:Int)(ks:List Int):Fv neg (.int i) (Qm ks)=NC (.bl (if neg then !decide (i∈ks)else decide (i∈ks))):=by show NC (D.bl (if neg then !(posK (ks.map (F4:Int→Key)) (F4 i)).isSome else(posK (ks.map (F4:Int→Key)) (F4 i)).isSome))=_;rw[aC2]
def Qn(ks:List Int)(k:Int):List Int:=if k∈ks then ks else ks++[k]
theorem aC3(ks:List Int)(k j:Int):j∈Qn ks k↔j∈ks∨j=k:=by
 unfold Qn;split
 ·rename_i c;exact⟨.inl,λz=>z.elim id λe=>by rw[e];exact c⟩
 ·simp
theorem aC4(ks:List Int)(k:Int):(Qn ks k).length≤ks.length+1:=by
 unfold Qn;split
 ·omega
 ·simp
theorem Zk(k:Key):∀ks:List Int,P9 (λ(k':Key) (d':D)=>if k'=k then D.bl NF else d') (ks.map F4) (ks.map λ_=>D.bl NF)=ks.map λ_=>D.bl NF
 | []=>rfl
 | a::ks=>by
  rw[D3,D3,J6,Zk k ks]
  split<;>rfl
theorem aGF{i:Nat}{f f':FE}{env:EN}{ks:List Int}{k:Int}(h1:env[i]?=NC (.own (Qm ks)))(h2:f (rE env)=NC (.int k))(h3:f' (rE env)=NC (.bl NF))(hl:ks.length<1000):pF i dD f f' env=.next (env.set i (.own (Qm (Qn ks k)))):=by
 unfold pF dD;rw[h1,h2,h3];dsimp only[gC,Qm];show (if D.jJ (.bl NF)=NF∧(ks.map (F4:Int→Key)).length<100000 then _ else _)=_;rw[if_pos ⟨U,by rw[B6];omega⟩];have e1:mL (ks.map (F4:Int→Key)) (F4 k)=(Qn ks k).map F4:=by
  unfold mL Qn;rw[aC2];by_cases c:k∈ks
  ·simp[c]
  ·simp[c]
 have e2:putD (ks.map (F4:Int→Key)) (ks.map λ_=>D.bl NF) (F4 k) (.bl NF)=(Qn ks k).map λ_=>D.bl NF:=by
  unfold putD Qn;rw[aC2];by_cases c:k∈ks
  ·rw[decide_eq_true c,if_pos U,if_pos c,Zk]
  ·rw[decide_eq_false c,if_neg (by decide),if_neg c,J3];rfl
 rw[e1,e2];rfl
theorem yF{fi:FA}{fr:List Nat}{fc:FT}{fe:FE}{e:DE}{ms:List Int}(p:Int→Bool)(φ:Int→D)(h1:fi e=NC (ms.map D.int))(hn:ms.length≤1000)(hc:∀m∈ms,fc (NC (.int m)::tW e fr)=NC (p m))(he:∀m∈ms,p m=NF→fe (NC (.int m)::tW e fr)=NC (φ m)) :
  gU fi fr fc fe e=NC (.lst ((ms.filter p).map φ)):=by
 refine Cq h1 (by rw[B6];omega) ?_;clear h1 hn
 induction ms with
 | nil=>rw[G6];unfold pR;rfl
 | cons m ms ih=>
  have ih:=ih (λy hy=>hc y (C8 _ hy)) λy hy=>he y (C8 _ hy);rw[D3];unfold pR;rw[hc m D6,C4,j7];cases q:p m with
  | true=>rw[if_pos U,if_pos U,he m D6 q,C4,ih];rfl
  | false=>rw[if_neg (by decide),if_neg (by decide)];exact ih
theorem zQ{fi:FA}{fr:List Nat}{fc:FT}{fe:FE}{e:DE}{ms:List Int}(p:Int→Bool)(φ:Int→Int)(h1:fi e=NC (ms.map D.int))(hn:ms.length≤1000)(hc:∀m∈ms,fc (NC (.int m)::tW e fr)=NC (p m))(he:∀m∈ms,p m=NF→fe (NC (.int m)::tW e fr)=NC (.int (φ m))) :
  gU fi fr fc fe e=NC (aP ((ms.filter p).map φ)):=by
 rw[yF p (λm=>.int (φ m)) h1 hn hc he];unfold aP;rw[K7];rfl
theorem dJ{φ:D→Option D}{f:FE}{e:DE}{a d:D}(h1:f e=NC a)(h:φ a=NC d):tL φ f e=NC d:=by unfold tL;rw[h1];exact h
theorem Uw{ns:List Int}(h:ns.length<64):SQ (aP ns)=NC (aP (bc ns)):=by show (intsOf (ns.map D.int)).bind _=_;rw[mC,C4,if_pos h]
theorem Pb(ns:List Int):Mm [aP ns]=NC (dTup ns):=by unfold Mm;dsimp only;rw[show Bf (aP ns)=NC (ns.map D.int)from by unfold aP Bf;rfl,C4,if_pos (cY _)];rfl
theorem jx{ns:List Int}(h:0<ns.length):uw [aP ns]=NC (.int (RM ns)):=by show (intsOf (ns.map D.int)).bind _=_;rw[mC,C4,if_pos h]
theorem WN{α β:Type}(φ:α→β)(l:List α)(lo hi:Option Int):Fw (l.map φ) lo hi=(Fw l lo hi).map φ:=by unfold Fw;rw[B6,←o6,←o0]
theorem WQ{b:Bool}{f:FE}{l h:FO}{e:DE}{ns:List Int}{lo hi:Option Int}(h1:f e=NC (aP ns))(h2:l e=NC lo)(h3:h e=NC hi):fSl b f l h e=NC (aP (Fw ns lo hi)):=by rw[aIb h1 h2 h3 (.inr (by rw[WN];exact cY _)),WN]
theorem aIc{α:Type}(l:List α)(c:Nat):Fw l none (NC (c:Int))=l.take c:=by
 unfold Fw;show (l.drop 0).take (HT.Wm l.length l.length (NC (c:Int))-0)=_;rw[Tf,m7,U6];rcases K4 c l.length with z | z
 ·rw[show min c l.length=c by omega]
 ·rw[show min c l.length=l.length by omega,S7 (C5 _),S7 z]
theorem aC5{α:Type}(l:List α)(a b:Nat):Fw l (NC (a:Int)) (NC (b:Int))=(l.drop a).take (b-a):=by
 unfold Fw;rw[Tf,Tf];refine K1 λk=>?_;rw[g6,V9,g6,V9];rcases K4 a l.length with z | z
 ·rw[show min a l.length=a by omega];by_cases c:k<min b l.length-a
  ·rw[if_pos c,if_pos (by omega)]
  ·rw[if_neg c];by_cases c2:k<b-a
   ·rw[if_pos c2,E2 (by omega)]
   ·rw[if_neg c2]
 ·rw[show min a l.length=l.length by omega,E2 (show l.length≤l.length+k by omega),E2 (show l.length≤a+k by omega)]
  split<;>split<;>rfl
structure tY where
 fP:Int
 place:Int
 thing:List Int
 needs:List Int
 deriving Inhabited
def Bj(c:tY):D:=.tup [.int c.fP,.int c.place,dTup c.thing,dTup c.needs]
def sU(cs:List tY):D:=.lst (cs.map Bj)
theorem jy(c:tY):(Bj c).jJ=NF:=by unfold Bj D.jJ;rw[uM,uM,uM,uM,iR,iR];rfl
theorem aC6(cs:List tY):D.fU (cs.map Bj)=NF:=Kg λd h=>by obtain⟨c,_,rfl⟩:=J2.mp h;exact jy c
abbrev at_(cs:List tY)(k:Nat):tY:=cs.getD k default
theorem Mx{cs:List tY}{k:Nat}(h:k<cs.length):dU (sU cs) (.int k)=NC (Bj (at_ cs k)):=rQ (by omega) (by
 rw[D7,B9,oR (d:=default) h]
 rfl)
theorem JP(c:tY):dU (Bj c) (.int 0)=NC (.int c.fP):=uE (by decide) U
theorem Ux(c:tY):dU (Bj c) (.int 1)=NC (.int c.place):=uE (by decide) U
theorem Cv(c:tY):dU (Bj c) (.int 2)=NC (dTup c.thing):=uE (by decide) U
theorem Kh(c:tY):dU (Bj c) (.int 3)=NC (dTup c.needs):=uE (by decide) U
theorem qD(cs:List tY):kO [sU cs]=NC (.int cs.length):=by show NC (D.int ((cs.map Bj).length:Nat))=_;rw[B6]
def Good(cs:List tY):Prop:=cs.length≤124∧∀k,k<cs.length→(∀m∈(at_ cs k).needs,0≤m∧m<k)∧(at_ cs k).needs.Pairwise (·<·)∧(at_ cs k).needs.length≤9
def chV(c:tY):DV:=.tup [.int c.fP,.int c.place,.tup (c.thing.map DV.int),.tup (c.needs.map DV.int)]
theorem Uy(ns:List Int):iQ (dTup ns)=NC (.tup (ns.map DV.int)):=by unfold dTup iQ;rw[qU];rfl
theorem yo(c:tY):iQ (Bj c)=NC (chV c):=by
 have i1:∀i:Int,iQ (.int i)=NC (.int i):=λi=>by unfold iQ;rfl
 unfold Bj iQ lF;rw[i1,C4];unfold lF;rw[i1,C4];unfold lF;rw[Uy,C4];unfold lF;rw[Uy,C4];unfold lF;rfl
theorem Zm:∀cs:List tY,lF (cs.map Bj)=NC (cs.map chV)
 | []=>by rw[G6];unfold lF;rfl
 | c::cs=>by rw[D3];unfold lF;rw[yo,C4,Zm cs];rfl
theorem WR(c:tY):(chV c).depth≤2:=by
 unfold chV DV.depth dH;have e:∀i:Int,(DV.int i).depth=0:=λi=>by unfold DV.depth;rfl
 have t:∀ns:List Int,(DV.tup (ns.map DV.int)).depth=1:=λns=>by unfold DV.depth;rw[qP]
 rw[e];unfold dH;rw[e];unfold dH;rw[t];unfold dH;rw[t];unfold dH
 decide
theorem Uz:∀cs:List tY,dH (cs.map chV)≤2
 | []=>by rw[G6];unfold dH;decide
 | c::cs=>by rw[D3];unfold dH;have:=WR c;have:=Uz cs;omega
theorem aAY{ds:List D}{xs:List DV}(h:lF ds=NC xs)(hd:dH xs≤32):Tr (.lst ds) (.lst ds)=NC (.bl NG):=by
 have e:iQ (.lst ds)=NC (.lst xs):=by unfold iQ;rw[h];rfl
 unfold Tr toV;dsimp only;rw[e];dsimp only;rw[if_pos hd,pO];rfl
theorem WT(ns ms:List Int):Tr (aP ns) (aP ms)=NC (.bl (!decide (ns=ms))):=by
 have e:∀l:List Int,iQ (aP l)=NC (.lst (l.map DV.int)):=λl=>by unfold aP iQ;rw[qU];rfl
 unfold Tr;rw[e,e];unfold toV;dsimp only;rw[if_pos (by rw[qP];decide)];congr 3;rw[L5,uP,decide_eq_true_iff];constructor
 ·intro z;injection z with z;exact Td.mp z
 ·intro z;rw[z]
end L2
namespace L2
theorem My{f:FE}{e:DE}{i:Int}(h:f e=NC (.int i)):tK f e=NC (NC i):=by unfold tK;rw[h];rfl
theorem aC7(ks:List Int):Tw [Qm ks]=NC (aP ks):=by show NC (D.lst ((ks.map (F4:Int→Key)).map kD))=_;rw[Zj]
theorem vC{cs:List tY}{c:tY}{k:Nat}(h:k<cs.length):at_ (cs++[c]) k=at_ cs k:=by unfold at_;rw[B8,B8,G4 h]
theorem zR(cs:List tY)(c:tY):at_ (cs++[c]) cs.length=c:=by unfold at_;rw[B8,L3 (C5 _)];simp
theorem Zo(cs:List tY)(c:tY):D.lst (cs.map Bj++[Bj c])=sU (cs++[c]):=by unfold sU;rw[J3];rfl
theorem Zq{f:FE}{e:DE}{ns:List Int}(h:f e=NC (dTup ns)):mW f e=NC (ns.map D.int):=aCV h
end L2
namespace L2
theorem Zr(i j:Int):RL [.int i,.int j]=NC (.int (if j > i then j else i)):=rfl
end L2


namespace L2
open PySem PySem.Spec PyProof.Rows
theorem yp{e:DE}{f f':FE}{a b:Bool}(h:f e=NC (.bl a))(k:f' e=NC (.bl b)):Wu f f' e=NC (.bl (a||b)):=by
 unfold Wu;rw[bR h];cases a with
 | true=>rfl
 | false=>exact k
theorem Kl{α:Type}(p:α→Bool)(l:List α):iz [.lst (l.map λx=>D.bl (p x))]=NC (.bl (l.all p)):=by show (Gi (l.map λx=>D.bl (p x))).map _=_;rw[Yr];show NC (D.bl ((l.map p).all id))=_;rw[List.all_map];rfl
end L2


namespace L2
open PySem PySem.Spec PyProof.Rows
theorem qW:∀(n:Nat)(l:List Int),l.Nodup→(∀x∈l,0≤x∧x<(n:Int))→l.length≤n
 | 0,l,_,h=>by
  cases l with
  | nil=>exact C5 _
  | cons a l=>have:=h a D6;omega
 | n+1,l,hn,h=>by
  by_cases c:(n:Int)∈l
  ·have e:=X6 c;have:=qW n (l.erase (n:Int)) (hn.erase _) λx hx=>by obtain⟨h1,h2⟩:=(hn.mem_erase_iff).mp hx;have:=h x h2;omega
   omega
  ·have:=qW n l hn λx hx=>by have:=h x hx;have ne:x≠(n:Int):=λz=>c (by rw[←z];exact hx);omega
   omega
section
variable{i j:Nat}{f f':FE}{c:FT}{g1 g2 g gb:GS}{env env':EN}{d d0 d' r:D}{ds:List D}{Pr:SR→Prop}{v:V}{π:FP}{p:List Step}
theorem mH{n m:Nat}(hl:ds.length=m)(h:g (ds.map SD.fro++E4 (n-m) SD.no)=.ret d):nW n m g ds=NC d:=by unfold nW;rw[if_pos hl,h]
theorem Hy{n m:Nat}(hl:ds.length=m)(h:g (ds.map SD.fro++E4 (n-m) SD.no)=.next env'):nW n m g ds=NC .non:=by unfold nW;rw[if_pos hl,h]
theorem yq{n m:Nat}{Pd:D→Prop}(hl:ds.length=m)(h:Qs (λr=>∃d,r=.ret d∧Pd d) (g (ds.map SD.fro++E4 (n-m) SD.no))):∃d,nW n m g ds=NC d∧Pd d:=by obtain⟨d,h1,h2⟩:=h;exact⟨d,mH hl h1,h2⟩
theorem lJ{n m:Nat}{es:List D}(hl:es.length+1=m)(h:∀v,Qs (UL r d' v) (g (aAO n m d es v))):lQ n m g (d::es)=NC (r,d'):=aCC hl h
theorem yr(h1:env[i]?=NC (.inn v d))(h2:g1 (env.set i (.own d))=.next env')(h3:env'[i]?=NC (.own d')):iW i g1 env=.next (env'.set i (.inn v d')):=by unfold iW;rw[h1];dsimp only;rw[h2];dsimp only;rw[h3]
theorem mR(h1:env[i]?=NC (.inn v d))(h2:g1 (env.set i (.own d))=.next env')(h3:env'[i]?=NC (.own d'))(k:Qs Pr (g (env'.set i (.inn v d')))):Qs Pr (aW (iW i g1) g env):=by rw[fH (yr h1 h2 h3)];exact k
theorem jz(h1:env[i]?=NC (.inn v d))(h2:g1 (env.set i (.own d))=.next env')(h3:env'[i]?=NC (.own d'))(k:Pr (.next (env'.set i (.inn v d')))):Qs Pr (iW i g1 env):=by rw[yr h1 h2 h3];exact k
theorem Cw(h:f (rE env)=NC d):xZ f env=.next env:=by unfold xZ;rw[h]
theorem kh(h:f (rE env)=NC d)(k:Qs Pr (g env)):Qs Pr (aW (xZ f) g env):=by rw[fH (Cw h)];exact k
theorem Va(h1:env[i]?=NC (.own d0))(h2:π (rE env)=NC p)(h3:gC p d0=NC (.lst ds))(h4:f (rE env)=NC d)(hl:ds.length<100000):zH i π f env=.next (env.set i (.own (fG p d0 (.lst (ds++[d]))))):=by unfold zH;rw[h1,h2,h4];dsimp only;rw[h3];dsimp only;rw[if_pos hl]
theorem JQ{k:Int}(h1:env[i]?=NC (.own d0))(h2:π (rE env)=NC p)(h3:gC p d0=NC (.lst ds))(h4:f (rE env)=NC (.int k))(h5:f' (rE env)=NC d)(k0:0≤k)(k1:k<ds.length):wG i π f f' env=.next (env.set i (.own (fG p d0 (.lst (ds.set k.toNat d))))):=by
 unfold wG;rw[h1,h2,h4,h5];dsimp only;rw[h3];dsimp only;have:aq ds.length k=NC k.toNat:=by unfold aq;rw[if_pos k0,if_pos k1]
 rw[this]
theorem zT{ks:List Key}{k:Key}{kd:D}(h1:env[i]?=NC (.own d0))(h2:π (rE env)=NC p)(h3:gC p d0=NC (.dk ks ds))(h4:f (rE env)=NC kd)(h5:Tt kd=NC k)(h6:f' (rE env)=NC d)(im:d.jJ=NF)(hl:ks.length<100000):pF i π f f' env=.next (env.set i (.own (fG p d0 (.dk (mL ks k) (putD ks ds k d))))):=by unfold pF;rw[h1,h2,h4,h6];dsimp only;rw[h3,h5];dsimp only;rw[if_pos ⟨im,hl⟩]
theorem aFB{ks:List (List Key)}{k:List Key}{fk:FK}(h1:env[i]?=NC (.own d0))(h2:π (rE env)=NC p)(h3:gC p d0=NC (.dt ks ds))(h4:fk (rE env)=NC k)(h6:f' (rE env)=NC d)(im:d.jJ=NF)(hl:ks.length<100000):Yz i π fk f' env=.next (env.set i (.own (fG p d0 (.dt (mL ks k) (putD ks ds k d))))):=by unfold Yz;rw[h1,h2,h4,h6];dsimp only;rw[h3];dsimp only;rw[if_pos ⟨im,hl⟩]
theorem aIe{C:A7}{nm:List Str}{x:Str}(h1:env[i]?=NC (.own d0))(h2:π (rE env)=NC p)(h3:gC p d0=NC (.ins C nm ds))(h4:f (rE env)=NC d)(hl:nm.length<900):yD C i π x f env=.next (env.set i (.own (fG p d0 (.ins C (Yx nm ds x d).1 (Yx nm ds x d).2)))):=by unfold yD;rw[h1,h2,h4];dsimp only;rw[h3];dsimp only;rw[if_pos ⟨U,hl⟩]
theorem bY{C:A7}{m:Str}{n:Nat}{F:List D→Option D}{fo:FE}{fs:FA}{dds es:List D}{e:DE}{nm:List Str}(h1:fo e=NC (.ins C nm ds))(hm:m∉nm)(h2:fs e=NC es)(hl:es.length+dds.length+1=n)(h3:F (.ins C nm ds::(es++dds))=NC r):gJ C m n F fo fs dds e=NC r:=by unfold gJ;rw[h1];dsimp only[C4];rw[if_pos ⟨U,hm⟩,h2];dsimp only[C4];rw[if_pos hl];exact h3
theorem lU{C:A7}{m:Str}{F:List D→Option (D×D)}{fs:FA2}{es:List D}{nm:List Str}{back:D→SD}(h1:env[i]?.bind SD.hold=NC (d0,back))(h2:π (rE env)=NC p)(h3:gC p d0=NC (.ins C nm ds))(hm:m∉nm)(h4:fs (rE env) (rE (env.set i .no))=NC es)(h5:F (.ins C nm ds::es)=NC (r,d')):pW C m i π F fs env=NC (r,env.set i (back (fG p d0 d'))):=by unfold pW;rw[h1,h2,h4];dsimp only;rw[h3];dsimp only;rw[if_pos ⟨U,hm⟩,h5];rfl
theorem wK{F:List D→Option (D×D)}{fs:FA2}{es:List D}{back:D→SD}(h1:env[i]?.bind SD.hold=NC (d0,back))(h4:fs (rE env) (rE (env.set i .no))=NC es)(h5:F (d0::es)=NC (r,d')):Qk i F fs env=NC (r,env.set i (back d')):=by unfold Qk;rw[h1,h4];dsimp only;rw[h5];rfl
theorem WW{C:A7}{F:List D→Option (D×D)}{fs:FA}{e:DE}{es:List D}(h1:fs e=NC es)(h2:F (.ins C [] []::es)=NC (.non,d')):TV C F fs e=NC d':=by unfold TV;rw[h1];dsimp only[C4];rw[h2]
theorem cB{fs:FA2}{eF eZ:DE}{es:List D}(h1:f eZ=NC d)(h2:fs eF eZ=NC es):qO f fs eF eZ=NC (d::es):=by unfold qO;rw[h1,h2];rfl
theorem xK{fs:FA2}{eF eZ:DE}{es:List D}(h1:f eF=NC d)(h2:fs eF eZ=NC es):faN f fs eF eZ=NC (d::es):=by unfold faN;rw[h1,h2];rfl
theorem vD{gm:GM}(h:gm env=NC (d,env'))(hi:i<env'.length)(k:Qs Pr (g (env'.set i (.own d)))):Qs Pr (aW (tX i gm) g env):=by
 have:tX i gm env=.next (env'.set i (.own d)):=by unfold tX;rw[h];dsimp only;rw[if_pos hi]
 rw[fH this];exact k
theorem Zt{gm:GM}(h:gm env=NC (d,env')):zJ gm env=.next env':=by unfold zJ;rw[h]
theorem JR{gm:GM}(h:gm env=NC (d,env'))(k:Qs Pr (g env')):Qs Pr (aW (zJ gm) g env):=by rw[fH (Zt h)];exact k
theorem rT{gm:GM}(h:gm env=NC (d,env'))(k:Pr (.rete d env')):Qs Pr (pY gm env):=by
 have:pY gm env=.rete d env':=by unfold pY;rw[h]
 rw[this];exact k
theorem zU(h:env[i]?=NC (.own d))(k:Pr (.rete d (env.set i .no))):Qs Pr (tM i env):=by
 have:tM i env=.rete d (env.set i .no):=by unfold tM;rw[h]
 rw[this];exact k
theorem Mz(h:f (rE env)=NC d):gmN f env=NC (d,env):=by unfold gmN;rw[h];rfl
theorem JS{f1 f2 f3:FE}{e:DE}{a b c:Int}(h1:f1 e=NC (.int a))(h2:f2 e=NC (.int b))(h3:f3 e=NC (.int c)):aAP dLe dLt f1 f2 f3 e=NC (decide (a≤b)&&decide (b<c)):=by
 unfold aAP;rw[h1,h2,h3];dsimp only[C4];rw[JH,C4];by_cases q:a≤b
 ·rw[decide_eq_true q];dsimp only;rw[Ep,C4];simp
 ·rw[decide_eq_false q];simp
theorem Zu{all:List D}(I:Nat→EN→Prop)(hI:∀k env,I k env→env[j]?=NC (.inn v (.lst all))):∀(xs:List D)(n:Nat)(env:EN),I n env→(∀k x env,xs[k]?=NC x→I (n+k) env→i<env.length∧∃fW,g (env.set i (.fro x))=.next fW∧I (n+k+1) fW)→∃fW,Bg j i g v all xs env=.next fW∧I (n+xs.length) fW
 | [],n,env,h,_=>⟨env,by unfold Bg;rw[if_pos (hI _ _ h)],h⟩
 | x::xs,n,env,h,st=>by
  obtain⟨h1,fW,h2,h3⟩:=st 0 x env U h;obtain⟨e3,a1,a2⟩:=Zu I hI xs (n+1) fW h3 λk y e hk hi=>by have:=st (k+1) y e (by simpa using hk) (by rw[show n+(k+1)=n+1+k by omega];exact hi);rw[show n+(k+1)+1=n+1+k+1 by omega]at this;exact this
  refine⟨e3,?_,?_⟩
  ·unfold Bg;rw[if_pos ⟨h1,hI _ _ h⟩,h2];exact a1
  ·rw[F0,show n+(xs.length+1)=n+1+xs.length by omega];exact a2
def lv(ns:List Int)(o:SD):Nat→SD
 | 0=>o
 | k+1=>.fro (.int (ns.getD k 0))
theorem kj{ns:List Int}(env':EN)(h:env[j]?=NC (.own (aP ns)))(h1:env'[j]?=NC (.own (aP ns)))(I:V→Nat→EN→Prop)(h0:∀v,I v 0 (env.set j (.inn v (aP ns))))(hI:∀v k env,I v k env→env[j]?=NC (.inn v (aP ns)))(st:∀v k x env,ns[k]?=NC x→I v k env→i<env.length∧∃fW,gb (env.set i (.fro (.int x)))=.next fW∧I v (k+1) fW)(fin:∀v fW,I v ns.length fW→fW=env'.set j (.inn v (aP ns)))(k:Qs Pr (g env')):Qs Pr (aW (Gm j i gb) g env):=by
 have:Gm j i gb env=.next env':=aCE h h1 λv=>by
  obtain⟨e2,a1,a2⟩:=Zu (i:=i) (g:=gb) (I v) (hI v) (ns.map D.int) 0 _ (h0 v) λk x e hx hi=>by
   rw[N9]at hi ⊢;rw[B9]at hx;cases q:ns[k]? with
   | none=>rw[q]at hx;cases hx
   | some y=>rw[q]at hx;cases hx;exact st v k y e q hi
  rw[N9,B6]at a2;rw[a1,fin v e2 a2]
 rw[fH this];exact k
theorem Eu(neg:Bool)(a:D):Jz neg a .non=NC (.bl (if neg then !a.VH else a.VH)):=rfl
theorem aGG{f g:FE}{e:DE}(h:c e=NC NF)(h2:f e=NC d):fIf c f g e=NC d:=by unfold fIf;rw[h];exact h2
theorem aGH{f g:FE}{e:DE}(h:c e=NC NG)(h2:g e=NC d):fIf c f g e=NC d:=by unfold fIf;rw[h];exact h2
end
end L2


local macro_rules | `(tactic| walk_at "fs")=>`(tactic| exact⟨rfl,rfl,rfl,by decide +kernel,rfl,by decide +kernel,by decide +kernel⟩)
namespace Rs
open PySem L2
def top(i:Nat):AH:=PySem.Challenge.pw_ripestone_k28_leave.main.body.getD i (.Pass ⟨0,0,0,0⟩)
def jH:List Str:=["panes", "asked", "newest", "held", "unsettled"]
def dX:List Str:=["bench", "spots", "string", "loose", "lasts", "comings", "goings"]
abbrev Vb:AH:=top 33
noncomputable def WX:GS:=aW (uV (fB (f2 dLt (aD 1) (fL kO (aB (aD 0) aM)))) (gO (bO (f2 dU (aD 0) (aD 1)))) gH)
 (gO (fC (.int 0)))
noncomputable def mZ:List D→Option D:=oZ 2 2 (WX)
abbrev Nb:AH:=top 37
noncomputable def Zv:GS:=aW (cU 1 (cN 2 mZ (aB (aD 0) (aB (fC (.int 0)) aM))))
 (aW (uV (fB (f2 Ft (f2 gM (f2 pQ (aD 1) (fC (.int 30))) (fC (.int 8))) (fC (.int 1)))) (gO (pP (aB (f2 eU (fC (.int 1)) (f2 gM (aD 1) (fC (.int 8)))) (aB (f2 eU (fC (.int 1)) (f2 gM (f2 pQ (aD 1) (fC (.int 240))) (fC (.int 8)))) aM)))) gH)
 (gO (pP (aB (f2 eU (fC (.int 1)) (f2 gM (aD 1) (fC (.int 5)))) (aB (f2 eU (fC (.int 1)) (f2 gM (f2 pQ (aD 1) (fC (.int 5))) (fC (.int 6)))) aM)))))
noncomputable def yG:List D→Option D:=oZ 2 1 (Zv)
abbrev Nf:AH:=top 36
noncomputable def Zw:GS:=aW (cU 2 (f2 gM (f2 vY (f2 eU (f2 gM (aD 0) (fC (.int 2147483629))) (fC (.int 1))) (f2 eU (fC (.int 48271)) (f2 vY (f2 vY (fC (.int 2)) (aD 1)) (aD 1)))) (fC (.int 2147483629))))
 (gO (f2 gM (f2 vY (aD 2) (aD 2)) (fC (.int 2147483587))))
noncomputable def mJ:List D→Option D:=oZ 3 2 (Zw)
abbrev Hz:AH:=top 38
noncomputable def Vc:GS:=aW (cU 4 (cN 2 mJ (aB (aD 0) (aB (f2 vY (fC (.int 5)) (aD 1)) aM))))
 (aW (cU 5 (bO (f2 dU (kJ (aB (fC (.int 0)) (aB (fC (.int 1)) (aB (fC (.int 2)) (aB (f2 vY (cN 2 mJ (aB (aD 0) (aB (f2 eU (f2 vY (fC (.int 5)) (aD 1)) (fC (.int 1))) aM))) (f2 Jp (fC (.int 10)) (fC (.int 40)))) (aB (Cd (fC (.int 1))) aM)))))) (f2 gM (aD 4) (fC (.int 5))))))
 (aW (cU 6 (fC (.int 0)))
 (aW (uV (fB (f2 Ft (f2 gM (f2 pQ (aD 4) (fC (.int 5))) (fC (.int 2))) (fC (.int 1)))) (cU 6 (f2 eU (fC (.int 1)) (f2 gM (f2 pQ (aD 4) (fC (.int 10))) (fC (.int 9))))) gH)
 (aW (uV (fB (f2 Ft (aD 6) (fC (.int 0)))) (cU 5 (fL aFs (aB (aD 5) aM))) gH)
 (gO (pP (aB (bO (aD 2)) (aB (bO (aD 3)) (aB (bO (f2 dU (kJ (aB (Cd (fC (.int 1))) (aB (fC (.int 0)) (aB (fC (.int 5)) (aB (aD 4) aM))))) (f2 gM (f2 pQ (aD 4) (fC (.int 90))) (fC (.int 4))))) (aB (bO (aD 5)) (aB (bO (aD 6)) aM)))))))))))
noncomputable def qX:List D→Option D:=oZ 7 4 (Vc)
abbrev yH:AH:=top 39
noncomputable def Zx:GS:=aW (wI [1,2] (cN 1 yG (aB (aD 0) aM)))
 (aW (cU 3 (fL Kd (aB (fC (.int 1)) (aB (f2 vY (aD 1) (aD 2)) aM))))
 (aW (cU 4 (kJ (aB (fC (.int 0)) aM)))
 (aW (yC 5 (sO (aB (f2 gM (cN 2 mZ (aB (aD 0) (aB (fC (.int 1)) aM))) (f2 vY (aD 1) (aD 2))) aM)) (Ei 4 3 (f2 gM (cN 2 mJ (aB (cN 2 mZ (aB (aD 0) (aB (fC (.int 1)) aM))) (aB (aD 5) aM))) (fL kO (aB (aD 3) aM)))))
 (aW (cU 6 (gU (sO (aB (aD 1) aM)) [2] lG (gU (sO (aB (aD 1) aM)) [] lG (pP (aB (fC (.int 0)) (aB (fC (.int 0)) (aB (Cd (fC (.int 1))) (aB (Cd (fC (.int 1))) (aB (fC (.int 0)) aM)))))))))
 (aW (cU 7 (cN 2 mZ (aB (aD 0) (aB (fC (.int 2)) aM))))
 (aW (Ww [3] 8 (mW (aD 3)) (wG 6 (vd dD (f2 gM (aD 8) (aD 1))) (f2 pQ (aD 8) (aD 1)) (cN 4 qX (aB (aD 7) (aB (aD 8) (aB (f2 gM (aD 7) (f2 Jp (fC (.int 10)) (fC (.int 9)))) (aB (f2 gM (f2 vY (aD 8) (aD 8)) (f2 vY (aD 1) (aD 2))) aM)))))))
 (aW (cU 9 (f2 gM (aD 7) (f2 Jp (fC (.int 10)) (fC (.int 58)))))
 (aW (yC 5 (sO (aB (fL kO (aB (aD 4) aM)) aM)) (aW (cU 8 (bO (f2 dU (aD 4) (aD 5))))
 (aW (wG 6 (vd dD (f2 gM (aD 8) (aD 1))) (f2 pQ (aD 8) (aD 1)) (cN 4 qX (aB (aD 7) (aB (f2 eU (aD 5) (fC (.int 100))) (aB (aD 9) (aB (f2 dU (f2 eU (aD 4) (kJ (aB (fC (.int 0)) aM))) (f2 eU (aD 5) (fC (.int 1)))) aM))))))
 (cU 9 (f2 eU (f2 eU (aD 9) (fC (.int 1))) (f2 vY (f2 gM (cN 2 mJ (aB (aD 7) (aB (f2 eU (aD 5) (fC (.int 7))) aM))) (fC (.int 3))) (f2 dU (kJ (aB (fC (.int 1)) (aB (f2 Jp (fC (.int 10)) (fC (.int 40))) aM))) (f2 gM (aD 7) (fC (.int 2))))))))))
 (aW (yC 10 (sO (aB (aD 1) aM)) (zH 6 (vd dD (aD 10)) (pP (aB (f2 gM (cN 2 mJ (aB (aD 7) (aB (f2 eU (aD 10) (fC (.int 70))) aM))) (fC (.int 10))) aM))))
 (Oz 6))))))))))
noncomputable def yI:List D→Option D:=oZ 11 1 (Zx)
abbrev vG:AH:=inClass (top 13) 0
noncomputable def Vd(κ:Nat→A7):GS:=aW (iW 0 (yD (κ 0) 0 dD "panes" (gU (mW (aD 1)) [] lG (fL dList (aB (aD 0) aM)))))
 (aW (iW 0 (yD (κ 0) 0 dD "asked" (kJ aM)))
 (aW (iW 0 (yD (κ 0) 0 dD "newest" (fC (.dt [] []))))
 (aW (iW 0 (yD (κ 0) 0 dD "held" (fC (.dk [] []))))
 (iW 0 (yD (κ 0) 0 dD "unsettled" (gU (mW (aD 1)) [] lG (kJ aM)))))))
noncomputable def vH(κ:Nat→A7):List D→Option (D×D):=lQ 2 2 (Vd κ)
abbrev Ve:AH:=top 21
noncomputable def WY:GS:=gO (bO (f2 dU (f2 dU (aD 0) (f2 dU (aD 1) (fC (.int 0)))) (f2 dU (aD 1) (fC (.int 1)))))
noncomputable def Cy:List D→Option D:=oZ 2 2 (WY)
abbrev JT:AH:=top 20
noncomputable def yu:GS:=gO (pP (aB (f2 gM (aD 1) (fL kO (aB (aD 0) aM))) (aB (f2 pQ (aD 1) (fL kO (aB (aD 0) aM))) aM)))
noncomputable def zV:List D→Option D:=oZ 2 2 (yu)
abbrev Ng:AH:=top 22
noncomputable def Zy:GS:=gO (cN 2 Cy (aB (aD 0) (aB (cN 2 zV (aB (aD 0) (aB (aD 1) aM))) aM)))
noncomputable def nM:List D→Option D:=oZ 2 2 (Zy)
abbrev Nh:AH:=top 26
noncomputable def Zz:GS:=aW (cU 1 (fC (.dk [] [])))
 (aW (cU 2 (bO (f2 dU (cN 2 nM (aB (aD 0) (aB (fC (.int (0))) aM))) (fC (.int (1))))))
 (aW (qR (Hh (fB (f2 Tr (aD 2) (fC (.int (0))))) (fB (f2 (Fv NF) (aD 2) (aD 1)))) (aW (pF 1 dD (aD 2) (fC (.bl NF)))
 (cU 2 (bO (f2 dU (cN 2 nM (aB (aD 0) (aB (aD 2) aM))) (fC (.int (1))))))) 400)
 (gO (fL Tw (aB (aD 1) aM)))))
noncomputable def qY:List D→Option D:=oZ 3 1 (Zz)
abbrev Ib:AH:=top 25
noncomputable def Ie:GS:=gO (f2 vY (fL kO (aB (aD 0) aM)) (f2 Mg (fL kO (aB (f2 dU (aD 0) (fC (.int 0))) aM)) (fC (.int 1))))
noncomputable def pB:List D→Option D:=oZ 1 1 (Ie)
abbrev wL:AH:=top 27
noncomputable def Pg:GS:=aW (cU 1 (cN 1 qY (aB (aD 0) aM)))
 (gO (gU (Gj (aB (f2 eU (fC (.int (0))) (fC (.int 1))) (aB (cN 1 pB (aB (aD 0) aM)) aM))) [1] (fB (f2 (dIn NF) (aD 0) (aD 1))) (bO (aD 0))))
noncomputable def sV:List D→Option D:=oZ 2 1 (Pg)
abbrev wM:AH:=inClass (top 30) 0
noncomputable def Cz(κ:Nat→A7):GS:=aW (iW 0 (yD (κ 1) 0 dD "bench" (TV (κ 0) (vH κ) (aB (aD 1) aM))))
 (aW (iW 0 (yD (κ 1) 0 dD "spots" (gU (sO (aB (cN 1 pB (aB (aD 1) aM)) aM)) [1] lG (cN 2 zV (aB (aD 1) (aB (aD 0) aM))))))
 (aW (iW 0 (yD (κ 1) 0 dD "string" (cN 1 qY (aB (aD 1) aM))))
 (aW (iW 0 (yD (κ 1) 0 dD "loose" (cN 1 sV (aB (aD 1) aM))))
 (aW (iW 0 (yD (κ 1) 0 dD "lasts" (fC (.dk [] []))))
 (aW (iW 0 (yD (κ 1) 0 dD "comings" (fC (.dk [] []))))
 (iW 0 (yD (κ 1) 0 dD "goings" (fC (.dk [] [])))))))))
noncomputable def wN(κ:Nat→A7):List D→Option (D×D):=lQ 2 2 (Cz κ)
abbrev Km:AH:=top 40
noncomputable def XC:GS:=aW (cU 1 (fL kO (aB (aD 0) aM)))
 (aW (cU 2 (gU (sO (aB (f2 vY (aD 1) (f2 Mg (fL kO (aB (f2 dU (aD 0) (fC (.int 0))) aM)) (fC (.int 1)))) aM)) [0,1] lG (bO (f2 dU (f2 dU (aD 1) (f2 gM (aD 0) (aD 2))) (f2 pQ (aD 0) (aD 2))))))
 (aW (cU 3 (kJ aM))
 (aW (cU 4 (bO (f2 dU (f2 dU (aD 2) (fC (.int 0))) (fC (.int 1)))))
 (aW (qR (fB (f2 Tr (aD 4) (fC (.int 0)))) (aW (zH 3 dD (bO (aD 4)))
 (cU 4 (bO (f2 dU (f2 dU (aD 2) (aD 4)) (fC (.int 1)))))) 400)
 (VP [.inr "recs", .inr "order", .inr "ins", .inr "outs", .inr "lasts", .inr "due", .inr "panes"] [2,3] (aB (fC (.dk [] [])) (aB (fC (.dk [] [])) (aB (fC (.dk [] [])) (aB (kJ aM) (aB (bO (aD 1)) aM))))))))))
noncomputable def Dc:List D→Option D:=oZ 5 1 (XC)
abbrev xM:AH:=inClass (top 13) 10
noncomputable def Xd(κ:Nat→A7):GS:=gO (fL dList (aB (tL (fO (κ 0) "asked") (aD 0)) aM))
noncomputable def rW(κ:Nat→A7):List D→Option D:=nW 1 1 (Xd κ)
abbrev Ig:AH:=top 32
noncomputable def Vf:GS:=aW (cU 1 (f2 gM (f2 vY (f2 eU (f2 gM (aD 0) (fC (.int 2147483629))) (fC (.int 1))) (fC (.int 48271))) (fC (.int 2147483629))))
 (gO (f2 eU (f2 gM (f2 vY (aD 1) (aD 1)) (fC (.int 2147483587))) (f2 vY (f2 gM (aD 0) (f2 Jp (fC (.int 10)) (fC (.int 50)))) (fC (.int 2147483587)))))
noncomputable def nC:List D→Option D:=oZ 2 1 (Vf)
abbrev tO:AH:=inClass (top 13) 1
noncomputable def Ba(κ:Nat→A7):GS:=uV (xY (aAP dLe dLt (fC (.int 0)) (aD 1) (fL kO (aB (tL (fO (κ 0) "panes") (aD 0)) aM)))) aCy gH
noncomputable def jQ(κ:Nat→A7):List D→Option D:=nW 2 2 (Ba κ)
abbrev zW:AH:=top 6
noncomputable def Vg:GS:=aW (cU 3 (fC (.dk [] [])))
 (aW (Ww [] 4 (mW (aD 2)) (uV (fB (fL iz (aB (gU (mW (f2 dU (f2 dU (aD 0) (aD 4)) (fC (.int (3))))) [1,3] lG (Wu (f2 (Fv NG) (aD 0) (aD 1)) (f2 (Fv NG) (aD 0) (aD 2)))) aM))) (pF 3 dD (aD 4) (fC (.bl NF))) gH))
 (gO (fL Tw (aB (aD 3) aM))))
noncomputable def vI:List D→Option D:=oZ 5 3 (Vg)
abbrev zX:AH:=inClass (top 13) 6
noncomputable def Ko(κ:Nat→A7):GS:=aW (cU 2 (bO (f2 dU (tL (fO (κ 0) "asked") (aD 0)) (aD 1))))
 (aW (iW 0 (wG 0 (vd (Ce (κ 0) "panes" dD) (f2 dU (aD 2) (fC (.int (0))))) (f2 dU (aD 2) (fC (.int (1)))) (bO (f2 dU (aD 2) (fC (.int (2)))))))
 (iW 0 (pF 0 (Ce (κ 0) "held" dD) (aD 1) (fC (.bl NF)))))
noncomputable def uF(κ:Nat→A7):List D→Option (D×D):=lQ 3 2 (Ko κ)
abbrev wO:AH:=inClass (top 13) 7
noncomputable def Ph(κ:Nat→A7):GS:=aW (xZ (gJ (κ 0) "check_pane" 2 (jQ κ) (aD 0) (aB (aD 1) aM) []))
 (aW (cU 3 (cN 3 vI (aB (tL (fO (κ 0) "asked") (aD 0)) (aB (tL (fO (κ 0) "held") (aD 0)) (aB (f2 dU (tL (fO (κ 0) "unsettled") (aD 0)) (aD 1)) aM)))))
 (aW (uV (fB (f2 (Jz NF) (aD 2) (fC .non))) (cU 3 (fSl NF (aD 3) (jb) (tK (fL RL (aB (aD 2) (aB (fC (.int 0)) aM)))))) gH)
 (aW (Gm 3 4 (zJ (pW (κ 0) "strike" 0 dD (uF κ) (λeF eZ=>((qO (aD 4) iY) eF eZ).map (·++[])))))
 (aW (iW 0 (wG 0 (Ce (κ 0) "unsettled" dD) (aD 1) (gU (mW (f2 dU (tL (fO (κ 0) "unsettled") (aD 0)) (aD 1))) [0] (fB (f2 (Fv NF) (aD 0) (tL (fO (κ 0) "held") (aD 1)))) (bO (aD 0)))))
 (tM 3)))))
noncomputable def wQ(κ:Nat→A7):List D→Option (D×D):=lQ 5 3 (Ph κ)
abbrev tQ:AH:=inClass (top 30) 5
noncomputable def Qo(κ:Nat→A7):GS:=gO (f2 vA (tL (fO (κ 1) "comings") (aD 0)) (aD 1))
noncomputable def jR(κ:Nat→A7):List D→Option D:=nW 2 2 (Qo κ)
abbrev tR:AH:=inClass (top 30) 6
noncomputable def Qp(κ:Nat→A7):GS:=gO (f2 vA (tL (fO (κ 1) "goings") (aD 0)) (aD 1))
noncomputable def jT(κ:Nat→A7):List D→Option D:=nW 2 2 (Qp κ)
abbrev qF:AH:=inClass (top 30) 7
noncomputable def Kq(κ:Nat→A7):GS:=gO (f2 vA (tL (fO (κ 1) "lasts") (aD 0)) (aD 1))
noncomputable def iJ(κ:Nat→A7):List D→Option D:=nW 2 2 (Kq κ)
abbrev qZ:AH:=inClass (top 13) 2
noncomputable def yJ(κ:Nat→A7):GS:=aW (xZ (gJ (κ 0) "check_pane" 2 (jQ κ) (aD 0) (aB (aD 1) aM) []))
 (uV (xY (aAP dLe dLt (fC (.int 0)) (aD 2) (fL kO (aB (f2 dU (tL (fO (κ 0) "panes") (aD 0)) (aD 1)) aM)))) aCy gH)
noncomputable def jA(κ:Nat→A7):List D→Option D:=nW 3 3 (yJ κ)
abbrev Ih:AH:=inClass (top 13) 5
noncomputable def Vh(κ:Nat→A7):GS:=aW (xZ (gJ (κ 0) "check_place" 3 (jA κ) (aD 0) (aB (aD 1) (aB (aD 2) aM)) []))
 (aW (uV (fB (Wz NG (Mv (aB (aD 1) (aB (aD 2) aM))) (tL (fO (κ 0) "newest") (aD 0)))) (gO (bO (f2 dU (f2 dU (tL (fO (κ 0) "asked") (aD 0)) (Uk (tL (fO (κ 0) "newest") (aD 0)) (Mv (aB (aD 1) (aB (aD 2) aM))))) (fC (.int (2)))))) gH)
 (gO (bO (f2 dU (f2 dU (tL (fO (κ 0) "panes") (aD 0)) (aD 1)) (aD 2)))))
noncomputable def vJ(κ:Nat→A7):List D→Option D:=nW 3 3 (Vh κ)
abbrev tU:AH:=inClass (top 30) 1
noncomputable def Bb(κ:Nat→A7):GS:=aW (cU 2 (bO (f2 dU (tL (fO (κ 1) "spots") (aD 0)) (aD 1))))
 (gO (gJ (κ 0) "seen" 3 (vJ κ) (tL (fO (κ 1) "bench") (aD 0)) (aB (f2 dU (aD 2) (fC (.int 0))) (aB (f2 dU (aD 2) (fC (.int 1))) aM)) []))
noncomputable def bV(κ:Nat→A7):List D→Option D:=nW 3 2 (Bb κ)
abbrev Ni:AH:=top 34
noncomputable def aAZ:GS:=gO (Ax (Wy "int" (aD 0)) (RB (Wy "bool" (aD 0))))
noncomputable def gQ:List D→Option D:=oZ 1 1 (aAZ)
abbrev Ew:AH:=top 50
noncomputable def BJ(κ:Nat→A7):GS:=aW (cU 3 (kJ (aB (gJ (κ 1) "coming_in" 2 (jR κ) (aD 0) (aB (aD 2) aM) []) (aB (gJ (κ 1) "going_out" 2 (jT κ) (aD 0) (aB (aD 2) aM) []) (aB (gJ (κ 1) "last_change" 2 (iJ κ) (aD 0) (aB (aD 2) aM) []) aM)))))
 (aW (uV (xY (fB (fL iz (aB (gU (mW (aD 3)) [] lG (Wu (f2 (Jz NG) (aD 0) (fC .non)) (cN 1 gQ (aB (aD 0) aM)))) aM)))) (gO (fC (.bl NG))) gH)
 (aW (uV (fB (f2 Tr (aD 3) (kJ (aB (f2 vA (f2 jD (aD 1) (fC (.str "ins"))) (aD 2)) (aB (f2 vA (f2 jD (aD 1) (fC (.str "outs"))) (aD 2)) (aB (f2 vA (f2 jD (aD 1) (fC (.str "lasts"))) (aD 2)) aM)))))) (gO (fC (.bl NG))) gH)
 (gO (f2 Ft (gJ (κ 1) "record_of" 2 (bV κ) (aD 0) (aB (aD 2) aM) []) (f2 dU (f2 jD (aD 1) (fC (.str "recs"))) (aD 2))))))
noncomputable def pI(κ:Nat→A7):List D→Option D:=oZ 4 3 (BJ κ)
abbrev Dd:AH:=top 47
noncomputable def Pj:GS:=aW (cU 2 (kJ aM))
 (aW (uV (fB (f2 dGt (aD 1) (fC (.int 0)))) (aW (cU 3 (f2 pQ (aD 0) (fC (.int 3))))
 (yC 4 (sO (aB (f2 gM (aD 0) (fC (.int 3))) aM)) (aW (zH 2 dD (f2 gM (aD 3) (aD 1)))
 (cU 3 (f2 pQ (aD 3) (aD 1)))))) gH)
 (Oz 2))
noncomputable def sW:List D→Option D:=oZ 5 2 (Pj)
abbrev wR:AH:=top 41
noncomputable def Pk:GS:=aW (cU 4 (fL kO (aB (f2 jD (aD 0) (fC (.str "due"))) aM)))
 (aW (cU 5 (gU (mW (f2 eU (aD 3) (kJ (aB (f2 vA (f2 jD (aD 0) (fC (.str "lasts"))) (aD 1)) aM)))) [] (fB (f2 (Jz NF) (aD 0) (fC .non))) (bO (aD 0))))
 (aW (iW 0 (zH 0 (JF dD (fC (.str "due"))) (pP (aB (f2 gM (aD 1) (f2 jD (aD 0) (fC (.str "panes")))) (aB (f2 pQ (aD 1) (f2 jD (aD 0) (fC (.str "panes")))) (aB (bO (aD 2)) (aB (fL Mm (aB (tL SQ (aD 5)) aM)) aM)))))))
 (aW (iW 0 (wG 0 (JF dD (fC (.str "recs"))) (aD 1) (bO (aD 2))))
 (aW (iW 0 (pF 0 (JF dD (fC (.str "lasts"))) (aD 1) (aD 4)))
 (tM 4)))))
noncomputable def lX:List D→Option (D×D):=lQ 6 4 (Pk)
abbrev De:AH:=top 43
noncomputable def Pn:GS:=aW (cU 4 (bO (f2 dU (f2 jD (aD 0) (fC (.str "recs"))) (aD 1))))
 (pY (Qk 0 lX (qO (aD 1) (qO (pP (aB (bO (f2 dU (aD 4) (fC (.int 0)))) (aB (bO (aD 2)) (aB (bO (f2 dU (aD 4) (fC (.int 2)))) (aB (bO (f2 dU (aD 4) (fC (.int 3)))) (aB (bO (f2 dU (aD 4) (fC (.int 4)))) aM)))))) (faN (f2 eU (aD 3) (kJ (aB (f2 vA (f2 jD (aD 0) (fC (.str "ins"))) (aD 1)) aM))) iY)))))
noncomputable def nD:List D→Option (D×D):=lQ 5 4 (Pn)
abbrev Vi:AH:=top 45
noncomputable def XD:GS:=aW (cU 3 (bO (f2 dU (f2 jD (aD 0) (fC (.str "order"))) (aD 1))))
 (aW (cU 4 (bO (f2 dU (f2 eU (kJ (aB (fC (.int 0)) aM)) (f2 jD (aD 0) (fC (.str "order")))) (aD 1))))
 (aW (tX 5 (Qk 0 nD (qO (aD 4) (faN (bO (f2 dU (f2 dU (f2 jD (aD 0) (fC (.str "recs"))) (aD 3)) (fC (.int 1)))) (faN (f2 eU (kJ (aB (f2 vA (f2 jD (aD 0) (fC (.str "lasts"))) (aD 3)) aM)) (aD 2)) iY)))))
 (aW (iW 0 (pF 0 (JF dD (fC (.str "outs"))) (aD 3) (aD 5)))
 (aW (iW 0 (Ze 0 (JF dD (fC (.str "order"))) (aD 1)))
 (tM 5)))))
noncomputable def Kr:List D→Option (D×D):=lQ 6 3 (XD)
abbrev tV:AH:=inClass (top 30) 9
noncomputable def Qq(κ:Nat→A7):GS:=gO (bO (f2 dU (f2 eU (kJ (aB (fC (.int (0))) aM)) (tL (fO (κ 1) "string") (aD 0))) (aD 1)))
noncomputable def jU(κ:Nat→A7):List D→Option D:=nW 2 2 (Qq κ)
abbrev qG:AH:=inClass (top 13) 3
noncomputable def wU(κ:Nat→A7):GS:=uV (xY (aAP dLe dLt (fC (.int 0)) (aD 1) (fL kO (aB (tL (fO (κ 0) "asked") (aD 0)) aM)))) aCy gH
noncomputable def eG(κ:Nat→A7):List D→Option D:=nW 2 2 (wU κ)
abbrev Nj:AH:=inClass (top 13) 4
noncomputable def BK(κ:Nat→A7):GS:=aW (xZ (gJ (κ 0) "check_place" 3 (jA κ) (aD 0) (aB (aD 1) (aB (aD 2) aM)) []))
 (aW (cU 5 (fIf (fB (f2 (Jz NG) (aD 4) (fC .non))) (kJ aM) (fL dList (aB (aD 4) aM))))
 (aW (Gm 5 6 (xZ (gJ (κ 0) "check_change" 2 (eG κ) (aD 0) (aB (aD 6) aM) [])))
 (aW (uV (fB (Wz NG (Mv (aB (aD 1) (aB (aD 2) aM))) (tL (fO (κ 0) "newest") (aD 0)))) (zH 5 dD (Uk (tL (fO (κ 0) "newest") (aD 0)) (Mv (aB (aD 1) (aB (aD 2) aM))))) gH)
 (aW (cU 7 (fL kO (aB (tL (fO (κ 0) "asked") (aD 0)) aM)))
 (aW (iW 0 (zH 0 (Ce (κ 0) "asked" dD) (pP (aB (bO (aD 1)) (aB (bO (aD 2)) (aB (bO (aD 3)) (aB (fL Mm (aB (tL SQ (aD 5)) aM)) aM)))))))
 (aW (iW 0 (Yz 0 (Ce (κ 0) "newest" dD) (Mv (aB (aD 1) (aB (aD 2) aM))) (aD 7)))
 (aW (iW 0 (zH 0 (vd (Ce (κ 0) "unsettled" dD) (aD 1)) (bO (aD 7))))
 (tM 7))))))))
noncomputable def Ex(κ:Nat→A7):List D→Option (D×D):=lQ 8 5 (BK κ)
abbrev JV:AH:=top 29
noncomputable def aIf:GS:=gO (gU (mW (aD 0)) [] (fB (f2 (Jz NF) (aD 0) (fC .non))) (bO (aD 0)))
noncomputable def JW:List D→Option D:=oZ 1 1 (aIf)
abbrev zY:AH:=inClass (top 30) 10
noncomputable def Ks(κ:Nat→A7):GS:=aW (cU 4 (bO (f2 dU (tL (fO (κ 1) "spots") (aD 0)) (aD 1))))
 (aW (tX 5 (pW (κ 0) "put" 0 (Ce (κ 1) "bench" dD) (Ex κ) (λeF eZ=>((qO (f2 dU (aD 4) (fC (.int 0))) (qO (f2 dU (aD 4) (fC (.int 1))) (qO (aD 2) (qO (cN 1 JW (aB (aD 3) aM)) iY)))) eF eZ).map (·++[]))))
 (aW (iW 0 (pF 0 (Ce (κ 1) "lasts" dD) (aD 1) (aD 5)))
 (tM 5)))
noncomputable def nO(κ:Nat→A7):List D→Option (D×D):=lQ 6 4 (Ks κ)
abbrev rA:AH:=inClass (top 30) 11
noncomputable def yK(κ:Nat→A7):GS:=pY (pW (κ 1) "write" 0 dD (nO κ) (λeF eZ=>((qO (aD 1) (qO (aD 2) (faN (f2 eU (kJ (aB (gJ (κ 1) "coming_in" 2 (jR κ) (aD 0) (aB (aD 1) aM) []) aM)) (aD 3)) iY))) eF eZ).map (·++[])))
noncomputable def gR(κ:Nat→A7):List D→Option (D×D):=lQ 4 4 (yK κ)
abbrev Df:AH:=inClass (top 30) 12
noncomputable def Pq(κ:Nat→A7):GS:=aW (cU 4 (gJ (κ 1) "record_of" 2 (bV κ) (aD 0) (aB (aD 1) aM) []))
 (pY (pW (κ 1) "write_tied" 0 dD (gR κ) (λeF eZ=>((qO (aD 1) (qO (pP (aB (bO (f2 dU (aD 4) (fC (.int (0))))) (aB (bO (aD 2)) (aB (bO (f2 dU (aD 4) (fC (.int (2))))) (aB (bO (f2 dU (aD 4) (fC (.int (3))))) (aB (bO (f2 dU (aD 4) (fC (.int (4))))) aM)))))) (qO (aD 3) iY))) eF eZ).map (·++[]))))
noncomputable def nF(κ:Nat→A7):List D→Option (D×D):=lQ 5 4 (Pq κ)
abbrev oF:AH:=inClass (top 30) 8
noncomputable def tZ(κ:Nat→A7):GS:=aW (cU 2 (fIf (fB (f2 (Jz NG) (aD 1) (fC .non))) (kJ aM) (fL dList (aB (aD 1) aM))))
 (aW (Gm 2 3 (xZ (gJ (κ 0) "check_change" 2 (eG κ) (tL (fO (κ 1) "bench") (aD 0)) (aB (aD 3) aM) [])))
 (Oz 2))
noncomputable def cJ(κ:Nat→A7):List D→Option D:=nW 4 2 (tZ κ)
abbrev zZ:AH:=inClass (top 30) 15
noncomputable def Ku(κ:Nat→A7):GS:=aW (cU 3 (gJ (κ 1) "box_ahead" 2 (jU κ) (aD 0) (aB (f2 Uo (tL (fO (κ 1) "string") (aD 0)) (aD 1)) aM) []))
 (aW (cU 4 (f2 eU (kJ (aB (gJ (κ 1) "last_change" 2 (iJ κ) (aD 0) (aB (aD 1) aM) []) aM)) (gJ (κ 1) "further_needs" 2 (cJ κ) (aD 0) (aB (aD 2) aM) [])))
 (aW (tX 5 (pW (κ 1) "link" 0 dD (nF κ) (λeF eZ=>((qO (aD 3) (faN (bO (f2 dU (gJ (κ 1) "record_of" 2 (bV κ) (aD 0) (aB (aD 1) aM) []) (fC (.int (1))))) (qO (aD 4) iY))) eF eZ).map (·++[]))))
 (aW (iW 0 (jt 0 (Ce (κ 1) "string" dD) (aD 1)))
 (aW (iW 0 (zH 0 (Ce (κ 1) "loose" dD) (bO (aD 1))))
 (aW (iW 0 (pF 0 (Ce (κ 1) "goings" dD) (aD 1) (aD 5)))
 (tM 5))))))
noncomputable def nP(κ:Nat→A7):List D→Option (D×D):=lQ 6 3 (Ku κ)
abbrev Nk:AH:=top 51
noncomputable def BL(κ:Nat→A7):GS:=aW (cU 4 (fL dList (aB (aD 2) aM)))
 (aW (uV (Hh (fB (f2 Ft (aD 4) (kJ aM))) (fB (f2 Ft (aD 3) (fC (.int 0))))) (pY (pW (κ 1) "leave" 0 dD (nP κ) (λeF eZ=>((qO (aD 1) iY) eF eZ).map (·++[.non])))) gH)
 (aW (tX 5 (pW (κ 1) "leave" 0 dD (nP κ) (λeF eZ=>((qO (aD 1) (qO (aD 4) iY)) eF eZ).map (·++[]))))
 (aW (uV (fB (f2 Tr (aD 4) (aD 2))) (pY (gmN (fC .non))) gH)
 (aW (zH 4 dD (fC (.int 0)))
 (tM 5)))))
noncomputable def Ey(κ:Nat→A7):List D→Option (D×D):=lQ 6 4 (BL κ)
abbrev Aa:AH:=top 48
noncomputable def Vj:GS:=aW (uV (fOr (xY (fB (Wy "tuple" (aD 0)))) (fOr (fB (f2 Tr (fL kO (aB (aD 0) aM)) (fC (.int 4)))) (fOr (xY (fB (cN 1 gQ (aB (f2 dU (aD 0) (fC (.int 0))) aM)))) (xY (fB (cN 1 gQ (aB (f2 dU (aD 0) (fC (.int 1))) aM))))))) (gO (fC (.bl NG))) gH)
 (aW (uV (fOr (xY (fB (Wy "tuple" (f2 dU (aD 0) (fC (.int 2)))))) (xY (fB (Wy "tuple" (f2 dU (aD 0) (fC (.int 3))))))) (gO (fC (.bl NG))) gH)
 (gO (Ax (fL iz (aB (gU (mW (f2 Yu (f2 dU (aD 0) (fC (.int 2))) (f2 dU (aD 0) (fC (.int 3))))) [] lG (cN 1 gQ (aB (aD 0) aM))) aM)) (f2 Ft (aD 0) (aD 1)))))
noncomputable def vK:List D→Option D:=oZ 2 2 (Vj)
abbrev wV:AH:=top 35
noncomputable def XF:GS:=gO (Ax (Wy "list" (aD 0)) (fL iz (aB (gU (mW (aD 0)) [] lG (cN 1 gQ (aB (aD 0) aM))) aM)))
noncomputable def sX:List D→Option D:=oZ 1 1 (XF)
abbrev Ab:AH:=inClass (top 30) 2
noncomputable def JX(κ:Nat→A7):GS:=gO (fL dList (aB (tL (fO (κ 1) "string") (aD 0)) aM))
noncomputable def qH(κ:Nat→A7):List D→Option D:=nW 1 1 (JX κ)
abbrev Dg:AH:=inClass (top 30) 3
noncomputable def XH(κ:Nat→A7):GS:=gO (fL Rb (aB (tL (fO (κ 1) "loose") (aD 0)) aM))
noncomputable def sY(κ:Nat→A7):List D→Option D:=nW 1 1 (XH κ)
abbrev Kv:AH:=top 42
noncomputable def XQ:GS:=aW (cU 1 (fC (.dk [] [])))
 (aW (Ww [] 2 (mW (f2 jD (aD 0) (fC (.str "order")))) (pF 1 dD (aD 2) (fC (.bl NF))))
 (gO (gU (Gj (aB (fC (.int 1)) (aB (fL kO (aB (f2 jD (aD 0) (fC (.str "recs"))) aM)) aM))) [1] (fB (f2 (Fv NF) (aD 0) (aD 1))) (bO (aD 0)))))
noncomputable def qI:List D→Option D:=oZ 3 1 (XQ)
abbrev Ac:AH:=inClass (top 13) 9
noncomputable def Kw(κ:Nat→A7):GS:=aW (xZ (gJ (κ 0) "check_change" 2 (eG κ) (aD 0) (aB (aD 1) aM) []))
 (gO (bO (f2 dU (tL (fO (κ 0) "asked") (aD 0)) (aD 1))))
noncomputable def uG(κ:Nat→A7):List D→Option D:=nW 2 2 (Kw κ)
abbrev Vk:AH:=top 49
noncomputable def XS(κ:Nat→A7):GS:=aW (yC 3 (Gj (aB (aD 2) (aB (fL kO (aB (f2 jD (aD 1) (fC (.str "due"))) aM)) aM))) (uV (xY (fB (cN 2 vK (aB (gJ (κ 0) "change" 2 (uG κ) (tL (fO (κ 1) "bench") (aD 0)) (aB (aD 3) aM) []) (aB (f2 dU (f2 jD (aD 1) (fC (.str "due"))) (aD 3)) aM))))) (gO (fC (.bl NG))) gH))
 (aW (uV (fOr (xY (fB (cN 1 sX (aB (gJ (κ 1) "order" 1 (qH κ) (aD 0) aM []) aM)))) (xY (fB (cN 1 sX (aB (gJ (κ 1) "free" 1 (sY κ) (aD 0) aM []) aM))))) (gO (fC (.bl NG))) gH)
 (gO (Ax (f2 Ft (gJ (κ 1) "order" 1 (qH κ) (aD 0) aM []) (f2 jD (aD 1) (fC (.str "order")))) (f2 Ft (gJ (κ 1) "free" 1 (sY κ) (aD 0) aM []) (cN 1 qI (aB (aD 1) aM))))))
noncomputable def vL(κ:Nat→A7):List D→Option D:=oZ 4 3 (XS κ)
abbrev Vl:AH:=top 52
noncomputable def Vm(κ:Nat→A7):GS:=aW (cU 3 (fL kO (aB (f2 jD (aD 1) (fC (.str "due"))) aM)))
 (aW (cU 4 (f2 gM (aD 2) (fL kO (aB (f2 jD (aD 1) (fC (.str "order"))) aM))))
 (aW (cU 5 (f2 pQ (aD 2) (fL kO (aB (f2 jD (aD 1) (fC (.str "order"))) aM))))
 (aW (cU 6 (bO (f2 dU (f2 jD (aD 1) (fC (.str "order"))) (aD 4))))
 (aW (cU 7 (bO (f2 dU (f2 eU (kJ (aB (fC (.int 0)) aM)) (f2 jD (aD 1) (fC (.str "order")))) (aD 4))))
 (aW (cU 8 (cN 2 sW (aB (f2 pQ (aD 5) (fC (.int 2))) (aB (aD 3) aM))))
 (aW (tX 9 (Qk 1 Kr (qO (aD 4) (qO (aD 8) iY))))
 (aW (tX 10 (Qk 0 (Ey κ) (qO (aD 6) (qO (aD 8) (qO (f2 gM (aD 5) (fC (.int 2))) iY)))))
 (aW (uV (fOr (xY (fB (cN 1 gQ (aB (aD 10) aM)))) (fOr (fB (f2 Tr (aD 10) (aD 9))) (xY (fB (cN 3 (vL κ) (aB (aD 0) (aB (aD 1) (aB (aD 3) aM)))))))) (pY (gmN (fC (.bl NG)))) gH)
 (pY (gmN (Ax (cN 3 (pI κ) (aB (aD 0) (aB (aD 1) (aB (aD 6) aM)))) (cN 3 (pI κ) (aB (aD 0) (aB (aD 1) (aB (aD 7) aM)))))))))))))))
noncomputable def Dh(κ:Nat→A7):List D→Option (D×List D):=Pa 11 [NF,NF,NG] (Vm κ)
abbrev vM:AH:=inClass (top 30) 14
noncomputable def Di(κ:Nat→A7):GS:=aW (cU 6 (gJ (κ 1) "record_of" 2 (bV κ) (aD 0) (aB (aD 1) aM) []))
 (pY (pW (κ 1) "write_tied" 0 dD (gR κ) (λeF eZ=>((qO (aD 1) (qO (pP (aB (bO (f2 dU (aD 6) (fC (.int (0))))) (aB (bO (f2 dU (aD 6) (fC (.int (1))))) (aB (bO (aD 2)) (aB (bO (aD 3)) (aB (bO (aD 4)) aM)))))) (faN (gJ (κ 1) "further_needs" 2 (cJ κ) (aD 0) (aB (aD 5) aM) []) iY))) eF eZ).map (·++[]))))
noncomputable def qJ(κ:Nat→A7):List D→Option (D×D):=lQ 7 6 (Di κ)
abbrev Ro:AH:=top 46
noncomputable def yw:GS:=aW (cU 3 (gU (mW (f2 jD (aD 0) (fC (.str "order")))) [0] lG (bO (f2 dU (f2 dU (f2 jD (aD 1) (fC (.str "recs"))) (aD 0)) (fC (.int 0))))))
 (aW (uV (fB (f2 Ft (aD 3) (kJ aM))) (gO (pP (aB (f2 gM (aD 2) (f2 Jp (fC (.int 10)) (fC (.int 58)))) (aB (fC (.int 0)) aM)))) gH)
 (aW (uV (fB (f2 Ft (aD 1) (fC (.int 0)))) (gO (pP (aB (f2 Mg (f2 Mg (f2 dU (aD 3) (fC (.int 0))) (fC (.int 1))) (f2 gM (aD 2) (f2 Jp (fC (.int 10)) (fC (.int 50))))) (aB (fC (.int 0)) aM)))) gH)
 (aW (uV (Hh (fB (f2 dLt (aD 1) (fL kO (aB (aD 3) aM)))) (fB (f2 dGt (f2 Mg (f2 dU (aD 3) (aD 1)) (f2 dU (aD 3) (f2 Mg (aD 1) (fC (.int 1))))) (fC (.int 1))))) (gO (pP (aB (f2 eU (f2 eU (f2 dU (aD 3) (f2 Mg (aD 1) (fC (.int 1)))) (fC (.int 1))) (f2 gM (aD 2) (f2 Mg (f2 Mg (f2 dU (aD 3) (aD 1)) (f2 dU (aD 3) (f2 Mg (aD 1) (fC (.int 1))))) (fC (.int 1))))) (aB (bO (aD 1)) aM)))) gH)
 (gO (pP (aB (f2 eU (f2 eU (f2 dU (aD 3) (Cd (fC (.int 1)))) (fC (.int 1))) (f2 gM (aD 2) (f2 Jp (fC (.int 10)) (fC (.int 50))))) (aB (fL kO (aB (aD 3) aM)) aM)))))))
noncomputable def Ky:List D→Option D:=oZ 4 3 (yw)
abbrev Dj:AH:=top 44
noncomputable def Pu:GS:=aW (cU 4 (bO (f2 dU (cN 1 qI (aB (aD 0) aM)) (fC (.int 0)))))
 (aW (cU 5 (bO (f2 dU (f2 eU (kJ (aB (fC (.int 0)) aM)) (f2 jD (aD 0) (fC (.str "order")))) (aD 1))))
 (aW (cU 6 (pP (aB (bO (f2 dU (aD 2) (fC (.int 0)))) (aB (bO (f2 dU (f2 dU (f2 jD (aD 0) (fC (.str "recs"))) (aD 5)) (fC (.int 1)))) (aB (bO (f2 dU (aD 2) (fC (.int 1)))) (aB (bO (f2 dU (aD 2) (fC (.int 2)))) (aB (bO (f2 dU (aD 2) (fC (.int 3)))) aM)))))))
 (aW (tX 7 (Qk 0 lX (qO (aD 4) (qO (aD 6) (faN (kJ (aB (f2 vA (f2 jD (aD 0) (fC (.str "outs"))) (aD 4)) aM)) iY)))))
 (aW (tX 8 (Qk 0 nD (qO (aD 5) (qO (aD 4) (qO (f2 eU (kJ (aB (aD 7) aM)) (aD 3)) iY)))))
 (aW (iW 0 (pF 0 (JF dD (fC (.str "ins"))) (aD 4) (aD 8)))
 (aW (iW 0 (jr 0 (JF dD (fC (.str "order"))) (aD 1) (aD 4)))
 (pY (gmN (pP (aB (bO (aD 4)) (aB (bO (aD 8)) aM)))))))))))
noncomputable def wW:List D→Option (D×D):=lQ 9 4 (Pu)
abbrev uH:AH:=inClass (top 30) 13
noncomputable def Kz(κ:Nat→A7):GS:=aW (uV (fB (f2 Ft (fL kO (aB (tL (fO (κ 1) "loose") (aD 0)) aM)) (fC (.int 0)))) aCy gH)
 (aW (cU 6 (gJ (κ 1) "further_needs" 2 (cJ κ) (aD 0) (aB (aD 5) aM) []))
 (aW (cU 7 (fL kO (aB (gU (mW (tL (fO (κ 1) "string") (aD 0))) [0,1] (fB (f2 dLt (f2 dU (gJ (κ 1) "record_of" 2 (bV κ) (aD 1) (aB (aD 0) aM) []) (fC (.int (0)))) (aD 2))) (bO (aD 0))) aM)))
 (aW (cU 8 (gJ (κ 1) "box_ahead" 2 (jU κ) (aD 0) (aB (aD 7) aM) []))
 (aW (cU 9 (fL uw (aB (tL (fO (κ 1) "loose") (aD 0)) aM)))
 (aW (tX 10 (pW (κ 1) "write" 0 dD (nO κ) (λeF eZ=>((qO (aD 9) (faN (pP (aB (bO (aD 1)) (aB (bO (f2 dU (gJ (κ 1) "record_of" 2 (bV κ) (aD 0) (aB (aD 8) aM) []) (fC (.int (1))))) (aB (bO (aD 2)) (aB (bO (aD 3)) (aB (bO (aD 4)) aM)))))) (faN (kJ (aB (gJ (κ 1) "going_out" 2 (jT κ) (aD 0) (aB (aD 9) aM) []) aM)) iY))) eF eZ).map (·++[]))))
 (aW (tX 11 (pW (κ 1) "link" 0 dD (nF κ) (λeF eZ=>((qO (aD 8) (qO (aD 9) (qO (f2 eU (kJ (aB (aD 10) aM)) (aD 6)) iY))) eF eZ).map (·++[]))))
 (aW (iW 0 (jr 0 (Ce (κ 1) "string" dD) (aD 7) (aD 9)))
 (aW (iW 0 (jt 0 (Ce (κ 1) "loose" dD) (aD 9)))
 (aW (iW 0 (pF 0 (Ce (κ 1) "comings" dD) (aD 9) (aD 11)))
 (pY (gmN (pP (aB (bO (aD 9)) (aB (bO (aD 11)) aM))))))))))))))
noncomputable def qK(κ:Nat→A7):List D→Option (D×D):=lQ 12 6 (Kz κ)
abbrev Nm:AH:=top 53
noncomputable def rB(κ:Nat→A7):GS:=aW (cU 3 (fL kO (aB (f2 jD (aD 1) (fC (.str "due"))) aM)))
 (aW (uV (Hh (fB (f2 Ft (f2 gM (aD 2) (fC (.int 3))) (fC (.int 0)))) (fB (f2 Tr (f2 jD (aD 1) (fC (.str "order"))) (kJ aM)))) (aW (cU 4 (bO (f2 dU (f2 jD (aD 1) (fC (.str "order"))) (f2 gM (f2 pQ (aD 2) (fC (.int 3))) (fL kO (aB (f2 jD (aD 1) (fC (.str "order"))) aM))))))
 (aW (cU 5 (bO (f2 dU (f2 jD (aD 1) (fC (.str "recs"))) (aD 4))))
 (aW (zJ (Qk 1 lX (qO (aD 4) (qO (pP (aB (bO (f2 dU (aD 5) (fC (.int 0)))) (aB (bO (f2 dU (aD 5) (fC (.int 1)))) (aB (Cd (fC (.int 1))) (aB (f2 gM (aD 2) (fC (.int 5))) (aB (fC (.int 0)) aM)))))) (faN (kJ (aB (f2 vA (f2 jD (aD 1) (fC (.str "ins"))) (aD 4)) aM)) iY)))))
 (zJ (pW (κ 1) "rewrite" 0 dD (qJ κ) (λeF eZ=>((qO (aD 4) (qO (Cd (fC (.int 1))) (qO (f2 gM (aD 2) (fC (.int 5))) (qO (fC (.int 0)) iY)))) eF eZ).map (·++[.non]))))))) (uV (fB (f2 Tr (cN 1 qI (aB (aD 1) aM)) (kJ aM))) (aW (wI [6,7] (cN 3 Ky (aB (aD 1) (aB (f2 gM (aD 2) (f2 eU (fL kO (aB (f2 jD (aD 1) (fC (.str "order"))) aM)) (fC (.int 1)))) (aB (f2 pQ (aD 2) (fC (.int 5))) aM)))))
 (aW (tX 8 (Qk 1 wW (qO (aD 7) (qO (pP (aB (bO (aD 6)) (aB (Cd (fC (.int 1))) (aB (f2 gM (aD 2) (fC (.int 7))) (aB (fC (.int 0)) aM))))) (qO (kJ aM) iY)))))
 (TY (gbV (aCA Tr (pW (κ 1) "enter" 0 dD (qK κ) (λeF eZ=>((qO (aD 6) (qO (Cd (fC (.int 1))) (qO (f2 gM (aD 2) (fC (.int 7))) (qO (fC (.int 0)) iY)))) eF eZ).map (·++[.non]))) (aD 8))) (pY (gmN (fC (.bl NG)))) gH))) gH))
 (pY (gmN (cN 3 (vL κ) (aB (aD 0) (aB (aD 1) (aB (aD 3) aM)))))))
noncomputable def yL(κ:Nat→A7):List D→Option (D×List D):=Pa 9 [NF,NF,NG] (rB κ)
abbrev aC8:AH:=top 54
noncomputable def aJU(κ:Nat→A7):GS:=aW (cU 1 (cN 1 yI (aB (aD 0) aM)))
 (aW (cU 2 (TV (κ 1) (wN κ) (aB (gU (mW (aD 1)) [] lG (fL dList (aB (aD 0) aM))) aM)))
 (aW (cU 3 (cN 1 Dc (aB (aD 1) aM)))
 (aW (Ww [] 4 (mW (gU (mW (fSl NG (aD 0) (tK (fC (.int 3))) (tK (fC (.int 63))))) [] lG (cN 1 nC (aB (aD 0) aM)))) (uV (fB (f2 Ft (f2 gM (aD 4) (fC (.int 8))) (fC (.int 7)))) (aW (zJ (pW (κ 0) "carve" 2 (Ce (κ 1) "bench" dD) (wQ κ) (λeF eZ=>((qO (f2 gM (f2 pQ (aD 4) (fC (.int 8))) (fL kO (aB (aD 1) aM))) iY) eF eZ).map (·++[.non]))))
 (uV (xY (fB (cN 3 (pI κ) (aB (aD 2) (aB (aD 3) (aB (f2 gM (f2 pQ (aD 4) (fC (.int 64))) (fL kO (aB (f2 jD (aD 3) (fC (.str "recs"))) aM))) aM)))))) (gO (fC (.bl NG))) gH)) (uV (Hh (fB (f2 Ft (f2 gM (aD 4) (fC (.int 2))) (fC (.int 0)))) (fB (f2 Tr (f2 jD (aD 3) (fC (.str "order"))) (kJ aM)))) (TY (TX (gbV (Um (.ch 2::.ch 3::.rd (f2 pQ (aD 4) (fC (.int 2)))::[]) (Dh κ)))) (gO (fC (.bl NG))) gH) (TY (TX (gbV (Um (.ch 2::.ch 3::.rd (f2 pQ (aD 4) (fC (.int 2)))::[]) (yL κ)))) (gO (fC (.bl NG))) gH))))
 (aW (cU 5 (gJ (κ 0) "changes" 1 (rW κ) (tL (fO (κ 1) "bench") (aD 2)) aM []))
 (gO (Ax (f2 Ft (fL kO (aB (aD 5) aM)) (fL kO (aB (f2 jD (aD 3) (fC (.str "due"))) aM))) (f2 Ft (aD 5) (f2 jD (aD 3) (fC (.str "due"))))))))))
noncomputable def aIg(κ:Nat→A7):List D→Option D:=oZ 6 1 (aJU κ)
section
variable{P:AJ}{w:AN}{K:aJ}{mg:Str→Option A6}{base:AM}
theorem aA0:aZ ["script", "k"] ["script", "k"] (aK Vb):=by walk_at "fs"
theorem km(R:Raw K mg "_law_cell" Vb) (dZ:mg "len" = none):lN P w K mg base "_law_cell" 1 2 (gW K 2 mZ):=by
 refine R.uW aA0 (λ_ _ _ _ _ _ us hl=>match us,hl with | [_,_],_=>rfl) (λ_ _ _ _ _ _ _ hr=>?_);have cQ:=hr.units;have hu:=cI hr;exact⟨_,aL (jK (eV Xy uQ (aF (pv 1)) (XN.r (fV eX (eY U) U dZ D9 (aG (aF (pv 0)) aO))) (cV _)) (aU (cA (XR.n (bI (aF (pv 0)) (aF (pv 1)) (λ_ _=>rfl))))) fM)
  (aU (cA aN))⟩
theorem Vn:aZ ["script", "head"] ["script"] (aK Nb):=by walk_at "fs"
theorem XX(R:Raw K mg "_law_sizes" Nb) (sZ:lN P w K mg base "_law_cell" 1 2 (gW K 2 mZ)):lN P w K mg base "_law_sizes" 2 1 (gW K 1 yG):=by
 refine R.uW Vn (λ_ _ _ _ _ _ us hl=>match us,hl with | [_],_=>rfl) (λ_ _ _ _ _ _ _ hr=>?_);have cQ:=hr.units;have hu:=cI hr;exact⟨_,aL (bK (i:=1) (bZ sZ (hr.mono (by decide)) U (aG (aF (pv 0)) (aG (XN.r (aN)) aO))) (λh=>bB Vn.nd U (by first | exact D1 U | exact C9 U) h))
  (aL (jK (eV (or_eq cQ U) sH (XN.r (bU (XN.r (lB (aF (pv 1)) (XN.r (aN)))) (XN.r (aN)))) (XN.r (aN)) (cV _)) (aU (cA (lC (aY (cG (XN.r (aN)) (XN.r (bU (aF (pv 1)) (XN.r (aN))))) (aY (cG (XN.r (aN)) (XN.r (bU (XN.r (lB (aF (pv 1)) (XN.r (aN)))) (XN.r (aN))))) dY))))) fM)
  (aU (cA (lC (aY (cG (XN.r (aN)) (XN.r (bU (aF (pv 1)) (XN.r (aN))))) (aY (cG (XN.r (aN)) (XN.r (bU (XN.r (lB (aF (pv 1)) (XN.r (aN)))) (XN.r (aN))))) dY))))))⟩
theorem Vo:aZ ["cell", "k", "number"] ["cell", "k"] (aK Nf):=by walk_at "fs"
theorem YC(R:Raw K mg "_law_mixed" Nf):lN P w K mg base "_law_mixed" 1 2 (gW K 2 mJ):=by
 refine R.uW Vo (λ_ _ _ _ _ _ us hl=>match us,hl with | [_,_],_=>rfl) (λ_ _ _ _ _ _ _ hr=>?_);have cQ:=hr.units;have hu:=cI hr;exact⟨_,aL (bK (i:=2) (bU (XN.r (mV (XN.r (cG (XN.r (bU (aF (pv 0)) (XN.r (aN)))) (XN.r (aN)))) (XN.r (cG (XN.r (aN)) (XN.r (mV (XN.r (mV (XN.r (aN)) (aF (pv 1)))) (aF (pv 1)))))))) (XN.r (aN))) (λh=>bB Vo.nd U (by first | exact D1 U | exact C9 U) h))
  (aU (cA (bU (XN.r (mV (aF (pv 2)) (aF (pv 2)))) (XN.r (aN)))))⟩
theorem pJ:aZ ["cell", "k", "key", "following", "pick", "now", "age"] ["cell", "k", "key", "following"] (aK Hz):=by walk_at "fs"
theorem JZ(R:Raw K mg "_law_record" Hz) (nQ:lN P w K mg base "_law_mixed" 1 2 (gW K 2 mJ)) (aIh:mg "abs" = none):lN P w K mg base "_law_record" 2 4 (gW K 4 qX):=by
 refine R.uW pJ (λ_ _ _ _ _ _ us hl=>match us,hl with | [_,_,_,_],_=>rfl) (λ_ _ _ _ _ _ _ hr=>?_);have cQ:=hr.units;have hu:=cI hr;exact⟨_,aL (bK (i:=4) (bZ nQ (hr.mono (by decide)) U (aG (aF (pv 0)) (aG (XN.r (mV (XN.r (aN)) (aF (pv 1)))) aO))) (λh=>bB pJ.nd U (by first | exact D1 U | exact C9 U) h))
  (aL (bK (i:=5) (XR.n (bI (jN (aG (XN.r (aN)) (aG (XN.r (aN)) (aG (XN.r (aN)) (aG (XN.r (mV (XN.r (bZ nQ (hr.mono (by decide)) U (aG (aF (pv 0)) (aG (XN.r (cG (XN.r (mV (XN.r (aN)) (aF (pv 1)))) (XN.r (aN)))) aO)))) (XN.r (Bv (XN.r (aN)) (XN.r (aN)))))) (aG (XN.r (uC (XN.r (aN)))) aO)))))) (XN.r (bU (aF (pv 4)) (XN.r (aN)))) (λ_ _=>rfl))) (λh=>bB pJ.nd U (by first | exact D1 U | exact C9 U) h))
  (aL (bK (i:=6) aN (λh=>bB pJ.nd U (by first | exact D1 U | exact C9 U) h))
  (aL (jK (eV (or_eq cQ U) sH (XN.r (bU (XN.r (lB (aF (pv 4)) (XN.r (aN)))) (XN.r (aN)))) (XN.r (aN)) (cV _)) (aU (bK (i:=6) (cG (XN.r (aN)) (XN.r (bU (XN.r (lB (aF (pv 4)) (XN.r (aN)))) (XN.r (aN))))) (λh=>bB pJ.nd U (by first | exact D1 U | exact C9 U) h))) fM)
  (aL (jK (eV (or_eq cQ U) sH (aF (pv 6)) (XN.r (aN)) (cV _)) (aU (bK (i:=5) (fV aH6 aH7 U aIh PyProof.Rows.boot_abs (aG (aF (pv 5)) aO)) (λh=>bB pJ.nd U (by first | exact D1 U | exact C9 U) h))) fM)
  (aU (cA (lC (aY (XR.n (aF (pv 2))) (aY (XR.n (aF (pv 3))) (aY (XR.n (bI (jN (aG (XN.r (uC (XN.r (aN)))) (aG (XN.r (aN)) (aG (XN.r (aN)) (aG (aF (pv 4)) aO))))) (XN.r (bU (XN.r (lB (aF (pv 4)) (XN.r (aN)))) (XN.r (aN)))) (λ_ _=>rfl))) (aY (XR.n (aF (pv 5))) (aY (XR.n (aF (pv 6))) dY))))))))))))⟩
theorem fX:aZ ["script", "panes", "rows", "spare", "boxes", "k", "stone", "cell", "box", "key", "pane"] ["script"] (aK yH):=by walk_at "fs"
theorem YD(R:Raw K mg "_law_built" yH) (Np:lN P w K mg base "_law_sizes" 2 1 (gW K 1 yG)) (sZ:lN P w K mg base "_law_cell" 1 2 (gW K 2 mZ)) (nQ:lN P w K mg base "_law_mixed" 1 2 (gW K 2 mJ)) (Ad:lN P w K mg base "_law_record" 2 4 (gW K 4 qX)) (iT:mg "list" = none) (iH:mg "range" = none) (dZ:mg "len" = none):lN P w K mg base "_law_built" 3 1 (gW K 1 yI):=by
 refine R.uW fX (λ_ _ _ _ _ _ us hl=>match us,hl with | [_],_=>rfl) (λ_ _ _ _ _ _ _ hr=>?_);have cQ:=hr.units;have hu:=cI hr;exact⟨_,aL (Yt (is:=[1,2]) (n:=2) (bZ Np (hr.mono (by decide)) U (aG (aF (pv 0)) aO)) (λh=>Gu h (aBt U (Jh (kI (i:=1) fX.nd U (by first | exact D1 U | exact C9 U)) (Jh (kI (i:=2) fX.nd U (by first | exact D1 U | exact C9 U)) (rm))))))
  (aL (bK (i:=3) (aAU (aG (XN.r (aN)) (aG (XN.r (mV (aF (pv 1)) (aF (pv 2)))) aO)) U iT G5 U iH PyProof.Rows.boot_range) (λh=>bB fX.nd U (by first | exact D1 U | exact C9 U) h))
  (aL (bK (i:=4) (tH (aY aN dY)) (λh=>bB fX.nd U (by first | exact D1 U | exact C9 U) h))
  (aL (Ju AU U (Ej U iH (aG (XN.r (bU (XN.r (bZ sZ (hr.mono (by decide)) U (aG (aF (pv 0)) (aG (XN.r (aN)) aO)))) (XN.r (mV (aF (pv 1)) (aF (pv 2)))))) aO)) (kI (i:=5) fX.nd U (by first | exact D1 U | exact C9 U)) (aU (aAB (i:=4) (j:=3) (XN.r (bU (XN.r (bZ nQ (hr.mono (by decide)) U (aG (XN.r (bZ sZ (hr.mono (by decide)) U (aG (aF (pv 0)) (aG (XN.r (aN)) aO)))) (aG (aF (pv 5)) aO)))) (XN.r (fV eX (eY U) U dZ D9 (aG (aF (pv 3)) aO))))) (λh=>kE (sG E5 G8 G9 lM (pv 4) (dG (sG E5 b6 b7 QH (pv 3) (dG h jM)) jM))))))
  (aL (Rc (i:=6) ["pane", "rows"] [2] U (.at (aK yH) ["script", "panes", "rows", "spare", "boxes", "k", "stone", "cell", "box", "key", "pane"] (by decide +kernel)) fX.nd U (by first | exact D1 U | exact C9 U) (Eg U iH (aG (aF (pv 1)) aO)) (iU (by decide +kernel) U U) (λ_ _ _ _ _=>nJ) (λ_ _ _ _ _=>mD ["place"] [] U (mG.of (by show ug (xV _ (aK yH)) _ ["pane", "rows"] _ _ _=NF;decide +kernel)) (Eg U iH (aG (aF (pv 1)) aO)) (iU (by decide +kernel) U U) (λ_ _ _ _ _=>nJ) (λ_ _ _ _ _=>lC (aY aN (aY aN (aY (uC (XN.r (aN))) (aY (uC (XN.r (aN))) (aY aN dY))))))))
  (aL (bK (i:=7) (bZ sZ (hr.mono (by decide)) U (aG (aF (pv 0)) (aG (XN.r (aN)) aO))) (λh=>bB fX.nd U (by first | exact D1 U | exact C9 U) h))
  (aL (HW [3] AU U (mX (aF (pv 3))) (kI (i:=8) fX.nd U (by first | exact D1 U | exact C9 U)) (aU (vg (RT (gP (pv 6)) (XN.r (bU (aF (pv 8)) (aF (pv 1)))) (λ_ _=>rfl)) (XN.r (lB (aF (pv 8)) (aF (pv 1)))) (bZ Ad (hr.mono (by decide)) U (aG (aF (pv 7)) (aG (aF (pv 8)) (aG (XN.r (bU (aF (pv 7)) (XN.r (Bv (XN.r (aN)) (XN.r (aN)))))) (aG (XN.r (bU (XN.r (mV (aF (pv 8)) (aF (pv 8)))) (XN.r (mV (aF (pv 1)) (aF (pv 2)))))) aO))))) (λa b c=>Gu c (Rw a b set_list)))))
  (aL (bK (i:=9) (bU (aF (pv 7)) (XN.r (Bv (XN.r (aN)) (XN.r (aN))))) (λh=>bB fX.nd U (by first | exact D1 U | exact C9 U) h))
  (aL (Ju AU U (Ej U iH (aG (XN.r (fV eX (eY U) U dZ D9 (aG (aF (pv 4)) aO))) aO)) (kI (i:=5) fX.nd U (by first | exact D1 U | exact C9 U)) (aL (bK (i:=8) (XR.n (bI (aF (pv 4)) (aF (pv 5)) (λ_ _=>rfl))) (λh=>bB fX.nd U (by first | exact D1 U | exact C9 U) h))
  (aL (vg (RT (gP (pv 6)) (XN.r (bU (aF (pv 8)) (aF (pv 1)))) (λ_ _=>rfl)) (XN.r (lB (aF (pv 8)) (aF (pv 1)))) (bZ Ad (hr.mono (by decide)) U (aG (aF (pv 7)) (aG (XN.r (cG (aF (pv 5)) (XN.r (aN)))) (aG (aF (pv 9)) (aG (bI (XN.r (cG (aF (pv 4)) (jN (aG (XN.r (aN)) aO)))) (XN.r (cG (aF (pv 5)) (XN.r (aN)))) (λ_ _=>rfl)) aO))))) (λa b c=>Gu c (Rw a b set_list)))
  (aU (bK (i:=9) (cG (XN.r (cG (aF (pv 9)) (XN.r (aN)))) (XN.r (mV (XN.r (bU (XN.r (bZ nQ (hr.mono (by decide)) U (aG (aF (pv 7)) (aG (XN.r (cG (aF (pv 5)) (XN.r (aN)))) aO)))) (XN.r (aN)))) (bI (jN (aG (XN.r (aN)) (aG (XN.r (Bv (XN.r (aN)) (XN.r (aN)))) aO))) (XN.r (bU (aF (pv 7)) (XN.r (aN)))) (λ_ _=>rfl))))) (λh=>bB fX.nd U (by first | exact D1 U | exact C9 U) h))))))
  (aL (Ju AU U (Ej U iH (aG (aF (pv 1)) aO)) (kI (i:=10) fX.nd U (by first | exact D1 U | exact C9 U)) (aU (Ua (RT (gP (pv 6)) (aF (pv 10)) (λ_ _=>rfl)) (lC (aY (bU (XN.r (bZ nQ (hr.mono (by decide)) U (aG (aF (pv 7)) (aG (XN.r (cG (aF (pv 10)) (XN.r (aN)))) aO)))) (XN.r (aN))) dY)) (λa b=>kE (sG E5 G8 G9 lM a (dG b jM))))))
  (aU (HS (pv 6))))))))))))⟩
theorem YF:aZ ["self", "stone"] ["self", "stone"] (aK vG):=by walk_at "fs"
theorem KC{κ:Nat→A7}(R:UJ K mg "Bench" (κ 0) "Bench.__init__" vG) (bD:jE K (κ 0) jH) (iT:mg "list" = none):aAN P w K mg base "Bench" (κ 0) 1 2 (spS K 2 (vH κ)):=by
 refine R.aJG YF (λ_ _ _ _ _ _ us hl=>match us,hl with | [_,_],_=>rfl) (λ_ _ _ _ _ _ _ hr=>?_);have cQ:=hr.units;have hu:=cI hr;exact⟨_,aL (oX bD (by decide +kernel) (gP (pv 0)) (mD ["pane"] [] U (.at (aK vG) ["self", "stone"] (by decide +kernel)) (mX (aF (pv 1))) (iU (by decide +kernel) U U) (λ_ _ _ _ _=>nJ) (λ_ _ _ _ _=>Bw zF (zG U) U iT G5 (aG (aF (pv 0)) aO))))
  (aL (oX bD (by decide +kernel) (gP (pv 0)) (tH dY))
  (aL (oX bD (by decide +kernel) (gP (pv 0)) (aCF))
  (aL (oX bD (by decide +kernel) (gP (pv 0)) (rO))
  (aU (oX bD (by decide +kernel) (gP (pv 0)) (mD ["pane"] [] U (.at (aK vG) ["self", "stone"] (by decide +kernel)) (mX (aF (pv 1))) (iU (by decide +kernel) U U) (λ_ _ _ _ _=>nJ) (λ_ _ _ _ _=>tH dY)))))))⟩
theorem aA1:aZ ["stone", "spot"] ["stone", "spot"] (aK Ve):=by walk_at "fs"
theorem lg(R:Raw K mg "thing_at" Ve):lN P w K mg base "thing_at" 1 2 (gW K 2 Cy):=by refine R.uW aA1 (λ_ _ _ _ _ _ us hl=>match us,hl with | [_,_],_=>rfl) (λ_ _ _ _ _ _ _ hr=>?_);have cQ:=hr.units;have hu:=cI hr;exact⟨_,aU (cA (XR.n (bI (bI (aF (pv 0)) (bI (aF (pv 1)) (XN.r (aN)) (λ_ _=>rfl)) (λ_ _=>rfl)) (bI (aF (pv 1)) (XN.r (aN)) (λ_ _=>rfl)) (λ_ _=>rfl))))⟩
theorem aC9:aZ ["stone", "box"] ["stone", "box"] (aK JT):=by walk_at "fs"
theorem aA2(R:Raw K mg "spot_of" JT) (dZ:mg "len" = none):lN P w K mg base "spot_of" 1 2 (gW K 2 zV):=by refine R.uW aC9 (λ_ _ _ _ _ _ us hl=>match us,hl with | [_,_],_=>rfl) (λ_ _ _ _ _ _ _ hr=>?_);have cQ:=hr.units;have hu:=cI hr;exact⟨_,aU (cA (lC (aY (bU (aF (pv 1)) (XN.r (fV eX (eY U) U dZ D9 (aG (aF (pv 0)) aO)))) (aY (lB (aF (pv 1)) (XN.r (fV eX (eY U) U dZ D9 (aG (aF (pv 0)) aO)))) dY))))⟩
theorem lq:aZ ["stone", "box"] ["stone", "box"] (aK Ng):=by walk_at "fs"
theorem YG(R:Raw K mg "record_at" Ng) (Ez:lN P w K mg base "spot_of" 1 2 (gW K 2 zV)) (Vp:lN P w K mg base "thing_at" 1 2 (gW K 2 Cy)):lN P w K mg base "record_at" 2 2 (gW K 2 nM):=by refine R.uW lq (λ_ _ _ _ _ _ us hl=>match us,hl with | [_,_],_=>rfl) (λ_ _ _ _ _ _ _ hr=>?_);have cQ:=hr.units;have hu:=cI hr;exact⟨_,aU (cA (bZ Vp (hr.mono (by decide)) U (aG (aF (pv 0)) (aG (XN.r (bZ Ez (hr.mono (by decide)) U (aG (aF (pv 0)) (aG (aF (pv 1)) aO)))) aO))))⟩
theorem Ae:aZ ["stone", "found", "box"] ["stone"] (aK Nh):=by walk_at "fs"
theorem YH(R:Raw K mg "string_of" Nh) (Fb:lN P w K mg base "record_at" 2 2 (gW K 2 nM)) (iT:mg "list" = none) (Gn:jL mg "HEAD" (0)) (yM:jL mg "NEXT" (1)):lN P w K mg base "string_of" 3 1 (gW K 1 qY):=by
 refine R.uW Ae (λ_ _ _ _ _ _ us hl=>match us,hl with | [_],_=>rfl) (λ_ _ _ _ _ _ _ hr=>?_);have cQ:=hr.units;have hu:=cI hr;exact⟨_,aL (bK (i:=1) (rO) (λh=>bB Ae.nd U (by first | exact D1 U | exact C9 U) h))
  (aL (bK (i:=2) (XR.n (bI (XN.r (bZ Fb (hr.mono (by decide)) U (aG (aF (pv 0)) (aG (XN.r (pG Gn U)) aO)))) (XN.r (pG yM U)) (λ_ _=>rfl))) (λh=>bB Ae.nd U (by first | exact D1 U | exact C9 U) h))
  (aL (RP 400 AU (XW.xt (Tu (eV (Gh cQ U) Gg (aF (pv 2)) (XN.r (pG Gn U)) (cV _)) (Jr (Mj hu (aF (pv 2)) (aF (pv 1)))))) (aL (HY (gP (pv 1)) (aF (pv 2)) (XN.r (uR)) (λa b c=>pN hu a b c U))
  (aU (bK (i:=2) (XR.n (bI (XN.r (bZ Fb (hr.mono (by decide)) U (aG (aF (pv 0)) (aG (aF (pv 2)) aO)))) (XN.r (pG yM U)) (λ_ _=>rfl))) (λh=>bB Ae.nd U (by first | exact D1 U | exact C9 U) h)))))
  (aU (cA (Bw RD (Bq U) U iT G5 (aG (aF (pv 1)) aO))))))⟩
theorem YJ:aZ ["stone"] ["stone"] (aK Ib):=by walk_at "fs"
theorem KD(R:Raw K mg "many_boxes" Ib) (dZ:mg "len" = none):lN P w K mg base "many_boxes" 1 1 (gW K 1 pB):=by refine R.uW YJ (λ_ _ _ _ _ _ us hl=>match us,hl with | [_],_=>rfl) (λ_ _ _ _ _ _ _ hr=>?_);have cQ:=hr.units;have hu:=cI hr;exact⟨_,aU (cA (mV (XN.r (fV eX (eY U) U dZ D9 (aG (aF (pv 0)) aO))) (XN.r (wZ (XN.r (fV eX (eY U) U dZ D9 (aG (bI (aF (pv 0)) (XN.r (aN)) (λ_ _=>rfl)) aO))) (XN.r (aN))))))⟩
theorem La:aZ ["stone", "tied"] ["stone"] (aK wL):=by walk_at "fs"
theorem Xe(R:Raw K mg "loose_boxes" wL) (uN:lN P w K mg base "string_of" 3 1 (gW K 1 qY)) (rC:lN P w K mg base "many_boxes" 1 1 (gW K 1 pB)) (iH:mg "range" = none) (Gn:jL mg "HEAD" (0)):lN P w K mg base "loose_boxes" 4 1 (gW K 1 sV):=by
 refine R.uW La (λ_ _ _ _ _ _ us hl=>match us,hl with | [_],_=>rfl) (λ_ _ _ _ _ _ _ hr=>?_);have cQ:=hr.units;have hu:=cI hr;exact⟨_,aL (bK (i:=1) (bZ uN (hr.mono (by decide)) U (aG (aF (pv 0)) aO)) (λh=>bB La.nd U (by first | exact D1 U | exact C9 U) h))
  (aU (cA (mD ["box", "tied"] [1] U (.at (aK wL) ["stone", "tied"] (by decide +kernel)) (aGq (λh=>Lx U iH h) (aG (XN.r (cG (XN.r (pG Gn U)) (XN.r (aN)))) (aG (XN.r (bZ rC (hr.mono (by decide)) U (aG (aF (pv 0)) aO))) aO))) (iU (by decide +kernel) U U) (λ_ _ _ _ _=>Eh (eV (aB7 U) (aJl NF) (aF (pv 0)) (aF (pv 1)) (by with_unfolding_all rfl))) (λ_ _ _ _ _=>XR.n (aF (pv 0))))))⟩
theorem KH:aZ ["self", "stone"] ["self", "stone"] (aK wM):=by walk_at "fs"
theorem Xf{κ:Nat→A7}(R:UJ K mg "Weaver" (κ 1) "Weaver.__init__" wM) (bD:jE K (κ 0) jH) (aQ:jE K (κ 1) dX) (Ii:aAN P w K mg base "Bench" (κ 0) 1 2 (spS K 2 (vH κ))) (rC:lN P w K mg base "many_boxes" 1 1 (gW K 1 pB)) (Ez:lN P w K mg base "spot_of" 1 2 (gW K 2 zV)) (uN:lN P w K mg base "string_of" 3 1 (gW K 1 qY)) (Dk:lN P w K mg base "loose_boxes" 4 1 (gW K 1 sV)) (iH:mg "range" = none):aAN P w K mg base "Weaver" (κ 1) 5 2 (spS K 2 (wN κ)):=by
 refine R.aJG KH (λ_ _ _ _ _ _ us hl=>match us,hl with | [_,_],_=>rfl) (λ_ _ _ _ _ _ _ hr=>?_);have cQ:=hr.units;have hu:=cI hr;exact⟨_,aL (oX aQ (by decide +kernel) (gP (pv 0)) (wu Ii cO (hr.mono (by decide)) U (aG (aF (pv 1)) aO)))
  (aL (oX aQ (by decide +kernel) (gP (pv 0)) (mD ["box", "stone"] [1] U (.at (aK wM) ["self", "stone"] (by decide +kernel)) (Eg U iH (aG (XN.r (bZ rC (hr.mono (by decide)) U (aG (aF (pv 1)) aO))) aO)) (iU (by decide +kernel) U U) (λ_ _ _ _ _=>nJ) (λ_ _ _ _ _=>bZ Ez (hr.mono (by decide)) U (aG (aF (pv 1)) (aG (aF (pv 0)) aO)))))
  (aL (oX aQ (by decide +kernel) (gP (pv 0)) (bZ uN (hr.mono (by decide)) U (aG (aF (pv 1)) aO)))
  (aL (oX aQ (by decide +kernel) (gP (pv 0)) (bZ Dk (hr.mono (by decide)) U (aG (aF (pv 1)) aO)))
  (aL (oX aQ (by decide +kernel) (gP (pv 0)) (rO))
  (aL (oX aQ (by decide +kernel) (gP (pv 0)) (rO))
  (aU (oX aQ (by decide +kernel) (gP (pv 0)) (rO))))))))⟩
theorem uO:aZ ["stone", "panes", "recs", "order", "box"] ["stone"] (aK Km):=by walk_at "fs"
theorem lr(R:Raw K mg "_law_book" Km) (dZ:mg "len" = none) (iH:mg "range" = none):lN P w K mg base "_law_book" 1 1 (gW K 1 Dc):=by
 refine R.uW uO (λ_ _ _ _ _ _ us hl=>match us,hl with | [_],_=>rfl) (λ_ _ _ _ _ _ _ hr=>?_);have cQ:=hr.units;have hu:=cI hr;exact⟨_,aL (bK (i:=1) (fV eX (eY U) U dZ D9 (aG (aF (pv 0)) aO)) (λh=>bB uO.nd U (by first | exact D1 U | exact C9 U) h))
  (aL (Rc (i:=2) ["box", "stone", "panes"] [0,1] U (.at (aK Km) ["stone", "panes", "recs", "order", "box"] (by decide +kernel)) uO.nd U (by first | exact D1 U | exact C9 U) (Eg U iH (aG (XN.r (mV (aF (pv 1)) (XN.r (wZ (XN.r (fV eX (eY U) U dZ D9 (aG (bI (aF (pv 0)) (XN.r (aN)) (λ_ _=>rfl)) aO))) (XN.r (aN)))))) aO)) (iU (by decide +kernel) U U) (λ_ _ _ _ _=>nJ) (λ_ _ _ _ _=>XR.n (bI (bI (aF (pv 1)) (XN.r (bU (aF (pv 0)) (aF (pv 2)))) (λ_ _=>rfl)) (XN.r (lB (aF (pv 0)) (aF (pv 2)))) (λ_ _=>rfl))))
  (aL (bK (i:=3) (tH dY) (λh=>bB uO.nd U (by first | exact D1 U | exact C9 U) h))
  (aL (bK (i:=4) (XR.n (bI (bI (aF (pv 2)) (XN.r (aN)) (λ_ _=>rfl)) (XN.r (aN)) (λ_ _=>rfl))) (λh=>bB uO.nd U (by first | exact D1 U | exact C9 U) h))
  (aL (RP 400 AU (eV (Gh cQ U) Gg (aF (pv 4)) (XN.r (aN)) (cV _)) (aL (Ua (gP (pv 3)) (XR.n (aF (pv 4))) (λa b=>kE (sG E5 G8 G9 lM a (dG b jM))))
  (aU (bK (i:=4) (XR.n (bI (bI (aF (pv 2)) (aF (pv 4)) (λ_ _=>rfl)) (XN.r (aN)) (λ_ _=>rfl))) (λh=>bB uO.nd U (by first | exact D1 U | exact C9 U) h)))))
  (aU (aFu (aCN (pv 2) (aCN (pv 3) (Kc (rO) (Kc (rO) (Kc (rO) (Kc (tH dY) (Kc (XR.n (aF (pv 1))) (aFt))))))))))))))⟩
theorem Vq:aZ ["self"] ["self"] (aK xM):=by walk_at "fs"
theorem Qt{κ:Nat→A7}(R:gZ K (κ 0) "changes" "Bench.changes" xM NG) (bD:jE K (κ 0) jH) (iT:mg "list" = none):dO P w K mg base (κ 0) "changes" 1 1 NG (gW K 1 (rW κ)):=by refine R.Jy Vq (λ_ _ _ _ _ _ us hl=>match us,hl with | [_],_=>rfl) (λ_ _ _ _ _ _ _ hr=>?_);have cQ:=hr.units;have hu:=cI hr;exact⟨_,aU (cA (Bw zF (zG U) U iT G5 (aG (dM bD (aF (pv 0)) (by decide +kernel) U) aO)))⟩
theorem Px:aZ ["cell", "number"] ["cell"] (aK Ig):=by walk_at "fs"
theorem KJ(R:Raw K mg "_law_spread" Ig):lN P w K mg base "_law_spread" 1 1 (gW K 1 nC):=by
 refine R.uW Px (λ_ _ _ _ _ _ us hl=>match us,hl with | [_],_=>rfl) (λ_ _ _ _ _ _ _ hr=>?_);have cQ:=hr.units;have hu:=cI hr;exact⟨_,aL (bK (i:=1) (bU (XN.r (mV (XN.r (cG (XN.r (bU (aF (pv 0)) (XN.r (aN)))) (XN.r (aN)))) (XN.r (aN)))) (XN.r (aN))) (λh=>bB Px.nd U (by first | exact D1 U | exact C9 U) h))
  (aU (cA (cG (XN.r (bU (XN.r (mV (aF (pv 1)) (aF (pv 1)))) (XN.r (aN)))) (XN.r (mV (XN.r (bU (aF (pv 0)) (XN.r (Bv (XN.r (aN)) (XN.r (aN)))))) (XN.r (aN)))))))⟩
theorem Nq:aZ ["self", "pane"] ["self", "pane"] (aK tO):=by walk_at "fs"
theorem Lb{κ:Nat→A7}(R:gZ K (κ 0) "check_pane" "Bench.check_pane" tO NG) (bD:jE K (κ 0) jH) (dZ:mg "len" = none):dO P w K mg base (κ 0) "check_pane" 1 2 NG (gW K 2 (jQ κ)):=by refine R.Jy Nq (λ_ _ _ _ _ _ us hl=>match us,hl with | [_,_],_=>rfl) (λ_ _ _ _ _ _ _ hr=>?_);have cQ:=hr.units;have hu:=cI hr;exact⟨_,aU (jK (oY (Ui aBz Xy uQ uQ (XN.r (aN)) (aF (pv 1)) (XN.r (fV eX (eY U) U dZ D9 (aG (dM bD (aF (pv 0)) (by decide +kernel) U) aO))))) (aU (IW)) fM)⟩
theorem Dl:aZ ["changes", "held", "numbers", "found", "number"] ["changes", "held", "numbers"] (aK zW):=by walk_at "fs"
theorem KN(R:Raw K mg "ripe_among" zW) (Qu:mg "all" = none) (iT:mg "list" = none) (lu:jL mg "NEEDS" (3)):lN P w K mg base "ripe_among" 1 3 (gW K 3 vI):=by
 refine R.uW Dl (λ_ _ _ _ _ _ us hl=>match us,hl with | [_,_,_],_=>rfl) (λ_ _ _ _ _ _ _ hr=>?_);have cQ:=hr.units;have hu:=cI hr;exact⟨_,aL (bK (i:=3) (rO) (λh=>bB Dl.nd U (by first | exact D1 U | exact C9 U) h))
  (aL (HW [] AU U (mX (aF (pv 2))) (kI (i:=4) Dl.nd U (by first | exact D1 U | exact C9 U)) (aU (jK (qQ (XN.r (fV HF (HH U) U Qu Q2 (aG (XN.r (mD ["need", "held", "found"] [1,3] U (.at (aK zW) ["changes", "held", "numbers", "found", "number"] (by decide +kernel)) (mX (bI (bI (aF (pv 0)) (aF (pv 4)) (λ_ _=>rfl)) (XN.r (pG lu U)) (λ_ _=>rfl))) (iU (by decide +kernel) U U) (λ_ _ _ _ _=>nJ) (λ_ _ _ _ _=>aGk (XN.r (aB8 hu (aF (pv 0)) (aF (pv 1)))) (wF (aB8 hu (aF (pv 0)) (aF (pv 2))))))) aO)))) (aU (HY (gP (pv 3)) (aF (pv 4)) (XN.r (uR)) (λa b c=>pN hu a b c U))) fM)))
  (aU (cA (Bw RD (Bq U) U iT G5 (aG (aF (pv 3)) aO)))))⟩
theorem Gp:aZ ["self", "number", "change"] ["self", "number"] (aK zX):=by walk_at "fs"
theorem Vr{κ:Nat→A7}(R:gZ K (κ 0) "strike" "Bench.strike" zX NG) (bD:jE K (κ 0) jH) (aDa:jL mg "PANE" (0)) (lz:jL mg "PLACE" (1)) (Nr:jL mg "THING" (2)):dO P w K mg base (κ 0) "strike" 1 2 NG (spS K 2 (uF κ)):=by
 refine R.Hs Gp (λ_ _ _ _ _ _ us hl=>match us,hl with | [_,_],_=>rfl) (λ_ _ _ _ _ _ _ hr=>?_);have cQ:=hr.units;have hu:=cI hr;exact⟨_,aL (bK (i:=2) (XR.n (bI (dM bD (aF (pv 0)) (by decide +kernel) U) (aF (pv 1)) (λ_ _=>rfl))) (λh=>bB Gp.nd U (by first | exact D1 U | exact C9 U) h))
  (aL (Ul (RT (pA bD (gP (pv 0)) (by decide +kernel) U) (bI (aF (pv 2)) (XN.r (pG aDa U)) (λ_ _=>rfl)) (λ_ _=>rfl)) (bI (aF (pv 2)) (XN.r (pG lz U)) (λ_ _=>rfl)) (XR.n (bI (aF (pv 2)) (XN.r (pG Nr U)) (λ_ _=>rfl))) (λa b c=>Gu c (Rw a b set_list)))
  (aU (uZ (pA bD (gP (pv 0)) (by decide +kernel) U) (aF (pv 1)) (XN.r (uR)) (λa b c=>pN hu a b c U))))⟩
theorem uI:aZ ["self", "pane", "most", "taken", "number"] ["self", "pane", "most"] (aK wO):=by walk_at "fs"
theorem Xg{κ:Nat→A7}(R:gZ K (κ 0) "carve" "Bench.carve" wO NF) (bD:jE K (κ 0) jH) (jV:dO P w K mg base (κ 0) "check_pane" 1 2 NG (gW K 2 (jQ κ))) (Ij:lN P w K mg base "ripe_among" 1 3 (gW K 3 vI)) (Af:dO P w K mg base (κ 0) "strike" 1 2 NG (spS K 2 (uF κ))) (aIi:mg "max" = none):dO P w K mg base (κ 0) "carve" 2 3 NF (spS K 3 (wQ κ)):=by
 refine R.Hs uI (λT _ _ _ _ _ _ us=>⟨λhl=>match us,hl with | [_,_,_],_=>⟨_,U,U⟩,λhl=>match us,hl with | [_,_],_=>⟨_,U,U⟩⟩) (λ_ _ _ _ _ _ _ hr=>?_);have cQ:=hr.units;have hu:=cI hr;exact⟨_,aL (zL (XN.r (eE jV bD (hr.mono (by decide)) (aF (pv 0)) (aG (aF (pv 1)) aO))))
  (aL (bK (i:=3) (bZ Ij (hr.mono (by decide)) U (aG (dM bD (aF (pv 0)) (by decide +kernel) U) (aG (dM bD (aF (pv 0)) (by decide +kernel) U) (aG (bI (dM bD (aF (pv 0)) (by decide +kernel) U) (aF (pv 1)) (λ_ _=>rfl)) aO)))) (λh=>bB uI.nd U (by first | exact D1 U | exact C9 U) h))
  (aL (jK (eV DK Mw (aF (pv 2)) (XN.r (Hf)) (cV _)) (aU (bK (i:=3) (aCc (aF (pv 3)) (aE3) (HJ (XN.r (fV aE0 (aAf U) U aIi PyProof.Rows.boot_max (aG (aF (pv 2)) (aG (XN.r (aN)) aO)))))) (λh=>bB uI.nd U (by first | exact D1 U | exact C9 U) h))) fM)
  (aL (JB AU U (pv 3) (kI (i:=4) uI.nd U (by first | exact D1 U | exact C9 U)) (aU (Jx (uD Af bD cO (hr.mono (by decide)) (gP (pv 0)) (dF (aF (pv 4)) gY)))))
  (aL (Ul (pA bD (gP (pv 0)) (by decide +kernel) U) (aF (pv 1)) (mD ["number", "self"] [0] U (.at (aK wO) ["self", "pane", "most", "taken", "number"] (by decide +kernel)) (mX (bI (dM bD (aF (pv 0)) (by decide +kernel) U) (aF (pv 1)) (λ_ _=>rfl))) (iU (by decide +kernel) U U) (λ_ _ _ _ _=>Eh (Mj hu (aF (pv 0)) (dM bD (aF (pv 1)) (by decide +kernel) U))) (λ_ _ _ _ _=>XR.n (aF (pv 0)))) (λa b c=>Gu c (Rw a b set_list)))
  (aU (uY (pv 3)))))))⟩
theorem Nt:aZ ["self", "box"] ["self", "box"] (aK tQ):=by walk_at "fs"
theorem Ld{κ:Nat→A7}(R:gZ K (κ 1) "coming_in" "Weaver.coming_in" tQ NG) (aQ:jE K (κ 1) dX):dO P w K mg base (κ 1) "coming_in" 1 2 NG (gW K 2 (jR κ)):=by refine R.Jy Nt (λ_ _ _ _ _ _ us hl=>match us,hl with | [_,_],_=>rfl) (λ_ _ _ _ _ _ _ hr=>?_);have cQ:=hr.units;have hu:=cI hr;exact⟨_,aU (cA (mY hu (dM aQ (aF (pv 0)) (by decide +kernel) U) (aF (pv 1)) ⟨U,U,U,U⟩))⟩
theorem Nu:aZ ["self", "box"] ["self", "box"] (aK tR):=by walk_at "fs"
theorem Le{κ:Nat→A7}(R:gZ K (κ 1) "going_out" "Weaver.going_out" tR NG) (aQ:jE K (κ 1) dX):dO P w K mg base (κ 1) "going_out" 1 2 NG (gW K 2 (jT κ)):=by refine R.Jy Nu (λ_ _ _ _ _ _ us hl=>match us,hl with | [_,_],_=>rfl) (λ_ _ _ _ _ _ _ hr=>?_);have cQ:=hr.units;have hu:=cI hr;exact⟨_,aU (cA (mY hu (dM aQ (aF (pv 0)) (by decide +kernel) U) (aF (pv 1)) ⟨U,U,U,U⟩))⟩
theorem Ik:aZ ["self", "box"] ["self", "box"] (aK qF):=by walk_at "fs"
theorem Fy{κ:Nat→A7}(R:gZ K (κ 1) "last_change" "Weaver.last_change" qF NG) (aQ:jE K (κ 1) dX):dO P w K mg base (κ 1) "last_change" 1 2 NG (gW K 2 (iJ κ)):=by refine R.Jy Ik (λ_ _ _ _ _ _ us hl=>match us,hl with | [_,_],_=>rfl) (λ_ _ _ _ _ _ _ hr=>?_);have cQ:=hr.units;have hu:=cI hr;exact⟨_,aU (cA (mY hu (dM aQ (aF (pv 0)) (by decide +kernel) U) (aF (pv 1)) ⟨U,U,U,U⟩))⟩
theorem Lf:aZ ["self", "pane", "place"] ["self", "pane", "place"] (aK qZ):=by walk_at "fs"
theorem Il{κ:Nat→A7}(R:gZ K (κ 0) "check_place" "Bench.check_place" qZ NG) (bD:jE K (κ 0) jH) (jV:dO P w K mg base (κ 0) "check_pane" 1 2 NG (gW K 2 (jQ κ))) (dZ:mg "len" = none):dO P w K mg base (κ 0) "check_place" 2 3 NG (gW K 3 (jA κ)):=by
 refine R.Jy Lf (λ_ _ _ _ _ _ us hl=>match us,hl with | [_,_,_],_=>rfl) (λ_ _ _ _ _ _ _ hr=>?_);have cQ:=hr.units;have hu:=cI hr;exact⟨_,aL (zL (XN.r (eE jV bD (hr.mono (by decide)) (aF (pv 0)) (aG (aF (pv 1)) aO))))
  (aU (jK (oY (Ui aBz Xy uQ uQ (XN.r (aN)) (aF (pv 2)) (XN.r (fV eX (eY U) U dZ D9 (aG (bI (dM bD (aF (pv 0)) (by decide +kernel) U) (aF (pv 1)) (λ_ _=>rfl)) aO))))) (aU (IW)) fM))⟩
theorem YK:aZ ["self", "pane", "place"] ["self", "pane", "place"] (aK Ih):=by walk_at "fs"
theorem KQ{κ:Nat→A7}(R:gZ K (κ 0) "seen" "Bench.seen" Ih NG) (bD:jE K (κ 0) jH) (jB:dO P w K mg base (κ 0) "check_place" 2 3 NG (gW K 3 (jA κ))) (Nr:jL mg "THING" (2)):dO P w K mg base (κ 0) "seen" 3 3 NG (gW K 3 (vJ κ)):=by
 refine R.Jy YK (λ_ _ _ _ _ _ us hl=>match us,hl with | [_,_,_],_=>rfl) (λ_ _ _ _ _ _ _ hr=>?_);have cQ:=hr.units;have hu:=cI hr;exact⟨_,aL (zL (XN.r (eE jB bD (hr.mono (by decide)) (aF (pv 0)) (aG (aF (pv 1)) (aG (aF (pv 2)) aO)))))
  (aL (jK (xg hu (Uj (aG (aF (pv 1)) (aG (aF (pv 2)) aO))) (dM bD (aF (pv 0)) (by decide +kernel) U)) (aU (cA (XR.n (bI (bI (dM bD (aF (pv 0)) (by decide +kernel) U) (XN.r (VF hu (dM bD (aF (pv 0)) (by decide +kernel) U) (Uj (aG (aF (pv 1)) (aG (aF (pv 2)) aO))) (λ_ _=>rfl))) (λ_ _=>rfl)) (XN.r (pG Nr U)) (λ_ _=>rfl))))) fM)
  (aU (cA (XR.n (bI (bI (dM bD (aF (pv 0)) (by decide +kernel) U) (aF (pv 1)) (λ_ _=>rfl)) (aF (pv 2)) (λ_ _=>rfl))))))⟩
theorem yN:aZ ["self", "box", "spot"] ["self", "box"] (aK tU):=by walk_at "fs"
theorem Lg{κ:Nat→A7}(R:gZ K (κ 1) "record_of" "Weaver.record_of" tU NG) (aQ:jE K (κ 1) dX) (bD:jE K (κ 0) jH) (Im:dO P w K mg base (κ 0) "seen" 3 3 NG (gW K 3 (vJ κ))):dO P w K mg base (κ 1) "record_of" 4 2 NG (gW K 2 (bV κ)):=by
 refine R.Jy yN (λ_ _ _ _ _ _ us hl=>match us,hl with | [_,_],_=>rfl) (λ_ _ _ _ _ _ _ hr=>?_);have cQ:=hr.units;have hu:=cI hr;exact⟨_,aL (bK (i:=2) (XR.n (bI (dM aQ (aF (pv 0)) (by decide +kernel) U) (aF (pv 1)) (λ_ _=>rfl))) (λh=>bB yN.nd U (by first | exact D1 U | exact C9 U) h))
  (aU (cA (eE Im bD (hr.mono (by decide)) (dM aQ (aF (pv 0)) (by decide +kernel) U) (aG (bI (aF (pv 2)) (XN.r (aN)) (λ_ _=>rfl)) (aG (bI (aF (pv 2)) (XN.r (aN)) (λ_ _=>rfl)) aO)))))⟩
theorem mj:aZ ["thing"] ["thing"] (aK Ni):=by walk_at "fs"
theorem YL(R:Raw K mg "_law_whole" Ni) (fZ:mg "isinstance" = none) (aDb:mg "bool" = none) (aIj:mg "int" = none):lN P w K mg base "_law_whole" 1 1 (gW K 1 gQ):=by refine R.uW mj (λ_ _ _ _ _ _ us hl=>match us,hl with | [_],_=>rfl) (λ_ _ _ _ _ _ _ hr=>?_);have cQ:=hr.units;have hu:=cI hr;exact⟨_,aU (cA (Ml (XN.r (Ms (aF (pv 0)) (Dy (v:=.ty "int") U aIj PyProof.Rows.boot_int U) U fZ)) (wF (aHI (XN.r (Ms (aF (pv 0)) (Dy (v:=.ty "bool") U aDb PyProof.Rows.boot_bool U) U fZ))))))⟩
theorem Vs:aZ ["weaver", "book", "box", "told"] ["weaver", "book", "box"] (aK Ew):=by walk_at "fs"
theorem YM{κ:Nat→A7}(R:Raw K mg "_law_known" Ew) (aQ:jE K (κ 1) dX) (jW:dO P w K mg base (κ 1) "coming_in" 1 2 NG (gW K 2 (jR κ))) (jX:dO P w K mg base (κ 1) "going_out" 1 2 NG (gW K 2 (jT κ))) (iK:dO P w K mg base (κ 1) "last_change" 1 2 NG (gW K 2 (iJ κ))) (iM:lN P w K mg base "_law_whole" 1 1 (gW K 1 gQ)) (bL:dO P w K mg base (κ 1) "record_of" 4 2 NG (gW K 2 (bV κ))) (Qu:mg "all" = none):lN P w K mg base "_law_known" 5 3 (gW K 3 (pI κ)):=by
 refine R.uW Vs (λ_ _ _ _ _ _ us hl=>match us,hl with | [_,_,_],_=>rfl) (λ_ _ _ _ _ _ _ hr=>?_);have cQ:=hr.units;have hu:=cI hr;exact⟨_,aL (bK (i:=3) (tH (aY (eE jW aQ (hr.mono (by decide)) (aF (pv 0)) (aG (aF (pv 2)) aO)) (aY (eE jX aQ (hr.mono (by decide)) (aF (pv 0)) (aG (aF (pv 2)) aO)) (aY (eE iK aQ (hr.mono (by decide)) (aF (pv 0)) (aG (aF (pv 2)) aO)) dY)))) (λh=>bB Vs.nd U (by first | exact D1 U | exact C9 U) h))
  (aL (jK (oY (qQ (XN.r (fV HF (HH U) U Qu Q2 (aG (XN.r (mD ["one"] [] U (.at (aK Ew) ["weaver", "book", "box", "told"] (by decide +kernel)) (mX (aF (pv 3))) (iU (by decide +kernel) U U) (λ_ _ _ _ _=>nJ) (λ_ _ _ _ _=>aGk (XN.r (Hg dg jo (aF (pv 0)) (XN.r (Hf)) (cV _))) (wF (bZ iM (hr.mono (by decide)) U (aG (aF (pv 0)) aO)))))) aO))))) (aU (cA (uR))) fM)
  (aL (jK (eV (Gh cQ U) Gg (aF (pv 3)) (jN (aG (XN.r (mY hu (bQ hu (aF (pv 1)) (XN.r (bW)) (λ_ _=>rfl)) (aF (pv 2)) ⟨U,U,U,U⟩)) (aG (XN.r (mY hu (bQ hu (aF (pv 1)) (XN.r (bW)) (λ_ _=>rfl)) (aF (pv 2)) ⟨U,U,U,U⟩)) (aG (XN.r (mY hu (bQ hu (aF (pv 1)) (XN.r (bW)) (λ_ _=>rfl)) (aF (pv 2)) ⟨U,U,U,U⟩)) aO)))) (cV _)) (aU (cA (uR))) fM)
  (aU (cA (Hg (or_eq cQ U) sH (XN.r (eE bL aQ (hr.mono (by decide)) (aF (pv 0)) (aG (aF (pv 2)) aO))) (bI (bQ hu (aF (pv 1)) (XN.r (bW)) (λ_ _=>rfl)) (aF (pv 2)) (λ_ _=>rfl)) (cV _))))))⟩
theorem qL:aZ ["cell", "count", "needs", "rest", "turn"] ["cell", "count"] (aK Dd):=by walk_at "fs"
theorem Xh(R:Raw K mg "_law_further" Dd) (iH:mg "range" = none):lN P w K mg base "_law_further" 1 2 (gW K 2 sW):=by
 refine R.uW qL (λ_ _ _ _ _ _ us hl=>match us,hl with | [_,_],_=>rfl) (λ_ _ _ _ _ _ _ hr=>?_);have cQ:=hr.units;have hu:=cI hr;exact⟨_,aL (bK (i:=2) (tH dY) (λh=>bB qL.nd U (by first | exact D1 U | exact C9 U) h))
  (aL (jK (eV aF6 uQ (aF (pv 1)) (XN.r (aN)) (cV _)) (aL (bK (i:=3) (lB (aF (pv 0)) (XN.r (aN))) (λh=>bB qL.nd U (by first | exact D1 U | exact C9 U) h))
  (aU (Ju AU U (Ej U iH (aG (XN.r (bU (aF (pv 0)) (XN.r (aN)))) aO)) (kI (i:=4) qL.nd U (by first | exact D1 U | exact C9 U)) (aL (Ua (gP (pv 2)) (bU (aF (pv 3)) (aF (pv 1))) (λa b=>kE (sG E5 G8 G9 lM a (dG b jM))))
  (aU (bK (i:=3) (lB (aF (pv 3)) (aF (pv 1))) (λh=>bB qL.nd U (by first | exact D1 U | exact C9 U) h))))))) fM)
  (aU (HS (pv 2))))⟩
theorem Ag:aZ ["book", "box", "some", "wanted", "number", "needs"] ["book", "box", "some", "wanted"] (aK wR):=by walk_at "fs"
theorem Xi(R:Raw K mg "_law_changed" wR) (dZ:mg "len" = none) (uJ:mg "sorted" = none) (aA3:mg "set" = none) (vN:mg "tuple" = none):lN P w K mg base "_law_changed" 1 4 (spS K 4 lX):=by
 refine R.Hs Ag (λ_ _ _ _ _ _ us hl=>match us,hl with | [_,_,_,_],_=>rfl) (λ_ _ _ _ _ _ _ hr=>?_);have cQ:=hr.units;have hu:=cI hr;exact⟨_,aL (bK (i:=4) (fV eX (eY U) U dZ D9 (aG (bQ hu (aF (pv 0)) (XN.r (bW)) (λ_ _=>rfl)) aO)) (λh=>bB Ag.nd U (by first | exact D1 U | exact C9 U) h))
  (aL (Rc (i:=5) ["other"] [] U (.at (aK wR) ["book", "box", "some", "wanted", "number", "needs"] (by decide +kernel)) Ag.nd U (by first | exact D1 U | exact C9 U) (mX (XN.r (cG (aF (pv 3)) (jN (aG (XN.r (mY hu (bQ hu (aF (pv 0)) (XN.r (bW)) (λ_ _=>rfl)) (aF (pv 1)) ⟨U,U,U,U⟩)) aO))))) (iU (by decide +kernel) U U) (λ_ _ _ _ _=>Eh (eV DK Mw (aF (pv 0)) (XN.r (Hf)) (cV _))) (λ_ _ _ _ _=>XR.n (aF (pv 0))))
  (aL (Rh (Hu hu (gP (pv 0)) (XN.r (bW)) (λ_ _=>rfl)) (lC (aY (bU (aF (pv 1)) (bQ hu (aF (pv 0)) (XN.r (bW)) (λ_ _=>rfl))) (aY (lB (aF (pv 1)) (bQ hu (aF (pv 0)) (XN.r (bW)) (λ_ _=>rfl))) (aY (XR.n (aF (pv 2))) (aY (Bw RG (RJ U) U vN N5 (aG (XN.r (wg (aF (pv 5)) U uJ R5 U aA3 b8)) aO)) dY))))) (λa b=>kE (sG E5 G8 G9 lM a (dG b jM))))
  (aL (Ul (Hu hu (gP (pv 0)) (XN.r (bW)) (λ_ _=>rfl)) (aF (pv 1)) (XR.n (aF (pv 2))) (λa b c=>Gu c (Rw a b set_list)))
  (aL (uZ (Hu hu (gP (pv 0)) (XN.r (bW)) (λ_ _=>rfl)) (aF (pv 1)) (aF (pv 4)) (λa b c=>pN hu a b c U))
  (aU (uY (pv 4)))))))⟩
theorem Lh:aZ ["book", "ahead", "box", "wanted", "old"] ["book", "ahead", "box", "wanted"] (aK De):=by walk_at "fs"
theorem Xj(R:Raw K mg "_law_pointed" De) (kY:lN P w K mg base "_law_changed" 1 4 (spS K 4 lX)):lN P w K mg base "_law_pointed" 2 4 (spS K 4 nD):=by
 refine R.Hs Lh (λ_ _ _ _ _ _ us hl=>match us,hl with | [_,_,_,_],_=>rfl) (λ_ _ _ _ _ _ _ hr=>?_);have cQ:=hr.units;have hu:=cI hr;exact⟨_,aL (bK (i:=4) (XR.n (bI (bQ hu (aF (pv 0)) (XN.r (bW)) (λ_ _=>rfl)) (aF (pv 1)) (λ_ _=>rfl))) (λh=>bB Lh.nd U (by first | exact D1 U | exact C9 U) h))
  (aU (oW (Cg kY cO (hr.mono (by decide)) U (pv 0) (dF (aF (pv 1)) (dF (XN.r (lC (aY (XR.n (bI (aF (pv 4)) (XN.r (aN)) (λ_ _=>rfl))) (aY (XR.n (aF (pv 2))) (aY (XR.n (bI (aF (pv 4)) (XN.r (aN)) (λ_ _=>rfl))) (aY (XR.n (bI (aF (pv 4)) (XN.r (aN)) (λ_ _=>rfl))) (aY (XR.n (bI (aF (pv 4)) (XN.r (aN)) (λ_ _=>rfl))) dY))))))) (Gk (cG (aF (pv 3)) (jN (aG (XN.r (mY hu (bQ hu (aF (pv 0)) (XN.r (bW)) (λ_ _=>rfl)) (aF (pv 1)) ⟨U,U,U,U⟩)) aO))) gY))))))⟩
theorem Fd:aZ ["book", "at", "further", "box", "ahead", "number"] ["book", "at", "further"] (aK Vi):=by walk_at "fs"
theorem mq(R:Raw K mg "_law_left" Vi) (pK:lN P w K mg base "_law_pointed" 2 4 (spS K 4 nD)):lN P w K mg base "_law_left" 3 3 (spS K 3 Kr):=by
 refine R.Hs Fd (λ_ _ _ _ _ _ us hl=>match us,hl with | [_,_,_],_=>rfl) (λ_ _ _ _ _ _ _ hr=>?_);have cQ:=hr.units;have hu:=cI hr;exact⟨_,aL (bK (i:=3) (XR.n (bI (bQ hu (aF (pv 0)) (XN.r (bW)) (λ_ _=>rfl)) (aF (pv 1)) (λ_ _=>rfl))) (λh=>bB Fd.nd U (by first | exact D1 U | exact C9 U) h))
  (aL (bK (i:=4) (XR.n (bI (XN.r (cG (jN (aG (XN.r (aN)) aO)) (bQ hu (aF (pv 0)) (XN.r (bW)) (λ_ _=>rfl)))) (aF (pv 1)) (λ_ _=>rfl))) (λh=>bB Fd.nd U (by first | exact D1 U | exact C9 U) h))
  (aL (pX (i:=5) (Cg pK cO (hr.mono (by decide)) U (pv 0) (dF (aF (pv 4)) (Gk (XR.n (bI (bI (bQ hu (aF (pv 0)) (XN.r (bW)) (λ_ _=>rfl)) (aF (pv 3)) (λ_ _=>rfl)) (XN.r (aN)) (λ_ _=>rfl))) (Gk (cG (jN (aG (XN.r (mY hu (bQ hu (aF (pv 0)) (XN.r (bW)) (λ_ _=>rfl)) (aF (pv 3)) ⟨U,U,U,U⟩)) aO)) (aF (pv 2))) gY)))) (λh=>bB Fd.nd U (by first | exact D1 U | exact C9 U) h))
  (aL (uZ (Hu hu (gP (pv 0)) (XN.r (bW)) (λ_ _=>rfl)) (aF (pv 3)) (aF (pv 5)) (λa b c=>pN hu a b c U))
  (aL (aCP (Hu hu (gP (pv 0)) (XN.r (bW)) (λ_ _=>rfl)) (aF (pv 1)) (λa b=>kE (sG E5 b6 b7 QH a (dG b jM))))
  (aU (uY (pv 5)))))))⟩
theorem Nv:aZ ["self", "place"] ["self", "place"] (aK tV):=by walk_at "fs"
theorem Li{κ:Nat→A7}(R:gZ K (κ 1) "box_ahead" "Weaver.box_ahead" tV NG) (aQ:jE K (κ 1) dX) (Gn:jL mg "HEAD" (0)):dO P w K mg base (κ 1) "box_ahead" 1 2 NG (gW K 2 (jU κ)):=by refine R.Jy Nv (λ_ _ _ _ _ _ us hl=>match us,hl with | [_,_],_=>rfl) (λ_ _ _ _ _ _ _ hr=>?_);have cQ:=hr.units;have hu:=cI hr;exact⟨_,aU (cA (XR.n (bI (XN.r (cG (jN (aG (XN.r (pG Gn U)) aO)) (dM aQ (aF (pv 0)) (by decide +kernel) U))) (aF (pv 1)) (λ_ _=>rfl))))⟩
theorem Io:aZ ["self", "number"] ["self", "number"] (aK qG):=by walk_at "fs"
theorem Fz{κ:Nat→A7}(R:gZ K (κ 0) "check_change" "Bench.check_change" qG NG) (bD:jE K (κ 0) jH) (dZ:mg "len" = none):dO P w K mg base (κ 0) "check_change" 1 2 NG (gW K 2 (eG κ)):=by refine R.Jy Io (λ_ _ _ _ _ _ us hl=>match us,hl with | [_,_],_=>rfl) (λ_ _ _ _ _ _ _ hr=>?_);have cQ:=hr.units;have hu:=cI hr;exact⟨_,aU (jK (oY (Ui aBz Xy uQ uQ (XN.r (aN)) (aF (pv 1)) (XN.r (fV eX (eY U) U dZ D9 (aG (dM bD (aF (pv 0)) (by decide +kernel) U) aO))))) (aU (IW)) fM)⟩
theorem Ah:aZ ["self", "pane", "place", "thing", "needs", "needed", "need", "number"] ["self", "pane", "place", "thing", "needs"] (aK Nj):=by walk_at "fs"
theorem YQ{κ:Nat→A7}(R:gZ K (κ 0) "put" "Bench.put" Nj NF) (bD:jE K (κ 0) jH) (jB:dO P w K mg base (κ 0) "check_place" 2 3 NG (gW K 3 (jA κ))) (dB:dO P w K mg base (κ 0) "check_change" 1 2 NG (gW K 2 (eG κ))) (iT:mg "list" = none) (dZ:mg "len" = none) (uJ:mg "sorted" = none) (aA3:mg "set" = none) (vN:mg "tuple" = none):dO P w K mg base (κ 0) "put" 3 5 NF (spS K 5 (Ex κ)):=by
 refine R.Hs Ah (λT _ _ _ _ _ _ us=>⟨λhl=>match us,hl with | [_,_,_,_,_],_=>⟨_,U,U⟩,λhl=>match us,hl with | [_,_,_,_],_=>⟨_,U,U⟩⟩) (λ_ _ _ _ _ _ _ hr=>?_);have cQ:=hr.units;have hu:=cI hr;exact⟨_,aL (zL (XN.r (eE jB bD (hr.mono (by decide)) (aF (pv 0)) (aG (aF (pv 1)) (aG (aF (pv 2)) aO)))))
  (aL (bK (i:=5) (aGm (eV dg jo (aF (pv 4)) (XN.r (Hf)) (cV _)) (tH dY) (Bw zF (zG U) U iT G5 (aG (aF (pv 4)) aO))) (λh=>bB Ah.nd U (by first | exact D1 U | exact C9 U) h))
  (aL (JB AU U (pv 5) (kI (i:=6) Ah.nd U (by first | exact D1 U | exact C9 U)) (aU (zL (XN.r (eE dB bD (hr.mono (by decide)) (aF (pv 0)) (aG (aF (pv 6)) aO))))))
  (aL (jK (xg hu (Uj (aG (aF (pv 1)) (aG (aF (pv 2)) aO))) (dM bD (aF (pv 0)) (by decide +kernel) U)) (aU (Ua (gP (pv 5)) (VF hu (dM bD (aF (pv 0)) (by decide +kernel) U) (Uj (aG (aF (pv 1)) (aG (aF (pv 2)) aO))) (λ_ _=>rfl)) (λa b=>kE (sG E5 G8 G9 lM a (dG b jM))))) fM)
  (aL (bK (i:=7) (fV eX (eY U) U dZ D9 (aG (dM bD (aF (pv 0)) (by decide +kernel) U) aO)) (λh=>bB Ah.nd U (by first | exact D1 U | exact C9 U) h))
  (aL (Rh (pA bD (gP (pv 0)) (by decide +kernel) U) (lC (aY (XR.n (aF (pv 1))) (aY (XR.n (aF (pv 2))) (aY (XR.n (aF (pv 3))) (aY (Bw RG (RJ U) U vN N5 (aG (XN.r (wg (aF (pv 5)) U uJ R5 U aA3 b8)) aO)) dY))))) (λa b=>kE (sG E5 G8 G9 lM a (dG b jM))))
  (aL (aCG (pA bD (gP (pv 0)) (by decide +kernel) U) (Uj (aG (aF (pv 1)) (aG (aF (pv 2)) aO))) (aF (pv 7)) (λa b c=>pN hu a b c U))
  (aL (Rh (RT (pA bD (gP (pv 0)) (by decide +kernel) U) (aF (pv 1)) (λ_ _=>rfl)) (XR.n (aF (pv 7))) (λa b=>kE (sG E5 G8 G9 lM a (dG b jM))))
  (aU (uY (pv 7))))))))))⟩
theorem aFC:aZ ["numbers"] ["numbers"] (aK JV):=by walk_at "fs"
theorem aDc(R:Raw K mg "known" JV):lN P w K mg base "known" 1 1 (gW K 1 JW):=by refine R.uW aFC (λ_ _ _ _ _ _ us hl=>match us,hl with | [_],_=>rfl) (λ_ _ _ _ _ _ _ hr=>?_);have cQ:=hr.units;have hu:=cI hr;exact⟨_,aU (cA (mD ["number"] [] U (.at (aK JV) ["numbers"] (by decide +kernel)) (mX (aF (pv 0))) (iU (by decide +kernel) U U) (λ_ _ _ _ _=>Eh (eV DK Mw (aF (pv 0)) (XN.r (Hf)) (cV _))) (λ_ _ _ _ _=>XR.n (aF (pv 0)))))⟩
theorem xN:aZ ["self", "box", "record", "needed", "spot", "number"] ["self", "box", "record", "needed"] (aK zY):=by walk_at "fs"
theorem Vt{κ:Nat→A7}(R:gZ K (κ 1) "write" "Weaver.write" zY NG) (aQ:jE K (κ 1) dX) (bD:jE K (κ 0) jH) (Nx:dO P w K mg base (κ 0) "put" 3 5 NF (spS K 5 (Ex κ))) (my:lN P w K mg base "known" 1 1 (gW K 1 JW)):dO P w K mg base (κ 1) "write" 4 4 NG (spS K 4 (nO κ)):=by
 refine R.Hs xN (λ_ _ _ _ _ _ us hl=>match us,hl with | [_,_,_,_],_=>rfl) (λ_ _ _ _ _ _ _ hr=>?_);have cQ:=hr.units;have hu:=cI hr;exact⟨_,aL (bK (i:=4) (XR.n (bI (dM aQ (aF (pv 0)) (by decide +kernel) U) (aF (pv 1)) (λ_ _=>rfl))) (λh=>bB xN.nd U (by first | exact D1 U | exact C9 U) h))
  (aL (pX (i:=5) (uD Nx bD cO (hr.mono (by decide)) (pA aQ (gP (pv 0)) (by decide +kernel) U) (dF (bI (aF (pv 4)) (XN.r (aN)) (λ_ _=>rfl)) (dF (bI (aF (pv 4)) (XN.r (aN)) (λ_ _=>rfl)) (dF (aF (pv 2)) (dF (XN.r (bZ my (hr.mono (by decide)) U (aG (aF (pv 3)) aO))) gY))))) (λh=>bB xN.nd U (by first | exact D1 U | exact C9 U) h))
  (aL (uZ (pA aQ (gP (pv 0)) (by decide +kernel) U) (aF (pv 1)) (aF (pv 5)) (λa b c=>pN hu a b c U))
  (aU (uY (pv 5)))))⟩
theorem Lj:aZ ["self", "box", "record", "needed"] ["self", "box", "record", "needed"] (aK rA):=by walk_at "fs"
theorem Ip{κ:Nat→A7}(R:gZ K (κ 1) "write_tied" "Weaver.write_tied" rA NG) (aQ:jE K (κ 1) dX) (nR:dO P w K mg base (κ 1) "write" 4 4 NG (spS K 4 (nO κ))) (jW:dO P w K mg base (κ 1) "coming_in" 1 2 NG (gW K 2 (jR κ))):dO P w K mg base (κ 1) "write_tied" 5 4 NG (spS K 4 (gR κ)):=by refine R.Hs Lj (λ_ _ _ _ _ _ us hl=>match us,hl with | [_,_,_,_],_=>rfl) (λ_ _ _ _ _ _ _ hr=>?_);have cQ:=hr.units;have hu:=cI hr;exact⟨_,aU (oW (uD nR aQ cO (hr.mono (by decide)) (gP (pv 0)) (dF (aF (pv 1)) (dF (aF (pv 2)) (Gk (cG (jN (aG (XN.r (eE jW aQ (hr.mono (by decide)) (aF (pv 0)) (aG (aF (pv 1)) aO))) aO)) (aF (pv 3))) gY)))))⟩
theorem Lk:aZ ["self", "box", "following", "needed", "record"] ["self", "box", "following", "needed"] (aK Df):=by walk_at "fs"
theorem Xk{κ:Nat→A7}(R:gZ K (κ 1) "link" "Weaver.link" Df NG) (aQ:jE K (κ 1) dX) (bL:dO P w K mg base (κ 1) "record_of" 4 2 NG (gW K 2 (bV κ))) (jC:dO P w K mg base (κ 1) "write_tied" 5 4 NG (spS K 4 (gR κ))) (KR:jL mg "KEY" (0)) (aIk:jL mg "WAS" (2)) (aIl:jL mg "NOW" (3)) (aIm:jL mg "AGE" (4)):dO P w K mg base (κ 1) "link" 6 4 NG (spS K 4 (nF κ)):=by
 refine R.Hs Lk (λ_ _ _ _ _ _ us hl=>match us,hl with | [_,_,_,_],_=>rfl) (λ_ _ _ _ _ _ _ hr=>?_);have cQ:=hr.units;have hu:=cI hr;exact⟨_,aL (bK (i:=4) (eE bL aQ (hr.mono (by decide)) (aF (pv 0)) (aG (aF (pv 1)) aO)) (λh=>bB Lk.nd U (by first | exact D1 U | exact C9 U) h))
  (aU (oW (uD jC aQ cO (hr.mono (by decide)) (gP (pv 0)) (dF (aF (pv 1)) (dF (XN.r (lC (aY (XR.n (bI (aF (pv 4)) (XN.r (pG KR U)) (λ_ _=>rfl))) (aY (XR.n (aF (pv 2))) (aY (XR.n (bI (aF (pv 4)) (XN.r (pG aIk U)) (λ_ _=>rfl))) (aY (XR.n (bI (aF (pv 4)) (XN.r (pG aIl U)) (λ_ _=>rfl))) (aY (XR.n (bI (aF (pv 4)) (XN.r (pG aIm U)) (λ_ _=>rfl))) dY))))))) (dF (aF (pv 3)) gY))))))⟩
theorem nG:aZ ["self", "needs", "further", "need"] ["self", "needs"] (aK oF):=by walk_at "fs"
theorem Bk{κ:Nat→A7}(R:gZ K (κ 1) "further_needs" "Weaver.further_needs" oF NG) (bD:jE K (κ 0) jH) (aQ:jE K (κ 1) dX) (dB:dO P w K mg base (κ 0) "check_change" 1 2 NG (gW K 2 (eG κ))) (iT:mg "list" = none):dO P w K mg base (κ 1) "further_needs" 2 2 NG (gW K 2 (cJ κ)):=by
 refine R.Jy nG (λ_ _ _ _ _ _ us hl=>match us,hl with | [_,_],_=>rfl) (λ_ _ _ _ _ _ _ hr=>?_);have cQ:=hr.units;have hu:=cI hr;exact⟨_,aL (bK (i:=2) (aGm (eV dg jo (aF (pv 1)) (XN.r (Hf)) (cV _)) (tH dY) (Bw zF (zG U) U iT G5 (aG (aF (pv 1)) aO))) (λh=>bB nG.nd U (by first | exact D1 U | exact C9 U) h))
  (aL (JB AU U (pv 2) (kI (i:=3) nG.nd U (by first | exact D1 U | exact C9 U)) (aU (zL (XN.r (eE dB bD (hr.mono (by decide)) (dM aQ (aF (pv 0)) (by decide +kernel) U) (aG (aF (pv 3)) aO))))))
  (aU (HS (pv 2))))⟩
theorem rY:aZ ["self", "box", "needs", "ahead", "needed", "going"] ["self", "box", "needs"] (aK zZ):=by walk_at "fs"
theorem Vu{κ:Nat→A7}(R:gZ K (κ 1) "leave" "Weaver.leave" zZ NF) (aQ:jE K (κ 1) dX) (jY:dO P w K mg base (κ 1) "box_ahead" 1 2 NG (gW K 2 (jU κ))) (iK:dO P w K mg base (κ 1) "last_change" 1 2 NG (gW K 2 (iJ κ))) (cL:dO P w K mg base (κ 1) "further_needs" 2 2 NG (gW K 2 (cJ κ))) (pL:dO P w K mg base (κ 1) "link" 6 4 NG (spS K 4 (nF κ))) (bL:dO P w K mg base (κ 1) "record_of" 4 2 NG (gW K 2 (bV κ))) (yM:jL mg "NEXT" (1)):dO P w K mg base (κ 1) "leave" 7 3 NF (spS K 3 (nP κ)):=by
 refine R.Hs rY (λT _ _ _ _ _ _ us=>⟨λhl=>match us,hl with | [_,_,_],_=>⟨_,U,U⟩,λhl=>match us,hl with | [_,_],_=>⟨_,U,U⟩⟩) (λ_ _ _ _ _ _ _ hr=>?_);have cQ:=hr.units;have hu:=cI hr;exact⟨_,aL (bK (i:=3) (eE jY aQ (hr.mono (by decide)) (aF (pv 0)) (aG (XN.r (aCM (dM aQ (aF (pv 0)) (by decide +kernel) U) (aF (pv 1)) (λa b=>sG E5 PySem.F.slot_list_index PySem.F.type_list_index aCL a (dG b jM)))) aO)) (λh=>bB rY.nd U (by first | exact D1 U | exact C9 U) h))
  (aL (bK (i:=4) (cG (jN (aG (XN.r (eE iK aQ (hr.mono (by decide)) (aF (pv 0)) (aG (aF (pv 1)) aO))) aO)) (XN.r (eE cL aQ (hr.mono (by decide)) (aF (pv 0)) (aG (aF (pv 2)) aO)))) (λh=>bB rY.nd U (by first | exact D1 U | exact C9 U) h))
  (aL (pX (i:=5) (uD pL aQ cO (hr.mono (by decide)) (gP (pv 0)) (dF (aF (pv 3)) (Gk (XR.n (bI (XN.r (eE bL aQ (hr.mono (by decide)) (aF (pv 0)) (aG (aF (pv 1)) aO))) (XN.r (pG yM U)) (λ_ _=>rfl))) (dF (aF (pv 4)) gY)))) (λh=>bB rY.nd U (by first | exact D1 U | exact C9 U) h))
  (aL (yd (pA aQ (gP (pv 0)) (by decide +kernel) U) (aF (pv 1)) (λa b=>kE (sG E5 X8 X9 Zc a (dG b jM))))
  (aL (Rh (pA aQ (gP (pv 0)) (by decide +kernel) U) (XR.n (aF (pv 1))) (λa b=>kE (sG E5 G8 G9 lM a (dG b jM))))
  (aL (uZ (pA aQ (gP (pv 0)) (by decide +kernel) U) (aF (pv 1)) (aF (pv 5)) (λa b c=>pN hu a b c U))
  (aU (uY (pv 5))))))))⟩
theorem Ir:aZ ["weaver", "box", "further", "way", "given", "found"] ["weaver", "box", "further", "way"] (aK Nk):=by walk_at "fs"
theorem YT{κ:Nat→A7}(R:Raw K mg "_law_leave" Nk) (aQ:jE K (κ 1) dX) (uK:dO P w K mg base (κ 1) "leave" 7 3 NF (spS K 3 (nP κ))) (iT:mg "list" = none):lN P w K mg base "_law_leave" 8 4 (spS K 4 (Ey κ)):=by
 refine R.Hs Ir (λ_ _ _ _ _ _ us hl=>match us,hl with | [_,_,_,_],_=>rfl) (λ_ _ _ _ _ _ _ hr=>?_);have cQ:=hr.units;have hu:=cI hr;exact⟨_,aL (bK (i:=4) (Bw zF (zG U) U iT G5 (aG (aF (pv 2)) aO)) (λh=>bB Ir.nd U (by first | exact D1 U | exact C9 U) h))
  (aL (jK (XW.xt (Tu (eV (or_eq cQ U) sH (aF (pv 4)) (jN aO) (cV _)) (Jr (eV (or_eq cQ U) sH (aF (pv 3)) (XN.r (aN)) (cV _))))) (aU (oW (Jw uK aQ cO (hr.mono (by decide)) (gP (pv 0)) (dF (aF (pv 1)) gY)))) fM)
  (aL (pX (i:=5) (uD uK aQ cO (hr.mono (by decide)) (gP (pv 0)) (dF (aF (pv 1)) (dF (aF (pv 4)) gY))) (λh=>bB Ir.nd U (by first | exact D1 U | exact C9 U) h))
  (aL (jK (eV (Gh cQ U) Gg (aF (pv 4)) (aF (pv 2)) (cV _)) (aU (oW (zK (Hf)))) fM)
  (aL (Ua (gP (pv 4)) aN (λa b=>kE (sG E5 G8 G9 lM a (dG b jM))))
  (aU (uY (pv 5)))))))⟩
theorem YW:aZ ["found", "due"] ["found", "due"] (aK Aa):=by walk_at "fs"
theorem KY(R:Raw K mg "_law_change" Aa) (iM:lN P w K mg base "_law_whole" 1 1 (gW K 1 gQ)) (dZ:mg "len" = none) (fZ:mg "isinstance" = none) (vN:mg "tuple" = none) (Qu:mg "all" = none):lN P w K mg base "_law_change" 2 2 (gW K 2 vK):=by
 refine R.uW YW (λ_ _ _ _ _ _ us hl=>match us,hl with | [_,_],_=>rfl) (λ_ _ _ _ _ _ _ hr=>?_);have cQ:=hr.units;have hu:=cI hr;exact⟨_,aL (jK (XW.xt (Tv (oY (qQ (XN.r (Ms (aF (pv 0)) (Dy (v:=.ty "tuple") U vN N5 U) U fZ)))) (Tv (eV (Gh cQ U) Gg (XN.r (fV eX (eY U) U dZ D9 (aG (aF (pv 0)) aO))) (XN.r (aN)) (cV _)) (Tv (oY (qQ (XN.r (bZ iM (hr.mono (by decide)) U (aG (bI (aF (pv 0)) (XN.r (aN)) (λ_ _=>rfl)) aO))))) (GZ (oY (qQ (XN.r (bZ iM (hr.mono (by decide)) U (aG (bI (aF (pv 0)) (XN.r (aN)) (λ_ _=>rfl)) aO)))))))))) (aU (cA (uR))) fM)
  (aL (jK (XW.xt (Tv (oY (qQ (XN.r (Ms (bI (aF (pv 0)) (XN.r (aN)) (λ_ _=>rfl)) (Dy (v:=.ty "tuple") U vN N5 U) U fZ)))) (GZ (oY (qQ (XN.r (Ms (bI (aF (pv 0)) (XN.r (aN)) (λ_ _=>rfl)) (Dy (v:=.ty "tuple") U vN N5 U) U fZ))))))) (aU (cA (uR))) fM)
  (aU (cA (Ml (XN.r (fV HF (HH U) U Qu Q2 (aG (XN.r (mD ["one"] [] U (.at (aK Aa) ["found", "due"] (by decide +kernel)) (mX (XN.r (aFb (bI (aF (pv 0)) (XN.r (aN)) (λ_ _=>rfl)) (bI (aF (pv 0)) (XN.r (aN)) (λ_ _=>rfl))))) (iU (by decide +kernel) U U) (λ_ _ _ _ _=>nJ) (λ_ _ _ _ _=>bZ iM (hr.mono (by decide)) U (aG (aF (pv 0)) aO)))) aO))) (wF (Hg (or_eq cQ U) sH (aF (pv 0)) (aF (pv 1)) (cV _)))))))⟩
theorem KZ:aZ ["thing"] ["thing"] (aK wV):=by walk_at "fs"
theorem Xl(R:Raw K mg "_law_numbers" wV) (iM:lN P w K mg base "_law_whole" 1 1 (gW K 1 gQ)) (Qu:mg "all" = none) (fZ:mg "isinstance" = none) (iT:mg "list" = none):lN P w K mg base "_law_numbers" 2 1 (gW K 1 sX):=by refine R.uW KZ (λ_ _ _ _ _ _ us hl=>match us,hl with | [_],_=>rfl) (λ_ _ _ _ _ _ _ hr=>?_);have cQ:=hr.units;have hu:=cI hr;exact⟨_,aU (cA (Ml (XN.r (Ms (aF (pv 0)) (Dy (v:=.ty "list") U iT G5 U) U fZ)) (wF (fV HF (HH U) U Qu Q2 (aG (XN.r (mD ["one"] [] U (.at (aK wV) ["thing"] (by decide +kernel)) (mX (aF (pv 0))) (iU (by decide +kernel) U U) (λ_ _ _ _ _=>nJ) (λ_ _ _ _ _=>bZ iM (hr.mono (by decide)) U (aG (aF (pv 0)) aO)))) aO)))))⟩
theorem Xm:aZ ["self"] ["self"] (aK Ab):=by walk_at "fs"
theorem Vv{κ:Nat→A7}(R:gZ K (κ 1) "order" "Weaver.order" Ab NG) (aQ:jE K (κ 1) dX) (iT:mg "list" = none):dO P w K mg base (κ 1) "order" 1 1 NG (gW K 1 (qH κ)):=by refine R.Jy Xm (λ_ _ _ _ _ _ us hl=>match us,hl with | [_],_=>rfl) (λ_ _ _ _ _ _ _ hr=>?_);have cQ:=hr.units;have hu:=cI hr;exact⟨_,aU (cA (Bw zF (zG U) U iT G5 (aG (dM aQ (aF (pv 0)) (by decide +kernel) U) aO)))⟩
theorem LC:aZ ["self"] ["self"] (aK Dg):=by walk_at "fs"
theorem Xn{κ:Nat→A7}(R:gZ K (κ 1) "free" "Weaver.free" Dg NG) (aQ:jE K (κ 1) dX) (uJ:mg "sorted" = none):dO P w K mg base (κ 1) "free" 1 1 NG (gW K 1 (sY κ)):=by refine R.Jy LC (λ_ _ _ _ _ _ us hl=>match us,hl with | [_],_=>rfl) (λ_ _ _ _ _ _ _ hr=>?_);have cQ:=hr.units;have hu:=cI hr;exact⟨_,aU (cA (fV aAv (aAw U) U uJ R5 (aG (dM aQ (aF (pv 0)) (by decide +kernel) U) aO)))⟩
theorem Ny:aZ ["book", "there", "box"] ["book"] (aK Kv):=by walk_at "fs"
theorem mz(R:Raw K mg "_law_free" Kv) (dZ:mg "len" = none) (iH:mg "range" = none):lN P w K mg base "_law_free" 1 1 (gW K 1 qI):=by
 refine R.uW Ny (λ_ _ _ _ _ _ us hl=>match us,hl with | [_],_=>rfl) (λ_ _ _ _ _ _ _ hr=>?_);have cQ:=hr.units;have hu:=cI hr;exact⟨_,aL (bK (i:=1) (rO) (λh=>bB Ny.nd U (by first | exact D1 U | exact C9 U) h))
  (aL (HW [] AU U (mX (bQ hu (aF (pv 0)) (XN.r (bW)) (λ_ _=>rfl))) (kI (i:=2) Ny.nd U (by first | exact D1 U | exact C9 U)) (aU (HY (gP (pv 1)) (aF (pv 2)) (XN.r (uR)) (λa b c=>pN hu a b c U))))
  (aU (cA (mD ["box", "there"] [1] U (.at (aK Kv) ["book", "there", "box"] (by decide +kernel)) (aGq (λh=>Lx U iH h) (aG (XN.r (aN)) (aG (XN.r (fV eX (eY U) U dZ D9 (aG (bQ hu (aF (pv 0)) (XN.r (bW)) (λ_ _=>rfl)) aO))) aO))) (iU (by decide +kernel) U U) (λ_ _ _ _ _=>Eh (Mj hu (aF (pv 0)) (aF (pv 1)))) (λ_ _ _ _ _=>XR.n (aF (pv 0)))))))⟩
theorem Xo:aZ ["self", "number"] ["self", "number"] (aK Ac):=by walk_at "fs"
theorem Vw{κ:Nat→A7}(R:gZ K (κ 0) "change" "Bench.change" Ac NG) (bD:jE K (κ 0) jH) (dB:dO P w K mg base (κ 0) "check_change" 1 2 NG (gW K 2 (eG κ))):dO P w K mg base (κ 0) "change" 2 2 NG (gW K 2 (uG κ)):=by
 refine R.Jy Xo (λ_ _ _ _ _ _ us hl=>match us,hl with | [_,_],_=>rfl) (λ_ _ _ _ _ _ _ hr=>?_);have cQ:=hr.units;have hu:=cI hr;exact⟨_,aL (zL (XN.r (eE dB bD (hr.mono (by decide)) (aF (pv 0)) (aG (aF (pv 1)) aO))))
  (aU (cA (XR.n (bI (dM bD (aF (pv 0)) (by decide +kernel) U) (aF (pv 1)) (λ_ _=>rfl)))))⟩
theorem BP:aZ ["weaver", "book", "before", "number"] ["weaver", "book", "before"] (aK Vk):=by walk_at "fs"
theorem ni{κ:Nat→A7}(R:Raw K mg "_law_same" Vk) (bD:jE K (κ 0) jH) (aQ:jE K (κ 1) dX) (Ai:dO P w K mg base (κ 0) "change" 2 2 NG (gW K 2 (uG κ))) (Iu:lN P w K mg base "_law_change" 2 2 (gW K 2 vK)) (wX:dO P w K mg base (κ 1) "free" 1 1 NG (gW K 1 (sY κ))) (wY:lN P w K mg base "_law_numbers" 2 1 (gW K 1 sX)) (uL:dO P w K mg base (κ 1) "order" 1 1 NG (gW K 1 (qH κ))) (qM:lN P w K mg base "_law_free" 1 1 (gW K 1 qI)) (dZ:mg "len" = none) (iH:mg "range" = none):lN P w K mg base "_law_same" 3 3 (gW K 3 (vL κ)):=by
 refine R.uW BP (λ_ _ _ _ _ _ us hl=>match us,hl with | [_,_,_],_=>rfl) (λ_ _ _ _ _ _ _ hr=>?_);have cQ:=hr.units;have hu:=cI hr;exact⟨_,aL (Ju AU U (aAA (λh=>Lx U iH h) (aG (aF (pv 2)) (aG (XN.r (fV eX (eY U) U dZ D9 (aG (bQ hu (aF (pv 1)) (XN.r (bW)) (λ_ _=>rfl)) aO))) aO))) (kI (i:=3) BP.nd U (by first | exact D1 U | exact C9 U)) (aU (jK (oY (qQ (XN.r (bZ Iu (hr.mono (by decide)) U (aG (XN.r (eE Ai bD (hr.mono (by decide)) (dM aQ (aF (pv 0)) (by decide +kernel) U) (aG (aF (pv 3)) aO))) (aG (bI (bQ hu (aF (pv 1)) (XN.r (bW)) (λ_ _=>rfl)) (aF (pv 3)) (λ_ _=>rfl)) aO)))))) (aU (cA (uR))) fM)))
  (aL (jK (XW.xt (Tv (oY (qQ (XN.r (bZ wY (hr.mono (by decide)) U (aG (XN.r (Cj uL aQ (hr.mono (by decide)) (aF (pv 0)))) aO))))) (GZ (oY (qQ (XN.r (bZ wY (hr.mono (by decide)) U (aG (XN.r (Cj wX aQ (hr.mono (by decide)) (aF (pv 0)))) aO)))))))) (aU (cA (uR))) fM)
  (aU (cA (Ml (XN.r (Hg (or_eq cQ U) sH (XN.r (Cj uL aQ (hr.mono (by decide)) (aF (pv 0)))) (bQ hu (aF (pv 1)) (XN.r (bW)) (λ_ _=>rfl)) (cV _))) (wF (Hg (or_eq cQ U) sH (XN.r (Cj wX aQ (hr.mono (by decide)) (aF (pv 0)))) (XN.r (bZ qM (hr.mono (by decide)) U (aG (aF (pv 1)) aO))) (cV _)))))))⟩
theorem nT:aZ ["weaver", "book", "cell", "before", "at", "rest", "box", "ahead", "further", "due", "found"] ["weaver", "book", "cell"] (aK Vl):=by walk_at "fs"
theorem nj{κ:Nat→A7}(R:Raw K mg "_law_step" Vl) (Dm:lN P w K mg base "_law_further" 1 2 (gW K 2 sW)) (Vx:lN P w K mg base "_law_left" 3 3 (spS K 3 Kr)) (Nz:lN P w K mg base "_law_leave" 8 4 (spS K 4 (Ey κ))) (yO:lN P w K mg base "_law_same" 3 3 (gW K 3 (vL κ))) (iM:lN P w K mg base "_law_whole" 1 1 (gW K 1 gQ)) (rF:lN P w K mg base "_law_known" 5 3 (gW K 3 (pI κ))) (dZ:mg "len" = none):lN P w K mg base "_law_step" 9 3 (spG K [NF,NF,NG] (Dh κ)):=by
 refine R.aJM (mask:=[NF,NF,NG]) nT (λ_ _ _ _ _ _ us hl=>match us,hl with | [_,_,_],_=>rfl) U (λ_ _ _ _ _ _ _ hr=>?_);have cQ:=hr.units;have hu:=cI hr;exact⟨_,aL (bK (i:=3) (fV eX (eY U) U dZ D9 (aG (bQ hu (aF (pv 1)) (XN.r (bW)) (λ_ _=>rfl)) aO)) (λh=>bB nT.nd U (by first | exact D1 U | exact C9 U) h))
  (aL (bK (i:=4) (bU (aF (pv 2)) (XN.r (fV eX (eY U) U dZ D9 (aG (bQ hu (aF (pv 1)) (XN.r (bW)) (λ_ _=>rfl)) aO)))) (λh=>bB nT.nd U (by first | exact D1 U | exact C9 U) h))
  (aL (bK (i:=5) (lB (aF (pv 2)) (XN.r (fV eX (eY U) U dZ D9 (aG (bQ hu (aF (pv 1)) (XN.r (bW)) (λ_ _=>rfl)) aO)))) (λh=>bB nT.nd U (by first | exact D1 U | exact C9 U) h))
  (aL (bK (i:=6) (XR.n (bI (bQ hu (aF (pv 1)) (XN.r (bW)) (λ_ _=>rfl)) (aF (pv 4)) (λ_ _=>rfl))) (λh=>bB nT.nd U (by first | exact D1 U | exact C9 U) h))
  (aL (bK (i:=7) (XR.n (bI (XN.r (cG (jN (aG (XN.r (aN)) aO)) (bQ hu (aF (pv 1)) (XN.r (bW)) (λ_ _=>rfl)))) (aF (pv 4)) (λ_ _=>rfl))) (λh=>bB nT.nd U (by first | exact D1 U | exact C9 U) h))
  (aL (bK (i:=8) (bZ Dm (hr.mono (by decide)) U (aG (XN.r (lB (aF (pv 5)) (XN.r (aN)))) (aG (aF (pv 3)) aO))) (λh=>bB nT.nd U (by first | exact D1 U | exact C9 U) h))
  (aL (pX (i:=9) (Cg Vx cO (hr.mono (by decide)) U (pv 1) (dF (aF (pv 4)) (dF (aF (pv 8)) gY))) (λh=>bB nT.nd U (by first | exact D1 U | exact C9 U) h))
  (aL (pX (i:=10) (Cg Nz cO (hr.mono (by decide)) U (pv 0) (dF (aF (pv 6)) (dF (aF (pv 8)) (dF (XN.r (bU (aF (pv 5)) (XN.r (aN)))) gY)))) (λh=>bB nT.nd U (by first | exact D1 U | exact C9 U) h))
  (aL (jK (XW.xt (Tv (oY (qQ (XN.r (bZ iM (hr.mono (by decide)) U (aG (aF (pv 10)) aO))))) (Tv (eV (Gh cQ U) Gg (aF (pv 10)) (aF (pv 9)) (cV _)) (GZ (oY (qQ (XN.r (bZ yO (hr.mono (by decide)) U (aG (aF (pv 0)) (aG (aF (pv 1)) (aG (aF (pv 3)) aO))))))))))) (aU (oW (zK (uR)))) fM)
  (aU (oW (zK (Ml (XN.r (bZ rF (hr.mono (by decide)) U (aG (aF (pv 0)) (aG (aF (pv 1)) (aG (aF (pv 6)) aO))))) (wF (bZ rF (hr.mono (by decide)) U (aG (aF (pv 0)) (aG (aF (pv 1)) (aG (aF (pv 7)) aO)))))))))))))))))⟩
theorem Bc:aZ ["self", "box", "was", "now", "age", "needs", "record"] ["self", "box", "was", "now", "age", "needs"] (aK vM):=by walk_at "fs"
theorem Oa{κ:Nat→A7}(R:gZ K (κ 1) "rewrite" "Weaver.rewrite" vM NF) (aQ:jE K (κ 1) dX) (bL:dO P w K mg base (κ 1) "record_of" 4 2 NG (gW K 2 (bV κ))) (jC:dO P w K mg base (κ 1) "write_tied" 5 4 NG (spS K 4 (gR κ))) (cL:dO P w K mg base (κ 1) "further_needs" 2 2 NG (gW K 2 (cJ κ))) (KR:jL mg "KEY" (0)) (yM:jL mg "NEXT" (1)):dO P w K mg base (κ 1) "rewrite" 6 6 NF (spS K 6 (qJ κ)):=by
 refine R.Hs Bc (λT _ _ _ _ _ _ us=>⟨λhl=>match us,hl with | [_,_,_,_,_,_],_=>⟨_,U,U⟩,λhl=>match us,hl with | [_,_,_,_,_],_=>⟨_,U,U⟩⟩) (λ_ _ _ _ _ _ _ hr=>?_);have cQ:=hr.units;have hu:=cI hr;exact⟨_,aL (bK (i:=6) (eE bL aQ (hr.mono (by decide)) (aF (pv 0)) (aG (aF (pv 1)) aO)) (λh=>bB Bc.nd U (by first | exact D1 U | exact C9 U) h))
  (aU (oW (uD jC aQ cO (hr.mono (by decide)) (gP (pv 0)) (dF (aF (pv 1)) (dF (XN.r (lC (aY (XR.n (bI (aF (pv 6)) (XN.r (pG KR U)) (λ_ _=>rfl))) (aY (XR.n (bI (aF (pv 6)) (XN.r (pG yM U)) (λ_ _=>rfl))) (aY (XR.n (aF (pv 2))) (aY (XR.n (aF (pv 3))) (aY (XR.n (aF (pv 4))) dY))))))) (Gk (eE cL aQ (hr.mono (by decide)) (aF (pv 0)) (aG (aF (pv 5)) aO)) gY))))))⟩
theorem YX:aZ ["book", "at", "cell", "keys"] ["book", "at", "cell"] (aK Ro):=by walk_at "fs"
theorem aA4(R:Raw K mg "_law_key" Ro) (dZ:mg "len" = none):lN P w K mg base "_law_key" 1 3 (gW K 3 Ky):=by
 refine R.uW YX (λ_ _ _ _ _ _ us hl=>match us,hl with | [_,_,_],_=>rfl) (λ_ _ _ _ _ _ _ hr=>?_);have cQ:=hr.units;have hu:=cI hr;exact⟨_,aL (Rc (i:=3) ["box", "book"] [0] U (.at (aK Ro) ["book", "at", "cell", "keys"] (by decide +kernel)) YX.nd U (by first | exact D1 U | exact C9 U) (mX (bQ hu (aF (pv 0)) (XN.r (bW)) (λ_ _=>rfl))) (iU (by decide +kernel) U U) (λ_ _ _ _ _=>nJ) (λ_ _ _ _ _=>XR.n (bI (bI (bQ hu (aF (pv 1)) (XN.r (bW)) (λ_ _=>rfl)) (aF (pv 0)) (λ_ _=>rfl)) (XN.r (aN)) (λ_ _=>rfl))))
  (aL (jK (eV (or_eq cQ U) sH (aF (pv 3)) (jN aO) (cV _)) (aU (cA (lC (aY (bU (aF (pv 2)) (XN.r (Bv (XN.r (aN)) (XN.r (aN))))) (aY aN dY))))) fM)
  (aL (jK (eV (or_eq cQ U) sH (aF (pv 1)) (XN.r (aN)) (cV _)) (aU (cA (lC (aY (wZ (XN.r (wZ (bI (aF (pv 3)) (XN.r (aN)) (λ_ _=>rfl)) (XN.r (aN)))) (XN.r (bU (aF (pv 2)) (XN.r (Bv (XN.r (aN)) (XN.r (aN))))))) (aY aN dY))))) fM)
  (aL (jK (XW.xt (Tu (eV Xy uQ (aF (pv 1)) (XN.r (fV eX (eY U) U dZ D9 (aG (aF (pv 3)) aO))) (cV _)) (Jr (eV aF6 uQ (XN.r (wZ (bI (aF (pv 3)) (aF (pv 1)) (λ_ _=>rfl)) (bI (aF (pv 3)) (XN.r (wZ (aF (pv 1)) (XN.r (aN)))) (λ_ _=>rfl)))) (XN.r (aN)) (cV _))))) (aU (cA (lC (aY (cG (XN.r (cG (bI (aF (pv 3)) (XN.r (wZ (aF (pv 1)) (XN.r (aN)))) (λ_ _=>rfl)) (XN.r (aN)))) (XN.r (bU (aF (pv 2)) (XN.r (wZ (XN.r (wZ (bI (aF (pv 3)) (aF (pv 1)) (λ_ _=>rfl)) (bI (aF (pv 3)) (XN.r (wZ (aF (pv 1)) (XN.r (aN)))) (λ_ _=>rfl)))) (XN.r (aN))))))) (aY (XR.n (aF (pv 1))) dY))))) fM)
  (aU (cA (lC (aY (cG (XN.r (cG (bI (aF (pv 3)) (XN.r (uC (XN.r (aN)))) (λ_ _=>rfl)) (XN.r (aN)))) (XN.r (bU (aF (pv 2)) (XN.r (Bv (XN.r (aN)) (XN.r (aN))))))) (aY (fV eX (eY U) U dZ D9 (aG (aF (pv 3)) aO)) dY))))))))⟩
theorem nU:aZ ["book", "at", "some", "further", "box", "ahead", "new", "first", "number"] ["book", "at", "some", "further"] (aK Dj):=by walk_at "fs"
theorem Xp(R:Raw K mg "_law_entered" Dj) (qM:lN P w K mg base "_law_free" 1 1 (gW K 1 qI)) (kY:lN P w K mg base "_law_changed" 1 4 (spS K 4 lX)) (pK:lN P w K mg base "_law_pointed" 2 4 (spS K 4 nD)):lN P w K mg base "_law_entered" 3 4 (spS K 4 wW):=by
 refine R.Hs nU (λ_ _ _ _ _ _ us hl=>match us,hl with | [_,_,_,_],_=>rfl) (λ_ _ _ _ _ _ _ hr=>?_);have cQ:=hr.units;have hu:=cI hr;exact⟨_,aL (bK (i:=4) (XR.n (bI (XN.r (bZ qM (hr.mono (by decide)) U (aG (aF (pv 0)) aO))) (XN.r (aN)) (λ_ _=>rfl))) (λh=>bB nU.nd U (by first | exact D1 U | exact C9 U) h))
  (aL (bK (i:=5) (XR.n (bI (XN.r (cG (jN (aG (XN.r (aN)) aO)) (bQ hu (aF (pv 0)) (XN.r (bW)) (λ_ _=>rfl)))) (aF (pv 1)) (λ_ _=>rfl))) (λh=>bB nU.nd U (by first | exact D1 U | exact C9 U) h))
  (aL (bK (i:=6) (lC (aY (XR.n (bI (aF (pv 2)) (XN.r (aN)) (λ_ _=>rfl))) (aY (XR.n (bI (bI (bQ hu (aF (pv 0)) (XN.r (bW)) (λ_ _=>rfl)) (aF (pv 5)) (λ_ _=>rfl)) (XN.r (aN)) (λ_ _=>rfl))) (aY (XR.n (bI (aF (pv 2)) (XN.r (aN)) (λ_ _=>rfl))) (aY (XR.n (bI (aF (pv 2)) (XN.r (aN)) (λ_ _=>rfl))) (aY (XR.n (bI (aF (pv 2)) (XN.r (aN)) (λ_ _=>rfl))) dY)))))) (λh=>bB nU.nd U (by first | exact D1 U | exact C9 U) h))
  (aL (pX (i:=7) (Cg kY cO (hr.mono (by decide)) U (pv 0) (dF (aF (pv 4)) (dF (aF (pv 6)) (Gk (tH (aY (mY hu (bQ hu (aF (pv 0)) (XN.r (bW)) (λ_ _=>rfl)) (aF (pv 4)) ⟨U,U,U,U⟩) dY)) gY)))) (λh=>bB nU.nd U (by first | exact D1 U | exact C9 U) h))
  (aL (pX (i:=8) (Cg pK cO (hr.mono (by decide)) U (pv 0) (dF (aF (pv 5)) (dF (aF (pv 4)) (dF (XN.r (cG (jN (aG (aF (pv 7)) aO)) (aF (pv 3)))) gY)))) (λh=>bB nU.nd U (by first | exact D1 U | exact C9 U) h))
  (aL (uZ (Hu hu (gP (pv 0)) (XN.r (bW)) (λ_ _=>rfl)) (aF (pv 4)) (aF (pv 8)) (λa b c=>pN hu a b c U))
  (aL (yc (Hu hu (gP (pv 0)) (XN.r (bW)) (λ_ _=>rfl)) (aF (pv 1)) (aF (pv 4)) (λa b c=>kE (sG E5 Y0 Y1 Zb a (dG b (dG c jM)))))
  (aU (oW (zK (lC (aY (XR.n (aF (pv 4))) (aY (XR.n (aF (pv 8))) dY))))))))))))⟩
theorem lD:aZ ["self", "key", "was", "now", "age", "needs", "further", "place", "ahead", "box", "filled", "coming"] ["self", "key", "was", "now", "age", "needs"] (aK uH):=by walk_at "fs"
theorem Vy{κ:Nat→A7}(R:gZ K (κ 1) "enter" "Weaver.enter" uH NF) (aQ:jE K (κ 1) dX) (cL:dO P w K mg base (κ 1) "further_needs" 2 2 NG (gW K 2 (cJ κ))) (bL:dO P w K mg base (κ 1) "record_of" 4 2 NG (gW K 2 (bV κ))) (jY:dO P w K mg base (κ 1) "box_ahead" 1 2 NG (gW K 2 (jU κ))) (nR:dO P w K mg base (κ 1) "write" 4 4 NG (spS K 4 (nO κ))) (jX:dO P w K mg base (κ 1) "going_out" 1 2 NG (gW K 2 (jT κ))) (pL:dO P w K mg base (κ 1) "link" 6 4 NG (spS K 4 (nF κ))) (dZ:mg "len" = none) (aIn:mg "min" = none) (KR:jL mg "KEY" (0)) (yM:jL mg "NEXT" (1)):dO P w K mg base (κ 1) "enter" 7 6 NF (spS K 6 (qK κ)):=by
 refine R.Hs lD (λT _ _ _ _ _ _ us=>⟨λhl=>match us,hl with | [_,_,_,_,_,_],_=>⟨_,U,U⟩,λhl=>match us,hl with | [_,_,_,_,_],_=>⟨_,U,U⟩⟩) (λ_ _ _ _ _ _ _ hr=>?_);have cQ:=hr.units;have hu:=cI hr;exact⟨_,aL (jK (eV (or_eq cQ U) sH (XN.r (fV eX (eY U) U dZ D9 (aG (dM aQ (aF (pv 0)) (by decide +kernel) U) aO))) (XN.r (aN)) (cV _)) (aU (IW)) fM)
  (aL (bK (i:=6) (eE cL aQ (hr.mono (by decide)) (aF (pv 0)) (aG (aF (pv 5)) aO)) (λh=>bB lD.nd U (by first | exact D1 U | exact C9 U) h))
  (aL (bK (i:=7) (fV eX (eY U) U dZ D9 (aG (XN.r (mD ["box", "self", "key"] [0,1] U (.at (aK uH) ["self", "key", "was", "now", "age", "needs", "further", "place", "ahead", "box", "filled", "coming"] (by decide +kernel)) (mX (dM aQ (aF (pv 0)) (by decide +kernel) U)) (iU (by decide +kernel) U U) (λ_ _ _ _ _=>Eh (eV Xy uQ (bI (XN.r (eE bL aQ (hr.mono (by decide)) (aF (pv 1)) (aG (aF (pv 0)) aO))) (XN.r (pG KR U)) (λ_ _=>rfl)) (aF (pv 2)) (cV _))) (λ_ _ _ _ _=>XR.n (aF (pv 0))))) aO)) (λh=>bB lD.nd U (by first | exact D1 U | exact C9 U) h))
  (aL (bK (i:=8) (eE jY aQ (hr.mono (by decide)) (aF (pv 0)) (aG (aF (pv 7)) aO)) (λh=>bB lD.nd U (by first | exact D1 U | exact C9 U) h))
  (aL (bK (i:=9) (fV aE1 (aE2 U) U aIn PyProof.Rows.boot_min (aG (dM aQ (aF (pv 0)) (by decide +kernel) U) aO)) (λh=>bB lD.nd U (by first | exact D1 U | exact C9 U) h))
  (aL (pX (i:=10) (uD nR aQ cO (hr.mono (by decide)) (gP (pv 0)) (dF (aF (pv 9)) (Gk (lC (aY (XR.n (aF (pv 1))) (aY (XR.n (bI (XN.r (eE bL aQ (hr.mono (by decide)) (aF (pv 0)) (aG (aF (pv 8)) aO))) (XN.r (pG yM U)) (λ_ _=>rfl))) (aY (XR.n (aF (pv 2))) (aY (XR.n (aF (pv 3))) (aY (XR.n (aF (pv 4))) dY)))))) (Gk (tH (aY (eE jX aQ (hr.mono (by decide)) (aF (pv 0)) (aG (aF (pv 9)) aO)) dY)) gY)))) (λh=>bB lD.nd U (by first | exact D1 U | exact C9 U) h))
  (aL (pX (i:=11) (uD pL aQ cO (hr.mono (by decide)) (gP (pv 0)) (dF (aF (pv 8)) (dF (aF (pv 9)) (dF (XN.r (cG (jN (aG (aF (pv 10)) aO)) (aF (pv 6)))) gY)))) (λh=>bB lD.nd U (by first | exact D1 U | exact C9 U) h))
  (aL (yc (pA aQ (gP (pv 0)) (by decide +kernel) U) (aF (pv 7)) (aF (pv 9)) (λa b c=>kE (sG E5 Y0 Y1 Zb a (dG b (dG c jM)))))
  (aL (yd (pA aQ (gP (pv 0)) (by decide +kernel) U) (aF (pv 9)) (λa b=>kE (sG E5 X8 X9 Zc a (dG b jM))))
  (aL (uZ (pA aQ (gP (pv 0)) (by decide +kernel) U) (aF (pv 9)) (aF (pv 11)) (λa b c=>pN hu a b c U))
  (aU (oW (zK (lC (aY (XR.n (aF (pv 9))) (aY (XR.n (aF (pv 11))) dY)))))))))))))))⟩
theorem pC:aZ ["weaver", "book", "cell", "before", "box", "old", "key", "at", "due"] ["weaver", "book", "cell"] (aK Nm):=by walk_at "fs"
theorem YZ{κ:Nat→A7}(R:Raw K mg "_law_other" Nm) (aQ:jE K (κ 1) dX) (kY:lN P w K mg base "_law_changed" 1 4 (spS K 4 lX)) (vO:dO P w K mg base (κ 1) "rewrite" 6 6 NF (spS K 6 (qJ κ))) (qM:lN P w K mg base "_law_free" 1 1 (gW K 1 qI)) (LK:lN P w K mg base "_law_key" 1 3 (gW K 3 Ky)) (Dn:lN P w K mg base "_law_entered" 3 4 (spS K 4 wW)) (Al:dO P w K mg base (κ 1) "enter" 7 6 NF (spS K 6 (qK κ))) (yO:lN P w K mg base "_law_same" 3 3 (gW K 3 (vL κ))) (dZ:mg "len" = none):lN P w K mg base "_law_other" 8 3 (spG K [NF,NF,NG] (yL κ)):=by
 refine R.aJM (mask:=[NF,NF,NG]) pC (λ_ _ _ _ _ _ us hl=>match us,hl with | [_,_,_],_=>rfl) U (λ_ _ _ _ _ _ _ hr=>?_);have cQ:=hr.units;have hu:=cI hr;exact⟨_,aL (bK (i:=3) (fV eX (eY U) U dZ D9 (aG (bQ hu (aF (pv 1)) (XN.r (bW)) (λ_ _=>rfl)) aO)) (λh=>bB pC.nd U (by first | exact D1 U | exact C9 U) h))
  (aL (jK (XW.xt (Tu (eV (or_eq cQ U) sH (XN.r (bU (aF (pv 2)) (XN.r (aN)))) (XN.r (aN)) (cV _)) (Jr (eV (Gh cQ U) Gg (bQ hu (aF (pv 1)) (XN.r (bW)) (λ_ _=>rfl)) (jN aO) (cV _))))) (aL (bK (i:=4) (XR.n (bI (bQ hu (aF (pv 1)) (XN.r (bW)) (λ_ _=>rfl)) (XN.r (bU (XN.r (lB (aF (pv 2)) (XN.r (aN)))) (XN.r (fV eX (eY U) U dZ D9 (aG (bQ hu (aF (pv 1)) (XN.r (bW)) (λ_ _=>rfl)) aO))))) (λ_ _=>rfl))) (λh=>bB pC.nd U (by first | exact D1 U | exact C9 U) h))
  (aL (bK (i:=5) (XR.n (bI (bQ hu (aF (pv 1)) (XN.r (bW)) (λ_ _=>rfl)) (aF (pv 4)) (λ_ _=>rfl))) (λh=>bB pC.nd U (by first | exact D1 U | exact C9 U) h))
  (aL (Jx (Cg kY cO (hr.mono (by decide)) U (pv 1) (dF (aF (pv 4)) (dF (XN.r (lC (aY (XR.n (bI (aF (pv 5)) (XN.r (aN)) (λ_ _=>rfl))) (aY (XR.n (bI (aF (pv 5)) (XN.r (aN)) (λ_ _=>rfl))) (aY (uC (XN.r (aN))) (aY (bU (aF (pv 2)) (XN.r (aN))) (aY aN dY))))))) (Gk (tH (aY (mY hu (bQ hu (aF (pv 1)) (XN.r (bW)) (λ_ _=>rfl)) (aF (pv 4)) ⟨U,U,U,U⟩) dY)) gY)))))
  (aU (Jx (Jw vO aQ cO (hr.mono (by decide)) (gP (pv 0)) (dF (aF (pv 4)) (dF (XN.r (uC (XN.r (aN)))) (dF (XN.r (bU (aF (pv 2)) (XN.r (aN)))) (dF (XN.r (aN)) gY)))))))))) (aU (jK (eV (Gh cQ U) Gg (XN.r (bZ qM (hr.mono (by decide)) U (aG (aF (pv 1)) aO))) (jN aO) (cV _)) (aL (Yt (is:=[6,7]) (n:=2) (bZ LK (hr.mono (by decide)) U (aG (aF (pv 1)) (aG (XN.r (bU (aF (pv 2)) (XN.r (cG (XN.r (fV eX (eY U) U dZ D9 (aG (bQ hu (aF (pv 1)) (XN.r (bW)) (λ_ _=>rfl)) aO))) (XN.r (aN)))))) (aG (XN.r (lB (aF (pv 2)) (XN.r (aN)))) aO)))) (λh=>Gu h (aBt U (Jh (kI (i:=6) pC.nd U (by first | exact D1 U | exact C9 U)) (Jh (kI (i:=7) pC.nd U (by first | exact D1 U | exact C9 U)) (rm))))))
  (aL (pX (i:=8) (Cg Dn cO (hr.mono (by decide)) U (pv 1) (dF (aF (pv 7)) (dF (XN.r (lC (aY (XR.n (aF (pv 6))) (aY (uC (XN.r (aN))) (aY (bU (aF (pv 2)) (XN.r (aN))) (aY aN dY)))))) (dF (jN aO) gY)))) (λh=>bB pC.nd U (by first | exact D1 U | exact C9 U) h))
  (aU (jm (aFj (Gh cQ U) Gg (Jw Al aQ cO (hr.mono (by decide)) (gP (pv 0)) (dF (aF (pv 6)) (dF (XN.r (uC (XN.r (aN)))) (dF (XN.r (bU (aF (pv 2)) (XN.r (aN)))) (dF (XN.r (aN)) gY))))) (aF (pv 8)) (cV _)) (aU (oW (zK (uR)))) fM)))) fM)))
  (aU (oW (zK (bZ yO (hr.mono (by decide)) U (aG (aF (pv 0)) (aG (aF (pv 1)) (aG (aF (pv 3)) aO))))))))⟩
theorem BR:aZ ["script", "stone", "weaver", "book", "cell", "found"] ["script"] (aK aC8):=by walk_at "fs"
theorem aIo{κ:Nat→A7}{f:A7}{fd:BE}(F:Fun K "law" "law" aC8 f fd) (aQ:jE K (κ 1) dX) (bD:jE K (κ 0) jH) (Ob:lN P w K mg base "_law_built" 3 1 (gW K 1 yI)) (Dp:aAN P w K mg base "Weaver" (κ 1) 5 2 (spS K 2 (wN κ))) (Vz:lN P w K mg base "_law_book" 1 1 (gW K 1 Dc)) (Iv:lN P w K mg base "_law_spread" 1 1 (gW K 1 nC)) (Dq:dO P w K mg base (κ 0) "carve" 2 3 NF (spS K 3 (wQ κ))) (rF:lN P w K mg base "_law_known" 5 3 (gW K 3 (pI κ))) (Wa:lN P w K mg base "_law_step" 9 3 (spG K [NF,NF,NG] (Dh κ))) (Oc:lN P w K mg base "_law_other" 8 3 (spG K [NF,NF,NG] (yL κ))) (xO:dO P w K mg base (κ 0) "changes" 1 1 NG (gW K 1 (rW κ))) (iT:mg "list" = none) (dZ:mg "len" = none) (aHZ:∀ns:List Int,ns.length≤63→(∀k∈ns,Small k)→aIg κ [.lst (ns.map D.int)]=NC (.bl NF)):Fj P w K mg base FZ 10 f fd ["script"] (spB K):=by
 refine F.okB BR (λcdv A outer s H E hr=>?_) aHZ;have cQ:=hr.units;have hu:=cI hr;exact⟨_,aL (bK (i:=1) (bZ Ob (hr.mono (by decide)) U (aG (aF (pv 0)) aO)) (λh=>bB BR.nd U (by first | exact D1 U | exact C9 U) h))
  (aL (bK (i:=2) (wu Dp cO (hr.mono (by decide)) U (aG (XN.r (mD ["pane"] [] U (.at (aK aC8) ["script", "stone", "weaver", "book", "cell", "found"] (by decide +kernel)) (mX (aF (pv 1))) (iU (by decide +kernel) U U) (λ_ _ _ _ _=>nJ) (λ_ _ _ _ _=>Bw zF (zG U) U iT G5 (aG (aF (pv 0)) aO)))) aO)) (λh=>bB BR.nd U (by first | exact D1 U | exact C9 U) h))
  (aL (bK (i:=3) (bZ Vz (hr.mono (by decide)) U (aG (aF (pv 1)) aO)) (λh=>bB BR.nd U (by first | exact D1 U | exact C9 U) h))
  (aL (HW [] AU U (mX (XN.r (mD ["one"] [] U (.at (aK aC8) ["script", "stone", "weaver", "book", "cell", "found"] (by decide +kernel)) (mX (aCb (aF (pv 0)) (HJ (XN.r (aN))) (HJ (XN.r (aN))))) (iU (by decide +kernel) U U) (λ_ _ _ _ _=>nJ) (λ_ _ _ _ _=>bZ Iv (hr.mono (by decide)) U (aG (aF (pv 0)) aO))))) (kI (i:=4) BR.nd U (by first | exact D1 U | exact C9 U)) (aU (jK (eV (or_eq cQ U) sH (XN.r (bU (aF (pv 4)) (XN.r (aN)))) (XN.r (aN)) (cV _)) (aL (Jx (Jw Dq bD cO (hr.mono (by decide)) (pA aQ (gP (pv 2)) (by decide +kernel) U) (dF (XN.r (bU (XN.r (lB (aF (pv 4)) (XN.r (aN)))) (XN.r (fV eX (eY U) U dZ D9 (aG (aF (pv 1)) aO))))) gY)))
  (aU (jK (oY (qQ (XN.r (bZ rF (hr.mono (by decide)) U (aG (aF (pv 2)) (aG (aF (pv 3)) (aG (XN.r (bU (XN.r (lB (aF (pv 4)) (XN.r (aN)))) (XN.r (fV eX (eY U) U dZ D9 (aG (bQ hu (aF (pv 3)) (XN.r (bW)) (λ_ _=>rfl)) aO))))) aO))))))) (aU (cA (uR))) fM))) (aU (jK (XW.xt (Tu (eV (or_eq cQ U) sH (XN.r (bU (aF (pv 4)) (XN.r (aN)))) (XN.r (aN)) (cV _)) (Jr (eV (Gh cQ U) Gg (bQ hu (aF (pv 3)) (XN.r (bW)) (λ_ _=>rfl)) (jN aO) (cV _))))) (aU (jm (wz (wy (xu Wa U (hr.mono (by decide)) U (JC (pv 2) (JC (pv 3) (aGA (XN.r (lB (aF (pv 4)) (XN.r (aN)))) (xj))))))) (aU (cA (uR))) fM)) (aU (jm (wz (wy (xu Oc U (hr.mono (by decide)) U (JC (pv 2) (JC (pv 3) (aGA (XN.r (lB (aF (pv 4)) (XN.r (aN)))) (xj))))))) (aU (cA (uR))) fM)))))))
  (aL (bK (i:=5) (Cj xO bD (hr.mono (by decide)) (dM aQ (aF (pv 2)) (by decide +kernel) U)) (λh=>bB BR.nd U (by first | exact D1 U | exact C9 U) h))
  (aU (cA (Ml (XN.r (Hg (or_eq cQ U) sH (XN.r (fV eX (eY U) U dZ D9 (aG (aF (pv 5)) aO))) (XN.r (fV eX (eY U) U dZ D9 (aG (bQ hu (aF (pv 3)) (XN.r (bW)) (λ_ _=>rfl)) aO))) (cV _))) (wF (Hg (or_eq cQ U) sH (aF (pv 5)) (bQ hu (aF (pv 3)) (XN.r (bW)) (λ_ _=>rfl)) (cV _))))))))))⟩
end
end Rs

namespace Rs
open PySem L2
local macro_rules | `(tactic| walk_at "lt")=>`(tactic| exact T7 rfl)
local macro_rules | `(tactic| walk_at "sc")=>`(tactic| first | omega | with_reducible assumption | exact S8 (by decide) | exact Hx (by omega) (by omega) | exact aJO (by omega) (by omega))
local macro_rules | `(tactic| walk_at "op")=>`(tactic| first | with_reducible assumption | with_reducible exact cP _ _ | with_reducible exact lR _ _ | with_reducible exact mQ _ _ | with_reducible exact rP _ _ | with_reducible exact Ep _ _ | with_reducible exact Rm _ _ | with_reducible exact dGe_int _ _ | with_reducible exact JH _ _ | with_reducible exact jP _ | with_reducible exact Uq _ | with_reducible exact dLen_tup _ | ((with_reducible apply iG);walk_at "sc") | ((with_reducible apply bC);walk_at "sc") | ((with_reducible apply dW);(walk_at "sc");walk_at "sc") | ((with_reducible apply yE);exact⟨by decide,by decide,by omega⟩) | ((with_reducible apply fJ);(walk_at "sc");walk_at "sc"))
local macro_rules | `(tactic| walk_at "ea")=>`(tactic| first | with_reducible exact aCW | ((with_reducible apply aA);(walk_at "ev");walk_at "ea"))
local macro_rules | `(tactic| walk_at "ev")=>`(tactic| first | ((with_reducible apply JK);exact rfl) | with_reducible exact aJR | with_reducible assumption | ((with_reducible apply aH);(walk_at "ev");(walk_at "ev");walk_at "op") | ((with_reducible apply cT);(walk_at "ea");walk_at "op") | ((with_reducible apply bH);(walk_at "ea");exact rfl;with_reducible assumption) | ((with_reducible apply aX);(walk_at "ev");exact rfl) | ((with_reducible apply rR);walk_at "ev") | ((with_reducible apply iC);(walk_at "ea");walk_at "lt") | ((with_reducible apply iD);(walk_at "ea");walk_at "lt"))
local macro_rules | `(tactic| walk_at "et")=>`(tactic| first | ((with_reducible apply lH);walk_at "et") | ((with_reducible apply Cr);(walk_at "et");walk_at "et") | ((with_reducible apply zN);(walk_at "et");walk_at "et") | ((with_reducible apply bR);walk_at "ev"))
local macro_rules | `(tactic| walk_at "set")=>`(tactic| (apply aCS;(walk_at "ev");(walk_at "lt")))
local macro_rules | `(tactic| walk_at "q")=>`(tactic| (apply cC;(walk_at "ev");(walk_at "lt")))
local macro_rules | `(tactic| walk_at "op")=>`(tactic| first | with_reducible assumption | with_reducible exact cP _ _ | with_reducible exact lR _ _ | with_reducible exact mQ _ _ | with_reducible exact rP _ _ | with_reducible exact Ep _ _ | with_reducible exact Rm _ _ | with_reducible exact dGe_int _ _ | with_reducible exact JH _ _ | with_reducible exact jP _ | with_reducible exact qD _ | with_reducible exact Uv _ _ _ | with_reducible exact dMin2_int _ _ | with_reducible exact Zr _ _ | with_reducible exact dIntB_bl _ | with_reducible exact JP _ | with_reducible exact Ux _ | with_reducible exact Cv _ | with_reducible exact Kh _ | ((with_reducible apply Mx);omega) | with_reducible exact Uq _ | with_reducible exact dLen_tup _ | ((with_reducible apply iG);walk_at "sc") | ((with_reducible apply dMulB_int);(walk_at "sc");walk_at "sc") | ((with_reducible apply bC);walk_at "sc") | ((with_reducible apply dW);(walk_at "sc");walk_at "sc") | ((with_reducible apply yE);exact⟨by decide,by decide,by omega⟩) | ((with_reducible apply fJ);(walk_at "sc");walk_at "sc"))
def nY(cs:List tY)(l:List Int)(fP:Int):List Int:=((D4 cs.length).filter λk=>decide ((at_ cs k).fP=fP)&&!decide ((k:Int)∈l)).map λk=>((k:Nat):Int)
theorem Dr{cs:List tY}{l:List Int}{fP:Int}{x:Int}:x∈nY cs l fP↔0≤x∧x<cs.length∧(at_ cs x.toNat).fP=fP∧x∉l:=by
 unfold nY;rw[J2];constructor
 ·rintro⟨k,hk,rfl⟩
  obtain⟨h1,h2⟩:=N1.mp hk;rw[F9]at h1;rw[G7,decide_eq_true_iff]at h2;rw[D7];exact⟨by omega,by omega,h2.1,by simpa using h2.2⟩
 ·rintro⟨h0,h1,h2,h3⟩
  refine⟨x.toNat,N1.mpr ⟨F9.mpr (by omega),?_⟩,by omega⟩;rw[G7,decide_eq_true_iff,show ((x.toNat:Nat):Int)=x by omega];exact⟨h2,by simpa using h3⟩
theorem LQ(cs:List tY)(l:List Int)(fP:Int):(nY cs l fP).Pairwise (·<·):=by unfold nY;rw[i5];exact(S6.sublist R0).imp λh=>by omega
theorem ZC(cs:List tY)(l:List Int)(fP:Int):(nY cs l fP).length≤cs.length:=by unfold nY;rw[B6];exact G0 (List.length_filter_le _ _) (by rw[D8];exact C5 _)
def Nums(cs:List tY)(ks:List Int):Prop:=ks.Nodup∧∀x∈ks,0≤x∧x<(cs.length:Int)
theorem Nums.len{cs:List tY}{ks:List Int}(h:Nums cs ks):ks.length≤cs.length:=qW _ _ h.1 h.2
structure Bn where
 bT:List (List (List Int))
 asked:List tY
 held:List Int
 nk:List (Int×Int)
 nv:List Int
def vZ(p:Int×Int):List Key:=[.inl p.1,.inl p.2]
theorem Ln{a b:Int×Int}(h:vZ a=vZ b):a=b:=by unfold vZ at h;injection h with h1 h2;injection h2 with h2 _;injection h1 with h1;injection h2 with h2;exact j6 h1 h2
def fY(p:List (List Int)):D:=.lst (p.map dTup)
def pD(ps:List (List (List Int))):D:=.lst (ps.map fY)
def wA(n:Nat)(cs:List tY)(l:List Int):List D:=(D4 n).map λp=>aP (nY cs l ((p:Nat):Int))
def Xq:List Str:=["panes", "asked", "newest", "held", "unsettled"]
def fD(C:A7)(a b c d e:D):D:=.ins C Xq [a,b,c,d,e]
def lV(C:A7)(b:Bn)(e:List D):D:=fD C (pD b.bT) (sU b.asked) (.dt (b.nk.map vZ) (b.nv.map D.int)) (Qm b.held) (.lst e)
def dR(C:A7)(b:Bn):D:=lV C b (wA b.bT.length b.asked b.held)
theorem Od:posK Xq "panes" = NC 0:=by decide +kernel
theorem Oe:posK Xq "asked" = NC 1:=by decide +kernel
theorem Iw:posK Xq "newest" = NC 2:=by decide +kernel
theorem Wc:posK Xq "held" = NC 3:=by decide +kernel
theorem LR:posK Xq "unsettled" = NC 4:=by decide +kernel
section
variable{C:A7}{a b c d e x:D}
theorem Og:fO C "panes" (fD C a b c d e)=NC a:=by unfold fO fD;dsimp only;rw[if_pos U,Od];rfl
theorem rG:fO C "asked" (fD C a b c d e)=NC b:=by unfold fO fD;dsimp only;rw[if_pos U,Oe];rfl
theorem Iz:fO C "newest" (fD C a b c d e)=NC c:=by unfold fO fD;dsimp only;rw[if_pos U,Iw];rfl
theorem ZD:fO C "held" (fD C a b c d e)=NC d:=by unfold fO fD;dsimp only;rw[if_pos U,Wc];rfl
theorem yx:fO C "unsettled" (fD C a b c d e)=NC e:=by unfold fO fD;dsimp only;rw[if_pos U,LR];rfl
theorem tD{s:L2.Step}{d x:D}{j:Nat}(h1:Fx s d=NC j)(h2:(kids d)[j]?=NC x):gC [s] d=NC x:=by unfold gC;rw[h1,C4,h2];rfl
theorem qN{s:L2.Step}{d x y:D}{j:Nat}(h1:Fx s d=NC j)(h2:(kids d)[j]?=NC y):fG [s] d x=Js d ((kids d).set j x):=by show (match Fx s d with | some j=>_ | none=>_)=_;rw[h1];show (match (kids d)[j]? with | some c=>_ | none=>_)=_;rw[h2];rfl
theorem BV{s:L2.Step}{p:List L2.Step}{d y:D}(h:gC [s] d=NC y):gC (s::p) d=gC p y:=by show ((Fx s d).bind λj=>((kids d)[j]?).bind (gC p))=gC p y;unfold gC at h;obtain⟨j,h1,h2⟩:=bA h;obtain⟨z,h3,h4⟩:=bA h2;unfold gC at h4;cases h4;rw[h1,C4,h3,C4]
theorem BW{s:L2.Step}{p:List L2.Step}{d y x:D}(h:gC [s] d=NC y):fG (s::p) d x=fG [s] d (fG p y x):=by unfold gC at h;obtain⟨j,h1,h2⟩:=bA h;obtain⟨z,h3,h4⟩:=bA h2;unfold gC at h4;cases h4;rw[qN h1 h3];show (match Fx s d with | some j=>_ | none=>_)=_;rw[h1];show (match (kids d)[j]? with | some c=>_ | none=>_)=_;rw[h3]
theorem xP{f:Str}{j:Nat}(h:posK Xq f=NC j):Fx (.fld C f) (fD C a b c d e)=NC j:=by show (if C=C then posK Xq f else none)=NC j;rw[if_pos rfl];exact h
theorem BX:gC [.fld C "panes"] (fD C a b c d e)=NC a:=tD (xP Od) U
theorem aA5:gC [.fld C "asked"] (fD C a b c d e)=NC b:=tD (xP Oe) U
theorem nq:gC [.fld C "newest"] (fD C a b c d e)=NC c:=tD (xP Iw) U
theorem aDd:gC [.fld C "held"] (fD C a b c d e)=NC d:=tD (xP Wc) U
theorem MF:gC [.fld C "unsettled"] (fD C a b c d e)=NC e:=tD (xP LR) U
theorem aA6:fG [.fld C "panes"] (fD C a b c d e) x=fD C x b c d e:=qN (xP Od) (y:=a) U
theorem aA7:fG [.fld C "asked"] (fD C a b c d e) x=fD C a x c d e:=qN (xP Oe) (y:=b) U
theorem nu:fG [.fld C "newest"] (fD C a b c d e) x=fD C a b x d e:=qN (xP Iw) (y:=c) U
theorem aDe:fG [.fld C "held"] (fD C a b c d e) x=fD C a b c x e:=qN (xP Wc) (y:=d) U
theorem yz:fG [.fld C "unsettled"] (fD C a b c d e) x=fD C a b c d x:=qN (xP LR) (y:=e) U
theorem oh{xs:List D}{k:Nat}(h:xs[k]?=NC x):gC [.ix k] (.lst xs)=NC x:=tD (s:=.ix k) (d:=.lst xs) (j:=k) U h
theorem ou{xs:List D}{k:Nat}{y:D}(h:xs[k]?=NC y):fG [.ix k] (.lst xs) x=.lst (xs.set k x):=qN (s:=.ix k) (d:=.lst xs) (j:=k) U h
end
theorem aDf{π:FP}{g:FE}{e:DE}{p:List L2.Step}{k:Int}(h1:π e=NC p)(h2:g e=NC (.int k))(h3:0≤k):vd π g e=NC (p++[.ix k.toNat]):=by unfold vd;rw[h1,C4,h2,C4];dsimp only;rw[if_pos h3]
theorem vP{env:EN}{i:Nat}{d0 d:D}{ds:List D}{π:FP}{p:List L2.Step}{f:FE}{C:A7}{nm:List Str}{x:Str}(h1:env[i]?=NC (.own d0))(h2:π (rE env)=NC p)(h3:gC p d0=NC (.ins C nm ds))(h4:f (rE env)=NC d)(hl:nm.length<900)(hx:posK nm x=none):yD C i π x f env=.next (env.set i (.own (fG p d0 (.ins C (nm++[x]) (ds++[d]))))):=by rw[aIe h1 h2 h3 h4 hl];unfold Yx;rw[hx]
def lastAt(cs:List tY)(p q:Int):Option Int:=((D4 cs.length).filter λk=>decide ((at_ cs k).fP=p∧(at_ cs k).place=q)).getLast?.map λk=>((k:Nat):Int)
theorem Ds(cs:List tY)(c:tY)(p q:Int):lastAt (cs++[c]) p q=if c.fP=p∧c.place=q then NC (cs.length:Int)else lastAt cs p q:=by
 unfold lastAt;have e:(D4 cs.length).filter (λk=>decide ((at_ (cs++[c]) k).fP=p∧(at_ (cs++[c]) k).place=q))=(D4 cs.length).filter λk=>decide ((at_ cs k).fP=p∧(at_ cs k).place=q):=i6 λk hk=>by rw[vC (F9.mp hk)]
 rw[C7,show cs.length+[c].length=cs.length+1 from rfl,l0,W4,e];by_cases h:c.fP=p∧c.place=q
 ·rw[if_pos h,Y5 (by rw[zR];exact decide_eq_true h),Z0,List.getLast?_concat];rfl
 ·rw[if_neg h,Y6 (by rw[zR];simpa using h),Z0,F3]
theorem Fe{cs:List tY}{p q k:Int}(h:lastAt cs p q=NC k):0≤k∧k<(cs.length:Int)∧(at_ cs k.toNat).fP=p∧(at_ cs k.toNat).place=q:=by unfold lastAt at h;obtain⟨j,h1,rfl⟩:=lY h;have hm:=List.mem_of_getLast? h1;obtain⟨m1,m2⟩:=N1.mp hm;have:=F9.mp m1;have m2:=of_decide_eq_true m2;rw[D7];exact⟨by omega,by omega,m2⟩
theorem yP{α β:Type} [DecidableEq α] [DecidableEq β] {φ:α→β} (hi:∀a b,φ a=φ b→a=b) (k:α):∀ks:List α,posK (ks.map φ) (φ k)=posK ks k
 | []=>rfl
 | a::ks=>by
  rw[D3];unfold posK;rw[yP hi k ks];by_cases c:a=k
  ·rw[if_pos c,if_pos (by rw[c])]
  ·rw[if_neg c,if_neg λz=>c (hi _ _ z)]
theorem ZF{α β:Type} [DecidableEq α] [DecidableEq β] {φ:α→β} (hi:∀a b,φ a=φ b→a=b) (k:α) (ks:List α):mL (ks.map φ) (φ k)=(mL ks k).map φ:=by
 unfold mL;rw[yP hi];split
 ·rfl
 ·rw[J3];rfl
theorem ZG{α β γ δ:Type} [DecidableEq α] [DecidableEq β] {φ:α→β} (hi:∀a b,φ a=φ b→a=b) (ψ:γ→δ) (k:α) (ks:List α) (ds:List γ) (d:γ):putD (ks.map φ) (ds.map ψ) (φ k) (ψ d)=(putD ks ds k d).map ψ:=by
 unfold putD;rw[yP hi];split
 ·rw[List.zipWith_map,List.map_zipWith];congr 1
  funext a b
  by_cases c:a=k
  ·rw[if_pos c,if_pos (by rw[c])]
  ·rw[if_neg c,if_neg λz=>c (hi _ _ z)]
 ·rw[J3];rfl
theorem aIp{α β:Type} [DecidableEq α] {ks:List α} {ds:List β} {k k':α} {d:β} {j:Nat} (h:posK ks k'=NC j) (hl:ks.length=ds.length):(P9 (λa b=>if a=k then d else b) ks ds)[j]?=if k'=k then NC d else ds[j]?:=by
 obtain⟨h1,h2⟩:=uB h;rw[List.getElem?_zipWith,h2,B7 (by omega)];show NC (if k'=k then d else ds[j])=_
 split<;>rfl
theorem Am{α β:Type} [DecidableEq α] {k k':α} {d:β}:∀{ks:List α} {ds:List β},ks.length=ds.length→((posK (mL ks k) k').bind λj=>(putD ks ds k d)[j]?)=if k'=k then NC d else(posK ks k').bind λj=>ds[j]?
 | [],ds,h=>by
  cases ds with
  | cons=>simp at h
  | nil=>
   show ((posK [k] k').bind λj=>[d][j]?)=_;unfold posK;by_cases c:k=k'
   ·rw[if_pos c,if_pos c.symm];rfl
   ·rw[if_neg c,if_neg λz=>c z.symm];rfl
 | a::ks,[],h=>by simp at h
 | a::ks,x::ds,h=>by
  have h':ks.length=ds.length:=by simpa using h
  by_cases c:a=k
  ·have e0:posK (a::ks) k=NC 0:=by unfold posK;rw[if_pos c]
   unfold mL putD;rw[e0];simp only[e9,if_true];cases q:posK (a::ks) k' with
   | none=>
    have:k'≠k:=λz=>by rw[z,e0]at q;cases q
    rw[if_neg this];rfl
   | some j=>rw[C4,aIp q h];rfl
  ·have e1:mL (a::ks) k=a::mL ks k:=by
    have e0:posK (a::ks) k=(posK ks k).map (·+1):=by show (if a=k then NC 0 else(posK ks k).map (·+1))=_;rw[if_neg c]
    unfold mL;rw[e0];cases posK ks k<;>rfl
   have e2:putD (a::ks) (x::ds) k d=x::putD ks ds k d:=by
    have e0:posK (a::ks) k=(posK ks k).map (·+1):=by show (if a=k then NC 0 else(posK ks k).map (·+1))=_;rw[if_neg c]
    unfold putD;rw[e0];cases posK ks k with
    | none=>rfl
    | some j=>show (if a=k then d else x)::_=_;rw[if_neg c];rfl
   rw[e1,e2];have ih:=Am (k:=k) (k':=k') (d:=d) h';show ((if a=k' then NC 0 else(posK (mL ks k) k').map (·+1)).bind _)=if k'=k then NC d else((if a=k' then NC 0 else(posK ks k').map (·+1)).bind _);by_cases c2:a=k'
   ·rw[if_pos c2,if_pos c2,if_neg (by rw[←c2];exact c)];rfl
   ·rw[if_neg c2,if_neg c2];have m:∀{γ:Type}(o:Option Nat)(y:γ)(l:List γ),((o.map (·+1)).bind λj=>(y::l)[j]?)=o.bind λj=>l[j]?:=λo y l=>by cases o<;>rfl
    rw[m,m,ih]
structure Ja(b:Bn):Prop where
 good:Good b.asked
 nums:Nums b.asked b.held
 zb:∀k,k<b.asked.length→0≤(at_ b.asked k).fP∧(at_ b.asked k).fP<(b.bT.length:Int)∧0≤(L2.at_ b.asked k).place∧(L2.at_ b.asked k).place<((b.bT.getD (L2.at_ b.asked k).fP.toNat []).length:Int)
 nl:b.nk.length=b.nv.length
 nw:∀p q:Int,((posK b.nk (p,q)).bind λj=>b.nv[j]?)=lastAt b.asked p q
 few:b.bT.length≤8
 nkl:b.nk.length≤b.asked.length
theorem BZ{ps:List (List (List Int))}{p:Int}(h0:0≤p)(h1:p<(ps.length:Int)):dU (pD ps) (.int p)=NC (fY (ps.getD p.toNat [])):=rQ h0 (by
 rw[B9,oR (d:=[]) (show p.toNat<ps.length by omega)]
 rfl)
theorem Oh(ps:List (List (List Int))):kO [pD ps]=NC (.int ps.length):=by show NC (D.int ((ps.map fY).length:Nat))=_;rw[B6]
theorem Lp(ps:List (List Int)):kO [fY ps]=NC (.int ps.length):=by show NC (D.int ((ps.map dTup).length:Nat))=_;rw[B6]
variable(κ:Nat→A7)
theorem Lq{b:Bn}{e:List D}{p:Int}(h0:0≤p)(h1:p<(b.bT.length:Int)):jQ κ [lV (κ 0) b e,.int p]=NC .non:=by
 refine Hy (env':=[.fro (lV (κ 0) b e),.fro (.int p)]) U ?_;unfold Ba;rw[pH]
 ·rfl
 refine(lH (JS U U (cT (aA (dJ U Og) U) (Oh _)))).trans ?_;rw[decide_eq_true h0,decide_eq_true h1];rfl
theorem Gq{b:Bn}{e:List D}{p q:Int}(h0:0≤p)(h1:p<(b.bT.length:Int))(h2:0≤q)(h3:q<((b.bT.getD p.toNat []).length:Int)):jA κ [lV (κ 0) b e,.int p,.int q]=NC .non:=by
 refine Hy (env':=[.fro (lV (κ 0) b e),.fro (.int p),.fro (.int q)]) U ?_;unfold yJ;refine(fH (env':=[.fro (lV (κ 0) b e),.fro (.int p),.fro (.int q)]) (Cw (d:=.non) ?_)).trans ?_
 ·exact bY (nm:=Xq) U (by decide +kernel) U U (Lq κ h0 h1)
 rw[pH]
 ·rfl
 refine(lH (JS U U (cT (aA (aH (dJ U Og) U (BZ h0 h1)) U) (Lp _)))).trans ?_;rw[decide_eq_true h2,decide_eq_true h3];rfl
theorem vQ{b:Bn}{e:List D}{p:Int}(h0:0≤p)(h1:p<(b.asked.length:Int)):eG κ [lV (κ 0) b e,.int p]=NC .non:=by
 refine Hy (env':=[.fro (lV (κ 0) b e),.fro (.int p)]) U ?_;unfold wU;rw[pH]
 ·rfl
 refine(lH (JS U U (cT (aA (dJ U rG) U) (qD _)))).trans ?_;rw[decide_eq_true h0,decide_eq_true h1];rfl
def lE(b:Bn)(p q:Int)(th ns:List Int):tY:=⟨p,q,th,bc (ns++(lastAt b.asked p q).toList)⟩
def Bn.put(b:Bn)(p q:Int)(th ns:List Int):Bn:={b with asked:=b.asked++[lE b p q th ns],nk:=mL b.nk (p,q),nv:=putD b.nk b.nv (p,q) (b.asked.length:Int)}
theorem CG{cs:List tY}{l:List Int}{c:tY}{p:Int}(h:(cs.length:Int)∉l):nY (cs++[c]) l p=if c.fP=p then nY cs l p++[(cs.length:Int)]else nY cs l p:=by
 unfold nY;have e:(D4 cs.length).filter (λk=>decide ((at_ (cs++[c]) k).fP=p)&&!decide ((k:Int)∈l))=(D4 cs.length).filter λk=>decide ((at_ cs k).fP=p)&&!decide ((k:Int)∈l):=i6 λk hk=>by rw[vC (F9.mp hk)]
 rw[C7,show cs.length+[c].length=cs.length+1 from rfl,l0,W4,e,J3];by_cases q:c.fP=p
 ·rw[if_pos q,Y5 (by rw[zR,decide_eq_true q,decide_eq_false h];rfl)];rfl
 ·rw[if_neg q,Y6 (by rw[zR,decide_eq_false q];simp),Z0,G6,F3]
theorem aFD{n:Nat}{cs:List tY}{l:List Int}{c:tY}(h:(cs.length:Int)∉l)(h0:0≤c.fP)(h1:c.fP<(n:Int)):(wA n cs l).set c.fP.toNat (aP (nY cs l c.fP++[(cs.length:Int)]))=wA n (cs++[c]) l:=by
 unfold wA;apply K1;intro k;rw[F7,B6,D8,B9,B9];by_cases e:c.fP.toNat=k
 ·rw[if_pos e,if_pos (by omega),G3 (by omega),G1,CG h,if_pos (show c.fP=((k:Nat):Int) by omega),show ((k:Nat):Int)=c.fP by omega]
 ·rw[if_neg e];by_cases hk:k<n
  ·rw[G3 hk,G1,G1,CG h,if_neg (by omega)]
  ·rw[E2 (by rw[D8];omega)];rfl
theorem MJ{n:Nat}{cs:List tY}{l:List Int}{p:Int}(h0:0≤p)(h1:p<(n:Int)):(wA n cs l)[p.toNat]?=NC (aP (nY cs l p)):=by unfold wA;rw[B9,G3 (by omega),G1,show ((p.toNat:Nat):Int)=p by omega]
theorem Ja.put{b:Bn}(h:Ja b){p q:Int}{th ns:List Int}(h60:b.asked.length<124)(h0:0≤p)(h1:p<(b.bT.length:Int))(h2:0≤q)(h3:q<((b.bT.getD p.toNat []).length:Int))(hn:∀m∈ns,0≤m∧m<(b.asked.length:Int))(hl:ns.length≤8):Ja (b.put p q th ns):=by
  have aJV:∀m∈(lE b p q th ns).needs,0≤m∧m<(b.asked.length:Int):=λm hm=>by
    have hm:=(Rg _ _).mp hm;rcases F2.mp hm with z | z
    · exact hn m z
    · cases e:lastAt b.asked p q with
      | none=>rw[e]at z;cases z
      | some k=>rw[e]at z;rw[E3.mp z];have:=Fe e;exact⟨this.1,this.2.1⟩
  have hlen:(b.put p q th ns).asked.length=b.asked.length+1:=by unfold Bn.put;rw[C7];rfl
  have hcase:∀k,k<(b.put p q th ns).asked.length→(k<b.asked.length∧at_ (b.put p q th ns).asked k=at_ b.asked k)∨(k=b.asked.length∧at_ (b.put p q th ns).asked k=lE b p q th ns):=λk hk=>by
    rw[hlen]at hk;rcases K4 k b.asked.length with z | z
    · exact .inl ⟨z,vC z⟩
    · have e:k=b.asked.length:=by omega
      subst e;exact .inr ⟨U,zR _ _⟩
  refine⟨⟨by rw[hlen];omega,λk hk=>?_⟩,⟨h.nums.1,λx hx=>?_⟩,λk hk=>?_,?_,λp' q'=>?_,h.few,?_⟩
  · rcases hcase k hk with ⟨a,e⟩ | ⟨a,e⟩
    · rw[e];exact h.good.2 k a
    · rw[e,a]
      refine⟨aJV,IV _,?_⟩;have:=vz (ns++(lastAt b.asked p q).toList);show (bc (ns++(lastAt b.asked p q).toList)).length≤9;rw[C7]at this;have:(lastAt b.asked p q).toList.length≤1:=by cases lastAt b.asked p q<;>simp
      omega
  · have:=h.nums.2 x hx
    rw[hlen];omega
  · rcases hcase k hk with ⟨a,e⟩ | ⟨a,e⟩
    · have:=h.zb k a
      rw[e];exact this
    · rw[e]
      exact⟨h0,h1,h2,h3⟩
  · exact xX h.nl
  · show ((posK (mL b.nk (p,q)) (p',q')).bind λj=>(putD b.nk b.nv (p,q) (b.asked.length:Int))[j]?)=lastAt (b.asked++[lE b p q th ns]) p' q'
    rw[Am h.nl,Ds,h.nw];by_cases c:(p',q')=(p,q)
    · have c1:p'=p:=congrArg Prod.fst c
      have c2:q'=q:=congrArg Prod.snd c;rw[if_pos c,if_pos ⟨c1.symm,c2.symm⟩]
    · rw[if_neg c,if_neg λz=>c (j6 z.1.symm z.2.symm)]
  · have:=h.nkl
    rw[hlen];show (mL b.nk (p,q)).length≤_;unfold mL;split
    · omega
    · rw[C7];simp;omega
theorem aDg{b:Bn}(h:Ja b)(p q:Int):posK (b.nk.map vZ) (vZ (p,q))=posK b.nk (p,q):=yP (λ_ _=>Ln) _ _
theorem aIq{b:Bn}(h:Ja b){p q:Int}{th ns:List Int}{nd:D}(h0:0≤p)(h1:p<(b.bT.length:Int))(h2:0≤q)(h3:q<((b.bT.getD p.toNat []).length:Int))(hn:∀m∈ns,0≤m∧m<(b.asked.length:Int))(hl:ns.length≤50)(hnd:(nd=.non∧ns=[])∨nd=aP ns):Ex κ [dR (κ 0) b,.int p,.int q,dTup th,nd]=NC (.int b.asked.length,dR (κ 0) (b.put p q th ns)):=by
  refine lJ U λv=>?_;unfold BK;refine kh (d:=.non) (bY U (show ("check_place" : Str)∉Xq by decide +kernel) U U (Gq κ h0 h1 h2 h3)) ?_;have h60:=h.good.1;refine cC (d:=aP ns) ?_ (by exact Nat.le_of_ble_eq_true U) ?_
  · rcases hnd with ⟨rfl,rfl⟩ | rfl
    · exact aGG (bR (aH U U (Eu NG .non))) U
    · exact aGH (bR (aH U U (Eu NG (aP ns)))) (cT (aA U U) (qT (cY ns)))
  refine kj (ns:=ns) [.inn v (dR (κ 0) b),.fro (.int p),.fro (.int q),.fro (dTup th),.fro nd,.own (aP ns),lv ns .no ns.length,.no] U U (λv2 k env=>env=[.inn v (dR (κ 0) b),.fro (.int p),.fro (.int q),.fro (dTup th),.fro nd,.inn v2 (aP ns),lv ns .no k,.no]) (λv2=>rfl) (λv2 k env e=>by rw[e];rfl) ?_ (λv2 env e=>by rw[e];rfl) ?_
  · rintro v2 k x env hx rfl
    refine⟨by walk_at "lt", _,Cw (d:=.non) (bY U (show ("check_change" : Str)∉Xq by decide +kernel) U U (vQ κ (hn x (E6 hx)).1 (hn x (E6 hx)).2)),?_⟩;have e:lv ns .no (k+1)=.fro (.int x):=by show SD.fro (.int (ns.getD k 0))=_;rw[qC hx]
    rw[e];rfl
  have hkey:∀vv7:SD,Mv (aB (aD 1) (aB (aD 2) aM)) (rE [.inn v (dR (κ 0) b),.fro (.int p),.fro (.int q),.fro (dTup th),.fro nd,.own (aP ns),lv ns .no ns.length,vv7])=NC (vZ (p,q)):=λ_=>rfl;have hin:fB (Wz NG (Mv (aB (aD 1) (aB (aD 2) aM))) (tL (fO (κ 0) "newest") (aD 0))) (rE [.inn v (dR (κ 0) b),.fro (.int p),.fro (.int q),.fro (dTup th),.fro nd,.own (aP ns),lv ns .no ns.length,.no])=NC (posK b.nk (p,q)).isSome:=by refine bR ?_;unfold Wz;rw[hkey,C4];rw[show tL (fO (κ 0) "newest") (aD 0) (rE [.inn v (dR (κ 0) b),.fro (.int p),.fro (.int q),.fro (dTup th),.fro nd,.own (aP ns),lv ns .no ns.length,.no])=NC (.dt (b.nk.map vZ) (b.nv.map D.int))from dJ U Iz,C4];dsimp only;rw[aDg h];rfl
  have hif:uV (fB (Wz NG (Mv (aB (aD 1) (aB (aD 2) aM))) (tL (fO (κ 0) "newest") (aD 0)))) (zH 5 dD (Uk (tL (fO (κ 0) "newest") (aD 0)) (Mv (aB (aD 1) (aB (aD 2) aM))))) gH [.inn v (dR (κ 0) b),.fro (.int p),.fro (.int q),.fro (dTup th),.fro nd,.own (aP ns),lv ns .no ns.length,.no]=.next [.inn v (dR (κ 0) b),.fro (.int p),.fro (.int q),.fro (dTup th),.fro nd,.own (aP (ns++(lastAt b.asked p q).toList)),lv ns .no ns.length,.no]:=by
    have hw:=h.nw p q;cases e:posK b.nk (p,q)with
    | none=>rw[e]at hin hw;rw[pH hin,←hw];show SR.next _=SR.next _;rw[show ((none:Option Nat).bind λj=>b.nv[j]?)=none from rfl];show SR.next _=SR.next [_,_,_,_,_,.own (aP (ns++[])),_,_];rw[F3]
    | some j=>
      rw[e]at hin hw;obtain⟨j1,j2⟩:=uB e;have hj:j<b.nv.length:=by rw[←h.nl];exact j1
      rw[Cp hin,←hw,C4,B7 hj];refine(jw (ds:=ns.map D.int) (d:=.int b.nv[j]) U ?_ (by rw[B6];omega)).trans ?_
      · unfold Uk
        rw[show tL (fO (κ 0) "newest") (aD 0) (rE [.inn v (dR (κ 0) b),.fro (.int p),.fro (.int q),.fro (dTup th),.fro nd,.own (aP ns),lv ns .no ns.length,.no])=NC (.dt (b.nk.map vZ) (b.nv.map D.int))from dJ U Iz,C4,hkey,C4];dsimp only;rw[aDg h,e,C4,B9,B7 hj];rfl
      · rw[vB]
        rfl
  refine aAW hif ?_;have h4:(ns++(lastAt b.asked p q).toList).length≤51:=by
    rw[C7];have:(lastAt b.asked p q).toList.length≤1:=by cases lastAt b.asked p q<;>simp
    omega
  refine cC (d:=.int b.asked.length) (cT (aA (dJ U rG) U) (qD _)) (by exact Nat.le_of_ble_eq_true U) ?_;refine mR (d:=dR (κ 0) b) U (Va (d0:=dR (κ 0) b) (ds:=b.asked.map Bj) (d:=Bj (lE b p q th ns)) U U aA5 ?_ (by rw[B6];omega)) U ?_
  · exact iC (aA (aX U U) (aA (aX U U) (aA (aX U (iR th)) (aA (cT (aA (dJ U (Uw (by omega))) U) (Pb _)) U)))) (by exact Nat.le_of_ble_eq_true U)
  rw[show fG ([]++[L2.Step.fld (κ 0) "asked"]) (dR (κ 0) b) (.lst (b.asked.map Bj++[Bj (lE b p q th ns)]))=fD (κ 0) (pD b.bT) (sU (b.asked++[lE b p q th ns])) (.dt (b.nk.map vZ) (b.nv.map D.int)) (Qm b.held) (.lst (wA b.bT.length b.asked b.held))from by rw[Zo];exact aA7];refine mR U (aFB (d:=.int b.asked.length) (k:=vZ (p,q)) U U nq U U U (by
    have:=h.nl;rw[B6];have:=h.nkl
    omega)) U ?_
  rw[show fG ([]++[L2.Step.fld (κ 0) "newest"]) (fD (κ 0) (pD b.bT) (sU (b.asked++[lE b p q th ns])) (.dt (b.nk.map vZ) (b.nv.map D.int)) (Qm b.held) (.lst (wA b.bT.length b.asked b.held))) (.dt (mL (b.nk.map vZ) (vZ (p,q))) (putD (b.nk.map vZ) (b.nv.map D.int) (vZ (p,q)) (.int b.asked.length)))=fD (κ 0) (pD b.bT) (sU (b.asked++[lE b p q th ns])) (.dt ((mL b.nk (p,q)).map vZ) ((putD b.nk b.nv (p,q) (b.asked.length:Int)).map D.int)) (Qm b.held) (.lst (wA b.bT.length b.asked b.held))from by
    rw[ZF (λ_ _=>Ln),ZG (λ_ _=>Ln) D.int];exact nu]
  refine mR U (Va (p:=[L2.Step.fld (κ 0) "unsettled", .ix p.toNat]) (ds:=(nY b.asked b.held p).map D.int) (d:=.int b.asked.length) U ?_ ((BV MF).trans (oh (MJ h0 h1))) (aX U U) ?_) U ?_
  · show (if 0≤p then _ else _)=_
    rw[if_pos h0];rfl
  · rw[B6]
    have:=ZC b.asked b.held p;omega
  refine zU U ⟨_,.inl U,?_⟩;show NC (SD.inn v (fG [L2.Step.fld (κ 0) "unsettled", .ix p.toNat] _ _))=NC (SD.inn v _);rw[BW MF,ou (MJ h0 h1),yz];have hnot:(b.asked.length:Int)∉b.held:=λz=>by have:=h.nums.2 _ z;omega
  have e:=aFD (n:=b.bT.length) (c:=lE b p q th ns) hnot h0 h1;rw[←vB]at e;rw[show p.toNat=(lE b p q th ns).fP.toNat from rfl,show nY b.asked b.held p=nY b.asked b.held (lE b p q th ns).fP from rfl,e];rfl
theorem aFE{vR:List (List (List Int))}(hl:vR.length≤8):vH κ [.ins (κ 0) [] [],pD vR]=NC (.non,dR (κ 0) ⟨vR,[],[],[],[]⟩):=by
 refine lJ U λv=>?_;unfold Vd;have h1:gU (mW (aD 1)) [] lG (fL dList (aB (aD 0) aM)) (rE ([.inn v (.ins (κ 0) [] []),.fro (pD vR)].set 0 (.own (.ins (κ 0) [] []))))=NC (pD vR):=Et (xs:=vR) (ψ:=fY) (φ:=fY) (jF U) (by omega) λx _=>cT (aA U U) (qT (Kg λd hd=>by
  obtain⟨t,_,rfl⟩:=J2.mp hd;exact iR t))
 refine mR U (vP (p:=[]) (nm:=[]) U U U h1 (by decide) U) U ?_;refine mR U (vP (p:=[]) (nm:=["panes"]) (d:=sU []) U U U U (by decide) (by decide +kernel)) U ?_;refine mR U (vP (p:=[]) (nm:=["panes", "asked"]) (d:=.dt [] []) U U U U (by decide) (by decide +kernel)) U ?_;refine mR U (vP (p:=[]) (nm:=["panes", "asked", "newest"]) (d:=Qm []) U U U U (by decide) (by decide +kernel)) U ?_;refine jz U (vP (p:=[]) (nm:=["panes", "asked", "newest", "held"]) (d:=.lst (vR.map λ_=>aP [])) U U U (Et (xs:=vR) (ψ:=fY) (φ:=λ_=>aP []) (jF U) (by omega) λx _=>rfl) (by decide) (by decide +kernel)) U ⟨_,.inr ⟨U,U⟩,?_⟩;have e:(vR.map λ_=>aP [])=wA vR.length [] []:=by
  unfold wA;apply K1;intro k;rw[B9,B9];by_cases hk:k<vR.length
  ·rw[B7 hk,G3 hk];rfl
  ·rw[E2 (by omega),E2 (by rw[D8];omega)];rfl
 unfold dR lV;dsimp only;rw[←e];rfl
theorem Ja.init{vR:List (List (List Int))}(hl:vR.length≤8):Ja ⟨vR,[],[],[],[]⟩:=⟨⟨M0 _,λk hk=>absurd hk (L6 _)⟩,⟨a8,λx hx=>by cases hx⟩,λk hk=>absurd hk (L6 _),U,λp q=>rfl,hl,C5 _⟩
def val(ps:List (List (List Int)))(p q:Nat):List Int:=(ps.getD p []).getD q []
def topOf(cs:List tY)(d:List Int):Option Int→List Int
 | some k=>(at_ cs k.toNat).thing
 | none=>d
theorem zc{b:Bn}(p q:Int):posK (b.nk.map vZ) (vZ (p,q))=posK b.nk (p,q):=yP (λ_ _=>Ln) _ _
def face(b:Bn)(p q:Int):List Int:=topOf b.asked (val b.bT p.toNat q.toNat) (lastAt b.asked p q)
theorem aDh{ps:List (List Int)}{q:Int}(h0:0≤q)(h1:q<(ps.length:Int)):dU (fY ps) (.int q)=NC (dTup (ps.getD q.toNat [])):=rQ h0 (by
 rw[B9,oR (d:=[]) (show q.toNat<ps.length by omega)]
 rfl)
theorem aFF{b:Bn}(h:Ja b){p q:Int}(h0:0≤p)(h1:p<(b.bT.length:Int))(h2:0≤q)(h3:q<((b.bT.getD p.toNat []).length:Int)):vJ κ [dR (κ 0) b,.int p,.int q]=NC (dTup (face b p q)):=by
 suffices hh:∃d,vJ κ [dR (κ 0) b,.int p,.int q]=NC d∧d=dTup (face b p q) by obtain⟨d,e1,rfl⟩:=hh;exact e1
 refine yq U ?_;unfold Vh;refine kh (d:=.non) (bY U (show ("check_place" : Str)∉Xq by decide +kernel) U U (Gq κ h0 h1 h2 h3)) ?_;have hkey:Mv (aB (aD 1) (aB (aD 2) aM)) (rE [.fro (dR (κ 0) b),.fro (.int p),.fro (.int q)])=NC (vZ (p,q)):=rfl;have hnw:tL (fO (κ 0) "newest") (aD 0) (rE [.fro (dR (κ 0) b),.fro (.int p),.fro (.int q)])=NC (.dt (b.nk.map vZ) (b.nv.map D.int)):=dJ U Iz;have hin:fB (Wz NG (Mv (aB (aD 1) (aB (aD 2) aM))) (tL (fO (κ 0) "newest") (aD 0))) (rE [.fro (dR (κ 0) b),.fro (.int p),.fro (.int q)])=NC (posK b.nk (p,q)).isSome:=by refine bR ?_;unfold Wz;rw[hkey,C4,hnw,C4];dsimp only;rw[zc];rfl
 have hw:=h.nw p q;unfold face;cases e:posK b.nk (p,q)with
 | some j=>
  rw[e]at hin hw;obtain⟨j1,j2⟩:=uB e;have hj:j<b.nv.length:=by rw[←h.nl];exact j1
  rw[C4,B7 hj]at hw;have hl:=Fe hw.symm;rw[←hw];refine aCZ hin U ?_;have hg:Uk (tL (fO (κ 0) "newest") (aD 0)) (Mv (aB (aD 1) (aB (aD 2) aM))) (rE [.fro (dR (κ 0) b),.fro (.int p),.fro (.int q)])=NC (.int b.nv[j]):=by unfold Uk;rw[hnw,C4,hkey,C4];dsimp only;rw[zc,e,C4,B9,B7 hj];rfl
  have hc:dU (sU b.asked) (.int b.nv[j])=NC (Bj (at_ b.asked b.nv[j].toNat)):=by have:=Mx (cs:=b.asked) (k:=b.nv[j].toNat) (by omega);rw[show ((b.nv[j].toNat:Nat):Int)=b.nv[j] by omega]at this;exact this
  exact WM (aX (aH (aH (dJ U rG) hg hc) U (Cv _)) (iR _)) ⟨_,U,U⟩
 | none=>rw[e]at hin hw;rw[←hw];refine Az hin U ?_;apply Bh;exact pZ (aX (aH (aH (dJ U Og) U (BZ h0 h1)) U (aDh h2 h3)) (iR _)) ⟨_,U,U⟩
theorem aA8{b:Bn}{k:Int}(h0:0≤k)(h1:k<(b.asked.length:Int)):uG κ [dR (κ 0) b,.int k]=NC (Bj (at_ b.asked k.toNat)):=by
 refine mH U ?_;unfold Kw;refine(fH (env':=[.fro (dR (κ 0) b),.fro (.int k)]) (Cw (d:=.non) ?_)).trans ?_
 ·exact bY (nm:=Xq) U (by decide +kernel) U U (vQ κ h0 h1)
 have hc:dU (sU b.asked) (.int k)=NC (Bj (at_ b.asked k.toNat)):=by have:=Mx (cs:=b.asked) (k:=k.toNat) (by omega);rw[show ((k.toNat:Nat):Int)=k by omega]at this;exact this
 exact iB (aX (aH (dJ U rG) U hc) (jy _))
theorem ZJ{b:Bn}:rW κ [dR (κ 0) b]=NC (sU b.asked):=mH U (iB (cT (aA (dJ U rG) U) (qT (aC6 _))))
def aJW(cs:List tY)(l:List Int)(fP:Int)(r:List Int):Prop:=r.Pairwise (·<·)∧r.length≤cs.length∧∀x,x∈r↔(0≤x∧x<cs.length∧(at_ cs x.toNat).fP=fP∧x∉l)∧∀m∈(at_ cs x.toNat).needs,m∈l∨m∈r
theorem aDi{cs:List tY}{ks nums:List Int}(hg:Good cs)(hu:nums.Pairwise (·<·))(hn:∀x∈nums,0≤x∧x<cs.length)(hl:nums.length≤124):∃r,vI [sU cs,Qm ks,aP nums]=NC (aP r)∧r.Pairwise (·<·)∧r.length≤nums.length∧∀x,x∈r↔x∈nums∧∀m∈(at_ cs x.toNat).needs,m∈ks∨m∈r:=by
  suffices h:∃d,vI [sU cs,Qm ks,aP nums]=NC d∧∃r,d=aP r∧r.Pairwise (·<·)∧r.length≤nums.length∧∀x,x∈r↔x∈nums∧∀m∈(at_ cs x.toNat).needs,m∈ks∨m∈r by obtain⟨d,h1,r,rfl,h2⟩:=h;exact⟨r,h1,h2⟩
  refine oE U ?_;unfold Vg;refine cC (d:=Qm []) U (by exact Nat.le_of_ble_eq_true U) ?_;refine yh (xs:=nums.map D.int) (λn env=>∃(r:List Int)(v:SD),env=[.fro (sU cs),.fro (Qm ks),.fro (aP nums),.own (Qm r),v]∧r.Pairwise (·<·)∧r.length≤n∧∀x,x∈r↔x∈nums.take n∧∀m∈(at_ cs x.toNat).needs,m∈ks∨m∈r) U (jF U) ⟨[],_,U,.nil,C5 _,λx=>by simp⟩ ?_ ?_
  · rintro n x env hx ⟨r,v,rfl,h1,h2,h3⟩
    refine⟨by walk_at "lt", ?_⟩;rw[B9]at hx;cases qq:nums[n]? with
    | none=>rw[qq]at hx;cases hx
    | some y=>
      rw[qq]at hx;cases hx;have hnl:=(D2.mp qq).1;have hy:=hn y (E6 qq);obtain⟨k,rfl⟩:∃k:Nat,y=k:=⟨y.toNat,by omega⟩
      have hk:k<cs.length:=by omega
      obtain⟨g1,g2,g3⟩:=hg.2 k hk;have hc:=Mx (cs:=cs) hk;have htk:nums.take (n+1)=nums.take n++[(k:Int)]:=by rw[P7,qq];rfl
      have lt:∀z∈nums.take n,z<(k:Int):=λz hz=>by have hu':=hu.sublist (O1 (n+1) nums);rw[htk]at hu';exact(N3.mp hu').2.2 z hz k (by simp)
      have rlt:∀z∈r,z<(k:Int):=λz hz=>lt z ((h3 z).mp hz).1;have Dt:=yF (fi:=mW (f2 dU (f2 dU (aD 0) (aD 4)) (fC (.int 3)))) (fr:=[1,3]) (fc:=lG) (fe:=Wu (f2 (Fv NG) (aD 0) (aD 1)) (f2 (Fv NG) (aD 0) (aD 2))) (e:=rE [.fro (sU cs),.fro (Qm ks),.fro (aP nums),.own (Qm r),.fro (.int (k:Int))]) (ms:=(at_ cs k).needs) (λ_=>NF) (λm=>.bl (decide (m∈ks)||decide (m∈r)))
        (Zq (aH (aH U U hc) U (Kh _))) (by omega) (λm hm=>rfl) λm hm _=>yp (aH U U (Uv NG m ks)) (aH U U (Uv NG m r))
      rw[M6.mpr λ_ _=>rfl]at Dt;have hall:=Kl (λm:Int=>decide (m∈ks)||decide (m∈r)) (at_ cs k).needs;apply yg (b:=(at_ cs k).needs.all λm=>decide (m∈ks)||decide (m∈r))
      · exact bR (cT (aA Dt U) hall)
      · intro hb
        have hb:∀m∈(at_ cs k).needs,m∈ks∨m∈r:=λm hm=>by simpa using L8.mp hb m hm
        have hnr:(k:Int)∉r:=λz=>by have:=rlt _ z;omega
        have e:Qn r k=r++[(k:Int)]:=by unfold Qn;rw[if_neg hnr]
        have hp:=aGF (i:=3) (f:=aD 4) (f':=fC (.bl NF)) (env:=[.fro (sU cs),.fro (Qm ks),.fro (aP nums),.own (Qm r),.fro (.int (k:Int))]) (ks:=r) (k:=k) U U U (by omega);rw[e]at hp;refine⟨_,hp,r++[(k:Int)],_,U,?_,by rw[C7];simp;omega,λz=>?_⟩
        · refine N3.mpr ⟨h1,by simp,λz hz w hw=>?_⟩
          rw[E3.mp hw];exact rlt z hz
        · rw[htk,F2,F2]
          constructor
          · rintro(z1 | z1)
            · obtain⟨a1,a2⟩:=(h3 z).mp z1
              exact⟨.inl a1,λm hm=>(a2 m hm).imp id λq=>N2 _ q⟩
            · rw[E3.mp z1,D7]
              exact⟨.inr (by simp),λm hm=>(hb m hm).imp id λq=>N2 _ q⟩
          · rintro⟨z1,z2⟩
            rcases z1 with z1 | z1
            · refine .inl ((h3 z).mpr ⟨z1,λm hm=>(z2 m hm).imp id λq=>?_⟩)
              rcases F2.mp q with q | q
              · exact q
              · exfalso
                have a:=lt z z1;have zr:=hn z (O4 z1);have b:=(hg.2 z.toNat (by omega)).1 m hm;rw[E3.mp q]at b;omega
            · exact .inr z1
      · intro hb
        have hb:¬∀m∈(at_ cs k).needs,m∈ks∨m∈r:=λz=>by
          have:((at_ cs k).needs.all λm=>decide (m∈ks)||decide (m∈r))=NF:=L8.mpr λm hm=>by simpa using z m hm
          rw[this]at hb;cases hb
        apply aJS;refine⟨_,U,r,_,U,h1,by omega,λz=>?_⟩;rw[htk,F2];constructor
        · intro z1
          obtain⟨a1,a2⟩:=(h3 z).mp z1;exact⟨.inl a1,a2⟩
        · rintro⟨z1,z2⟩
          rcases z1 with z1 | z1
          · exact(h3 z).mpr ⟨z1,z2⟩
          · rw[E3.mp z1,D7]at z2
            exact absurd z2 hb
  · rintro env ⟨r,v,rfl,h1,h2,h3⟩
    rw[B6]at h2 h3;rw[O8]at h3;exact pZ (cT (aA U U) (aC7 r)) ⟨_,U,r,U,h1,h2,h3⟩
def Bn.strike(b:Bn)(k:Int):Bn:={b with bT:=b.bT.set (at_ b.asked k.toNat).fP.toNat ((b.bT.getD (at_ b.asked k.toNat).fP.toNat []).set (at_ b.asked k.toNat).place.toNat (at_ b.asked k.toNat).thing),held:=b.held++[k]}
def Bn.cW(b:Bn)(ks:List Int):Bn:=ks.foldl Bn.strike b
theorem oU(ks:List Int):∀b:Bn,(b.cW ks).asked=b.asked:=by
 induction ks with
 | nil=>intro b;rfl
 | cons k ks ih=>intro b;exact(ih (b.strike k)).trans U
theorem An(ks:List Int):∀b:Bn,(b.cW ks).held=b.held++ks:=by
 induction ks with
 | nil=>intro b;exact(F3 _).symm
 | cons k ks ih=>intro b;exact(ih (b.strike k)).trans (by show (b.held++[k])++ks=_;rw[P6];rfl)
theorem ph(ks:List Int):∀b:Bn,(b.cW ks).nk=b.nk∧(b.cW ks).nv=b.nv:=by
 induction ks with
 | nil=>intro b;exact⟨U,U⟩
 | cons k ks ih=>intro b;exact ih (b.strike k)
theorem MK(b:Bn)(k:Int):(b.strike k).bT.length=b.bT.length∧∀p:Nat,((b.strike k).bT.getD p []).length=(b.bT.getD p []).length:=by
 unfold Bn.strike;refine⟨by rw[K9],λp=>?_⟩;dsimp only;simp only[B8,F7];split
 ·rename_i c;split
  ·rename_i l;rw[T2,K9,c]
  ·rename_i l;rw[E2 (show b.bT.length≤p by omega)]
 ·rfl
theorem rZ(ks:List Int):∀b:Bn,(b.cW ks).bT.length=b.bT.length∧∀p:Nat,((b.cW ks).bT.getD p []).length=(b.bT.getD p []).length:=by
 induction ks with
 | nil=>intro b;exact⟨U,λ_=>rfl⟩
 | cons k ks ih=>intro b;have a:=ih (b.strike k);have c:=MK b k;exact⟨a.1.trans c.1,λp=>(a.2 p).trans (c.2 p)⟩
theorem MN(b:Bn)(ks:List Int)(k:Int):b.cW (ks++[k])=(b.cW ks).strike k:=by unfold Bn.cW;rw[h9];rfl
theorem Ja.cW{b:Bn}(h:Ja b){r:List Int}(hu:r.Nodup)(hm:∀x∈r,0≤x∧x<(b.asked.length:Int))(hn:∀x∈r,x∉b.held):Ja (b.cW r):=by
 have e1:=oU r b;have e2:=An r b;have e3:=ph r b;have e4:=rZ r b;refine⟨by rw[e1];exact h.good,?_,λk hk=>?_,?_,λp q=>?_,by rw[e4.1];exact h.few,?_⟩
 ·rw[e1,e2];refine⟨N4.mpr ⟨h.nums.1,hu,λa ha c hc z=>hn c hc (z▸ha)⟩,λx hx=>?_⟩;rcases F2.mp hx with z | z
  ·exact h.nums.2 x z
  ·exact hm x z
 ·rw[e1]at hk ⊢;rw[e4.1,e4.2];exact h.zb k hk
 ·rw[e3.1,e3.2];exact h.nl
 ·rw[e3.1,e3.2,e1];exact h.nw p q
 ·rw[e3.1,e1];exact h.nkl
theorem pq(ps:List (List (List Int)))(k:Nat)(p:List (List Int)):D.lst ((ps.map fY).set k (fY p))=pD (ps.set k p):=by unfold pD;rw[U7]
theorem aA9(ps:List (List Int))(k:Nat)(t:List Int):D.lst ((ps.map dTup).set k (dTup t))=fY (ps.set k t):=by unfold fY;rw[U7]
theorem aFG{ks:List Int}{k:Int}(h:k∉ks):D.dk (mL (ks.map (F4:Int→Key)) (F4 k)) (putD (ks.map (F4:Int→Key)) (ks.map λ_=>D.bl NF) (F4 k) (.bl NF))=Qm (ks++[k]):=by unfold mL putD Qm;rw[Cu h];simp only[Option.isSome_none,V8,if_false,J3];rfl
theorem aBa{b:Bn}{e:List D}{k:Int}(h0:0≤k)(h1:k<(b.asked.length:Int))(hl:b.held.length≤1000)(hs:0≤(at_ b.asked k.toNat).fP∧(at_ b.asked k.toNat).fP<(b.bT.length:Int)∧0≤(at_ b.asked k.toNat).place∧(at_ b.asked k.toNat).place<((b.bT.getD (at_ b.asked k.toNat).fP.toNat []).length:Int))(hn:k∉b.held):uF κ [lV (κ 0) b e,.int k]=NC (.non,lV (κ 0) (b.strike k) e):=by
 refine lJ U λv=>?_;unfold Ko;have hc:dU (sU b.asked) (.int k)=NC (Bj (at_ b.asked k.toNat)):=by have:=Mx (cs:=b.asked) (k:=k.toNat) (by omega);rw[show ((k.toNat:Nat):Int)=k by omega]at this;exact this
 refine cC (d:=Bj (at_ b.asked k.toNat)) (aX (aH (dJ U rG) U hc) (jy _)) (by exact Nat.le_of_ble_eq_true U) ?_;unfold Bn.strike;generalize at_ b.asked k.toNat=c at *;have hp:(b.bT.map fY)[c.fP.toNat]?=NC (fY (b.bT.getD c.fP.toNat [])):=by rw[B9,oR (d:=[]) (show c.fP.toNat<b.bT.length by omega)];rfl
 refine mR U (JQ (p:=[L2.Step.fld (κ 0) "panes", .ix c.fP.toNat]) (k:=c.place) (ds:=(b.bT.getD c.fP.toNat []).map dTup) (d:=dTup c.thing) U ?_ ((BV BX).trans (oh hp)) (aH U U (Ux c)) (aX (aH U U (Cv c)) (iR _)) hs.2.2.1 (by rw[B6];exact hs.2.2.2)) U ?_
 ·exact aDf (p:=[L2.Step.fld (κ 0) "panes"]) U (aH U U (JP c)) hs.1
 rw[aA9];rw[show fG [L2.Step.fld (κ 0) "panes", .ix c.fP.toNat] (lV (κ 0) b e) (fY ((b.bT.getD c.fP.toNat []).set c.place.toNat c.thing))=fD (κ 0) (pD (b.bT.set c.fP.toNat ((b.bT.getD c.fP.toNat []).set c.place.toNat c.thing))) (sU b.asked) (.dt (b.nk.map vZ) (b.nv.map D.int)) (Qm b.held) (.lst e)from by
  unfold lV;rw[BW BX];unfold pD;rw[ou hp,aA6,pq]
  rfl]
 refine jz U (zT (d:=.bl NF) (k:=F4 k) (kd:=.int k) U U aDd U U U U (by rw[B6];omega)) U ⟨_,.inr ⟨U,U⟩,?_⟩;show NC (SD.inn v (fG [L2.Step.fld (κ 0) "held"] _ _))=NC (SD.inn v _);rw[aDe,aFG hn];rfl
theorem aDj{b:Bn}(h:Ja b){p:Int}{most:D}(h0:0≤p)(h1:p<(b.bT.length:Int))(hmo:most=.non∨∃m:Int,most=.int m):∃r,aJW b.asked b.held p r∧∀taken,(most=.non→taken=r)→(∀m:Int,most=.int m→taken=r.take m.toNat)→wQ κ [dR (κ 0) b,.int p,most]=NC (aP taken,dR (κ 0) (b.cW taken)):=by
 have h60:=h.good.1;have hk:=h.nums.len;have hnl:=ZC b.asked b.held p;obtain⟨r,hr,r1,r2,r3⟩:=aDi (ks:=b.held) h.good (LQ b.asked b.held p) (λx hx=>by have:=Dr.mp hx;exact⟨this.1,this.2.1⟩) (by omega);have hR:aJW b.asked b.held p r:=⟨r1,by omega,λx=>by rw[r3,Dr]⟩
 refine⟨r,hR,λtaken t1 t2=>?_⟩;have hsub:∃n,taken=r.take n:=by
  rcases hmo with z | ⟨m,z⟩
  ·exact⟨r.length,by rw[t1 z,O8]⟩
  ·exact⟨_,t2 m z⟩
 have htm:∀x∈taken,x∈r:=λx hx=>by obtain⟨n,rfl⟩:=hsub;exact O4 hx
 have htu:taken.Pairwise (·<·):=by obtain⟨n,rfl⟩:=hsub;exact r1.sublist (O1 _ _)
 have htl:taken.length≤124:=by obtain⟨n,rfl⟩:=hsub;rw[J4];omega
 have htr:∀x∈taken,0≤x∧x<(b.asked.length:Int)∧(at_ b.asked x.toNat).fP=p∧x∉b.held:=λx hx=>((hR.2.2 x).mp (htm x hx)).1;refine lJ U λv=>?_;unfold Ph;refine kh (d:=.non) (bY U (show ("check_pane" : Str)∉Xq by decide +kernel) U U (Lq κ h0 h1)) ?_;refine cC (d:=aP r) (bH (aA (dJ U rG) (aA (dJ U ZD) (aA (aH (dJ U yx) U (rQ h0 (MJ h0 h1))) U))) U hr) (by exact Nat.le_of_ble_eq_true U) ?_;have hif:uV (fB (f2 (Jz NF) (aD 2) (fC .non))) (cU 3 (fSl NF (aD 3) (jb) (tK (fL RL (aB (aD 2) (aB (fC (.int 0)) aM)))))) gH [.inn v (dR (κ 0) b),.fro (.int p),.fro most,.own (aP r),.no]=.next [.inn v (dR (κ 0) b),.fro (.int p),.fro most,.own (aP taken),.no]:=by
  rcases hmo with rfl | ⟨m,rfl⟩
  ·rw[pH (bR (aH U U (Eu NF .non))),t1 rfl];rfl
  ·rw[Cp (bR (aH U U (Eu NF (.int m))))];refine wJ (d:=aP taken) ((WQ U U (My (cT (aA U (aA U U)) (Zr _ _)))).trans ?_) (by exact Nat.le_of_ble_eq_true U);rw[t2 m U,show (if(0:Int) > m then(0:Int)else m)=((m.toNat:Nat):Int) by split<;>omega,aIc]
 refine aAW hif ?_;refine kj (ns:=taken) [.inn v (lV (κ 0) (b.cW taken) (wA b.bT.length b.asked b.held)),.fro (.int p),.fro most,.own (aP taken),lv taken .no taken.length] U U (λv2 k env=>env=[.inn v (lV (κ 0) (b.cW (taken.take k)) (wA b.bT.length b.asked b.held)),.fro (.int p),.fro most,.inn v2 (aP taken),lv taken .no k]) (λv2=>rfl) (λv2 k env e=>by rw[e];rfl) ?_ (λv2 env e=>by rw[e,O8];rfl) ?_
 ·rintro v2 k x env hx rfl;refine⟨by walk_at "lt", ?_⟩;have hxm:=htr x (E6 hx);have e1:=oU (taken.take k) b;have e2:=An (taken.take k) b;have e4:=rZ (taken.take k) b;have hnx:taken.take (k+1)=taken.take k++[x]:=by rw[P7,hx];rfl
  have hst:=aBa κ (b:=b.cW (taken.take k)) (e:=wA b.bT.length b.asked b.held) (k:=x) hxm.1 (by rw[e1];exact hxm.2.1) (by rw[e2,C7,J4];omega) (by rw[e1,e4.1,e4.2];exact h.zb x.toNat (by omega)) (by
   rw[e2,F2]
   rintro(z | z)
   ·exact hxm.2.2.2 z
   ·have hu:=htu.sublist (O1 (k+1) taken);rw[hnx]at hu;have:=(N3.mp hu).2.2 x z x (by simp)
    omega)
  refine⟨_,Zt (lU (d0:=lV (κ 0) (b.cW (taken.take k)) (wA b.bT.length b.asked b.held)) (p:=[]) (nm:=Xq) U U U (by decide +kernel) U hst),?_⟩;have e:lv taken .no (k+1)=.fro (.int x):=by show SD.fro (.int (taken.getD k 0))=_;rw[qC hx]
  rw[e,hnx,MN];rfl
 have e1:=oU taken b;have e2:=An taken b;have e4:=rZ taken b;have Dt:=zQ (fi:=mW (f2 dU (tL (fO (κ 0) "unsettled") (aD 0)) (aD 1))) (fr:=[0]) (fc:=fB (f2 (Fv NF) (aD 0) (tL (fO (κ 0) "held") (aD 1)))) (fe:=bO (aD 0)) (e:=rE ([.inn v (lV (κ 0) (b.cW taken) (wA b.bT.length b.asked b.held)),.fro (.int p),.fro most,.own (aP taken),lv taken .no taken.length].set 0 (.own (lV (κ 0) (b.cW taken) (wA b.bT.length b.asked b.held))))) (ms:=nY b.asked b.held p) (λm=>!decide (m∈(b.cW taken).held)) id
  (jF (aH (dJ U yx) U (rQ h0 (MJ h0 h1)))) (by omega) (λm hm=>bR (aH U (dJ U ZD) (Uv NF m _))) λm hm _=>aX U U
 rw[i9]at Dt;have hun:∀q:Int,nY b.asked (b.held++taken) q=(nY b.asked b.held q).filter λm=>!decide (m∈b.held++taken):=λq=>by
  refine rN (LQ _ _ _) ((LQ _ _ _).sublist R0) λx=>?_;rw[Dr,N1,Dr];constructor
  ·rintro⟨a1,a2,a3,a4⟩
   exact⟨⟨a1,a2,a3,λz=>a4 (N2 _ z)⟩,by rw[decide_eq_false a4];rfl⟩
  ·rintro⟨⟨a1,a2,a3,a4⟩,a5⟩
   exact⟨a1,a2,a3,by simpa using a5⟩
 have hoth:∀q:Int,q≠p→nY b.asked (b.held++taken) q=nY b.asked b.held q:=λq hq=>by
  rw[hun];refine M6.mpr λx hx=>?_;have hx:=Dr.mp hx;have:x∉b.held++taken:=λz=>by
   rcases F2.mp z with z | z
   ·exact hx.2.2.2 z
   ·exact hq (hx.2.2.1.symm.trans (htr x z).2.2.1)
  rw[decide_eq_false this];rfl
 rw[e2,←hun]at Dt;refine mR U (JQ (p:=[L2.Step.fld (κ 0) "unsettled"]) (k:=p) (ds:=wA b.bT.length b.asked b.held) U U MF U Dt h0 (by unfold wA;rw[B6,D8];exact h1)) U ?_;refine zU U ⟨_,.inl U,?_⟩;show NC (SD.inn v (fG [L2.Step.fld (κ 0) "unsettled"] (lV (κ 0) (b.cW taken) _) _))=NC (SD.inn v _);unfold dR lV;rw[yz,e1,e2,e4.1];have hl:(wA b.bT.length b.asked b.held).set p.toNat (aP (nY b.asked (b.held++taken) p))=wA b.bT.length b.asked (b.held++taken):=by
  unfold wA;apply K1;intro k;rw[F7,B6,D8,B9,B9];by_cases e:p.toNat=k
  ·rw[if_pos e,if_pos (by omega),G3 (by omega),G1,show ((k:Nat):Int)=p by omega]
  ·rw[if_neg e];by_cases hk:k<b.bT.length
   ·rw[G3 hk,G1,G1,hoth _ (by omega)]
   ·rw[E2 (by rw[D8];omega)];rfl
 rw[hl]
theorem qd{b:Bn}{k:Int}{p q:Nat}(h:¬((at_ b.asked k.toNat).fP.toNat=p∧(at_ b.asked k.toNat).place.toNat=q)):val (b.strike k).bT p q=val b.bT p q:=by
 unfold val Bn.strike;generalize at_ b.asked k.toNat=c at *;dsimp only;simp only[B8,F7];by_cases e:c.fP.toNat=p
 ·subst e;rw[if_pos rfl];by_cases l:c.fP.toNat<b.bT.length
  ·rw[if_pos l];simp only[T2,F7];rw[if_neg λz=>h ⟨U,z⟩]
  ·rw[if_neg l,E2 (show b.bT.length≤c.fP.toNat by omega)]
 ·rw[if_neg e]
theorem Py{p q:Nat}:∀(ks:List Int)(b:Bn),(∀k∈ks,¬((at_ b.asked k.toNat).fP.toNat=p∧(at_ b.asked k.toNat).place.toNat=q))→val (b.cW ks).bT p q=val b.bT p q
 | [],b,_=>rfl
 | k::ks,b,h=>(Py ks (b.strike k) λj hj=>h j (C8 _ hj)).trans (qd (h k D6))
theorem ZK{cs:List tY}{p q:Int}(h:lastAt cs p q=none){k:Nat}(hk:k<cs.length):¬((at_ cs k).fP=p∧(at_ cs k).place=q):=λz=>by unfold lastAt at h;rw[Z7,List.getLast?_eq_none_iff,Z8]at h;exact h k (F9.mpr hk) (decide_eq_true z)
theorem MP{b:Bn}(h:Ja b){r:List Int}{p q:Int}(hp:0≤p)(hq:0≤q)(hm:∀x∈r,0≤x∧x<(b.asked.length:Int)):face (b.cW r) p q=face b p q:=by
 unfold face;rw[oU];cases e:lastAt b.asked p q with
 | some k=>rfl
 | none=>exact Py r b λk hk z=>by have:=hm k hk;have hs:=h.zb k.toNat (by omega);exact ZK e (show k.toNat<b.asked.length by omega) ⟨by omega,by omega⟩
structure Mp where
 k:List Int
 v:List Int
def Mp.get(m:Mp)(x:Int):Option Int:=(posK m.k x).bind λj=>m.v[j]?
def Mp.put(m:Mp)(x y:Int):Mp:=⟨mL m.k x,putD m.k m.v x y⟩
def Qv(m:Mp):D:=.dk (m.k.map F4) (m.v.map D.int)
def Oi:Option Int→D
 | some y=>.int y
 | none=>.non
theorem MT(a b:Int)(h:(F4 a:Key)=F4 b):a=b:=by injection h
theorem vU{m:Mp}(h:m.k.length=m.v.length)(x:Int):vA (Qv m) (.int x)=NC (Oi (m.get x)):=by
 unfold vA Qv Mp.get;dsimp only;rw[show Tt (.int x)=NC (.inl x)from rfl,C4,yP MT];cases e:posK m.k x with
 | none=>rfl
 | some j=>have:=(uB e).1;dsimp only;rw[B9,C4,B7 (show j<m.v.length by omega)];rfl
theorem Mp.Am{m:Mp}(h:m.k.length=m.v.length)(x y z:Int):(m.put x y).get z=if z=x then NC y else m.get z:=Rs.Am h
theorem Oj(m:Mp)(x y:Int):D.dk (mL (m.k.map (F4:Int→Key)) (.inl x)) (putD (m.k.map (F4:Int→Key)) (m.v.map D.int) (.inl x) (.int y))=Qv (m.put x y):=by unfold Qv Mp.put;rw[ZF MT,ZG MT D.int]
theorem aDk{α:Type} [DecidableEq α] (ks:List α) (k:α):(mL ks k).length≤ks.length+1:=by
 unfold mL;split
 ·omega
 ·rw[C7];simp
def Mp.Ok(m:Mp)(n:Nat):Prop:=m.k.length=m.v.length∧m.k.length≤n
theorem Mp.Ok.put{m:Mp}{n:Nat}(h:m.Ok n)(x y:Int):(m.put x y).Ok (n+1):=⟨xX h.1,G0 (aDk _ _) (T0 h.2)⟩
theorem Mp.Ok.mono{m:Mp}{n k:Nat}(h:m.Ok n)(l:n≤k):m.Ok k:=⟨h.1,G0 h.2 l⟩
section
variable{C:A7}{nm:List Str}{ks:List Key}{ds:List D}{x:Str}{j:Nat}{d y:D}
theorem oG(h:posK nm x=NC j)(hd:ds[j]?=NC d):fO C x (.ins C nm ds)=NC d:=by unfold fO;dsimp only;rw[if_pos U,h];exact hd
theorem aDl(h:posK nm x=NC j):Fx (.fld C x) (.ins C nm ds)=NC j:=by show (if C=C then posK nm x else none)=NC j;rw[if_pos rfl];exact h
theorem Ao(h:posK nm x=NC j)(hd:ds[j]?=NC d):gC [.fld C x] (.ins C nm ds)=NC d:=tD (aDl h) hd
theorem Aq(h:posK nm x=NC j)(hd:ds[j]?=NC d):fG [.fld C x] (.ins C nm ds) y=.ins C nm (ds.set j y):=qN (aDl h) hd
theorem cD(h:posK ks (.inr x)=NC j)(hd:ds[j]?=NC d):jD (.dk ks ds) (.str x)=NC d:=by show ((posK ks (.inr x)).bind λj=>ds[j]?)=NC d;rw[h];exact hd
theorem Jb(h:posK ks (.inr x)=NC j)(hd:ds[j]?=NC d):gC [.key (.inr x)] (.dk ks ds)=NC d:=tD (s:=.key (.inr x)) (d:=.dk ks ds) h hd
theorem Jc(h:posK ks (.inr x)=NC j)(hd:ds[j]?=NC d):fG [.key (.inr x)] (.dk ks ds) y=.dk ks (ds.set j y):=qN (s:=.key (.inr x)) (d:=.dk ks ds) h hd
end
def wB:List Str:=["bench", "spots", "string", "loose", "lasts", "comings", "goings"]
theorem w0:posK wB "bench" = NC 0:=by decide +kernel
theorem w1:posK wB "spots" = NC 1:=by decide +kernel
theorem w2:posK wB "string" = NC 2:=by decide +kernel
theorem w3:posK wB "loose" = NC 3:=by decide +kernel
theorem w4:posK wB "lasts" = NC 4:=by decide +kernel
theorem w5:posK wB "comings" = NC 5:=by decide +kernel
theorem w6:posK wB "goings" = NC 6:=by decide +kernel
def bks:List Key:=[.inr "recs", .inr "order", .inr "ins", .inr "outs", .inr "lasts", .inr "due", .inr "panes"]
theorem k0:posK bks (.inr "recs")=NC 0:=by decide +kernel
theorem k1:posK bks (.inr "order")=NC 1:=by decide +kernel
theorem k2:posK bks (.inr "ins")=NC 2:=by decide +kernel
theorem k3:posK bks (.inr "outs")=NC 3:=by decide +kernel
theorem k4:posK bks (.inr "lasts")=NC 4:=by decide +kernel
theorem k5:posK bks (.inr "due")=NC 5:=by decide +kernel
theorem k6:posK bks (.inr "panes")=NC 6:=by decide +kernel
structure Wb where
 b:Bn
 rs:List (List Int)
 od:List Int
 lo:List Int
 la:Mp
 co:Mp
 go:Mp
abbrev Wb.P(s:Wb):Nat:=s.b.bT.length
abbrev Wb.n(s:Wb):Nat:=s.b.asked.length
abbrev Wb.R(s:Wb)(x:Int):List Int:=s.rs.getD x.toNat []
def Wb.key(s:Wb)(x:Int):Int:=(s.R x).getD 0 0
def qe(P n:Nat):D:=.lst ((D4 n).map λk=>dTup [((k%P:Nat):Int),((k/P:Nat):Int)])
def yQ(rs:List (List Int)):D:=.lst (rs.map dTup)
def kZ(κ:Nat→A7)(s:Wb):D:=.ins (κ 1) wB [dR (κ 0) s.b,qe s.P s.rs.length,aP s.od,aP s.lo,Qv s.la,Qv s.co,Qv s.go]
def nH(s:Wb):D:=.dk bks [yQ s.rs,aP s.od,Qv s.co,Qv s.go,Qv s.la,sU s.b.asked,.int s.P]
structure mF(s:Wb):Prop where
 bn:Ja s.b
 p1:0<s.P
 len:∀k,k<s.rs.length→k/s.P<(s.b.bT.getD (k%s.P) []).length
 few:s.rs.length≤64
 pos:0<s.rs.length
 rcd:∀k,k<s.rs.length→s.rs.getD k []=face s.b ((k%s.P:Nat):Int) ((k/s.P:Nat):Int)∧(s.rs.getD k []).length=5
 las:∀k:Nat,k<s.rs.length→s.la.get k=lastAt s.b.asked ((k%s.P:Nat):Int) ((k/s.P:Nat):Int)
 lao:s.la.Ok s.n
 coo:s.co.Ok s.n
 goo:s.go.Ok s.n
 coi:∀x y,s.co.get x=NC y→0≤y∧y<(s.n:Int)
 goi:∀x y,s.go.get x=NC y→0≤y∧y<(s.n:Int)
 bf:s.od.Nodup
 Rp:∀x∈s.od,1≤x∧x<(s.rs.length:Int)
 lon:s.lo.Nodup
 lom:∀x,x∈s.lo↔1≤x∧x<(s.rs.length:Int)∧x∉s.od
 key:s.od.Pairwise λx y=>s.key x<s.key y
 th:∀k,k<s.n→(at_ s.b.asked k).thing.length=5
theorem mF.spot{s:Wb}(h:mF s){x:Int}(h0:0≤x)(h1:x<(s.rs.length:Int)):0≤((x.toNat%s.P:Nat):Int)∧((x.toNat%s.P:Nat):Int)<(s.P:Int)∧0≤((x.toNat/s.P:Nat):Int)∧((x.toNat/s.P:Nat):Int)<((s.b.bT.getD ((x.toNat%s.P:Nat):Int).toNat []).length:Int):=by have h2:=h.len x.toNat (by omega);have h3:=U5 x.toNat h.p1;rw[D7];exact⟨P5 _,g7.mpr h3,P5 _,g7.mpr h2⟩
theorem aDp{P n:Nat}{x:Int}(h0:0≤x)(h1:x<(n:Int)):dU (qe P n) (.int x)=NC (dTup [((x.toNat%P:Nat):Int),((x.toNat/P:Nat):Int)]):=rQ h0 (by
 rw[B9,G3 (by omega)]
 rfl)
theorem Ff{rs:List (List Int)}{x:Int}(h0:0≤x)(h1:x<(rs.length:Int)):dU (yQ rs) (.int x)=NC (dTup (rs.getD x.toNat [])):=rQ h0 (by
 rw[B9,oR (d:=[]) (show x.toNat<rs.length by omega)]
 rfl)
variable(κ:Nat→A7)
theorem pM{s:Wb}(h:mF s){x:Int}(h0:0≤x)(h1:x<(s.rs.length:Int)):bV κ [kZ κ s,.int x]=NC (dTup (s.R x)):=by refine mH U ?_;unfold Bb;obtain⟨a,b,c,d⟩:=h.spot h0 h1;refine aCS (d:=dTup [((x.toNat%s.P:Nat):Int),((x.toNat/s.P:Nat):Int)]) (aX (aH (dJ U (oG w1 U)) U (aDp h0 h1)) (iR _)) (by exact Nat.le_of_ble_eq_true U) ?_;rw[Wb.R,(h.rcd x.toNat (by omega)).1];exact iB (bY (nm:=Xq) (dJ U (oG w0 U)) (by decide +kernel) (aA (aH U U U) (aA (aH U U U) U)) U (aFF κ h.bn a b c d))
theorem Pz{s:Wb}(h:mF s)(x:Int):jR κ [kZ κ s,.int x]=NC (Oi (s.co.get x)):=mH U (iB (aH (dJ U (oG w5 U)) U (vU h.coo.1 x)))
theorem Qa{s:Wb}(h:mF s)(x:Int):jT κ [kZ κ s,.int x]=NC (Oi (s.go.get x)):=mH U (iB (aH (dJ U (oG w6 U)) U (vU h.goo.1 x)))
def gA(os:List (Option Int)):D:=.lst (os.map Oi)
def xQ(os:List (Option Int)):List Int:=os.filterMap id
theorem Wd{fi:FA}{fr:List Nat}{e:DE}(os:List (Option Int))(h:fi e=NC (os.map Oi))(hl:os.length≤1000):gU fi fr (fB (f2 (Jz NF) (aD 0) (fC .non))) (bO (aD 0)) e=NC (aP (xQ os)):=by
 refine Cq h (by rw[B6];omega) ?_;clear h hl
 induction os with
 | nil=>rfl
 | cons o os ih=>
  rw[D3];unfold pR;cases o with
  | none=>exact ih
  | some y=>show ((pR _ _ (os.map Oi)).map (D.int y::·))=_;rw[ih];rfl
theorem aDq(os:List (Option Int))(hl:os.length≤1000):JW [gA os]=NC (aP (xQ os)):=oO U (iB (Wd os (jF U) hl))
def Wb.wr(s:Wb)(x:Int)(r ns:List Int):Wb:={s with b:=s.b.put ((x.toNat%s.P:Nat):Int) ((x.toNat/s.P:Nat):Int) r ns,rs:=s.rs.set x.toNat r,la:=s.la.put x s.n}
theorem aDr(s:Wb)(x:Int)(r ns:List Int):(s.wr x r ns).n=s.n+1:=by show (s.b.asked++[_]).length=_;rw[C7];rfl
theorem Jd(s:Wb)(x:Int)(r ns:List Int):(s.wr x r ns).rs.length=s.rs.length:=K9
theorem tE{α:Type}(l:List α)(i j:Nat)(x d:α)(h:i<l.length):(l.set i x).getD j d=if i=j then x else l.getD j d:=by
 rw[B8,F7,B8];by_cases c:i=j
 ·rw[if_pos c,if_pos h,if_pos c];rfl
 ·rw[if_neg c,if_neg c]
theorem aIs{s:Wb}{x y:Int}{r ns:List Int}(h0:0≤x)(h1:x<(s.rs.length:Int))(hy:0≤y):(s.wr x r ns).R y=if y=x then r else s.R y:=by
 show (s.rs.set x.toNat r).getD y.toNat []=_;rw[tE _ _ _ _ _ (by omega)];by_cases c:y=x
 ·rw[if_pos c,if_pos (by rw[c])]
 ·rw[if_neg c,if_neg (by omega)]
theorem aDs{b:Bn}{p q p' q':Int}{th ns:List Int}:face (b.put p q th ns) p' q'=if p=p'∧q=q' then th else face b p' q':=by
 unfold face;show topOf (b.asked++[lE b p q th ns]) _ (lastAt (b.asked++[lE b p q th ns]) p' q')=_;rw[Ds];show topOf _ _ (if p=p'∧q=q' then _ else _)=_;by_cases c:p=p'∧q=q'
 ·rw[if_pos c,if_pos c];show (at_ (b.asked++[lE b p q th ns]) (b.asked.length:Int).toNat).thing=th;rw[D7,zR];rfl
 ·rw[if_neg c,if_neg c];cases e:lastAt b.asked p' q' with
  | none=>rfl
  | some k=>have:=Fe e;show (at_ _ k.toNat).thing=(at_ _ k.toNat).thing;rw[vC (by omega)]
theorem ZL{P a b:Nat}(h1:((a%P:Nat):Int)=((b%P:Nat):Int))(h2:((a/P:Nat):Int)=((b/P:Nat):Int)):a=b:=by have e1:=o7 h1;have e2:=o7 h2;have a1:=l3 a P;have a2:=l3 b P;rw[←a1,←a2,e1,e2]
theorem mF.wr{s:Wb}(h:mF s){x:Int}{r ns:List Int}(h0:0≤x)(h1:x<(s.rs.length:Int))(hr:r.length=5)(hn:∀m∈ns,0≤m∧m<(s.n:Int))(hl:ns.length≤8)(hm:s.n<124)(hk:x∈s.od→r.getD 0 0=s.key x):mF (s.wr x r ns):=by
 obtain⟨a,b,c,d⟩:=h.spot h0 h1;have hlen:=Jd s x r ns;have hnn:=aDr s x r ns;have hxe:((x.toNat:Nat):Int)=x:=by omega
 refine⟨h.bn.put hm a b c d hn hl,h.p1,?_,?_,?_,?_,?_,?_,?_,?_,?_,?_,h.bf,?_,h.lon,?_,?_,?_⟩
 ·rw[hlen];exact h.len
 ·rw[hlen];exact h.few
 ·rw[hlen];exact h.pos
 ·intro k hk';rw[hlen]at hk';show (s.rs.set x.toNat r).getD k []=face (s.b.put _ _ r ns) _ _∧((s.rs.set x.toNat r).getD k []).length=5;rw[tE _ _ _ _ _ (by omega),aDs];by_cases e:x.toNat=k
  ·subst e;rw[if_pos U,if_pos ⟨U,U⟩];exact⟨U,hr⟩
  ·rw[if_neg e,if_neg λz=>e (ZL z.1 z.2)];exact h.rcd k hk'
 ·intro k hk';rw[hlen]at hk';show (s.la.put x s.n).get k=lastAt (s.b.asked++[lE _ _ _ _ _]) _ _;rw[Mp.Am h.lao.1,Ds];by_cases e:x.toNat=k
  ·subst e;rw[if_pos hxe,if_pos ⟨U,U⟩]
  ·rw[if_neg (by omega),if_neg λz=>e (ZL z.1 z.2)];exact h.las k hk'
 ·rw[hnn];exact h.lao.put _ _
 ·rw[hnn];exact h.coo.mono (by omega)
 ·rw[hnn];exact h.goo.mono (by omega)
 ·intro z y e;have:=h.coi z y e;rw[hnn];omega
 ·intro z y e;have:=h.goi z y e;rw[hnn];omega
 ·intro z hz;rw[hlen];exact h.Rp z hz
 ·intro z;rw[hlen];exact h.lom z
 ·have kk:∀y∈s.od,(s.wr x r ns).key y=s.key y:=λy hy=>by
   show ((s.wr x r ns).R y).getD 0 0=_;rw[aIs h0 h1 (by have:=h.Rp y hy;omega)];by_cases e:y=x
   ·subst e;rw[if_pos rfl];exact hk hy
   ·rw[if_neg e];rfl
  exact h.key.imp_of_mem λ{y z} hy hz q=>by rw[kk y hy,kk z hz];exact q
 ·intro k hk';rw[hnn]at hk';show (at_ (s.b.asked++[lE _ _ _ _ _]) k).thing.length=5;rcases K4 k s.n with z | z
  ·rw[vC z];exact h.th k z
  ·have e:k=s.b.asked.length:=Nat.le_antisymm (Nat.lt_succ_iff.mp hk') z;rw[e,zR];exact hr
theorem aBb{a b:List Int}(h:∀x,x∈a↔x∈b):bc a=bc b:=aCs (IV a) λk=>(Rg k a).trans (h k)
theorem aDt{s:Wb}{x:Int}{r a b:List Int}(h:∀y,y∈a↔y∈b):s.wr x r a=s.wr x r b:=by
 have e:lE s.b ((x.toNat%s.P:Nat):Int) ((x.toNat/s.P:Nat):Int) r a=lE s.b ((x.toNat%s.P:Nat):Int) ((x.toNat/s.P:Nat):Int) r b:=by exact congrArg (tY.mk _ _ r) (aBb λy=>by rw[F2,F2,h y])
 unfold Wb.wr Bn.put;rw[e]
theorem mF.ZM{s:Wb}(h:mF s):s.n≤124:=h.bn.good.1
theorem mF.p8{s:Wb}(h:mF s):s.P≤8:=h.bn.few
theorem mapA{o:Option (List D)}{es:List D}(h:o=NC es):o.map (·++[])=NC es:=by rw[h];show NC (es++[])=_;rw[F3]
theorem ZP{s:Wb}(h:mF s){x:Int}{r:List Int}{os:List (Option Int)}(h0:0≤x)(h1:x<(s.rs.length:Int))(hn:∀m∈xQ os,0≤m∧m<(s.n:Int))(hl:os.length≤9):nO κ [kZ κ s,.int x,dTup r,gA os]=NC (.int s.n,kZ κ (s.wr x r (xQ os))):=by
 refine lJ U λv=>?_;unfold Ks;obtain⟨a,b,c,d⟩:=h.spot h0 h1;have hkl:(xQ os).length≤9:=G0 (Y2 _ _) hl;refine cC (d:=dTup [((x.toNat%s.P:Nat):Int),((x.toNat/s.P:Nat):Int)]) (aX (aH (dJ U (oG w1 U)) U (aDp h0 h1)) (iR _)) (by exact Nat.le_of_ble_eq_true U) ?_;refine vD (d:=.int s.n) (env':=[.inn v (.ins (κ 1) wB [dR (κ 0) (s.b.put ((x.toNat%s.P:Nat):Int) ((x.toNat/s.P:Nat):Int) r (xQ os)),qe s.P s.rs.length,aP s.od,aP s.lo,Qv s.la,Qv s.co,Qv s.go]),.fro (.int x),.fro (dTup r),.fro (gA os),.own (dTup [((x.toNat%s.P:Nat):Int),((x.toNat/s.P:Nat):Int)]),.no])
  ((lU (p:=[L2.Step.fld (κ 1) "bench"]) (nm:=Xq) (es:=[.int ((x.toNat%s.P:Nat):Int),.int ((x.toNat/s.P:Nat):Int),dTup r,aP (xQ os)]) U U (Ao w0 U) (by decide +kernel) (mapA (cB (aH U U U) (cB (aH U U U) (cB U (cB (bH (aA U U) U (aDq os (by omega))) U))))) (aIq κ h.bn a b c d hn (by omega) (.inr U))).trans (by
   rw[Aq w0 rfl]
   rfl)) (by exact Nat.le_of_ble_eq_true U) ?_
 refine mR U (zT (p:=[L2.Step.fld (κ 1) "lasts"]) (k:=.inl x) (kd:=.int x) (d:=.int s.n) U U (Ao w4 U) U U U U (by rw[B6];have:=h.lao.2;have:=h.ZM;omega)) U ?_;refine zU U ⟨_,.inl U,?_⟩;show NC (SD.inn v (fG [L2.Step.fld (κ 1) "lasts"] _ _))=NC (SD.inn v _);rw[Aq w4 U,Oj];unfold kZ;rw[Jd];rfl
theorem ZQ(rs:List (List Int)):kO [yQ rs]=NC (.int rs.length):=by show NC (D.int ((rs.map dTup).length:Nat))=_;rw[B6]
theorem aFI(o:Option Int):(Oi o).jJ=NF:=by cases o<;>rfl
theorem CJ(os:List (Option Int)):D.fU (os.map Oi)=NF:=Kg λd hd=>by obtain⟨o,_,rfl⟩:=J2.mp hd;exact aFI o
theorem vV(a b:List (Option Int))(h:a.length+b.length≤1000):eU (gA a) (gA b)=NC (gA (a++b)):=by unfold gA;rw[J3];exact Zg (by rw[WL,CJ,CJ];rfl) (by rw[B6,B6];omega)
theorem divmod{x:Int}{P:Nat}(h0:0≤x):x%(P:Int)=((x.toNat%P:Nat):Int)∧x/(P:Int)=((x.toNat/P:Nat):Int):=by
 have e:x=((x.toNat:Nat):Int):=by omega
 constructor
 ·rw[T4,←e]
 ·rw[T5,←e]
theorem Je{s:Wb}(h:mF s){x:Int}{r:List Int}{os:List (Option Int)}(h0:0≤x)(h1:x<(s.rs.length:Int))(hl:os.length≤9):lX [nH s,.int x,dTup r,gA os]=NC (.int s.n,nH (s.wr x r (xQ os))):=by
 refine lJ U λv=>?_;unfold Pk nH yQ;have hg:=h.ZM;have hP:(s.P:Int)<1073741824:=by have:=h.p8;omega
 have hP0:0<(s.P:Int):=by have:=h.p1;omega
 obtain⟨e1,e2⟩:=divmod (P:=s.P) h0;refine cC (d:=.int s.n) (cT (aA (aH U U (cD k5 U)) U) (qD _)) (by exact Nat.le_of_ble_eq_true U) ?_;refine cC (d:=aP (xQ (os++[s.la.get x]))) (Wd (os++[s.la.get x]) (jF (aH (a:=gA os) (b:=gA [s.la.get x]) U (iD (aA (aH (aH U U (cD k4 U)) U (vU h.lao.1 x)) U) (by exact Nat.le_of_ble_eq_true U)) (vV _ _ (by simp;omega)))) (by simp;omega)) (by exact Nat.le_of_ble_eq_true U) ?_;have hkl:(xQ (os++[s.la.get x])).length≤10:=G0 (Y2 _ _) (by rw[C7];simp;omega);have hx:s.la.get x=lastAt s.b.asked ((x.toNat%s.P:Nat):Int) ((x.toNat/s.P:Nat):Int):=by have:=h.las x.toNat (by omega);rw[show ((x.toNat:Nat):Int)=x by omega]at this;exact this
 have ek:xQ (os++[s.la.get x])=xQ os++(lastAt s.b.asked ((x.toNat%s.P:Nat):Int) ((x.toNat/s.P:Nat):Int)).toList:=by unfold xQ;rw[b9,hx];cases lastAt s.b.asked ((x.toNat%s.P:Nat):Int) ((x.toNat/s.P:Nat):Int)<;>rfl
 refine mR U (Va (p:=[L2.Step.key (.inr "due")]) (ds:=s.b.asked.map Bj) (d:=Bj (lE s.b ((x.toNat%s.P:Nat):Int) ((x.toNat/s.P:Nat):Int) r (xQ os))) U U (Jb k5 U) ?_ (P1 (by rw[B6];exact h.ZM) (by decide))) U ?_
 ·refine(iC (aA (aH U (aH U U (cD k6 U)) (bC hP0)) (aA (aH U (aH U U (cD k6 U)) (dW hP0 hP)) (aA (aX U (iR r)) (aA (cT (aA (dJ U (Uw (by omega))) U) (Pb _)) U)))) (by exact Nat.le_of_ble_eq_true U)).trans ?_;rw[e1,e2,ek];rfl
 rw[Jc k5 rfl];refine mR U (JQ (p:=[L2.Step.key (.inr "recs")]) (ds:=s.rs.map dTup) (k:=x) (d:=dTup r) U U (Jb k0 U) U (aX U (iR r)) h0 (by rw[B6];exact h1)) U ?_;rw[Jc k0 rfl];refine mR U (zT (p:=[L2.Step.key (.inr "lasts")]) (k:=.inl x) (kd:=.int x) (d:=.int s.n) U U (Jb k4 U) U U U U (by rw[B6];have:=h.lao.2;have:=h.ZM;omega)) U ?_;rw[Jc k4 U,Oj];refine zU U ⟨_,.inl U,?_⟩;show NC (SD.inn v _)=NC (SD.inn v _);rw[show (s.wr x r (xQ os)).rs.map dTup=(s.rs.map dTup).set x.toNat (dTup r)from U7];rw[show sU (s.wr x r (xQ os)).b.asked=.lst (s.b.asked.map Bj++[Bj (lE s.b ((x.toNat%s.P:Nat):Int) ((x.toNat/s.P:Nat):Int) r (xQ os))])from(Zo _ _).symm];rfl
theorem yR(ns:List Int):aP ns=gA (ns.map NC):=by unfold aP gA;rw[K7];rfl
theorem vW(ns:List Int):xQ (ns.map NC)=ns:=by unfold xQ;rw[List.filterMap_map];exact List.filterMap_some
theorem vX(o:Option Int)(os:List (Option Int)):xQ (o::os)=o.toList++xQ os:=by cases o<;>rfl
def Wb.ns(s:Wb)(x:Int)(ns:List Int):List Int:=(s.co.get x).toList++ns
theorem mF.aFJ{s:Wb}(h:mF s){x:Int}{ns:List Int}(hn:∀m∈ns,0≤m∧m<(s.n:Int)):∀m∈s.ns x ns,0≤m∧m<(s.n:Int):=λm hm=>by
 rcases F2.mp hm with z | z
 ·cases e:s.co.get x with
  | none=>rw[e]at z;cases z
  | some y=>rw[e]at z;rw[E3.mp z];exact h.coi x y e
 ·exact hn m z
theorem yS{α:Type}(o:Option α):o.toList.length≤1:=by cases o<;>simp
theorem ZR{s:Wb}(h:mF s){x:Int}{r:List Int}{os:List (Option Int)}(h0:0≤x)(h1:x<(s.rs.length:Int))(hn:∀m∈xQ os,0≤m∧m<(s.n:Int))(hl:os.length≤7):gR κ [kZ κ s,.int x,dTup r,gA os]=NC (.int s.n,kZ κ (s.wr x r (s.ns x (xQ os)))):=by
 refine lJ U λv=>?_;unfold yK;have e:s.ns x (xQ os)=xQ (s.co.get x::os):=by rw[vX];rfl
 rw[e];refine rT (d:=.int s.n) (env':=[.inn v (kZ κ (s.wr x r (xQ (s.co.get x::os)))),.fro (.int x),.fro (dTup r),.fro (gA os)]) (lU (p:=[]) (nm:=wB) (es:=[.int x,dTup r,gA (s.co.get x::os)]) U U U (by decide +kernel) (mapA (cB U (cB U (xK (aH (a:=gA [s.co.get x]) (b:=gA os) (iD (aA (bY (nm:=wB) U (by decide +kernel) U U (Pz κ h x)) U) (by exact Nat.le_of_ble_eq_true U)) U (vV _ _ (by simp;omega))) U)))) (ZP κ h h0 h1 (by rw[←e];exact h.aFJ hn) (by simp;omega))) ⟨_,.inl U,U⟩
theorem aFK{s:Wb}(h:mF s){x:Int}{r ns:List Int}(h0:0≤x)(h1:x<(s.rs.length:Int))(hn:∀m∈ns,0≤m∧m<(s.n:Int))(hl:ns.length≤7):gR κ [kZ κ s,.int x,dTup r,aP ns]=NC (.int s.n,kZ κ (s.wr x r (s.ns x ns))):=by have:=ZR κ h (r:=r) (os:=ns.map NC) h0 h1 (by rw[vW];exact hn) (by rw[B6];exact hl);rw[vW,←yR]at this;exact this
def lnk(r:List Int)(y:Int):List Int:=[r.getD 0 0,y,r.getD 2 0,r.getD 3 0,r.getD 4 0]
theorem mO{r:List Int}{k:Nat}(h:k<r.length):dU (dTup r) (.int k)=NC (.int (r.getD k 0)):=uE (P5 _) (by
 rw[B9,D7,oR (d:=0) h]
 rfl)
theorem mF.five{s:Wb}(h:mF s){x:Int}(h0:0≤x)(h1:x<(s.rs.length:Int)):(s.R x).length=5:=(h.rcd x.toNat (by omega)).2
theorem ZS{s:Wb}(h:mF s){x y:Int}{os:List (Option Int)}(h0:0≤x)(h1:x<(s.rs.length:Int))(hn:∀m∈xQ os,0≤m∧m<(s.n:Int))(hl:os.length≤7):nF κ [kZ κ s,.int x,.int y,gA os]=NC (.int s.n,kZ κ (s.wr x (lnk (s.R x) y) (s.ns x (xQ os)))):=by refine lJ U λv=>?_;unfold Pq;have h5:=h.five h0 h1;refine cC (d:=dTup (s.R x)) (bY (nm:=wB) U (by decide +kernel) U U (pM κ h h0 h1)) (by exact Nat.le_of_ble_eq_true U) ?_;refine rT (d:=.int s.n) (env':=[.inn v (kZ κ (s.wr x (lnk (s.R x) y) (s.ns x (xQ os)))),.fro (.int x),.fro (.int y),.fro (gA os),.own (dTup (s.R x))]) (lU (p:=[]) (nm:=wB) (es:=[.int x,dTup (lnk (s.R x) y),gA os]) U U U (by decide +kernel) (mapA (cB U (cB (iC (aA (aX (aH U U (mO (k:=0) (by omega))) U) (aA (aX U U) (aA (aX (aH U U (mO (k:=2) (by omega))) U) (aA (aX (aH U U (mO (k:=3) (by omega))) U) (aA (aX (aH U U (mO (k:=4) (by omega))) U) U))))) (by exact Nat.le_of_ble_eq_true U)) (cB U U)))) (ZR κ h h0 h1 hn hl)) ⟨_,.inl U,U⟩
theorem aFL{s:Wb}(h:mF s){x y:Int}{ns:List Int}(h0:0≤x)(h1:x<(s.rs.length:Int))(hn:∀m∈ns,0≤m∧m<(s.n:Int))(hl:ns.length≤7):nF κ [kZ κ s,.int x,.int y,aP ns]=NC (.int s.n,kZ κ (s.wr x (lnk (s.R x) y) (s.ns x ns))):=by have:=ZS κ h (y:=y) (os:=ns.map NC) h0 h1 (by rw[vW];exact hn) (by rw[B6];exact hl);rw[vW,←yR]at this;exact this
theorem Jf{s:Wb}{ns:List Int}{nd:D}(hn:∀m∈ns,0≤m∧m<(s.n:Int))(hnd:(nd=.non∧ns=[])∨nd=aP ns):cJ κ [kZ κ s,nd]=NC (aP ns):=by
  suffices hh:∃d,cJ κ [kZ κ s,nd]=NC d∧d=aP ns by obtain⟨d,e1,rfl⟩:=hh;exact e1
  refine yq U ?_;unfold tZ;refine cC (d:=aP ns) ?_ (by exact Nat.le_of_ble_eq_true U) ?_
  · rcases hnd with ⟨rfl,rfl⟩ | rfl
    · exact aGG (bR (aH U U (Eu NG .non))) U
    · exact aGH (bR (aH U U (Eu NG (aP ns)))) (cT (aA U U) (qT (cY ns)))
  refine kj (ns:=ns) [.fro (kZ κ s),.fro nd,.own (aP ns),lv ns .no ns.length] U U (λv2 k env=>env=[.fro (kZ κ s),.fro nd,.inn v2 (aP ns),lv ns .no k]) (λv2=>rfl) (λv2 k env e=>by rw[e];rfl) ?_ (λv2 env e=>by rw[e];rfl) ?_
  · rintro v2 k x env hx rfl
    refine⟨by walk_at "lt", _,Cw (d:=.non) (bY (nm:=Xq) (dJ U (oG w0 U)) (by decide +kernel) U U (vQ κ (hn x (E6 hx)).1 (hn x (E6 hx)).2)),?_⟩;have e:lv ns .no (k+1)=.fro (.int x):=by show SD.fro (.int (ns.getD k 0))=_;rw[qC hx]
    rw[e];rfl
  exact JM U ⟨_,U,U⟩
def Wb.ahead(s:Wb)(at_:Int):Int:=(0::s.od).getD at_.toNat 0
theorem aFM(od:List Int)(h:od.length≤1000):eU (aP [0]) (aP od)=NC (aP (0::od)):=zP [0] od (by simp;omega)
theorem mF.NB{s:Wb}(h:mF s):s.od.length≤64:=by
 have:=qW s.rs.length s.od h.bf λx hx=>by have:=h.Rp x hx;omega
 have:=h.few;omega
theorem mF.aIt{s:Wb}(h:mF s):s.lo.length<64:=by
 have hh:=qW s.rs.length (0::s.lo) (K8.mpr ⟨λz=>by have:=(h.lom 0).mp z;omega,h.lon⟩) λx hx=>by
  rcases D5.mp hx with z | z
  ·have:=h.pos;omega
  ·have:=(h.lom x).mp z;omega
 rw[F0]at hh;have:=h.few;omega
theorem Qc{s:Wb}(h:mF s){k:Int}(h0:0≤k)(h1:k≤(s.od.length:Int)):jU κ [kZ κ s,.int k]=NC (.int (s.ahead k)):=by have:=h.NB;exact mH U (iB (aX (aH (aH (iD (aA U U) (by exact Nat.le_of_ble_eq_true U)) (dJ U (oG w2 U)) (aFM _ (by omega))) U (fJ h0 (by simp;omega))) U))
theorem mF.ahead{s:Wb}(h:mF s){k:Int}(h0:0≤k)(h1:k≤(s.od.length:Int)):(s.ahead k=0∨s.ahead k∈s.od)∧0≤s.ahead k∧s.ahead k<(s.rs.length:Int):=by
 have hm:s.ahead k∈(0::s.od):=by unfold Wb.ahead;rw[B8,B7 (show k.toNat<(0::s.od).length by simp;omega)];exact N6 _
 rcases D5.mp hm with z | z
 ·rw[z];have:=h.pos;exact⟨.inl U,by omega,by omega⟩
 ·have:=h.Rp _ z;exact⟨.inr z,by omega,by omega⟩
theorem qg{s:Wb}(h:mF s){x a b c:Int}{ns:List Int}{nd:D}(h0:0≤x)(h1:x<(s.rs.length:Int))(hn:∀m∈ns,0≤m∧m<(s.n:Int))(hl:ns.length≤7)(hnd:(nd=.non∧ns=[])∨nd=aP ns):qJ κ [kZ κ s,.int x,.int a,.int b,.int c,nd]=NC (.int s.n,kZ κ (s.wr x [(s.R x).getD 0 0,(s.R x).getD 1 0,a,b,c] (s.ns x ns))):=by refine lJ U λv=>?_;unfold Di;have h5:=h.five h0 h1;refine cC (d:=dTup (s.R x)) (bY (nm:=wB) U (by decide +kernel) U U (pM κ h h0 h1)) (by exact Nat.le_of_ble_eq_true U) ?_;refine rT (d:=.int s.n) (env':=[.inn v (kZ κ (s.wr x [(s.R x).getD 0 0,(s.R x).getD 1 0,a,b,c] (s.ns x ns))),.fro (.int x),.fro (.int a),.fro (.int b),.fro (.int c),.fro nd,.own (dTup (s.R x))]) (lU (p:=[]) (nm:=wB) (es:=[.int x,dTup [(s.R x).getD 0 0,(s.R x).getD 1 0,a,b,c],aP ns]) U U U (by decide +kernel) (mapA (cB U (cB (iC (aA (aX (aH U U (mO (k:=0) (by omega))) U) (aA (aX (aH U U (mO (k:=1) (by omega))) U) (aA (aX U U) (aA (aX U U) (aA (aX U U) U))))) (by exact Nat.le_of_ble_eq_true U)) (xK (bY (nm:=wB) U (by decide +kernel) U U (Jf κ hn hnd)) U)))) (aFK κ h h0 h1 hn hl)) ⟨_,.inl U,U⟩
def Wb.new(s:Wb):Int:=RM s.lo
def Wb.e1(s:Wb)(k key was now lK:Int):Wb:=s.wr s.new [key,(s.R (s.ahead k)).getD 1 0,was,now,lK] (s.go.get s.new).toList
def Wb.e2(s:Wb)(k key was now lK:Int)(fu:List Int):Wb:=(s.e1 k key was now lK).wr (s.ahead k) (lnk ((s.e1 k key was now lK).R (s.ahead k)) s.new) ((s.e1 k key was now lK).ns (s.ahead k) ((s.n:Int)::fu))
def Wb.ent(s:Wb)(k key was now lK:Int)(fu:List Int):Wb:={s.e2 k key was now lK fu with od:=s.od.take k.toNat++s.new::s.od.drop k.toNat,lo:=s.lo.eraseIdx (s.lo.idxOf s.new),co:=s.co.put s.new (s.n+1:Nat)}
theorem mF.new{s:Wb}(h:mF s)(hl:0<s.lo.length):s.new∈s.lo∧1≤s.new∧s.new<(s.rs.length:Int)∧s.new∉s.od∧0≤s.new:=by have:=(Hi hl).1;have hm:=(h.lom _).mp this;exact⟨this,hm.1,hm.2.1,hm.2.2,Int.le_trans (by decide) hm.1⟩
theorem mF.aJZ{s:Wb}(h:mF s)(x:Int):∀m∈(s.go.get x).toList,0≤m∧m<(s.n:Int):=λm hm=>by
 cases e:s.go.get x with
 | none=>rw[e]at hm;cases hm
 | some y=>rw[e]at hm;rw[E3.mp hm];exact h.goi x y e
theorem mF.e1{s:Wb}(h:mF s)(hl:0<s.lo.length)(hm:s.n<124)(k key was now lK:Int):mF (s.e1 k key was now lK):=by obtain⟨a,b,c,d,e⟩:=h.new hl;exact h.wr e c U (h.aJZ _) (G0 (yS _) (by decide)) hm λz=>absurd z d
theorem aDu(s:Wb)(k key was now lK:Int):(s.e1 k key was now lK).n=s.n+1:=aDr _ _ _ _
theorem mF.e2{s:Wb}(h:mF s)(hl:0<s.lo.length)(hm:s.n<123){k key was now lK:Int}{fu:List Int}(h0:0≤k)(h1:k≤(s.od.length:Int))(hn:∀m∈fu,0≤m∧m<(s.n:Int))(hf:fu.length≤5):mF (s.e2 k key was now lK fu)∧(∀m∈(s.n:Int)::fu,0≤m∧m<((s.e1 k key was now lK).n:Int))∧s.ahead k<((s.e1 k key was now lK).rs.length:Int):=by
 have w:=h.e1 hl (by omega) k key was now lK;obtain⟨a,b,c⟩:=h.ahead h0 h1;have hn2:∀m∈(s.n:Int)::fu,0≤m∧m<((s.e1 k key was now lK).n:Int):=λm hm=>by
  rw[aDu];rcases D5.mp hm with z | z
  ·omega
  ·have:=hn m z;omega
 have hc:s.ahead k<((s.e1 k key was now lK).rs.length:Int):=by show _<((s.wr _ _ _).rs.length:Int);rw[Jd];exact c
 refine⟨w.wr b hc U (w.aFJ hn2) ?_ (by rw[aDu];omega) λz=>rfl,hn2,hc⟩;unfold Wb.ns;rw[C7];have:=yS ((s.e1 k key was now lK).co.get (s.ahead k));simp;omega
theorem aGI(s:Wb)(k key was now lK:Int)(fu:List Int):(s.ent k key was now lK fu).n=s.n+2:=by show (s.e2 k key was now lK fu).n=_;unfold Wb.e2;rw[aDr,aDu]
theorem aFN(s:Wb)(k key was now lK:Int)(fu:List Int):(s.ent k key was now lK fu).rs.length=s.rs.length:=by show (s.e2 k key was now lK fu).rs.length=_;unfold Wb.e2;rw[Jd];exact Jd _ _ _ _
theorem CK{l:List Int}{x y:Int}(hn:l.Nodup):y∈l.eraseIdx (l.idxOf x)↔y∈l∧y≠x:=by rw[←List.erase_eq_eraseIdx_of_idxOf U,hn.mem_erase_iff];exact and_comm
def Wb.Fits(s:Wb)(k key:Int):Prop:=(∀x∈s.od.take k.toNat,s.key x<key)∧∀x∈s.od.drop k.toNat,key<s.key x
theorem mF.ent{s:Wb}(h:mF s)(hl:0<s.lo.length)(hm:s.n<123){k key was now lK:Int}{fu:List Int}(h0:0≤k)(h1:k≤(s.od.length:Int))(hn:∀m∈fu,0≤m∧m<(s.n:Int))(hf:fu.length≤5)(hk:s.Fits k key):mF (s.ent k key was now lK fu):=by
  obtain⟨w,_,_⟩:=h.e2 hl hm (key:=key) (was:=was) (now:=now) (lK:=lK) h0 h1 hn hf;obtain⟨a1,a2,a3,a4,a5⟩:=h.new hl;have hA:=h.ahead h0 h1;have hod:∀x,x∈s.od.take k.toNat++s.new::s.od.drop k.toNat↔x=s.new∨x∈s.od:=λx=>by
    conv=>rhs;rw[←Q3 k.toNat s.od]
    simp only[F2,D5];constructor
    · rintro(z | z | z)
      · exact .inr (.inl z)
      · exact .inl z
      · exact .inr (.inr z)
    · rintro(z | z | z)
      · exact .inr (.inl z)
      · exact .inl z
      · exact .inr (.inr z)
  have hlen:=aFN s k key was now lK fu;have hnn:=aGI s k key was now lK fu;have kk:∀x,x=s.new∨x∈s.od→(s.ent k key was now lK fu).key x=if x=s.new then key else s.key x:=λx hx=>by
    have x0:0≤x:=by
      rcases hx with z | z
      · omega
      · have:=h.Rp x z;omega
    show ((s.e2 k key was now lK fu).R x).getD 0 0=_;have e1r:∀y,0≤y→(s.e1 k key was now lK).R y=if y=s.new then [key,(s.R (s.ahead k)).getD 1 0,was,now,lK]else s.R y:=λy hy=>aIs a5 a3 hy;have ne:s.ahead k≠s.new:=λz=>by
      rcases hA.1 with y | y
      · omega
      · exact a4 (z▸y)
    unfold Wb.e2;rw[aIs hA.2.1 (by show _<((s.wr _ _ _).rs.length:Int);rw[Jd];exact hA.2.2) x0];by_cases c:x=s.ahead k
    · rw[if_pos c,if_neg (by rw[c];exact ne),e1r _ hA.2.1,if_neg ne,c]
      rfl
    · rw[if_neg c,e1r x x0]
      by_cases c2:x=s.new
      · rw[if_pos c2,if_pos c2];rfl
      · rw[if_neg c2,if_neg c2];rfl
  refine⟨w.bn,w.p1,w.len,w.few,w.pos,w.rcd,w.las,w.lao,?_,?_,?_,?_,?_,?_,?_,?_,?_,w.th⟩
  · rw[hnn];exact(h.coo.put _ _).mono (by omega)
  · rw[hnn];exact h.goo.mono (by omega)
  · intro x y e
    have e:(s.co.put s.new (s.n+1:Nat)).get x=NC y:=e;rw[Mp.Am h.coo.1]at e;rw[hnn];split at e
    · cases e
      omega
    · have:=h.coi x y e
      omega
  · intro x y e
    have:=h.goi x y e;rw[hnn];omega
  · refine N4.mpr ⟨h.bf.sublist (O1 _ _),K8.mpr ⟨λz=>a4 (U8 z),h.bf.sublist (i3 _ _)⟩,λx hx y hy=>?_⟩
    rcases D5.mp hy with z | z
    · rintro rfl
      exact a4 (z▸O4 hx)
    · have:=h.bf
      rw[←Q3 k.toNat s.od]at this;exact(N4.mp this).2.2 x hx y z
  · intro x hx
    rw[hlen]
    rcases(hod x).mp hx with z | z
    · omega
    · exact h.Rp x z
  · exact h.lon.sublist (T8 _ _)
  · intro x
    show x∈s.lo.eraseIdx (s.lo.idxOf s.new)↔_;rw[hlen,CK h.lon,h.lom x];show _↔1≤x∧x<(s.rs.length:Int)∧x∉s.od.take k.toNat++s.new::s.od.drop k.toNat;rw[hod x,not_or];constructor
    · rintro⟨⟨z1,z2,z3⟩,z4⟩
      exact⟨z1,z2,z4,z3⟩
    · rintro⟨z1,z2,z4,z3⟩
      exact⟨⟨z1,z2,z3⟩,z4⟩
  · have hp:=h.key
    rw[←Q3 k.toNat s.od]at hp;obtain⟨p1,p2,p3⟩:=N3.mp hp;have nt:∀x∈s.od.take k.toNat,x≠s.new:=λx hx z=>a4 (z▸O4 hx);have nd:∀x∈s.od.drop k.toNat,x≠s.new:=λx hx z=>a4 (z▸U8 hx);have kt:∀x∈s.od.take k.toNat,(s.ent k key was now lK fu).key x=s.key x:=λx hx=>by rw[kk x (.inr (O4 hx)),if_neg (nt x hx)]
    have kd:∀x∈s.od.drop k.toNat,(s.ent k key was now lK fu).key x=s.key x:=λx hx=>by rw[kk x (.inr (U8 hx)),if_neg (nd x hx)]
    have kn:(s.ent k key was now lK fu).key s.new=key:=by rw[kk _ (.inl U),if_pos rfl]
    show (s.od.take k.toNat++s.new::s.od.drop k.toNat).Pairwise _;refine N3.mpr ⟨p1.imp_of_mem λ{x y} hx hy q=>by rw[kt x hx,kt y hy];exact q,I0.mpr ⟨λy hy=>by rw[kn,kd y hy];exact hk.2 y hy,p2.imp_of_mem λ{x y} hx hy q=>by rw[kd x hx,kd y hy];exact q⟩,λx hx y hy=>?_⟩;rw[kt x hx];rcases D5.mp hy with z | z
    · rw[z,kn]
      exact hk.1 x hx
    · rw[kd y z]
      exact p3 x hx y z
theorem aFO{s:Wb}{k key:Int}(h0:0≤k)(h1:k≤(s.od.length:Int))(hk:s.Fits k key):(((s.od.filter λx=>decide (s.key x<key)).length:Nat):Int)=k:=by
 conv=>lhs;rw[←Q3 k.toNat s.od]
 rw[W4,M6.mpr λx hx=>decide_eq_true (hk.1 x hx),Z8.mpr λx hx=>by have:=hk.2 x hx;simp;omega,F3,J4];omega
theorem aDv{env:EN}{i:Nat}{π:FP}{f g:FE}{d0:D}{p:List L2.Step}{ns:List Int}{k y:Int}(h1:env[i]?=NC (.own d0))(h2:π (rE env)=NC p)(h3:gC p d0=NC (aP ns))(h4:f (rE env)=NC (.int k))(h5:g (rE env)=NC (.int y))(k0:0≤k)(k1:k≤(ns.length:Int))(hl:ns.length<1000):jr i π f g env=.next (env.set i (.own (fG p d0 (aP (ns.take k.toNat++y::ns.drop k.toNat))))):=by unfold jr;rw[h1,h2,h4,h5];dsimp only;rw[h3];unfold aP;dsimp only;rw[mC];dsimp only;rw[if_pos ⟨k0,by omega,hl⟩]
theorem aDw{env:EN}{i:Nat}{π:FP}{g:FE}{d0:D}{p:List L2.Step}{ns:List Int}{y:Int}(h1:env[i]?=NC (.own d0))(h2:π (rE env)=NC p)(h3:gC p d0=NC (aP ns))(h5:g (rE env)=NC (.int y))(hy:y∈ns):jt i π g env=.next (env.set i (.own (fG p d0 (aP (ns.eraseIdx (ns.idxOf y)))))):=by unfold jt;rw[h1,h2,h5];dsimp only;rw[h3];unfold aP;dsimp only;rw[mC];dsimp only;rw[if_pos hy]
theorem aDx{s:Wb}(h:mF s)(hl:0<s.lo.length)(hm:s.n<123){k key was now lK:Int}{fu:List Int}{nd:D}(h0:0≤k)(h1:k≤(s.od.length:Int))(hn:∀m∈fu,0≤m∧m<(s.n:Int))(hf:fu.length≤5)(hk:s.Fits k key)(hnd:(nd=.non∧fu=[])∨nd=aP fu) :
  qK κ [kZ κ s,.int key,.int was,.int now,.int lK,nd]=NC (.tup [.int s.new,.int (s.n+1:Nat)],kZ κ (s.ent k key was now lK fu)):=by
 refine lJ U λv=>?_;unfold Kz;obtain⟨a1,a2,a3,a4,a5⟩:=h.new hl;obtain⟨b1,b2,b3⟩:=h.ahead h0 h1;obtain⟨W2,hn2,hc⟩:=h.e2 hl hm (key:=key) (was:=was) (now:=now) (lK:=lK) h0 h1 hn hf;have W1:=h.e1 hl (by omega) k key was now lK;have h5:=h.five b2 b3;have ho:=h.NB;refine Az (bR (aH (cT (aA (dJ U (oG w3 U)) U) (jP _)) U (mQ _ _))) (decide_eq_false (by omega)) (Bh ?_);refine cC (d:=aP fu) (bY (nm:=wB) U (by decide +kernel) U U (Jf κ hn hnd)) (by exact Nat.le_of_ble_eq_true U) ?_;have Dt:=yF (fi:=mW (tL (fO (κ 1) "string") (aD 0))) (fr:=[0,1]) (fc:=fB (f2 dLt (f2 dU (gJ (κ 1) "record_of" 2 (bV κ) (aD 1) (aB (aD 0) aM) []) (fC (.int (0)))) (aD 2))) (fe:=bO (aD 0)) (e:=rE [.inn v (kZ κ s),.fro (.int key),.fro (.int was),.fro (.int now),.fro (.int lK),.fro nd,.own (aP fu),.no,.no,.no,.no,.no]) (ms:=s.od) (λx=>decide (s.key x<key)) (λx=>.int x) (jF (dJ U (oG w2 U))) (by omega) (λx hx=>by
  have:=h.Rp x hx;exact bR (aH (aH (bY (nm:=wB) U (by decide +kernel) U U (pM κ h (by omega) this.2)) U (mO (k:=0) (by rw[h.five (by omega) this.2];decide))) U (Ep _ _))) λx hx _=>aX U U
 refine cC (d:=.int k) ((cT (aA Dt U) (Uq _)).trans (by rw[B6,aFO h0 h1 hk])) (by exact Nat.le_of_ble_eq_true U) ?_;refine cC (d:=.int (s.ahead k)) (bY (nm:=wB) U (by decide +kernel) U U (Qc κ h h0 h1)) (by exact Nat.le_of_ble_eq_true U) ?_;refine cC (d:=.int s.new) (cT (aA (dJ U (oG w3 U)) U) (jx hl)) (by exact Nat.le_of_ble_eq_true U) ?_;refine vD (d:=.int s.n) (env':=[.inn v (kZ κ (s.e1 k key was now lK)),.fro (.int key),.fro (.int was),.fro (.int now),.fro (.int lK),.fro nd,.own (aP fu),.own (.int k),.own (.int (s.ahead k)),.own (.int s.new),.no,.no])
  (lU (p:=[]) (nm:=wB) (es:=[.int s.new,dTup [key,(s.R (s.ahead k)).getD 1 0,was,now,lK],gA [s.go.get s.new]]) U U U (by decide +kernel) (mapA (cB U (xK (iC (aA (aX U U) (aA (aX (aH (bY (nm:=wB) U (by decide +kernel) U U (pM κ h b2 b3)) U (mO (k:=1) (by omega))) U) (aA (aX U U) (aA (aX U U) (aA (aX U U) U))))) (by exact Nat.le_of_ble_eq_true U)) (xK (iD (aA (bY (nm:=wB) U (by decide +kernel) U U (Qa κ h s.new)) U) (by exact Nat.le_of_ble_eq_true U)) U)))) ((ZP κ h a5 a3 (by rw[vX];exact λm hm=>h.aJZ _ m (by simpa[xQ]using hm)) (by simp)).trans (by rw[vX,show xQ []=[]from rfl,F3];rfl))) (by exact Nat.le_of_ble_eq_true U) ?_
 refine vD (d:=.int (s.n+1:Nat)) (env':=[.inn v (kZ κ (s.e2 k key was now lK fu)),.fro (.int key),.fro (.int was),.fro (.int now),.fro (.int lK),.fro nd,.own (aP fu),.own (.int k),.own (.int (s.ahead k)),.own (.int s.new),.own (.int s.n),.no])
  (lU (p:=[]) (nm:=wB) (es:=[.int (s.ahead k),.int s.new,aP ((s.n:Int)::fu)]) U U U (by decide +kernel) (mapA (cB U (cB U (cB (aH (iD (aA U U) (by exact Nat.le_of_ble_eq_true U)) U (zP [(s.n:Int)] fu (by simp;omega))) U)))) ((aFL κ W1 b2 hc hn2 (by simp;omega)).trans (by rw[aDu];rfl))) (by exact Nat.le_of_ble_eq_true U) ?_
 refine mR U (aDv (p:=[L2.Step.fld (κ 1) "string"]) (ns:=s.od) U U (Ao w2 U) U U h0 h1 (by omega)) U ?_;rw[show fG [L2.Step.fld (κ 1) "string"] (kZ κ (s.e2 k key was now lK fu)) (aP (s.od.take k.toNat++s.new::s.od.drop k.toNat))=.ins (κ 1) wB _ from Aq w2 rfl];refine mR U (aDw (p:=[L2.Step.fld (κ 1) "loose"]) (ns:=s.lo) U U (Ao w3 U) U a1) U ?_;rw[Aq w3 rfl];refine mR U (zT (p:=[L2.Step.fld (κ 1) "comings"]) (k:=.inl s.new) (kd:=.int s.new) (d:=.int (s.n+1:Nat)) U U (Ao w5 U) U U U U (by rw[B6];have:=W2.coo.2;have:=W2.ZM;omega)) U ?_;rw[Aq w5 U,Oj];exact rT (Mz (iC (aA (aX U U) (aA (aX U U) U)) (by exact Nat.le_of_ble_eq_true U))) ⟨_,.inl U,U⟩
theorem mF.aFP{s:Wb}(h:mF s):(sortI s.lo).Pairwise (·<·):=((iV s.lo).strict h.lon).1
theorem We{l:List Int}{x:Int}:x∈sortI l↔x∈l:=(iV l).1.mem_iff
theorem Rq{s:Wb}(h:mF s):qI [nH s]=NC (aP (sortI s.lo)):=by
 suffices hh:∃d,qI [nH s]=NC d∧d=aP (sortI s.lo) by obtain⟨d,e1,rfl⟩:=hh;exact e1
 refine oE U ?_;unfold XQ;have ho:=h.NB;have hr:=h.few;have hp:=h.pos;refine cC (d:=Qm []) U (by exact Nat.le_of_ble_eq_true U) ?_;refine yh (xs:=s.od.map D.int) (λk env=>∃(ks:List Int)(v:SD),env=[.fro (nH s),.own (Qm ks),v]∧ks.length≤k∧∀x,x∈ks↔x∈s.od.take k) U (jF (aH U U (cD k1 U))) ⟨[],.no,U,C5 _,λx=>by simp⟩ ?_ ?_
 ·rintro k x env hx ⟨ks,v,rfl,hl,hm⟩;refine⟨by walk_at "lt", ?_⟩;rw[B9]at hx;obtain⟨y,hy,rfl⟩:=lY hx;have hkl:=(D2.mp hy).1;refine⟨_,aGF (ks:=ks) (k:=y) U U U (by omega),Qn ks y,_,U,G0 (aC4 _ _) (T0 hl),λz=>?_⟩;rw[aC3,hm,P7,hy,F2];simp
 ·rintro env ⟨ks,v,rfl,hl,hm⟩;rw[B6,O8]at hm;have hc:=zQ (fi:=Gj (aB (fC (.int 1)) (aB (fL kO (aB (f2 jD (aD 0) (fC (.str "recs"))) aM)) aM))) (fr:=[1]) (fc:=fB (f2 (Fv NF) (aD 0) (aD 1))) (fe:=bO (aD 0)) (e:=rE [.fro (nH s),.own (Qm ks),v]) (ms:=(D4 (s.rs.length-1)).map λk=>1+((k:Nat):Int)) (λx=>!decide (x∈ks)) id ((Us (i:=1) (j:=(s.rs.length:Int)) (aA U (aA (cT (aA (aH U U (cD k0 U)) U) (ZQ _)) U)) (by omega) (by omega) (by omega) (by omega)).trans (by rw[K7,show ((s.rs.length:Int)-1).toNat=s.rs.length-1 by omega];rfl)) (by rw[B6,D8];omega) (λx _=>bR (aH U U (Uv NF x ks))) λx _ _=>aX U U;refine pZ hc ⟨_,U,?_⟩;rw[i9];congr 1;refine rN (List.Pairwise.sublist R0 ?_) h.aFP λx=>?_
  ·rw[i5];exact S6.imp λq=>by omega
  ·rw[We,h.lom x,N1,J2];constructor
   ·rintro⟨⟨k,hk,rfl⟩,z⟩
    rw[F9]at hk;refine⟨by omega,by omega,λq=>?_⟩;rw[decide_eq_true ((hm _).mpr q)]at z;cases z
   ·rintro⟨z1,z2,z3⟩
    refine⟨⟨(x-1).toNat,F9.mpr (by omega),by omega⟩,?_⟩;rw[decide_eq_false λq=>z3 ((hm _).mp q)];rfl
theorem aBc{l:List Int}(h:0<l.length):(sortI l).getD 0 0=RM l:=by
 have hl:(sortI l).length=l.length:=(iV l).1.length_eq;refine Tz ⟨?_,λa ha=>?_⟩
 ·rw[B8,B7 (by omega)];exact We.mp (N6 _)
 ·obtain⟨i,hi,rfl⟩:=K0 (We.mpr ha);rw[B8,B7 (by omega)];rcases W0 i with z | z
  ·subst z;exact S5 _
  ·exact K5.mp (iV l).2 0 i (by omega) hi z
theorem Qd{s:Wb}(h:mF s){x y:Int}{os:List (Option Int)}(h0:0≤x)(h1:x<(s.rs.length:Int))(hl:os.length≤7):nD [nH s,.int x,.int y,gA os]=NC (.int s.n,nH (s.wr x (lnk (s.R x) y) (s.ns x (xQ os)))):=by
 refine lJ U λv=>?_;unfold Pn;have h5:=h.five h0 h1;refine cC (d:=dTup (s.R x)) (aX (aH (aH U U (cD k0 U)) U (Ff h0 h1)) (iR _)) (by exact Nat.le_of_ble_eq_true U) ?_;have e:s.wr x (lnk (s.R x) y) (s.ns x (xQ os))=s.wr x (lnk (s.R x) y) (xQ (os++[s.co.get x])):=aDt λz=>by unfold Wb.ns;rw[show xQ (os++[s.co.get x])=xQ os++(s.co.get x).toList from by unfold xQ;rw[b9];cases s.co.get x<;>rfl,F2,F2,or_comm]
 rw[e];refine rT (d:=.int s.n) (env':=[.inn v (nH (s.wr x (lnk (s.R x) y) (xQ (os++[s.co.get x])))),.fro (.int x),.fro (.int y),.fro (gA os),.own (dTup (s.R x))]) (wK (es:=[.int x,dTup (lnk (s.R x) y),gA (os++[s.co.get x])]) U (cB U (cB (iC (aA (aX (aH U U (mO (k:=0) (by omega))) U) (aA (aX U U) (aA (aX (aH U U (mO (k:=2) (by omega))) U) (aA (aX (aH U U (mO (k:=3) (by omega))) U) (aA (aX (aH U U (mO (k:=4) (by omega))) U) U))))) (by exact Nat.le_of_ble_eq_true U)) (xK (aH (a:=gA os) (b:=gA [s.co.get x]) U (iD (aA (aH (aH U U (cD k2 U)) U (vU h.coo.1 x)) U) (by exact Nat.le_of_ble_eq_true U)) (vV _ _ (by simp;omega))) U))) (Je h h0 h1 (by simp;omega))) ⟨_,.inl U,U⟩
theorem ql{s:Wb}(h:mF s){x y:Int}{ns:List Int}(h0:0≤x)(h1:x<(s.rs.length:Int))(hl:ns.length≤7):nD [nH s,.int x,.int y,aP ns]=NC (.int s.n,nH (s.wr x (lnk (s.R x) y) (s.ns x ns))):=by have:=Qd h (y:=y) (os:=ns.map NC) h0 h1 (by rw[B6];exact hl);rw[vW,←yR]at this;exact this
theorem qm{s:Wb}(h:mF s)(hl:0<s.lo.length)(hm:s.n<123){k key was now lK:Int}{fu:List Int}(h0:0≤k)(h1:k≤(s.od.length:Int))(hn:∀m∈fu,0≤m∧m<(s.n:Int))(hf:fu.length≤5) :
  wW [nH s,.int k,dTup [key,was,now,lK],aP fu]=NC (.tup [.int s.new,.int (s.n+1:Nat)],nH (s.ent k key was now lK fu)):=by
 refine lJ U λv=>?_;unfold Pu;obtain⟨a1,a2,a3,a4,a5⟩:=h.new hl;obtain⟨b1,b2,b3⟩:=h.ahead h0 h1;obtain⟨W2,hn2,hc⟩:=h.e2 hl hm (key:=key) (was:=was) (now:=now) (lK:=lK) h0 h1 hn hf;have W1:=h.e1 hl (by omega) k key was now lK;have h5:=h.five b2 b3;have ho:=h.NB;have hsl:(sortI s.lo).length=s.lo.length:=(iV s.lo).1.length_eq;refine cC (d:=.int s.new) (aX ((aH (bH (aA U U) U (Rq h)) U (fJ (by decide) (by omega))).trans (by rw[show (0:Int).toNat=0 from rfl,aBc hl];rfl)) U) (by exact Nat.le_of_ble_eq_true U) ?_;refine cC (d:=.int (s.ahead k)) (aX (aH (aH (iD (aA U U) (by exact Nat.le_of_ble_eq_true U)) (aH U U (cD k1 U)) (aFM _ (by omega))) U (fJ h0 (by simp;omega))) U) (by exact Nat.le_of_ble_eq_true U) ?_;refine cC (d:=dTup [key,(s.R (s.ahead k)).getD 1 0,was,now,lK]) (iC (aA (aX (aH U U U) U) (aA (aX (aH (aH (aH U U (cD k0 U)) U (Ff b2 b3)) U (mO (k:=1) (by show 1<(s.R (s.ahead k)).length;omega))) U) (aA (aX (aH U U U) U) (aA (aX (aH U U U) U) (aA (aX (aH U U U) U) U))))) (by exact Nat.le_of_ble_eq_true U)) (by exact Nat.le_of_ble_eq_true U) ?_;refine vD (d:=.int s.n) (env':=[.inn v (nH (s.e1 k key was now lK)),.fro (.int k),.fro (dTup [key,was,now,lK]),.fro (aP fu),.own (.int s.new),.own (.int (s.ahead k)),.own (dTup [key,(s.R (s.ahead k)).getD 1 0,was,now,lK]),.no,.no])
  (wK (es:=[.int s.new,dTup [key,(s.R (s.ahead k)).getD 1 0,was,now,lK],gA [s.go.get s.new]]) U (cB U (cB U (xK (iD (aA (aH (aH U U (cD k3 U)) U (vU h.goo.1 s.new)) U) (by exact Nat.le_of_ble_eq_true U)) U))) ((Je h a5 a3 (by simp)).trans (by rw[vX,show xQ []=[]from rfl,F3];rfl))) (by exact Nat.le_of_ble_eq_true U) ?_
 refine vD (d:=.int (s.n+1:Nat)) (env':=[.inn v (nH (s.e2 k key was now lK fu)),.fro (.int k),.fro (dTup [key,was,now,lK]),.fro (aP fu),.own (.int s.new),.own (.int (s.ahead k)),.own (dTup [key,(s.R (s.ahead k)).getD 1 0,was,now,lK]),.own (.int s.n),.no])
  (wK (es:=[.int (s.ahead k),.int s.new,aP ((s.n:Int)::fu)]) U (cB U (cB U (cB (aH (iD (aA U U) (by exact Nat.le_of_ble_eq_true U)) U (zP [(s.n:Int)] fu (by simp;omega))) U))) ((ql W1 b2 hc (by simp;omega)).trans (by rw[aDu];rfl))) (by exact Nat.le_of_ble_eq_true U) ?_
 refine mR U (zT (p:=[L2.Step.key (.inr "ins")]) (k:=.inl s.new) (kd:=.int s.new) (d:=.int (s.n+1:Nat)) U U (Jb k2 U) U U U U (by rw[B6];have:=W2.coo.2;have:=W2.ZM;omega)) U ?_;rw[show fG [L2.Step.key (.inr "ins")] (nH (s.e2 k key was now lK fu)) _=.dk bks _ from Jc k2 U,Oj];refine mR U (aDv (p:=[L2.Step.key (.inr "order")]) (ns:=s.od) U U (Jb k1 U) U U h0 h1 (by omega)) U ?_;rw[Jc k1 rfl];exact rT (Mz (iC (aA (aX U U) (aA (aX U U) U)) (by exact Nat.le_of_ble_eq_true U))) ⟨_,.inl U,U⟩
theorem mF.NK{s:Wb}(h:mF s){i j:Nat}(hj:j<s.od.length)(hij:i≤j):s.key (s.od.getD i 0)≤s.key (s.od.getD j 0):=by
 rw[B8,B8,B7 (show i<s.od.length by omega),B7 hj];rcases K4 i j with z | z
 ·exact O9 (K5.mp h.key i j (by omega) hj z)
 ·have:i=j:=by omega
  subst this;exact S5 _
theorem Wf{l:List Int}{k:Nat}{x:Int}(h:x∈l.take k):∃i,i<k∧i<l.length∧x=l.getD i 0:=by obtain⟨i,hi,rfl⟩:=K0 h;rw[J4]at hi;exact⟨i,by omega,by omega,by rw[X0,B8,B7 (by omega)];rfl⟩
theorem Wg{l:List Int}{k:Nat}{x:Int}(h:x∈l.drop k):∃i,k≤i∧i<l.length∧x=l.getD i 0:=by obtain⟨i,hi,rfl⟩:=K0 h;rw[Q5]at hi;exact⟨k+i,by omega,by omega,by rw[List.getElem_drop,B8,B7 (by omega)];rfl⟩
theorem aDy{s:Wb}(h:mF s){at_ c:Int}(h0:0≤at_)(h1:at_≤(s.od.length:Int)):∃key k:Int,Ky [nH s,.int at_,.int c]=NC (dTup [key,k])∧0≤k∧k≤(s.od.length:Int)∧s.Fits k key:=by
 suffices hh:∃d,Ky [nH s,.int at_,.int c]=NC d∧∃key k:Int,d=dTup [key,k]∧0≤k∧k≤(s.od.length:Int)∧s.Fits k key by obtain⟨d,e,key,k,rfl,q⟩:=hh;exact⟨key,k,e,q⟩
 refine oE U ?_;unfold yw;have ho:=h.NB;have p50:(0:Int)<10 ^ (50:Int).toNat:=S8 (by decide);have p58:(0:Int)<10 ^ (58:Int).toNat:=S8 (by decide);have hpw:∀n:Int,0≤n→n<100→Jp (.int 10) (.int n)=NC (.int (10 ^ n.toNat)):=λn a b=>yE ⟨a,by omega,by omega⟩;have m50:=F1 c (Int.ne_of_gt p50);have hkd:∀i:Nat,i<s.od.length→(s.od.map s.key).getD i 0=s.key (s.od.getD i 0):=λi hi=>by rw[B8,B9,B7 hi,B8,B7 hi];rfl
 have hc:=zQ (fi:=mW (f2 jD (aD 0) (fC (.str "order")))) (fr:=[0]) (fc:=lG) (fe:=bO (f2 dU (f2 dU (f2 jD (aD 1) (fC (.str "recs"))) (aD 0)) (fC (.int 0)))) (e:=rE [.fro (nH s),.fro (.int at_),.fro (.int c),.no]) (ms:=s.od) (λ_=>NF) s.key (jF (aH U U (cD k1 U))) (by omega) (λx _=>rfl) λx hx _=>by have:=h.Rp x hx;exact aX (aH (aH (aH U U (cD k0 U)) U (Ff (by omega) this.2)) U (mO (k:=0) (by rw[show s.rs.getD x.toNat []=s.R x from rfl,h.five (by omega) this.2];decide))) U
 rw[M6.mpr λ_ _=>rfl]at hc;refine cC hc (by exact Nat.le_of_ble_eq_true U) ?_;have hl:(s.od.map s.key).length=s.od.length:=B6 ..;refine Xc (b:=decide (s.od.map s.key=[])) (bR (aH U U (Ut _ []))) (λe=>?_) λe=>Bh ?_
 ·have e:s.od=[]:=List.map_eq_nil_iff.mp (of_decide_eq_true e);refine WM (iC (aA (aH U (aH U U (hpw 58 (by decide) (by decide))) (bC p58)) (aA U U)) (by exact Nat.le_of_ble_eq_true U)) ⟨_,U,_,0,U,by decide,by omega,?_⟩
  constructor<;>intro x hx<;>rw[e]at hx<;>cases hx
 have hpos:0<s.od.length:=by
  have e:=of_decide_eq_false e;rcases W0 s.od.length with z | z
  ·exact absurd (by rw[F6 z];rfl) e
  ·exact z
 refine Xc (bR (aH U U (mQ _ _))) (λe=>?_) λe=>Bh ?_
 ·refine WM (iC (aA (aH (aH (aH U U (fJ (by decide) (by omega))) U (lR _ _)) (aH U (aH U U (hpw 50 (by decide) (by decide))) (bC p50)) (lR _ _)) (aA U U)) (by exact Nat.le_of_ble_eq_true U)) ⟨_,U,_,0,U,by decide,by omega,λx hx=>by simp at hx,λx hx=>?_⟩;obtain⟨i,_,i2,rfl⟩:=Wg hx;have:=h.NK i2 (M0 i);rw[show (0:Int).toNat=0 from rfl,hkd 0 hpos];omega
 have ha:at_≠0:=of_decide_eq_false e;refine Xc (b:=decide (at_<(s.od.length:Int))&&(decide (1<(s.od.map s.key).getD at_.toNat 0-(s.od.map s.key).getD (at_-1).toNat 0))) ?_ (λe=>?_) λe=>Bh ?_
 ·by_cases z:at_<(s.od.length:Int)
  ·refine zN (bR ((aH U (cT (aA U U) (jP _)) (Ep _ _)).trans (by rw[hl]))) (bR (aH (aH (aH U U (fJ h0 (by omega))) (aH U (aH U U (lR _ _)) (fJ (by omega) (by omega))) (lR _ _)) U (Rm _ _)))
  ·refine(aCR (bR ((aH U (cT (aA U U) (jP _)) (Ep _ _)).trans (by rw[hl,decide_eq_false z])))).trans ?_;rw[decide_eq_false z];rfl
 ·rw[G7,decide_eq_true_iff,decide_eq_true_iff]at e;obtain⟨e1,e2⟩:=e;have g1:=hkd at_.toNat (by omega);have g2:=hkd (at_-1).toNat (by omega);have hm0:=F1 c (show (s.od.map s.key).getD at_.toNat 0-(s.od.map s.key).getD (at_-1).toNat 0-1≠0 by omega);have hm1:=E9 c (show 0<(s.od.map s.key).getD at_.toNat 0-(s.od.map s.key).getD (at_-1).toNat 0-1 by omega);refine WM (iC (aA (aH (aH (aH U (aH U U (lR _ _)) (fJ (by omega) (by omega))) U (cP _ _)) (aH U (aH (aH (aH U U (fJ h0 (by omega))) (aH U (aH U U (lR _ _)) (fJ (by omega) (by omega))) (lR _ _)) U (lR _ _)) (bC (by omega))) (cP _ _)) (aA (aX U U) U)) (by exact Nat.le_of_ble_eq_true U)) ⟨_,U,_,at_,U,h0,h1,λx hx=>?_,λx hx=>?_⟩
  ·obtain⟨i,i1,i2,rfl⟩:=Wf hx;have:=h.NK (i:=i) (j:=(at_-1).toNat) (by omega) (by omega);omega
  ·obtain⟨i,i1,i2,rfl⟩:=Wg hx;have:=h.NK (i:=at_.toNat) i2 i1;omega
 have aLQ:(s.od.map D.int).length=s.od.length:=B6 ..;refine pZ (iC (aA (aH (aH (aH U (rR U) (aFz (x:=.int (s.key (s.od.getD (s.od.length-1) 0))) (by
   rw[X2,B6,hl,B9,oR (d:=0) (show s.od.length-1<(s.od.map s.key).length by omega),hkd _ (by omega)]
   rfl))) U (cP _ _)) (aH U (aH U U (hpw 50 (by decide) (by decide))) (bC p50)) (cP _ _)) (aA ((cT (aA U U) (jP _)).trans (by rw[hl])) U)) (by exact Nat.le_of_ble_eq_true U)) ⟨_,U,_,_,U,by omega,S5 _,λx hx=>?_,λx hx=>?_⟩
 ·obtain⟨i,i1,i2,rfl⟩:=Wf hx;have:=h.NK (i:=i) (j:=s.od.length-1) (by omega) (by omega);omega
 ·rw[D7,T3]at hx;cases hx
theorem aBd{g1 g:GS}{env e':EN}{d:D}(h:g1 env=.rete d e'):aW g1 g env=.rete d e':=by unfold aW;rw[h]
section
variable{env env' e1 e2:EN}{b:Bool}{d d2 r:D}{f:FE}{ft:FT}{g1 g2:GS}{gb gc:GB}{gm:GM}{eF eZ:DE}{z y:FE2}{fs:FA2}{es xs ys:List D}{js:List Nat}{i:Nat}{φ:D→D→Option D}
theorem aDz(h:gb env=NC (NG,env')):TY gb g1 g2 env=g2 env':=by unfold TY;rw[h]
theorem qp(h:gm env=NC (.bl b,env')):gbV gm env=NC (b,env'):=by unfold gbV;rw[h];rfl
theorem aFQ(h:gm env=NC (d,env'))(h2:f (rE env')=NC d2)(h3:φ d d2=NC r)(hi:r.jJ=NF):aCA φ gm f env=NC (r,env'):=by unfold aCA;rw[h,C4,h2,C4,h3,C4,if_pos hi]
end
section
variable{env env' e1 e2 e0:EN}{b:Bool}{d r:D}{gb:GB}{gm gn:GM}{as:List Ar}{F:List D→Option (D×List D)}{Ql OJ ds':List D}{f:FE}{ds:List D}
theorem ZV(h:gb env=NC (b,e1)):TX gb env=NC (!b,e1):=by unfold TX;rw[h];rfl
theorem aDA(h:gm env=NC (d,env')):pY gm env=.rete d env':=by unfold pY;rw[h]
theorem ZW(h1:takes (chA as) env=NC (Ql,e0))(h2:rdA as (rE env) (rE e0)=NC OJ)(h3:F (xJ (sS as) Ql OJ)=NC (r,ds')):Um as F env=NC (r,Xa (chA as) ds' env):=by unfold Um;rw[h1,C4,h2,C4,h3];rfl
theorem aIu{Pr:SR→Prop}{g1 g:GS}(h:g1 env=.rete d e1)(k:Pr (.rete d e1)):Qs Pr (aW g1 g env):=by unfold Qs;rw[aBd h];exact k
theorem aGJ{eF eZ:DE}(h1:f eZ=NC d)(h2:rdA as eF eZ=NC ds):rdA (.rd f::as) eF eZ=NC (d::ds):=by show (f eZ).bind _=_;rw[h1,C4,h2];rfl
theorem zf{eF eZ:DE}{i:Nat}(h2:rdA as eF eZ=NC ds):rdA (.ch i::as) eF eZ=NC ds:=h2
end
theorem aDB{ds:List D}{xs:List DV}(h:lF ds=NC xs)(hd:(DV.lst xs).depth≤32):Ft (.lst ds) (.lst ds)=NC (.bl NF):=by
 have e:iQ (.lst ds)=NC (.lst xs):=by unfold iQ;rw[h];rfl
 unfold Ft toV;dsimp only;rw[e];dsimp only;rw[if_pos hd,pO]
theorem aIv(c:tY):Ft (Bj c) (Bj c)=NC (.bl NF):=by have e:=yo c;have hd:=WR c;unfold Ft;rw[e];unfold Bj toV;dsimp only;rw[if_pos (by omega),pO]
theorem aFR(cs:List tY):Ft (sU cs) (sU cs)=NC (.bl NF):=by have hd:=Uz cs;exact aDB (Zm cs) (by unfold DV.depth;omega)
theorem aFS(a b:List Int)(h:a.length+b.length≤1000):Yu (dTup a) (dTup b)=NC (dTup (a++b)):=by show (if D.fU (a.map D.int)=NF∧D.fU (b.map D.int)=NF∧(a.map D.int).length+(b.map D.int).length≤100000 then NC (D.tup (a.map D.int++b.map D.int))else none)=_;rw[if_pos ⟨cY a,cY b,by rw[B6,B6];omega⟩,←J3];rfl
theorem yU(n:Int):gQ [.int n]=NC (.bl NF):=oO U (iB (Kf (Er U U) (aCT (b:=NG) (Er U U))))
theorem qt{c:tY}(h:c.thing.length+c.needs.length≤100):vK [Bj c,Bj c]=NC (.bl NF):=by
 suffices h:∃d,vK [Bj c,Bj c]=NC d∧d=.bl NF by obtain⟨d,h1,rfl⟩:=h;exact h1
 refine oE U ?_;unfold Vj;apply Az (b:=!true||(!decide ((4:Int)=4)||(!true||!true)))
 ·exact Cr (lH (b:=NF) (bR (Er U U))) (Cr (bR (aH (cT (aA U U) U) U (rP _ _))) (Cr (lH (b:=NF) (bR (bH (aA (aH U U (JP c)) U) U (yU _)))) (lH (b:=NF) (bR (bH (aA (aH U U (Ux c)) U) U (yU _))))))
 ·rfl
 apply Bh;apply Az (b:=!true||!true)
 ·exact Cr (lH (b:=NF) (bR (Er (aH U U (Cv c)) U))) (lH (b:=NF) (bR (Er (aH U U (Kh c)) U)))
 ·rfl
 apply Bh;have Dt:=yF (fi:=mW (f2 Yu (f2 dU (aD 0) (fC (.int 2))) (f2 dU (aD 0) (fC (.int 3))))) (fr:=[]) (fc:=lG) (fe:=cN 1 gQ (aB (aD 0) aM)) (e:=rE [.fro (Bj c),.fro (Bj c)]) (ms:=c.thing++c.needs) (λ_=>NF) (λ_=>.bl NF)
  (Zq (aH (aH U U (Cv c)) (aH U U (Kh c)) (aFS _ _ (by omega)))) (by rw[C7];omega) (λm hm=>rfl) λm hm _=>bH (aA U U) U (yU m)
 rw[M6.mpr λ_ _=>rfl]at Dt;refine pZ (d:=.bl (((c.thing++c.needs).all λ_=>NF)&&NF)) (aCU (cT (aA Dt U) (Kl (λ_:Int=>NF) _)) (aH U U (aIv c))) ⟨_,U,?_⟩;rw[L8.mpr λ_ _=>rfl];rfl
theorem aDC{Pr:SR→Prop}{env:EN}{i:Nat}{gb g:GS}{fi:FA}{lo:Int}{n:Nat}(I:Nat→EN→Prop)(h:fi (rE env)=NC (jO lo n))(h0:I 0 env)
  (st:∀(k:Nat) env,k<n→I k env→i<env.length∧Qs (λr=>∃env',r=.next env'∧I (k+1) env') (gb (env.set i (.fro (.int (lo+k)))))) (k:∀env',I n env'→Qs Pr (g env')):Qs Pr (aW (yC i fi gb) g env):=by
 obtain⟨env',h1,h2⟩:=Eo (i:=i) (g:=gb) I (jO lo n) env 0 h0 λk x e hx hi=>by rw[N9]at hi ⊢;obtain⟨hk,rfl⟩:=Hv hx;exact⟨(st k e hk hi).1,let ⟨e,a,b⟩:=(st k e hk hi).2;⟨e,a,b⟩⟩
 rw[N9,zM]at h2;rw[fH ((WK h).trans h1)];exact k env' h2
theorem Wh(ns:List Int)(k:Nat):mZ [aP ns,.int k]=NC (.int (ns.getD k 0)):=by
 refine oO U ?_;unfold WX;by_cases c:k<ns.length
 ·have hx:=fJ (ns:=ns) (i:=k) (by omega) (by omega);rw[D7]at hx;apply aIa
  ·walk_at "et"
  ·exact decide_eq_true (by omega)
  exact aJQ (aX (aH U U hx) U) U
 ·apply aH9
  ·walk_at "et"
  ·exact decide_eq_false (by omega)
  apply aJP;rw[B8,E2 (by omega)];exact iB U
theorem aBe(c:Int):∃s:Int,0≤s∧nC [.int c]=NC (.int s):=by
 suffices h:∃d,nC [.int c]=NC d∧∃s:Int,0≤s∧d=.int s by obtain⟨d,h1,s,h0,rfl⟩:=h;exact⟨s,h0,h1⟩
 refine oE U ?_;unfold Vf;have a0:=F1 c (show (2147483629:Int)≠0 by decide);have a1:=E9 c (show (0:Int)<2147483629 by decide)
 walk_at "q"
 have n0:=F1 ((c%2147483629+1)*48271) (show (2147483629:Int)≠0 by decide);have n1:=E9 ((c%2147483629+1)*48271) (show (0:Int)<2147483629 by decide);generalize (c%2147483629+1)*48271%2147483629=n at *;have e50:Jp (.int 10) (.int 50)=NC (.int (10 ^ 50)):=yE ⟨by decide,by decide,by decide⟩;have m0:=F1 c (show (10 ^ 50:Int)≠0 by decide);have q0:=F1 (n*n) (show (2147483587:Int)≠0 by decide);refine pZ (aH (aH (aH U U (iG (Hx (by omega) (by omega)))) U (bC (by decide))) (aH (aH U (aH U U e50) (bC (by decide))) U (iG (aJO (by decide) (by decide)))) (cP _ _)) ⟨_,U,_,?_,U⟩;have:=m8 m0 (show (0:Int)≤2147483587 by decide);omega
theorem rH(a b c:GS)(env:EN):aW (aW a b) c env=aW a (aW b c) env:=by unfold aW;cases a env<;>rfl
theorem aIw{e:DE}{f f':FE}(h:f e=NC (.bl NF)):Wu f f' e=NC (.bl NF):=by unfold Wu;rw[bR h];rfl
theorem Wi(ns:List Int)(h:ns.length≤1000):sX [aP ns]=NC (.bl NF):=by have hc:=yF (fi:=mW (aD 0)) (fr:=[]) (fc:=lG) (fe:=cN 1 gQ (aB (aD 0) aM)) (e:=rE [.fro (aP ns)]) (ms:=ns) (λ_=>NF) (λ_=>.bl NF) (jF U) h (λm hm=>rfl) λm hm _=>bH (aA U U) U (yU m);rw[M6.mpr λ_ _=>rfl]at hc;exact oO U (iB (Kf (Er U U) ((cT (aA hc U) (Kl (λ_:Int=>NF) _)).trans (by rw[L8.mpr λ_ _=>rfl]))))
theorem ZX(s:Wb):qH κ [kZ κ s]=NC (aP s.od):=mH U (iB (cT (aA (dJ U (oG w2 U)) U) (qT (cY _))))
theorem ZZ{s:Wb}(h:mF s):sY κ [kZ κ s]=NC (aP (sortI s.lo)):=mH U (iB (cT (aA (dJ U (oG w3 U)) U) (JN h.aIt)))
theorem Gr{s:Wb}(h:mF s)(x:Int):iJ κ [kZ κ s,.int x]=NC (Oi (s.la.get x)):=mH U (iB (aH (dJ U (oG w4 U)) U (vU h.lao.1 x)))
theorem CN(l:List Int):Ft (aP l) (aP l)=NC (.bl NF):=by rw[Ut,decide_eq_true rfl]
theorem Rr{s:Wb}(h:mF s){m:Nat}(hm:m≤s.n):vL κ [kZ κ s,nH s,.int m]=NC (.bl NF):=by
 suffices hh:∃d,vL κ [kZ κ s,nH s,.int m]=NC d∧d=.bl NF by obtain⟨d,e,rfl⟩:=hh;exact e
 refine oE U ?_;unfold XS;have hn:=h.ZM;refine aDC (lo:=m) (n:=s.n-m) (λ_ env=>∃v,env=[.fro (kZ κ s),.fro (nH s),.fro (.int m),v]) ((Us (i:=m) (j:=s.n) (aA U (aA (cT (aA (aH U U (cD k5 U)) U) (qD _)) U)) (by omega) (by omega) (by omega) (by omega)).trans (by rw[show ((s.n:Int)-(m:Int)).toNat=s.n-m by omega])) ⟨_,U⟩ ?_ ?_
 ·rintro k env hk ⟨v,rfl⟩;refine⟨by walk_at "lt", ?_⟩;have hx:(m:Int)+(k:Int)=((m+k:Nat):Int):=by omega
  rw[hx];have hl:m+k<s.n:=by omega
  have hch:=aA8 κ (b:=s.b) (k:=((m+k:Nat):Int)) (by omega) (g7.mpr hl);rw[D7]at hch;have hgd:=(h.bn.good.2 (m+k) hl).2.2;have ht:=h.th (m+k) hl;apply aC0 (b:=!true)
  ·exact lH (bR (bH (aA (bY (nm:=Xq) (dJ U (oG w0 U)) (by decide +kernel) U U hch) (aA (aH (aH U U (cD k5 U)) U (Mx hl)) U)) U (qt (by omega))))
  ·rfl
  ·exact⟨_,U,_,U⟩
 ·rintro env ⟨v,rfl⟩;have ho:=h.NB;have hl:=h.aIt;have hsl:(sortI s.lo).length=s.lo.length:=(iV s.lo).1.length_eq;apply Az (b:=!true||!true)
  ·exact Cr (lH (bR (bH (aA (bY (nm:=wB) U (by decide +kernel) U U (ZX κ s)) U) U (Wi _ (by omega))))) (lH (bR (bH (aA (bY (nm:=wB) U (by decide +kernel) U U (ZZ κ h)) U) U (Wi _ (by omega)))))
  ·rfl
  apply Bh;exact pZ (Kf (aH (bY (nm:=wB) U (by decide +kernel) U U (ZX κ s)) (aH U U (cD k1 U)) (CN _)) (aH (bY (nm:=wB) U (by decide +kernel) U U (ZZ κ h)) (bH (aA U U) U (Rq h)) (CN _))) ⟨_,U,U⟩
theorem zg:∀os:List (Option Int),∃xs,lF (os.map Oi)=NC xs∧dH xs=0
 | []=>⟨[],by unfold lF;rfl,by unfold dH;rfl⟩
 | o::os=>by
  obtain⟨xs,h1,h2⟩:=zg os;cases o with
  | none=>exact⟨.non::xs,by rw[D3];unfold lF;rw[h1];unfold Oi iQ;rfl,by unfold dH DV.depth;rw[h2];rfl⟩
  | some y=>exact⟨.int y::xs,by rw[D3];unfold lF;rw[h1];unfold Oi iQ;rfl,by unfold dH DV.depth;rw[h2];rfl⟩
theorem Ol{s:Wb}(h:mF s){x:Int}(h0:0≤x)(h1:x<(s.rs.length:Int)):pI κ [kZ κ s,nH s,.int x]=NC (.bl NF):=by
 suffices hh:∃d,pI κ [kZ κ s,nH s,.int x]=NC d∧d=.bl NF by obtain⟨d,e,rfl⟩:=hh;exact e
 refine oE U ?_;unfold BJ;refine cC (d:=gA [s.co.get x,s.go.get x,s.la.get x]) (iD (aA (bY (nm:=wB) U (by decide +kernel) U U (Pz κ h x)) (aA (bY (nm:=wB) U (by decide +kernel) U U (Qa κ h x)) (aA (bY (nm:=wB) U (by decide +kernel) U U (Gr κ h x)) U))) (by exact Nat.le_of_ble_eq_true U)) (by exact Nat.le_of_ble_eq_true U) ?_;have hc:=Et (fi:=mW (aD 3)) (fr:=[]) (fe:=Wu (f2 (Jz NG) (aD 0) (fC .non)) (cN 1 gQ (aB (aD 0) aM))) (e:=rE [.fro (kZ κ s),.fro (nH s),.fro (.int x),.own (gA [s.co.get x,s.go.get x,s.la.get x])]) (xs:=[s.co.get x,s.go.get x,s.la.get x]) (ψ:=Oi) (φ:=λ_=>.bl NF) (jF U) (T7 U) λo _=>by
  cases o with
  | none=>exact aIw U
  | some y=>exact(yp (a:=NG) (b:=NF) U (bH (aA U U) U (yU y))).trans U
 apply Az (b:=!true)
 ·exact lH (bR ((cT (aA hc U) (Kl (λ_:Option Int=>NF) _)).trans U))
 ·rfl
 apply Bh;obtain⟨xs,e1,e2⟩:=zg [s.co.get x,s.go.get x,s.la.get x];apply Az (b:=NG)
 ·exact bR (aH U (iD (aA (aH (aH U U (cD k2 U)) U (vU h.coo.1 x)) (aA (aH (aH U U (cD k3 U)) U (vU h.goo.1 x)) (aA (aH (aH U U (cD k4 U)) U (vU h.lao.1 x)) U))) (by exact Nat.le_of_ble_eq_true U)) (aAY e1 (by omega)))
 ·rfl
 apply Bh;exact pZ (aH (bY (nm:=wB) U (by decide +kernel) U U (pM κ h h0 h1)) (aH (aH U U (cD k0 U)) U (Ff h0 h1)) ((aFy _ _).trans (by rw[decide_eq_true rfl]))) ⟨_,U,U⟩
theorem aj(c:Int)(n:Nat)(hn:n≤124):∃ns:List Int,sW [.int c,.int n]=NC (aP ns)∧ns.length≤2∧∀m∈ns,0≤m∧m<(n:Int):=by
 suffices hh:∃d,sW [.int c,.int n]=NC d∧∃ns:List Int,d=aP ns∧ns.length≤2∧∀m∈ns,0≤m∧m<(n:Int) by obtain⟨d,e,ns,rfl,q⟩:=hh;exact⟨ns,e,q⟩
 refine oE U ?_;unfold Pj;refine cC (d:=aP []) U (by exact Nat.le_of_ble_eq_true U) ?_;refine Xc (bR (aH U U (Rm _ _))) (λe=>?_) λ_=>Bh (JM U ⟨_,U,[],U,by decide,λm hm=>by cases hm⟩);have e:=of_decide_eq_true e;have c0:=F1 c (show (3:Int)≠0 by decide);have c1:=E9 c (show (0:Int)<3 by decide);rw[rH];refine cC (d:=.int (c/3)) (aH U U (dW (by decide) (by decide))) (by exact Nat.le_of_ble_eq_true U) ?_;refine Rn (n:=(c%3).toNat) (λk env=>∃(ns:List Int)(r:Int)(v:SD),env=[.fro (.int c),.fro (.int n),.own (aP ns),.own (.int r),v]∧ns.length≤k∧∀m∈ns,0≤m∧m<(n:Int)) ((Ur (n:=c%3) (aA (aH U U (bC (by decide))) U) (by omega) (by omega))) ⟨[],_,_,U,C5 _,λm hm=>by cases hm⟩ ?_ ?_
 ·rintro k env hk ⟨ns,r,v,rfl,hl,hm⟩;refine⟨by walk_at "lt", ?_⟩;refine aGD (ds:=ns.map D.int) (d:=.int (r%(n:Int))) U (aH U U (bC e)) (by rw[B6];omega) ?_;rw[vB];refine aCY (d:=.int (r/(n:Int))) (aH U U (dW e (by omega))) (by exact Nat.le_of_ble_eq_true U) ⟨_,U,_,_,_,U,by rw[C7];simpa using hl,λm hm'=>?_⟩;rcases F2.mp hm' with z | z
  ·exact hm m z
  ·rw[E3.mp z];exact⟨F1 _ (by omega),E9 _ e⟩
 ·rintro env ⟨ns,r,v,rfl,hl,hm⟩;exact JM U ⟨_,U,ns,U,by omega,hm⟩
abbrev bM(s:List (List (List Int))):D:=pD s
theorem Du{s:List (List (List Int))}{k:Nat}{p:List (List Int)}(h:s[k]?=NC p):dU (bM s) (.int k)=NC (fY p):=by unfold bM;exact rQ (by omega) (by rw[D7,B9,h];rfl)
theorem aJ0{p:List (List Int)}{k:Nat}{t:List Int}(h:p[k]?=NC t):dU (fY p) (.int k)=NC (dTup t):=by unfold fY;exact rQ (by omega) (by rw[D7,B9,h];rfl)
theorem Fg(s:List (List (List Int))):kO [bM s]=NC (.int s.length):=Oh s
def bJ(P R:Nat)(dC:List (List Int))(bF:List Int):List (List (List Int)):=(D4 P).map λp=>((D4 R).map λr=>dC.getD (p+P*r) [])++[[bF.getD p 0]]
theorem aDD{P R p r:Nat}(hp:p<P)(hr:r<R):p+P*r<P*R:=by have h1:P*(r+1)≤P*R:=Nat.mul_le_mul_left P hr;rw[Nat.mul_succ]at h1;omega
theorem getD_mem{l:List Int}{k:Nat}(h:k<l.length):l.getD k 0∈l:=by rw[B8,B7 h];exact N6 h
theorem Dv{l:List Int}(h:l.Nodup){i j:Nat}(hi:i<l.length)(hj:j<l.length)(hij:i≠j):l.getD i 0≠l.getD j 0:=by
 rw[B8,B8,B7 hi,B7 hj];show l[i]≠l[j];have hpw:=K5.mp h;rcases K4 i j with q | q
 ·exact hpw i j hi hj q
 ·exact λe=>hpw j i hj hi (by omega) e.symm
theorem zj{s:List (List (List Int))}{b:Int}(h:0<s.length)(h2:s.length≤1000):zV [bM s,.int b]=NC (dTup [b%s.length,b/s.length]):=by
 refine oO U ?_;unfold yu;have hlen:=Fg s;apply iB;show _=NC (D.tup [.int (b%s.length),.int (b/s.length)])
 walk_at "ev"
theorem aDE{s:List (List (List Int))}{p:List (List Int)}{t:List Int}{i j:Nat}(h1:s[i]?=NC p)(h2:p[j]?=NC t):Cy [bM s,dTup [(i:Int),(j:Int)]]=NC (dTup t):=by refine oO U ?_;unfold WY;apply iB;exact aX (aH (aH U (aH U U (uE (by decide) U)) (Du h1)) (aH U U (uE (by decide) U)) (aJ0 h2)) (iR _)
theorem aDF{s:List (List (List Int))}{b:Nat}{p:List (List Int)}{t:List Int}(h:0<s.length)(h2:s.length≤1000)(h1:s[b%s.length]?=NC p)(h3:p[b/s.length]?=NC t):nM [bM s,.int b]=NC (dTup t):=by
 refine oO U ?_;unfold Zy;have hs:=zj (b:=(b:Int)) h h2;have ht:Cy [bM s,dTup [(b:Int)%s.length,(b:Int)/s.length]]=NC (dTup t):=aDE (i:=b%s.length) (j:=b/s.length) h1 h3;apply iB
 walk_at "ev"
theorem zA(P R:Nat)(dC:List (List Int))(bF:List Int):(bJ P R dC bF).length=P:=by unfold bJ;rw[B6,D8]
theorem Rt{P R:Nat}{dC:List (List Int)}{bF:List Int}{p:Nat}(h:p<P):(bJ P R dC bF)[p]?=NC (((D4 R).map λr=>dC.getD (p+P*r) [])++[[bF.getD p 0]]):=by unfold bJ;rw[B9,G3 h];rfl
theorem NP{P R:Nat}{dC:List (List Int)}{bF:List Int}{q:List (List Int)}(h:q∈bJ P R dC bF):q.length=R+1:=by unfold bJ at h;obtain⟨p,_,rfl⟩:=J2.mp h;rw[C7,B6,D8];rfl
theorem aDG{P R:Nat}{dC:List (List Int)}{bF:List Int}{p r:Nat}(hr:r<R):(((D4 R).map λr=>dC.getD (p+P*r) [])++[[bF.getD p 0]])[r]?=NC (dC.getD (p+P*r) []):=by rw[G4 (by rw[B6,D8];exact hr),B9,G3 hr];rfl
theorem qu{P R:Nat}{dC:List (List Int)}{bF:List Int}{b:Nat}(hP:0<P)(hb:b<P*R):∃q,(bJ P R dC bF)[b%P]?=NC q∧q[b/P]?=NC (dC.getD b []):=by have h1:b%P<P:=U5 _ hP;have h2:b/P<R:=U9 hb;refine⟨_,Rt h1,?_⟩;rw[aDG h2,l4]
theorem aBf{fi:FA}{fr:List Nat}{e:DE}{s:List (List (List Int))}(h1:fi e=NC (s.map fY))(hs:s.length≤1000):gU fi fr lG (fL dList (aB (aD 0) aM)) e=NC (bM s):=by unfold bM;exact Et (φ:=fY) h1 hs λp hp=>by unfold fY;exact cT (aA rfl rfl) (qT (Kg λd hd=>by obtain⟨t,_,rfl⟩:=J2.mp hd;exact iR t))
def Chain(dC:List (List Int))(ord:List Int):Prop:=∀k,k≤ord.length→∃key was now lK:Int,dC[(([0]++ord).getD k 0).toNat]?=NC [key,(ord++[0]).getD k 0,was,now,lK]
theorem aDH{P R:Nat}{dC:List (List Int)}{bF:List Int}{x:Int}{t:List Int}(hP:0<P)(hP8:P≤8)(h0:0≤x)(h1:x<(P*R:Nat))(ht:dC[x.toNat]?=NC t):nM [bM (bJ P R dC bF),.int x]=NC (dTup t):=by obtain⟨q,q1,q2⟩:=qu (dC:=dC) (bF:=bF) (b:=x.toNat) hP (show x.toNat<P*R by omega);have hl:=zA P R dC bF;have:=aDF (s:=bJ P R dC bF) (b:=x.toNat) (by omega) (by omega) (by rw[hl];exact q1) (by rw[hl];exact q2);rw[V4 h0,qC ht]at this;exact this
theorem CP{P R:Nat}{dC:List (List Int)}{bF ord:List Int}(hP:0<P)(hP8:P≤8)(hR:0<R)(hc:Chain dC ord)(hb:∀x∈ord,1≤x∧x<(P*R:Nat))(hn:ord.Nodup)(hl:ord.length≤64):qY [bM (bJ P R dC bF)]=NC (aP ord):=by
 suffices h:∃d,qY [bM (bJ P R dC bF)]=NC d∧d=aP ord by obtain⟨d,h1,rfl⟩:=h;exact h1
 have hm:0<P*R:=Z9 hP hR;generalize hbd:P*R=m at *;have nx:∀k,k≤ord.length→∃t:List Int,nM [bM (bJ P R dC bF),.int (([0]++ord).getD k 0)]=NC (dTup t)∧dU (dTup t) (.int 1)=NC (.int ((ord++[0]).getD k 0)):=λk hk=>by
  obtain⟨key,was,now,lK,h1⟩:=hc k hk;have hx:([0]++ord).getD k 0∈[0]++ord:=getD_mem (by rw[C7];simp;omega);have hx2:0≤([0]++ord).getD k 0∧([0]++ord).getD k 0<((P*R:Nat):Int):=by
   rw[hbd];rcases F2.mp hx with q | q
   ·have:=E3.mp q;omega
   ·have:=hb _ q;omega
  exact⟨_,aDH hP hP8 hx2.1 hx2.2 h1,uE (by decide) U⟩
 refine oE U ?_;unfold Zz
 walk_at "q"
 obtain⟨t0,ht0,hx0⟩:=nx 0 (M0 _);have aJ1:nM [bM (bJ P R dC bF),.int 0]=NC (dTup t0):=ht0
 walk_at "q"
 refine yl (n:=ord.length) (λn env=>n≤ord.length∧env=[.fro (bM (bJ P R dC bF)),.own (.dk ((ord.take (ord.length-n)).map F4) ((ord.take (ord.length-n)).map λ_=>D.bl NF)),.own (.int ((ord++[0]).getD (ord.length-n) 0))]) ⟨C5 _,by rw[V0];rfl⟩ (by omega) ?_ ?_
 ·rintro n env ⟨hnl,rfl⟩;by_cases c:n=0
  ·left;subst c;have e:(ord++[0]).getD (ord.length-0) 0=0:=by rw[U6,B8,L3 (C5 _),V0];rfl
   rw[e];refine aCR (bR ((aH U U (rP 0 0)).trans ?_));rw[decide_eq_true rfl];rfl
  ·right;generalize hk:ord.length-n=k;have hkl:k<ord.length:=by omega
   have e:(ord++[0]).getD k 0=ord.getD k 0:=by rw[B8,B8,G4 hkl]
   have hx:=hb _ (getD_mem hkl);have hnew:ord.getD k 0∉ord.take k:=by intro z;obtain⟨j,hj,ej⟩:=K0 z;rw[J4]at hj;rw[X0]at ej;have:=Dv hn (i:=j) (j:=k) (by omega) hkl (by omega);rw[B8,B7 (show j<ord.length by omega)]at this;exact this ej
   rw[e];obtain⟨t,ht,hxt⟩:=nx (k+1) hkl;have ht':nM [bM (bJ P R dC bF),.int (ord.getD k 0)]=NC (dTup t):=ht;refine⟨?_,by omega,_,aGC (aFA (k:=F4 (ord.getD k 0)) U U U U (Cu hnew) U (by rw[B6,J4];omega)) (wJ (aX (aH (bH (aA U (aA U U)) U ht') U hxt) U) (by exact Nat.le_of_ble_eq_true U)),by omega,?_⟩
   ·refine(aCQ (bR (b:=NF) ((aH U U (rP _ _)).trans ?_))).trans (bR (aH U U ?_))
    ·rw[decide_eq_false (by omega)];rfl
    ·show (NC _:Option D)=_;rw[Cu hnew];rfl
   ·have e2:ord.length-(n-1)=k+1:=by omega
    have e3:ord.take (k+1)=ord.take k++[ord.getD k 0]:=by rw[P7,oR (d:=0) hkl];rfl
    rw[e2,e3,J3,J3];rfl
 ·rintro env n ⟨hnl,rfl⟩ hf;by_cases c:n=0
  ·subst c;rw[U6,O8];apply pZ (cT (aA U U) U);exact⟨_,U,Zj ord⟩
  ·exfalso;generalize hk:ord.length-n=k at hf;have hkl:k<ord.length:=by omega
   have e:(ord++[0]).getD k 0=ord.getD k 0:=by rw[B8,B8,G4 hkl]
   have hx:=hb _ (getD_mem hkl);have hnew:ord.getD k 0∉ord.take k:=by intro z;obtain⟨j,hj,ej⟩:=K0 z;rw[J4]at hj;rw[X0]at ej;have:=Dv hn (i:=j) (j:=k) (by omega) hkl (by omega);rw[B8,B7 (show j<ord.length by omega)]at this;exact this ej
   rw[e]at hf;have:(Hh (fB (f2 Tr (aD 2) (fC (.int (0))))) (fB (f2 (Fv NF) (aD 2) (aD 1)))) (rE [.fro (bM (bJ P R dC bF)),.own (.dk ((ord.take k).map F4) ((ord.take k).map λ_=>D.bl NF)),.own (.int (ord.getD k 0))])=NC NF:=by
    refine(aCQ (bR (b:=NF) ((aH U U (rP _ _)).trans ?_))).trans (bR (aH U U ?_))
    ·rw[decide_eq_false (by omega)];rfl
    ·show (NC _:Option D)=_;rw[Cu hnew];rfl
   rw[this]at hf;cases hf
def oV(m:Nat):List Int:=(D4 (m-1)).map λi:Nat=>(1:Int)+(i:Int)
theorem aDI{P R:Nat}{dC:List (List Int)}{bF ord:List Int}(hP:0<P)(hP8:P≤8)(hR:0<R)(hR8:R≤8)(hc:Chain dC ord)(hb:∀x∈ord,1≤x∧x<(P*R:Nat))(hn:ord.Nodup)(hl:ord.length≤64) :
    sV [bM (bJ P R dC bF)]=NC (aP ((oV (P*R)).filter λi=>!decide (i∈ord))):=by
  have aDJ:P*R≤8*8:=R7 hP8 hR8;have hm0:0<P*R:=Z9 hP hR;have hstr:=CP (bF:=bF) hP hP8 hR hc hb hn hl;have aDK:pB [bM (bJ P R dC bF)]=NC (.int ((P*R:Nat):Int)):=by
    refine oO U ?_;unfold Ie;apply iB;have hls:=Fg (bJ P R dC bF);rw[zA]at hls;have h0:(bJ P R dC bF)[0]?=NC _:=Rt (p:=0) hP;have hix:dU (bM (bJ P R dC bF)) (.int 0)=NC (fY _):=Du (k:=0) h0;have hlp:=Lp (((D4 R).map λr=>dC.getD (0+P*r) [])++[[bF.getD 0 0]]);rw[NP (E6 h0)]at hlp;rw[V1];have e:(R:Int)=((R+1:Nat):Int)-1:=by omega
    rw[e];exact aH (cT (aA U U) hls) (aH (cT (aA (aH U U hix) U) hlp) U (lR _ _)) (iG (Hx (by omega) (by omega)))
  suffices h:∃d,sV [bM (bJ P R dC bF)]=NC d∧d=aP ((oV (P*R)).filter λi=>!decide (i∈ord)) by obtain⟨d,h1,rfl⟩:=h;exact h1
  refine oE U ?_;unfold Pg
  walk_at "q"
  generalize P*R=m at *;have e:jO (0+1) ((m:Int)-(0+1)).toNat=(oV m).map D.int:=by unfold jO oV;rw[K7,show ((m:Int)-(0+1)).toNat=m-1 by omega];rfl
  refine pZ (d:=aP ((oV m).filter λi=>!decide (i∈ord))) ?_ ⟨_,U,U⟩;refine(Cq (ys:=((jO (0+1) ((m:Int)-(0+1)).toNat).filter λd=>match d with | .int i=>!decide (i∈ord) | _=>NG).map id) (Us (i:=0+1) (j:=m) (aA (aH U U (cP _ _)) (aA (bH (aA U U) U aDK) U)) (by decide) (by decide) (by omega) (by omega)) (by rw[zM];omega) ?_).trans ?_
  · refine Ke (p:=λd=>match d with | .int i=>!decide (i∈ord) | _=>NG) (φ:=id) ?_ ?_
    · intro x hx
      obtain⟨k,hk,rfl⟩:=Hw hx;exact bR (aH U U (aC1 NF _ ord))
    · intro x hx _
      obtain⟨k,hk,rfl⟩:=Hw hx;exact aX U U
  · rw[i9,e,List.filter_map]
    rfl
theorem qw{i a b:Nat}{f f' g:FE}{env:EN}{s:List (List (List Int))}{q:List (List Int)}{t:List Int}(h1:env[i]?=NC (.own (bM s)))(h2:g (rE env)=NC (.int (a:Int)))(h3:f (rE env)=NC (.int (b:Int)))(h4:f' (rE env)=NC (dTup t))(h5:s[a]?=NC q)(h6:b<q.length) :
  wG i (vd dD g) f f' env=.next (env.set i (.own (bM (s.set a (q.set b t))))):=by
 have hk:(s.map fY)[a]?=NC (fY q):=by rw[B9,h5];rfl
 have hp:vd dD g (rE env)=NC [.ix a]:=by unfold vd dD;rw[C4,h2,C4];dsimp only;rw[if_pos (by omega),D7];rfl
 have hget:gC [.ix a] (bM s)=NC (.lst (q.map dTup)):=by show ((s.map fY)[a]?).bind (gC [])=_;rw[hk];rfl
 have aLc:∀d:List D,fG [.ix a] (bM s) (.lst d)=.lst ((s.map fY).set a (.lst d)):=λd=>by show (match (s.map fY)[a]? with | some c=>_ | none=>_)=_;rw[hk];rfl
 have hix:aq (q.map dTup).length (b:Int)=NC b:=by unfold aq;rw[if_pos (by omega),if_pos (by rw[B6];omega),D7]
 unfold wG;rw[h1,hp,h3,h4];dsimp only;rw[hget];dsimp only;rw[hix];dsimp only;rw[aLc,←U7];show SR.next (env.set i (.own (.lst ((s.map fY).set a (fY (q.set b t))))))=_;rw[←U7];rfl
theorem aDL(ns:List Int):∃P R:Nat,yG [aP ns]=NC (.tup [.int P,.int R])∧1≤P∧P≤8∧1≤R∧R≤8:=by
 suffices hh:∃d,yG [aP ns]=NC d∧∃P R:Nat,d=.tup [.int P,.int R]∧1≤P∧P≤8∧1≤R∧R≤8 by obtain⟨d,e,P,R,rfl,q⟩:=hh;exact⟨P,R,e,q⟩
 refine oE U ?_;unfold Zv;have hcell:=Wh ns 0;generalize ns.getD 0 0=c at hcell;have aIx:mZ [aP ns,.int 0]=NC (.int c):=hcell;refine cC (d:=.int c) (bH (aA U (aA U U)) U aIx) (by exact Nat.le_of_ble_eq_true U) ?_;have nn:∀{a m:Int},0<m→m≤8→∃P:Nat,1+a%m=(P:Int)∧1≤P∧P≤8:=λ{a m} h h2=>by have h0:=F1 a (show m≠0 by omega);have h1:=E9 a h;exact⟨(1+a%m).toNat,by omega,by omega,by omega⟩
 refine Xc (bR (aH (aH (aH U U (dW (by decide) (by decide))) U (bC (by decide))) U (mQ _ _))) (λ_=>?_) λ_=>Bh ?_
 ·obtain⟨P,e1,p1,p2⟩:=nn (a:=c) (m:=8) (by decide) (by decide);obtain⟨R,e2,r1,r2⟩:=nn (a:=c/240) (m:=8) (by decide) (by decide);exact WM ((iC (aA (aH U (aH U U (bC (by decide))) (cP _ _)) (aA (aH U (aH (aH U U (dW (by decide) (by decide))) U (bC (by decide))) (cP _ _)) U)) (by exact Nat.le_of_ble_eq_true U)).trans (by rw[e1,e2])) ⟨_,U,P,R,U,p1,p2,r1,r2⟩
 ·obtain⟨P,e1,p1,p2⟩:=nn (a:=c) (m:=5) (by decide) (by decide);obtain⟨R,e2,r1,r2⟩:=nn (a:=c/5) (m:=6) (by decide) (by decide);exact pZ ((iC (aA (aH U (aH U U (bC (by decide))) (cP _ _)) (aA (aH U (aH (aH U U (dW (by decide) (by decide))) U (bC (by decide))) (cP _ _)) U)) (by exact Nat.le_of_ble_eq_true U)).trans (by rw[e1,e2])) ⟨_,U,P,R,U,p1,p2,r1,r2⟩
theorem Dw(c:Int){k:Int}(h0:0≤k)(h1:k≤100000):∃m:Int,mJ [.int c,.int k]=NC (.int m)∧0≤m∧m<2147483587:=by
 suffices hh:∃d,mJ [.int c,.int k]=NC d∧∃m:Int,d=.int m∧0≤m∧m<2147483587 by obtain⟨d,e,m,rfl,q⟩:=hh;exact⟨m,e,q⟩
 refine oE U ?_;unfold Zw;have a0:=F1 c (show (2147483629:Int)≠0 by decide);have a1:=E9 c (show (0:Int)<2147483629 by decide);refine cC (aH (aH (aH (aH U U (bC (by decide))) U (cP _ _)) (aH U (aH (aH U U (iG (Hx (by decide) (by decide)))) U (iG (Hx (by omega) (by omega)))) (cP _ _)) (iG (Hx (by omega) (by omega)))) U (bC (by decide))) (by exact Nat.le_of_ble_eq_true U) ?_;generalize hn:(c%2147483629+1)*(48271+2*k*k)%2147483629=n;have n0:0≤n:=by rw[←hn];exact F1 _ (by decide)
 have n1:n<2147483629:=by rw[←hn];exact E9 _ (by decide)
 exact pZ (aH (aH U U (iG (Hx (by omega) (by omega)))) U (bC (by decide))) ⟨_,U,_,U,F1 _ (by decide),E9 _ (by decide)⟩
theorem Wj(c:Int){k:Int}(key f:Int)(h0:0≤k)(h1:k≤1000):∃a b e:Int,qX [.int c,.int k,.int key,.int f]=NC (dTup [key,f,a,b,e]):=by
 suffices hh:∃d,qX [.int c,.int k,.int key,.int f]=NC d∧∃a b e:Int,d=dTup [key,f,a,b,e] by obtain⟨d,q,a,b,e,rfl⟩:=hh;exact⟨a,b,e,q⟩
 refine oE U ?_;unfold Vc;obtain⟨p,hp,p0,p1⟩:=Dw c (k:=5*k) (by omega) (by omega);obtain⟨m,hm,m0,m1⟩:=Dw c (k:=5*k+1) (by omega) (by omega);have pick:∀(l:List Int)(k:Int),0≤k→k<(l.length:Int)→∃y,dU (aP l) (.int k)=NC (.int y):=λl k a b=>⟨_,fJ a b⟩
 obtain⟨now,aLd⟩:=pick [0,1,2,m*10 ^ (40:Int).toNat,-1] (p%5) (F1 _ (by decide)) (E9 _ (by decide));obtain⟨was,aLe⟩:=pick [-1,0,5,p] (p/90%4) (F1 _ (by decide)) (E9 _ (by decide));refine cC (d:=.int p) (bH (aA U (aA (aH U U (iG (Hx (by decide) (by decide)))) U)) U hp) (by exact Nat.le_of_ble_eq_true U) ?_;refine cC (d:=.int now) (aX (aH (iD (aA U (aA U (aA U (aA (aH (bH (aA U (aA (aH (aH U U (iG (Hx (by decide) (by decide)))) U (cP _ _)) U)) U hm) (aH U U (yE ⟨by decide,by decide,by decide⟩)) (iG (Hx (by omega) (by omega)))) (aA (rR U) U))))) (by exact Nat.le_of_ble_eq_true U)) (aH U U (bC (by decide))) aLd) U) (by exact Nat.le_of_ble_eq_true U) ?_;refine cC (d:=.int 0) U (by exact Nat.le_of_ble_eq_true U) ?_;have fin:∀lK:Int,Qs (λr=>∃d,r=.ret d∧∃a b e:Int,d=dTup [key,f,a,b,e]) (aW (uV (fB (f2 Ft (aD 6) (fC (.int 0)))) (cU 5 (fL aFs (aB (aD 5) aM))) gH) (gO (pP (aB (bO (aD 2)) (aB (bO (aD 3)) (aB (bO (f2 dU (kJ (aB (Cd (fC (.int 1))) (aB (fC (.int 0)) (aB (fC (.int 5)) (aB (aD 4) aM))))) (f2 gM (f2 pQ (aD 4) (fC (.int 90))) (fC (.int 4))))) (aB (bO (aD 5)) (aB (bO (aD 6)) aM))))))) [.fro (.int c),.fro (.int k),.fro (.int key),.fro (.int f),.own (.int p),.own (.int now),.own (.int lK)]):=λlK=>by have last:∀b:Int,Qs (λr=>∃d,r=.ret d∧∃a b e:Int,d=dTup [key,f,a,b,e]) (gO (pP (aB (bO (aD 2)) (aB (bO (aD 3)) (aB (bO (f2 dU (kJ (aB (Cd (fC (.int 1))) (aB (fC (.int 0)) (aB (fC (.int 5)) (aB (aD 4) aM))))) (f2 gM (f2 pQ (aD 4) (fC (.int 90))) (fC (.int 4))))) (aB (bO (aD 5)) (aB (bO (aD 6)) aM)))))) [.fro (.int c),.fro (.int k),.fro (.int key),.fro (.int f),.own (.int p),.own (.int b),.own (.int lK)]):=λb=>pZ (iC (aA (aX U U) (aA (aX U U) (aA (aX (aH (iD (aA (rR U) (aA U (aA U (aA U U)))) (by exact Nat.le_of_ble_eq_true U)) (aH (aH U U (dW (by decide) (by decide))) U (bC (by decide))) aLe) U) (aA (aX U U) (aA (aX U U) U))))) (by exact Nat.le_of_ble_eq_true U)) ⟨_,U,_,_,_,U⟩;refine Xc (bR (aH U U (mQ _ _))) (λ_=>?_) λ_=>Bh (last now);exact aAW (wJ (d:=.int (if now<0 then -now else now)) (cT (aA U U) U) (by exact Nat.le_of_ble_eq_true U)) (last _)
 refine Xc (bR (aH (aH (aH U U (dW (by decide) (by decide))) U (bC (by decide))) U (mQ _ _))) (λ_=>?_) λ_=>Bh (fin 0);exact aAW (wJ (aH U (aH (aH U U (dW (by decide) (by decide))) U (bC (by decide))) (cP _ _)) (by exact Nat.le_of_ble_eq_true U)) (fin _)
def Ga(P R:Nat)(rs:List (List Int)):List (List (List Int)):=(D4 P).map λp=>(D4 R).map λr=>rs.getD (p+P*r) []
theorem Om{P R:Nat}{rs:List (List Int)}{p:Nat}(h:p<P):(Ga P R rs)[p]?=NC ((D4 R).map λr=>rs.getD (p+P*r) []):=by unfold Ga;rw[B9,G3 h];rfl
theorem aDM{P x:Nat}{p r:Nat}(hp:p<P)(h:p+P*r=x):x%P=p∧x/P=r:=by subst h;exact⟨by rw[Nat.add_mul_mod_self_left,Nat.mod_eq_of_lt hp],by rw[Nat.add_mul_div_left _ _ (by omega),Nat.div_eq_of_lt hp,N9]⟩
theorem aDN{P R x:Nat}{rs:List (List Int)}{t:List Int}(hP:0<P)(h:x<P*R)(hl:rs.length=P*R):(Ga P R rs).set (x%P) (((D4 R).map λr=>rs.getD (x%P+P*r) []).set (x/P) t)=Ga P R (rs.set x t):=by
 have a:=U5 x hP;have b:x/P<R:=U9 h;apply K1;intro p;rw[F7,show (Ga P R rs).length=P by unfold Ga;rw[B6,D8]];by_cases hp:p<P
 ·rw[Om hp,Om hp];by_cases e:x%P=p
  ·rw[if_pos e,if_pos a];congr 1;apply K1;intro r;rw[F7,B6,D8,B9,B9];by_cases hr:r<R
   ·rw[G3 hr,G1,G1,tE _ _ _ _ _ (by omega)];by_cases e2:x/P=r
    ·rw[if_pos e2,if_pos b,if_pos (by rw[←e,←e2];exact(l4 x P).symm)]
    ·rw[if_neg e2,if_neg λz=>e2 (aDM hp z.symm).2,e]
   ·rw[E2 (by rw[D8];omega)];rw[if_neg (by omega)];rfl
  ·rw[if_neg e];congr 1;apply Q9;intro r hr;have:=aDD hp (F9.mp hr);rw[tE _ _ _ _ _ (by omega),if_neg λz=>e (aDM hp z.symm).1]
 ·rw[if_neg (by omega)];unfold Ga;rw[B9,B9,E2 (by rw[D8];omega)];rfl
theorem ak{i P R x:Nat}{f f' g:FE}{env:EN}{rs:List (List Int)}{t:List Int}(hP:0<P)(h:x<P*R)(hl:rs.length=P*R)(h1:env[i]?=NC (.own (bM (Ga P R rs))))(h2:g (rE env)=NC (.int ((x:Int)%(P:Int))))(h3:f (rE env)=NC (.int ((x:Int)/(P:Int))))(h4:f' (rE env)=NC (dTup t)) :
  wG i (vd dD g) f f' env=.next (env.set i (.own (bM (Ga P R (rs.set x t))))):=by
 rw[←T4]at h2;rw[←T5]at h3;rw[qw (a:=x%P) (b:=x/P) h1 h2 h3 h4 (Om (U5 x hP)) (by rw[B6,D8];exact U9 h),aDN hP h hl]
structure Built(P R:Nat)(rs:List (List Int))(od:List Int):Prop where
 p1:1≤P
 p8:P≤8
 r1:1≤R
 r8:R≤8
 len:rs.length=P*R
 five:∀k,k<P*R→(rs.getD k []).length=5
 bf:od.Nodup
 Rp:∀x∈od,1≤x∧x<(P*R:Nat)
 chain:Chain rs od
 key:od.Pairwise λx y=>(rs.getD x.toNat []).getD 0 0<(rs.getD y.toNat []).getD 0 0
theorem aDO{ns:List Int}:∃(P R:Nat)(rs:List (List Int))(bF od:List Int),yI [aP ns]=NC (bM (bJ P R rs bF))∧Built P R rs od:=by
 suffices hh:∃d,yI [aP ns]=NC d∧∃(P R:Nat)(rs:List (List Int))(bF od:List Int),d=bM (bJ P R rs bF)∧Built P R rs od by obtain⟨d,e,P,R,rs,bF,od,rfl,q⟩:=hh;exact⟨P,R,rs,bF,od,e,q⟩
 refine oE U ?_;unfold Zx;obtain⟨P,R,hsz,p1,p8,r1,r8⟩:=aDL ns;have hm0:0<P*R:=Z9 p1 r1;have aDJ:P*R≤8*8:=R7 p8 r8;have hPR:((P:Int)*(R:Int))=((P*R:Nat):Int):=(V1 P R).symm;generalize hM:P*R=M at *;have hP0:(0:Int)<P:=by omega
 have hP9:(P:Int)<1073741824:=by omega
 have hmul:∀{env:EN},(rE env)[1]?=NC (NC (.int (P:Int)))→(rE env)[2]?=NC (NC (.int (R:Int)))→f2 vY (aD 1) (aD 2) (rE env)=NC (.int (M:Int)):=λh1 h2=>(aH (JK h1) (JK h2) (iG (Hx (by omega) (by omega)))).trans (by rw[hPR]);refine aGE (ds:=[.int P,.int R]) (bH (aA U U) U hsz) U U ?_;have hsp:fL Kd (aB (fC (.int 1)) (aB (f2 vY (aD 1) (aD 2)) aM)) (rE (wH ([aP ns].map SD.fro++E4 (11-1) SD.no) [1,2] [.int P,.int R]))=NC (aP (oV M)):=by refine(cT (aA U (aA (hmul U U) U)) (show Kd [.int 1,.int (M:Int)]=NC _ from if_pos ⟨by decide,by decide,by omega,by omega⟩)).trans ?_;unfold aP oV;rw[K7,show ((M:Int)-1).toNat=M-1 by omega];rfl
 refine cC hsp (by exact Nat.le_of_ble_eq_true U) ?_;refine cC (d:=aP [0]) U (by exact Nat.le_of_ble_eq_true U) ?_;have hc1:mZ [aP ns,.int 1]=NC (.int (ns.getD 1 0)):=Wh ns 1;have hc2:mZ [aP ns,.int 2]=NC (.int (ns.getD 2 0)):=Wh ns 2;generalize ns.getD 1 0=c1 at hc1;generalize ns.getD 2 0=c at hc2;have b0:=F1 c1 (show (M:Int)≠0 by omega);have b1:=E9 c1 (show 0<(M:Int) by omega);refine Rn (n:=(c1%(M:Int)).toNat) (λk env=>∃(sp bs:List Int)(v:SD),env=[.fro (aP ns),.own (.int P),.own (.int R),.own (aP sp),.own (aP (0::bs)),v,.no,.no,.no,.no,.no]∧bs.length=k∧(bs++sp).Perm (oV M)) (Ur (aA (aH (bH (aA U (aA U U)) U hc1) (hmul U U) (bC (by omega))) U) (by omega) (by omega)) ⟨oV M,[],_,U,U,R6 _⟩ ?_ ?_
 ·rintro k env hk ⟨sp,bs,v,rfl,hb,hp⟩;refine⟨by walk_at "lt", ?_⟩;have hlen:=hp.length_eq;rw[C7,hb,show (oV M).length=M-1 by unfold oV;rw[B6,D8]]at hlen;obtain⟨m,hm,_,_⟩:=Dw c1 (k:=(k:Int)) (by omega) (by omega);have i0:=F1 m (show (sp.length:Int)≠0 by omega);have i1:=E9 m (show 0<(sp.length:Int) by omega);refine⟨_,JL (ns:=0::bs) (ms:=sp) (k:=m%(sp.length:Int)) U U (aH (bH (aA (bH (aA U (aA U U)) U hc1) (aA U U)) U hm) (cT (aA U U) (jP _)) (bC (by omega))) (by decide) (by simp;omega) (by omega) i0 i1,sp.eraseIdx (m%(sp.length:Int)).toNat,bs++[sp.getD (m%(sp.length:Int)).toNat 0],_,U,by rw[C7,hb];rfl,?_⟩;rw[P6];exact(a9 bs (Uu sp _ 0 (by omega))).trans hp
 rintro env ⟨sp,bs,v5,rfl,hb,hp⟩;have hnd:(bs++sp).Nodup:=hp.nodup_iff.mpr (by
  unfold oV;refine i7 _ (λa b (h:a≠b)=>by omega) j8)
 have hmem:∀x,x∈bs++sp→1≤x∧x<(M:Int):=λx hx=>by have:=hp.mem_iff.mp hx;unfold oV at this;obtain⟨i,hi,rfl⟩:=J2.mp this;have:=F9.mp hi;omega
 have hbn:=(N4.mp hnd).1;have hbm:∀x∈bs,1≤x∧x<(M:Int):=λx hx=>hmem x (N2 _ hx);have hsm:∀x∈sp,1≤x∧x<(M:Int):=λx hx=>hmem x (J1 _ hx);have aMH:sp.length≤M:=by have:=hp.length_eq;rw[C7,show (oV M).length=M-1 by unfold oV;rw[B6,D8]]at this;omega
 have hbl:bs.length<M:=by omega
 generalize aIy:E4 M ([0,0,-1,-1,0]:List Int)=rs0;have hl0:rs0.length=M:=by rw[←aIy,P8]
 have aJ2:gU (sO (aB (aD 1) aM)) [2] lG (gU (sO (aB (aD 1) aM)) [] lG (pP (aB (fC (.int 0)) (aB (fC (.int 0)) (aB (Cd (fC (.int 1))) (aB (Cd (fC (.int 1))) (aB (fC (.int 0)) aM))))))) (rE [.fro (aP ns),.own (.int P),.own (.int R),.own (aP sp),.own (aP (0::bs)),v5,.no,.no,.no,.no,.no])=NC (bM (Ga P R rs0)):=by
  refine(zO (n:=P) (φ:=λp=>fY ((D4 R).map λr=>rs0.getD (p+P*r) [])) (Es (aA U U) (by omega)) (by omega) λp hp=>?_).trans ?_
  ·refine(zO (n:=R) (φ:=λr=>dTup (rs0.getD (p+P*r) [])) (Es (aA U U) (by omega)) (by omega) λr hr=>?_).trans ?_
   ·have:=aDD hp hr;rw[←aIy,B8,P0,if_pos (by omega)];exact iC (aA U (aA U (aA (rR U) (aA (rR U) (aA U U))))) (by exact Nat.le_of_ble_eq_true U)
   ·unfold fY;rw[K7];rfl
  ·show _=NC (D.lst ((Ga P R rs0).map fY));unfold Ga;rw[K7];rfl
 refine cC aJ2 (by exact Nat.le_of_ble_eq_true U) ?_;refine cC (d:=.int c) (bH (aA U (aA U U)) U hc2) (by exact Nat.le_of_ble_eq_true U) ?_;have p9:(0:Int)<10 ^ (9:Int).toNat:=S8 (by decide);have p58:(0:Int)<10 ^ (58:Int).toNat:=S8 (by decide);have hpw:∀n:Int,0≤n→n<100→Jp (.int 10) (.int n)=NC (.int (10 ^ n.toNat)):=λn a b=>yE ⟨a,by omega,by omega⟩;have f5:∀{l:List (List Int)} {x:Nat} {t:List Int},l.length=M→x<M→t.length=5→(∀k,k<M→(l.getD k []).length=5)→∀k,k<M→((l.set x t).getD k []).length=5:=λ{l x t} h1 h2 h3 h4 k hk=>by
  rw[tE _ _ _ _ _ (by omega)];split
  ·exact h3
  ·exact h4 k hk
 refine yh (xs:=sp.map D.int) (λk env=>∃(rs:List (List Int))(v:SD),env=[.fro (aP ns),.own (.int P),.own (.int R),.fro (aP sp),.own (aP (0::bs)),v5,.own (bM (Ga P R rs)),.own (.int c),v,.no,.no]∧rs.length=M∧∀k,k<M→(rs.getD k []).length=5) U (jF U) ⟨rs0,_,U,hl0,λk hk=>by rw[←aIy,B8,P0,if_pos hk];rfl⟩ ?_ ?_
 ·rintro k x env hx ⟨rs,v,rfl,hl,h5⟩;refine⟨by walk_at "lt", ?_⟩;rw[B9]at hx;obtain⟨y,hy,rfl⟩:=lY hx;have ym:=hsm y (E6 hy);obtain⟨a,b,e,hrec⟩:=Wj c (k:=y) (c%10 ^ (9:Int).toNat) (y*y%(M:Int)) (by omega) (by omega);have ye:((y.toNat:Nat):Int)=y:=by omega
  refine⟨_,ak (x:=y.toNat) (t:=[c%10 ^ (9:Int).toNat,y*y%(M:Int),a,b,e]) p1 (by rw[hM];omega) (by rw[hM];exact hl) U (by rw[ye];exact aH U U (bC hP0)) (by rw[ye];exact aH U U (dW hP0 hP9)) (bH (aA U (aA U (aA (aH U (aH U U (hpw 9 (by decide) (by decide))) (bC p9)) (aA (aH (aH U U (iG (Hx (by omega) (by omega)))) (hmul U U) (bC (by omega))) U)))) U hrec),_,_,U,by rw[K9];exact hl,f5 hl (by omega) U h5⟩
 rintro env ⟨rs1,v8,rfl,hl1,h51⟩;refine cC (d:=.int (c%10 ^ (58:Int).toNat)) (aH U (aH U U (hpw 58 (by decide) (by decide))) (bC p58)) (by exact Nat.le_of_ble_eq_true U) ?_;have hb0:∀i,i<bs.length+1→0≤(0::bs).getD i 0∧(0::bs).getD i 0<(M:Int):=λi hi=>by
  have:=getD_mem (l:=0::bs) (k:=i) (by simp;omega);rcases D5.mp this with z | z
  ·rw[z];omega
  ·have:=hbm _ z;omega
 have aIz:(0::bs).Nodup:=K8.mpr ⟨λz=>by have:=hbm 0 z;omega,hbn⟩;refine Rn (n:=bs.length+1) (λk env=>∃(rs:List (List Int))(key:Int)(v5 v8:SD),env=[.fro (aP ns),.own (.int P),.own (.int R),.fro (aP sp),.own (aP (0::bs)),v5,.own (bM (Ga P R rs)),.own (.int c),v8,.own (.int key),.no]∧rs.length=M∧(∀k,k<M→(rs.getD k []).length=5) ∧
   (∀i,i<k→∃y was now lK:Int,rs[((0::bs).getD i 0).toNat]?=NC [y,(bs++[0]).getD i 0,was,now,lK]∧y<key)∧(∀i j,i<j→j<k→(rs.getD ((0::bs).getD i 0).toNat []).getD 0 0<(rs.getD ((0::bs).getD j 0).toNat []).getD 0 0)) (Es (aA ((cT (aA U U) (jP _)).trans U) U) (by omega)) ⟨rs1,_,_,_,U,hl1,h51,λi hi=>absurd hi (L6 _),λi j _ hj=>absurd hj (L6 _)⟩ ?_ ?_
 ·rintro k env hk ⟨rs,key,w5,w8,rfl,hl,h5,hch,hke⟩;refine⟨by walk_at "lt", ?_⟩;obtain⟨x0,x1⟩:=hb0 k hk;generalize hx:(0::bs).getD k 0=x at *;have xe:((x.toNat:Nat):Int)=x:=by omega
  have ix:dU (aP (0::bs)) (.int (k:Int))=NC (.int x):=(fJ (by omega) (by simp;omega)).trans (by rw[D7,hx]);have ixn:dU (aP ((0::bs)++[0])) (.int ((k:Int)+1))=NC (.int ((bs++[0]).getD k 0)):=(fJ (by omega) (by simp;omega)).trans (by rw[show ((k:Int)+1).toNat=k+1 by omega];rfl);obtain⟨a,b,e,hrec⟩:=Wj c (k:=(k:Int)+100) key ((bs++[0]).getD k 0) (by omega) (by omega);obtain⟨m,hm,m0,m1⟩:=Dw c (k:=(k:Int)+7) (by omega) (by omega);refine cC (d:=.int x) (aX (aH U U ix) U) (by exact Nat.le_of_ble_eq_true U) ?_;refine aAW (ak (x:=x.toNat) (t:=[key,(bs++[0]).getD k 0,a,b,e]) p1 (by rw[hM];omega) (by rw[hM];exact hl) U (by rw[xe];exact aH U U (bC hP0)) (by rw[xe];exact aH U U (dW hP0 hP9)) (bH (aA U (aA (aH U U (cP _ _)) (aA U (aA (aH (aH U (iD (aA U U) (by exact Nat.le_of_ble_eq_true U)) (zP (0::bs) [0] (by simp;omega))) (aH U U (cP _ _)) ixn) U)))) U hrec)) ?_;have c20:=F1 c (show (2:Int)≠0 by decide);have c21:=E9 c (show (0:Int)<2 by decide);have pos:∃z:Int,0≤z∧dU (aP [1,10 ^ (40:Int).toNat]) (.int (c%2))=NC (.int z):=by
   rcases(show c%2=0∨c%2=1 by omega)with z | z
   ·exact⟨1,by decide,by rw[z];rfl⟩
   ·exact⟨10 ^ (40:Int).toNat,O9 (S8 (by decide)),by rw[z];rfl⟩
  obtain⟨z,z0,hz⟩:=pos;have mm:=F1 m (show (3:Int)≠0 by decide);have mm1:=E9 m (show (0:Int)<3 by decide);have hst:0≤m%3*z:=m8 mm z0;refine aCY (d:=.int (key+1+m%3*z)) (aH (aH U U (cP _ _)) (aH (aH (bH (aA U (aA (aH U U (cP _ _)) U)) U hm) U (bC (by decide))) (aH (iD (aA U (aA (aH U U (hpw 40 (by decide) (by decide))) U)) (by exact Nat.le_of_ble_eq_true U)) (aH U U (bC (by decide))) hz) (iG (Hx (by omega) (by omega)))) (cP _ _)) (by exact Nat.le_of_ble_eq_true U) ⟨_,U,_,_,_,_,U,by rw[K9];exact hl,f5 hl (by omega) U h5,?_,?_⟩
  ·intro i hi;rcases K4 i k with q | q
   ·obtain⟨y,was,now,lK,h1,h2⟩:=hch i q;have hi0:=hb0 i (by omega);have ne:(0::bs).getD i 0≠x:=by rw[←hx];exact Dv aIz (by simp;omega) (by simp;omega) (by omega)
    exact⟨y,was,now,lK,by rw[U0 (by omega)];exact h1,by omega⟩
   ·have:i=k:=by omega
    subst this;rw[hx];exact⟨key,a,b,e,by rw[J5 (by omega)],by omega⟩
  ·intro i j hij hj;have hi0:=hb0 i (by omega);have nei:(0::bs).getD i 0≠x:=by rw[←hx];exact Dv aIz (by simp;omega) (by simp;omega) (by omega)
   rw[tE _ _ _ _ _ (by omega),if_neg (by omega)];rcases K4 j k with q | q
   ·have hj0:=hb0 j (by omega);have nej:(0::bs).getD j 0≠x:=by rw[←hx];exact Dv aIz (by simp;omega) (by simp;omega) (by omega)
    rw[tE _ _ _ _ _ (by omega),if_neg (by omega)];exact hke i j hij q
   ·have:j=k:=by omega
    subst this;rw[hx,tE _ _ _ _ _ (by omega),if_pos rfl];obtain⟨y,was,now,lK,h1,h2⟩:=hch i hij;rw[qC h1];exact h2
 rintro env ⟨rs,key,w5,w8,rfl,hl,h5,hch,hke⟩;refine Rn (n:=P) (λk env=>∃(se:List Int)(v:SD),env=[.fro (aP ns),.own (.int P),.own (.int R),.fro (aP sp),.own (aP (0::bs)),w5,.own (bM ((D4 P).map λp=>((D4 R).map λr=>rs.getD (p+P*r) [])++(if p<k then [[se.getD p 0]]else []))),.own (.int c),w8,.own (.int key),v]∧se.length=k) (Es (aA U U) (by omega)) ⟨[],_,by
   have:(D4 P).map (λp=>((D4 R).map λr=>rs.getD (p+P*r) [])++(if p<0 then [[([]:List Int).getD p 0]]else []))=Ga P R rs:=by unfold Ga;apply Q9;intro p _;rw[if_neg (L6 _),F3]
   rw[this],U⟩ ?_ ?_
 ·rintro k env hk ⟨se,v,rfl,hse⟩;refine⟨by walk_at "lt", ?_⟩;obtain⟨m,hm,_,_⟩:=Dw c (k:=(k:Int)+70) (by omega) (by omega);generalize hS:((D4 P).map λp=>((D4 R).map λr=>rs.getD (p+P*r) [])++(if p<k then [[se.getD p 0]]else []))=S;have hk2:S[k]?=NC ((D4 R).map λr=>rs.getD (k+P*r) []):=by rw[←hS,B9,G3 hk,G1,if_neg (K6 _),F3]
  have hgp:gC [.ix k] (bM S)=NC (.lst (((D4 R).map λr=>rs.getD (k+P*r) []).map dTup)):=oh (by rw[B9,hk2];rfl);refine⟨_,Va (p:=[.ix k]) (d:=dTup [m%10]) U (by
   show vd dD (aD 10) _=_;rw[aDf (k:=(k:Int)) U U (by omega),D7]
   rfl) hgp (iC (aA (aH (bH (aA U (aA (aH U U (cP _ _)) U)) U hm) U (bC (by decide))) U) (by exact Nat.le_of_ble_eq_true U)) (by rw[B6,B6,D8];omega),se++[m%10],.fro (.int k),?_,by rw[C7,hse];rfl⟩
  rw[show fG [.ix k] (bM S) (.lst (((D4 R).map λr=>rs.getD (k+P*r) []).map dTup++[dTup [m%10]]))=bM ((D4 P).map λp=>((D4 R).map λr=>rs.getD (p+P*r) [])++(if p<k+1 then [[(se++[m%10]).getD p 0]]else []))from ?_]
  ·rfl
  refine(ou (y:=fY _) (by rw[B9,hk2];rfl)).trans ?_;refine congrArg D.lst (?_:(S.map fY).set k _=_);apply K1;intro p;rw[F7,B6,←hS,B6,D8,B9,B9,B9,B9];by_cases hp:p<P
  ·rw[G3 hp];by_cases e:k=p
   ·subst e;rw[if_pos U,if_pos hp,G1,G1,if_pos (by omega),B8,L3 (by omega),hse,V0];unfold fY;rw[J3];rfl
   ·rw[if_neg e,G1,G1,G1,G1];by_cases q:p<k
    ·rw[if_pos q,if_pos (by omega),B8,B8,G4 (by omega)]
    ·rw[if_neg q,if_neg (by omega)]
  ·rw[if_neg (by omega),E2 (by rw[D8];omega)];rfl
 rintro env ⟨se,v,rfl,hse⟩;refine JM U ⟨_,U,P,R,rs,se,bs,?_,⟨p1,p8,r1,r8,by rw[hM];exact hl,by rw[hM];exact h5,hbn,by rw[hM];exact hbm,?_,?_⟩⟩
 ·refine congrArg pD ?_;unfold bJ;apply Q9;intro p hp;rw[if_pos (F9.mp hp)]
 ·intro k hk;obtain⟨y,was,now,lK,h1,_⟩:=hch k (by omega);exact⟨y,was,now,lK,h1⟩
 ·rw[K5];intro i j hi hj hij;have:=hke (i+1) (j+1) (by omega) (by omega);have ei:(0::bs).getD (i+1) 0=bs[i]:=by rw[V3,B8,B7 hi];rfl
  have ej:(0::bs).getD (j+1) 0=bs[j]:=by rw[V3,B8,B7 hj];rfl
  rw[ei,ej]at this;exact this
theorem aFT{P R:Nat}{dC:List (List Int)}{bF:List Int}(hP:0<P)(hP8:P≤8):pB [bM (bJ P R dC bF)]=NC (.int ((P*R:Nat):Int)):=by
 refine oO U ?_;unfold Ie;apply iB;have hls:=Fg (bJ P R dC bF);rw[zA]at hls;have h0:(bJ P R dC bF)[0]?=NC _:=Rt (p:=0) hP;have hix:dU (bM (bJ P R dC bF)) (.int 0)=NC (fY _):=Du (k:=0) h0;have hlp:=Lp (((D4 R).map λr=>dC.getD (0+P*r) [])++[[bF.getD 0 0]]);rw[NP (E6 h0)]at hlp;rw[V1];have e:(R:Int)=((R+1:Nat):Int)-1:=by omega
 rw[e];exact aH (cT (aA U U) hls) (aH (cT (aA (aH U U hix) U) hlp) U (lR _ _)) (iG (Hx (by omega) (by omega)))
def Wb.first(P R:Nat)(rs:List (List Int))(bF od:List Int):Wb:=⟨⟨bJ P R rs bF,[],[],[],[]⟩,rs,od,(oV (P*R)).filter λi=>!decide (i∈od),⟨[],[]⟩,⟨[],[]⟩,⟨[],[]⟩⟩
section
variable{P R:Nat}{rs:List (List Int)}{bF od:List Int}
theorem Built.ok(h:Built P R rs od):mF (Wb.first P R rs bF od):=by
 have aDJ:P*R≤8*8:=R7 h.p8 h.r8;have hm0:0<P*R:=Z9 h.p1 h.r1;have hpl:(Wb.first P R rs bF od).P=P:=zA _ _ _ _;have box:∀k,k<P*R→∃q,(bJ P R rs bF)[k%P]?=NC q∧q[k/P]?=NC (rs.getD k []):=λk hk=>qu h.p1 hk;have hb:∀k,k<rs.length→k<P*R:=λk hk=>by rw[←h.len];exact hk
 refine⟨Ja.init (by rw[zA];exact h.p8),by rw[hpl];exact h.p1,?_,?_,?_,?_,?_,⟨U,C5 _⟩,⟨U,C5 _⟩,⟨U,C5 _⟩,nofun,nofun,h.bf,?_,?_,?_,h.key,λk hk=>absurd hk (L6 _)⟩
 ·intro k hk;rw[hpl];obtain⟨q,q1,q2⟩:=box k (hb k hk);show k/P<((bJ P R rs bF).getD (k%P) []).length;rw[qC q1];exact(D2.mp q2).1
 ·show rs.length≤64;rw[h.len];exact aDJ
 ·show 0<rs.length;rw[h.len];exact hm0
 ·intro k hk;rw[hpl];obtain⟨q,q1,q2⟩:=box k (hb k hk);refine⟨?_,h.five k (hb k hk)⟩;show rs.getD k []=((bJ P R rs bF).getD ((k%P:Nat):Int).toNat []).getD ((k/P:Nat):Int).toNat [];rw[D7,D7,qC q1,qC q2]
 ·intro k hk;rfl
 ·intro x hx;show 1≤x∧x<(rs.length:Int);rw[h.len];exact h.Rp x hx
 ·refine List.Nodup.sublist R0 ?_;unfold oV;exact i7 _ (λa b (h:a≠b)=>by omega) j8
 ·intro x;show x∈(oV (P*R)).filter _↔1≤x∧x<(rs.length:Int)∧x∉od;rw[h.len,N1];unfold oV;rw[J2];constructor
  ·rintro⟨⟨i,hi,rfl⟩,z⟩
   have:=F9.mp hi;exact⟨by omega,by omega,by simpa using z⟩
  ·rintro⟨z1,z2,z3⟩
   exact⟨⟨(x-1).toNat,F9.mpr (by omega),by omega⟩,by simpa using z3⟩
theorem CQ{Pr:SR→Prop}{v:V}{C:A7}{nm:List Str}{ds:List D}{x:Str}{f:FE}{g:GS}{d:D}{rest:EN}(h:f (rE (.own (.ins C nm ds)::rest))=NC d)(hx:posK nm x=none)(hl:nm.length<900)(k:Qs Pr (g (.inn v (.ins C (nm++[x]) (ds++[d]))::rest))):Qs Pr (aW (iW 0 (yD C 0 dD x f)) g (.inn v (.ins C nm ds)::rest)):=mR U (vP (p:=[]) U U U h hl hx) U k
theorem aIA{Pr:SR→Prop}{v:V}{C:A7}{nm:List Str}{ds:List D}{x:Str}{f:FE}{d:D}{rest:EN}(h:f (rE (.own (.ins C nm ds)::rest))=NC d)(hx:posK nm x=none)(hl:nm.length<900)(k:Pr (.next (.inn v (.ins C (nm++[x]) (ds++[d]))::rest))):Qs Pr (iW 0 (yD C 0 dD x f) (.inn v (.ins C nm ds)::rest)):=jz U (vP (p:=[]) U U U h hl hx) U k
variable(κ:Nat→A7)
theorem aDP(h:Built P R rs od):wN κ [.ins (κ 1) [] [],bM (bJ P R rs bF)]=NC (.non,kZ κ (Wb.first P R rs bF od)):=by
 refine lJ U λv=>?_;have aDJ:P*R≤8*8:=R7 h.p8 h.r8;have h64:od.length≤64:=by
  have:=qW (P*R) od h.bf λx hx=>by have:=h.Rp x hx;omega
  omega
 have hl:=zA P R rs bF;have aDK:=aFT (R:=R) (dC:=rs) (bF:=bF) h.p1 h.p8;have hbn:vH κ [.ins (κ 0) [] [],bM (bJ P R rs bF)]=_:=aFE κ (vR:=bJ P R rs bF) (by rw[hl];exact h.p8);have hstr:=CP (bF:=bF) h.p1 h.p8 h.r1 h.chain h.Rp h.bf h64;have hlo:=aDI (bF:=bF) h.p1 h.p8 h.r1 h.r8 h.chain h.Rp h.bf h64;have hso:∀k:Nat,zV [bM (bJ P R rs bF),.int (k:Int)]=NC (dTup [((k%P:Nat):Int),((k/P:Nat):Int)]):=λk=>(zj (by rw[hl];exact h.p1) (by rw[hl];have:=h.p8;omega)).trans (by rw[hl,T4,T5]);have hwv:kZ κ (Wb.first P R rs bF od)=.ins (κ 1) wB [dR (κ 0) ⟨bJ P R rs bF,[],[],[],[]⟩,qe P (P*R),aP od,aP ((oV (P*R)).filter λi=>!decide (i∈od)),Qv ⟨[],[]⟩,Qv ⟨[],[]⟩,Qv ⟨[],[]⟩]:=by unfold kZ Wb.P Wb.first;dsimp only;rw[hl,h.len]
 rw[hwv];clear hwv;generalize bM (bJ P R rs bF)=st at *;generalize dR (κ 0) ⟨bJ P R rs bF,[],[],[],[]⟩=bd at *;generalize ((oV (P*R)).filter λi=>!decide (i∈od))=lo at *
 suffices hh:Qs (UL .non (.ins (κ 1) wB [bd,qe P (P*R),aP od,aP lo,Qv ⟨[],[]⟩,Qv ⟨[],[]⟩,Qv ⟨[],[]⟩]) v) (Cz κ [.inn v (.ins (κ 1) [] []),.fro st])from hh
 unfold Cz;refine CQ (d:=bd) (WW (aA U U) hbn) U (by decide) ?_;refine CQ (d:=qe P (P*R)) (zO (n:=P*R) (Es (aA (bH (aA U U) U aDK) U) (by omega)) (by omega) λk hk=>bH (aA U (aA U U)) U (hso k)) (by decide +kernel) (by decide) ?_;refine CQ (d:=aP od) (bH (aA U U) U hstr) (by decide +kernel) (by decide) ?_;refine CQ (d:=aP lo) (bH (aA U U) U hlo) (by decide +kernel) (by decide) ?_;refine CQ (d:=Qv ⟨[],[]⟩) U (by decide +kernel) (by decide) ?_;refine CQ (d:=Qv ⟨[],[]⟩) U (by decide +kernel) (by decide) ?_;exact aIA (d:=Qv ⟨[],[]⟩) U (by decide +kernel) (by decide) ⟨_,.inr ⟨U,U⟩,U⟩
theorem aIB{Pr:SR→Prop}{env:EN}{ks:List Key}{is:List Nat}{fs:FA}{ds os:List D}(h1:fs (rE env)=NC ds)(h2:xF env is=NC os)(h3:decide is.Nodup=NF)(h4:decide ks.Nodup=NF)(h5:ks.length=os.length+ds.length)(h6:ks.length≤15)(k:Pr (.ret (.dk ks (os++ds)))):Qs Pr (VP ks is fs env):=by unfold VP;rw[h1,h2];dsimp only;rw[if_pos ⟨h3,h4,h5,h6⟩];exact k
theorem aFU(h:Built P R rs od):Dc [bM (bJ P R rs bF)]=NC (nH (Wb.first P R rs bF od)):=by
 suffices hh:∃d,Dc [bM (bJ P R rs bF)]=NC d∧d=nH (Wb.first P R rs bF od) by obtain⟨d,e,rfl⟩:=hh;exact e
 refine oE U ?_;unfold XC;have aDJ:P*R≤8*8:=R7 h.p8 h.r8;have h8:=h.p8;have hp1:=h.p1;have hl:=zA P R rs bF;have h64:od.length≤64:=by
  have:=qW (P*R) od h.bf λx hx=>by have:=h.Rp x hx;omega
  omega
 refine cC (d:=.int P) ((cT (aA U U) (Fg _)).trans (by rw[hl])) (by exact Nat.le_of_ble_eq_true U) ?_;have h0:(bJ P R rs bF)[0]?=NC _:=Rt (p:=0) hp1;have hix:dU (bM (bJ P R rs bF)) (.int 0)=NC (fY _):=Du (k:=0) h0;have hlp:=Lp (((D4 R).map λr=>rs.getD (0+P*r) [])++[[bF.getD 0 0]]);rw[NP (E6 h0)]at hlp;have hP0:(0:Int)<P:=by omega
 have hrec:∀k:Nat,k<P*R→bO (f2 dU (f2 dU (aD 1) (f2 gM (aD 0) (aD 2))) (f2 pQ (aD 0) (aD 2))) [NC (.int (k:Int)),NC (bM (bJ P R rs bF)),NC (.int P)]=NC (dTup (rs.getD k [])):=λk hk=>by
  obtain⟨q,q1,q2⟩:=qu (dC:=rs) (bF:=bF) hp1 hk;have e1:dU (bM (bJ P R rs bF)) (.int ((k:Int)%(P:Int)))=NC (fY q):=by rw[←T4];exact Du q1
  have e2:dU (fY q) (.int ((k:Int)/(P:Int)))=NC (dTup (rs.getD k [])):=by rw[←T5];exact aJ0 q2
  exact aX (aH (aH U (aH U U (bC hP0)) e1) (aH U U (dW hP0 (by omega))) e2) (iR _)
 have aJ3:(D.lst ((D4 (P*R)).map λk=>dTup (rs.getD k [])))=yQ rs:=by
  unfold yQ;congr 1;apply K1;intro k;rw[B9,B9];by_cases hk:k<P*R
  ·rw[G3 hk,oR (d:=[]) (show k<rs.length by rw[h.len];exact hk)];rfl
  ·rw[E2 (by rw[D8];omega),E2 (by rw[h.len];omega)];rfl
 refine cC (d:=yQ rs) ((zO (n:=P*R) (φ:=λk=>dTup (rs.getD k [])) (Es (aA ((aH U (aH (cT (aA (aH U U hix) U) hlp) U (lR _ _)) (iG (Hx (by omega) (by omega)))).trans (by rw[show ((R+1:Nat):Int)-1=(R:Int) by omega,V1])) U) (by omega)) (by omega) hrec).trans (by rw[aJ3])) (by exact Nat.le_of_ble_eq_true U) ?_;refine cC (d:=aP []) U (by exact Nat.le_of_ble_eq_true U) ?_;have nx:∀k,k≤od.length→∃t:List Int,dU (yQ rs) (.int ((0::od).getD k 0))=NC (dTup t)∧dU (dTup t) (.int 1)=NC (.int ((od++[0]).getD k 0)):=λk hk=>by
  obtain⟨key,was,now,lK,h1⟩:=h.chain k hk;have hx:0≤(0::od).getD k 0:=by
   have:=getD_mem (l:=0::od) (k:=k) (by simp;omega);rcases D5.mp this with z | z
   ·omega
   ·have:=h.Rp _ z;omega
  exact⟨_,rQ hx (by rw[B9];exact congrArg (Option.map dTup) h1),uE (by decide) U⟩
 obtain⟨t0,ht0,hx0⟩:=nx 0 (M0 _);have aJ1:dU (yQ rs) (.int 0)=NC (dTup t0):=ht0;refine cC (d:=.int ((od++[0]).getD 0 0)) (aX (aH (aH U U aJ1) U hx0) U) (by exact Nat.le_of_ble_eq_true U) ?_;have key:∀k,k<od.length→(od++[0]).getD k 0=od.getD k 0:=λk hk=>by rw[B8,B8,G4 hk]
 have last:(od++[0]).getD od.length 0=0:=by rw[B8,L3 (C5 _),V0];rfl
 refine yl (n:=od.length) (λn env=>n≤od.length∧env=[.fro (bM (bJ P R rs bF)),.own (.int P),.own (yQ rs),.own (aP (od.take (od.length-n))),.own (.int ((od++[0]).getD (od.length-n) 0))]) ⟨C5 _,by rw[V0];rfl⟩ (by omega) ?_ ?_
 ·rintro n env ⟨hn,rfl⟩;by_cases c:n=0
  ·left;subst c;rw[U6,last];exact(bR ((aH U U (rP 0 0)).trans (by rw[decide_eq_true rfl];rfl)))
  ·right;have hk:od.length-n<od.length:=by omega
   obtain⟨t,ht,hxt⟩:=nx (od.length-n+1) (by omega);have ht':dU (yQ rs) (.int (od.getD (od.length-n) 0))=NC (dTup t):=ht;have hm:=h.Rp _ (getD_mem hk);rw[key _ hk];refine⟨bR ((aH U U (rP _ _)).trans (by rw[decide_eq_false (by omega)];rfl)),by omega,_,aGC (jw (ds:=(od.take (od.length-n)).map D.int) (d:=.int (od.getD (od.length-n) 0)) U (aX U U) (by rw[B6,J4];omega)) (wJ (d:=.int ((od++[0]).getD (od.length-n+1) 0)) (aX (aH (aH U U ht') U hxt) U) (by exact Nat.le_of_ble_eq_true U)),by omega,?_⟩;rw[show od.length-(n-1)=od.length-n+1 by omega,vB,P7,oR (d:=0) hk];rfl
 ·rintro env n ⟨hn,rfl⟩ hf;have c:n=0:=by
   by_cases c:n=0
   ·exact c
   ·exfalso;have hk:od.length-n<od.length:=by omega
    have hm:=h.Rp _ (getD_mem hk);rw[key _ hk]at hf;have:=(bR ((aH U U (rP (od.getD (od.length-n) 0) 0)).trans (by rw[decide_eq_false (by omega)];rfl)):fB (f2 Tr (aD 4) (fC (.int 0))) (rE [.fro (bM (bJ P R rs bF)),.own (.int P),.own (yQ rs),.own (aP (od.take (od.length-n))),.own (.int (od.getD (od.length-n) 0))])=NC NF)
    rw[this]at hf;cases hf
  subst c;rw[U6,O8];refine aIB (ds:=[.dk [] [],.dk [] [],.dk [] [],.lst [],.int P]) (os:=[yQ rs,aP od]) U U (by decide) (by decide +kernel) U (by decide) ⟨_,U,?_⟩;unfold nH Wb.P Wb.first;dsimp only;rw[hl];rfl
end
theorem aDQ{Pr:SR→Prop}{gb:GB}{g1 g2:GS}{env env':EN}(h:gb env=NC (NG,env'))(k:Qs Pr (g2 env')):Qs Pr (TY gb g1 g2 env):=by unfold Qs at *;rw[aDz h];exact k
theorem Fi(l:List Int):Tr (aP l) (.lst [])=NC (.bl (!decide (l=[]))):=WT l []
variable(κ:Nat→A7)
def Wb.cv(s:Wb)(r:List Int):Wb:={s with b:=s.b.cW r}
theorem mF.cv{s:Wb}(h:mF s){r:List Int}(hu:r.Nodup)(hm:∀x∈r,0≤x∧x<(s.n:Int))(hn:∀x∈r,x∉s.b.held):mF (s.cv r)∧nH (s.cv r)=nH s∧(s.cv r).n=s.n∧(s.cv r).P=s.P:=by
 have e1:=oU r s.b;obtain⟨e2,e3⟩:=rZ r s.b;have en:(s.cv r).n=s.n:=congrArg i8 e1;have eP:(s.cv r).P=s.P:=e2;refine⟨⟨h.bn.cW hu hm hn,by rw[eP];exact h.p1,λk hk=>?_,h.few,h.pos,λk hk=>?_,λk hk=>?_,by rw[en];exact h.lao,by rw[en];exact h.coo,by rw[en];exact h.goo,by rw[en];exact h.coi,by rw[en];exact h.goi,h.bf,h.Rp,h.lon,h.lom,h.key,λk hk=>?_⟩,?_,en,eP⟩
 ·rw[eP];show _<((s.b.cW r).bT.getD _ []).length;rw[e3];exact h.len k hk
 ·rw[eP];show s.rs.getD k []=face (s.b.cW r) _ _∧_;rw[MP h.bn (P5 _) (P5 _) hm];exact h.rcd k hk
 ·rw[eP];show s.la.get k=lastAt (s.b.cW r).asked _ _;rw[e1];exact h.las k hk
 ·show (at_ (s.b.cW r).asked k).thing.length=5;rw[e1];exact h.th k (by rw[←en];exact hk)
 ·unfold nH;rw[eP];show D.dk bks [_,_,_,_,_,sU (s.b.cW r).asked,_]=_;rw[e1];rfl
def Wb.o1(s:Wb)(k x:Int)(fu:List Int):Wb:=s.wr (s.ahead k) (lnk (s.R (s.ahead k)) ((s.R x).getD 1 0)) (s.ns (s.ahead k) ((s.la.get x).toList++fu))
def Wb.out(s:Wb)(k x:Int)(fu:List Int):Wb:={s.o1 k x fu with od:=s.od.eraseIdx k.toNat,lo:=s.lo++[x],go:=s.go.put x s.n}
theorem aDR{l:List Int}{x:Int}:∀{k:Nat},l.Nodup→l[k]?=NC x→l.idxOf x=k:=by
 induction l with
 | nil=>intro k _ h;cases h
 | cons a l ih=>
  intro k hn h;have hn':=K8.mp hn;cases k with
  | zero=>cases h;exact List.idxOf_cons_self
  | succ k=>have h:l[k]?=NC x:=h;have ne:a≠x:=λz=>hn'.1 (z▸E6 h);rw[Y9,show (a==x)=NG from beq_false_of_ne ne,←ih hn'.2 h];rfl
theorem mF.aLf{s:Wb}(h:mF s){x:Int}(h0:0≤x)(h1:x<(s.rs.length:Int)):∀m∈(s.la.get x).toList,0≤m∧m<(s.n:Int):=λm hm=>by
 have e:=h.las x.toNat (by omega);rw[V4 h0]at e;rw[e]at hm;cases z:lastAt s.b.asked ((x.toNat%s.P:Nat):Int) ((x.toNat/s.P:Nat):Int)with
 | none=>rw[z]at hm;cases hm
 | some y=>rw[z]at hm;rw[E3.mp hm];have:=Fe z;exact⟨this.1,this.2.1⟩
theorem mF.o1{s:Wb}(h:mF s)(hm:s.n<124){k x:Int}{fu:List Int}(h0:0≤k)(h1:k≤(s.od.length:Int))(x0:0≤x)(x1:x<(s.rs.length:Int))(hn:∀m∈fu,0≤m∧m<(s.n:Int))(hf:fu.length≤5):mF (s.o1 k x fu)∧∀m∈(s.la.get x).toList++fu,0≤m∧m<(s.n:Int):=by
 obtain⟨b1,b2,b3⟩:=h.ahead h0 h1;have hn2:∀m∈(s.la.get x).toList++fu,0≤m∧m<(s.n:Int):=λm hm=>by
  rcases F2.mp hm with z | z
  ·exact h.aLf x0 x1 m z
  ·exact hn m z
 refine⟨h.wr b2 b3 U (h.aFJ hn2) ?_ hm λ_=>rfl,hn2⟩;unfold Wb.ns;rw[C7,C7];have:=yS (s.co.get (s.ahead k));have:=yS (s.la.get x);omega
theorem aGK(s:Wb)(k x:Int)(fu:List Int):(s.out k x fu).n=s.n+1:=by show (s.o1 k x fu).n=_;unfold Wb.o1;exact aDr _ _ _ _
theorem zm(s:Wb)(k x:Int)(fu:List Int):(s.out k x fu).rs.length=s.rs.length:=by show (s.o1 k x fu).rs.length=_;unfold Wb.o1;exact Jd _ _ _ _
theorem mF.out{s:Wb}(h:mF s)(hm:s.n<124){k x:Int}{fu:List Int}(h0:0≤k)(h1:k<(s.od.length:Int))(hx:s.od[k.toNat]?=NC x)(hn:∀m∈fu,0≤m∧m<(s.n:Int))(hf:fu.length≤5):mF (s.out k x fu):=by
  have xm:x∈s.od:=E6 hx;have xr:=h.Rp x xm;obtain⟨w,_⟩:=h.o1 hm h0 (O9 h1) (x:=x) (by omega) xr.2 hn hf;have hi:=aDR h.bf hx;have hlen:=zm s k x fu;have hnn:=aGK s k x fu;refine⟨w.bn,w.p1,w.len,w.few,w.pos,w.rcd,w.las,w.lao,?_,?_,?_,?_,h.bf.sublist (T8 _ _),?_,?_,?_,w.key.sublist (T8 _ _),w.th⟩
  · rw[hnn];exact h.coo.mono (by omega)
  · rw[hnn];exact h.goo.put _ _
  · intro z y e
    have:=h.coi z y e;rw[hnn];omega
  · intro z y e
    have e:(s.go.put x s.n).get z=NC y:=e;rw[Mp.Am h.goo.1]at e;rw[hnn];split at e
    · cases e
      omega
    · have:=h.goi z y e
      omega
  · intro z hz
    rw[hlen];exact h.Rp z (List.mem_of_mem_eraseIdx hz)
  · refine N4.mpr ⟨h.lon,by simp,λy hy z hz q=>?_⟩
    rw[E3.mp hz]at q;exact((h.lom y).mp hy).2.2 (q▸xm)
  · intro y
    show y∈s.lo++[x]↔_;rw[hlen];show _↔1≤y∧y<(s.rs.length:Int)∧y∉s.od.eraseIdx k.toNat;rw[←hi,CK h.bf,F2,E3,h.lom y];constructor
    · rintro(⟨z1,z2,z3⟩ | rfl)
      · exact⟨z1,z2,λq=>z3 q.1⟩
      · exact⟨xr.1,xr.2,λq=>q.2 U⟩
    · rintro⟨z1,z2,z3⟩
      by_cases e:y=x
      · exact .inr e
      · exact .inl ⟨z1,z2,λq=>z3 ⟨q,e⟩⟩
theorem aFV{env:EN}{i:Nat}{π:FP}{g:FE}{d0:D}{p:List L2.Step}{ns:List Int}{k:Int}(h1:env[i]?=NC (.own d0))(h2:π (rE env)=NC p)(h3:gC p d0=NC (aP ns))(h5:g (rE env)=NC (.int k))(k0:0≤k)(k1:k.toNat<ns.length)(hl:ns.length<1000):Ze i π g env=.next (env.set i (.own (fG p d0 (aP (ns.eraseIdx k.toNat))))):=by unfold Ze;rw[h1,h2,h5];dsimp only;rw[h3];unfold aP;dsimp only;rw[mC];dsimp only;rw[if_pos ⟨k0,k1,hl⟩]
theorem ao{s:Wb}(h:mF s)(hm:s.n<124){k x:Int}{fu:List Int}{nd:D}(h0:0≤k)(h1:k<(s.od.length:Int))(hx:s.od[k.toNat]?=NC x)(hn:∀m∈fu,0≤m∧m<(s.n:Int))(hf:fu.length≤5)(hnd:(nd=.non∧fu=[])∨nd=aP fu):nP κ [kZ κ s,.int x,nd]=NC (.int s.n,kZ κ (s.out k x fu)):=by
 refine lJ U λv=>?_;unfold Ku;obtain⟨b1,b2,b3⟩:=h.ahead h0 (O9 h1);have xm:x∈s.od:=E6 hx;have xr:=h.Rp x xm;have hi:=aDR h.bf hx;have h5:=h.five (x:=x) (by omega) xr.2;obtain⟨W,hn2⟩:=h.o1 hm h0 (O9 h1) (x:=x) (by omega) xr.2 hn hf;have ek:xQ (s.la.get x::fu.map NC)=(s.la.get x).toList++fu:=by rw[vX,vW]
 have hix:Uo (aP s.od) (.int x)=NC (.int k):=by unfold Uo aP;dsimp only;rw[mC,C4,if_pos xm,hi,V4 h0]
 have aJ4:=Jf κ (s:=s) hn hnd;rw[yR]at aJ4;refine cC (d:=.int (s.ahead k)) (bY (nm:=wB) U (by decide +kernel) (aA (aH (dJ U (oG w2 U)) U hix) U) U (Qc κ h h0 (O9 h1))) (by exact Nat.le_of_ble_eq_true U) ?_;refine cC (d:=gA (s.la.get x::fu.map NC)) (aH (a:=gA [s.la.get x]) (b:=gA (fu.map NC)) (iD (aA (bY (nm:=wB) U (by decide +kernel) U U (Gr κ h x)) U) (by exact Nat.le_of_ble_eq_true U)) (bY (nm:=wB) U (by decide +kernel) U U aJ4) (vV _ _ (by simp;omega))) (by exact Nat.le_of_ble_eq_true U) ?_;refine vD (d:=.int s.n) (env':=[.inn v (kZ κ (s.o1 k x fu)),.fro (.int x),.fro nd,.own (.int (s.ahead k)),.own (gA (s.la.get x::fu.map NC)),.no]) (lU (p:=[]) (nm:=wB) (es:=[.int (s.ahead k),.int ((s.R x).getD 1 0),gA (s.la.get x::fu.map NC)]) U U U (by decide +kernel) (mapA (cB U (xK (aX (aH (bY (nm:=wB) U (by decide +kernel) U U (pM κ h (by omega) xr.2)) U (mO (k:=1) (by omega))) U) (cB U U)))) ((ZS κ h b2 b3 (by rw[ek];exact hn2) (by simp;omega)).trans (by rw[ek];rfl))) (by exact Nat.le_of_ble_eq_true U) ?_;refine mR U (aDw (p:=[L2.Step.fld (κ 1) "string"]) (ns:=s.od) U U (Ao w2 U) U xm) U ?_;rw[hi,show fG [L2.Step.fld (κ 1) "string"] (kZ κ (s.o1 k x fu)) (aP (s.od.eraseIdx k.toNat))=.ins (κ 1) wB _ from Aq w2 rfl];refine mR U (Va (p:=[L2.Step.fld (κ 1) "loose"]) (ds:=s.lo.map D.int) (d:=.int x) U U (Ao w3 U) (aX U U) (by rw[B6];have:=h.aIt;omega)) U ?_;rw[Aq w3 U,vB];refine mR U (zT (p:=[L2.Step.fld (κ 1) "goings"]) (k:=.inl x) (kd:=.int x) (d:=.int s.n) U U (Ao w6 U) U U U U (by rw[B6];exact P1 (show s.go.k.length≤s.n from h.goo.2) (by omega))) U ?_;rw[Aq w6 U,Oj];exact zU U ⟨_,.inl U,U⟩
theorem aFW{s:Wb}(h:mF s)(hm:s.n<124){k x:Int}{fu:List Int}(h0:0≤k)(h1:k<(s.od.length:Int))(hx:s.od[k.toNat]?=NC x)(hn:∀m∈fu,0≤m∧m<(s.n:Int))(hf:fu.length≤5):Kr [nH s,.int k,aP fu]=NC (.int s.n,nH (s.out k x fu)):=by
 refine lJ U λv=>?_;unfold XD;obtain⟨b1,b2,b3⟩:=h.ahead h0 (O9 h1);have xm:x∈s.od:=E6 hx;have xr:=h.Rp x xm;have ho:=h.NB;have h5:=h.five (x:=x) (by omega) xr.2;have ek:xQ (s.la.get x::fu.map NC)=(s.la.get x).toList++fu:=by rw[vX,vW]
 refine cC (d:=.int x) (aX ((aH (aH U U (cD k1 U)) U (fJ h0 h1)).trans (by rw[qC hx])) U) (by exact Nat.le_of_ble_eq_true U) ?_;refine cC (d:=.int (s.ahead k)) (aX (aH (aH (iD (aA U U) (by exact Nat.le_of_ble_eq_true U)) (aH U U (cD k1 U)) (aFM _ (by omega))) U (fJ h0 (by simp;omega))) U) (by exact Nat.le_of_ble_eq_true U) ?_;refine vD (d:=.int s.n) (env':=[.inn v (nH (s.o1 k x fu)),.fro (.int k),.fro (aP fu),.own (.int x),.own (.int (s.ahead k)),.no]) (wK (es:=[.int (s.ahead k),.int ((s.R x).getD 1 0),gA (s.la.get x::fu.map NC)]) U (cB U (xK (aX (aH (aH (aH U U (cD k0 U)) U (Ff (by omega) xr.2)) U (mO (k:=1) (by show 1<(s.R x).length;omega))) U) (xK (aH (a:=gA [s.la.get x]) (b:=gA (fu.map NC)) (iD (aA (aH (aH U U (cD k4 U)) U (vU h.lao.1 x)) U) (by exact Nat.le_of_ble_eq_true U)) (by rw[←yR];rfl) (vV _ _ (by simp;omega))) U))) ((Qd h b2 b3 (by simp;omega)).trans (by rw[ek];rfl))) (by exact Nat.le_of_ble_eq_true U) ?_;refine mR U (zT (p:=[L2.Step.key (.inr "outs")]) (k:=.inl x) (kd:=.int x) (d:=.int s.n) U U (Jb k3 U) U U U U (by rw[B6];exact P1 (show s.go.k.length≤s.n from h.goo.2) (by omega))) U ?_;rw[show fG [L2.Step.key (.inr "outs")] (nH (s.o1 k x fu)) _=.dk bks _ from Jc k3 U,Oj];refine mR U (aFV (p:=[L2.Step.key (.inr "order")]) (ns:=s.od) U U (Jb k1 U) U h0 (by omega) (by omega)) U ?_;rw[Jc k1 rfl];exact zU U ⟨_,.inl U,U⟩
theorem aDS(ns:List Int):Tr (dTup ns) (dTup ns)=NC (.bl NG):=by have e:=Uy ns;unfold Tr;rw[show toV (dTup ns)=none from rfl,e];dsimp only;rw[if_pos (by rw[qP];decide),pO];rfl
theorem aBg{s:Wb}(h:mF s)(hm:s.n<124){k x way:Int}{fu:List Int}(h0:0≤k)(h1:k<(s.od.length:Int))(hx:s.od[k.toNat]?=NC x)(hn:∀m∈fu,0≤m∧m<(s.n:Int))(hf:fu.length≤5):Ey κ [kZ κ s,.int x,aP fu,.int way]=NC (.int s.n,kZ κ (s.out k x fu)):=by
 refine lJ U λv=>?_;unfold BL;refine cC (d:=aP fu) (cT (aA U U) (qT (cY fu))) (by exact Nat.le_of_ble_eq_true U) ?_;refine Xc (zN (bR (aH U U (Ut fu []))) (bR (aH U U (mQ _ _)))) (λe=>?_) λ_=>Bh ?_
 ·rw[G7,decide_eq_true_iff]at e;obtain⟨rfl,_⟩:=e;have hg:=lU (env:=[.inn v (kZ κ s),.fro (.int x),.fro (aP []),.fro (.int way),.own (aP []),.no]) (i:=0) (π:=dD) (C:=κ 1) (m := "leave") (F:=nP κ) (fs:=λeF eZ=>((qO (aD 1) iY) eF eZ).map (·++[.non])) (d0:=kZ κ s) (p:=[]) (nm:=wB) (es:=[.int x,.non]) U U U (by decide +kernel) U (ao κ h hm h0 h1 hx hn hf (.inl ⟨U,U⟩));exact aIu (aDA hg) ⟨_,.inl U,U⟩
 refine vD (d:=.int s.n) (env':=[.inn v (kZ κ (s.out k x fu)),.fro (.int x),.fro (aP fu),.fro (.int way),.own (aP fu),.no]) (lU (p:=[]) (nm:=wB) (es:=[.int x,aP fu]) U U U (by decide +kernel) (mapA (cB U (cB U U))) (ao κ h hm h0 h1 hx hn hf (.inr U))) (by exact Nat.le_of_ble_eq_true U) ?_;apply Az
 ·exact bR (aH U U (WT fu fu))
 ·rw[decide_eq_true rfl];rfl
 apply Bh;refine aGD (ds:=fu.map D.int) (d:=.int 0) U U (by rw[B6];omega) ?_;exact zU U ⟨_,.inl U,U⟩
theorem aFX{s:Wb}(h:mF s)(hm:s.n<124)(ho:0<s.od.length)(c:Int):∃s',mF s'∧s'.n=s.n+1∧s'.P=s.P∧Dh κ [kZ κ s,nH s,.int c]=NC (.bl NF,[kZ κ s',nH s']):=by
 have o64:=h.NB;have x0:=F1 c (show (s.od.length:Int)≠0 by omega);have x1:=E9 c (show 0<(s.od.length:Int) by omega);generalize hk:c%(s.od.length:Int)=k at *;obtain⟨x,hx⟩:∃x,s.od[k.toNat]?=NC x:=⟨_,B7 (show k.toNat<s.od.length by omega)⟩
 have xr:=h.Rp x (E6 hx);generalize hr:c/(s.od.length:Int)=r at *;obtain⟨ns,hf,nl,nm⟩:=aj (r/2) s.n h.ZM;obtain⟨b1,b2,b3⟩:=h.ahead x0 (O9 x1);have hk':=h.out hm x0 x1 hx nm (by omega);have hn':=aGK s k x ns;have hl':=zm s k x ns;have hle:=aFW h hm x0 x1 hx nm (by omega);have hlv:=aBg κ h hm (way:=r%2) x0 x1 hx nm (by omega);have eP:(s.out k x ns).P=s.P:=rfl;generalize s.out k x ns=s' at *;refine⟨s',hk',hn',eP,Ka U λvs hv=>?_⟩
 match vs,hv with
 | [v0,v1,v2],_=>
  suffices hh:Qs (Xb [NF,NF,NG] (.bl NF) [kZ κ s',nH s'] [v0,v1,v2]) (Vm κ [.inn v0 (kZ κ s),.inn v1 (nH s),.fro (.int c),.no,.no,.no,.no,.no,.no,.no,.no])from hh
  unfold Vm;refine cC (d:=.int s.n) (cT (aA (aH U U (cD k5 U)) U) (qD _)) (by exact Nat.le_of_ble_eq_true U) ?_;refine cC (d:=.int k) ((aH U (cT (aA (aH U U (cD k1 U)) U) (jP _)) (bC (by omega))).trans (by rw[hk])) (by exact Nat.le_of_ble_eq_true U) ?_;refine cC (d:=.int r) ((aH U (cT (aA (aH U U (cD k1 U)) U) (jP _)) (dW (by omega) (by omega))).trans (by rw[hr])) (by exact Nat.le_of_ble_eq_true U) ?_;refine cC (d:=.int x) (aX ((aH (aH U U (cD k1 U)) U (fJ x0 x1)).trans (by rw[qC hx])) U) (by exact Nat.le_of_ble_eq_true U) ?_;refine cC (d:=.int (s.ahead k)) (aX (aH (aH (iD (aA U U) (by exact Nat.le_of_ble_eq_true U)) (aH U U (cD k1 U)) (aFM _ (by omega))) U (fJ x0 (by simp;omega))) U) (by exact Nat.le_of_ble_eq_true U) ?_;refine cC (d:=aP ns) (bH (aA (aH U U (dW (by decide) (by decide))) (aA U U)) U hf) (by exact Nat.le_of_ble_eq_true U) ?_;refine vD (d:=.int s.n) (env':=[.inn v0 (kZ κ s),.inn v1 (nH s'),.fro (.int c),.own (.int s.n),.own (.int k),.own (.int r),.own (.int x),.own (.int (s.ahead k)),.own (aP ns),.no,.no]) (wK (es:=[.int k,aP ns]) U (cB U (cB U U)) hle) (by exact Nat.le_of_ble_eq_true U) ?_;refine vD (d:=.int s.n) (env':=[.inn v0 (kZ κ s'),.inn v1 (nH s'),.fro (.int c),.own (.int s.n),.own (.int k),.own (.int r),.own (.int x),.own (.int (s.ahead k)),.own (aP ns),.own (.int s.n),.no]) (wK (es:=[.int x,aP ns,.int (r%2)]) U (cB U (cB U (cB (aH U U (bC (by decide))) U))) hlv) (by exact Nat.le_of_ble_eq_true U) ?_;apply Az (b:=!true||(!decide ((s.n:Int)=s.n)||!true))
  ·exact Cr (lH (bR (bH (aA U U) U (yU _)))) (Cr (bR (aH U U (rP _ _))) (lH (bR (bH (aA U (aA U (aA U U))) U (Rr κ hk' (by omega))))))
  ·rw[decide_eq_true rfl];rfl
  apply Bh;exact rT (Mz (Kf (bH (aA U (aA U (aA U U))) U (Ol κ hk' (by omega) (by rw[hl'];exact xr.2))) (bH (aA U (aA U (aA U U))) U (Ol κ hk' b2 (by rw[hl'];exact b3))))) ⟨_,.inl U,_,_,U,U,_,_,U,U,U⟩
theorem aDT{s:Wb}(h:mF s)(hm:s.n<123)(c:Int):∃s',mF s'∧s'.n≤s.n+2∧s'.P=s.P∧yL κ [kZ κ s,nH s,.int c]=NC (.bl NF,[kZ κ s',nH s']):=by
 have o64:=h.NB;have hsl:(sortI s.lo).length=s.lo.length:=(iV s.lo).1.length_eq;by_cases q1:c%3=0∧s.od≠[]
 ·have ho:0<s.od.length:=V5.mpr q1.2;have x0:=F1 (c/3) (show (s.od.length:Int)≠0 by omega);have x1:=E9 (c/3) (show 0<(s.od.length:Int) by omega);obtain⟨x,hx⟩:∃x,s.od[(c/3%(s.od.length:Int)).toNat]?=NC x:=⟨_,B7 (show (c/3%(s.od.length:Int)).toNat<s.od.length by omega)⟩
  have xr:=h.Rp x (E6 hx);have h5:=h.five (x:=x) (by omega) xr.2;have hre:=qg κ h (x:=x) (a:=-1) (b:=c%5) (c:=0) (ns:=[]) (nd:=.non) (by omega) xr.2 (λm hm=>by cases hm) (by decide) (.inl ⟨U,U⟩);have hch:=Je h (x:=x) (r:=[(s.R x).getD 0 0,(s.R x).getD 1 0,-1,c%5,0]) (os:=[s.co.get x]) (by omega) xr.2 (T7 U);rw[show xQ [s.co.get x]=s.ns x []from vX _ _]at hch;have hk':mF (s.wr x [(s.R x).getD 0 0,(s.R x).getD 1 0,-1,c%5,0] (s.ns x [])):=by refine h.wr (by omega) xr.2 U (h.aFJ λm hm=>by cases hm) ?_ (by omega) λ_=>rfl;unfold Wb.ns;rw[F3];have:=yS (s.co.get x);omega
  have hn':=aDr s x [(s.R x).getD 0 0,(s.R x).getD 1 0,-1,c%5,0] (s.ns x []);have eP:(s.wr x [(s.R x).getD 0 0,(s.R x).getD 1 0,-1,c%5,0] (s.ns x [])).P=s.P:=by show (s.b.put _ _ _ _).bT.length=_;rfl
  generalize s.wr x [(s.R x).getD 0 0,(s.R x).getD 1 0,-1,c%5,0] (s.ns x [])=s' at *;refine⟨s',hk',by omega,eP,Ka U λvs hv=>?_⟩
  match vs,hv with
  | [v0,v1,v2],_=>
   suffices hh:Qs (Xb [NF,NF,NG] (.bl NF) [kZ κ s',nH s'] [v0,v1,v2]) (rB κ [.inn v0 (kZ κ s),.inn v1 (nH s),.fro (.int c),.no,.no,.no,.no,.no,.no])from hh
   unfold rB;refine cC (d:=.int s.n) (cT (aA (aH U U (cD k5 U)) U) (qD _)) (by exact Nat.le_of_ble_eq_true U) ?_;apply aCZ (b:=decide (c%3=0)&&!decide (s.od=[]))
   ·exact zN (bR (aH (aH U U (bC (by decide))) U (mQ _ _))) (bR (aH (aH U U (cD k1 U)) U (Fi _)))
   ·rw[decide_eq_true q1.1,decide_eq_false q1.2];rfl
   rw[rH];refine cC (d:=.int x) (aX ((aH (aH U U (cD k1 U)) (aH (aH U U (dW (by decide) (by decide))) (cT (aA (aH U U (cD k1 U)) U) (jP _)) (bC (by omega))) (fJ x0 x1)).trans (by rw[qC hx])) U) (by exact Nat.le_of_ble_eq_true U) ?_;rw[rH];refine cC (d:=dTup (s.R x)) (aX (aH (aH U U (cD k0 U)) U (Ff (by omega) xr.2)) (iR _)) (by exact Nat.le_of_ble_eq_true U) ?_;rw[rH];refine JR (d:=.int s.n) (env':=[.inn v0 (kZ κ s),.inn v1 (nH s'),.fro (.int c),.own (.int s.n),.own (.int x),.own (dTup (s.R x)),.no,.no,.no]) (wK (es:=[.int x,dTup [(s.R x).getD 0 0,(s.R x).getD 1 0,-1,c%5,0],gA [s.co.get x]]) U (cB U (cB (iC (aA (aX (aH U U (mO (k:=0) (by omega))) U) (aA (aX (aH U U (mO (k:=1) (by omega))) U) (aA (rR U) (aA (aH U U (bC (by decide))) (aA U U))))) (by exact Nat.le_of_ble_eq_true U)) (xK (iD (aA (aH (aH U U (cD k2 U)) U (vU h.coo.1 x)) U) (by exact Nat.le_of_ble_eq_true U)) U))) hch) ?_;refine JR (d:=.int s.n) (env':=[.inn v0 (kZ κ s'),.inn v1 (nH s'),.fro (.int c),.own (.int s.n),.own (.int x),.own (dTup (s.R x)),.no,.no,.no]) (lU (p:=[]) (nm:=wB) (es:=[.int x,.int (-1),.int (c%5),.int 0,.non]) U U U (by decide +kernel) (by
    rw[cB (d:=.int x) U (cB (d:=.int (-1)) (rR U) (cB (d:=.int (c%5)) (aH U U (bC (by decide))) (cB (d:=.int 0) U U)))]
    rfl) hre) ?_
   exact rT (Mz (bH (aA U (aA U (aA U U))) U (Rr κ hk' (by omega)))) ⟨_,.inl U,_,_,U,U,_,_,U,U,U⟩
 have hb:(decide (c%3=0)&&!decide (s.od=[]))=NG:=by
  by_cases e:c%3=0
  ·by_cases e2:s.od=[]
   ·rw[decide_eq_true e2,decide_eq_true e];rfl
   ·exact absurd ⟨e,e2⟩ q1
  ·rw[decide_eq_false e];rfl
 by_cases q2:sortI s.lo=[]
 ·refine⟨s,h,by omega,U,Ka U λvs hv=>?_⟩
  match vs,hv with
  | [v0,v1,v2],_=>
   suffices hh:Qs (Xb [NF,NF,NG] (.bl NF) [kZ κ s,nH s] [v0,v1,v2]) (rB κ [.inn v0 (kZ κ s),.inn v1 (nH s),.fro (.int c),.no,.no,.no,.no,.no,.no])from hh
   unfold rB;refine cC (d:=.int s.n) (cT (aA (aH U U (cD k5 U)) U) (qD _)) (by exact Nat.le_of_ble_eq_true U) ?_;apply Az (b:=decide (c%3=0)&&!decide (s.od=[]))
   ·exact zN (bR (aH (aH U U (bC (by decide))) U (mQ _ _))) (bR (aH (aH U U (cD k1 U)) U (Fi _)))
   ·exact hb
   apply Az (b:=!decide (sortI s.lo=[]))
   ·exact bR (aH (bH (aA U U) U (Rq h)) U (Fi _))
   ·rw[decide_eq_true q2];rfl
   apply Bh;exact rT (Mz (bH (aA U (aA U (aA U U))) U (Rr κ h (C5 _)))) ⟨_,.inl U,_,_,U,U,_,_,U,U,U⟩
 have hlo:0<s.lo.length:=by rw[←hsl];exact V5.mpr q2
 have a0:=F1 c (show ((s.od.length:Int)+1)≠0 by omega);have a1:=E9 c (show 0<((s.od.length:Int)+1) by omega);obtain⟨key,k,hk,g0,g1,fit⟩:=aDy h (at_:=c%((s.od.length:Int)+1)) (c:=c/5) a0 (by omega);have nil:∀m∈([]:List Int),0≤m∧m<(s.n:Int):=λm hm=>by cases hm
 have hk':=h.ent hlo hm (was:=-1) (now:=c%7) (lK:=0) g0 g1 nil (by decide) fit;have hn':=aGI s k key (-1) (c%7) 0 [];have hbk:=qm h hlo hm (key:=key) (was:=-1) (now:=c%7) (lK:=0) g0 g1 nil (by decide);have hen:=aDx κ h hlo hm (was:=-1) (now:=c%7) (lK:=0) g0 g1 nil (by decide) fit (.inl ⟨U,U⟩);have eP:(s.ent k key (-1) (c%7) 0 []).P=s.P:=rfl;generalize s.ent k key (-1) (c%7) 0 []=s' at *;refine⟨s',hk',by omega,eP,Ka U λvs hv=>?_⟩
 match vs,hv with
 | [v0,v1,v2],_=>
  suffices hh:Qs (Xb [NF,NF,NG] (.bl NF) [kZ κ s',nH s'] [v0,v1,v2]) (rB κ [.inn v0 (kZ κ s),.inn v1 (nH s),.fro (.int c),.no,.no,.no,.no,.no,.no])from hh
  unfold rB;refine cC (d:=.int s.n) (cT (aA (aH U U (cD k5 U)) U) (qD _)) (by exact Nat.le_of_ble_eq_true U) ?_;apply Az (b:=decide (c%3=0)&&!decide (s.od=[]))
  ·exact zN (bR (aH (aH U U (bC (by decide))) U (mQ _ _))) (bR (aH (aH U U (cD k1 U)) U (Fi _)))
  ·exact hb
  apply aCZ (b:=!decide (sortI s.lo=[]))
  ·exact bR (aH (bH (aA U U) U (Rq h)) U (Fi _))
  ·rw[decide_eq_false q2];rfl
  rw[rH];refine aGE (ds:=[.int key,.int k]) (bH (aA U (aA (aH U (aH (cT (aA (aH U U (cD k1 U)) U) (jP _)) U (cP _ _)) (bC (by omega))) (aA (aH U U (dW (by decide) (by decide))) U))) U hk) U U ?_;rw[rH];refine vD (d:=dTup [s.new,(s.n+1:Nat)]) (env':=[.inn v0 (kZ κ s),.inn v1 (nH s'),.fro (.int c),.own (.int s.n),.no,.no,.own (.int key),.own (.int k),.no]) (wK (es:=[.int k,dTup [key,-1,c%7,0],aP []]) U (cB U (cB (iC (aA (aX U U) (aA (rR U) (aA (aH U U (bC (by decide))) (aA U U)))) (by exact Nat.le_of_ble_eq_true U)) (cB U U))) hbk) (by exact Nat.le_of_ble_eq_true U) ?_;have hg:=lU (env:=[.inn v0 (kZ κ s),.inn v1 (nH s'),.fro (.int c),.own (.int s.n),.no,.no,.own (.int key),.own (.int k),.own (dTup [s.new,(s.n+1:Nat)])]) (i:=0) (π:=dD) (C:=κ 1) (m := "enter") (F:=qK κ) (fs:=λeF eZ=>((qO (aD 6) (qO (Cd (fC (.int 1))) (qO (f2 gM (aD 2) (fC (.int 7))) (qO (fC (.int 0)) iY)))) eF eZ).map (·++[.non])) (d0:=kZ κ s) (p:=[]) (nm:=wB) (es:=[.int key,.int (-1),.int (c%7),.int 0,.non]) U U U (by decide +kernel) (by
    rw[cB (d:=.int key) U (cB (d:=.int (-1)) (rR U) (cB (d:=.int (c%7)) (aH U U (bC (by decide))) (cB (d:=.int 0) U U)))]
    rfl) hen
  refine aAW (env':=[.inn v0 (kZ κ s'),.inn v1 (nH s'),.fro (.int c),.own (.int s.n),.no,.no,.own (.int key),.own (.int k),.own (dTup [s.new,(s.n+1:Nat)])]) ((aDz (qp (b:=NG) (aFQ hg (d2:=dTup [s.new,(s.n+1:Nat)]) U (aDS _) U))).trans U) ?_;exact rT (Mz (bH (aA U (aA U (aA U U))) U (Rr κ hk' (by omega)))) ⟨_,.inl U,_,_,U,U,_,_,U,U,U⟩
theorem aDU(ns:List Int)(hl:ns.length≤63)(hs:∀k∈ns,Small k):aIg κ [.lst (ns.map D.int)]=NC (.bl NF):=by
 suffices hh:∃d,aIg κ [.lst (ns.map D.int)]=NC d∧d=.bl NF by obtain⟨d,e,rfl⟩:=hh;exact e
 refine oE U ?_;unfold aJU;obtain⟨P,R,rs,bF,od,hb,B⟩:=aDO (ns:=ns);have hlm:=zA P R rs bF;have h8:=B.p8;have hln:kO [bM (bJ P R rs bF)]=NC (.int P):=(Oh _).trans (by rw[hlm]);generalize hst:bM (bJ P R rs bF)=st at *;refine cC (d:=st) (bH (aA U U) U hb) (by exact Nat.le_of_ble_eq_true U) ?_;have hcp:∀env:EN,aD 1 (rE env)=NC (bM (bJ P R rs bF))→gU (mW (aD 1)) [] lG (fL dList (aB (aD 0) aM)) (rE env)=NC (bM (bJ P R rs bF)):=λenv h=>aBf (jF h) (by rw[hlm];omega);refine cC (d:=kZ κ (Wb.first P R rs bF od)) (WW (aA (hcp _ (by rw[hst];rfl)) U) (aDP κ B)) (by exact Nat.le_of_ble_eq_true U) ?_;refine cC (d:=nH (Wb.first P R rs bF od)) (bH (aA U U) U (by rw[←hst];exact aFU B)) (by exact Nat.le_of_ble_eq_true U) ?_;obtain⟨cells,hcells,c1⟩:∃cells:List Int,gU (mW (fSl NG (aD 0) (tK (fC (.int 3))) (tK (fC (.int 63))))) [] lG (cN 1 nC (aB (aD 0) aM)) (zE [.fro (aP ns),.own st,.own (kZ κ (Wb.first P R rs bF od)),.own (nH (Wb.first P R rs bF od)),.no,.no])=NC (aP cells)∧cells.length≤60:=by have hsp:∀c:Int,∃s:Int,0≤s∧nC [.int c]=NC (.int s):=aBe;refine⟨((ns.drop 3).take 60).map λc=>(hsp c).choose,?_,by rw[B6,J4];omega⟩;have:=zQ (fi:=mW (fSl NG (aD 0) (tK (fC (.int 3))) (tK (fC (.int 63))))) (fr:=[]) (fc:=lG) (fe:=cN 1 nC (aB (aD 0) aM)) (e:=zE [.fro (aP ns),.own st,.own (kZ κ (Wb.first P R rs bF od)),.own (nH (Wb.first P R rs bF od)),.no,.no]) (ms:=(ns.drop 3).take 60) (λ_=>NF) (λc=>(hsp c).choose) (jF ((WQ U (My U) (My U)).trans (by rw[show (3:Int)=((3:Nat):Int)from rfl,show (63:Int)=((63:Nat):Int)from rfl,aC5]))) (by rw[J4];omega) (λm hm=>rfl) λm hm _=>bH (aA U U) U (hsp m).choose_spec.2;rw[M6.mpr λ_ _=>rfl]at this;exact this
 have h1:=B.p1;refine yh (xs:=cells.map D.int) (λn env=>∃(s:Wb)(v4:SD),env=[.fro (aP ns),.own st,.own (kZ κ s),.own (nH s),v4,.no]∧mF s∧s.n≤2*n∧s.P=P) U (jF hcells) ⟨_,_,U,B.ok,C5 _,hlm⟩ ?_ ?_
 ·rintro n x env hx ⟨s,v4,rfl,h,hn,hP⟩;refine⟨by walk_at "lt", ?_⟩;rw[B9]at hx;obtain⟨c,hc,rfl⟩:=lY hx;have hnc:=(D2.mp hc).1;have hrp:=h.pos;have hrf:=h.few;apply yg (b:=decide (c%8=7))
  ·exact bR (aH (aH U U (bC (by decide))) U (mQ _ _))
  ·intro _;have p0:=F1 (c/8) (show (P:Int)≠0 by omega);have p1:=E9 (c/8) (show 0<(P:Int) by omega);obtain⟨r,hR,hcv⟩:=aDj κ h.bn (p:=c/8%(P:Int)) (most:=.non) p0 (by rw[show s.b.bT.length=P from hP];exact p1) (.inl U);have hcv:=hcv r (λ_=>rfl) λm z=>by cases z
   obtain⟨h',e1,e2,e3⟩:=h.cv (r:=r) (hR.1.imp λq=>Int.ne_of_lt q) (λx hx=>⟨((hR.2.2 x).mp hx).1.1,((hR.2.2 x).mp hx).1.2.1⟩) λx hx=>((hR.2.2 x).mp hx).1.2.2.2;have ew:D.ins (κ 1) wB [dR (κ 0) (s.b.cW r),qe s.P s.rs.length,aP s.od,aP s.lo,Qv s.la,Qv s.co,Qv s.go]=kZ κ (s.cv r):=by unfold kZ;rw[e3];rfl
   refine JR (d:=aP r) (env':=[.fro (aP ns),.own st,.own (kZ κ (s.cv r)),.own (nH s),.fro (.int c),.no]) ((lU (p:=[L2.Step.fld (κ 1) "bench"]) (nm:=Xq) (es:=[.int (c/8%(P:Int)),.non]) U U (Ao w0 U) (by decide +kernel) (by
    rw[cB (d:=.int (c/8%(P:Int))) (aH (aH U U (dW (by decide) (by decide))) (cT (aA U U) hln) (bC (by omega))) rfl]
    rfl) hcv).trans (by
    rw[Aq w0 U,←ew]
    rfl)) ?_
   rw[←e1];have m0:=F1 (c/64) (show (s.rs.length:Int)≠0 by omega);have m1:=E9 (c/64) (show 0<(s.rs.length:Int) by omega);apply aC0 (b:=!true)
   ·exact lH (bR (bH (aA U (aA U (aA (aH (aH U U (dW (by decide) (by decide))) (cT (aA (aH U U (cD k0 U)) U) (ZQ _)) (bC (show 0<(s.rs.length:Int) by omega))) U))) U (Ol κ h' m0 m1)))
   ·rfl
   ·exact⟨_,U,_,_,U,h',by omega,e3.trans hP⟩
  ·intro _;apply yg (b:=decide (c%2=0)&&!decide (s.od=[]))
   ·exact zN (bR (aH (aH U U (bC (by decide))) U (mQ _ _))) (bR (aH (aH U U (cD k1 U)) U (Fi _)))
   ·intro e;rw[G7]at e;have q2:s.od≠[]:=λz=>by rw[decide_eq_true z]at e;cases e.2
    obtain⟨s',h',hn',hP',hstep⟩:=aFX κ h (by omega) (V5.mpr q2) (c/2);have hg:Um (.ch 2::.ch 3::.rd (f2 pQ (aD 4) (fC (.int 2)))::[]) (Dh κ) [.fro (aP ns),.own st,.own (kZ κ s),.own (nH s),.fro (.int c),.no]=NC (.bl NF,[.fro (aP ns),.own st,.own (kZ κ s'),.own (nH s'),.fro (.int c),.no]):=(ZW (ds':=[kZ κ s',nH s']) (Ql:=[kZ κ s,nH s]) (OJ:=[.int (c/2)]) U (zf (zf (aGJ (aH U U (dW (by decide) (by decide))) U))) hstep).trans U;exact aDQ (env':=[.fro (aP ns),.own st,.own (kZ κ s'),.own (nH s'),.fro (.int c),.no]) (ZV (b:=NF) (qp hg)) ⟨_,U,s',_,U,h',by omega,hP'.trans hP⟩
   ·intro _;obtain⟨s',h',hn',hP',hstep⟩:=aDT κ h (by omega) (c/2);have hg:Um (.ch 2::.ch 3::.rd (f2 pQ (aD 4) (fC (.int 2)))::[]) (yL κ) [.fro (aP ns),.own st,.own (kZ κ s),.own (nH s),.fro (.int c),.no]=NC (.bl NF,[.fro (aP ns),.own st,.own (kZ κ s'),.own (nH s'),.fro (.int c),.no]):=(ZW (ds':=[kZ κ s',nH s']) (Ql:=[kZ κ s,nH s]) (OJ:=[.int (c/2)]) U (zf (zf (aGJ (aH U U (dW (by decide) (by decide))) U))) hstep).trans U;exact aDQ (env':=[.fro (aP ns),.own st,.own (kZ κ s'),.own (nH s'),.fro (.int c),.no]) (ZV (b:=NF) (qp hg)) ⟨_,U,s',_,U,h',by omega,hP'.trans hP⟩
 ·rintro env ⟨s,v4,rfl,h,hn,hP⟩;refine cC (d:=sU s.b.asked) (bY (nm:=Xq) (dJ U (oG w0 U)) (by decide +kernel) U U (ZJ κ)) (by exact Nat.le_of_ble_eq_true U) ?_;have e1:f2 Ft (fL kO (aB (aD 5) aM)) (fL kO (aB (f2 jD (aD 3) (fC (.str "due"))) aM)) (rE [.fro (aP ns),.own st,.own (kZ κ s),.own (nH s),v4,.own (sU s.b.asked)])=NC (.bl (decide ((s.b.asked.length:Int)=s.b.asked.length))):=aH (cT (aA U U) (qD _)) (cT (aA (aH U U (cD k5 U)) U) (qD _)) (mQ _ _);rw[decide_eq_true rfl]at e1;exact pZ (Kf e1 (aH U (aH U U (cD k5 U)) (aFR _))) ⟨_,U,U⟩
end Rs

def PySem.W.Fast.tw2581202813058446944:Unit:=()
def PySem.W.Fast.tw155724256080422786:Unit:=()
def PySem.W.Fast.tw10939083828066811878:Unit:=()
def PySem.W.Fast.tw17824314715039036462:Unit:=()
def PySem.W.Fast.tw5345305512645267495:Unit:=()
def PySem.W.Fast.tw4528566513829787165:Unit:=()
def PySem.W.Fast.tw12977572827611298972:Unit:=()
def PySem.W.Fast.tw15142651292163577059:Unit:=()
def PySem.W.Fast.tw1671746069912744525:Unit:=()
def PySem.W.Fast.tw1425445859220008386:Unit:=()
def PySem.W.Fast.tw16546115008250572722:Unit:=()
def PySem.W.Fast.tw2077173454871877814:Unit:=()
def PySem.W.Fast.tw7946579656837984560:Unit:=()
def PySem.W.Fast.tw18141562411544209157:Unit:=()
def PySem.W.Fast.tw14030856410585847435:Unit:=()
def PySem.W.Fast.tw13577278331832407325:Unit:=()
def PySem.W.Fast.tw7282774749566131871:Unit:=()
def PySem.W.Fast.tw4665843885734811362:Unit:=()
def PySem.W.Fast.tw6148484599713745330:Unit:=()
def PySem.W.Fast.tw6665579821554791687:Unit:=()
def PySem.W.Fast.tw2897688308618183461:Unit:=()
def PySem.W.Fast.tw5388410173639149103:Unit:=()
def PySem.W.Fast.tw16031113619360764244:Unit:=()
def PySem.W.Fast.tw8405369458683836274:Unit:=()
def PySem.W.Fast.tw12705602569511234549:Unit:=()
def PySem.W.Fast.tw8825446470798588870:Unit:=()
def PySem.W.Fast.tw9522388657725731188:Unit:=()
namespace Rs
open PySem L2
theorem NQ{K:aJ}{f:A7}{oc:A6}{od:Option A7}{fd:BE}{sl:Array (Option A6)}(l:K.lookup f=NC ⟨oc,od,.func fd,sl⟩):K2 K (.ref f)=NF:=by unfold K2;dsimp only;rw[l]
theorem NT{K:aJ}{f:A7}{od:Option A7}{fd:BE}{sl:Array (Option A6)}(l:K.lookup f=NC ⟨.type "function", od,.func fd,sl⟩):O7 K (.ref f)=NF:=by
 unfold O7 l5;dsimp only;rw[l];show (NC (BY "function")==NC (BY "function"))=NF
 decide +kernel
theorem aLh{K:aJ}{h:AM}{mg:Str→Option A6}{x:Str}{st:AH}{f:A7}{oc:A6}{od an:Option A7}{osl:Array (Option A6)}{kV doc pm cdv ct:A6}(X:K.In h)(G:h.Ns AV mg)(a:R3 K AV x=NC (NC (.ref f)))(l:K.lookup f=NC ⟨oc,od,.func (F8 x x (gD st) (cR st) (aK st) .none kV doc pm an cdv ct),osl⟩)(c:K3 K cdv x=NF):Raw K mg x st:=aHv X G a l c (NQ l)
theorem rM{K:aJ}{C f:A7}{nm q:Str}{st:AH}{kV dc pm cd ct:A6}{od an:Option A7}{sl:Array (Option A6)}(a:G2 K (.ref C) nm=NC (NC (.ref f)))(l:K.lookup f=NC ⟨.type "function", od,.func (F8 nm q (gD st) (cR st) (aK st) .none kV dc pm an cd ct),sl⟩) (c:K3 K cd q=NF):gZ K C nm q st NG:=aFk a (NT l) l c (NQ l)
theorem rD{K:aJ}{C f T:A7}{nm q:Str}{st:AH}{kV dc pm cd ct ot:A6}{od an dt:Option A7}{sl s2:Array (Option A6)}{nt:Nat}(a:G2 K (.ref C) nm=NC (NC (.ref f)))(l:K.lookup f=NC ⟨.type "function", od,.func (F8 nm q (gD st) (cR st) (aK st) (.ref T) kV dc pm an cd ct),sl⟩) (c:K3 K cd q=NF) (t:K.lookup T=NC ⟨ot,dt,.seq #[.none] nt,s2⟩):gZ K C nm q st NF:=aCD a (NT l) l c (NQ l) t
theorem rI{K:aJ}{h:AM}{mg:Str→Option A6}(X:K.In h)(G:h.Ns AV mg){C f:A7}{cn q:Str}{st:AH}{kV dc pm cd ct:A6}{od an:Option A7}{sl:Array (Option A6)}(x:R3 K AV cn=NC (NC (.ref C)))(a:G2 K (.ref C) "__init__" = NC (NC (.ref f))) (l:K.lookup f=NC ⟨.type "function", od,.func (F8 "__init__" q (gD st) (cR st) (aK st) .none kV dc pm an cd ct),sl⟩) (c:K3 K cd q=NF) (m:U1 K C=NF) (k:K2 K (.ref C)=NF):UJ K mg cn C q st:=aFl X G x a (NT l) l c m k
theorem cX{K:aJ}{h:AM}{C:A7}{P:A7→Prop}{cn:Str}(X:K.In h)(a:R3 K AV cn=NC (NC (.ref C)))(p:P C):∃C,P C:=⟨C,p⟩
theorem cF{K:aJ}{C:A7}{fn:List Str}(a:Q4 K C ME=NF)(b:R9 K C=NF)(c:W7 K C=NF)(d:G2 K (.ref C) "__setattr__" = NC (NC (.builtin "object.__setattr__"))) (e:∀x∈fn,G2 K (.ref C) x=NC none):jE K C fn:=⟨⟨a,b,c,d⟩,e⟩
theorem walk{l:k9}{q:AJ}{loose:List Str}{XP:(Str→Option A6)→AM→Prop}{YP:AN→AM→Prop}{d:DefRec}{K:Kt→aJ}(hn:l.most=NC 63)(hdf:d.params.defaults=[])(hdn:d.name = "law")
  (hY:∀(w:AN)(h:AM),YP w h→(K w.params).In h)
  (F:∀(w:AN)(mg:Str→Option A6)(h:AM),(K w.params).In h→h.Ns AV mg→(∃C:A7,jE (K w.params) C jH∧UJ (K w.params) mg "Bench" C "Bench.__init__" vG∧gZ (K w.params) C "changes" "Bench.changes" xM NG∧gZ (K w.params) C "check_pane" "Bench.check_pane" tO NG∧gZ (K w.params) C "strike" "Bench.strike" zX NG∧gZ (K w.params) C "carve" "Bench.carve" wO NF∧gZ (K w.params) C "check_place" "Bench.check_place" qZ NG∧gZ (K w.params) C "seen" "Bench.seen" Ih NG∧gZ (K w.params) C "check_change" "Bench.check_change" qG NG∧gZ (K w.params) C "put" "Bench.put" Nj NF∧gZ (K w.params) C "change" "Bench.change" Ac NG)∧(∃C:A7,jE (K w.params) C dX∧UJ (K w.params) mg "Weaver" C "Weaver.__init__" wM∧gZ (K w.params) C "coming_in" "Weaver.coming_in" tQ NG∧gZ (K w.params) C "going_out" "Weaver.going_out" tR NG∧gZ (K w.params) C "last_change" "Weaver.last_change" qF NG∧gZ (K w.params) C "record_of" "Weaver.record_of" tU NG∧gZ (K w.params) C "box_ahead" "Weaver.box_ahead" tV NG∧gZ (K w.params) C "write" "Weaver.write" zY NG∧gZ (K w.params) C "write_tied" "Weaver.write_tied" rA NG∧gZ (K w.params) C "link" "Weaver.link" Df NG∧gZ (K w.params) C "further_needs" "Weaver.further_needs" oF NG∧gZ (K w.params) C "leave" "Weaver.leave" zZ NF∧gZ (K w.params) C "order" "Weaver.order" Ab NG∧gZ (K w.params) C "free" "Weaver.free" Dg NG∧gZ (K w.params) C "rewrite" "Weaver.rewrite" vM NF∧gZ (K w.params) C "enter" "Weaver.enter" uH NF)∧Raw (K w.params) mg "_law_cell" Vb∧Raw (K w.params) mg "_law_sizes" Nb∧Raw (K w.params) mg "_law_mixed" Nf∧Raw (K w.params) mg "_law_record" Hz∧Raw (K w.params) mg "_law_built" yH∧Raw (K w.params) mg "thing_at" Ve∧Raw (K w.params) mg "spot_of" JT∧Raw (K w.params) mg "record_at" Ng∧Raw (K w.params) mg "string_of" Nh∧Raw (K w.params) mg "many_boxes" Ib∧Raw (K w.params) mg "loose_boxes" wL∧Raw (K w.params) mg "_law_book" Km∧Raw (K w.params) mg "_law_spread" Ig∧Raw (K w.params) mg "ripe_among" zW∧Raw (K w.params) mg "_law_whole" Ni∧Raw (K w.params) mg "_law_known" Ew∧Raw (K w.params) mg "_law_further" Dd∧Raw (K w.params) mg "_law_changed" wR∧Raw (K w.params) mg "_law_pointed" De∧Raw (K w.params) mg "_law_left" Vi∧Raw (K w.params) mg "known" JV∧Raw (K w.params) mg "_law_leave" Nk∧Raw (K w.params) mg "_law_change" Aa∧Raw (K w.params) mg "_law_numbers" wV∧Raw (K w.params) mg "_law_free" Kv∧Raw (K w.params) mg "_law_same" Vk∧Raw (K w.params) mg "_law_step" Vl∧Raw (K w.params) mg "_law_key" Ro∧Raw (K w.params) mg "_law_entered" Dj∧Raw (K w.params) mg "_law_other" Nm∧Raw (K w.params) mg "law" aC8∧mg "len" = none∧mg "abs" = none∧mg "list" = none∧mg "range" = none∧mg "all" = none∧mg "max" = none∧mg "isinstance" = none∧mg "bool" = none∧mg "int" = none∧mg "sorted" = none∧mg "set" = none∧mg "tuple" = none∧mg "min" = none∧jL mg "HEAD" (0)∧jL mg "NEXT" (1)∧jL mg "NEEDS" (3)∧jL mg "PANE" (0)∧jL mg "PLACE" (1)∧jL mg "THING" (2)∧jL mg "KEY" (0)∧jL mg "WAS" (2)∧jL mg "NOW" (3)∧jL mg "AGE" (4)) :
  n9 q loose XP YP l.row.toRowW d [] (λf vs=>k8 f vs):=by
 refine L2.aAH (n:=63) (k:=10) (x := "script") (CX:=λ_=>FZ) (sp:=λw=>spB (K w.params)) hn (by decide) hdf ⟨U,by decide,by decide⟩ hY ?_ (λ_ _ a ns hl hb _ hS=>⟨a,ns,U,hS,hl,hb,λ_=>rfl⟩) λ_ _ _ _ _ z=>z;intro w mg fa h KX G hmg;obtain⟨⟨C0,bD,RBenchInit,RBenchChanges,RBenchCheckPane,RBenchStrike,RBenchCarve,RBenchCheckPlace,RBenchSeen,RBenchCheckChange,RBenchPut,RBenchChange⟩,⟨C1,aQ,RWeaverInit,RWeaverComingIn,RWeaverGoingOut,RWeaverLastChange,RWeaverRecordOf,RWeaverBoxAhead,RWeaverWrite,RWeaverWriteTied,RWeaverLink,RWeaverFurtherNeeds,RWeaverLeave,RWeaverOrder,RWeaverFree,RWeaverRewrite,RWeaverEnter⟩,RLawCell,RLawSizes,RLawMixed,RLawRecord,RLawBuilt,RThingAt,RSpotOf,RRecordAt,RStringOf,RManyBoxes,RLooseBoxes,RLawBook,RLawSpread,RRipeAmong,RLawWhole,RLawKnown,RLawFurther,RLawChanged,RLawPointed,RLawLeft,RKnown,RLawLeave,RLawChange,RLawNumbers,RLawFree,RLawSame,RLawStep,RLawKey,RLawEntered,RLawOther,RLaw,dZ,aIh,iT,iH,Qu,aIi,fZ,aDb,aIj,uJ,aA3,vN,aIn,Gn,yM,lu,aDa,lz,Nr,KR,aIk,aIl,aIm⟩:=F w mg h KX G;obtain⟨κ,e0,e1⟩:∃κ:Nat→A7,κ 0=C0∧κ 1=C1:=⟨(λn=>match n with | 0=>C0 | _=>C1),U,U⟩
 subst e0 e1;obtain⟨f,fd,FL,m⟩:=RLaw.ex;rw[hdn]at hmg;have e:=hmg.symm.trans m;cases e;refine⟨fd,je FL (λ_ _ _ _ _ _ u=>rfl),λbase _ _=>?_⟩;have sZ:=km (P:=l.prog) (w:=w) (mg:=mg) (base:=base) RLawCell dZ;have Np:=XX (P:=l.prog) (w:=w) (mg:=mg) (base:=base) RLawSizes sZ;have nQ:=YC (P:=l.prog) (w:=w) (mg:=mg) (base:=base) RLawMixed;have Ad:=JZ (P:=l.prog) (w:=w) (mg:=mg) (base:=base) RLawRecord nQ aIh;have Ob:=YD (P:=l.prog) (w:=w) (mg:=mg) (base:=base) RLawBuilt Np sZ nQ Ad iT iH dZ;have Ii:=KC (P:=l.prog) (w:=w) (mg:=mg) (base:=base) RBenchInit bD iT;have Vp:=lg (P:=l.prog) (w:=w) (mg:=mg) (base:=base) RThingAt;have Ez:=aA2 (P:=l.prog) (w:=w) (mg:=mg) (base:=base) RSpotOf dZ;have Fb:=YG (P:=l.prog) (w:=w) (mg:=mg) (base:=base) RRecordAt Ez Vp;have uN:=YH (P:=l.prog) (w:=w) (mg:=mg) (base:=base) RStringOf Fb iT Gn yM;have rC:=KD (P:=l.prog) (w:=w) (mg:=mg) (base:=base) RManyBoxes dZ;have Dk:=Xe (P:=l.prog) (w:=w) (mg:=mg) (base:=base) RLooseBoxes uN rC iH Gn;have Dp:=Xf (P:=l.prog) (w:=w) (mg:=mg) (base:=base) RWeaverInit bD aQ Ii rC Ez uN Dk iH;have Vz:=lr (P:=l.prog) (w:=w) (mg:=mg) (base:=base) RLawBook dZ iH;have xO:=Qt (P:=l.prog) (w:=w) (mg:=mg) (base:=base) RBenchChanges bD iT;have Iv:=KJ (P:=l.prog) (w:=w) (mg:=mg) (base:=base) RLawSpread;have jV:=Lb (P:=l.prog) (w:=w) (mg:=mg) (base:=base) RBenchCheckPane bD dZ;have Ij:=KN (P:=l.prog) (w:=w) (mg:=mg) (base:=base) RRipeAmong Qu iT lu;have Af:=Vr (P:=l.prog) (w:=w) (mg:=mg) (base:=base) RBenchStrike bD aDa lz Nr;have Dq:=Xg (P:=l.prog) (w:=w) (mg:=mg) (base:=base) RBenchCarve bD jV Ij Af aIi;have jW:=Ld (P:=l.prog) (w:=w) (mg:=mg) (base:=base) RWeaverComingIn aQ;have jX:=Le (P:=l.prog) (w:=w) (mg:=mg) (base:=base) RWeaverGoingOut aQ;have iK:=Fy (P:=l.prog) (w:=w) (mg:=mg) (base:=base) RWeaverLastChange aQ;have jB:=Il (P:=l.prog) (w:=w) (mg:=mg) (base:=base) RBenchCheckPlace bD jV dZ;have Im:=KQ (P:=l.prog) (w:=w) (mg:=mg) (base:=base) RBenchSeen bD jB Nr;have bL:=Lg (P:=l.prog) (w:=w) (mg:=mg) (base:=base) RWeaverRecordOf aQ bD Im;have iM:=YL (P:=l.prog) (w:=w) (mg:=mg) (base:=base) RLawWhole fZ aDb aIj;have rF:=YM (P:=l.prog) (w:=w) (mg:=mg) (base:=base) RLawKnown aQ jW jX iK iM bL Qu;have Dm:=Xh (P:=l.prog) (w:=w) (mg:=mg) (base:=base) RLawFurther iH;have kY:=Xi (P:=l.prog) (w:=w) (mg:=mg) (base:=base) RLawChanged dZ uJ aA3 vN;have pK:=Xj (P:=l.prog) (w:=w) (mg:=mg) (base:=base) RLawPointed kY;have Vx:=mq (P:=l.prog) (w:=w) (mg:=mg) (base:=base) RLawLeft pK;have jY:=Li (P:=l.prog) (w:=w) (mg:=mg) (base:=base) RWeaverBoxAhead aQ Gn;have dB:=Fz (P:=l.prog) (w:=w) (mg:=mg) (base:=base) RBenchCheckChange bD dZ;have Nx:=YQ (P:=l.prog) (w:=w) (mg:=mg) (base:=base) RBenchPut bD jB dB iT dZ uJ aA3 vN;have my:=aDc (P:=l.prog) (w:=w) (mg:=mg) (base:=base) RKnown;have nR:=Vt (P:=l.prog) (w:=w) (mg:=mg) (base:=base) RWeaverWrite aQ bD Nx my;have jC:=Ip (P:=l.prog) (w:=w) (mg:=mg) (base:=base) RWeaverWriteTied aQ nR jW;have pL:=Xk (P:=l.prog) (w:=w) (mg:=mg) (base:=base) RWeaverLink aQ bL jC KR aIk aIl aIm;have cL:=Bk (P:=l.prog) (w:=w) (mg:=mg) (base:=base) RWeaverFurtherNeeds bD aQ dB iT;have uK:=Vu (P:=l.prog) (w:=w) (mg:=mg) (base:=base) RWeaverLeave aQ jY iK cL pL bL yM;have Nz:=YT (P:=l.prog) (w:=w) (mg:=mg) (base:=base) RLawLeave aQ uK iT;have Iu:=KY (P:=l.prog) (w:=w) (mg:=mg) (base:=base) RLawChange iM dZ fZ vN Qu;have wY:=Xl (P:=l.prog) (w:=w) (mg:=mg) (base:=base) RLawNumbers iM Qu fZ iT;have uL:=Vv (P:=l.prog) (w:=w) (mg:=mg) (base:=base) RWeaverOrder aQ iT;have wX:=Xn (P:=l.prog) (w:=w) (mg:=mg) (base:=base) RWeaverFree aQ uJ;have qM:=mz (P:=l.prog) (w:=w) (mg:=mg) (base:=base) RLawFree dZ iH;have Ai:=Vw (P:=l.prog) (w:=w) (mg:=mg) (base:=base) RBenchChange bD dB;have yO:=ni (P:=l.prog) (w:=w) (mg:=mg) (base:=base) RLawSame bD aQ Ai Iu wX wY uL qM dZ iH;have Wa:=nj (P:=l.prog) (w:=w) (mg:=mg) (base:=base) RLawStep Dm Vx Nz yO iM rF dZ;have vO:=Oa (P:=l.prog) (w:=w) (mg:=mg) (base:=base) RWeaverRewrite aQ bL jC cL KR yM;have LK:=aA4 (P:=l.prog) (w:=w) (mg:=mg) (base:=base) RLawKey dZ;have Dn:=Xp (P:=l.prog) (w:=w) (mg:=mg) (base:=base) RLawEntered qM kY pK;have Al:=Vy (P:=l.prog) (w:=w) (mg:=mg) (base:=base) RWeaverEnter aQ cL bL jY nR jX pL dZ aIn KR yM;have Oc:=YZ (P:=l.prog) (w:=w) (mg:=mg) (base:=base) RLawOther aQ kY vO qM LK Dn Al yO dZ;exact aIo FL aQ bD Ob Dp Vz Iv Dq rF Wa Oc xO iT dZ (aDU κ)
end Rs
open PySem PySem.W PyProof.Rows
set_option maxRecDepth 100000 in
set_option maxHeartbeats 0 in
theorem PySem.Challenge.cw_ripestone_k28_leave_holds : PySem.Challenge.rw_ripestone_k28_leave.Holds := by
 w_on;o_law;k_head;(case hw=>w_witness2)
 k_fill
 refine Rs.walk (l:=PySem.Challenge.rw_ripestone_k28_leave) U U U (λw h Y=>PySem.W.kIn_of Y) ?F
 case F=>
  intro w mg h KX G;refine⟨?_,?_,?_,?_,?_,?_,?_,?_,?_,?_,?_,?_,?_,?_,?_,?_,?_,?_,?_,?_,?_,?_,?_,?_,?_,?_,?_,?_,?_,?_,?_,?_,?_,J0 KX G ?_,J0 KX G ?_,J0 KX G ?_,J0 KX G ?_,J0 KX G ?_,J0 KX G ?_,J0 KX G ?_,J0 KX G ?_,J0 KX G ?_,J0 KX G ?_,J0 KX G ?_,J0 KX G ?_,J0 KX G ?_,?_,?_,?_,?_,?_,?_,?_,?_,?_,?_⟩
  ·refine' Rs.cX (cn := "Bench") KX ?xa0 ?zz0
   (case xa0=>k_is)
   refine⟨?_,?_,?_,?_,?_,?_,?_,?_,?_,?_,?_⟩
   ·refine' Rs.cF ?fa0 ?fb0 ?fc0 ?fd0 ?fe0
    (case fa0=>k_is);(case fb0=>k_is);(case fc0=>k_is);(case fd0=>k_is)
    dsimp only[Rs.jH]
    repeat' (first | refine c6.mpr ⟨?_,?_⟩ | exact d6 _ | k_is)
   ·refine' Rs.rI KX G ?ix0 ?ia0 ?il0 ?ic0 ?im0 ?ik0
    (case ix0=>k_is);(case ia0=>k_is);(case il0=>k_is);(case ic0=>k_is);(case im0=>k_is);(case ik0=>k_is)
   ·refine' Rs.rM ?a ?l ?c
    (case a=>k_is);(case l=>k_is);(case c=>k_is)
   ·refine' Rs.rM ?a ?l ?c
    (case a=>k_is);(case l=>k_is);(case c=>k_is)
   ·refine' Rs.rM ?a ?l ?c
    (case a=>k_is);(case l=>k_is);(case c=>k_is)
   ·refine' Rs.rD ?a ?l ?c ?t
    (case a=>k_is);(case l=>k_is);(case c=>k_is);(case t=>k_is)
   ·refine' Rs.rM ?a ?l ?c
    (case a=>k_is);(case l=>k_is);(case c=>k_is)
   ·refine' Rs.rM ?a ?l ?c
    (case a=>k_is);(case l=>k_is);(case c=>k_is)
   ·refine' Rs.rM ?a ?l ?c
    (case a=>k_is);(case l=>k_is);(case c=>k_is)
   ·refine' Rs.rD ?a ?l ?c ?t
    (case a=>k_is);(case l=>k_is);(case c=>k_is);(case t=>k_is)
   ·refine' Rs.rM ?a ?l ?c
    (case a=>k_is);(case l=>k_is);(case c=>k_is)
  ·refine' Rs.cX (cn := "Weaver") KX ?xa1 ?zz1
   (case xa1=>k_is)
   refine⟨?_,?_,?_,?_,?_,?_,?_,?_,?_,?_,?_,?_,?_,?_,?_,?_⟩
   ·refine' Rs.cF ?fa1 ?fb1 ?fc1 ?fd1 ?fe1
    (case fa1=>k_is);(case fb1=>k_is);(case fc1=>k_is);(case fd1=>k_is)
    dsimp only[Rs.dX]
    repeat' (first | refine c6.mpr ⟨?_,?_⟩ | exact d6 _ | k_is)
   ·refine' Rs.rI KX G ?ix1 ?ia1 ?il1 ?ic1 ?im1 ?ik1
    (case ix1=>k_is);(case ia1=>k_is);(case il1=>k_is);(case ic1=>k_is);(case im1=>k_is);(case ik1=>k_is)
   ·refine' Rs.rM ?a ?l ?c
    (case a=>k_is);(case l=>k_is);(case c=>k_is)
   ·refine' Rs.rM ?a ?l ?c
    (case a=>k_is);(case l=>k_is);(case c=>k_is)
   ·refine' Rs.rM ?a ?l ?c
    (case a=>k_is);(case l=>k_is);(case c=>k_is)
   ·refine' Rs.rM ?a ?l ?c
    (case a=>k_is);(case l=>k_is);(case c=>k_is)
   ·refine' Rs.rM ?a ?l ?c
    (case a=>k_is);(case l=>k_is);(case c=>k_is)
   ·refine' Rs.rM ?a ?l ?c
    (case a=>k_is);(case l=>k_is);(case c=>k_is)
   ·refine' Rs.rM ?a ?l ?c
    (case a=>k_is);(case l=>k_is);(case c=>k_is)
   ·refine' Rs.rM ?a ?l ?c
    (case a=>k_is);(case l=>k_is);(case c=>k_is)
   ·refine' Rs.rM ?a ?l ?c
    (case a=>k_is);(case l=>k_is);(case c=>k_is)
   ·refine' Rs.rD ?a ?l ?c ?t
    (case a=>k_is);(case l=>k_is);(case c=>k_is);(case t=>k_is)
   ·refine' Rs.rM ?a ?l ?c
    (case a=>k_is);(case l=>k_is);(case c=>k_is)
   ·refine' Rs.rM ?a ?l ?c
    (case a=>k_is);(case l=>k_is);(case c=>k_is)
   ·refine' Rs.rD ?a ?l ?c ?t
    (case a=>k_is);(case l=>k_is);(case c=>k_is);(case t=>k_is)
   ·refine' Rs.rD ?a ?l ?c ?t
    (case a=>k_is);(case l=>k_is);(case c=>k_is);(case t=>k_is)
  iterate 31
   ·refine' Rs.aLh KX G ?a ?l ?c
    (case a=>k_is);(case l=>k_is);(case c=>k_is)
  iterate 13
   ·k_is
  ·refine' L2.oM KX G ?a
   (case a=>k_is)
  ·refine' L2.oM KX G ?a
   (case a=>k_is)
  ·refine' L2.oM KX G ?a
   (case a=>k_is)
  ·refine' L2.oM KX G ?a
   (case a=>k_is)
  ·refine' L2.oM KX G ?a
   (case a=>k_is)
  ·refine' L2.oM KX G ?a
   (case a=>k_is)
  ·refine' L2.oM KX G ?a
   (case a=>k_is)
  ·refine' L2.oM KX G ?a
   (case a=>k_is)
  ·refine' L2.oM KX G ?a
   (case a=>k_is)
  ·refine' L2.oM KX G ?a
   (case a=>k_is)
#print axioms PySem.Challenge.cw_ripestone_k28_leave_holds
