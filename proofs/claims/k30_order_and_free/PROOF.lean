import PyProof.Rows.All
import Wide.All
import OpenK.AllK
import Wide.FinOn
import Lean
import PyProof.EqAt
import PyProof.EqKinds
import PyProof.TupleCall
import PySem.Challenge.RW_ripestone_k30_order_and_free
open Array renaming length_toList→K3,getElem?_toList→L8,getElem?_eq_getElem→N3,getD→O4,getElem_toList→T8,toList_push→i7,toList→p5
open Bool renaming false_ne_true→E2,and_eq_true→J7,eq_iff_iff→M8,false_eq_true→U9,eq_false_iff→W0,or_eq_true→l3,and_false→m7,or_false→o7
open Int renaming toNat_natCast→D7,emod_nonneg→E6,emod_lt_of_pos→E7,le_of_lt→L0,natCast_nonneg→P6,pow_pos→P7,natCast_mul→U1,toNat_of_nonneg→U4,le_refl→Y7,zero_add→f7,ne_of_lt→g9,natCast_emod→j9,natCast_ediv→k7,mul_nonneg→o0
open Int.ofNat renaming inj→p4
open List renaming getElem?_eq_getElem→B6,length_map→B7,getElem?_map→B8,getD_eq_getElem?_getD→B9,size_toArray→C5,length_append→C7,mem_cons_of_mem→C8,mem_cons→C9,getElem?_eq_some_iff→D1,range→D2,map_cons→D3,mem_cons_self→D4,length_range→D8,mem_of_getElem?→D9,mem_singleton→E3,replicate→E4,getElem?_eq_none→E8,length_cons→E9,mem_range→F5,getElem?_set→F8,append_nil→F9,map_append→G0,mem_append_right→G3,mem_map→G4,getElem?_range→G5,getElem?_set_self→G6,mem_append→G7,getElem?_append_left→G9,pairwise_iff_getElem→I0,length_take→J0,zipWith_cons_cons→J1,map_nil→J2,pairwise_cons→J3,length_set→J5,getElem_of_mem→J6,map_map→K5,ext_getElem?→K6,pairwise_append→K9,map_congr_left→L4,nodup_cons→L5,drop_eq_getElem_cons→L6,eq_nil_of_length_eq_zero→L9,all_eq_true→M3,mem_of_mem_take→M5,eraseIdx_cons_succ→M6,filter_eq_self→N0,getElem?_append_right→N1,take_append_drop→N2,mem_filter→N7,mem_append_left→N8,find?_cons→N9,take_sublist→O0,nodup_append→O1,pairwise_map→O3,length_drop→O8,getElem_mem→O9,cons_append→P0,length_pos_iff→P2,getElem?_replicate→P4,zip_cons_cons→P5,append_assoc→P8,length_replicate→P9,zipWith→Q1,zipWith_nil_left→Q2,any_eq_true→Q6,mem_of_mem_drop→Q7,lookup→Q8,filterMap_cons→Q9,filter_sublist→R0,set_set→R4,map_set→R7,pairwise_lt_range→R9,take_of_length_le→S0,any_cons→S5,map_take→S6,map_drop→S7,lookup_cons→S8,take_length→T0,eraseIdx_sublist→T2,eraseIdxIfInBounds_toArray→T3,eraseIdx_eq_take_drop_succ→T4,getElem?_set_ne→T5,getD_cons_succ→U3,getElem?_drop→V0,idxOf_lt_length_of_mem→V2,filter_append→V3,length_eraseIdx_of_lt→V4,take_add_one→W3,getElem_take→W4,getLast?_eq_getElem?→W6,ext_getElem→X0,drop_length→X1,length_erase_of_mem→X2,mem_of_mem_eraseIdx→X3,filter_cons_of_pos→X7,filter_cons_of_neg→X8,of_mem_zip→Y0,nil_append→Y1,length_zip→Y2,idxOf_cons→Y3,filter_nil→Y4,filter_eq_nil_iff→Y9,nodup_nil→Z6,idxOf_cons_self→b6,forall_mem_cons→b7,take_succ_cons→b9,replicate_succ→c6,forall_mem_nil→c7,mem_filterMap→c9,getElem_idxOf→f6,getElem?_take→g6,find?_eq_none→g8,foldl_append→i4,drop_sublist→i6,filter_congr→i9,length→j4,filter_cons→j8,nodup_range→k8,range_succ→l6,drop_zero→n9,all_cons→o8
open List.Pairwise renaming map→j0
open List.Perm renaming refl→Q3,append_left→Z7,swap→m9
open Nat renaming le_refl→C6,lt_of_lt_of_le→E1,ne_of_lt→E5,le_trans→G2,lt_or_ge→J8,lt_irrefl→K7,not_lt_zero→L7,lt_succ_self→M0,lt_succ_of_lt→M7,zero_le→N4,le_succ→N5,le_of_lt→O5,ne_of_gt→O6,zero_add→Q4,mod_lt→T9,div_lt_of_lt_mul→U0,mul_le_mul→U6,lt_of_le_of_lt→U8,eq_zero_or_pos→V1,succ_le_succ→W9,mul_pos→Z0,le_of_eq→d6,min_self→d9,sub_zero→f9,sub_self→g7,lt_trichotomy→i8,div_add_mod→l7,mod_add_div→l8
open Nat.succ renaming inj→p6
open Option renaming bind_some→C4,map_some→G1,getD_some→S9,isSome_map→V9,isSome_iff_exists→W8,map_eq_none_iff→Y8,map→a9,isSome_some→d8,getD_none→j6,map_map→n8,none→p7
open Option.some renaming inj→F4
open Or renaming inr→D5,inl→D6
open Prod renaming ext→j7
open PyProof.Rows renaming boot_list→F7,callWith_type1→K8,boot_sorted→P1,callWith_builtin1→T7,boot_range→X6,boot_all→a7,boot_set→a8
open PyProof.Rows.F renaming plain_set_update_loop→O2,entry_set_update_loop→R3
open PySem renaming boot_len→F0,mem_of_lookup→M9,Within→c8,call→l4
open PySem.F renaming plainAttrs_list→F1,slot_list_append→K1,type_list_append→K2,called_set→M4,slot_list_remove→R5,type_list_remove→R6,slot_dict_get→T1,plain_extend_loop→W5,args_dict_get_2→X4,plain_list_iadd→X5,entry_dict_get→Y6,plain_set_new→Z8,slot_set_iter→Z9
open PySem.W renaming findIn→F3,fnOf→F6,mg_none_of→G8,kitOne→J4,keepIn→J9,kia_one→K0,codeIn→K4,emptyDict→L3,instObj→N6,isFn→O7,plainGet→Q5,nsIn→R1,hasDictIn→R8,makesIn→T6,plainGet_of→U2,lookIn→U5,callWith_K→U7,methodObj→V5,plainOver→V6,specialIn→V7,kitx_list→V8,takerIn→X9,cellsFrom_some→Y5,methodCall_KW→Z5,mg_of→b8,kitx_tuple→d7,kitx_dict→h9,handedIn→j5,hideAll→k9,takesIn→l0,OpenLaw→l5,typeIn→l9,kitCls→m8,mroIn→o6,WalkO→o9
open Sum renaming inl→F2,inr→W7
theorem U.{u}{α:Sort u}{a:α}:a=a:=rfl
open Bool renaming true→NG,false→NH
open Option renaming some→ND
open PyProof.Rows renaming envOfC→BS,AllBare→DF,firstMet→EA,IntsAre→ED,firstMet_length_le→EO,firstMet_succ→ET,subscriptTail_builtinR→Fm,subscriptTail→GY,seqObj→HP,Subscript_→IS,firstMet_zero→KW,firstMet_any→LL
open PySem renaming Value→A6,Addr→A7,Shared→A8,wpAny_bind→A9,Expr→AB,starEach→AD,wpAny_pure→AE,wpAny→AF,model→AG,Stmt→AH,Program→AI,World→AL,Heap→AM,Around→AN,eval→AO,compareOp→AS,bootBuiltins→AU,mainGlobals→AV,wpAny_mono→AW,backTo→AY,cLine→As,wpAny_truthy_bool→B3,foldedSetIterable→B4,wpAny_Call_Name_kw→BC,Scope→BF,FuncData→BG,wpAny_call_entry→BM,sysModules→BN,wpAny_passesOwn→BO,wpAny_holding→BQ,wpAny_newObj_type→BT,wpAny_setState_of→BU,keywordEach→Bz,scanBound→CA,wpAny_askSetting→CB,wpAny_setEntries_of→CD,wpAny_callSpecial?_slot→CH,codeAny→CI,attributeBase→CL,tupleKind_room_in1→CS,codeAny_builtin→CU,wpAny_ite_split→CY,holding→Ch,codeAny_mono→Cn,wpAny_setField→Co,swapsWith→DA,pyNext→DD,sliceBounds→DH,wpAny_of_eq→DI,Builtin→DJ,binaryOp→DL,getMethod→DM,backToKw→DO,wpAny_pyIter_list→DU,plainId_quiet→Da,bindArgs→Dx,standAt→EB,PassesOwn→EC,wpAny_execs_nil→EE,assignEach→EF,letOwnedTupleGo→EG,rawInt→EH,relayAll→EI,wpAny_fieldsOf→EJ,CmpOp→EK,tupleKind→EL,assign→EM,wpAny_attempt→EU,fits_of_scanBound→EX,call_meets→Ee,Keyword→FB,valueAt→FC,callerA→FD,setNext→FF,Result→FG,callWith→FH,NameKind→FI,wpAny_comprehension_free→FM,wpAny_isInstance→FU,atKey→FY,sizeLine_eq→Fa,seqIndex_of→Fh,subscripted→Fk,wpAny_isTrue_Compare1→Fs,BindsTo→Fu,getItem→GA,relabel→GG,builtinLookup_eq_fast→GH,isSubtype_type→GI,bindL→GL,bindC→GN,setsByText→GU,wpAny_standAt→GW,ExceptHandler→Go,isTrue→HE,pyIter→HG,seqIndex_neg→HM,pickOrder→HZ,wpAny_assign_Name→IA,wpAny_storeSet_of→IB,wpAny_pyIter_slot→IC,wpAny_setEpoch_of→ID,GenState→IF,wpAny_execs_cons→IG,wpAny_Dict_empty→IH,builtinsNs→II,Drawn→IJ,Model→IL,wpAny_Name→IM,wpAny_load→IP,wpAny_call→IQ,wpAny_specialOf→IT,intKind_is→IY,wpAny_rule→IZ,codeAny_of_tree→Ic,typeLookup_type→Iq,wpAny_updateSeq→Iy,wpAny_Compare1→JA,recursionLimit→JE,fitsIndex_both→JI,ElemsOf→JJ,wpAny_runValue→JU,entryFor_alias→JY,firstArgMember→Jn,isSubtype_stop→KA,wpAny_seqItems→KB,cellsFrom→KE,seqIndex?→KF,drawOrder→KG,rangeSize_one→KL,intBits_le_64→KM,evalPart_none→KO,call_list_seq→KP,signature?_of→Ki,call_range_2→Kn,call_meetsIn→Kt,Params→Kx,compEnvC→LA,setAddHashed→LD,entryFor→LF,argsOk→LG,wpAny_typeOf→LJ
open PySem.Around renaming under_plainId→Bi,under→HI
open PySem.AutoSeq1 renaming list_insert_list_int_val_1→He
open PySem.Builtin.Frozenset renaming updateFrom→JO,newClass→KU,addrOf→LH,sizeOf→LI,slot0→LO
open PySem.Builtin.Int renaming intBits→CF
open PySem.Builtin.List renaming listExtendWith→DB,listLengthHint→ER,listSameRef→FV
open PySem.Builtin.Range renaming rangeSize→LM
open PySem.Calls renaming spliced_cons→CO,spliced_nil→Cb,Name_function_global→ES,callWith_builtin→Fn,evalArgs_plain→GO
open PySem.Code renaming isFrame→HL,frames→LV
open PySem.DictEntry renaming refKey→MV
open PySem.Heap renaming get?_push_of_some→AA,lt_size→AJ,get?_push_size→AK,size_push→AX,get?_update_self→BB,get?_update_other→BE,SameBut→BH
open PySem.Heap.DictOf renaming new→Mb
open PySem.Heap.IsSliceOf renaming new→MI
open PySem.Heap.Ns1 renaming of_empty→MQ
open PySem.Heap.SameBut renaming update→B5,refl→MU
open PySem.IsRange renaming new→LU
open PySem.Manifest renaming sig_set_iterator→Kk,owners→Md
open PySem.MeetsSeq renaming list_pop_at→Ll,list_remove→Lo,EqGives→MY
open PySem.MeetsSeq.EqGives renaming int→Lm
open PySem.NameKind renaming free→Au,cell→Mo
open PySem.Obj renaming data_mapFields→BD,isFreed_of_fields→Ct,mapSeq→DT,cls_mapFields→EZ,putSet→IX,mapFields→Kj
open PySem.Paired renaming length→GV,snoc→LW
open PySem.PassesOwn renaming never→AZ
open PySem.SeqAt renaming EqAt→LX
open PySem.SeqAt.EqAt renaming int_str→HA,str_int→HC,none_bool→LY,bool_none→LZ,bool_bool→Lc,none_int→Lu,none_str→Lv,bool_int→MA,bool_str→MB,int_none→MC,int_bool→MD,str_none→ME,str_bool→MG,int_int→ML,str_str→MM,same→MZ
open PySem.SetTable renaming below→AR,grown→BI,has→HU,slot→KS,toList_insertAt→LB,fits_plain_off→LN,orStandIn→MO,freeSlot→MR,insertAt→MS,standIn→MW,advance→MX,relaid→Mc,fresh→Me,Probe→Mn,laid→NA,fits→NC
open PySem.SetTable.below renaming go→Cf
open PySem.SetTable.probe renaming go→EW
open PySem.Shared renaming TypeIs→Kb
open PySem.Str renaming ofString→FR,empty→MH
open PySem.Value renaming ref→AQ,none→BA,type→BY,int→CM,bool→DC,isInt_shape→EV,str→FX,float→IE,isStrOf→KI,isInt→LP,bytes→LS
open PySem.Walks renaming list→IU
open PySem.pickOrder renaming go→HV
--HEAD
abbrev aF:=PySem.W.Frag
theorem aY{α:Type u_1}{b:α}{β:Type u_2}{x:Option β}{f:β→Option α}(h:x.bind f=ND b):∃a,x=ND a∧f a=ND b:=Option.bind_eq_some_iff.mp h
theorem lN{α:Type u_1}{b:α}{β:Type u_2}{x:Option β}{f:β→α}(h:x.map f=ND b):∃a,x=ND a∧f a=b:=Option.map_eq_some_iff.mp h

set_option Elab.async false
set_option linter.all false
set_option maxRecDepth 100000
namespace L2
open PySem PySem.Spec PyProof.Rows
abbrev Key:=Sum Int Str
def Uc:Key→A6→Bool
 | .inl k,v=>LP k v
 | .inr x,v=>KI x v
def aIQ(w:AL):Key→Int
 | .inl k=>hashInt k
 | .inr x=>hashStr w x
theorem iH:∀{k:Key} {v:A6},Uc k v=NG→(∃i t,k=F2 i∧v=CM i t)∨(∃x t,k=W7 x∧v=FX x t)
 | .inl i,v,h=>by obtain⟨t,e⟩:=EV (k:=i) (v:=v) h;exact .inl ⟨i,t,U,e⟩
 | .inr x,v,h=>by obtain⟨t,e⟩:=Value.isStrOf_shape (x:=x) (v:=v) h;exact .inr ⟨x,t,U,e⟩
theorem jx(i:Int)(t:Tok):Uc (.inl i) (.int i t)=NG:=by simp[Uc,LP]
theorem jy(x:Str)(t:Tok):Uc (.inr x) (.str x t)=NG:=by simp[Uc,KI]
theorem aET(a b:Int):decide ((F2 a:Key)=F2 b)=(a==b):=by
 by_cases e:a=b
 ·subst e;simp
 ·have h:¬(F2 a:Key)=F2 b:=λq=>e (Sum.inl.inj q);rw[decide_eq_false h];exact(beq_eq_false_iff_ne.mpr e).symm
theorem aEU(a b:Str):decide ((W7 a:Key)=W7 b)=decide (a=b):=by
 by_cases e:a=b
 ·subst e;simp
 ·have h:¬(W7 a:Key)=W7 b:=λq=>e (Sum.inr.inj q);rw[decide_eq_false h,decide_eq_false e]
theorem aEV(a:Int)(b:Str):decide ((F2 a:Key)=W7 b)=NH:=decide_eq_false (λq=>nomatch q)
theorem aEW(a:Str)(b:Int):decide ((W7 a:Key)=F2 b)=NH:=decide_eq_false (λq=>nomatch q)
def iW(prog:AI)(w:AL):PySem.KeyKind prog w Key where
  is:=Uc
  hash:=aIQ w
  inj:=λv a b ha hb=>by
    rcases iH ha with ⟨i,t,rfl,rfl⟩ | ⟨x,t,rfl,rfl⟩
    · rcases iH hb with ⟨j,u,rfl,e⟩ | ⟨y,u,rfl,e⟩
      · injection e with e1 _;rw[e1]
      · exact nomatch e
    · rcases iH hb with ⟨j,u,rfl,e⟩ | ⟨y,u,rfl,e⟩
      · exact nomatch e
      · injection e with e1 _;rw[e1]
  byValue:=λk v h=>by rcases iH h with ⟨i,t,rfl,rfl⟩ | ⟨x,t,rfl,rfl⟩<;>rfl
  pyHash:=λhv h=>by
    rcases iH hv with ⟨i,t,rfl,rfl⟩ | ⟨x,t,rfl,rfl⟩
    · exact wpAny_pyHash_int h
    · exact wpAny_pyHash_str h
  eqBool:=λhu hv h=>by
    rcases iH hu with ⟨i,t,rfl,rfl⟩ | ⟨x,t,rfl,rfl⟩
    · rcases iH hv with ⟨j,u,rfl,rfl⟩ | ⟨y,u,rfl,rfl⟩
      · rw[aET]at h;exact wpAny_eqBool_int h
      · rw[aEV]at h;exact HA i t y u _ _ _ _ h
    · rcases iH hv with ⟨j,u,rfl,rfl⟩ | ⟨y,u,rfl,rfl⟩
      · rw[aEW]at h;exact HC x t j u _ _ _ _ h
      · rw[aEU]at h;exact wpAny_eqBool_str h
  «strs»:=λk x t v h=>by
    rcases iH h with ⟨i,u,rfl,e⟩ | ⟨y,u,rfl,e⟩
    · exact nomatch e
    · injection e with e1 _
      subst e1;cases v<;>rfl
theorem DP(prog:AI)(w:AL)(i:Int)(t:Tok):(iW prog w).is (.inl i) (.int i t)=NG:=jx i t
theorem DQ(prog:AI)(w:AL)(x:Str)(t:Tok):(iW prog w).is (.inr x) (.str x t)=NG:=jy x t
end L2
namespace L2
open PySem PySem.Spec PyProof.Rows
inductive V where
  | non | bl (b:Bool) | int (i:Int) | str (x:Str) | byt (b:Array UInt8) | flt (b:UInt64) | ref (a:A7) | ty (n:String)
  deriving DecidableEq
def RelV:V→A6→Prop
 | .non,u=>u=BA
 | .bl b,u=>u=DC b
 | .int i,u=>∃t,u=CM i t
 | .str x,u=>∃t,u=FX x t
 | .byt b,u=>∃t,u=LS b t
 | .flt b,u=>∃t,u=IE b t
 | .ref a,u=>u=AQ a
 | .ty n,u=>u=BY n
abbrev Vals:List V→List A6→Prop:=Paired RelV
theorem Vals.length{xs:List V}{us:List A6}(r:Vals xs us):xs.length=us.length:=GV r
theorem Vals.get:∀{xs:List V} {us:List A6} {i:Nat} {x:V},Vals xs us→xs[i]?=ND x→∃u,us[i]?=ND u∧RelV x u
 | _,_,_,_,.nil,e=>by simp at e
 | _,_,0,_,.cons r _,e=>by simp at e;subst e;exact⟨_,rfl,r⟩
 | _,_,i+1,x,.cons _ t,e=>by obtain⟨u,h1,h2⟩:=Vals.get (i:=i) (x:=x) t (by simpa using e);exact⟨u,by simpa using h1,h2⟩
theorem Vals.set{x:V}{u:A6}(r:RelV x u):∀{xs:List V} {us:List A6} (i:Nat),Vals xs us→Vals (xs.set i x) (us.set i u)
 | _,_,_,.nil=>.nil
 | _,_,0,.cons _ t=>.cons r t
 | _,_,i+1,.cons q t=>.cons q (Vals.set r i t)
theorem Vals.append:∀{xs ys:List V} {us ws:List A6},Vals xs us→Vals ys ws→Vals (xs++ys) (us++ws)
 | _,_,_,_,.nil,s=>s
 | _,_,_,_,.cons r t,s=>.cons r (Vals.append t s)
theorem Vals.take:∀{xs:List V} {us:List A6} (n:Nat),Vals xs us→Vals (xs.take n) (us.take n)
 | _,_,0,_=>.nil
 | _,_,_+1,.nil=>.nil
 | _,_,n+1,.cons r t=>.cons r (Vals.take n t)
theorem Vals.drop:∀{xs:List V} {us:List A6} (n:Nat),Vals xs us→Vals (xs.drop n) (us.drop n)
 | _,_,0,r=>r
 | _,_,_+1,.nil=>.nil
 | _,_,n+1,.cons _ t=>Vals.drop n t
def yZ:Option V→Option A6→Prop
 | some v,ND u=>RelV v u
 | none,none=>True
 | _,_=>False
def KV{κ:Type}:List (κ×V)→List (κ×A6)→Prop:=Paired λ(p:κ×V) (q:κ×A6)=>p.1=q.1∧RelV p.2 q.2
def kV:Key→V
 | .inl i=>.int i
 | .inr x=>.str x
inductive HO where
  | lst (xs:List V)
  | tup (xs:List V)
  | dK (kvs:List (Key×V)) | dT (kvs:List (List Key×V))
  | set (S:Int→Bool) (n:Nat)
  | ins (C dx:A7) (fs:List (Str×V))
  | own (x:A7)
  | xd (fs:List (Str×V))
  | met (f x:A7)
  | rng (lo hi:Int)
  | zA (o:Obj) (u:HO)
  | tbl (ps:Array A6)
  | ext (φ:AM→Prop)
abbrev Hp:=A7→Option HO
def upd(H:Hp)(a:A7)(o:HO):Hp:=λb=>if b=a then ND o else H b
theorem cJ{H:Hp}{a:A7}{o:HO}:upd H a o a=ND o:=by unfold upd;rw[if_pos rfl]
theorem bQ{H:Hp}{a b:A7}{o:HO}(h:b≠a):upd H a o b=H b:=by unfold upd;rw[if_neg h]
theorem aG6{H:Hp}{a b:A7}{o u:HO}(h:H a=ND o)(h':H b=ND u)(d:o≠u):a≠b:=by intro e;subst e;rw[h]at h';exact d (F4 h')
theorem iQ{H:Hp}{a b:A7}{o:HO}(h:H a=ND o)(h':H b=none):a≠b:=by intro e;subst e;rw[h]at h';cases h'
section
variable(P:AI)(w:AL)
def jG(H:Hp)(h:AM)(a:A7):HO→Prop
 | .lst xs=>xs.length≤sizeLine∧∃(its:List A6)(n:Nat),Vals xs its∧h.get? a=ND {cls:=.type "list", data:=.seq its.toArray n}
 | .tup xs=>xs.length≤sizeLine∧∃its:List A6,Vals xs its∧IsTup h a its.toArray
 | .dK kvs=>kvs.length≤sizeLine∧(a==BN)=NH∧∃vs,KV kvs vs∧h.DictOf (iW P w) a vs
 | .dT kvs=>kvs.length≤sizeLine∧(a==BN)=NH∧∃xs:List (List Key×A7×A6),
   Paired (λ(p:List Key×V) (q:List Key×A7×A6)=>p.1=q.1∧H q.2.1=ND (.tup (p.1.map kV))∧RelV p.2 q.2.2) kvs xs ∧
   ∃o es ep,h.get? a=ND o∧o.ExactDict∧o.data=.dict es ep∧es.toList=xs.map (entryOfKey (EL (iW P w)))∧(xs.map (·.1)).Nodup
 | .set S n=>h.SetOf (intKind P w) a S n
 | .ins C dx fs=>H dx=ND (.own a)∧fs.length≤1000∧dx≠a∧h.get? a=ND (N6 C dx) ∧
   ∃mA,h.Ns1 dx mA∧(∀f,yZ (fs.lookup f) (mA f))∧c8 mA (fs.map (·.1))
 | .own _=>∃o,h.get? a=ND o
 | .xd fs=>∃mA,h.Ns1 a mA∧∀f,yZ (fs.lookup f) (mA f)
 | .rng lo hi=>∃t u v,h.get? a=ND {cls:=.type "range", data:=.fields #[.int lo t,.int hi u,.int 1 v]}
 | .zA o u=>h.get? a=ND o∧jG H h a u
 | .tbl ps=>h.get? a=ND {cls:=.none,data:=.fields ps}
 | .met f x=>h.get? a=ND (V5 (.ref f) (.ref x))
 | .ext φ=>φ h∧(∃o,h.get? a=ND o)∧∀h1 h2:AM,φ h1→(∀o,h1.get? a=ND o→h2.get? a=ND o)→φ h2
def Df(H:Hp)(h:AM):Prop:=∀a o,H a=ND o→jG P w H h a o
end
section
variable{P:AI}{w:AL}{H H':Hp}{h h':AM}{a:A7}{o:HO}
theorem jG.lt(x:jG P w H h a o):a<h.objs.size:=by
 cases o with
 | lst xs=>obtain⟨_,_,_,_,e⟩:=x;exact AJ e
 | tup xs=>obtain⟨_,_,_,p⟩:=x;exact p.lt
 | dK kvs=>obtain⟨_,_,_,_,o,_,_,e,_⟩:=x;exact AJ e
 | dT kvs=>obtain⟨_,_,_,_,o,_,_,e,_⟩:=x;exact AJ e
 | set S n=>obtain⟨o,_,_,_,e,_⟩:=x;exact AJ e
 | ins C dx fs=>obtain⟨_,_,_,e,_⟩:=x;exact AJ e
 | own y=>obtain⟨_,e⟩:=x;exact AJ e
 | xd fs=>obtain⟨_,⟨_,_,_,e,_⟩,_⟩:=x;exact AJ e
 | rng lo hi=>obtain⟨_,_,_,e⟩:=x;exact AJ e
 | zA ob u=>obtain⟨e,_⟩:=x;exact AJ e
 | tbl ps=>exact AJ (show h.get? a=ND _ from x)
 | met f y=>exact AJ (show h.get? a=ND _ from x)
 | ext φ=>obtain⟨_,⟨_,e⟩,_⟩:=x;exact AJ e
theorem Paired.aEX{α β:Type}{F G:α→β→Prop}:∀{l₁:List α} {l₂:List β},Paired F l₁ l₂→(∀a b,F a b→G a b)→Paired G l₁ l₂
 | _,_,.nil,_=>.nil
 | _,_,.cons r t,f=>.cons (f _ _ r) (Paired.aEX t f)
theorem jG.stay(x:jG P w H h a o)(k:∀b u,(b=a∨H b=ND (.own a))→h.get? b=ND u→h'.get? b=ND u)
  (ho:∀b,H b=ND (.own a)→H' b=ND (.own a)) (ht:∀b xs,H b=ND (.tup xs)→H' b=ND (.tup xs)):jG P w H' h' a o:=by
 induction o with
 | lst xs=>obtain⟨z,its,n,r,e⟩:=x;exact⟨z,its,n,r,k _ _ (.inl U) e⟩
 | tup xs=>obtain⟨z,its,r,ob,e,c⟩:=x;exact⟨z,its,r,ob,k _ _ (.inl U) e,c⟩
 | dK kvs=>obtain⟨z,y,vs,r,ob,es,ep,e,c⟩:=x;exact⟨z,y,vs,r,ob,es,ep,k _ _ (.inl U) e,c⟩
 | dT kvs=>obtain⟨z,y,xs,r,ob,es,ep,e,c⟩:=x;exact⟨z,y,xs,Paired.aEX r λp q z=>⟨z.1,ht _ _ z.2.1,z.2.2⟩,ob,es,ep,k _ _ (.inl U) e,c⟩
 | set S n=>obtain⟨ob,es,ep,t,e,c⟩:=x;exact⟨ob,es,ep,t,k _ _ (.inl U) e,c⟩
 | ins C dx fs=>obtain⟨d,z,ne,e,mA,⟨od,es,ep,e2,c⟩,r⟩:=x;exact⟨ho _ d,z,ne,k _ _ (.inl U) e,mA,⟨od,es,ep,k _ _ (.inr d) e2,c⟩,r⟩
 | own y=>obtain⟨ob,e⟩:=x;exact⟨ob,k _ _ (.inl U) e⟩
 | xd fs=>obtain⟨mA,⟨od,es,ep,e,c⟩,r⟩:=x;exact⟨mA,⟨od,es,ep,k _ _ (.inl U) e,c⟩,r⟩
 | rng lo hi=>obtain⟨t,u,v,e⟩:=x;exact⟨t,u,v,k _ _ (.inl U) e⟩
 | zA ob u ih=>obtain⟨e,q⟩:=x;exact⟨k _ _ (.inl U) e,ih q⟩
 | tbl ps=>have e:h.get? a=ND {cls:=.none,data:=.fields ps}:=x;show h'.get? a=ND {cls:=.none,data:=.fields ps};exact k a _ (.inl U) e
 | met f y=>have e:h.get? a=ND (V5 (.ref f) (.ref y)):=x;show h'.get? a=ND (V5 (.ref f) (.ref y));exact k a _ (.inl U) e
 | ext φ=>obtain⟨p,⟨o,e⟩,st⟩:=x;exact⟨st _ _ p λo q=>k _ _ (.inl U) q,⟨o,k _ _ (.inl U) e⟩,st⟩
theorem Df.lt(x:Df P w H h)(e:H a=ND o):a<h.objs.size:=(x a o e).lt
theorem Df.fresh(x:Df P w H h)(e:h.objs.size≤a):H a=none:=by
 cases q:H a with
 | none=>rfl
 | some u=>exact absurd (E1 (x.lt q) e) (K7 _)
theorem Df.kept(x:Df P w H h)(k:∀b u,h.get? b=ND u→h'.get? b=ND u):Df P w H h':=λa o e=>
 (x a o e).stay (λb u _ q=>k b u q) (λ_ q=>q) λ_ _ q=>q
theorem Df.laid(x:Df P w H h)(k:∀b u,h.get? b=ND u→h'.get? b=ND u)(hp:h.objs.size≤a)(new:jG P w (upd H a o) h' a o):Df P w (upd H a o) h':=λb u e=>by
 have hn:=x.fresh hp;by_cases hb:b=a
 ·subst hb;rw[cJ]at e;cases e;exact new
 ·rw[bQ hb]at e;exact(x b u e).stay (λc v _ q=>k c v q) (λc q=>by rw[bQ (iQ q hn)];exact q) λc xs q=>by rw[bQ (iQ q hn)];exact q
end
def Rd(H:Hp)(a:A7)(u:HO):Prop:=H a=ND u∨∃o,H a=ND (.zA o u)
theorem Rd.ok{P:AI}{w:AL}{H:Hp}{h:AM}{a:A7}{u:HO}(r:Rd H a u)(x:Df P w H h):jG P w H h a u:=by
 rcases r with r | ⟨o,r⟩
 ·exact x a u r
 ·obtain⟨_,q⟩:=x a _ r;exact q
def Mut:Option HO→Prop
 | some (.lst _)=>True
 | some (.dK _)=>True
 | some (.dT _)=>True
 | some (.set _ _)=>True
 | some (.ins _ _ _)=>True
 | some (.ext _)=>True
 | _=>False
section
variable{P:AI}{w:AL}{H:Hp}{h h':AM}{x e:A7}{o':HO}
theorem Df.write(ok:Df P w H h)(mu:Mut (H x))(he:e=x∨H e=ND (.own x))(k:∀b u,b≠e→h.get? b=ND u→h'.get? b=ND u)(heo:∃u,h'.get? e=ND u)
  (new:jG P w (upd H x o') h' x o'):Df P w (upd H x o') h':=λb u q=>by
 have aG8:∀c y,H c=ND (.own y)→c≠x:=λc y r z=>by subst z;rw[r]at mu;exact mu
 have aIR:∀c xs,H c=ND (.tup xs)→c≠x:=λc xs r z=>by subst z;rw[r]at mu;exact mu
 by_cases hb:b=x
 ·subst hb;rw[cJ]at q;cases q;exact new
 ·rw[bQ hb]at q;by_cases hbe:b=e
  ·have q':H b=ND (.own x):=by
    rcases he with z | z
    ·exact absurd (hbe.trans z) hb
    ·rw[hbe];exact z
   rw[q]at q';cases q';obtain⟨v,hv⟩:=heo;exact⟨v,by rw[hbe];exact hv⟩
  ·refine(ok b u q).stay (λc v hc r=>k c v ?_ r) (λc r=>by rw[bQ (aG8 c b r)];exact r) λc xs r=>by rw[bQ (aIR c xs r)];exact r
   rcases hc with rfl | hc
   ·exact hbe
   ·rintro rfl;rcases he with z | z
    ·exact aG8 c b hc z
    ·rw[hc]at z;cases z;exact hb U
end
structure Un(fs ex:List A7)(H H':Hp)(h h':AM):Prop where
 keep:∀b o,h.get? b=ND o→H b=none→b∉fs→b∉ex→h'.get? b=ND o
 slot:∀b o,h.get? b=ND o→H b=none→b∈fs→b∉ex→∃sl,h'.get? b=ND {o with slots:=sl}
 free:∀b o,h.get? b=ND o→H b=none→b∉ex→H' b=none
 there:∀b o,h.get? b=ND o→b∉ex→∃o',h'.get? b=ND o'
 tups:∀b xs,H b=ND (.tup xs)→H' b=ND (.tup xs)
 Wx:∀b o u,H b=ND (.zA o u)→H' b=ND (.zA o u)
 DR:∀b ps,H b=ND (.tbl ps)→∃more,H' b=ND (.tbl (ps++more))
section
variable{fs fs' ex ex':List A7}{H H1 H2:Hp}{h h1 h2 h':AM}{a x e:A7}{o:HO}
theorem Un.any(u:Un fs ex H H1 h h1){b:A7}{ob:Obj}(q:h.get? b=ND ob)(n:H b=none)(hx:b∉ex):∃sl,h1.get? b=ND {ob with slots:=sl}:=by
 by_cases hb:b∈fs
 ·exact u.slot b ob q n hb hx
 ·exact⟨ob.slots,u.keep b ob q n hb hx⟩
theorem Un.kept(k:∀b u,h.get? b=ND u→h'.get? b=ND u):Un fs ex H H h h':=
 ⟨λb ob q _ _ _=>k b ob q,λb ob q _ _ _=>⟨ob.slots,k b ob q⟩,λ_ _ _ n _=>n,λb ob q _=>⟨ob,k b ob q⟩,λ_ _ q=>q,λ_ _ _ q=>q,λ_ ps q=>⟨#[],by rw[q];simp⟩⟩
theorem Un.refl:Un fs ex H H h h:=Un.kept λ_ _ q=>q
theorem Un.laid(k:∀b u,h.get? b=ND u→h'.get? b=ND u)(hp:h.objs.size≤a)(hn:H a=none):Un fs ex H (upd H a o) h h' where
 keep:=λb u q _ _ _=>k b u q
 slot:=λb u q _ _ _=>⟨u.slots,k b u q⟩
 free:=λb u q n _=>by rw[bQ (E5 (E1 (AJ q) hp))];exact n
 there:=λb u q _=>⟨u,k b u q⟩
 tups:=λb xs q=>by rw[bQ (iQ q hn)];exact q
 Wx:=λb u xs q=>by rw[bQ (iQ q hn)];exact q
 DR:=λb ps q=>⟨#[],by rw[bQ (iQ q hn),q];simp⟩
theorem Un.write(mu:Mut (H x))(he:e=x∨H e=ND (.own x))(k:∀b u,b≠e→h.get? b=ND u→h'.get? b=ND u)(heo:∃u,h'.get? e=ND u):Un fs ex H (upd H x o) h h':=by
 have hx:∀b,H b=none→b≠x:=λb n z=>by subst z;rw[n]at mu;exact mu
 have hb:∀b,H b=none→b≠e:=λb n z=>by
  subst z;rcases he with r | r
  ·exact hx b n r
  ·rw[n]at r;cases r
 have hm:∀b u,H b=ND u→¬Mut (ND u)→b≠x:=λb u q nm z=>by subst z;rw[q]at mu;exact nm mu
 refine⟨λb u q n _ _=>k b u (hb b n) q,λb u q n _ _=>⟨u.slots,k b u (hb b n) q⟩,λb u q n _=>by rw[bQ (hx b n)];exact n,λb u q _=>?_,
  λb xs q=>by rw[bQ (hm b _ q λz=>z)];exact q,λb u xs q=>by rw[bQ (hm b _ q λz=>z)];exact q,λb ps q=>⟨#[],by rw[bQ (hm b _ q λz=>z),q];simp⟩⟩
 by_cases hbe:b=e
 ·subst hbe;exact heo
 ·exact⟨u,k b u hbe q⟩
end
def trk(h:AM)(H:Hp):List A7:=(D2 h.objs.size).filter λa=>(H a).isSome
def Wy(h:AM)(H:Hp):AM:=k9 h (trk h H)
theorem jz(h:AM)(H:Hp):(Wy h H).objs.size=h.objs.size:=PySem.W.hideAll_size _ _
theorem yd{h:AM}{H:Hp}{b:A7}{o:Obj}(e:h.get? b=ND o)(n:H b=none):(Wy h H).get? b=ND o:=
 PySem.W.hideAll_get _ e λhm=>by have q:(H b).isSome=NG:=(N7.mp hm).2;rw[n]at q;simp at q
theorem aCp{h:AM}{H:Hp}{b:A7}{o:Obj}(e:(Wy h H).get? b=ND o):h.get? b=ND o∧H b=none:=by
 have e':h.get? b=ND o:=PySem.W.of_hideAll (trk h H) e;refine⟨e',?_⟩;cases q:H b with
 | none=>rfl
 | some x=>have hm:b∈trk h H:=N7.mpr ⟨F5.mpr (AJ e'),by simp[q]⟩;have z:(Wy h H).get? b=none:=PySem.W.hideAll_none (trk h H) hm;rw[z]at e;cases e
def aCq(g h:AM)(L:A7):List (A7×Obj):=(D2 h.objs.size).filterMap λa=>if a=L∨(g.get? a).isSome=NG then none else(h.get? a).map λo=>(a,o)
def rest(g h:AM)(L d:A7):List (A7×Obj):=(aCq g h L).filter λp=>decide (p.1≠d)
end L2
namespace L2
open PySem PySem.Spec PyProof.Rows
structure Mod(K:aF)(mg:Str→Option A6)(base:AM):Prop where
 kin:K.In base
 glob:base.Ns AV mg
 blt:∃mb,base.Ns II mb∧∀x:Str,x ≠ "__name__" → mb x=AU x
 nolimit:base.NoLimit
structure Cx where
 prog:AI
 w:AL
 K:aF
 mg:Str→Option A6
 base:AM
 A:AN
 N:List Str
 s₀:A8
 H₀:Hp
 env:Env
 outer:List Env
 stack:List Env
 ex:List A7
 fn:Str→Bool
 calm:Bool
 pn:List (A7×Obj)
 xe:A6→A8→Prop
def frs(l:List Env):List A7:=l.filterMap (·.frame)
abbrev Cx.fs(X:Cx):List A7:=frs X.outer
def Vis(sc:BF)(x:Str):Prop:=sc.names.lookup x=ND .local∨sc.names.lookup x=ND .cell∨sc.names.lookup x=ND .free
def Loc(sc:BF)(x:Str):Prop:=sc.names.lookup x=ND .local∨sc.names.lookup x=ND .cell
def Look(env:Env)(h:AM)(m:Str→Option A6)(x:Str)(u:A6):Prop:=
 (env.kindOf x=ND .local∧m x=ND u)∨((env.kindOf x=ND .cell∨env.kindOf x=ND .free)∧∃c,env.cells.lookup x=ND c∧h.IsCell c (ND u))
structure Cx.Ok(X:Cx):Prop where
 mod:Mod X.K X.mg X.base
 kind:X.env.scope.kind=.function
 glob:X.env.globals=AV
 blt:X.env.builtins=II
 above:X.s₀.heap.objs.size≤X.env.locals
 inj:∀x y c,X.env.cells.lookup x=ND c→X.env.cells.lookup y=ND c→x=y
 has:∀x,(X.env.kindOf x=ND .cell∨X.env.kindOf x=ND .free)→∃c,X.env.cells.lookup x=ND c
 cab:∀x c,X.fn x=NG→X.env.cells.lookup x=ND c→X.s₀.heap.objs.size≤c
 hd:X.calm=NG→X.A.handled=none
 frames:X.A.frames=ND X.stack
 stk:X.stack=X.outer∨(X.stack=X.env::X.outer∧X.env.frame=ND X.env.locals)
 exf:∀b∈X.ex,b≠X.env.locals∧∀x c,X.env.cells.lookup x=ND c→c≠b
 bs:∀b o,X.base.get? b=ND o→X.s₀.heap.get? b=ND o∧X.H₀ b=none
 bsz:X.base.objs.size≤X.s₀.heap.objs.size
 yf:∀b o,X.base.get? b=ND o→b∉X.ex
 aCt:∀b∈X.ex,b∉X.fs
 Lr:X.s₀.heap.FunFrames X.base X.outer
 frf:∀b∈X.fs,X.H₀ b=none
structure Inv(X:Cx)(pins:List (A7×Obj))(σ:List (Option V))(H:Hp)(s:A8):Prop where
 ok:X.Ok
 os:s.os=X.s₀.os
 bare:DF s.gens
 base:Un X.fs X.ex X.H₀ H X.s₀.heap s.heap
 loc:∃m,s.heap.Ns X.env.locals m∧∀(i:Nat)(x:Str)(v:V),X.N[i]?=ND x→σ[i]?=ND (ND v)→Vis X.env.scope x→∃u,RelV v u∧Look X.env s.heap m x u
 cell:∀x c,X.env.cells.lookup x=ND c→∃v,s.heap.IsCell c v
 free:H X.env.locals=none
 yM:∀x c,X.env.cells.lookup x=ND c→H c=none
 pin:∀p∈X.pn++pins,s.heap.get? p.1=ND p.2∧H p.1=none∧p.1≠X.env.locals∧p.1∉X.fs∧∀v,p.2.data≠.cell v
 hok:Df X.prog X.w H s.heap
 len:σ.length=X.N.length
section
variable{X:Cx}{pins:List (A7×Obj)}{σ:List (Option V)}{H H':Hp}{s:A8}{h':AM}
theorem Cx.Ok.aIS(ok:X.Ok){b:A7}{o:Obj}(e:X.base.get? b=ND o):b∉X.fs:=λhb=>by have:=(ok.Lr.mem hb).1;rw[e]at this;cases this
theorem Inv.bs(I:Inv X pins σ H s):∀b o,X.base.get? b=ND o→s.heap.get? b=ND o∧H b=none:=λb o e=>
 ⟨I.base.keep b o (I.ok.bs b o e).1 (I.ok.bs b o e).2 (I.ok.aIS e) (I.ok.yf b o e),I.base.free b o (I.ok.bs b o e).1 (I.ok.bs b o e).2 (I.ok.yf b o e)⟩
theorem Inv.bk(I:Inv X pins σ H s):∀b o,X.base.get? b=ND o→s.heap.get? b=ND o:=λb o e=>(I.bs b o e).1
theorem Inv.mod(I:Inv X pins σ H s):Mod X.K X.mg X.base:=I.ok.mod
theorem Inv.Im(I:Inv X pins σ H s):X.K.In s.heap:=I.ok.mod.kin.keeps I.bk
theorem Inv.lt(I:Inv X pins σ H s):X.env.locals<s.heap.objs.size:=let ⟨_,hn,_⟩:=I.loc;hn.lt
theorem Inv.sz(I:Inv X pins σ H s):X.s₀.heap.objs.size≤s.heap.objs.size:=G2 I.ok.above (O5 I.lt)
theorem Inv.aIT(I:Inv X pins σ H s){a:A7}(h:s.heap.objs.size≤a):a∉X.fs:=λhb=>by obtain⟨_,o,ho,_⟩:=I.ok.Lr.mem hb;exact absurd (E1 (AJ ho) (G2 I.sz h)) (K7 _)
theorem Inv.cne(I:Inv X pins σ H s):∀x c,X.env.cells.lookup x=ND c→c≠X.env.locals:=λx c e z=>by obtain⟨v,o,ho,hd⟩:=I.cell x c e;obtain⟨m,⟨o',es,ep,ho',hd',_⟩,_⟩:=I.loc;rw[z,ho']at ho;cases ho;rw[hd']at hd;cases hd
theorem Inv.Lr(I:Inv X pins σ H s):s.heap.FunFrames X.base X.outer:=by
 have all:∀(l:List Env),(∀b∈frs l,b∈X.fs)→X.s₀.heap.FunFrames X.base l→s.heap.FunFrames X.base l:=by
  intro l
  induction l with
  | nil=>intro _ _;trivial
  | cons env r ih=>intro hs hl;obtain⟨hk,⟨L,o,hf,hn,ho,hd⟩,hr⟩:=hl;have hL:L∈X.fs:=hs L (by unfold frs;rw[Q9,hf];exact D4);obtain⟨sl,e⟩:=I.base.slot L o ho (I.ok.frf L hL) hL λz=>I.ok.aCt L z hL;exact⟨hk,⟨L,_,hf,hn,e,hd⟩,ih (λb hb=>hs b (by unfold frs;rw[Q9,hf];exact C8 _ hb)) hr⟩
 exact all X.outer (λ_ hb=>hb) I.ok.Lr
theorem Inv.stack(I:Inv X pins σ H s):s.heap.FunFrames X.base X.stack:=by
 rcases I.ok.stk with e | ⟨e,hf⟩
 ·rw[e];exact I.Lr
 ·rw[e];obtain⟨m,hn,_⟩:=I.loc;refine .cons (by rw[I.ok.kind];decide) hf hn ?_ I.Lr;exact Heap.get?_none_of_le (G2 I.ok.bsz I.ok.above)
theorem Inv.Wz(I:Inv X pins σ H s):∀b∈frs X.stack,b∈X.env.locals::X.fs:=λb hb=>by
 rcases I.ok.stk with e | ⟨e,hf⟩
 ·rw[e]at hb;exact C8 _ hb
 ·rw[e]at hb;unfold frs at hb;rw[Q9,hf]at hb;exact hb
theorem Inv.ZG(I:Inv X pins σ H s):∀b∈frs X.stack,H b=none:=λb hb=>by
 rcases C9.mp (I.Wz b hb)with e | hb
 ·rw[e];exact I.free
 ·obtain⟨_,o,ho,_⟩:=I.ok.Lr.mem hb;exact I.base.free b o ho (I.ok.frf b hb) λz=>I.ok.aCt b z hb
theorem Inv.step{g':Array IF}{t':Nat}{d':IJ}{ch:List A7}(I:Inv X pins σ H s)
  (hch:∀b∈ch,(b∈X.ex∨X.s₀.heap.objs.size≤b)∧b≠X.env.locals∧(∀x c,X.env.cells.lookup x=ND c→c≠b)∧∀p∈X.pn++pins,p.1≠b)
  (keep:∀b o,b≠X.env.locals→b∉X.fs→b∉ch→s.heap.get? b=ND o→H b=none→h'.get? b=ND o)
  (slot:∀b o,b≠X.env.locals→b∈X.fs→b∉ch→s.heap.get? b=ND o→H b=none→∃sl,h'.get? b=ND {o with slots:=sl}) (free:∀b o,b∉ch→s.heap.get? b=ND o→H b=none→H' b=none)
  (there:∀b o,b∉ch→s.heap.get? b=ND o→∃o',h'.get? b=ND o')
  (tups:∀b xs,H b=ND (.tup xs)→H' b=ND (.tup xs)) (Wx:∀b o u,H b=ND (.zA o u)→H' b=ND (.zA o u)) (DR:∀b ps,H b=ND (.tbl ps)→∃more,H' b=ND (.tbl (ps++more)))
  (ns:∀m,s.heap.Ns X.env.locals m→h'.Ns X.env.locals m) (hok:Df X.prog X.w H' h') (hg:DF g') :
  Inv X pins σ H' {s with heap:=h',gens:=g',drawn:=d',toks:=t'}:=by
 have neL:∀b o,X.s₀.heap.get? b=ND o→b≠X.env.locals:=λb o e=>E5 (E1 (AJ e) I.ok.above);have neC:∀b o,X.s₀.heap.get? b=ND o→b∉X.ex→b∉ch:=λb o e hx hb=>by
  rcases(hch b hb).1 with z | z
  ·exact hx z
  ·exact absurd (E1 (AJ e) z) (K7 _)
 have cellK:∀x c,X.env.cells.lookup x=ND c→∀v,s.heap.IsCell c v→h'.IsCell c v:=λx c e v ⟨o,ho,hd⟩=>by
  have nch:c∉ch:=λz=>(hch c z).2.2.1 x c e U;by_cases hc:c∈X.fs
  ·obtain⟨sl,q⟩:=slot c o (I.cne x c e) hc nch ho (I.yM x c e);exact⟨_,q,hd⟩
  ·exact⟨o,keep c o (I.cne x c e) hc nch ho (I.yM x c e),hd⟩
 refine⟨I.ok,I.os,hg,⟨λb o e n hb hx=>?_,λb o e n hb hx=>?_,λb o e n hx=>?_,λb o e hx=>?_,λb xs e=>tups b xs (I.base.tups b xs e),λb o xs e=>Wx b o xs (I.base.Wx b o xs e),λb ps e=>?_⟩,?_,λx c e=>?_,?_,λx c e=>?_,λp hp=>?_,hok,I.len⟩
 ·exact keep b o (neL b o e) hb (neC b o e hx) (I.base.keep b o e n hb hx) (I.base.free b o e n hx)
 ·obtain⟨sl,e1⟩:=I.base.slot b o e n hb hx;obtain⟨sl',e2⟩:=slot b _ (neL b o e) hb (neC b o e hx) e1 (I.base.free b o e n hx);exact⟨sl',e2⟩
 ·obtain⟨o',e1⟩:=I.base.there b o e hx;exact free b o' (neC b o e hx) e1 (I.base.free b o e n hx)
 ·obtain⟨o',e1⟩:=I.base.there b o e hx;exact there b o' (neC b o e hx) e1
 ·obtain⟨m1,e1⟩:=I.base.DR b ps e;obtain⟨m2,e2⟩:=DR b _ e1;exact⟨m1++m2,by rw[e2,Array.append_assoc]⟩
 ·obtain⟨m,hn,hl⟩:=I.loc;refine⟨m,ns m hn,λi x v e1 e2 e3=>?_⟩;obtain⟨u,r,l⟩:=hl i x v e1 e2 e3;refine⟨u,r,?_⟩;rcases l with l | ⟨k,c,e,z⟩
  ·exact .inl l
  ·exact .inr ⟨k,c,e,cellK x c e _ z⟩
 ·obtain⟨v,z⟩:=I.cell x c e;exact⟨v,cellK x c e v z⟩
 ·obtain⟨m,⟨o,_,_,ho,_⟩,_⟩:=I.loc;exact free _ o (λz=>(hch _ z).2.1 U) ho I.free
 ·obtain⟨v,o,ho,hd⟩:=I.cell x c e;exact free c o (λz=>(hch c z).2.2.1 x c e U) ho (I.yM x c e)
 ·obtain⟨e,n,ne,nf,d⟩:=I.pin p hp;have nch:p.1∉ch:=λz=>(hch p.1 z).2.2.2 p hp U;exact⟨keep p.1 p.2 ne nf nch e n,free p.1 p.2 nch e n,ne,nf,d⟩
theorem Inv.un{t':Nat}(I:Inv X pins σ H s)(u:Un X.fs [] H H' s.heap h')(hok:Df X.prog X.w H' h'):Inv X pins σ H' {s with heap:=h',toks:=t'}:=by
 obtain⟨m,⟨o,es,ep,ho,r⟩,_⟩:=id I.loc;obtain⟨sl,hL⟩:=u.any ho I.free (by simp);exact I.step (g':=s.gens) (d':=s.drawn) (ch:=[]) (λ_ z=>nomatch z) (λb o _ hb _ e n=>u.keep b o e n hb (by simp)) (λb o _ hb _ e n=>u.slot b o e n hb (by simp)) (λb o _ e n=>u.free b o e n (by simp)) (λb o _ e=>u.there b o e (by simp)) u.tups u.Wx u.DR (λm' hm=>by
  obtain⟨o',es',ep',ho',r'⟩:=hm;rw[ho]at ho';cases ho';exact⟨_,es',ep',hL,r'⟩) hok I.bare
theorem Inv.call{g':Array IF}{t':Nat}{d':IJ}{ch:List A7}(I:Inv X pins σ H s)(u:Un (frs X.stack) ch H H' s.heap h')(hok:Df X.prog X.w H' h')(hg:DF g')
  (hch:∀b∈ch,(b∈X.ex∨X.s₀.heap.objs.size≤b)∧b≠X.env.locals∧(∀x c,X.env.cells.lookup x=ND c→c≠b)∧∀p∈X.pn++pins,p.1≠b) :
  Inv X pins σ H' {s with heap:=h',gens:=g',drawn:=d',toks:=t'}:=by
 obtain⟨m,⟨o,es,ep,ho,r⟩,_⟩:=id I.loc;obtain⟨sl,hL⟩:=u.any ho I.free λz=>(hch _ z).2.1 U;exact I.step (ch:=ch) hch (λb o hL hb hc e n=>u.keep b o e n (λz=>(C9.mp (I.Wz b z)).elim hL hb) hc) (λb o _ _ hc e n=>u.any e n hc) (λb o hc e n=>u.free b o e n hc) (λb o hc e=>u.there b o e hc) u.tups u.Wx u.DR (λm' hm=>by
  obtain⟨o',es',ep',ho',r'⟩:=hm;rw[ho]at ho';cases ho';exact⟨_,es',ep',hL,r'⟩) hok hg
theorem Inv.turned{t':Nat}{it:A7}(I:Inv X pins σ H s)(k:∀b o,b≠it→s.heap.get? b=ND o→h'.get? b=ND o)(hn:H it=none)(hL:it≠X.env.locals)
  (h1:it∈X.ex∨X.s₀.heap.objs.size≤it) (h2:∀x c,X.env.cells.lookup x=ND c→c≠it) (h3:∀p∈X.pn++pins,p.1≠it):Inv X pins σ H {s with heap:=h',toks:=t'}:=by
 have nit:∀b u,H b=ND u→b≠it:=λb u e z=>by rw[z,hn]at e;cases e
 refine I.step (g':=s.gens) (d':=s.drawn) (ch:=[it]) (λb hb=>?_) (λb o _ _ hc e _=>k b o (λz=>hc (by simp[z])) e) (λb o _ _ hc e _=>⟨o.slots,k b o (λz=>hc (by simp[z])) e⟩) (λ_ _ _ _ n=>n)
  (λb o hc e=>⟨o,k b o (λz=>hc (by simp[z])) e⟩) (λ_ _ e=>e) (λ_ _ _ e=>e) (λb ps e=>⟨#[],by rw[e];simp⟩) (λm hm=>?_) (λb u e=>?_) I.bare
 ·have e:b=it:=by simpa using hb
  subst e;exact⟨h1,hL,h2,h3⟩
 ·obtain⟨o,es,ep,ho,r⟩:=hm;exact⟨o,es,ep,k _ o (Ne.symm hL) ho,r⟩
 ·refine(I.hok b u e).stay (λc v hc q=>k c v ?_ q) (λ_ q=>q) λ_ _ q=>q;rcases hc with z | z
  ·rw[z];exact nit b u e
  ·exact nit c _ z
theorem Inv.tok(I:Inv X pins σ H s)(t:Nat):Inv X pins σ H {s with toks:=t}:=I.un (h':=s.heap) (t':=t) Un.refl I.hok
theorem Inv.kept{t':Nat}(I:Inv X pins σ H s)(k:∀b u,s.heap.get? b=ND u→h'.get? b=ND u):Inv X pins σ H {s with heap:=h',toks:=t'}:=I.un (Un.kept k) (I.hok.kept k)
theorem Inv.laid{a:A7}{o:HO}{t':Nat}(I:Inv X pins σ H s)(k:∀b u,s.heap.get? b=ND u→h'.get? b=ND u)(hp:s.heap.objs.size≤a)(new:jG X.prog X.w (upd H a o) h' a o) :
  Inv X pins σ (upd H a o) {s with heap:=h',toks:=t'}:=I.un (Un.laid k hp (I.hok.fresh hp)) (I.hok.laid k hp new)
theorem Inv.write{x e:A7}{o:HO}{t':Nat}(I:Inv X pins σ H s)(mu:Mut (H x))(he:e=x∨H e=ND (.own x))(k:∀b u,b≠e→s.heap.get? b=ND u→h'.get? b=ND u)(heo:∃u,h'.get? e=ND u)
  (new:jG X.prog X.w (upd H x o) h' x o):Inv X pins σ (upd H x o) {s with heap:=h',toks:=t'}:=I.un (Un.write mu he k heo) (I.hok.write mu he k heo new)
theorem Inv.weak{σ':List (Option V)}(I:Inv X pins σ H s)(hl:σ'.length=σ.length)(w:∀(i:Nat) v,σ'[i]?=ND (ND v)→σ[i]?=ND (ND v)):Inv X pins σ' H s:=
 ⟨I.ok,I.os,I.bare,I.base,let ⟨m,hn,hl'⟩:=I.loc;⟨m,hn,λi x v e1 e2 e3=>hl' i x v e1 (w i v e2) e3⟩,I.cell,I.free,I.yM,I.pin,I.hok,hl.trans I.len⟩
theorem Inv.ZJ{yg:List (A7×Obj)}(I:Inv X pins σ H s)(h:∀p∈yg,s.heap.get? p.1=ND p.2∧H p.1=none∧p.1≠X.env.locals∧p.1∉X.fs∧∀v,p.2.data≠.cell v):Inv X yg σ H s:=
 ⟨I.ok,I.os,I.bare,I.base,I.loc,I.cell,I.free,I.yM,λp hp=>(G7.mp hp).elim (λz=>I.pin p (N8 _ z)) (h p),I.hok,I.len⟩
theorem DW{N:List Str}(hN:N.Nodup){i j:Nat}{x:Str}(a:N[i]?=ND x)(b:N[j]?=ND x):i=j:=by obtain⟨h1,e1⟩:=D1.mp a;obtain⟨h2,e2⟩:=D1.mp b;exact(List.getElem_inj hN).mp (e1.trans e2.symm)
theorem Ud{M:IL}{A:AN}{E:A6→A8→Prop}{i:Nat}{x:Str}{v:V}{u:A6}{Q:Unit→A8→Prop}(I:Inv X pins σ H s)(hN:X.N.Nodup)(hi:X.N[i]?=ND x)(hx:Loc X.env.scope x)(r:RelV v u)
  (h:∀s',Inv X pins (σ.set i (ND v)) H s'→(∃a,BH a s.heap s'.heap∧(a=X.env.locals∨X.env.cells.lookup x=ND a))→Q () s') (hf:X.fn x=NG∨X.env.scope.names.lookup x=ND .local:=by first | exact .inl U | exact .inr U | assumption):AF M A (storeName X.env x u) Q E s:=by
 obtain⟨m,hn,hl⟩:=id I.loc;have hcls:(X.env.scope.kind==.class||(X.env.scope.kind==.module&&X.env.locals != X.env.globals))=NH:=by rw[I.ok.kind];rfl
 have hiσ:i<σ.length:=by rw[I.len];exact(D1.mp hi).1
 have cne:=I.cne;have tracked:∀{a:A7} {h':AM},(∃o,s.heap.get? a=ND o∧H a=none)→BH a s.heap h'→Df X.prog X.w H h':=λ{a h'} ha hs b ob e=>by
  obtain⟨_,_,hfree⟩:=ha;refine(I.hok b ob e).stay (λc w' hc q=>(hs.2 c ?_).trans q) (λ_ q=>q) λ_ _ q=>q;rintro rfl;rcases hc with rfl | hc
  ·rw[hfree]at e;cases e
  ·rw[hfree]at hc;cases hc
 rcases hx with hk | hk
 ·refine wpAny_storeName_local hk hn (λh' hn' hs=>?_) hcls;obtain⟨oL,_,_,hoL,_⟩:=id hn;refine h _ ⟨I.ok,I.os,I.bare,⟨λb o e n hb hx=>?_,λb o e n hb hx=>?_,I.base.free,λb o e hx=>?_,I.base.tups,I.base.Wx,I.base.DR⟩,⟨_,hn',λj y v' e1 e2 e3=>?_⟩,λy c e=>?_,I.free,I.yM,λp hp=>?_,tracked ⟨oL,hoL,I.free⟩ hs,by simpa using I.len⟩ ⟨_,hs,.inl U⟩
  ·exact(hs.2 b (E5 (E1 (AJ e) I.ok.above))).trans (I.base.keep b o e n hb hx)
  ·obtain⟨sl,e1⟩:=I.base.slot b o e n hb hx;exact⟨sl,(hs.2 b (E5 (E1 (AJ e) I.ok.above))).trans e1⟩
  ·obtain⟨o',e1⟩:=I.base.there b o e hx;exact⟨o',(hs.2 b (E5 (E1 (AJ e) I.ok.above))).trans e1⟩
  ·by_cases hj:j=i
   ·subst hj;rw[hi]at e1;cases e1;rw[G6 hiσ]at e2;cases e2;exact⟨u,r,.inl ⟨hk,by simp⟩⟩
   ·rw[T5 (Ne.symm hj)]at e2;obtain⟨u',r',q⟩:=hl j y v' e1 e2 e3;refine⟨u',r',?_⟩;rcases q with ⟨k,e⟩ | ⟨k,c,e,z⟩
    ·refine .inl ⟨k,?_⟩;have:y≠x:=λe=>hj (DW hN e1 (e▸hi));simp[this,e]
    ·exact .inr ⟨k,c,e,z.sameBut hs (cne y c e)⟩
  ·obtain⟨w',z⟩:=I.cell y c e;exact⟨w',z.sameBut hs (cne y c e)⟩
  ·obtain⟨e,n,ne,nf,d⟩:=I.pin p hp;exact⟨(hs.2 p.1 ne).trans e,n,ne,nf,d⟩
 ·have hfn:X.fn x=NG:=by
   rcases hf with z | z
   ·exact z
   ·rw[z]at hk;cases hk
  obtain⟨c,hc⟩:=I.ok.has x (.inl hk);obtain⟨w',z⟩:=I.cell x c hc;refine wpAny_storeName_cell I.ok.kind hk hc z (λh' hc' hs=>?_);obtain⟨oc,hoc,aIU⟩:=id z;refine h {s with heap:=h'} ⟨I.ok,I.os,I.bare,⟨λb o e n hb hx=>?_,λb o e n hb hx=>?_,I.base.free,λb o e hx=>?_,I.base.tups,I.base.Wx,I.base.DR⟩,⟨m,hn.sameBut hs (Ne.symm (cne x c hc)),λj y v' e1 e2 e3=>?_⟩,λy c' e=>?_,I.free,I.yM,λp hp=>?_,tracked ⟨oc,hoc,I.yM x c hc⟩ hs,by simpa using I.len⟩ ⟨c,hs,.inr hc⟩
  ·exact(hs.2 b (E5 (E1 (AJ e) (I.ok.cab x c hfn hc)))).trans (I.base.keep b o e n hb hx)
  ·obtain⟨sl,e1⟩:=I.base.slot b o e n hb hx;exact⟨sl,(hs.2 b (E5 (E1 (AJ e) (I.ok.cab x c hfn hc)))).trans e1⟩
  ·obtain⟨o',e1⟩:=I.base.there b o e hx;exact⟨o',(hs.2 b (E5 (E1 (AJ e) (I.ok.cab x c hfn hc)))).trans e1⟩
  ·by_cases hj:j=i
   ·subst hj;rw[hi]at e1;cases e1;rw[G6 hiσ]at e2;cases e2;exact⟨u,r,.inr ⟨.inl hk,c,hc,hc'⟩⟩
   ·rw[T5 (Ne.symm hj)]at e2;obtain⟨u',r',q⟩:=hl j y v' e1 e2 e3;refine⟨u',r',?_⟩;rcases q with q | ⟨k,c',e,z'⟩
    ·exact .inl q
    ·refine .inr ⟨k,c',e,z'.sameBut hs ?_⟩;rintro rfl;exact hj (DW hN e1 (I.ok.inj _ _ _ e hc▸hi))
  ·by_cases hcc:c'=c
   ·subst hcc;exact⟨_,hc'⟩
   ·obtain⟨w2,z2⟩:=I.cell y c' e;exact⟨w2,z2.sameBut hs hcc⟩
  ·obtain⟨e,n,ne,nf,d⟩:=I.pin p hp;refine⟨(hs.2 p.1 ?_).trans e,n,ne,nf,d⟩;intro q;rw[q,hoc]at e;have q':oc=p.2:=F4 e;exact d w' (by rw[←q'];exact aIU)
theorem DX{M:IL}{A:AN}{E:A6→A8→Prop}{i:Nat}{x:Str}{v:V}{u:A6}{Q:Unit→A8→Prop}(I:Inv X pins σ H s)(hN:X.N.Nodup)(hi:X.N[i]?=ND x)(hx:Loc X.env.scope x)(r:RelV v u)
  (h:∀s',Inv X pins (σ.set i (ND v)) H s'→Q () s') (hf:X.fn x=NG∨X.env.scope.names.lookup x=ND .local:=by first | exact .inl U | exact .inr U | assumption):AF M A (storeName X.env x u) Q E s:=
 Ud I hN hi hx r (λs' I' _=>h s' I') hf
theorem Inv.call'{s':A8}{ch:List A7}(I:Inv X pins σ H s)(ho:s'.os=s.os)(u:Un (frs X.stack) ch H H' s.heap s'.heap)(hok:Df X.prog X.w H' s'.heap)(hg:DF s'.gens)
  (hch:∀b∈ch,(b∈X.ex∨X.s₀.heap.objs.size≤b)∧b≠X.env.locals∧(∀x c,X.env.cells.lookup x=ND c→c≠b)∧∀p∈X.pn++pins,p.1≠b):Inv X pins σ H' s':=by
 obtain⟨h',g',d',t',o'⟩:=s';have e:o'=s.os:=ho;subst e;exact I.call (g':=g') (t':=t') (d':=d') u hok hg hch
end
abbrev XK:=A6→Option A7→Hp→Prop
abbrev St:=List (Option V)
abbrev VK:=V→Hp→Prop
abbrev TE:=St→Hp→VK→Prop
abbrev TT:=St→Hp→(Bool→Hp→Prop)→Prop
abbrev TA:=St→Hp→(List V→Hp→Prop)→Prop
structure Ends where
 nx:St→Hp→Prop
 rt:VK
 bk:St→Hp→Prop:=λ_ _=>False
 ct:St→Hp→Prop:=λ_ _=>False
abbrev TS:=Ends→St→Hp→Prop
def EP(X:Cx)(pins:List (A7×Obj))(σ:St)(Q:VK)(u:A6)(s':A8):Prop:=∃v H',Inv X pins σ H' s'∧RelV v u∧Q v H'
def TP(X:Cx)(pins:List (A7×Obj))(σ:St)(Q:Bool→Hp→Prop)(b:Bool)(s':A8):Prop:=∃H',Inv X pins σ H' s'∧Q b H'
def AP(X:Cx)(pins:List (A7×Obj))(σ:St)(Q:List V→Hp→Prop)(us:List A6)(s':A8):Prop:=∃vs H',Inv X pins σ H' s'∧Vals vs us∧Q vs H'
def SP(X:Cx)(pins:List (A7×Obj))(D:Ends)(f:Flow)(s':A8):Prop:=
 match f with
 | .next=>∃σ' H',Inv X pins σ' H' s'∧D.nx σ' H'
 | .brk=>∃σ' H',Inv X pins σ' H' s'∧D.bk σ' H'
 | .cont=>∃σ' H',Inv X pins σ' H' s'∧D.ct σ' H'
 | .ret u=>∃v σ' H',Inv X pins σ' H' s'∧RelV v u∧D.rt v H'
def PE(X:Cx)(e:AB)(t:TE):Prop:=
 ∀(pins:List (A7×Obj))(s:A8)(σ:St)(H:Hp)(Q:VK),Inv X pins σ H s→t σ H Q→AF (AG X.prog X.w) X.A (AO e X.env) (EP X pins σ Q) X.xe s
def PT(X:Cx)(e:AB)(t:TT):Prop:=
 ∀(pins:List (A7×Obj))(s:A8)(σ:St)(H:Hp)(Q:Bool→Hp→Prop),Inv X pins σ H s→t σ H Q→AF (AG X.prog X.w) X.A (HE e X.env (AO e X.env)) (TP X pins σ Q) X.xe s
def PW(X:Cx)(e:AB)(t:TT):Prop:=
 ∀(whole:Sem A6)(pins:List (A7×Obj))(s:A8)(σ:St)(H:Hp)(Q:Bool→Hp→Prop),Inv X pins σ H s→t σ H Q→AF (AG X.prog X.w) X.A (HE e X.env whole) (TP X pins σ Q) X.xe s
theorem PW.pt{X:Cx}{e:AB}{t:TT}(h:PW X e t):PT X e t:=h _
def PA(X:Cx)(es:List AB)(t:TA):Prop:=
 ∀(pos:Pos)(pins:List (A7×Obj))(s:A8)(σ:St)(H:Hp)(Q:List V→Hp→Prop),Inv X pins σ H s→t σ H Q→AF (AG X.prog X.w) X.A (spliced (AY pos (AD es X.env))) (AP X pins σ Q) X.xe s
def PS(X:Cx)(st:AH)(t:TS):Prop:=
 ∀(pins:List (A7×Obj))(s:A8)(σ:St)(H:Hp)(D:Ends),Inv X pins σ H s→t D σ H→AF (AG X.prog X.w) X.A (exec st X.env) (SP X pins D) X.xe s
def DY(X:Cx)(st:List AH)(t:TS):Prop:=
 ∀(pins:List (A7×Obj))(s:A8)(σ:St)(H:Hp)(D:Ends),Inv X pins σ H s→t D σ H→AF (AG X.prog X.w) X.A (execs st X.env) (SP X pins D) X.xe s
theorem jA{α:Type}{t:Sem α}{Q Q':α→A8→Prop}{M:IL}{A:AN}{E:A6→A8→Prop}{s:A8}(h:AF M A t Q E s)(hQ:∀a s,Q a s→Q' a s):AF M A t Q' E s:=AW h hQ λ_ _ x=>x
end L2
namespace L2
open PySem PySem.Spec PyProof.Rows
section
variable{X:Cx}
def qN(i:Nat):TE:=λσ H Q=>∃v,σ[i]?=ND (ND v)∧Q v H
def tC(v:V):TE:=λ_ H Q=>Q v H
theorem aEZ{i:Nat}{x:Str}{pos:Pos}(hN:X.N[i]?=ND x)(hv:Vis X.env.scope x)(hd:(x==("__debug__" : Str))=NH:=by decide) (hcd:(x==("__classdict__" : Str))=NH:=by decide):PE X (.Name x pos) (qN i):=by
  intro pins s σ H Q I h;obtain⟨v,e,h⟩:=h;obtain⟨m,hn,hl⟩:=I.loc;obtain⟨u,r,l⟩:=hl i x v hN e hv;have fin:EP X pins σ Q u s:=⟨v,H,I,r,h⟩
  rcases l with ⟨hk,hm⟩ | ⟨hk,c,hc,hcell⟩
  · exact IM (wpAny_loadName_local I.ok.kind hk hn hm fin) hd
  · rcases hk with hk | hk
    · exact IM (wpAny_loadName_cell I.ok.kind hk hc hcell fin) hd
    · exact IM (wpAny_loadName_free I.ok.kind hk hc hcell fin hcd) hd
theorem yh{i j pos}:PE X (.Constant (.int i) j pos) (tC (.int i)):=λ_ _ _ H _ I h=>wpAny_Constant_int ⟨.int i,H,I.tok _,⟨_,U⟩,h⟩
theorem aHa{b j pos}:PE X (.Constant (.bool b) j pos) (tC (.bl b)):=λ_ _ _ H _ I h=>Constant_bool ⟨.bl b,H,I,U,h⟩
theorem aE0{j pos}:PE X (.Constant .none j pos) (tC .non):=λ_ _ _ H _ I h=>Constant_none ⟨.non,H,I,U,h⟩
def Gl(X:Cx)(x:Str):Prop:=X.env.kindOf x=ND .globalImplicit
theorem Xa{E:A6→A8→Prop}{pins:List (A7×Obj)}{s:A8}{σ:St}{H:Hp}{x:Str}{u:A6}{pos:Pos}{Q:A6→A8→Prop}(I:Inv X pins σ H s)(hg:Gl X x)(hm:X.mg x=ND u)(h:Q u s)
  (hd:(x==("__debug__" : Str))=NH:=by decide):AF (AG X.prog X.w) X.A (AO (.Name x pos) X.env) Q E s:=
 ES I.ok.kind hg (Calls.loadGlobal_global (by rw[I.ok.glob];exact I.mod.glob.keeps I.bk) hm h) hd
theorem wN{E:A6→A8→Prop}{pins:List (A7×Obj)}{s:A8}{σ:St}{H:Hp}{x:Str}{u:A6}{pos:Pos}{Q:A6→A8→Prop}(I:Inv X pins σ H s)(hg:Gl X x)(hm:X.mg x=none)(hv:AU x=ND u)(h:Q u s)
  (hn:x ≠ "__name__" := by decide) (hd:(x==("__debug__" : Str))=NH:=by decide):AF (AG X.prog X.w) X.A (AO (.Name x pos) X.env) Q E s:=by
 obtain⟨mb,h1,h2⟩:=I.mod.blt;exact ES I.ok.kind hg (Calls.loadGlobal_builtin (by rw[I.ok.glob];exact I.mod.glob.keeps I.bk) hm (by rw[I.ok.blt];exact h1.keeps I.bk) ((h2 x hn).trans hv) h) hd
theorem aCu{x:Str}{v:V}{u:A6}{pos:Pos}(hg:Gl X x)(hm:X.mg x=ND u)(r:RelV v u)(hd:(x==("__debug__" : Str))=NH:=by decide):PE X (.Name x pos) (tC v):=
 λ_ _ _ H _ I h=>Xa I hg hm ⟨v,H,I,r,h⟩ hd
theorem Xb{x:Str}{v:V}{u:A6}{pos:Pos}(hg:Gl X x)(hm:X.mg x=none)(hv:AU x=ND u)(r:RelV v u)(hn:x ≠ "__name__" := by decide) (hd:(x==("__debug__" : Str))=NH:=by decide):PE X (.Name x pos) (tC v):=
 λ_ _ _ H _ I h=>wN I hg hm hv ⟨v,H,I,r,h⟩ hn hd
variable{a b:AB}{ta tb:TE}{pos:Pos}
def PC(X:Cx)(op:EK)(a b:AB)(t:TE):Prop:=
 ∀(pins:List (A7×Obj))(s:A8)(σ:St)(H:Hp)(Q:VK),Inv X pins σ H s→t σ H Q →
  AF (AG X.prog X.w) X.A (AO a X.env) (λv s₁=>AF (AG X.prog X.w) X.A (AO b X.env) (λu s₂=>AF (AG X.prog X.w) X.A (AS op v u) (EP X pins σ Q) X.xe s₂) X.xe s₁) X.xe s
def tB(t:TE):TT:=λσ H Q=>t σ H λx H1=>∃c,x=.bl c∧Q c H1
theorem RB{op:EK}{t:TE}(h:PC X op a b t)(h1:behindInMarks op b=NH:=by first | exact nobehind _ (by decide) (by decide) | rfl):PE X (.Compare a [op] [b] pos) t:=λpins s σ H Q I hw=>JA (h pins s σ H Q I hw) h1
theorem aE1{op:EK}{t:TE}(h:PC X op a b t)(h1:behindInMarks op b=NH:=by first | exact nobehind _ (by decide) (by decide) | rfl):PT X (.Compare a [op] [b] pos) (tB t):=by intro pins s σ H Q I hw;refine Fs (jA (h pins s σ H _ I hw) λv s1 h1=>jA h1 λu s2 h2=>jA h2 λc s3 ⟨x,H1,I1,r1,q1⟩=>?_) h1;obtain⟨d,rfl,q⟩:=q1;cases r1;exact B3 ⟨H1,I1,q⟩
theorem aE2{e:AB}{t:TE}(h:PE X e t)(he:∀whole,HE e X.env whole=(do let v ←whole;EB e.pos;Ch [v] (truthy v)):=by intro _;rfl):PT X e (tB t):=by intro pins s σ H Q I hw;refine isTrue_plain (jA (h pins s σ H _ I hw) λv s1 ⟨x,H1,I1,r1,q1⟩=>?_) (he _);obtain⟨d,rfl,q⟩:=q1;cases r1;exact B3 ⟨H1,I1,q⟩
variable{tA tB':TT}{rest:List AB}
def aE3(t u:TT):TT:=λσ H Q=>t σ H λc H1=>if c=NG then u σ H1 Q else Q NH H1
def tOr(t u:TT):TT:=λσ H Q=>t σ H λc H1=>if c=NG then Q NG H1 else u σ H1 Q
def aE4(t:TT):TT:=λσ H Q=>t σ H λc H1=>Q (!c) H1
theorem aCv(ha:PT X a tA):PW X (.BoolOp .And [a] pos) tA:=by
 intro wh pins s σ H Q I h;refine isTrue_and (jA (ha pins s σ H Q I h) λc s1 e=>?_);cases c with
 | true=>exact isTrue_and_nil e
 | false=>exact e
theorem aE5(ha:PT X a tA):PW X (.BoolOp .Or [a] pos) tA:=by
 intro wh pins s σ H Q I h;refine isTrue_or (jA (ha pins s σ H Q I h) λc s1 e=>?_);cases c with
 | false=>exact isTrue_or_nil e
 | true=>exact e
theorem aE6(ha:PT X a tA)(hb:PW X (.BoolOp .And (b::rest) pos) tB'):PW X (.BoolOp .And (a::b::rest) pos) (aE3 tA tB'):=by
 intro wh pins s σ H Q I h;refine isTrue_and (jA (ha pins s σ H _ I h) λc s1 ⟨H1,I1,q1⟩=>?_);cases c with
 | true=>exact hb wh pins s1 σ H1 Q I1 q1
 | false=>exact⟨H1,I1,q1⟩
theorem aHb(ha:PT X a tA)(hb:PW X (.BoolOp .Or (b::rest) pos) tB'):PW X (.BoolOp .Or (a::b::rest) pos) (tOr tA tB'):=by
 intro wh pins s σ H Q I h;refine isTrue_or (jA (ha pins s σ H _ I h) λc s1 ⟨H1,I1,q1⟩=>?_);cases c with
 | true=>exact⟨H1,I1,q1⟩
 | false=>exact hb wh pins s1 σ H1 Q I1 q1
theorem aE7(ha:PT X a tA):PT X (.UnaryOp .Not a pos) (aE4 tA):=by intro pins s σ H Q I h;exact isTrue_not (ha pins s σ H (λc H1=>Q (!c) H1) I h)
def aD4(ta tb:TE):TE:=λσ H Q=>ta σ H λx H1=>∃c,x=.bl c∧if c=NG then tb σ H1 Q else Q (.bl NH) H1
def aHc(ta tb:TE):TE:=λσ H Q=>ta σ H λx H1=>∃c,x=.bl c∧if c=NG then Q (.bl NG) H1 else tb σ H1 Q
def aD5(ta:TE):TE:=λσ H Q=>ta σ H λx H1=>∃c,x=.bl c∧Q (.bl (!c)) H1
theorem aE8{op}{t:TE}(h:PE X a t):PE X (.BoolOp op [a] pos) t:=λpins s σ H Q I hw=>BoolOp_one (h pins s σ H Q I hw)
theorem aE9(ha:PE X a ta)(hb:PE X (.BoolOp .And (b::rest) pos) tb):PE X (.BoolOp .And (a::b::rest) pos) (aD4 ta tb):=by
 intro pins s σ H Q I h;refine BoolOp_and (jA (ha pins s σ H _ I h) λv s1 ⟨x,H1,I1,r1,q1⟩=>?_);obtain⟨c,rfl,q1⟩:=q1;cases r1;refine B3 ?_;cases c with
 | true=>exact hb pins s1 σ H1 Q I1 q1
 | false=>exact⟨.bl NH,H1,I1,U,q1⟩
theorem aHd(ha:PE X a ta)(hb:PE X (.BoolOp .Or (b::rest) pos) tb):PE X (.BoolOp .Or (a::b::rest) pos) (aHc ta tb):=by
 intro pins s σ H Q I h;refine BoolOp_or (jA (ha pins s σ H _ I h) λv s1 ⟨x,H1,I1,r1,q1⟩=>?_);obtain⟨c,rfl,q1⟩:=q1;cases r1;refine B3 ?_;cases c with
 | false=>exact hb pins s1 σ H1 Q I1 q1
 | true=>exact⟨.bl NG,H1,I1,U,q1⟩
theorem aFa(ha:PE X a ta):PE X (.UnaryOp .Not a pos) (aD5 ta):=by intro pins s σ H Q I h;refine UnaryOp_ (jA (ha pins s σ H _ I h) λv s1 ⟨x,H1,I1,r1,q1⟩=>?_);obtain⟨c,rfl,q1⟩:=q1;cases r1;exact not_of (B3 ⟨.bl (!c),H1,I1,U,q1⟩)
def tIf(t:TT)(ta tb:TE):TE:=λσ H Q=>t σ H λc H1=>if c=NG then ta σ H1 Q else tb σ H1 Q
theorem yj{c:AB}(hc:PT X c tA)(ha:PE X a ta)(hb:PE X b tb):PE X (.IfExp c a b pos) (tIf tA ta tb):=by
 intro pins s σ H Q I h;refine wpAny_IfExp (jA (hc pins s σ H _ I h) λd s1 ⟨H1,I1,q1⟩=>?_);cases d with
 | true=>exact ha pins s1 σ H1 Q I1 q1
 | false=>exact hb pins s1 σ H1 Q I1 q1
end
end L2
namespace L2
open PySem PySem.Spec PyProof.Rows
def pK(K:aF)(H:Hp)(a:A7)(xs:List V):Prop:=
 Rd H a (.lst xs) ∨
  ∃(o:Obj)(its:Array A6)(n:Nat),K.lookup a=ND o∧o.cls=.type "list" ∧ o.dict=none∧o.data=.seq its n∧its.size≤sizeLine∧Vals xs its.toList
def zO(K:aF)(H:Hp)(a:A7)(xs:List V):Prop:=
 Rd H a (.tup xs) ∨
  ∃(o:Obj)(its:Array A6)(n:Nat),K.lookup a=ND o∧o.cls=.type "tuple" ∧ o.data=.seq its n∧its.size≤sizeLine∧Vals xs its.toList
def aIW:A6→Option V
 | .none=>ND .non
 | .bool b=>ND (.bl b)
 | .int i _=>ND (.int i)
 | .str x _=>ND (.str x)
 | .bytes b _=>ND (.byt b)
 | .float b _=>ND (.flt b)
 | .ref a=>ND (.ref a)
 | .type n=>ND (.ty n)
 | _=>none
theorem RelV.abs{x:V}{u:A6}(r:RelV x u):aIW u=ND x:=by
 cases x with
 | non=>cases r;rfl
 | bl _=>cases r;rfl
 | int _=>obtain⟨t,rfl⟩:=r;rfl
 | str _=>obtain⟨t,rfl⟩:=r;rfl
 | byt _=>obtain⟨t,rfl⟩:=r;rfl
 | flt _=>obtain⟨t,rfl⟩:=r;rfl
 | ref _=>cases r;rfl
 | ty _=>cases r;rfl
theorem RelV.inj{x y:V}{u:A6}(r:RelV x u)(q:RelV y u):x=y:=F4 (r.abs.symm.trans q.abs)
theorem Vals.inj:∀{xs ys:List V} {us:List A6},Vals xs us→Vals ys us→xs=ys
 | _,_,_,.nil,.nil=>rfl
 | _,_,_,.cons r t,.cons r' t'=>by rw[r.inj r',Vals.inj t t']
section
variable{X:Cx}{pins:List (A7×Obj)}{σ:St}{H:Hp}{s:A8}{a:A7}{xs ys:List V}
theorem pK.of{K:aF}(h:H a=ND (.lst xs)):pK K H a xs:=.inl (.inl h)
theorem zO.of{K:aF}(h:H a=ND (.tup xs)):zO K H a xs:=.inl (.inl h)
theorem Inv.list(I:Inv X pins σ H s)(h:pK X.K H a xs):∃its:List A6,Vals xs its∧PlainL s.heap a its.toArray∧xs.length≤sizeLine:=by
 rcases h with h | ⟨o,its,n,hk,hc,hd,hs,hz,r⟩
 ·obtain⟨z,its,n,r,e⟩:=h.ok I.hok;exact⟨its,r,⟨_,n,e,U,U,U⟩,z⟩
 ·refine⟨its.toList,r,⟨o,n,I.Im a o hk,hc,hd,by simpa using hs⟩,?_⟩;have e:=r.length;simp only[K3]at e;omega
theorem Inv.tuple(I:Inv X pins σ H s)(h:zO X.K H a xs):∃its:List A6,Vals xs its∧IsTup s.heap a its.toArray∧xs.length≤sizeLine:=by
 rcases h with h | ⟨o,its,n,hk,hc,hs,hz,r⟩
 ·obtain⟨z,its,r,p⟩:=h.ok I.hok;exact⟨its,r,p,z⟩
 ·refine⟨its.toList,r,⟨o,I.Im a o hk,hc,n,by simpa using hs⟩,?_⟩;have e:=r.length;simp only[K3]at e;omega
theorem Inv.EY(I:Inv X pins σ H s)(h:pK X.K H a xs)(h':pK X.K H a ys):xs=ys:=by
 obtain⟨its,r,⟨o,n,e,_,_,d⟩,_⟩:=I.list h;obtain⟨its',r',⟨o',n',e',_,_,d'⟩,_⟩:=I.list h';rw[e]at e';cases e';rw[d]at d';injection d' with d1 _;have:its=its':=by simpa using congrArg p5 d1
 subst this;exact r.inj r'
theorem Inv.Ue(I:Inv X pins σ H s)(h:zO X.K H a xs)(h':zO X.K H a ys):xs=ys:=by
 obtain⟨its,r,⟨o,e,_,n,d⟩,_⟩:=I.tuple h;obtain⟨its',r',⟨o',e',_,n',d'⟩,_⟩:=I.tuple h';rw[e]at e';cases e';rw[d]at d';injection d' with d1 _;have:its=its':=by simpa using congrArg p5 d1
 subst this;exact r.inj r'
end
abbrev Cx.wish(X:Cx)(E:A6→A8→Prop):Cx:={X with xe:=E}
abbrev Cx.ZK(X:Cx):Cx:=X.wish λ_ _=>False
theorem Cx.Ok.wish{X:Cx}(ok:X.Ok)(E:A6→A8→Prop):(X.wish E).Ok:=
 ⟨ok.mod,ok.kind,ok.glob,ok.blt,ok.above,ok.inj,ok.has,ok.cab,ok.hd,ok.frames,ok.stk,ok.exf,ok.bs,ok.bsz,ok.yf,ok.aCt,ok.Lr,ok.frf⟩
theorem Cx.Ok.zP{X:Cx}{E:A6→A8→Prop}(ok:(X.wish E).Ok):X.Ok:=
 ⟨ok.mod,ok.kind,ok.glob,ok.blt,ok.above,ok.inj,ok.has,ok.cab,ok.hd,ok.frames,ok.stk,ok.exf,ok.bs,ok.bsz,ok.yf,ok.aCt,ok.Lr,ok.frf⟩
section
variable{X:Cx}{pins:List (A7×Obj)}{σ:St}{H:Hp}{s:A8}{E:A6→A8→Prop}
theorem Inv.wish(I:Inv X pins σ H s)(E:A6→A8→Prop):Inv (X.wish E) pins σ H s:=⟨I.ok.wish E,I.os,I.bare,I.base,I.loc,I.cell,I.free,I.yM,I.pin,I.hok,I.len⟩
theorem Inv.zP(I:Inv (X.wish E) pins σ H s):Inv X pins σ H s:=⟨I.ok.zP,I.os,I.bare,I.base,I.loc,I.cell,I.free,I.yM,I.pin,I.hok,I.len⟩
theorem SP.zP{D:Ends}{f:Flow}{s':A8}(h:SP (X.wish E) pins D f s'):SP X pins D f s':=by
 cases f with
 | next=>obtain⟨σ',H',I,q⟩:=h;exact⟨σ',H',I.zP,q⟩
 | brk=>obtain⟨σ',H',I,q⟩:=h;exact⟨σ',H',I.zP,q⟩
 | cont=>obtain⟨σ',H',I,q⟩:=h;exact⟨σ',H',I.zP,q⟩
 | ret u=>obtain⟨v,σ',H',I,r,q⟩:=h;exact⟨v,σ',H',I.zP,r,q⟩
theorem DY.ZK{st:List AH}{t:TS}(h:DY X.ZK st t):DY X st t:=λpins s σ H D I hw=>
 AW (h pins s σ H D (I.wish _) hw) (λ_ _ q=>q.zP) λ_ _ z=>False.elim z
end
section
variable{X:Cx}{st:AH}{rest:List AH}{t u:TS}{e:AB}{te:TE}{pos:Pos}
def aD6:TS:=λD σ H=>D.nx σ H
def aFb(t u:TS):TS:=λD σ H=>t {D with nx:=u D} σ H
theorem aCw:DY X [] aD6:=λ_ _ σ H _ I h=>EE ⟨σ,H,I,h⟩
theorem yl(h1:PS X st t)(h2:DY X rest u):DY X (st::rest) (aFb t u):=by
 intro pins s σ H D I h;refine IG (jA (h1 pins s σ H {D with nx:=u D} I h) λf s1 q=>?_);cases f with
 | next=>obtain⟨σ',H',I',q⟩:=q;exact h2 pins s1 σ' H' D I' q
 | ret v=>exact q
 | brk=>exact q
 | cont=>exact q
theorem ZL(h1:PS X st t):DY X [st] t:=by
 intro pins s σ H D I h;refine IG (jA (h1 pins s σ H D I h) λf s1 q=>?_);cases f with
 | next=>exact EE q
 | ret v=>exact q
 | brk=>exact q
 | cont=>exact q
theorem Inv.quiet{pins:List (A7×Obj)}{σ:St}{H:Hp}{s:A8}(I:Inv X pins σ H s):interactive X.env=NH:=by simp[interactive,I.ok.kind]
def nD(te:TE):TS:=λD σ H=>te σ H λ_ H1=>D.nx σ H1
theorem lH(he:PE X e te)(hs:DA e none pos.line X.env=pure NH:=by rfl):PS X (.Expr e pos) (nD te):=by intro pins s σ H D I h;exact wpAny_Expr_any (jA (he pins s σ H _ I h) λv s1 ⟨x,H1,I1,r1,q1⟩=>⟨σ,H1,I1,q1⟩) I.quiet hs
def yo(te:TE):TS:=λD σ H=>te σ H D.rt
theorem Xc(he:PE X e te):PS X (.Return (ND e) pos) (yo te):=by intro pins s σ H D I h;exact wpAny_Return_some (jA (he pins s σ H _ I h) λv s1 ⟨x,H1,I1,r1,q1⟩=>⟨x,σ,H1,I1,r1,q1⟩)
def aHe(c:TT)(t u:TS):TS:=λD σ H=>c σ H λb H1=>if b=NG then t D σ H1 else u D σ H1
theorem aHf{c:AB}{a b:List AH}{tc:TT}(hc:PT X c tc)(ha:DY X a t)(hb:DY X b u):PS X (.If c a b pos) (aHe tc t u):=by
 intro pins s σ H D I h;refine wpAny_If (jA (hc pins s σ H _ I h) λd s1 ⟨H1,I1,q1⟩=>?_);cases d with
 | true=>exact ha pins s1 σ H1 D I1 q1
 | false=>exact hb pins s1 σ H1 D I1 q1
def yp:TS:=λ_ _ _=>False
theorem yq:PS X st yp:=λ_ _ _ _ _ _ h=>h.elim
end
abbrev TG:=V→St→Hp→(St→Hp→Prop)→Prop
abbrev TGs:=List V→St→Hp→(St→Hp→Prop)→Prop
def PG(X:Cx)(target:AB)(t:TG):Prop:=
 ∀(pins:List (A7×Obj))(s:A8)(σ:St)(H:Hp)(v:V)(u:A6)(Q:St→Hp→Prop),Inv X pins σ H s→RelV v u→t v σ H Q →
  AF (AG X.prog X.w) X.A (EM target X.env u) (λ_ s'=>∃σ' H',Inv X pins σ' H' s'∧Q σ' H') X.xe s
def PGs(X:Cx)(ts:List AB)(t:TGs):Prop:=
 ∀(pins:List (A7×Obj))(s:A8)(σ:St)(H:Hp)(vs:List V)(us:List A6)(Q:St→Hp→Prop),Inv X pins σ H s→Vals vs us→t vs σ H Q →
  AF (AG X.prog X.w) X.A (assignInOrder ((EF ts X.env).map (·.2)) us) (λ_ s'=>∃σ' H',Inv X pins σ' H' s'∧Q σ' H') X.xe s
abbrev aFc:=V→V→V→Hp→(Hp→Prop)→Prop
def aHg(X:Cx)(t:aFc):Prop:=
 ∀(pins:List (A7×Obj))(s:A8)(σ:St)(H:Hp)(o i v:V)(ov iv u:A6)(Q:Hp→Prop),Inv X pins σ H s→RelV o ov→RelV i iv→RelV v u→t o i v H Q →
  AF (AG X.prog X.w) X.A (setItem ov iv u) (λ_ s'=>∃H',Inv X pins σ H' s'∧Q H') X.xe s
section
variable{X:Cx}{pos:Pos}
def iR(i:Nat):TG:=λv σ H Q=>Q (σ.set i (ND v)) H
theorem lJ{i:Nat}{x:Str}(hN:X.N.Nodup)(hi:X.N[i]?=ND x)(hx:Loc X.env.scope x)(hf:X.fn x=NG∨X.env.scope.names.lookup x=ND .local:=by first | exact .inl U | exact .inr U | assumption):PG X (.Name x pos) (iR i):=by intro pins s σ H v u Q I r h;exact IA (DX I hN hi hx r (λs' I'=>⟨_,H,I',h⟩) hf)
def aHh:TGs:=λvs σ H Q=>vs=[]∧Q σ H
def aD8(t:TG)(u:TGs):TGs:=λvs σ H Q=>∃v r,vs=v::r∧t v σ H λσ' H'=>u r σ' H' Q
theorem aCx:PGs X [] aHh:=by intro pins s σ H vs us Q I r h;obtain⟨e,h⟩:=h;subst e;cases r;exact assignInOrder_nil ⟨σ,H,I,h⟩
theorem FJ{e:AB}{es:List AB}{t:TG}{u:TGs}(h1:PG X e t)(h2:PGs X es u)
  (hs:(EF (e::es) X.env).map (·.2)=EM e X.env::(EF es X.env).map (·.2):=by rfl):PGs X (e::es) (aD8 t u):=by
 intro pins s σ H vs us Q I r h;obtain⟨v,vr,e1,h⟩:=h;subst e1;cases r with
 | cons r rr=>rw[hs];refine assignInOrder_cons (jA (h1 pins s σ H _ _ _ I r h) λ_ s1 ⟨σ1,H1,I1,q1⟩=>?_);exact h2 pins s1 σ1 H1 _ _ Q I1 rr q1
def aCy(K:aF)(n:Nat)(t:TGs):TG:=λv σ H Q=>∃a xs,v=.ref a∧zO K H a xs∧xs.length=n∧t xs σ H Q
theorem aFd{es:List AB}{k:Nat}{t:TGs}{n:Nat}(hc:X.calm=NG)(h:PGs X es t)
  (hn:(EF es X.env).length=n:=by rfl) (hst:(EF es X.env).findIdx? (·.1)=none:=by rfl):PG X (.Tuple es k pos) (aCy X.K n t):=by
 intro pins s σ H v u Q I r hw;obtain⟨a,xs,e1,hq,hl,hw⟩:=hw;subst e1;cases r;obtain⟨its,rv,ht,hz⟩:=I.tuple hq;refine assign_Tuple_tuple (I.ok.hd hc) ht (by simp[hn,←hl,rv.length]) hst λh' hx=>?_;have I1:Inv X pins σ H {s with heap:=h'}:=I.kept (t':=s.toks) λb o e=>hx b o (E5 (AJ e)) e;exact h pins _ σ H xs _ Q I1 (by simpa using rv) hw
def Xd(to ti:TE)(t:aFc):TG:=λv σ H Q=>to σ H λo H1=>ti σ H1 λi H2=>t o i v H2 λH3=>Q σ H3
theorem Io{o i:AB}{to ti:TE}{t:aFc}(ho:PE X o to)(hi:PE X i ti)(hs:aHg X t)
  (ha:∀v,EM (.Subscript o i pos) X.env v=(do
   let ov ←Ch [v] (AO o X.env)
   let iv ←Ch [v,ov] (AO i X.env)
   EB pos
   Ch [v,ov,iv] (setItem ov iv v)
   release [v,ov,iv] []):=by intro _;rfl):PG X (.Subscript o i pos) (Xd to ti t):=by
 intro pins s σ H v u Q I r h;rw[ha];refine A9 (BQ (jA (ho pins s σ H _ I h) λov s1 ⟨x,H1,I1,r1,q1⟩=>?_));refine A9 (BQ (jA (hi pins s1 σ H1 _ I1 q1) λiv s2 ⟨y,H2,I2,r2,q2⟩=>?_));refine A9 (GW (A9 (BQ (jA (hs pins s2 σ H2 x y v ov iv u _ I2 r1 r2 r q2) λ_ s3 ⟨H3,I3,q3⟩=>?_))));exact wpAny_release ⟨σ,H3,I3,q3⟩
def uD(te:TE)(g:TG):TS:=λD σ H=>te σ H λx H1=>g x σ H1 D.nx
theorem Dt{tg e:AB}{te:TE}{g:TG}(he:PE X e te)(hg:PG X tg g)(hs:swapsWithSole [tg] e pos.line X.env=pure NH:=by rfl)(hw:swappedStores [tg] e X.env=pure none:=by rfl)
  (h1:(EF [tg] X.env).map (·.2)=[EM tg X.env]:=by rfl):PS X (.Assign [tg] e pos) (uD te g):=by
 intro pins s σ H D I h;refine wpAny_Assign_stores (jA (he pins s σ H _ I h) λv s1 ⟨x,H1,I1,r1,q1⟩=>?_) hs hw;rw[h1];exact jA (hg pins s1 σ H1 x v _ I1 r1 q1) λ_ s2 q=>q
theorem bI{i:Nat}{x:Str}{e:AB}{te:TE}{pos':Pos}(hN:X.N.Nodup)(hi:X.N[i]?=ND x)(hx:Loc X.env.scope x)(he:PE X e te)(hs:DA e (ND (.Name x pos')) pos.line X.env=pure NH:=by rfl)(hf:X.fn x=NG∨X.env.scope.names.lookup x=ND .local:=by first | exact .inl U | exact .inr U | assumption) :
  PS X (.Assign [.Name x pos'] e pos) (uD te (iR i)):=by
 intro pins s σ H D I h;refine wpAny_Assign_Name (jA (he pins s σ H _ I h) λv s1 ⟨y,H1,I1,r1,q1⟩=>?_) hs;exact DX I1 hN hi hx r1 (λs2 I2=>⟨_,H1,I2,q1⟩) hf
end
section
variable{X:Cx}{pos:Pos}
def RC(c:TT)(tb:TS):TS:=λD σ H=>∃W:Nat→St→Hp→Prop,(∃m,W m σ H)∧∀m σ H,W m σ H →
 c σ H λb H1=>if b=NG then ∃N:St→Hp→Prop,(∀σ' H',N σ' H'→∃m',m'<m∧W m' σ' H')∧tb {D with nx:=N,ct:=N,bk:=D.nx} σ H1 else D.nx σ H1
theorem yr{c:AB}{body:List AH}{tc:TT}{tb:TS}(hp:EC (AG X.prog X.w) X.A X.env X.xe)(hc:PT X c tc)(hb:DY X body tb):PS X (.While c body [] pos) (RC tc tb):=by
 intro pins s σ H D I h;obtain⟨W,⟨m0,w0⟩,turn⟩:=h;refine wpAny_While (codeAny_whileLoop (λn s'=>∃σ' H',Inv X pins σ' H' s'∧W n σ' H') ?_ m0 ⟨σ,H,I,w0⟩);rintro n s1 ⟨σ1,H1,I1,w1⟩;refine BO hp (jA (hc pins s1 σ1 H1 _ I1 (turn n σ1 H1 w1)) λb s2 ⟨H2,I2,q2⟩=>?_);cases b with
 | true=>
  obtain⟨N,hN,q2⟩:=q2;rw[if_pos rfl];refine BO hp (jA (hb pins s2 σ1 H2 _ I2 q2) λf s3 q3=>?_);cases f with
  | next=>obtain⟨σ3,H3,I3,n3⟩:=q3;obtain⟨m',hm,w3⟩:=hN σ3 H3 n3;exact⟨m',hm,σ3,H3,I3,w3⟩
  | cont=>obtain⟨σ3,H3,I3,n3⟩:=q3;obtain⟨m',hm,w3⟩:=hN σ3 H3 n3;exact⟨m',hm,σ3,H3,I3,w3⟩
  | brk=>exact q3
  | ret v=>exact q3
 | false=>rw[if_neg E2];exact EE ⟨σ1,H2,I2,q2⟩
end
structure It where
 go:Nat→Hp→Prop
 yld:Nat→Hp→V→Hp→Prop
 stop:Nat→Hp→Prop
def Xe(X:Cx)(pins:List (A7×Obj))(H:Hp)(b:A7):Prop:=
 H b=none∧b≠X.env.locals∧b∉X.fs∧(b∈X.ex∨X.s₀.heap.objs.size≤b)∧(∀x c,X.env.cells.lookup x=ND c→c≠b)∧∀p∈X.pn++pins,p.1≠b
theorem Inv.aFe{X:Cx}{pins:List (A7×Obj)}{σ:St}{H H':Hp}{s:A8}{b:A7}(I:Inv X pins σ H s)(hb:s.heap.objs.size≤b)(hn:H' b=none):Xe X pins H' b:=by
 refine⟨hn,O6 (E1 I.lt hb),I.aIT hb,.inr (G2 I.sz hb),λx c e z=>?_,λp hp z=>?_⟩
 ·obtain⟨v,q⟩:=I.cell x c e;exact absurd (E1 q.lt (by rw[z];exact hb)) (K7 _)
 ·exact absurd (E1 (AJ (I.pin p hp).1) (by rw[z];exact hb)) (K7 _)
structure Turn(P:AI)(w:AL)(K:aF)(tg:AB)(J:It)(fp:List A7)(it:A7)(tn:Nat→AM→Prop):Prop where
 mem:it∈fp
 obj:∀i h,tn i h→∀b∈fp,∃o,h.get? b=ND o∧∀v,o.data≠.cell v
 keep:∀i h h',tn i h→(∀b∈fp,∀o,h.get? b=ND o→h'.get? b=ND o)→tn i h'
 item:∀(X:Cx),X.prog=P→X.w=w→X.K=K→X.calm=NG→∀(i:Nat)(pins:List (A7×Obj))(s:A8)(σ:St)(H:Hp)(E:A6→A8→Prop),Inv X pins σ H s→(∀b∈fp,Xe X pins H b)→tn i s.heap→J.go i H →
  AF (AG P w) X.A (DD (.ref it)) (λr s1=>∃u,r=ND u ∧
   AF (AG P w) X.A (EG tg (.ref it) u) (λ_ s2=>∃x H',Inv X pins σ H' s2∧RelV x u∧J.yld i H x H'∧tn (i+1) s2.heap∧∀b∈fp,H' b=none) E s1) E s
 done:∀(X:Cx),X.prog=P→X.w=w→X.K=K→X.calm=NG→∀(i:Nat)(pins:List (A7×Obj))(s:A8)(σ:St)(H:Hp)(E:A6→A8→Prop),Inv X pins σ H s→(∀b∈fp,Xe X pins H b)→tn i s.heap→J.stop i H →
  AF (AG P w) X.A (DD (.ref it)) (λr s1=>r=none∧Inv X pins σ H s1) E s
 self:∀(A:AN)(i:Nat)(s:A8)(Q:A6→A8→Prop)(E:A6→A8→Prop),tn i s.heap→Q (.ref it) s→AF (AG P w) A (HG (.ref it)) Q E s
abbrev TI:=St→Hp→(It→Hp→Prop)→Prop
def PIE(X:Cx)(pins:List (A7×Obj))(σ:St)(tg:AB)(R:It→Hp→Prop)(itv:A6)(s2:A8):Prop:=
 ∃(it:A7)(fp:List A7)(tn:Nat→AM→Prop)(J:It)(H':Hp),itv=.ref it∧Inv X pins σ H' s2∧Turn X.prog X.w X.K tg J fp it tn∧tn 0 s2.heap∧(∀b∈fp,Xe X pins H' b)∧R J H'
def PI(X:Cx)(tg iter:AB)(wi:TI):Prop:=
 ∀(pins:List (A7×Obj))(s:A8)(σ:St)(H:Hp)(R:It→Hp→Prop),Inv X pins σ H s→wi σ H R →
  AF (AG X.prog X.w) X.A (AO iter X.env) (λv s1=>AF (AG X.prog X.w) X.A (HG v) (PIE X pins σ tg R) X.xe s1) X.xe s
theorem yu{M:IL}{A:AN}{E:A6→A8→Prop}{s:A8}{tg:AB}{it:A7}{u:A6}{o:Obj}{n:String}{vs:Array A6}{Q:Unit→A8→Prop}(ho:s.heap.get? it=ND o)(hc:o.cls=.type n)(hd:o.data=.fields vs)
    (hn:["enumerate", "zip", "dict_itemiterator", "dict_reverseitemiterator", "odict_iterator", "itertools.zip_longest", "itertools.pairwise"].contains n=NH) (hQ:Q () s):AF M A (EG tg (.ref it) u) Q E s:=by
  unfold EG;cases tg<;>first
    | exact AE hQ
    | (cases u<;>first
        | exact AE hQ
        | (refine A9 (IP ho ?_)
           rw[hc,hd];show AF M A (if(["enumerate", "zip", "dict_itemiterator", "dict_reverseitemiterator", "odict_iterator", "itertools.zip_longest", "itertools.pairwise"].contains n&&vs[0]?==ND (EH _))=NG then _ else _) Q E s;rw[if_neg (by intro h;rw[hn,Bool.false_and]at h;cases h)];exact AE hQ))
def Itl(K:aF)(a:A7):It:=
 ⟨λi H=>∃xs x,pK K H a xs∧xs[i]?=ND x,λi H x H'=>H'=H∧∀xs,pK K H a xs→xs[i]?=ND x,λi H=>∃xs,pK K H a xs∧xs.length≤i⟩
def Itt(K:aF)(a:A7):It:=
 ⟨λi H=>∃xs x,zO K H a xs∧xs[i]?=ND x,λi H x H'=>H'=H∧∀xs,zO K H a xs→xs[i]?=ND x,λi H=>∃xs,zO K H a xs∧xs.length≤i⟩
def Itr(lo:Int)(n:Nat):It:=⟨λi _=>i<n,λi H x H'=>H'=H∧x=.int (lo+i),λi _=>n≤i⟩
theorem kh{P:AI}{w:AL}{K:aF}{tg:AB}(a it:A7):Turn P w K tg (Itl K a) [it] it (λi h=>h.IsListIter it a i) where
 mem:=by simp
 obj:=λi h st b hb=>by
  have e:b=it:=by simpa using hb
  subst e;obtain⟨o,e,c,d⟩:=st;exact⟨o,e,λv z=>by rw[d]at z;cases z⟩
 keep:=λi h h' st k=>st.at λo e=>k it (by simp) o e
 item:=by intro X hP hw hK hc i pins s σ H E I hf st hg;subst hP hw hK;obtain⟨xs,x,hq,hx⟩:=hg;obtain⟨its,rv,p,hz⟩:=I.list hq;obtain⟨u,hu,ru⟩:=rv.get hx;obtain⟨f0,f1,f2,f3,f4,f5⟩:=hf it (by simp);refine wpAny_pyNext_list_item st p.isList (x:=u) (by simpa using hu) λh' st' sb=>?_;have I1:Inv X pins σ H {s with heap:=h'}:=I.turned (t':=s.toks) (λb o hb e=>(sb.2 b hb).trans e) f0 f1 f3 f4 f5;obtain⟨o,e,c,d⟩:=id st';exact⟨u,U,yu (s:={s with heap:=h'}) e c d (by decide) ⟨x,H,I1,ru,⟨U,λys hy=>by rw[I.EY hy hq];exact hx⟩,st',λb hb=>(hf b hb).1⟩⟩
 done:=by intro X hP hw hK hc i pins s σ H E I hf st hg;subst hP hw hK;obtain⟨xs,hq,hx⟩:=hg;obtain⟨its,rv,p,hz⟩:=I.list hq;obtain⟨f0,f1,f2,f3,f4,f5⟩:=hf it (by simp);have hl:=rv.length;exact wpAny_pyNext_list_end (I.ok.hd hc) st p.isList (by simp;omega) λh' eb=>⟨U,I.turned (t':=s.toks) (λb o hb e=>eb b o hb e) f0 f1 f3 f4 f5⟩
 self:=λ_ _ _ _ _ st h=>wpAny_pyIter_listiter st h
theorem RD{P:AI}{w:AL}{K:aF}{tg:AB}(a it:A7):Turn P w K tg (Itt K a) [it] it (λi h=>h.IsTupleIter it a i) where
 mem:=by simp
 obj:=λi h st b hb=>by
  have e:b=it:=by simpa using hb
  subst e;obtain⟨o,e,c,d⟩:=st;exact⟨o,e,λv z=>by rw[d]at z;cases z⟩
 keep:=λi h h' st k=>st.at λo e=>k it (by simp) o e
 item:=by intro X hP hw hK hc i pins s σ H E I hf st hg;subst hP hw hK;obtain⟨xs,x,hq,hx⟩:=hg;obtain⟨its,rv,p,hz⟩:=I.tuple hq;obtain⟨u,hu,ru⟩:=rv.get hx;obtain⟨f0,f1,f2,f3,f4,f5⟩:=hf it (by simp);refine wpAny_pyNext_tuple_item st (show s.heap.IsTuple a its.toArray from p) (x:=u) (by simpa using hu) λh' st' sb=>?_;have I1:Inv X pins σ H {s with heap:=h'}:=I.turned (t':=s.toks) (λb o hb e=>(sb.2 b hb).trans e) f0 f1 f3 f4 f5;obtain⟨o,e,c,d⟩:=id st';exact⟨u,U,yu (s:={s with heap:=h'}) e c d (by decide) ⟨x,H,I1,ru,⟨U,λys hy=>by rw[I.Ue hy hq];exact hx⟩,st',λb hb=>(hf b hb).1⟩⟩
 done:=by intro X hP hw hK hc i pins s σ H E I hf st hg;subst hP hw hK;obtain⟨xs,hq,hx⟩:=hg;obtain⟨its,rv,p,hz⟩:=I.tuple hq;obtain⟨f0,f1,f2,f3,f4,f5⟩:=hf it (by simp);have hl:=rv.length;exact wpAny_pyNext_tuple_end (I.ok.hd hc) st (show s.heap.IsTuple a its.toArray from p) (by simp;omega) λh' eb=>⟨U,I.turned (t':=s.toks) (λb o hb e=>eb b o hb e) f0 f1 f3 f4 f5⟩
 self:=λ_ _ _ _ _ st h=>wpAny_pyIter_tupleiter st h
theorem RG{P:AI}{w:AL}{K:aF}{tg:AB}(it:A7)(lo:Int)(n:Nat):Turn P w K tg (Itr lo n) [it] it (λi h=>IsRangeIter h it (lo+(i:Nat)*1) ((n:Int)-(i:Nat)) 1) where
 mem:=by simp
 obj:=λi h st b hb=>by
  have e:b=it:=by simpa using hb
  subst e;exact⟨_,st,λv z=>by
   have z':Data.fields _=Data.cell v:=z;cases z'⟩
 keep:=λi h h' st k=>k it (by simp) _ st
 item:=by intro X hP hw hK hc i pins s σ H E I hf st hg;subst hP hw hK;obtain⟨f0,f1,f2,f3,f4,f5⟩:=hf it (by simp);have W:=Walks.range (prog:=X.prog) (w:=X.w) (I.ok.hd hc) it lo 1 n;refine W.item i s _ _ hg st λv h' tk hv st' kk=>?_;obtain⟨t,rfl⟩:=hv;have I1:Inv X pins σ H {s with heap:=h',toks:=tk}:=I.turned (λb o hb e=>kk b o (by simpa using hb) e) f0 f1 f3 f4 f5;refine⟨_,U,yu (s:={s with heap:=h',toks:=tk}) (n := "range_iterator") st' U U (by decide) ⟨.int (lo+i),H,I1,⟨t,?_⟩,⟨U,U⟩,st',λb hb=>(hf b hb).1⟩⟩;rw[Int.mul_one]
 done:=by intro X hP hw hK hc i pins s σ H E I hf st hg;subst hP hw hK;obtain⟨f0,f1,f2,f3,f4,f5⟩:=hf it (by simp);exact wpAny_pyNext_range_end (I.ok.hd hc) st (by have:n≤i:=hg;omega) λh' eb=>⟨U,I.turned (t':=s.toks) (λb o hb e=>eb b o hb e) f0 f1 f3 f4 f5⟩
 self:=λ_ _ _ _ _ st h=>wpAny_pyIter_rangeiter st h
end L2
namespace L2
open PySem PySem.Spec PyProof.Rows
section
variable{X:Cx}{tg:AB}
def aD9(K:aF)(tl:TE):TI:=λσ H R=>tl σ H λx H1=>∃a,x=.ref a∧(∃xs,pK K H1 a xs)∧R (Itl K a) H1
def aHk(K:aF)(tl:TE):TI:=λσ H R=>tl σ H λx H1=>∃a,x=.ref a∧(∃xs,zO K H1 a xs)∧R (Itt K a) H1
theorem ZM{l:AB}{tl:TE}(hl:PE X l tl):PI X tg l (aD9 X.K tl):=by
 intro pins s σ H R I h;refine jA (hl pins s σ H _ I h) λv s1 ⟨x,H1,I1,r1,q1⟩=>?_;obtain⟨a,e,⟨xs,hq⟩,q⟩:=q1;subst e;cases r1;obtain⟨its,rv,p,hz⟩:=I1.list hq;refine DU p.isList ?_;refine⟨s1.heap.objs.size,[s1.heap.objs.size],_,_,H1,U,I1.kept (t':=s1.toks) λb o e=>AA _ e,kh a _,⟨_,AK _ U,U,U⟩,λb hb=>?_,q⟩;have e:b=s1.heap.objs.size:=by simpa using hb
 subst e;exact I1.aFe (C6 _) (I1.hok.fresh (C6 _))
theorem yw{l:AB}{tl:TE}(hl:PE X l tl):PI X tg l (aHk X.K tl):=by
 intro pins s σ H R I h;refine jA (hl pins s σ H _ I h) λv s1 ⟨x,H1,I1,r1,q1⟩=>?_;obtain⟨a,e,⟨xs,hq⟩,q⟩:=q1;subst e;cases r1;obtain⟨its,rv,p,hz⟩:=I1.tuple hq;refine wpAny_pyIter_tuple (show s1.heap.IsTuple a its.toArray from p) ?_;refine⟨s1.heap.objs.size,[s1.heap.objs.size],_,_,H1,U,I1.kept (t':=s1.toks) λb o e=>AA _ e,RD a _,⟨_,AK _ U,U,U⟩,λb hb=>?_,q⟩;have e:b=s1.heap.objs.size:=by simpa using hb
 subst e;exact I1.aFe (C6 _) (I1.hok.fresh (C6 _))
theorem FN{pins:List (A7×Obj)}{σ:St}{H:Hp}{s:A8}{R:It→Hp→Prop}{E:A6→A8→Prop}{lo hi:Int}{t u v:Tok}{tk:Nat}(I:Inv X pins σ H s)(h1:-(2 ^ 62)≤lo)(h2:lo<2 ^ 62)(h3:-(2 ^ 62)≤hi)(h4:hi<2 ^ 62)
  (q:R (Itr lo (hi-lo).toNat) H):AF (AG X.prog X.w) X.A (HG (.ref s.heap.objs.size)) (PIE X pins σ tg R) E {s with heap:=s.heap.push {cls:=.type "range", data:=.fields #[.int lo t,.int hi u,.int 1 v]},toks:=tk}:=by
 refine wpAny_pyIter_range (LU ..) (small_one h1 h2 h3 h4) ?_;have I1:Inv X pins σ H {s with heap:=s.heap.push {cls:=.type "range", data:=.fields #[.int lo t,.int hi u,.int 1 v]},toks:=tk}:=I.kept λb o e=>AA _ e;refine⟨(s.heap.push {cls:=.type "range", data:=.fields #[.int lo t,.int hi u,.int 1 v]}).objs.size,[(s.heap.push {cls:=.type "range", data:=.fields #[.int lo t,.int hi u,.int 1 v]}).objs.size],_,_,H,U,
  I1.kept (t':=tk) λb o e=>AA _ e,RG _ lo (hi-lo).toNat,?_,λb hb=>?_,q⟩
 ·have e1:lo+((0:Nat):Int)*1=lo:=by simp
  have e2:(((hi-lo).toNat:Nat):Int)-((0:Nat):Int)=LM lo hi 1:=by rw[KL];split<;>omega
  show IsRangeIter _ _ (lo+((0:Nat):Int)*1) ((((hi-lo).toNat:Nat):Int)-((0:Nat):Int)) 1;rw[e1,e2];exact AK _ U
 ·have e:b=(s.heap.push {cls:=.type "range", data:=.fields #[.int lo t,.int hi u,.int 1 v]}).objs.size:=by simpa using hb
  subst e;exact I1.aFe (C6 _) (I1.hok.fresh (C6 _))
def yx(ta:TA):TI:=λσ H R=>ta σ H λvs H1=>∃j:Int,vs=[.int j]∧-(2 ^ 62)≤j∧j<2 ^ 62∧R (Itr 0 j.toNat) H1
def yz(ta:TA):TI:=λσ H R=>ta σ H λvs H1=>∃i j:Int,vs=[.int i,.int j]∧(-(2 ^ 62)≤i∧i<2 ^ 62∧-(2 ^ 62)≤j∧j<2 ^ 62)∧R (Itr i (j-i).toNat) H1
theorem Ug{a:AB}{ta:TA}{p pos:Pos}(hg:Gl X "range") (hm:X.mg "range" = none) (ha:PA X [a] ta) (hs:AD [a] X.env=[(NH,AO a X.env)]:=by rfl):PI X tg (.Call (.Name "range" p) [a] [] pos) (yx ta):=by
 intro pins s σ H R I h;refine Call_ (wN I hg hm boot_range (K8 (jA (ha pos pins s σ H _ I h) λus s1 ⟨vs,H1,I1,r1,q1⟩=>?_) hs U));obtain⟨j,e,q1,q2,q⟩:=q1;subst e;cases r1 with
 | cons r rr=>cases rr;obtain⟨t,rfl⟩:=r;exact call_range_1 (FN I1 (by omega) (by omega) q1 q2 (by simpa using q))
theorem Uh{a b:AB}{ta:TA}{p pos:Pos}(hg:Gl X "range") (hm:X.mg "range" = none) (ha:PA X [a,b] ta) (hs:AD [a,b] X.env=[(NH,AO a X.env),(NH,AO b X.env)]:=by rfl) (hs2:AD [b] X.env=[(NH,AO b X.env)]:=by rfl) :
  PI X tg (.Call (.Name "range" p) [a,b] [] pos) (yz ta):=by
 intro pins s σ H R I h;refine Call_ (wN I hg hm boot_range (K8 (jA (ha pos pins s σ H _ I h) λus s1 ⟨vs,H1,I1,r1,q1⟩=>?_) (by rw[hs,hs2]) (by rw[hs2];rfl)));obtain⟨i,j,e,⟨q1,q2,q3,q4⟩,q⟩:=q1;subst e;cases r1 with
 | cons r rr=>
  cases rr with
  | cons r' rr=>cases rr;obtain⟨t,rfl⟩:=r;obtain⟨t',rfl⟩:=r';exact Kn (FN I1 q1 q2 q3 q4 q)
def Xf(wi:TI)(g:TG)(tb:TS):TS:=λD σ H=>wi σ H λJ H1=>∃W:Nat→Nat→St→Hp→Prop,(∃m,W 0 m σ H1)∧∀i m σ H,W i m σ H →
 (J.stop i H∧D.nx σ H)∨(J.go i H∧∃N:St→Hp→Prop,(∀σ' H',N σ' H'→∃m',m'<m∧W (i+1) m' σ' H')∧∀x H',J.yld i H x H'→g x σ H' λσ2 H2=>tb {D with nx:=N,ct:=N,bk:=D.nx} σ2 H2)
def Nm(fp:List A7)(h:AM):List (A7×Obj):=fp.filterMap λb=>(h.get? b).map λo=>(b,o)
theorem wO{fp:List A7}{h:AM}{b:A7}{o:Obj}(hb:b∈fp)(e:h.get? b=ND o):(b,o)∈Nm fp h:=c9.mpr ⟨b,hb,by rw[e];rfl⟩
theorem kj{fp:List A7}{h:AM}{p:A7×Obj}(hp:p∈Nm fp h):p.1∈fp∧h.get? p.1=ND p.2:=by
 obtain⟨b,hb,e⟩:=c9.mp hp;cases q:h.get? b with
 | none=>rw[q]at e;cases e
 | some o=>rw[q]at e;have e':(b,o)=p:=F4 e;subst e';exact⟨hb,q⟩
theorem Inv.pinned{pins:List (A7×Obj)}{σ:St}{H:Hp}{s:A8}{fp:List A7}(I:Inv X pins σ H s)(hf:∀b∈fp,Xe X pins H b)(ho:∀b∈fp,∃o,s.heap.get? b=ND o∧∀v,o.data≠.cell v):Inv X (pins++Nm fp s.heap) σ H s:=
 I.ZJ λp hp=>(G7.mp hp).elim (λz=>I.pin p (G3 _ z)) λz=>by obtain⟨hb,e⟩:=kj z;obtain⟨f0,f1,f2,_⟩:=hf p.1 hb;obtain⟨o,e',d⟩:=ho p.1 hb;rw[e]at e';cases e';exact⟨e,f0,f1,f2,d⟩
theorem Inv.Ft{pins pl:List (A7×Obj)}{σ:St}{H:Hp}{s:A8}(I:Inv X (pins++pl) σ H s):Inv X pins σ H s:=I.ZJ λp hp=>I.pin p (G3 _ (N8 _ hp))
theorem Xg{iter:AB}{body:List AH}{wi:TI}{g:TG}{tb:TS}{pos:Pos}(hp:EC (AG X.prog X.w) X.A X.env X.xe)(hc:X.calm=NG)(hi:PI X tg iter wi)(hg:PG X tg g)(hb:DY X body tb)
  (hs:∀x,B4 iter X.env x=pure x:=by intro _;rfl):PS X (.For tg iter body [] pos) (Xf wi g tb):=by
 intro pins s σ H D I h;refine wpAny_For (jA (hi pins s σ H _ I h) λv s1 h1=>jA h1 λitv s2 h2=>?_) hs;obtain⟨it,fp,tn,J,H2,e,I2,T,st2,f2,W,⟨m0,w0⟩,turn⟩:=h2;subst e;have stat:∀{H':Hp},(∀b∈fp,H' b=none)→∀b∈fp,Xe X pins H' b:=λhn b hb=>⟨hn b hb,(f2 b hb).2⟩
 refine codeAny_forLoop_any (λn s'=>∃i σ' H',Inv X pins σ' H' s'∧tn i s'.heap∧(∀b∈fp,H' b=none)∧W i n σ' H') ?_ m0 ⟨0,σ,H2,I2,st2,λb hb=>(f2 b hb).1,w0⟩;rintro n s3 ⟨i,σ3,H3,I3,st3,fr3,w3⟩;rcases turn i n σ3 H3 w3 with ⟨stop,qn⟩ | ⟨go,N,hN,step⟩
 ·refine BO hp (jA (T.done X U U U hc i pins s3 σ3 H3 X.xe I3 (stat fr3) st3 stop) λr s4 ⟨hr,I4⟩=>?_);subst hr;exact EE ⟨σ3,H3,I4,qn⟩
 ·refine BO hp (jA (T.item X U U U hc i pins s3 σ3 H3 X.xe I3 (stat fr3) st3 go) λr s4 ⟨u,hr,h4⟩=>?_);subst hr;refine BO hp (jA h4 λ_ s5 ⟨x,H5,I5,r5,y5,st5,fr5⟩=>?_);have I5':=I5.pinned (stat fr5) (T.obj _ _ st5);refine BO hp (jA (hg _ s5 σ3 H5 x u _ I5' r5 (step x H5 y5)) λ_ s6 ⟨σ6,H6,I6,q6⟩=>?_);refine BO hp (jA (hb _ s6 σ6 H6 _ I6 q6) λf s7 q7=>?_);have again:∀{σ7:St} {H7:Hp},Inv X (pins++Nm fp s5.heap) σ7 H7 s7→N σ7 H7→∃m,m<n∧∃i σ' H',Inv X pins σ' H' s7∧tn i s7.heap∧(∀b∈fp,H' b=none)∧W i m σ' H':=λ{σ7 H7} I7 n7=>by obtain⟨m',hm,w7⟩:=hN σ7 H7 n7;refine⟨m',hm,i+1,σ7,H7,I7.Ft,T.keep _ _ _ st5 λb hb o e=>(I7.pin (b,o) (G3 _ (G3 _ (wO hb e)))).1,λb hb=>?_,w7⟩;obtain⟨o,e,d⟩:=T.obj _ _ st5 b hb;exact(I7.pin (b,o) (G3 _ (G3 _ (wO hb e)))).2.1
  cases f with
  | next=>obtain⟨σ7,H7,I7,n7⟩:=q7;exact again I7 n7
  | cont=>obtain⟨σ7,H7,I7,n7⟩:=q7;exact again I7 n7
  | brk=>obtain⟨σ7,H7,I7,q7⟩:=q7;exact⟨σ7,H7,I7.Ft,q7⟩
  | ret v=>obtain⟨x7,σ7,H7,I7,r7,q7⟩:=q7;exact⟨x7,σ7,H7,I7.Ft,r7,q7⟩
end
end L2
namespace L2
open PySem PySem.Spec PyProof.Rows
abbrev R2:=V→V→Hp→VK→Prop
def wM(X:Cx)(f:A6→A6→Sem A6)(r:R2):Prop:=
 ∀(pins:List (A7×Obj))(s:A8)(σ:St)(H:Hp)(x y:V)(v u:A6)(Q:VK),Inv X pins σ H s→RelV x v→RelV y u→r x y H Q →
  AF (AG X.prog X.w) X.A (f v u) (EP X pins σ Q) X.xe s
def UnR(X:Cx)(f:A6→Sem A6)(r:V→Hp→VK→Prop):Prop:=
 ∀(pins:List (A7×Obj))(s:A8)(σ:St)(H:Hp)(x:V)(v:A6)(Q:VK),Inv X pins σ H s→RelV x v→r x H Q →
  AF (AG X.prog X.w) X.A (f v) (EP X pins σ Q) X.xe s
def nF(X:Cx)(f:A6)(r:List V→Hp→VK→Prop):Prop:=
 ∀(pins:List (A7×Obj))(s:A8)(σ:St)(H:Hp)(xs:List V)(us:List A6)(Q:VK),Inv X pins σ H s→Vals xs us→r xs H Q →
  AF (AG X.prog X.w) X.A (call f us) (EP X pins σ Q) X.xe s
def CW(r:R2)(ta tb:TE):TE:=λσ H Q=>ta σ H λx H1=>tb σ H1 λy H2=>r x y H2 Q
def tUn(r:V→Hp→VK→Prop)(ta:TE):TE:=λσ H Q=>ta σ H λx H1=>r x H1 Q
def rI(C:Int→Int→Prop)(g:Int→Int→V):R2:=λx y H Q=>∃i j,x=.int i∧y=.int j∧C i j∧Q (g i j) H
def xq(g:Int→Int→V):R2:=λx y H Q=>∃i j,x=.int i∧y=.int j∧Q (g i j) H
def rU(g:Int→V):V→Hp→VK→Prop:=λx H Q=>∃i,x=.int i∧Q (g i) H
section
variable{X:Cx}{a b c:AB}{ta tb tc:TE}{pos:Pos}
theorem aFf(ha:PE X a ta)(hb:PE X b tb){pins:List (A7×Obj)}{s:A8}{σ:St}{H:Hp}{R:V→V→Hp→Prop}(I:Inv X pins σ H s)
  (h:ta σ H λx H1=>tb σ H1 λy H2=>R x y H2) {Q:A6→A8→Prop} {f:A6→A6→Sem A6}
  (hf:∀v u s2 x y H2,Inv X pins σ H2 s2→RelV x v→RelV y u→R x y H2→AF (AG X.prog X.w) X.A (f v u) Q X.xe s2) :
  AF (AG X.prog X.w) X.A (AO a X.env) (λv s₁=>AF (AG X.prog X.w) X.A (AO b X.env) (λu s₂=>AF (AG X.prog X.w) X.A (f v u) Q X.xe s₂) X.xe s₁) X.xe s:=by
 refine jA (ha pins s σ H _ I h) λv s1 ⟨x,H1,I1,r1,q1⟩=>?_;refine jA (hb pins s1 σ H1 _ I1 q1) λu s2 ⟨y,H2,I2,r2,q2⟩=>?_;exact hf v u s2 x y H2 I2 r1 r2 q2
theorem aEa{op:Operator}{r:R2}(ho:wM X (DL op) r)(ha:PE X a ta)(hb:PE X b tb):PE X (.BinOp a op b pos) (CW r ta tb):=by intro pins s σ H Q I h;exact wpAny_BinOp (aFf ha hb I h λv u s2 x y H2 I2 rx ry q=>ho pins s2 σ H2 x y v u Q I2 rx ry q)
theorem aHl{op:UnaryOp}{r:V→Hp→VK→Prop}(ho:UnR X (unaryOp op) r)(ha:PE X a ta):PE X (.UnaryOp op a pos) (tUn r ta):=by intro pins s σ H Q I h;exact UnaryOp_ (jA (ha pins s σ H _ I h) λv s1 ⟨x,H1,I1,r1,q1⟩=>ho pins s1 σ H1 x v Q I1 r1 q1)
theorem opI{f:A6→A6→Sem A6}{C:Int→Int→Prop}{g:Int→Int→Int}
  (rule:∀(i j:Int)(t u:Tok)(s:A8)(Q:A6→A8→Prop)(E:A6→A8→Prop),C i j→Q (.int (g i j) s.toks) {s with toks:=s.toks+1}→AF (AG X.prog X.w) X.A (f (.int i t) (.int j u)) Q E s) :
  wM X f (rI C λi j=>.int (g i j)):=by
 intro pins s σ H x y v u Q I rx ry h;obtain⟨i,j,rfl,rfl,hc,q⟩:=h;obtain⟨t,rfl⟩:=rx;obtain⟨t',rfl⟩:=ry;exact rule i j t t' s _ _ hc ⟨.int (g i j),H,I.tok _,⟨_,U⟩,q⟩
theorem aHm{f:A6→A6→Sem A6}{g:Int→Int→Int}
  (rule:∀(i j:Int)(t u:Tok)(s:A8)(Q:A6→A8→Prop)(E:A6→A8→Prop),Q (.int (g i j) s.toks) {s with toks:=s.toks+1}→AF (AG X.prog X.w) X.A (f (.int i t) (.int j u)) Q E s) :
  wM X f (xq λi j=>.int (g i j)):=by
 intro pins s σ H x y v u Q I rx ry h;obtain⟨i,j,rfl,rfl,q⟩:=h;obtain⟨t,rfl⟩:=rx;obtain⟨t',rfl⟩:=ry;exact rule i j t t' s _ _ ⟨.int (g i j),H,I.tok _,⟨_,U⟩,q⟩
theorem aFg{f:A6→A6→Sem A6}{g:Int→Int→Bool}
  (rule:∀(i j:Int)(t u:Tok)(s:A8)(Q:A6→A8→Prop)(E:A6→A8→Prop),Q (.bool (g i j)) s→AF (AG X.prog X.w) X.A (f (.int i t) (.int j u)) Q E s) :
  wM X f (xq λi j=>.bl (g i j)):=by
 intro pins s σ H x y v u Q I rx ry h;obtain⟨i,j,rfl,rfl,q⟩:=h;obtain⟨t,rfl⟩:=rx;obtain⟨t',rfl⟩:=ry;exact rule i j t t' s _ _ ⟨.bl (g i j),H,I,U,q⟩
def lg(i j:Int):Prop:=0<j∧j<1073741824
def lq(i j:Int):Prop:=0≤j∧j≤1000000∧i.natAbs<2 ^ 64
def Su(i j:Int):Prop:=(-(2 ^ 64)<i∧i<2 ^ 64)∨(-(2 ^ 64)<j∧j<2 ^ 64)
theorem Su.ok{i j:Int}(h:Su i j):IntMulOk i j:=by
 rcases h with ⟨h1,h2⟩ | ⟨h1,h2⟩
 ·exact .of_left (KM h1 h2)
 ·exact .of_right (KM h1 h2)
theorem aFh:wM X (DL .Add) (xq λi j=>.int (i+j)):=aHm λ_ _ _ _ _ _ _ q=>add_int q
theorem aFi:wM X (DL .Sub) (xq λi j=>.int (i-j)):=aHm λ_ _ _ _ _ _ _ q=>sub_int q
theorem aFj:wM X (DL .Mult) (rI Su λi j=>.int (i*j)):=opI λ_ _ _ _ _ _ _ hc q=>mul_int q hc.ok
theorem aCz:wM X (DL .FloorDiv) (rI lg λi j=>.int (i/j)):=opI λi j _ _ _ _ _ hc q=>by have h1:(0:Int)<j:=hc.1;have h2:j<1073741824:=hc.2;exact floordiv_int (by omega) (by rw[Int.fdiv_eq_ediv_of_nonneg i (by omega)];exact q) (.inl (PyProof.noPylong_small (by omega)))
theorem aFk:wM X (DL .Mod) (rI (λ_ j=>0<j) λi j=>.int (i%j)):=opI λi j _ _ _ _ _ hc q=>by have h1:(0:Int)<j:=hc;exact mod_int' (by omega) (by rw[Int.fmod_eq_emod_of_nonneg i (by omega)];exact q)
theorem aFl:wM X (DL .Pow) (rI lq λi j=>.int (i ^ j.toNat)):=opI λ_ _ _ _ _ _ _ hc q=>pow_int_small hc.1 hc.2.1 hc.2.2 q
theorem unI{f:A6→Sem A6}{g:Int→Int}
  (rule:∀(i:Int)(t:Tok)(s:A8)(Q:A6→A8→Prop)(E:A6→A8→Prop),Q (.int (g i) s.toks) {s with toks:=s.toks+1}→AF (AG X.prog X.w) X.A (f (.int i t)) Q E s) :
  UnR X f (rU λi=>.int (g i)):=by
 intro pins s σ H x v Q I rx h;obtain⟨i,rfl,q⟩:=h;obtain⟨t,rfl⟩:=rx;exact rule i t s _ _ ⟨.int (g i),H,I.tok _,⟨_,U⟩,q⟩
theorem aFm:UnR X (unaryOp .USub) (rU λi=>.int (-i)):=unI λ_ _ _ _ _ q=>neg_int q
end
def aCA:V→V→Bool
  | .non,.non=>NG | .non,.int _=>NG | .int _,.non=>NG | .non,.bl _=>NG | .bl _,.non=>NG | .non,.str _=>NG | .str _,.non=>NG
  | .int _,.int _=>NG | .bl _,.bl _=>NG | .str _,.str _=>NG | .byt _,.byt _=>NG
  | .int _,.str _=>NG | .str _,.int _=>NG | .bl _,.str _=>NG | .str _,.bl _=>NG
  | _,_=>NH
def rEq:R2:=λx y H Q=>aCA x y=NG∧Q (.bl (decide (x=y))) H
def rNe:R2:=λx y H Q=>aCA x y=NG∧Q (.bl (!decide (x=y))) H
theorem ZP{i j:Int}:decide (V.int i=V.int j)=(i==j):=by rw[M8];simp
theorem zb{i j:Bool}:decide (V.bl i=V.bl j)=(i==j):=by rw[M8];simp
theorem ZQ{i j:Str}:decide (V.str i=V.str j)=(i==j):=by rw[M8];simp
theorem ZR{i j:Array UInt8}:decide (V.byt i=V.byt j)=(i.toList==j.toList):=by rw[M8];cases i;cases j;simp
section
variable{X:Cx}{a b c:AB}{ta tb tc:TE}{pos:Pos}
theorem dM{pins:List (A7×Obj)}{σ:St}{H:Hp}{s:A8}{Q:VK}{k k':Bool}(I:Inv X pins σ H s)(q:Q (.bl k) H)(e:k=k'):EP X pins σ Q (.bool k') s:=by subst e;exact⟨.bl k,H,I,U,q⟩
theorem aHn:wM X (AS .Eq) rEq:=by
 intro pins s σ H x y v u Q I rx ry h;obtain⟨hs,q⟩:=h;cases x with
 | non=>
  cases rx;cases y with
  | non=>cases ry;exact PySem.EqNone.eq_none_none (dM I q (by simp))
  | bl j=>cases ry;exact PySem.EqNone.eq_none_bool (dM I q (by simp))
  | int j=>obtain⟨t',rfl⟩:=ry;exact PySem.EqNone.eq_none_int (dM I q (by simp))
  | str j=>obtain⟨t',rfl⟩:=ry;exact PySem.EqNone.eq_none_str (dM I q (by simp))
  | _=>exact absurd (show NH=NG from hs) E2
 | bl i=>
  cases rx;cases y with
  | non=>cases ry;exact PySem.EqNone.eq_bool_none (dM I q (by simp))
  | bl j=>cases ry;exact eq_bool (dM I q zb)
  | str j=>obtain⟨t',rfl⟩:=ry;exact PySem.EqMixed.eq_bool_str (dM I q (by simp))
  | _=>exact absurd (show NH=NG from hs) E2
 | int i=>
  obtain⟨t,rfl⟩:=rx;cases y with
  | non=>cases ry;exact PySem.EqNone.eq_int_none (dM I q (by simp))
  | int j=>obtain⟨t',rfl⟩:=ry;exact eq_int (dM I q ZP)
  | str j=>obtain⟨t',rfl⟩:=ry;exact PySem.EqMixed.eq_int_str (dM I q (by simp))
  | _=>exact absurd (show NH=NG from hs) E2
 | str i=>
  obtain⟨t,rfl⟩:=rx;cases y with
  | non=>cases ry;exact PySem.EqNone.eq_str_none (dM I q (by simp))
  | bl j=>cases ry;exact PySem.EqMixed.eq_str_bool (dM I q (by simp))
  | int j=>obtain⟨t',rfl⟩:=ry;exact PySem.EqMixed.eq_str_int (dM I q (by simp))
  | str j=>obtain⟨t',rfl⟩:=ry;exact eq_str (dM I q ZQ)
  | _=>exact absurd (show NH=NG from hs) E2
 | byt i=>
  obtain⟨t,rfl⟩:=rx;cases y with
  | byt j=>obtain⟨t',rfl⟩:=ry;exact PySem.W.eq_bytes (dM I q ZR)
  | _=>exact absurd (show NH=NG from hs) E2
 | _=>cases y<;>exact absurd (show NH=NG from hs) E2
theorem aHo:wM X (AS .NotEq) rNe:=by
 intro pins s σ H x y v u Q I rx ry h;obtain⟨hs,q⟩:=h;cases x with
 | non=>
  cases rx;cases y with
  | non=>cases ry;exact PySem.EqNone.ne_none_none (dM I q (by simp))
  | bl j=>cases ry;exact PySem.EqNone.ne_none_bool (dM I q (by simp))
  | int j=>obtain⟨t',rfl⟩:=ry;exact PySem.EqNone.ne_none_int (dM I q (by simp))
  | str j=>obtain⟨t',rfl⟩:=ry;exact PySem.EqNone.ne_none_str (dM I q (by simp))
  | _=>exact absurd (show NH=NG from hs) E2
 | bl i=>
  cases rx;cases y with
  | non=>cases ry;exact PySem.EqNone.ne_bool_none (dM I q (by simp))
  | bl j=>cases ry;exact ne_bool (dM I q (congrArg not zb))
  | str j=>obtain⟨t',rfl⟩:=ry;exact PySem.EqMixed.ne_bool_str (dM I q (by simp))
  | _=>exact absurd (show NH=NG from hs) E2
 | int i=>
  obtain⟨t,rfl⟩:=rx;cases y with
  | non=>cases ry;exact PySem.EqNone.ne_int_none (dM I q (by simp))
  | int j=>obtain⟨t',rfl⟩:=ry;exact ne_int (dM I q (congrArg not ZP))
  | str j=>obtain⟨t',rfl⟩:=ry;exact PySem.EqMixed.ne_int_str (dM I q (by simp))
  | _=>exact absurd (show NH=NG from hs) E2
 | str i=>
  obtain⟨t,rfl⟩:=rx;cases y with
  | non=>cases ry;exact PySem.EqNone.ne_str_none (dM I q (by simp))
  | bl j=>cases ry;exact PySem.EqMixed.ne_str_bool (dM I q (by simp))
  | int j=>obtain⟨t',rfl⟩:=ry;exact PySem.EqMixed.ne_str_int (dM I q (by simp))
  | str j=>obtain⟨t',rfl⟩:=ry;exact ne_str (dM I q (congrArg not ZQ))
  | _=>exact absurd (show NH=NG from hs) E2
 | byt i=>
  obtain⟨t,rfl⟩:=rx;cases y with
  | byt j=>obtain⟨t',rfl⟩:=ry;exact PySem.W.ne_bytes (dM I q (congrArg not ZR))
  | _=>exact absurd (show NH=NG from hs) E2
 | _=>cases y<;>exact absurd (show NH=NG from hs) E2
theorem Np:wM X (AS .Lt) (xq λi j=>.bl (decide (i<j))):=aFg λ_ _ _ _ _ _ _ q=>lt_int q
theorem zc:wM X (AS .LtE) (xq λi j=>.bl (decide (i≤j))):=aFg λ_ _ _ _ _ _ _ q=>le_int q
theorem aHp:wM X (AS .Gt) (xq λi j=>.bl (decide (j<i))):=aFg λ_ _ _ _ _ _ _ q=>gt_int q
theorem Xh:wM X (AS .Is) (λx y H Q=>y=.non∧Q (.bl (decide (x=.non))) H):=by
 intro pins s σ H x y v u Q I rx ry h;obtain⟨rfl,q⟩:=h;cases ry;refine is_none_gen (dM I q ?_);cases x<;>first
  | (cases rx;rfl)
  | (obtain⟨t,rfl⟩:=rx;rfl)
theorem Xi:wM X (AS .IsNot) (λx y H Q=>y=.non∧Q (.bl (!decide (x=.non))) H):=by
 intro pins s σ H x y v u Q I rx ry h;obtain⟨rfl,q⟩:=h;cases ry;refine isnot_none_gen (dM I q ?_);cases x<;>first
  | (cases rx;rfl)
  | (obtain⟨t,rfl⟩:=rx;rfl)
theorem wM.or{f:A6→A6→Sem A6}{r r':R2}(h:wM X f r)(h':wM X f r'):wM X f (λx y H Q=>r x y H Q∨r' x y H Q):=by
 intro pins s σ H x y v u Q I rx ry q;rcases q with q | q
 ·exact h pins s σ H x y v u Q I rx ry q
 ·exact h' pins s σ H x y v u Q I rx ry q
theorem cR(b:AB){op:EK}(h:op≠.In:=by decide)(h2:op≠.NotIn:=by decide):behindInMarks op b=NH:=by
 have e1:(op==CmpOp.In)=NH:=by cases op<;>first | rfl | exact absurd U h
 have e2:(op==CmpOp.NotIn)=NH:=by cases op<;>first | rfl | exact absurd U h2
 cases b<;>simp[behindInMarks,e1,e2]
theorem aCB{op:EK}{r:R2}(ho:wM X (AS op) r)(ha:PE X a ta)(hb:PE X b tb)(hm:behindInMarks op b=NH):PE X (.Compare a [op] [b] pos) (CW r ta tb):=by intro pins s σ H Q I h;exact JA (aFf ha hb I h λv u s2 x y H2 I2 rx ry q=>ho pins s2 σ H2 x y v u Q I2 rx ry q) hm
def FQ(t:TE):TT:=λσ H Q=>t σ H λx H'=>∃k,x=.bl k∧Q k H'
theorem aCC{op:EK}{r:R2}(ho:wM X (AS op) r)(ha:PE X a ta)(hb:PE X b tb)(hm:behindInMarks op b=NH):PT X (.Compare a [op] [b] pos) (FQ (CW r ta tb)):=by
 intro pins s σ H Q I h;refine Fs (jA (ha pins s σ H _ I h) λv s1 ⟨x,H1,I1,r1,q1⟩=>jA (hb pins s1 σ H1 _ I1 q1) λu s2 ⟨y,H2,I2,r2,q2⟩=>
  jA (ho pins s2 σ H2 x y v u _ I2 r1 r2 q2) λc s3 ⟨z,H3,I3,r3,k,e,q3⟩=>?_) hm
 subst e;cases r3;exact B3 ⟨H3,I3,q3⟩
def zf(r r':R2)(ta tb tc:TE):TE:=λσ H Q=>ta σ H λx H1=>tb σ H1 λy H2=>r x y H2 λz H3=>∃k,z=.bl k ∧
 (if k=NG then tc σ H3 λw' H4=>r' y w' H4 Q else Q (.bl NH) H3)
theorem zg{op op':EK}{r r':R2}(ho:wM X (AS op) r)(ho':wM X (AS op') r')(ha:PE X a ta)(hb:PE X b tb)(hc:PE X c tc)
  (hm:lastMarks [op,op'] [b,c]=NH:=by with_unfolding_all rfl):PT X (.Compare a [op,op'] [b,c] pos) (FQ (zf r r' ta tb tc)):=by
 intro pins s σ H Q I h;refine isTrue_chain (jA (ha pins s σ H _ I h) λv s1 ⟨x,H1,I1,r1,q1⟩=>test_link (jA (hb pins s1 σ H1 _ I1 q1) λu s2 ⟨y,H2,I2,r2,q2⟩=>
  jA (ho pins s2 σ H2 x y v u _ I2 r1 r2 q2) λd s3 ⟨z,H3,I3,r3,k,e,q3⟩=>?_)) hm
 subst e;cases r3;refine B3 ?_;cases k with
 | false=>
  obtain⟨k',e',q'⟩:=q3;cases e';exact ite_ff ⟨H3,I3,q'⟩
 | true=>refine ite_tt (test_last (jA (hc pins s3 σ H3 _ I3 q3) λw' s4 ⟨z',H4,I4,r4,q4⟩=>jA (ho' pins s4 σ H4 y z' u w' _ I4 r2 r4 q4) λd' s5 ⟨z2,H5,I5,r5,k2,e2,q5⟩=>?_));subst e2;cases r5;exact B3 ⟨H5,I5,q5⟩
theorem Nq:(sizeLine:Nat)<2 ^ 63:=by rw[Fa];decide
theorem vals1{x:V}{us:List A6}(r:Vals [x] us):∃u,us=[u]∧RelV x u:=by
 cases r with
 | cons r1 r2=>cases r2;exact⟨_,U,r1⟩
theorem vals2{x y:V}{us:List A6}(r:Vals [x,y] us):∃u w',us=[u,w']∧RelV x u∧RelV y w':=by
 cases r with
 | cons r1 r2=>
  cases r2 with
  | cons r3 r4=>cases r4;exact⟨_,_,U,r1,r3⟩
theorem lr(hc:X.calm=NG):nF X (.builtin "max") (λxs H Q=>∃i j,xs=[.int i,.int j]∧Q (.int (if j > i then j else i)) H):=by
 intro pins s σ H xs us Q I r h;obtain⟨i,j,rfl,q⟩:=h;obtain⟨u,w',rfl,⟨t,rfl⟩,⟨t',rfl⟩⟩:=vals2 r;refine max_two_ints (I.ok.hd hc) λh' tk k=>⟨_,H,I.kept k,?_,q⟩
 by_cases hj:j > i
 ·rw[if_pos hj,if_pos hj];exact⟨_,U⟩
 ·rw[if_neg hj,if_neg hj];exact⟨_,U⟩
end
end L2
namespace L2
open PySem PySem.Spec PyProof.Rows
structure RJ(h:AM)(x dx C:A7)(mA:Str→Option A6):Prop where
 obj:h.get? x=ND (N6 C dx)
 ns:h.Ns1 dx mA
 ne:dx≠x
theorem lu{h:AM}{dx:A7}{mA:Str→Option A6}(n:h.Ns1 dx mA):∃od,h.get? dx=ND od∧∀name,U5 name od=ND (mA name):=by
 obtain⟨o,es,ep,ho,hd,hk,_,hm⟩:=n;refine⟨o,ho,λname=>?_⟩;have e:=hm name;unfold nsFind findBy at e;rw[←Array.find?_toList]at e;unfold U5;rw[hd];dsimp only;split
 ·rename_i y q;rw[q]at e;exact congrArg ND e
 ·rename_i q;rw[q]at e;have a:es.toList.any (·.refKey)=NH:=by rw[List.any_eq_false];intro y hy;obtain⟨z,t,hkey⟩:=hk y (Array.mem_toList_iff.mp hy);simp[MV,hkey]
  have a':¬es.toList.any (·.refKey)=NG:=by rw[a];exact E2
  rw[if_neg a'];exact congrArg ND e
theorem RJ.look{h:AM}{x dx C:A7}{mA:Str→Option A6}(I:RJ h x dx C mA):∃od,PySem.W.InstAt h x (N6 C dx) C (ND od)∧∀name,U5 name od=ND (mA name):=
 let ⟨od,ho,hl⟩:=lu I.ns
 ⟨od,⟨I.obj,U,U,ho⟩,hl⟩
section
variable{prog:AI}{w:AL}{A:AN}{E:A6→A8→Prop}{s:A8}{K:aF}{x dx C f:A7}{mA:Str→Option A6}{name:Str}{v:A6}
theorem get_map{expr:Bool}{Q:A6→A8→Prop}(X:K.In s.heap)(I:RJ s.heap x dx C mA)(hg:Q5 K C name=NG)(hh:R8 K C=NG)
  (ha:F3 K (.ref C) name=ND none) (hv:mA name=ND v) (hv':j5 v=NG) (h:Q v {s with toks:=s.toks+1}) :
  AF (AG prog w) A (getAttr (.ref x) name expr) Q E s:=by
 obtain⟨od,J,hl⟩:=I.look;exact PySem.W.get_value X J (U2 hg).1 (PySem.W.findObj_own hh ha U (by rw[hl,hv])) hv' h
theorem zj{pl:Sem Bool}{Q:A6×List A6→A8→Prop}(X:K.In s.heap)(I:RJ s.heap x dx C mA)(hg:Q5 K C name=NG)
  (hf:F3 K (.ref C) name=ND (ND (.ref f))) (ht:O7 K (.ref f)=NG) (hv:mA name=none) (h:Q (.ref f,[.ref x]) s) :
  AF (AG prog w) A (DM (.ref x) name pl) Q E s:=by
 obtain⟨od,J,hl⟩:=I.look;exact PySem.W.method_fn X J (U2 hg).1 (U2 hg).2 hf (beq_iff_eq.mp ht) (by show (U5 name od).map (·.isSome)=ND NH;rw[hl,hv];rfl) h
theorem aCD{ns:List Str}{Q:Unit→A8→Prop}(X:K.In s.heap)(I:RJ s.heap x dx C mA)
  (hs:F3 K (.ref C) "__setattr__" = ND (ND (.builtin "object.__setattr__"))) (hp:V6 K C=NG) (ht:X9 K C name=ND none) (hh:R8 K C=NG)
  (hw:c8 mA ns) (hsz:ns.length≤sizeLine)
  (h:∀h',RJ h' x dx C (λy=>if y=name then ND v else mA y)→BH dx s.heap h'→Q () {s with heap:=h',toks:=s.toks+2}) :
  AF (AG prog w) A (setAttr (.ref x) name v) Q E s:=by
 obtain⟨od,J,hl⟩:=I.look;refine PySem.W.set_plain X J hs (PySem.W.osa_open (s:={s with toks:=s.toks+1}) (r:=none) X J hp ht λb=>?_);obtain⟨cd,hc,hd'⟩:=PySem.W.any_some hh;have hx:s.heap.get? x=ND ⟨.ref C,ND dx,.plain,#[]⟩:=I.obj;refine A9 (AE (A9 (A9 (wpAny_loadPart hx (A9 (PySem.W.Looks.here (s:={s with toks:=s.toks+1}) (PySem.W.looks_clsIn X hc) ?_))))));rw[hd'];refine AE (a:=ND dx) (A9 (AE (A9 ?_)));refine wpAny_nsSet1 (s:={s with toks:=s.toks+1}) I.ns λh' hn2 hs2=>?_;obtain⟨oD,esD,epD,hoD,hdD,hcD⟩:=hn2.count (PySem.Within.cons name v hw);refine A9 (wpAny_lookBehind hoD (by rw[hdD];exact pastItsLine_dict (G2 hcD (by rw[E9];omega))) ?_);exact AE (h _ ⟨(hs2.2 _ (Ne.symm I.ne)).trans I.obj,hn2,I.ne⟩ hs2)
theorem zm{R:FG→A8→Prop}{vs:List A6}{kw:List (Str×A6)}(X:K.In s.heap)(hm:T6 K C=NG)
  (hi:F3 K (.ref C) "__init__" = ND (ND (.ref f))) (hf:l9 K (.ref f)=ND (.type "function"))
  (h:CI (AG prog w) (A.under (.builtin "type.__call__" ⟨.ref C::vs,kw⟩)) (.call (.ref f) ⟨.ref (s.heap.objs.size+1)::vs,kw⟩) (PySem.W.InitBack (s.heap.objs.size+1) R)
   {s with heap:=(s.heap.push L3).push (N6 C s.heap.objs.size)}) :
  CI (AG prog w) A (.call (.ref C) ⟨vs,kw⟩) R s:=by
 obtain⟨hh,g,d,t,os⟩:=s;exact PySem.W.make_core (PySem.W.makes_of X hm) (PySem.W.looks_findIn X hi) (λself=>PySem.W.bind_fn X self hf) (.inl U) h
end
def zB(f:Str)(v:V):List (Str×V)→List (Str×V)
 | []=>[(f,v)]
 | (g,x)::r=>if g=f then(g,v)::r else(g,x)::zB f v r
theorem Kw(f g:Str)(v:V):∀fs:List (Str×V),(zB f v fs).lookup g=if g=f then ND v else fs.lookup g
 | []=>by
  show Q8 g [(f,v)]=_;by_cases h:g=f
  ·have hb:(g==f)=NG:=beq_iff_eq.mpr h;simp only[Q8,hb,if_pos h]
  ·have hb:(g==f)=NH:=beq_eq_false_iff_ne.mpr h;simp only[Q8,hb,if_neg h]
 | (k,x)::r=>by
  have ih:=Kw f g v r;rw[show zB f v ((k,x)::r)=(if k=f then(k,v)::r else(k,x)::zB f v r)from rfl];by_cases hk:k=f
  ·rw[if_pos hk];by_cases h:g=k
   ·have hb:(g==k)=NG:=beq_iff_eq.mpr h;simp only[Q8,hb,if_pos (h.trans hk)]
   ·have hb:(g==k)=NH:=beq_eq_false_iff_ne.mpr h;simp only[Q8,hb,if_neg (λe:g=f=>h (e.trans hk.symm))]
  ·rw[if_neg hk];by_cases h:g=k
   ·have hb:(g==k)=NG:=beq_iff_eq.mpr h;simp only[Q8,hb,if_neg (λe:g=f=>hk (h.symm.trans e))]
   ·have hb:(g==k)=NH:=beq_eq_false_iff_ne.mpr h;simp only[Q8,hb];exact ih
theorem Ip(f:Str)(v:V):∀fs:List (Str×V),f∈(zB f v fs).map (·.1)∧∀g,g∈fs.map (·.1)→g∈(zB f v fs).map (·.1)
 | []=>⟨by simp[zB],λg h=>by simp at h⟩
 | (k,x)::r=>by
  obtain⟨i1,i2⟩:=Ip f v r;rw[show zB f v ((k,x)::r)=(if k=f then(k,v)::r else(k,x)::zB f v r)from rfl];by_cases hk:k=f
  ·rw[if_pos hk];subst hk;exact⟨by simp,λg h=>by simpa using h⟩
  ·rw[if_neg hk];refine⟨?_,λg h=>?_⟩
   ·rw[D3];exact C8 _ i1
   ·rw[D3]at h ⊢;rcases C9.mp h with e | e
    ·exact C9.mpr (.inl e)
    ·exact C8 _ (i2 g e)
theorem Ky(f:Str)(v:V):∀fs:List (Str×V),(zB f v fs).length≤fs.length+1
 | []=>by simp[zB]
 | (k,x)::r=>by
  have ih:=Ky f v r;rw[show zB f v ((k,x)::r)=(if k=f then(k,v)::r else(k,x)::zB f v r)from rfl];by_cases hk:k=f
  ·rw[if_pos hk,E9,E9];omega
  ·rw[if_neg hk,E9,E9];omega
theorem yZ.some_of{v:V}{o:Option A6}(r:yZ (ND v) o):∃u,o=ND u∧RelV v u:=by
 cases o with
 | none=>exact(show False from r).elim
 | some u=>exact⟨u,U,r⟩
theorem yZ.none_of{o:Option A6}(r:yZ none o):o=none:=by
 cases o with
 | none=>rfl
 | some u=>exact(show False from r).elim
theorem lz{v:V}{u:A6}(r:RelV v u):j5 u=NG:=by
 cases v with
 | non=>cases(show u=BA from r);rfl
 | bl b=>cases(show u=DC b from r);rfl
 | int i=>obtain⟨t,e⟩:=(show ∃t,u=CM i t from r);cases e;rfl
 | str x=>obtain⟨t,e⟩:=(show ∃t,u=FX x t from r);cases e;rfl
 | byt b=>obtain⟨t,e⟩:=(show ∃t,u=LS b t from r);cases e;rfl
 | flt b=>obtain⟨t,e⟩:=(show ∃t,u=IE b t from r);cases e;rfl
 | ref a=>cases(show u=AQ a from r);rfl
 | ty n=>cases(show u=BY n from r);rfl
section
variable{P:AI}{w:AL}{H H':Hp}{h h':AM}{a C dx:A7}{fs fs':List (Str×V)}
theorem Mi(hok:Df P w H h)(e:H a=ND (.ins C dx fs)):∃mA,RJ h a dx C mA∧(∀f,yZ (fs.lookup f) (mA f))∧c8 mA (fs.map (·.1))∧fs.length≤1000∧H dx=ND (.own a):=by
 obtain⟨d,z,ne,ob,mA,n,r,q⟩:=(show jG P w H h a (.ins C dx fs)from hok a _ e)
 exact⟨mA,⟨ob,n,ne⟩,r,q,z,d⟩
end
structure zp(K:aF)(C:A7):Prop where
 pg:Q5 K C MH=NG
 hd:R8 K C=NG
 po:V6 K C=NG
 sa:F3 K (.ref C) "__setattr__" = ND (ND (.builtin "object.__setattr__"))
theorem zp.get{K:aF}{C:A7}(c:zp K C)(f:Str):Q5 K C f=NG:=c.pg
def Du(K:aF)(C:A7)(f:Str):Prop:=F3 K (.ref C) f=ND none
theorem Du.taker{K:aF}{C:A7}{f:Str}(n:Du K C f):X9 K C f=ND none:=by unfold X9;rw[show F3 K (.ref C) f=ND none from n];rfl
structure Con(K:aF)(C:A7)(f:Str)(v:V)(u:A6):Prop where
 at_:F3 K (.ref C) f=ND (ND u)
 rel:RelV v u
 get:V7 K u "__get__" = ND none
 cp:PySem.W.copiedNames.contains f=NH
structure Meth(K:aF)(C:A7)(m:Str)(f:A7):Prop where
 at_:F3 K (.ref C) m=ND (ND (.ref f))
 fn:O7 K (.ref f)=NG
 kp:J9 K (.ref f)=NG
section
variable{X:Cx}{pins:List (A7×Obj)}{σ:St}{H:Hp}{s:A8}{a C dx:A7}{fs:List (Str×V)}{f:Str}{v:V}{A:AN}{E:A6→A8→Prop}
theorem RK{b:Bool}{Q:A6→A8→Prop}(I:Inv X pins σ H s)(e:H a=ND (.ins C dx fs))(c:zp X.K C)(n:Du X.K C f)(l:fs.lookup f=ND v)
  (h:∀u s',Inv X pins σ H s'→RelV v u→Q u s'):AF (AG X.prog X.w) A (getAttr (.ref a) f b) Q E s:=by
 obtain⟨mA,O,r,_,_,_⟩:=Mi I.hok e;obtain⟨u,hu,ru⟩:=yZ.some_of (v:=v) (o:=mA f) (by rw[←l];exact r f);exact get_map I.Im O (c.get f) c.hd n hu (lz ru) (h u _ (I.tok _) ru)
theorem Nr{m:Str}{g:A7}{pl:Sem Bool}{Q:A6×List A6→A8→Prop}(I:Inv X pins σ H s)(e:H a=ND (.ins C dx fs))(c:zp X.K C)(k:Meth X.K C m g)(l:fs.lookup m=none)
  (h:Q (.ref g,[.ref a]) s):AF (AG X.prog X.w) A (DM (.ref a) m pl) Q E s:=by
 obtain⟨mA,O,r,_,_,_⟩:=Mi I.hok e;have hn:mA m=none:=yZ.none_of (by rw[←l];exact r m);exact zj I.Im O (c.get m) k.at_ k.fn hn h
theorem RL{y:V}{u:A6}{Q:Unit→A8→Prop}(I:Inv X pins σ H s)(e:H a=ND (.ins C dx fs))(c:zp X.K C)(n:Du X.K C f)(hl:fs.length<1000)(ry:RelV y u)
  (h:∀s',Inv X pins σ (upd H a (.ins C dx (zB f y fs))) s'→Q () s'):AF (AG X.prog X.w) A (setAttr (.ref a) f u) Q E s:=by
 obtain⟨mA,O,r,wi,_,ho⟩:=Mi I.hok e;have hz:(fs.map (·.1)).length≤sizeLine:=by rw[B7,Fa];omega
 refine aCD I.Im O c.sa c.po n.taker c.hd wi hz λh' O' sb=>h _ ?_;have hd:∃o,h'.get? dx=ND o:=let ⟨o,_,_,e',_⟩:=O'.ns;⟨o,e'⟩;refine I.write (x:=a) (e:=dx) (by rw[e];exact True.intro) (.inr ho) (λb q hb z=>(sb.2 b hb).trans z) hd ?_;refine⟨by rw[bQ O.ne];exact ho,?_,O.ne,O'.obj,_,O'.ns,λg=>?_,λg hg=>?_⟩
 ·have:=Ky f y fs;omega
 ·show yZ ((zB f y fs).lookup g) (if g=f then ND u else mA g);rw[Kw];by_cases q:g=f
  ·rw[if_pos q,if_pos q];exact ry
  ·rw[if_neg q,if_neg q];exact r g
 ·by_cases q:g=f
  ·rw[q];exact(Ip f y fs).1
  ·refine(Ip f y fs).2 g (wi g λz=>hg ?_);show (if g=f then ND u else mA g)=none;rw[if_neg q];exact z
theorem Inv.made(I:Inv X pins σ H s):Inv X pins σ (upd (upd H s.heap.objs.size (.own (s.heap.objs.size+1))) (s.heap.objs.size+1) (.ins C s.heap.objs.size []))
  {s with heap:=(s.heap.push L3).push (N6 C s.heap.objs.size)}:=by
 have e1:(s.heap.push L3).get? s.heap.objs.size=ND L3:=AK s.heap U;have e2:((s.heap.push L3).push (N6 C s.heap.objs.size)).get? (s.heap.objs.size+1)=ND (N6 C s.heap.objs.size):=by
  have:=AK (s.heap.push L3) (o:=N6 C s.heap.objs.size) U
  rwa [AX]at this
 have e3:(s.heap.push L3).Ns s.heap.objs.size (λ_=>none):=⟨L3,#[],_,e1,U,(λe he=>absurd he (by simp)),λ_=>rfl⟩
 have I1:=I.laid (a:=s.heap.objs.size) (o:=.own (s.heap.objs.size+1)) (h':=s.heap.push L3) (t':=s.toks) (λb u q=>AA _ q) (C6 _) ⟨_,e1⟩;refine I1.laid (a:=s.heap.objs.size+1) (o:=.ins C s.heap.objs.size []) (t':=s.toks) (λb u q=>AA _ q) (d6 (AX _ _)) ?_;have ne:s.heap.objs.size≠s.heap.objs.size+1:=E5 (M0 _);refine⟨by rw[bQ ne,cJ],N4 _,ne,e2,λ_=>none,(MQ e3).at λo q=>AA _ q,λ_=>True.intro,λy hy=>absurd U hy⟩
theorem aCE{prog:AI}{w:AL}{env:Env}{e:AB}{f:Str}{pos:Pos}{s:A8}{Q:A6→A8→Prop}(hb:CL e f env (AO e env)=AO e env)
  (h:AF (AG prog w) A (AO e env) (λo s₁=>AF (AG prog w) A (getAttr o f NG) Q E s₁) E s):AF (AG prog w) A (AO (.Attribute e f pos) env) Q E s:=
 Attribute_any_ h (by rw[arm_eval_Attribute,hb])
end
def aFn(K:aF)(ta:TE)(f:Str):TE:=λσ H Q=>ta σ H λx H1=>∃a C dx fs v,x=.ref a∧H1 a=ND (.ins C dx fs)∧zp K C∧Du K C f∧fs.lookup f=ND v∧Q v H1
def aFo(K:aF)(ta tv:TE)(f:Str):TS:=λD σ H=>tv σ H λy H1=>ta σ H1 λx H2=>∃a C dx fs,x=.ref a∧H2 a=ND (.ins C dx fs)∧zp K C∧Du K C f∧fs.length<1000 ∧
 D.nx σ (upd H2 a (.ins C dx (zB f y fs)))
section
variable{X:Cx}{o e value:AB}{f:Str}{pos pos' tpos:Pos}{ta tv:TE}
theorem zq(he:PE X e ta)(hb:CL e f X.env (AO e X.env)=AO e X.env):PE X (.Attribute e f pos) (aFn X.K ta f):=by intro pins s σ H Q I h;refine aCE hb (jA (he pins s σ H _ I h) λu s1 ⟨x,H1,I1,rx,a,C,dx,fs,v,ex,ea,c,n,l,q⟩=>?_);subst ex;obtain rfl:u=AQ a:=rx;exact RK I1 ea c n l λu' s2 I2 ru=>⟨v,H1,I2,ru,q⟩
theorem aFp(ha:PE X o ta)(hv:PE X value tv)(hs:DA value (ND (.Attribute o f pos')) pos.line X.env=pure NH):PS X (.Assign [.Attribute o f pos'] value pos) (aFo X.K ta tv f):=by intro pins s σ H D I h;refine plainObj_wpAny_Assign_Attribute (jA (hv pins s σ H _ I h) λu s1 ⟨y,H1,I1,ry,q⟩=>jA (ha pins s1 σ H1 _ I1 q) λov s2 ⟨x,H2,I2,rx,a,C,dx,fs,ex,ea,c,n,l,q2⟩=>?_) hs;subst ex;obtain rfl:ov=AQ a:=rx;exact RL I2 ea c n l ry λs3 I3=>⟨σ,_,I3,q2⟩
end
section
variable{X:Cx}{pins:List (A7×Obj)}{σ:St}{H:Hp}{s:A8}{A:AN}{E:A6→A8→Prop}{Q:A6→A8→Prop}{c:A6}{b:Bool}
inductive Ls(K:aF)(H:Hp):V→A6→Prop where
 | non:Ls K H .non (.type "NoneType")
 | bl (x:Bool):Ls K H (.bl x) (.type "bool")
 | int (i:Int):Ls K H (.int i) (.type "int")
 | str (x:Str):Ls K H (.str x) (.type "str")
 | flt (x:UInt64):Ls K H (.flt x) (.type "float")
 | lst {a:A7} {xs:List V} (e:H a=ND (.lst xs)):Ls K H (.ref a) (.type "list")
 | zA {a:A7} {o:Obj} {xs:List V} (e:H a=ND (.zA o (.lst xs))):Ls K H (.ref a) (.type "list")
 | tup {a:A7} {xs:List V} (e:H a=ND (.tup xs)):Ls K H (.ref a) (.type "tuple")
 | dK {a:A7} {kvs:List (Key×V)} (e:H a=ND (.dK kvs)):Ls K H (.ref a) (.type "dict")
 | dT {a:A7} {kvs:List (List Key×V)} (e:H a=ND (.dT kvs)):Ls K H (.ref a) (.type "dict")
 | ins {a C dx:A7} {fs:List (Str×V)} (e:H a=ND (.ins C dx fs)) (cl:zp K C) (ha:F3 K (.ref C) "__class__" = ND (ND (.builtin "object.__class__")))
   (hn:V7 K (.builtin "object.__class__") "__get__" = ND (ND (.builtin "getset_descriptor.__get__"))) (htk:l0 K (.builtin "object.__class__")=ND NG)
   (hm:o6 K C (.type "object")=ND NG):Ls K H (.ref a) (.ref C)
theorem Ui{x:V}{u t:A6}(I:Inv X pins σ H s)(rx:RelV x u)(ty:Ls X.K H x t)(e:J4 X.K t c=ND b)(h:∀tk,Q (.bool b) {s with toks:=tk}) :
  AF (AG X.prog X.w) A (call (.builtin "isinstance") [u,c]) Q E s:=by
 cases ty with
 | non=>cases(show u=BA from rx);exact K0 PySem.W.kitx_none I.Im True.intro e (λz=>nomatch z) h
 | bl y=>cases(show u=DC y from rx);exact K0 PySem.W.kitx_bool I.Im True.intro e (λz=>nomatch z) h
 | int i=>obtain⟨t,q⟩:=(show ∃t,u=CM i t from rx);cases q;exact K0 PySem.W.kitx_int I.Im True.intro e (λz=>nomatch z) h
 | str y=>obtain⟨t,q⟩:=(show ∃t,u=FX y t from rx);cases q;exact K0 PySem.W.kitx_str I.Im True.intro e (λz=>nomatch z) h
 | flt y=>obtain⟨t,q⟩:=(show ∃t,u=IE y t from rx);cases q;exact K0 PySem.W.kitx_float I.Im True.intro e (λz=>nomatch z) h
 | @lst a xs ea=>
  cases(show u=AQ a from rx)
  obtain⟨_,_,n,_,h1⟩:=(show jG X.prog X.w H s.heap a (.lst xs)from I.hok a _ ea)
  exact K0 V8 I.Im ⟨_,h1,rfl⟩ e (λz=>nomatch z) h
 | @zA a ob xs ea=>
  cases(show u=AQ a from rx)
  obtain⟨_,_,_,n,_,h1⟩:=(show jG X.prog X.w H s.heap a (.zA ob (.lst xs))from I.hok a _ ea)
  exact K0 V8 I.Im ⟨_,h1,rfl⟩ e (λz=>nomatch z) h
 | @tup a xs ea=>
  cases(show u=AQ a from rx)
  obtain⟨_,_,_,p⟩:=(show jG X.prog X.w H s.heap a (.tup xs)from I.hok a _ ea)
  obtain⟨o,h1,h2,_⟩:=p;exact K0 d7 I.Im ⟨o,h1,h2⟩ e (λz=>nomatch z) h
 | @dK a kvs ea=>
  cases(show u=AQ a from rx)
  obtain⟨_,_,vs,_,p⟩:=(show jG X.prog X.w H s.heap a (.dK kvs)from I.hok a _ ea)
  obtain⟨o,es,ep,h1,h2,_⟩:=p;exact K0 h9 I.Im ⟨o,h1,h2.1⟩ e (λz=>nomatch z) h
 | @dT a kvs ea=>
  cases(show u=AQ a from rx)
  obtain⟨_,_,xs,_,o,es,ep,h1,h2,_⟩:=(show jG X.prog X.w H s.heap a (.dT kvs)from I.hok a _ ea)
  exact K0 h9 I.Im ⟨o,h1,h2.1⟩ e (λz=>nomatch z) h
 | @ins a C dx fs ea cl ha hn htk hm=>
  cases(show u=AQ a from rx)
  obtain⟨mA,O,_⟩:=Mi I.hok ea;obtain⟨od,J,_⟩:=O.look;exact K0 (PySem.W.kitx_own (cl.get _) cl.hd ha hn htk hm) I.Im J e (λz=>nomatch z) h
end
end L2
namespace L2
open PySem PySem.Spec PyProof.Rows
structure jR(k:Nat)(A:AN):Prop where
 hd:A.handled=none
 dp:A.depth+3*k+5<JE
 un:A.units+16*k+200<As
theorem jR.mono{j k:Nat}{A:AN}(r:jR k A)(h:j≤k):jR j A:=⟨r.hd,by have:=r.dp;omega,by have:=r.un;omega⟩
theorem jR.deeper{k:Nat}{A:AN}(r:jR (k+1) A)(env:Env):jR k (A.deeper env):=
 ⟨r.hd,by have:=r.dp;show A.depth+1+3*k+5<_;omega,by have:=r.un;show A.units+3+16*k+200<_;omega⟩
theorem RM{A:AN}{C:A7}{us:List A6}{kw:List (Str×A6)}:(A.under (.builtin "type.__call__" ⟨.ref C::us,kw⟩)).depth=A.depth+1:=by
  first | rfl | simp[HI,Code.weight,Code.isCreation,Code.isGuard,Code.isCaller,LV,HL,guardIds]
theorem RN{A:AN}{C:A7}{us:List A6}{kw:List (Str×A6)}:(A.under (.builtin "type.__call__" ⟨.ref C::us,kw⟩)).units=A.units+1:=by
  first | rfl | simp[HI,Code.cUnits,LV,HL]
theorem jR.make{k:Nat}{A:AN}(r:jR (k+1) A)(C:A7)(us:List A6)(kw:List (Str×A6)):jR k (A.under (.builtin "type.__call__" ⟨.ref C::us,kw⟩)):=
 ⟨r.hd,by have:=r.dp;rw[RM];omega,by have:=r.un;rw[RN];omega⟩
theorem jR.depth{k:Nat}{A:AN}(r:jR k A):A.depth<JE:=by have:=r.dp;omega
theorem jR.units{k:Nat}{A:AN}(r:jR k A):A.units+64<As:=by have:=r.un;omega
def nG:TA:=λ_ H Q=>Q [] H
def fY(ta:TE)(tr:TA):TA:=λσ H Q=>ta σ H λx H1=>tr σ H1 λxs H2=>Q (x::xs) H2
section
variable{X:Cx}{e:AB}{es:List AB}{te:TE}{t:TA}{pos:Pos}
theorem jY:PA X [] nG:=λ_ _ _ _ H Q I h=>Cb ⟨[],H,I,.nil,h⟩
theorem fD(ha:PE X e te)(hr:PA X es t)(hs:AD (e::es) X.env=(NH,AO e X.env)::AD es X.env:=by rfl):PA X (e::es) (fY te t):=by intro pos pins s σ H Q I h;rw[hs];show AF _ _ (spliced ((NH,AO e X.env)::AY pos (AD es X.env))) _ _ s;refine CO (jA (ha pins s σ H _ I h) λu s1 ⟨x,H1,I1,r1,q1⟩=>?_);exact jA (hr pos pins s1 σ H1 _ I1 q1) λus s2 ⟨xs,H2,I2,r2,q2⟩=>⟨x::xs,H2,I2,.cons r1 r2,q2⟩
def aCF(t:TA):TE:=λσ H Q=>t σ H λxs H1=>xs.length≤sizeLine∧∀p,H1 p=none→Q (.ref p) (upd H1 p (.tup xs))
def zu(t:TA):TE:=λσ H Q=>t σ H λxs H1=>xs.length≤sizeLine∧∀p,H1 p=none→Q (.ref p) (upd H1 p (.lst xs))
theorem zy{x1}(h:PA X es t):PE X (.Tuple es x1 pos) (aCF t):=by intro pins s σ H Q I hq;refine wpAny_Tuple_spliced (jA (h pos pins s σ H _ I hq) λus s1 ⟨xs,H1,I1,r,z,q⟩=>⟨by rw[←r.length];exact z,?_⟩);have hf:H1 s1.heap.objs.size=none:=I1.hok.fresh (C6 _);refine⟨.ref s1.heap.objs.size,upd H1 s1.heap.objs.size (.tup xs),I1.laid (t':=s1.toks) (λb u e=>AA _ e) (C6 _) ?_,U,q _ hf⟩;exact⟨z,us,r,⟨_,AK _ U,U,_,U⟩⟩
theorem aAa(h:PA X es t):PE X (.List es pos) (zu t):=by intro pins s σ H Q I hq;refine wpAny_List_spliced (jA (h pos pins s σ H _ I hq) λus s1 ⟨xs,H1,I1,r,z,q⟩=>⟨by rw[←r.length];exact z,?_⟩);have hf:H1 s1.heap.objs.size=none:=I1.hok.fresh (C6 _);refine⟨.ref s1.heap.objs.size,upd H1 s1.heap.objs.size (.lst xs),I1.laid (t':=s1.toks) (λb u e=>AA _ e) (C6 _) ?_,U,q _ hf⟩;exact⟨z,us,0,r,AK _ U⟩
end
abbrev Sp:=List V→Hp→VK→XK→Prop
abbrev mj:=List Env→Hp→A8→XK→A6→A8→Prop
structure RP(P:AI)(w:AL)(K:aF)(mg:Str→Option A6)(base:AM)(A:AN)(outer:List Env)(s:A8)(H:Hp):Prop where
 frames:A.frames=ND outer
 mod:Mod K mg base
 bs:∀b o,base.get? b=ND o→s.heap.get? b=ND o∧H b=none
 bsz:base.objs.size≤s.heap.objs.size
 Lr:s.heap.FunFrames base outer
 frf:∀b∈frs outer,H b=none
 hok:Df P w H s.heap
 bare:DF s.gens
def CE(outer:List Env)(P:AI)(w:AL)(H:Hp)(s:A8)(Q:VK)(u:A6)(s':A8):Prop:=
 ∃v H',s'.os=s.os∧DF s'.gens∧Un (frs outer) [] H H' s.heap s'.heap∧Df P w H' s'.heap∧RelV v u∧Q v H'
def CR(CX:mj)(outer:List Env)(P:AI)(w:AL)(H:Hp)(s:A8)(Q:VK)(E:XK)(r:FG)(s':A8):Prop:=
 match r with
 | .ok (.ret u)=>CE outer P w H s Q u s'
 | .ok _=>False
 | .error e=>CX outer H s E e s'
structure zF(P:AI)(w:AL)(K:aF)(mg:Str→Option A6)(base:AM)(CX:mj)(k:Nat)(f:A7)(fd:BG)(ps:List Str)(sp:Sp):Prop where
 len:∀vs H Q E,sp vs H Q E→vs.length=ps.length
 run:∀(A:AN)(outer:List Env)(s:A8)(H:Hp)(args:Args)(us:List A6)(vs:List V)(Q:VK)(E:XK),jR k A→RP P w K mg base A outer s H→Fu s fd args (ps.zip us)→Vals vs us→sp vs H Q E →
  CI (AG P w) A (.call (.ref f) args) (CR CX outer P w H s Q E) s
theorem RP.make{P:AI}{w:AL}{K:aF}{mg:Str→Option A6}{base:AM}{A:AN}{outer:List Env}{s:A8}{H:Hp}(e:RP P w K mg base A outer s H)(C:A7)(us:List A6)(kw:List (Str×A6)) :
  RP P w K mg base (A.under (.builtin "type.__call__" ⟨.ref C::us,kw⟩)) outer s H:=⟨by first | exact e.frames | (simpa[HI,Code.envs,HL,pushEnvs]using e.frames),e.mod,e.bs,e.bsz,e.Lr,e.frf,e.hok,e.bare⟩
section
variable{X:Cx}{pins:List (A7×Obj)}{σ:St}{H:Hp}{s s':A8}
theorem Inv.env0(I:Inv X pins σ H s):RP X.prog X.w X.K X.mg X.base X.A X.stack s H:=
 ⟨I.ok.frames,I.ok.mod,I.bs,G2 I.ok.bsz I.sz,I.stack,I.ZG,I.hok,I.bare⟩
theorem Inv.after{Q:VK}{u:A6}(I:Inv X pins σ H s)(h:CE X.stack X.prog X.w H s Q u s'):EP X pins σ Q u s':=by obtain⟨v,H',os,bare,un,hok,r,q⟩:=h;obtain⟨hh,g,d,t,os'⟩:=s';obtain rfl:os'=s.os:=os;exact⟨v,H',I.call (h':=hh) (g':=g) (d':=d) (t':=t) (ch:=[]) un hok bare (λb z=>absurd z (by simp)),r,q⟩
end
def Uj(sp:Sp)(Ik:List V)(E:XK)(t:TA):TE:=λσ H Q=>t σ H λvs H1=>sp (vs++Ik) H1 Q E
def Kz(C:A7)(m:Str)(sp:Sp)(Ik:List V)(E:XK)(ta:TE)(t:TA):TE:=λσ H Q=>ta σ H λx H1=>∃a dx fs,x=.ref a∧H1 a=ND (.ins C dx fs)∧fs.lookup m=none ∧
 t σ H1 λvs H2=>sp (x::(vs++Ik)) H2 Q E
def aEb(C:A7)(sp:Sp)(Ik:List V)(E:XK)(t:TA):TE:=λσ H Q=>t σ H λvs H1=>∀x dx,H1 x=none→H1 dx=none→dx≠x →
 sp (.ref x::(vs++Ik)) (upd (upd H1 dx (.own x)) x (.ins C dx [])) (λv H2=>v=.non∧Q (.ref x) H2) E
def Binds(K:aF)(fd:BG)(ps:List Str)(ds:List A6):Prop:=
 ∀(s:A8)(us:List A6),K.In s.heap→(us++ds).length=ps.length→Fu s fd ⟨us,[]⟩ (ps.zip (us++ds))
theorem Binds.all{K:aF}{fd:BG}{ps:List Str}(h:∀us:List A6,us.length=ps.length→Dx fd ⟨us,[]⟩=pure (ps.zip us)):Binds K fd ps []:=λs us _ hl=>by rw[F9]at hl ⊢;exact .of_eq (h us hl)
def Passes(CX:mj)(X:Cx)(E:XK):Prop:=∀(pins:List (A7×Obj))(σ:St)(H:Hp)(s:A8)(e:A6)(s':A8),Inv X pins σ H s→CX X.stack H s E e s'→X.xe e s'
section
variable{X:Cx}{CX:mj}{k:Nat}{f C:A7}{fd:BG}{ps:List Str}{sp:Sp}{Ik:List V}{ds:List A6}{E:XK}{x m:Str}{p pos apos:Pos}{e o:AB}{es:List AB}{ta:TE}{t:TA}
theorem RQ{pins:List (A7×Obj)}{σ:St}{H:Hp}{s:A8}{Q:VK}{us:List A6}{vs:List V}(F:zF X.prog X.w X.K X.mg X.base CX k f fd ps sp)(hr:jR k X.A)(hb:Binds X.K fd ps ds)(hd:Vals Ik ds)(hx:Passes CX X E)
  (I:Inv X pins σ H s) (r:Vals vs us) (h:sp (vs++Ik) H Q E):AF (AG X.prog X.w) X.A (call (.ref f) us) (EP X pins σ Q) X.xe s:=by
 have r2:Vals (vs++Ik) (us++ds):=r.append hd;have hl:(us++ds).length=ps.length:=by rw[←r2.length];exact F.len _ _ _ _ h
 refine IQ (Cn (F.run X.A X.stack s H ⟨us,[]⟩ (us++ds) (vs++Ik) Q E hr I.env0 (hb s us I.Im hl) r2 h) λr s' hq=>?_);cases r with
 | error e=>exact hx pins σ H s e s' I hq
 | ok fl=>
  cases fl with
  | ret u=>exact I.after hq
  | next=>exact False.elim hq
  | brk=>exact False.elim hq
  | cont=>exact False.elim hq
theorem aCG(F:zF X.prog X.w X.K X.mg X.base CX k f fd ps sp)(hr:jR k X.A)(hg:Gl X x)(hm:X.mg x=ND (.ref f))(hk:J9 X.K (.ref f)=NG)(hb:Binds X.K fd ps ds)(hd:Vals Ik ds)(hx:Passes CX X E)
  (ha:PA X (e::es) t) (hdb:(x==("__debug__" : Str))=NH:=by decide) (he:AD (e::es) X.env=(NH,AO e X.env)::AD es X.env:=by rfl) (hpl:(AY pos (AD es X.env)).any (·.1)=NH:=by rfl) :
  PE X (.Call (.Name x p) (e::es) [] pos) (Uj sp Ik E t):=by
 intro pins s σ H Q I h;refine BC (Xa I hg hm ?_ hdb);refine U7 (h₀:=X.base) I.ok.mod.kin hk (jA (ha pos pins s σ H _ I h) λus s1 ⟨vs,H1,I1,r,q⟩=>⟨I1.Im,?_⟩) he hpl;exact RQ F hr hb hd hx I1 r q
theorem Xj{pl:Sem Bool}(he:PE X o ta)(c:zp X.K C)(hm:Meth X.K C m f)(F:zF X.prog X.w X.K X.mg X.base CX k f fd ps sp)(hr:jR k X.A)(hb:Binds X.K fd ps ds)(hd:Vals Ik ds)(hx:Passes CX X E)(ha:PA X (e::es) t)
  (hst:AD (e::es) X.env=(NH,AO e X.env)::AD es X.env:=by rfl) (hpl:(AY pos (AD es X.env)).any (·.1)=NH:=by rfl)
  (ht:AO (.Call (.Attribute o m apos) (e::es) [] pos) X.env=(do
   let ov ←AO o X.env
   EB apos.atName
   let (f,first) ←Ch [ov] (DM ov m pl)
   FH pos f first (AY pos (AD (e::es) X.env)) (DO pos (Bz [] X.env))):=by rfl) :
  PE X (.Call (.Attribute o m apos) (e::es) [] pos) (Kz C m sp Ik E ta t):=by
 intro pins s σ H Q I h;refine Z5 (pl:=pl) (jA (he pins s σ H _ I h) λu s1 ⟨x,H1,I1,rx,a,dx,fs,ex,ea,l,q⟩=>?_) ht;subst ex;obtain rfl:u=AQ a:=rx;refine Nr I1 ea c hm l ?_;refine U7 (first:=[.ref a]) (h₀:=X.base) I.ok.mod.kin hm.kp (jA (ha pos pins s1 σ H1 _ I1 q) λus s2 ⟨vs,H2,I2,r,q2⟩=>⟨I2.Im,?_⟩) hst hpl;exact RQ (us:=.ref a::us) (vs:=.ref a::vs) F hr hb hd hx I2 (.cons U r) q2
theorem aAb{pl:Sem Bool}(he:PE X o ta)(c:zp X.K C)(hm:Meth X.K C m f)(F:zF X.prog X.w X.K X.mg X.base CX k f fd ps sp)(hr:jR k X.A)(hb:Binds X.K fd ps ds)(hd:Vals Ik ds)(hx:Passes CX X E)
  (ht:AO (.Call (.Attribute o m apos) [] [] pos) X.env=(do
   let ov ←AO o X.env
   EB apos.atName
   let (f,first) ←Ch [ov] (DM ov m pl)
   FH pos f first (AY pos (AD [] X.env)) (DO pos (Bz [] X.env))):=by rfl) :
  PE X (.Call (.Attribute o m apos) [] [] pos) (Kz C m sp Ik E ta nG):=by
 intro pins s σ H Q I h;refine Z5 (pl:=pl) (jA (he pins s σ H _ I h) λu s1 ⟨x,H1,I1,rx,a,dx,fs,ex,ea,l,q⟩=>?_) ht;subst ex;obtain rfl:u=AQ a:=rx;refine Nr I1 ea c hm l ?_;exact PySem.W.callWith_K0 (first:=[.ref a]) I1.Im hm.kp (RQ (us:=[.ref a]) (vs:=[.ref a]) F hr hb hd hx I1 (.cons U .nil) q)
structure Mk(K:aF)(C f:A7):Prop where
 makes:T6 K C=NG
 init:F3 K (.ref C) "__init__" = ND (ND (.ref f))
 fn:O7 K (.ref f)=NG
 kp:J9 K (.ref C)=NG
theorem aAc{pins:List (A7×Obj)}{σ:St}{H:Hp}{s:A8}{Q:VK}{us:List A6}{vs:List V}(M:Mk X.K C f)(F:zF X.prog X.w X.K X.mg X.base CX k f fd ps sp)(hr:jR (k+1) X.A)(hb:Binds X.K fd ps ds)(hd:Vals Ik ds)
  (hx:Passes CX X E) (I:Inv X pins σ H s) (r:Vals vs us)
  (h:∀x dx,H x=none→H dx=none→dx≠x→sp (.ref x::(vs++Ik)) (upd (upd H dx (.own x)) x (.ins C dx [])) (λv H2=>v=.non∧Q (.ref x) H2) E) :
  AF (AG X.prog X.w) X.A (call (.ref C) us) (EP X pins σ Q) X.xe s:=by
 have hq:=h (s.heap.objs.size+1) s.heap.objs.size (I.hok.fresh (N5 _)) (I.hok.fresh (C6 _)) (E5 (M0 _));have I2:=Inv.made (C:=C) I;have r2:Vals (V.ref (s.heap.objs.size+1)::(vs++Ik)) (AQ (s.heap.objs.size+1)::(us++ds)):=.cons U (r.append hd);have hl:(AQ (s.heap.objs.size+1)::us++ds).length=ps.length:=by have e:=r2.length;rw[F.len _ _ _ _ hq]at e;exact e.symm
 refine IQ (zm (f:=f) I.Im M.makes M.init (beq_iff_eq.mp M.fn) (Cn (F.run _ X.stack _ _ ⟨AQ (s.heap.objs.size+1)::us,[]⟩ (AQ (s.heap.objs.size+1)::(us++ds)) _ _ E (hr.make C us [])
  (I2.env0.make C us []) (hb _ (AQ (s.heap.objs.size+1)::us) I2.Im hl) r2 hq) λr s' hq'=>?_))
 cases r with
 | error e=>exact hx pins σ _ _ e s' I2 hq'
 | ok fl=>
  cases fl with
  | ret u=>obtain⟨v,H',I3,rv,ev,q3⟩:=I2.after hq';subst ev;exact⟨rv,⟨V.ref (s.heap.objs.size+1),H',I3,U,q3⟩⟩
  | next=>exact False.elim hq'
  | brk=>exact False.elim hq'
  | cont=>exact False.elim hq'
theorem aCH(M:Mk X.K C f)(F:zF X.prog X.w X.K X.mg X.base CX k f fd ps sp)(hr:jR (k+1) X.A)(hg:Gl X x)(hm:X.mg x=ND (.ref C))(hb:Binds X.K fd ps ds)(hd:Vals Ik ds)(hx:Passes CX X E)
  (ha:PA X (e::es) t) (hdb:(x==("__debug__" : Str))=NH:=by decide) (he:AD (e::es) X.env=(NH,AO e X.env)::AD es X.env:=by rfl) (hpl:(AY pos (AD es X.env)).any (·.1)=NH:=by rfl) :
  PE X (.Call (.Name x p) (e::es) [] pos) (aEb C sp Ik E t):=by
 intro pins s σ H Q I h;refine BC (Xa I hg hm ?_ hdb);refine U7 (h₀:=X.base) I.ok.mod.kin M.kp (jA (ha pos pins s σ H _ I h) λus s1 ⟨vs,H1,I1,r,q⟩=>⟨I1.Im,?_⟩) he hpl;exact aAc M F hr hb hd hx I1 r q
end
section
variable{X:Cx}{CX:mj}{k:Nat}{f C:A7}{fd:BG}{ps ks:List Str}{sp:Sp}{E:XK}{x m:Str}{p pos apos kpos:Pos}{e o:AB}{es:List AB}{kws:List FB}{te ta:TE}{t tk:TA}{nm:Option Str}
structure aI1(K:aF)(fd:BG)(ps ks:List Str)(g:List A6→List A6→List A6)(gV:List V→List V→List V):Prop where
 to:∀(s:A8)(us ws:List A6),K.In s.heap→(g us ws).length=ps.length→Fu s fd ⟨us,ks.zip ws⟩ (ps.zip (g us ws))
 rel:∀{vs:List V} {us:List A6} {zs:List V} {ws:List A6},Vals vs us→Vals zs ws→Vals (gV vs zs) (g us ws)
variable{g:List A6→List A6→List A6}{gV:List V→List V→List V}
end
structure bB(N P:List Str)(sc:BF):Prop where
 kind:sc.kind=.function
 co:sc.isCoroutine=NH
 gen:sc.isGenerator=NH
 nd:N.Nodup
 pre:N.take P.length=P
 par:∀x∈P,sc.names.lookup x=ND .local∨sc.names.lookup x=ND .cell
 aFq:∀y∈sc.names,y.2≠.free
theorem Uk{kindOf:Str→Option FI}{x:Str}:∀{binds:List (Str×A6)} {m:Str→Option A6},(∀v,(x,v)∉binds)→GL kindOf binds m x=m x
 | [],_,_=>rfl
 | (n,v)::r,m,h=>by
  unfold GL;rw[Uk λw hw=>h w (C8 _ hw)];split
  ·have:x≠n:=by rintro rfl;exact h v D4
   simp[this]
  ·rfl
theorem Ul{kindOf:Str→Option FI}{x:Str}:∀{binds:List (Str×A6)} {m:Str→Option A6},(∀v,(x,v)∉binds)→GN kindOf binds m x=m x
 | [],_,_=>rfl
 | (n,v)::r,m,h=>by
  unfold GN;rw[Ul λw hw=>h w (C8 _ hw)];split
  ·rfl
  ·have:x≠n:=by rintro rfl;exact h v D4
   simp[this]
theorem Um{kindOf:Str→Option FI}{x:Str}{v:A6}:∀{P:List Str} {vs:List A6} {i:Nat} {m:Str→Option A6},P.Nodup→P[i]?=ND x→vs[i]?=ND v→kindOf x=ND .local →
  GL kindOf (P.zip vs) m x=ND v
 | [],_,_,_,_,h,_,_=>by simp at h
 | _::_,[],_,_,_,_,h,_=>by simp at h
 | p::P,w::vs,0,m,nd,h1,h2,hk=>by simp at h1 h2;subst h1;subst h2;show GL kindOf ((p,w)::P.zip vs) m p=_;unfold GL;rw[Uk λv hv=>(L5.mp nd).1 (Y0 hv).1,if_pos hk];simp
 | p::P,w::vs,i+1,m,nd,h1,h2,hk=>by show GL kindOf ((p,w)::P.zip vs) m x=_;unfold GL;exact Um (i:=i) (L5.mp nd).2 (by simpa using h1) (by simpa using h2) hk
theorem Uo{kindOf:Str→Option FI}{x:Str}{v:A6}:∀{P:List Str} {vs:List A6} {i:Nat} {m:Str→Option A6},P.Nodup→P[i]?=ND x→vs[i]?=ND v→kindOf x≠ND .local →
  GN kindOf (P.zip vs) m x=ND v
 | [],_,_,_,_,h,_,_=>by simp at h
 | _::_,[],_,_,_,_,h,_=>by simp at h
 | p::P,w::vs,0,m,nd,h1,h2,hk=>by simp at h1 h2;subst h1;subst h2;show GN kindOf ((p,w)::P.zip vs) m p=_;unfold GN;rw[Ul λv hv=>(L5.mp nd).1 (Y0 hv).1,if_neg hk];simp
 | p::P,w::vs,i+1,m,nd,h1,h2,hk=>by show GN kindOf ((p,w)::P.zip vs) m x=_;unfold GN;exact Uo (i:=i) (L5.mp nd).2 (by simpa using h1) (by simpa using h2) hk
def start(N:List Str)(vs:List V):St:=vs.map ND++E4 (N.length-vs.length) none
def Fv(CX:mj)(P:AI)(w:AL)(K:aF)(mg:Str→Option A6)(base:AM)(N:List Str)(qual:Str)(scope:BF)(f:A7)(cd:A6)(A:AN)(outer:List Env)(s:A8)(H:Hp)(E:XK):Cx where
 prog:=P
 w:=w
 K:=K
 mg:=mg
 base:=base
 A:=A.deeper (BS qual scope s.heap.objs.size f cd)
 N:=N
 s₀:=s
 H₀:=H
 env:=BS qual scope s.heap.objs.size f cd
 outer:=outer
 stack:=BS qual scope s.heap.objs.size f cd::outer
 ex:=[]
 calm:=NG
 fn:=λ_=>NG
 pn:=[]
 xe:=λe s'=>AF (AG P w) (A.deeper (BS qual scope s.heap.objs.size f cd)) (leaving (BS qual scope s.heap.objs.size f cd) e) (λ_ s''=>CX outer H s E e s'') (λe' s''=>CX outer H s E e' s'') s'
theorem FW{sc:BF}{n:Nat}{x:Str}(h:sc.names.lookup x=ND .cell):∃c,(KE n sc.names []).lookup x=ND c:=by have q:=Y5 sc.names n [] (.inl h);exact W8.mp q
theorem mq{CX:mj}{P:AI}{w:AL}{K:aF}{mg:Str→Option A6}{base:AM}{N ps:List Str}{qual:Str}{scope:BF}{f:A7}{cd:A6}{A:AN}{outer:List Env}{s s1:A8}{H:Hp}{E:XK}{us:List A6}{vs:List V}
  (S:bB N ps scope) (hd:A.handled=none) (e0:RP P w K mg base A outer s H) (hl:vs.length=ps.length) (r:Vals vs us)
  (x:InCallC s s.heap.objs.size (GL (BS qual scope s.heap.objs.size f cd).kindOf (ps.zip us) λ_=>none) (KE (s.heap.objs.size+1) scope.names []) (GN (BS qual scope s.heap.objs.size f cd).kindOf (ps.zip us) λ_=>none) s1) :
  Inv (Fv CX P w K mg base N qual scope f cd A outer s H E) [] (start N vs) H s1:=by
 have hpl:ps.length≤N.length:=by have:=congrArg j4 S.pre;rw[J0]at this;omega
 obtain⟨h1,tk,rfl,hk⟩:=x.done;have noA:∀b:A7,b∉(Fv CX P w K mg base N qual scope f cd A outer s H E).ex:=λb z=>absurd (show b∈([]:List A7)from z) (by simp);refine⟨⟨e0.mod,S.kind,U,U,C6 _,λy z c h1 h2=>?_,λy hy=>?_,λy c _ h=>?_,λ_=>hd,Around.frames_deeper e0.frames,.inr ⟨U,U⟩,λb z=>absurd z (noA b),e0.bs,e0.bsz,λb _ _=>noA b,λb z=>absurd z (noA b),e0.Lr,e0.frf⟩,
  rfl,e0.bare,Un.kept hk,⟨_,x.toInCall.ns,λi y v h1 h2 h3=>?_⟩,λy c h=>⟨_,x.cell y c h⟩,e0.hok.fresh (C6 _),λy c h=>?_,λp hp=>absurd (show p∈([]:List (A7×Obj))from hp) (by simp),e0.hok.kept hk,?_⟩
 ·exact name_of_addr x.apart (M9 h1) (M9 h2)
 ·have hy:scope.names.lookup y=ND .cell∨scope.names.lookup y=ND .free:=hy;rcases hy with hy | hy
  ·exact FW hy
  ·exact absurd U (S.aFq _ (M9 hy))
 ·exact O5 (x.above y c (M9 h))
 ·have hi:i<vs.length:=by
   unfold start at h2;by_cases hi:i<vs.length
   ·exact hi
   ·rw[N1 (by simpa using hi)]at h2;rw[P4]at h2;split at h2<;>cases h2
  have ha:vs[i]?=ND v:=by
   unfold start at h2;rw[G9 (by simpa using hi),B8]at h2;cases e:vs[i]? with
   | none=>rw[e]at h2;cases h2
   | some a=>rw[e]at h2;cases h2;rfl
  obtain⟨u,hu,rv⟩:=r.get ha;have hp:ps[i]?=ND y:=by rw[←S.pre,List.getElem?_take_of_lt (by omega)];exact h1
  have ndP:ps.Nodup:=by rw[←S.pre];exact S.nd.sublist (O0 _ _)
  refine⟨u,rv,?_⟩;rcases S.par y (D9 hp)with k | k
  ·exact .inl ⟨k,Um ndP hp hu k⟩
  ·obtain⟨c,e⟩:=FW (n:=s.heap.objs.size+1) k;refine .inr ⟨.inl k,c,e,?_⟩;have q:=x.cell y c e;rw[Uo ndP hp hu (by show scope.names.lookup y≠_;rw[k];decide)]at q;exact q
 ·exact e0.hok.fresh (O5 (x.above y c (M9 h)))
 ·unfold start;show _=N.length;rw[C7,B7,P9];omega
theorem aAd{CX:mj}{P:AI}{w:AL}{K:aF}{mg:Str→Option A6}{base:AM}{k:Nat}{f:A7}{name qual:Str}{params:Arguments}{body:List AH}{scope:BF}{dV kV doc pm cdv ct oc:A6}{an od:Option A7}
  {osl:Array (Option A6)} {N ps:List Str} {sp:Sp} (lk:K.lookup f=ND ⟨oc,od,.func (F6 name qual params body scope dV kV doc pm an cdv ct),osl⟩) (hcd:K4 K cdv qual=NG) (S:bB N ps scope)
  (len:∀vs H Q E,sp vs H Q E→vs.length=ps.length)
  (hbody:∀(A:AN)(outer:List Env)(s:A8)(H:Hp)(vs:List V)(Q:VK)(E:XK),jR k (A.deeper (BS qual scope s.heap.objs.size f cdv))→sp vs H Q E →
   ∃t,DY (Fv CX P w K mg base N qual scope f cdv A outer s H E) body t∧t {nx:=λ_ H'=>Q .non H',rt:=Q} (start N vs) H) :
  zF P w K mg base CX (k+1) f (F6 name qual params body scope dV kV doc pm an cdv ct) ps sp:=by
 refine⟨len,λA outer s H args us vs Q E hr e0 hb r hsp=>?_⟩;have hl:=len _ _ _ _ hsp;have KX:K.In s.heap:=e0.mod.kin.keeps λb o e=>(e0.bs b o e).1;have lim:s.heap.NoLimit:=e0.mod.nolimit.keeps λb o e=>(e0.bs b o e).1;have hkind:∀y∈ps.zip us,scope.names.lookup y.1=ND .local∨(scope.names.lookup y.1=ND .cell∧((KE (s.heap.objs.size+1) scope.names []).lookup y.1).isSome=NG):=λ⟨n,v⟩ hy=>by
  rcases S.par n (Y0 hy).1 with q | q
  ·exact .inl q
  ·exact .inr ⟨q,Y5 _ _ _ (.inl q)⟩
 refine codeAny_call_function hr.depth (KX _ _ lk) U S.co S.gen U (PySem.W.codeRec_of KX hcd) (hb _ _ _ _ ?_);refine wpAny_newFunctionEnv_cells S.kind hkind λenv he s1 x=>?_;subst he;refine⟨lim.keeps x.toInCall.keep,codeAny_func ?_⟩;obtain⟨t,ht,hq⟩:=hbody A outer s H vs Q E (hr.deeper _) hsp;have I:Inv (Fv CX P w K mg base N qual scope f cdv A outer s H E) [] (start N vs) H s1:=mq S hr.hd e0 hl r x;refine AW (ht [] s1 (start N vs) H _ I hq) (λfl s' hs=>?_) λe s' hs=>hs;have fin:∀{σ':St} {H':Hp} {v:V} {u:A6},Inv (Fv CX P w K mg base N qual scope f cdv A outer s H E) [] σ' H' s'→RelV v u→Q v H'→CE outer P w H s Q u s':=
  λ{σ' H' v u} J rv q=>⟨v,H',J.os,J.bare,J.base,J.hok,rv,q⟩
 cases fl with
 | ret u=>obtain⟨v,σ',H',J,rv,q⟩:=hs;exact fin J rv q
 | next=>obtain⟨σ',H',J,q⟩:=hs;exact fin (v:=V.non) (u:=BA) J U q
 | brk=>obtain⟨_,_,_,q⟩:=hs;exact False.elim q
 | cont=>obtain⟨_,_,_,q⟩:=hs;exact False.elim q
end L2
namespace L2
open PySem PySem.Spec PyProof.Rows
section
variable{X:Cx}{x:Str}{p pos:Pos}{e:AB}{es:List AB}{t:TA}{id T:String}{r:List V→Hp→VK→Prop}
def tCB(r:List V→Hp→VK→Prop)(t:TA):TE:=λσ H Q=>t σ H λvs H1=>r vs H1 Q
theorem FZ(hc:nF X (.builtin id) r)(hg:Gl X x)(hm:X.mg x=none)(hv:AU x=ND (.builtin id))(ha:PA X (e::es) t)(hn:x ≠ "__name__" := by decide) (hdb:(x==("__debug__" : Str))=NH:=by decide)
  (he:AD (e::es) X.env=(NH,AO e X.env)::AD es X.env:=by rfl) (hpl:(AY pos (AD es X.env)).any (·.1)=NH:=by rfl):PE X (.Call (.Name x p) (e::es) [] pos) (tCB r t):=by
 intro pins s σ H Q I h;refine BC (wN I hg hm hv ?_ hn hdb);exact T7 (jA (ha pos pins s σ H _ I h) λus s1 ⟨vs,H1,I1,r1,q1⟩=>hc pins s1 σ H1 vs us Q I1 r1 q1) he hpl
theorem my(hc:nF X (.type T) r)(hg:Gl X x)(hm:X.mg x=none)(hv:AU x=ND (.type T))(ha:PA X (e::es) t)(hn:x ≠ "__name__" := by decide) (hdb:(x==("__debug__" : Str))=NH:=by decide)
  (he:AD (e::es) X.env=(NH,AO e X.env)::AD es X.env:=by rfl) (hpl:(AY pos (AD es X.env)).any (·.1)=NH:=by rfl):PE X (.Call (.Name x p) (e::es) [] pos) (tCB r t):=by
 intro pins s σ H Q I h;refine BC (wN I hg hm hv ?_ hn hdb);exact K8 (jA (ha pos pins s σ H _ I h) λus s1 ⟨vs,H1,I1,r1,q1⟩=>hc pins s1 σ H1 vs us Q I1 r1 q1) he hpl
end
end L2
namespace HT
open PySem PyProof.Rows
theorem aAe(A:AN)(s:A8)(a:Int)(t:Tok)(c:Int)(u:Tok)(prog:AI)(w:AL)(E:A6→A8→Prop)(Q:A6→A8→Prop)(h:Q (.bool (decide (a<c))) s) :
  AF (AG prog w) A (richCompare .Lt (.int a t) (.int c u)) Q E s:=
 (PyProof.Rows.lt_int h:AF (AG prog w) A (AS .Lt (.int a t) (.int c u)) Q E s)
section
open PySem.SeqAt
open PySem.AutoSeq1 (wpAny_loadPart')
open PySem.MeetsSeq PySem.MeetsSeq2 PySem.MeetsSeq3
end
section
variable{prog:AI}{w:AL}{A:AN}{E:A6→A8→Prop}{s:A8}
def Nt(n d:Nat):Option Int→Nat
 | none=>d
 | some v=>if v<0 then(v+(n:Int)).toNat else min v.toNat n
theorem aCI(n d k:Nat):Nt n d (ND (k:Int))=min k n:=by show (if(k:Int)<0 then((k:Int)+(n:Int)).toNat else min (k:Int).toNat n)=min k n;rw[if_neg (by omega),D7]
end
end HT
namespace L2
open PySem PySem.Spec PyProof.Rows
abbrev TO:=St→Hp→(Option Int→Hp→Prop)→Prop
def PO(X:Cx)(e:Option AB)(t:TO):Prop:=
 ∀(pins:List (A7×Obj))(s:A8)(σ:St)(H:Hp)(Q:Option Int→Hp→Prop),Inv X pins σ H s→t σ H Q →
  AF (AG X.prog X.w) X.A (evalPart e X.env) (λu s'=>∃o H',Inv X pins σ H' s'∧IsPart u o∧Q o H') X.xe s
def ZV:TO:=λ_ H Q=>Q none H
def aEd(t:TE):TO:=λσ H Q=>t σ H λx H1=>∃i,x=.int i∧Q (ND i) H1
theorem intsAre_of{ns:List Int}:∀{us:List A6},Vals (ns.map V.int) us→ED us ns:=by
 induction ns with
 | nil=>intro us r;rw[J2]at r;cases r;exact .nil
 | cons n ns ih=>
  intro us r;rw[D3]at r;cases r with
  | cons r1 r2=>obtain⟨t,e⟩:=r1;subst e;exact .cons n t (ih r2)
section
variable{X:Cx}{e:AB}{te:TE}{lo hi:Option AB}{tl th:TO}{pos p2:Pos}
theorem aCJ:PO X none ZV:=by intro pins s σ H Q I h;rw[KO];exact AE ⟨none,H,I,.none,h⟩
theorem aCK(h:PE X e te):PO X (ND e) (aEd te):=by intro pins s σ H Q I hw;rw[evalPart_some];refine jA (h pins s σ H _ I hw) λu s1 ⟨x,H1,I1,r1,q1⟩=>?_;obtain⟨i,rfl,q⟩:=q1;obtain⟨t,rfl⟩:=r1;exact⟨ND i,H1,I1,.int i t,q⟩
def SlR(X:Cx)(r:V→Option Int→Option Int→Hp→VK→Prop):Prop:=
 ∀(pins:List (A7×Obj))(s:A8)(σ:St)(H:Hp)(x:V)(v vl vu:A6)(lo hi:Option Int)(sl:A7)(Q:VK),Inv X pins σ H s→RelV x v→s.heap.IsSliceOf sl vl vu .none→IsPart vl lo→IsPart vu hi→r x lo hi H Q →
  ∃T id,typeLookup (.type T) "__getitem__" = pure (ND (.builtin id))∧s.TypeIs v T∧AF (AG X.prog X.w) X.A (GA v (.ref sl)) (EP X pins σ Q) X.xe s
def tSl(r:V→Option Int→Option Int→Hp→VK→Prop)(te:TE)(tl th:TO):TE:=λσ H Q=>te σ H λx H1=>tl σ H1 λl H2=>th σ H2 λu H3=>r x l u H3 Q
theorem GC{r:V→Option Int→Option Int→Hp→VK→Prop}(hr:SlR X r)(he:PE X e te)(hl:PO X lo tl)(hu:PO X hi th):PE X (.Subscript e (.Slice lo hi none p2) pos) (tSl r te tl th):=by intro pins s σ H Q I h;refine IS (jA (he pins s σ H _ I h) λv s1 ⟨x,H1,I1,r1,q1⟩=>?_);refine wpAny_Slice (jA (hl pins s1 σ H1 _ I1 q1) λvl s2 ⟨l,H2,I2,pl,q2⟩=>jA (hu pins s2 σ H2 _ I2 q2) λvu s3 ⟨u,H3,I3,pu,q3⟩=>?_);rw[KO];refine AE ?_;have I4:Inv X pins σ H3 {s3 with heap:=s3.heap.push {cls:=.type "slice", data:=.fields #[vl,vu,.none]}}:=I3.kept (t':=s3.toks) λb ob q=>AA _ q;obtain⟨T,id,hT,ht,hg⟩:=hr pins {s3 with heap:=s3.heap.push {cls:=.type "slice", data:=.fields #[vl,vu,.none]}} σ H3 x v vl vu l u s3.heap.objs.size Q I4 r1 (MI ..) pl pu q3;show AF (AG X.prog X.w) X.A (GY e (.Slice lo hi none p2) v (.ref s3.heap.objs.size)) (EP X pins σ Q) X.xe {s3 with heap:=s3.heap.push {cls:=.type "slice", data:=.fields #[vl,vu,.none]}};exact tail_any (ops:=[.ref s3.heap.objs.size,v]) ht hT hg (by with_unfolding_all rfl)
def RT(xs:List V)(lo hi:Option Int):List V:=(xs.drop (HT.Nt xs.length 0 lo)).take (HT.Nt xs.length xs.length hi-HT.Nt xs.length 0 lo)
theorem GD(xs:List V)(lo hi:Option Int):(RT xs lo hi).length≤xs.length:=by unfold RT;rw[J0,O8];omega
end
end L2
namespace L2
open PySem PySem.Spec PyProof.Rows
def Up(n:Nat)(i:Int):Option Nat:=if 0≤i then(if i<n then ND i.toNat else none)else if -(n:Int)≤i then ND (i+n).toNat else none
def QZ{α:Type}(xs:List α)(i:Int):Option α:=(Up xs.length i).bind λj=>xs[j]?
theorem ZW{n:Nat}{i:Int}{j:Nat}(h:Up n i=ND j):KF i n=ND j∧j<n∧-(n:Int)≤i∧i<n:=by
 unfold Up at h;by_cases h0:0≤i
 ·rw[if_pos h0]at h;by_cases h1:i<n
  ·rw[if_pos h1]at h;have e:i.toNat=j:=F4 h;exact⟨by rw[Fh h0 h1,e],by omega,by omega,h1⟩
  ·rw[if_neg h1]at h;cases h
 ·rw[if_neg h0]at h;by_cases h1:-(n:Int)≤i
  ·rw[if_pos h1]at h;have e:(i+n).toNat=j:=F4 h;exact⟨by rw[HM (by omega) h1,e],by omega,h1,by omega⟩
  ·rw[if_neg h1]at h;cases h
theorem Xk{α:Type}{xs:List α}{i:Int}{v:α}(h:QZ xs i=ND v):∃j,KF i xs.length=ND j∧xs[j]?=ND v∧j<xs.length∧-(xs.length:Int)≤i∧i<xs.length:=by
 unfold QZ at h;cases e:Up xs.length i with
 | none=>rw[e]at h;cases h
 | some j=>rw[e]at h;obtain⟨h1,h2,h3,h4⟩:=ZW e;exact⟨j,h1,h,h2,h3,h4⟩
theorem aCL{α:Type}{xs:List α}{j:Nat}{v:α}(h:xs[j]?=ND v):QZ xs (j:Int)=ND v:=by
 have hj:j<xs.length:=(D1.mp h).1;have e:Up xs.length (j:Int)=ND j:=by unfold Up;rw[if_pos (by omega),if_pos (by omega)];simp
 unfold QZ;rw[e];exact h
def Xl(b:AB):Prop:=∀o i,Fk b NH o i=operate [o,i] (GA o i)
def IxR(X:Cx)(r:R2):Prop:=
 ∀(value slice:AB)(pins:List (A7×Obj))(s:A8)(σ:St)(H:Hp)(x y:V)(v u:A6)(Q:VK),Inv X pins σ H s→RelV x v→RelV y u→r x y H Q →
  Fk slice NH v u=operate [v,u] (GA v u)→AF (AG X.prog X.w) X.A (GY value slice v u) (EP X pins σ Q) X.xe s
def MtR(X:Cx)(id:String)(r:V→List V→Hp→VK→Prop):Prop:=
 ∀(pins:List (A7×Obj))(s:A8)(σ:St)(H:Hp)(x:V)(xs:List V)(v:A6)(us:List A6)(Q:VK),Inv X pins σ H s→RelV x v→Vals xs us→r x xs H Q →
  AF (AG X.prog X.w) X.A (call (.builtin id) (v::us)) (EP X pins σ Q) X.xe s
section
variable{X:Cx}{a b:AB}{ta tb:TE}{pos:Pos}
theorem IxR.or{r r':R2}(h:IxR X r)(h':IxR X r'):IxR X (λx y H Q=>r x y H Q∨r' x y H Q):=by
 intro value slice pins s σ H x y v u Q I rx ry q hs;rcases q with q | q
 ·exact h value slice pins s σ H x y v u Q I rx ry q hs
 ·exact h' value slice pins s σ H x y v u Q I rx ry q hs
theorem aEe{r:R2}(hr:IxR X r)(ha:PE X a ta)(hb:PE X b tb)(hs:Xl b):PE X (.Subscript a b pos) (CW r ta tb):=by intro pins s σ H Q I h;exact IS (aFf ha hb I h λv u s2 x y H2 I2 rx ry q=>hr a b pins s2 σ H2 x y v u Q I2 rx ry q (hs _ _))
def aHr(K:aF):R2:=λx y H Q=>∃p xs i v,x=.ref p∧y=.int i∧pK K H p xs∧QZ xs i=ND v∧Q v H
def aHs(K:aF):R2:=λx y H Q=>∃p xs i v,x=.ref p∧y=.int i∧zO K H p xs∧QZ xs i=ND v∧Q v H
def aHt:R2:=λx y H Q=>∃z i c,x=.str z∧y=.int i∧z.length≤sizeLine∧QZ z.cps.toList i=ND c∧Q (.str ⟨#[c]⟩) H
theorem aCM:IxR X (aHr X.K):=by
 intro value slice pins s σ H x y v u Q I rx ry h hs;obtain⟨p,xs,i,z,rfl,rfl,hq,he,q⟩:=h;cases rx;obtain⟨t,rfl⟩:=ry;obtain⟨its,r,pl,hz⟩:=I.list hq;obtain⟨j,h1,h2,h3,h4,h5⟩:=Xk he;obtain⟨w,ew,Sv⟩:=r.get h2;have hl:=r.length;have hn:=Nq;have fin:EP X pins σ Q w s:=⟨z,H,I,Sv,q⟩
 by_cases h0:0≤i
 ·have hj:i.toNat=j:=by rw[Fh h0 h5]at h1;exact F4 h1
  exact item_listR pl.isList h0 (by omega) (by rw[hj];simpa using ew) fin hs
 ·have hj:(i+(its.toArray.size:Int)).toNat=j:=by rw[HM (by omega) h4]at h1;rw[C5,←hl];exact F4 h1
  exact Fm (x:=w) pl.isList.typeIs slot_list_getitem.lookup
   (wpAny_getItem_list_neg (Q:=λr s'=>r=w∧EP X pins σ Q r s') pl.isList (by omega) (by rw[C5]<;>omega) (by omega) (by rw[hj];simpa using ew) ⟨U,fin⟩) hs
theorem aFr:IxR X (aHs X.K):=by
 intro value slice pins s σ H x y v u Q I rx ry h hs;obtain⟨p,xs,i,z,rfl,rfl,hq,he,q⟩:=h;cases rx;obtain⟨t,rfl⟩:=ry;obtain⟨its,r,pl,hz⟩:=I.tuple hq;obtain⟨j,h1,h2,h3,h4,h5⟩:=Xk he;obtain⟨w,ew,Sv⟩:=r.get h2;have hl:=r.length;have hn:=Nq;have fin:EP X pins σ Q w s:=⟨z,H,I,Sv,q⟩
 exact Fm (x:=w) pl.typeIs slot_tuple_getitem.lookup
  (getItem_tuple (j:=j) (Q:=λr s'=>r=w∧EP X pins σ Q r s') pl (by omega) (by omega) (by rw[C5,←hl];exact h1) (by simpa using ew) ⟨U,fin⟩) hs
theorem aFs:IxR X aHt:=by
 intro value slice pins s σ H x y v u Q I rx ry h hs;obtain⟨z,i,c,rfl,rfl,hz,he,q⟩:=h;obtain⟨t,rfl⟩:=rx;obtain⟨t',rfl⟩:=ry;obtain⟨j,h1,h2,h3,h4,h5⟩:=Xk he;have hl:z.cps.toList.length=z.length:=by simp[Str.length]
 rw[hl]at h1 h4 h5;have hn:=Nq;exact tail_any (typeIs_str s z t) slot_str_getitem.lookup (getItem_str (c:=c) (by
  have e1:decide (i < -(2 ^ 63:Int))=NH:=decide_eq_false (by omega);have e2:decide (i≥2 ^ 63)=NH:=decide_eq_false (by omega);rw[e1,e2,o7]) (by rw[h1];simpa using h2) ⟨.str ⟨#[c]⟩,H,I.tok _,⟨_,U⟩,q⟩) hs
def rIx(K:aF):R2:=λx y H Q=>aHr K x y H Q∨aHs K x y H Q∨aHt x y H Q
theorem aFt:IxR X (rIx X.K):=aCM.or (aFr.or aFs)
theorem RV(its:List A6)(n j:Nat)(u:A6):DT (·.setIfInBounds j u) {cls:=.type "list", data:=.seq its.toArray n}={cls:=.type "list", data:=.seq (its.set j u).toArray n}:=by simp[DT]
theorem Inv.lst{pins:List (A7×Obj)}{σ:St}{H:Hp}{s:A8}{p:A7}{xs:List V}(I:Inv X pins σ H s)(h:H p=ND (.lst xs)) :
  ∃(its:List A6)(n:Nat),Vals xs its∧s.heap.get? p=ND {cls:=.type "list", data:=.seq its.toArray n}∧xs.length≤sizeLine:=by
 obtain⟨z,its,n,r,e⟩:=I.hok p _ h;exact⟨its,n,r,e,z⟩
theorem Inv.aFu{pins:List (A7×Obj)}{σ:St}{H:Hp}{s:A8}{p:A7}{xs ys:List V}{its its':List A6}{n n':Nat}{f:Obj→Obj}(I:Inv X pins σ H s)(h:H p=ND (.lst xs))
  (ho:s.heap.get? p=ND {cls:=.type "list", data:=.seq its.toArray n}) (hf:f {cls:=.type "list", data:=.seq its.toArray n}={cls:=.type "list", data:=.seq its'.toArray n'}) (r:Vals ys its') (hz:ys.length≤sizeLine) (t:Nat) :
  Inv X pins σ (upd H p (.lst ys)) {s with heap:=s.heap.update p f,toks:=t}:=by
 have e:(s.heap.update p f).get? p=ND {cls:=.type "list", data:=.seq its'.toArray n'}:=by rw[BB f ho (by rw[hf]<;>rfl),hf]
 refine I.write (x:=p) (e:=p) (by rw[h];trivial) (.inl U) (λb u hb q=>(BE _ _ (Ne.symm hb)).trans q) ⟨_,e⟩ ?_;exact⟨hz,its',n',r,e⟩
def Fw:V→V→V→Hp→(Hp→Prop)→Prop:=λo i v H Q=>∃p xs k j,o=.ref p∧i=.int k∧H p=ND (.lst xs)∧Up xs.length k=ND j∧Q (upd H p (.lst (xs.set j v)))
theorem set_list:aHg X Fw:=by
 intro pins s σ H o i v ov iv u Q I ro ri rv h;obtain⟨p,xs,k,j,rfl,rfl,hp,hj,q⟩:=h;cases ro;obtain⟨t,rfl⟩:=ri;obtain⟨its,n,r,ho,hz⟩:=I.lst hp;obtain⟨h1,h2,h3,h4⟩:=ZW hj;have hl:=r.length;have hn:=Nq;have I':Inv X pins σ (upd H p (.lst (xs.set j v))) {s with heap:=s.heap.update p (DT (·.setIfInBounds j u))}:=
  I.aFu hp ho (RV its n j u) (r.set rv j) (by rw[J5];exact hz) s.toks
 by_cases h0:0≤k
 ·have hk:k.toNat=j:=by rw[Fh h0 h4]at h1;exact F4 h1
  exact PySem.W.ki_setAt ho h0 (by omega) (by rw[C5,←hl];exact h4) (by rw[hk];exact⟨_,I',q⟩)
 ·have hk:(k+(its.toArray.size:Int)).toNat=j:=by rw[HM (by omega) h3]at h1;rw[C5,←hl];exact F4 h1
  exact PySem.W.ki_setBack ho (by omega) (by rw[C5,←hl];exact h3) (by omega) (by rw[hk];exact⟨_,I',q⟩)
theorem Xm(lo hi:Option Int)(n:Nat):(DH lo hi none n).1=((HT.Nt n 0 lo:Nat):Int)∧(DH lo hi none n).2.1=((HT.Nt n n hi:Nat):Int)∧(DH lo hi none n).2.2=1:=by
 refine⟨?_,?_,U⟩
 ·cases lo with
  | none=>simp[DH,HT.Nt]
  | some i=>
   simp only[DH,HT.Nt,j6,show (1:Int) > 0 by decide,if_true];by_cases h:i<0
   ·simp only[h,if_true]<;>omega
   ·simp only[h,if_false]<;>omega
 ·cases hi with
  | none=>simp[DH,HT.Nt]
  | some i=>
   simp only[DH,HT.Nt,j6,show (1:Int) > 0 by decide,if_true];by_cases h:i<0
   ·simp only[h,if_true]<;>omega
   ·simp only[h,if_false]<;>omega
theorem Sw(its:List A6)(lo hi:Option Int):slicePick its.toArray lo hi none=((its.drop (HT.Nt its.length 0 lo)).take (HT.Nt its.length its.length hi-HT.Nt its.length 0 lo)).toArray:=by obtain⟨h1,h2,h3⟩:=Xm lo hi its.toArray.size;unfold slicePick;rw[h1,h2,h3];simp only[sliceRange_one,pick_run,C5]<;>rfl
def aCN(K:aF):V→Option Int→Option Int→Hp→VK→Prop:=λx lo hi H Q=>∃a xs,x=.ref a∧pK K H a xs∧∀p,H p=none→Q (.ref p) (upd H p (.lst (RT xs lo hi)))
theorem aCO:SlR X (aCN X.K):=by intro pins s σ H x v vl vu lo hi sl Q I rx hs pl pu h;obtain⟨a,xs,rfl,hx,q⟩:=h;cases rx;obtain⟨its,r,ht,hz⟩:=I.list hx;have hlen:=r.length;refine⟨"list", _,slot_list_getitem.lookup,ht.isList.typeIs,?_⟩;refine wpAny_getItem_list_slice ht.isList hs pl pu .none (by simp) ?_ (by rw[C5]<;>omega);rw[Sw,←hlen];refine⟨.ref s.heap.objs.size,_,I.laid (t':=s.toks) (o:=.lst (RT xs lo hi)) (λb ob q=>AA _ q) (C6 _) ?_,U,q _ (I.hok.fresh (C6 _))⟩;exact⟨G2 (GD xs lo hi) hz,_,0,(r.drop (HT.Nt xs.length 0 lo)).take (HT.Nt xs.length xs.length hi-HT.Nt xs.length 0 lo),AK _ U⟩
def zQ:V→Bool
 | .non=>NG
 | .bl _=>NG
 | .int _=>NG
 | .str _=>NG
 | _=>NH
def eqV:V→V→Bool
 | .non,.non=>NG
 | .bl a,.bl b=>a==b
 | .bl a,.int b=>(if a then 1 else 0)==b
 | .int a,.bl b=>a==(if b then 1 else 0)
 | .int a,.int b=>a==b
 | .str a,.str b=>a==b
 | _,_=>NH
theorem aFv{A:AN}{s:A8}{y x:V}{u v:A6}(ry:RelV y u)(rx:RelV x v)(fy:zQ y=NG)(fx:zQ x=NG):LX A s u v (eqV y x):=by
 cases y with
 | non=>
  cases ry;cases x with
  | non=>cases rx;exact MZ _
  | bl b=>cases rx;exact LY b
  | int b=>obtain⟨t,rfl⟩:=rx;exact Lu b t
  | str b=>obtain⟨t,rfl⟩:=rx;exact Lv b t
  | _=>exact absurd (show NH=NG from fx) E2
 | bl a=>
  cases ry;cases x with
  | non=>cases rx;exact LZ a
  | bl b=>cases rx;exact Lc a b
  | int b=>obtain⟨t,rfl⟩:=rx;exact MA a b t
  | str b=>obtain⟨t,rfl⟩:=rx;exact MB a b t
  | _=>exact absurd (show NH=NG from fx) E2
 | int a=>
  obtain⟨t',rfl⟩:=ry;cases x with
  | non=>cases rx;exact MC a t'
  | bl b=>cases rx;exact MD a t' b
  | int b=>obtain⟨t,rfl⟩:=rx;exact ML a t' b t
  | str b=>obtain⟨t,rfl⟩:=rx;exact HA a t' b t
  | _=>exact absurd (show NH=NG from fx) E2
 | str a=>
  obtain⟨t',rfl⟩:=ry;cases x with
  | non=>cases rx;exact ME a t'
  | bl b=>cases rx;exact MG a t' b
  | int b=>obtain⟨t,rfl⟩:=rx;exact HC a t' b t
  | str b=>obtain⟨t,rfl⟩:=rx;exact MM a t' b t
  | _=>exact absurd (show NH=NG from fx) E2
 | _=>exact absurd (show NH=NG from fy) E2
def Xn(x:V)(u:A6):Bool:=match u with
 | .none=>eqV .non x
 | .bool b=>eqV (.bl b) x
 | .int i _=>eqV (.int i) x
 | .str z _=>eqV (.str z) x
 | _=>NH
theorem aAf{x y:V}{u:A6}(r:RelV y u)(f:zQ y=NG):Xn x u=eqV y x:=by
 cases y with
 | non=>cases r;rfl
 | bl b=>cases r;rfl
 | int i=>obtain⟨t,rfl⟩:=r;rfl
 | str z=>obtain⟨t,rfl⟩:=r;rfl
 | _=>exact absurd (show NH=NG from f) E2
theorem Fx{x:V}:∀{xs:List V} {us:List A6},Vals xs us→xs.all zQ=NG→us.any (Xn x)=xs.any λy=>eqV y x
 | _,_,.nil,_=>rfl
 | y::xs,u::us,.cons r t,f=>by rw[o8,J7]at f;rw[S5,S5,aAf r f.1,Fx t f.2]
theorem zR{A:AN}{s:A8}{x:V}{v:A6}(rx:RelV x v)(fx:zQ x=NG):∀{xs:List V} {us:List A6},Vals xs us→xs.all zQ=NG→∀u∈us,LX A s u v (Xn x u)
 | _,_,.nil,_=>λu hu=>by cases hu
 | y::xs,u::us,.cons r t,f=>λu' hu=>by
  rw[o8,J7]at f;rcases C9.mp hu with rfl | hu
  ·rw[aAf r f.1];exact aFv r rx f.1 fx
  ·exact zR rx fx t f.2 u' hu
def inV(x:V)(xs:List V):Bool:=xs.any λy=>eqV y x
def rIn(K:aF)(neg:Bool):R2:=λx y H Q=>∃p xs,y=.ref p∧(pK K H p xs∨zO K H p xs)∧zQ x=NG∧xs.all zQ=NG∧Q (.bl (if neg then !inV x xs else inV x xs)) H
theorem mz:wM X (AS .In) (rIn X.K NH):=by
 intro pins s σ H x y v u Q I rx ry h;obtain⟨p,xs,rfl,hq,fx,fs,q⟩:=h;cases ry;rcases hq with hq | hq
 ·obtain⟨its,r,pl,hz⟩:=I.list hq;refine SeqAt.in_listAt (Xn x) pl.isList (λw hw=>zR rx fx r fs w (by simpa using hw)) ⟨.bl _,H,I,U,?_⟩;rw[show its.toArray.any (Xn x)=its.any (Xn x) by simp,Fx r fs];exact q
 ·obtain⟨its,r,pl,hz⟩:=I.tuple hq;refine SeqAt.in_tupleAt (Xn x) pl (λw hw=>zR rx fx r fs w (by simpa using hw)) ⟨.bl _,H,I,U,?_⟩;rw[show its.toArray.any (Xn x)=its.any (Xn x) by simp,Fx r fs];exact q
theorem Xo:wM X (AS .NotIn) (rIn X.K NG):=by
 intro pins s σ H x y v u Q I rx ry h;obtain⟨p,xs,rfl,hq,fx,fs,q⟩:=h;cases ry;rcases hq with hq | hq
 ·obtain⟨its,r,pl,hz⟩:=I.list hq;refine SeqAt.notIn_listAt (Xn x) pl.isList (λw hw=>zR rx fx r fs w (by simpa using hw)) ⟨.bl _,H,I,U,?_⟩;rw[show its.toArray.any (Xn x)=its.any (Xn x) by simp,Fx r fs];exact q
 ·obtain⟨its,r,pl,hz⟩:=I.tuple hq;refine SeqAt.notIn_tupleAt (Xn x) pl (λw hw=>zR rx fx r fs w (by simpa using hw)) ⟨.bl _,H,I,U,?_⟩;rw[show its.toArray.any (Xn x)=its.any (Xn x) by simp,Fx r fs];exact q
theorem Xp:nF X (.builtin "len") (λxs H Q=>∃p ys,xs=[.ref p]∧(pK X.K H p ys∨zO X.K H p ys)∧Q (.int ys.length) H):=by
 intro pins s σ H xs us Q I r h;obtain⟨p,ys,rfl,hq,q⟩:=h;obtain⟨u,rfl,rx⟩:=vals1 r;cases rx;have hn:=Nq;rcases hq with hq | hq
 ·obtain⟨its,r',pl,hz⟩:=I.list hq;have hlen:=r'.length;exact Calls.call_len_list pl.isList (by simp only[C5]<;>omega) ⟨.int ys.length,H,I.tok _,⟨s.toks+1,by rw[C5,hlen]⟩,q⟩
 ·obtain⟨its,r',pl,hz⟩:=I.tuple hq;have hlen:=r'.length;exact len_tuple pl (by simp only[C5]<;>omega) ⟨.int ys.length,H,I.tok _,⟨s.toks+1,by rw[C5,hlen]⟩,q⟩
theorem Xq:nF X (.type "list") (λxs H Q=>∃p ys,xs=[.ref p]∧(pK X.K H p ys∨zO X.K H p ys)∧∀l,H l=none→Q (.ref l) (upd H l (.lst ys))):=by
 intro pins s σ H xs us Q I r h;obtain⟨p,ys,rfl,hq,q⟩:=h;obtain⟨u,rfl,rx⟩:=vals1 r;cases rx;have fin:∀(its:List A6),Vals ys its→ys.length≤sizeLine→∀(h':AM)(c':Nat),(∀b o',s.heap.get? b=ND o'→h'.get? b=ND o') →
   h'.get? s.heap.objs.size=ND {cls:=.type "list", dict:=none,data:=.seq its.toArray c',slots:=#[]}→EP X pins σ Q (.ref s.heap.objs.size) {s with heap:=h'}:=λits r' hz h' c' kp e=>
  ⟨.ref s.heap.objs.size,_,I.laid (t':=s.toks) kp (C6 _) (show jG X.prog X.w _ h' _ (.lst ys)from⟨hz,its,c',r',e⟩),U,q _ (I.hok.fresh (C6 _))⟩
 rcases hq with hq | hq
 ·obtain⟨its,r',pl,hz⟩:=I.list hq;have hlen:=r'.length;obtain⟨o,ho,hc,n,hd⟩:=pl.isList;exact KP p (.inl U) ho hc hd (λh' c' kp e=>fin its r' hz h' c' kp e) (by simp only[C5]<;>omega)
 ·obtain⟨its,r',pl,hz⟩:=I.tuple hq;have hlen:=r'.length;obtain⟨o,ho,hc,n,hd⟩:=pl;exact KP p (.inr U) ho hc hd (λh' c' kp e=>fin its r' hz h' c' kp e) (by simp only[C5]<;>omega)
theorem Sx:nF X (.type "tuple") (λxs H Q=>∃p ys,xs=[.ref p]∧((pK X.K H p ys∧∀l,H l=none→Q (.ref l) (upd H l (.tup ys)))∨(zO X.K H p ys∧Q (.ref p) H))):=by
 intro pins s σ H xs us Q I r h;obtain⟨p,ys,rfl,h⟩:=h;obtain⟨u,rfl,rx⟩:=vals1 r;cases rx;rcases h with ⟨hq,q⟩ | ⟨hq,q⟩
 ·obtain⟨its,r',pl,hz⟩:=I.list hq;have hlen:=r'.length;refine call_tuple_list pl.isList (λh' kp=>?_) (by simp only[C5]<;>omega);have I1:Inv X pins σ H {s with heap:=h'}:=I.kept (t':=s.toks) kp;have I2:Inv X pins σ (upd H h'.objs.size (.tup ys)) {s with heap:=h'.push {cls:=.type "tuple", data:=.seq its.toArray}}:=
   I1.laid (t':=s.toks) (λb o e=>AA _ e) (C6 _) (show jG X.prog X.w _ _ _ (.tup ys)from⟨hz,its,r',IsTup.new _ _⟩)
  exact⟨.ref h'.objs.size,_,I2,U,q _ (I1.hok.fresh (C6 _))⟩
 ·obtain⟨its,r',pl,hz⟩:=I.tuple hq;exact call_tuple_same pl ⟨.ref p,H,I,U,q⟩
def tyV(K:aF)(T:String)(x:V)(H:Hp):Prop:=match x with
 | .str _=>T = "str"
 | .int _=>T = "int"
 | .ref p=>(T = "list" ∧ ∃xs,pK K H p xs)∨(T = "tuple" ∧ ∃o,K.lookup p=ND o∧o.cls=.type "tuple" ∧ o.dict=none) ∨
   (T = "dict" ∧ ((∃kvs,H p=ND (.dK kvs))∨∃kvs,H p=ND (.dT kvs)))∨(T = "set" ∧ ∃S n,H p=ND (.set S n))
 | _=>False
theorem aFw{pins:List (A7×Obj)}{σ:St}{H:Hp}{s:A8}{T:String}{x:V}{v:A6}(I:Inv X pins σ H s)(r:RelV x v)(ty:tyV X.K T x H) :
  s.TypeIs v T∧∀a,v=.ref a→∃ob,s.heap.get? a=ND ob∧ob.dict=none:=by
 cases x with
 | str z=>
  obtain⟨t,rfl⟩:=r
  cases(show T = "str" from ty)
  exact⟨typeIs_str s z t,λ_ e=>nomatch e⟩
 | int i=>
  obtain⟨t,rfl⟩:=r
  cases(show T = "int" from ty)
  exact⟨typeIs_int s i t,λ_ e=>nomatch e⟩
 | ref p=>
  cases r;rcases ty with ⟨rfl,xs,hq⟩ | ⟨rfl,o,hk,hc,hd⟩ | ⟨rfl,hk⟩ | ⟨rfl,S,n,hk⟩
  ·obtain⟨its,_,pl,_⟩:=I.list hq;refine⟨pl.isList.typeIs,λa e=>?_⟩;cases e;obtain⟨o,n,e,c,hd,_⟩:=pl;exact⟨o,e,hd⟩
  ·refine⟨⟨o,I.Im p o hk,hc⟩,λa e=>?_⟩;cases e;exact⟨o,I.Im _ o hk,hd⟩
  ·have z:∃o,s.heap.get? p=ND o∧o.ExactDict:=by
    rcases hk with ⟨kvs,hk⟩ | ⟨kvs,hk⟩
    ·obtain⟨_,_,_,_,o,_,_,e,ex,_⟩:=I.hok p _ hk;exact⟨o,e,ex⟩
    ·obtain⟨_,_,_,_,o,_,_,e,ex,_⟩:=I.hok p _ hk;exact⟨o,e,ex⟩
   obtain⟨o,e,ex⟩:=z;refine⟨⟨o,e,ex.1⟩,λa e2=>?_⟩;cases e2;exact⟨o,e,ex.2.1⟩
  ·obtain⟨o,_,_,_,e,ex,_⟩:=I.hok p _ hk;refine⟨⟨o,e,ex.1⟩,λa e2=>?_⟩;cases e2;exact⟨o,e,ex.2.1⟩
 | _=>exact False.elim ty
def Nu(K:aF)(T:String)(r:V→List V→Hp→VK→Prop)(to:TE)(t:TA):TE:=λσ H Q=>to σ H λx H1=>tyV K T x H1∧t σ H1 λxs H2=>r x xs H2 Q
variable{o e:AB}{es:List AB}{to:TE}{t:TA}{name:Str}{apos cpos:Pos}{T id:String}{r:V→List V→Hp→VK→Prop}
theorem uG(pa:PlainAttrs T)(slot:Slot T name id)(hty:typeOf (.builtin id)=pure (.type "method_descriptor")) (hm:MtR X id r) (ho:PE X o to) (ha:PA X (e::es) t)
  (hbase:CL o name X.env (AO o X.env)=AO o X.env:=by rfl)
  (hfew:((AY cpos (AD (e::es) X.env)).all (λx=>!x.1)&&(DO cpos (Bz [] X.env)).all (λx=>x.1.isSome)
   && decide ((e::es).length+([]:List FB).length+(if([]:List FB).isEmpty then 0 else 1)<30))=NG:=by rfl)
  (hline:(apos.endLine==cpos.line)=NG:=by rfl) (hs:AD (e::es) X.env=(NH,AO e X.env)::AD es X.env:=by rfl) (hplain:(AY cpos (AD es X.env)).any (·.1)=NH:=by rfl) :
  PE X (.Call (.Attribute o name apos) (e::es) [] cpos) (Nu X.K T r to t):=by
 intro pins s σ H Q I h;refine wpAny_Call_method_late hbase hfew hline U (jA (ho pins s σ H _ I h) λv s1 ⟨x,H1,I1,r1,ty,q1⟩=>?_);obtain⟨h1,h2⟩:=aFw I1 r1 ty;refine⟨T,id,pa,slot,hty,h1,h2,?_⟩;have hA:=ha cpos pins s1 σ H1 _ I1 q1;rw[hs]at hA ⊢;refine Fn (by show (NH||(AY cpos (AD es X.env)).any (·.1))=NH;rw[hplain]<;>rfl) (GO ?_);exact jA hA λus s2 ⟨vs,H2,I2,r2,q2⟩=>hm pins s2 σ H2 x vs v us Q I2 r1 r2 q2
end
end L2
namespace L2
open PySem PySem.Spec PyProof.Rows
def MtM(X:Cx)(id:String)(r:V→List V→Hp→VK→Prop):Prop:=
 ∀(pins:List (A7×Obj))(s:A8)(σ:St)(H:Hp)(x:V)(xs:List V)(v:A6)(us:List A6)(Q:VK),Inv X pins σ H s→RelV x v→Vals xs us→r x xs H Q →
  AF (AG X.prog X.w) X.A (call (.builtin id) (v::us)) (EP X pins σ Q) X.xe s
theorem Vals.one:∀{x:V} {us:List A6},Vals [x] us→∃u,us=[u]∧RelV x u
 | _,_,.cons r .nil=>⟨_,U,r⟩
theorem Vals.two:∀{x y:V} {us:List A6},Vals [x,y] us→∃u v,us=[u,v]∧RelV x u∧RelV y v
 | _,_,_,.cons r (.cons q .nil)=>⟨_,_,U,r,q⟩
theorem Vals.eraseIdx:∀{xs:List V} {us:List A6} (i:Nat),Vals xs us→Vals (xs.eraseIdx i) (us.eraseIdx i)
 | _,_,_,.nil=>.nil
 | _,_,0,.cons _ t=>t
 | _,_,i+1,.cons r t=>.cons r (Vals.eraseIdx i t)
theorem Ir{α:Type}:∀(l:List α)(i:Nat),(l.eraseIdx i).length≤l.length
 | [],_=>C6 _
 | _::_,0=>N5 _
 | _::r,i+1=>W9 (Ir r i)
section
variable{X:Cx}{pins:List (A7×Obj)}{σ:St}{H:Hp}{s:A8}{l b:A7}{xs ys zs:List V}
theorem Inv.aCP{its its':List A6}{n:Nat}{f:Array A6→Array A6}{t':Nat}(I:Inv X pins σ H s)(hH:H l=ND (.lst xs))
  (e:s.heap.get? l=ND {cls:=.type "list", data:=.seq its.toArray n}) (hf:f its.toArray=its'.toArray) (hv:Vals ys its') (hz:ys.length≤sizeLine) :
  Inv X pins σ (upd H l (.lst ys)) {s with heap:=s.heap.update l (DT f),toks:=t'}:=by
 have q:=PySem.IsL.update e f;rw[hf]at q;refine I.write (x:=l) (e:=l) (by rw[hH];exact trivial) (.inl U) (λb' u hb hu=>(BE s.heap (DT f) (Ne.symm hb)).trans hu) ⟨_,q⟩ ?_;exact⟨hz,its',_,hv,q⟩
theorem Inv.aHw{its:List A6}{t':Nat}(I:Inv X pins σ H s)(hv:Vals ys its)(hz:ys.length≤sizeLine) :
  Inv X pins σ (upd H s.heap.objs.size (.lst ys)) {s with heap:=s.heap.push {cls:=.type "list", data:=.seq its.toArray},toks:=t'}:=
 I.laid (λ_ _ q=>AA _ q) (C6 _) ⟨hz,its,0,hv,AK _ U⟩
theorem Inv.fresh(I:Inv X pins σ H s):H s.heap.objs.size=none:=I.hok.fresh (C6 _)
theorem Inv.aCQ(I:Inv X pins σ H s)(hH:H l=ND (.lst xs)):xs.length≤sizeLine∧∃(its:List A6)(n:Nat),Vals xs its∧xs.length=its.length∧s.heap.get? l=ND {cls:=.type "list", data:=.seq its.toArray n}:=by obtain⟨z,its,n,r,e⟩:=I.hok l _ hH;exact⟨z,its,n,r,r.length,e⟩
end
section
variable{X:Cx}
def nT:V→List V→Hp→VK→Prop:=λx vs H Q=>∃l xs y,x=.ref l∧vs=[y]∧H l=ND (.lst xs)∧xs.length<sizeLine∧Q .non (upd H l (.lst (xs++[y])))
theorem mJ:MtM X "list.append" nT:=by intro pins s σ H x vs v us Q I rx rv h;obtain⟨l,xs,y,rfl,rfl,hH,hz,q⟩:=h;cases rx;obtain⟨u,rfl,ru⟩:=rv.one;obtain⟨z,its,n,r,hl,e⟩:=I.aCQ hH;refine Ee F.slot_list_append ⟨_,e,U⟩ F.entry_list_append (F.args_list_append_2 _ _) (PySem.list_append l its.toArray n u (by rw[C5];omega)) ⟨e,?_⟩;refine⟨.non,_,I.aCP (its':=its++[u]) hH e (by simp) (r.append (.cons ru .nil)) ?_,U,q⟩;rw[C7,List.length_singleton];omega
def Xr:V→List V→Hp→VK→Prop:=λx vs H Q=>∃l xs i k y,x=.ref l∧vs=[.int i]∧H l=ND (.lst xs)∧-(2 ^ 63)≤i∧i<2 ^ 63∧KF i xs.length=ND k∧xs[k]?=ND y∧Q y (upd H l (.lst (xs.eraseIdx k)))
theorem aAg:MtM X "list.pop" Xr:=by
 intro pins s σ H x vs v us Q I rx rv h;obtain⟨l,xs,i,k,y,rfl,rfl,hH,h1,h2,hk,hy,q⟩:=h;cases rx;obtain⟨u,rfl,ru⟩:=rv.one;obtain⟨t,rfl⟩:=ru;obtain⟨z,its,n,r,hl,e⟩:=I.aCQ hH;obtain⟨w,hw,Sv⟩:=r.get hy;refine Ee F.slot_list_pop ⟨_,e,U⟩ F.entry_list_pop (F.args_list_pop_2 _ _)
  (Ll l its.toArray n i t k w (JI h1 h2) (by rw[C5,←hl];exact hk) (by rw[←L8];exact hw) (by rw[C5];omega)) ⟨e,?_⟩
 refine⟨y,_,I.aCP (its':=its.eraseIdx k) hH e ?_ (r.eraseIdx k) ?_,Sv,q⟩
 ·show its.toArray.eraseIdxIfInBounds k=(its.eraseIdx k).toArray;rw[T3]
 ·have:=Ir xs k;omega
end
section
variable{prog:AI}{w:AL}{A:AN}{E:A6→A8→Prop}{s:A8}
end
section
variable{X:Cx}
end
end L2
namespace L2
open PySem PySem.Spec PyProof.Rows
section
variable{κ:Type} [DecidableEq κ]
def wQ(kvs:List (κ×V))(k:κ):Option V:=(kvs.find? λkv=>decide (kv.1=k)).map (·.2)
def putK(kvs:List (κ×V))(k:κ)(v:V):List (κ×V):=
 if(kvs.any λkv=>decide (kv.1=k))=NG then kvs.map (λkv=>if kv.1=k then(kv.1,v)else kv)else kvs++[(k,v)]
def aJ1(kvs:List (κ×V))(k:κ):List (κ×V):=kvs.filter λkv=>decide (kv.1≠k)
theorem Nv{p:κ×V}{r:List (κ×V)}{k:κ}(e:p.1=k):wQ (p::r) k=ND p.2:=by simp[wQ,N9,e]
theorem Nx{p:κ×V}{r:List (κ×V)}{k:κ}(e:¬p.1=k):wQ (p::r) k=wQ r k:=by simp[wQ,N9,e]
theorem Ny(k:κ):∀kvs:List (κ×V),(kvs.any λkv=>decide (kv.1=k))=(wQ kvs k).isSome
 | []=>rfl
 | p::r=>by
  rw[S5];by_cases e:p.1=k
  ·simp only[Nv e,decide_eq_true e,Bool.true_or,d8]
  ·rw[Nx e,decide_eq_false e,Bool.false_or];exact Ny k r
theorem zT(kvs:List (κ×V))(k:κ)(v:V):(putK kvs k v).length≤kvs.length+1:=by
 unfold putK;split
 ·rw[B7];omega
 ·rw[C7,E9,List.length_nil];omega
theorem yZ.vK{o:Option V}{u:Option A6}(r:yZ o u):o.isSome=u.isSome:=by
 cases o with
 | none=>cases u with
  | none=>rfl
  | some _=>exact(show False from r).elim
 | some _=>cases u with
  | none=>exact(show False from r).elim
  | some _=>rfl
theorem yZ.getD{o:Option V}{u:Option A6}{d:V}{d':A6}(r:yZ o u)(rd:RelV d d'):RelV (o.getD d) (u.getD d'):=by
 cases o with
 | none=>cases u with
  | none=>exact rd
  | some _=>exact(show False from r).elim
 | some _=>cases u with
  | none=>exact(show False from r).elim
  | some _=>exact r
theorem KV.val{kvs:List (κ×V)}{vs:List (κ×A6)}(r:KV kvs vs)(k:κ):yZ (wQ kvs k) (FC vs k):=by
 unfold KV at r
 induction r with
 | nil=>exact True.intro
 | @cons p q ps qs h t ih=>
  obtain⟨h1,h2⟩:=h;by_cases e:p.1=k
  ·have e':q.1=k:=h1.symm.trans e;have b:FC (q::qs) k=ND q.2:=by simp[FC,N9,e']
   rw[Nv e,b];exact h2
  ·have e':¬q.1=k:=λz=>e (h1.trans z);have b:FC (q::qs) k=FC qs k:=by simp[FC,N9,e']
   rw[Nx e,b];exact ih
theorem KV.any{kvs:List (κ×V)}{vs:List (κ×A6)}(r:KV kvs vs)(k:κ):(kvs.any λkv=>decide (kv.1=k))=vs.any λkv=>decide (kv.1=k):=by
 unfold KV at r
 induction r with
 | nil=>rfl
 | cons h t ih=>rw[S5,S5,ih,h.1]
theorem KV.repl{kvs:List (κ×V)}{vs:List (κ×A6)}(r:KV kvs vs)(k:κ){y:V}{u:A6}(ry:RelV y u) :
  KV (kvs.map λkv=>if kv.1=k then(kv.1,y)else kv) (vs.map λkv=>if kv.1=k then(kv.1,u)else kv):=by
 unfold KV at r ⊢
 induction r with
 | nil=>exact .nil
 | @cons p q ps qs h t ih=>
  rw[D3,D3];refine .cons ?_ ih;obtain⟨h1,h2⟩:=h;by_cases e:p.1=k
  ·rw[if_pos e,if_pos (h1.symm.trans e)];exact⟨h1,ry⟩
  ·rw[if_neg e,if_neg (λz=>e (h1.trans z))];exact⟨h1,h2⟩
theorem KV.put{kvs:List (κ×V)}{vs:List (κ×A6)}(r:KV kvs vs)(k:κ){y:V}{u:A6}(ry:RelV y u):KV (putK kvs k y) (stored vs k u):=by
 unfold putK stored;rw[r.any k];by_cases e:(vs.any λkv=>decide (kv.1=k))=NG
 ·rw[if_pos e,if_pos e];exact r.repl k ry
 ·rw[if_neg e,if_neg e];exact LW r ⟨U,ry⟩
theorem KV.keys{kvs:List (κ×V)}{vs:List (κ×A6)}(r:KV kvs vs):kvs.map (·.1)=vs.map (·.1):=by
 unfold KV at r
 induction r with
 | nil=>rfl
 | cons h t ih=>rw[D3,D3,ih,h.1]
theorem KV.length{kvs:List (κ×V)}{vs:List (κ×A6)}(r:KV kvs vs):kvs.length=vs.length:=GV r
end
theorem Uq{P:AI}{w:AL}{k:Key}{u:A6}(r:RelV (kV k) u):(iW P w).is k u=NG:=by
 cases k with
 | inl i=>obtain⟨t,e⟩:=(show ∃t,u=CM i t from r);subst e;exact DP P w i t
 | inr x=>obtain⟨t,e⟩:=(show ∃t,u=FX x t from r);subst e;exact DQ P w x t
theorem Ur{P:AI}{w:AL}:∀{ks:List Key} {us:List A6},Vals (ks.map kV) us→ItemsAre (iW P w) ks us
 | [],_,r=>by rw[J2]at r;cases r;exact .nil
 | k::ks,_,r=>by
  rw[D3]at r;cases r with
  | cons h t=>exact .cons (Uq h) (Ur t)
abbrev KT(H:Hp):List (List Key×V)→List (List Key×A7×A6)→Prop:=Paired λp q=>p.1=q.1∧H q.2.1=ND (.tup (p.1.map kV))∧RelV p.2 q.2.2
theorem KT.val{H:Hp}{kvs:List (List Key×V)}{xs:List (List Key×A7×A6)}(r:KT H kvs xs)(k:List Key):yZ (wQ kvs k) ((FY xs k).map (·.2)):=by
 induction r with
 | nil=>exact True.intro
 | @cons p q ps qs h t ih=>
  obtain⟨h1,_,h2⟩:=h;by_cases e:p.1=k
  ·have e':q.1=k:=h1.symm.trans e;have b:FY (q::qs) k=ND q.2:=by simp[FY,N9,e']
   rw[Nv e,b];exact h2
  ·have e':¬q.1=k:=λz=>e (h1.trans z);have b:FY (q::qs) k=FY qs k:=by simp[FY,N9,e']
   rw[Nx e,b];exact ih
theorem KT.repl{H:Hp}{kvs:List (List Key×V)}{xs:List (List Key×A7×A6)}(r:KT H kvs xs)(k:List Key){y:V}{u:A6}(ry:RelV y u) :
  KT H (kvs.map λkv=>if kv.1=k then(kv.1,y)else kv) (xs.map (putAt k u)):=by
 induction r with
 | nil=>exact .nil
 | @cons p q ps qs h t ih=>
  rw[D3,D3];refine .cons ?_ ih;obtain⟨h1,h2,h3⟩:=h;unfold putAt;by_cases e:p.1=k
  ·rw[if_pos e,if_pos (h1.symm.trans e)];exact⟨h1,h2,ry⟩
  ·rw[if_neg e,if_neg (λz=>e (h1.trans z))];exact⟨h1,h2,h3⟩
theorem KT.put{H:Hp}{kvs:List (List Key×V)}{xs:List (List Key×A7×A6)}(r:KT H kvs xs)(k:List Key){b:A7}{y:V}{u:A6}(hb:H b=ND (.tup (k.map kV)))(ry:RelV y u) :
  KT H (putK kvs k y) (storedH xs k b u):=by
 have e:(kvs.any λkv=>decide (kv.1=k))=(FY xs k).isSome:=by rw[Ny,(r.val k).vK,V9]
 unfold putK storedH;rw[e];by_cases q:(FY xs k).isSome=NG
 ·rw[if_pos q,if_pos q];exact r.repl k ry
 ·rw[if_neg q,if_neg q];exact LW r ⟨U,hb,ry⟩
theorem KT.keeps{H H':Hp}{kvs:List (List Key×V)}{xs:List (List Key×A7×A6)}(r:KT H kvs xs)(ht:∀b ys,H b=ND (.tup ys)→H' b=ND (.tup ys)):KT H' kvs xs:=
 Paired.aEX r λ_ _ z=>⟨z.1,ht _ _ z.2.1,z.2.2⟩
section
variable{P:AI}{w:AL}{H:Hp}{h:AM}{a:A7}
theorem aEf{u:HO}(ok:Df P w H h)(e:Rd H a u):jG P w H h a u:=e.ok ok
theorem La{kvs:List (Key×V)}(ok:Df P w H h)(e:Rd H a (.dK kvs)):kvs.length≤sizeLine∧(a==BN)=NH∧∃vs,KV kvs vs∧h.DictOf (iW P w) a vs:=
 show jG P w H h a (.dK kvs)from aEf ok e
theorem aHx{kvs:List (Key×V)}(ok:Df P w H h)(e:H a=ND (.dK kvs)):kvs.length≤sizeLine∧(a==BN)=NH∧∃vs,KV kvs vs∧h.DictOf (iW P w) a vs:=La ok (.inl e)
theorem Iu{ks:List Key}(ok:Df P w H h)(e:H a=ND (.tup (ks.map kV))):(EL (iW P w)).is h ks a:=by
 obtain⟨_,its,r,o,h1,h2,n,h3⟩:=(show jG P w H h a (.tup (ks.map kV))from ok a _ e)
 exact⟨o,its.toArray,n,h1,h2,h3,by simpa using Ur r⟩
theorem Nz{kvs:List (List Key×V)}(ok:Df P w H h)(e:Rd H a (.dT kvs)):kvs.length≤sizeLine∧(a==BN)=NH ∧
  ∃xs,KT H kvs xs∧h.DictOfH (EL (iW P w)) a xs:=by
 obtain⟨z,y,xs,r,o,es,ep,h1,h2,h3,h4,h5⟩:=(show jG P w H h a (.dT kvs)from aEf ok e)
 refine⟨z,y,xs,r,o,es,ep,h1,h2,h3,h4,λx hx=>?_,h5⟩;have all:∀{l:List (List Key×V)} {m:List (List Key×A7×A6)},KT H l m→∀x∈m,(EL (iW P w)).is h x.1 x.2.1:=by
  intro l m q
  induction q with
  | nil=>intro x hx;exact nomatch hx
  | @cons p q ps qs hq t ih=>
   intro x hx;rcases C9.mp hx with e | hx
   ·subst e;exact Iu ok (by rw[←hq.1];exact hq.2.1)
   ·exact ih x hx
 exact all r x hx
theorem aHy{kvs:List (List Key×V)}(ok:Df P w H h)(e:H a=ND (.dT kvs)):kvs.length≤sizeLine∧(a==BN)=NH ∧
  ∃xs,KT H kvs xs∧h.DictOfH (EL (iW P w)) a xs:=Nz ok (.inl e)
end
def Oa(H:Hp)(a:A7)(y:V)(r:Option V):Prop:=
 (∃kvs k,Rd H a (.dK kvs)∧y=kV k∧r=wQ kvs k)∨∃kvs k b,Rd H a (.dT kvs)∧y=.ref b∧H b=ND (.tup (k.map kV))∧r=wQ kvs k
def aHz(H:Hp)(a:A7)(y v:V)(H':Hp):Prop:=
 (∃kvs k,H a=ND (.dK kvs)∧y=kV k∧kvs.length<sizeLine∧H'=upd H a (.dK (putK kvs k v))) ∨
 ∃kvs k b,H a=ND (.dT kvs)∧y=.ref b∧H b=ND (.tup (k.map kV))∧kvs.length<sizeLine∧H'=upd H a (.dT (putK kvs k v))
section
variable{X:Cx}{pins:List (A7×Obj)}{σ:St}{H:Hp}{s:A8}{a:A7}{y v:V}{u r:A6}{o:Option V}{A:AN}{E:A6→A8→Prop}
theorem Inv.big(I:Inv X pins σ H s):BN<s.heap.objs.size:=by have h:AV<s.heap.objs.size:=(I.mod.glob.keeps I.bk).lt;exact Nat.lt_trans (by decide) h
theorem ni{Q:A6→A8→Prop}(hu:A.units+1<As)(I:Inv X pins σ H s)(g:Oa H a y (ND v))(ry:RelV y u)(h:∀w' s',Inv X pins σ H s'→RelV v w'→Q w' s') :
  AF (AG X.prog X.w) A (GA (.ref a) u) Q E s:=by
 rcases g with ⟨kvs,k,e,ey,l⟩ | ⟨kvs,k,b,e,ey,eb,l⟩
 ·subst ey;obtain⟨z,hd,vs,rel,dd⟩:=La I.hok e;obtain⟨w',hw,Sv⟩:=yZ.some_of (v:=v) (o:=FC vs k) (by rw[l];exact rel.val k);exact wpAny_getItem_of (Uq ry) dd.mapOf hw (h w' _ (I.tok _) Sv)
 ·subst ey
  cases(show u=AQ b from ry)
  obtain⟨z,hd,xs,rel,dd⟩:=Nz I.hok e;obtain⟨w',hw,Sv⟩:=yZ.some_of (v:=v) (o:=(FY xs k).map (·.2)) (by rw[l];exact rel.val k);obtain⟨p,hp,hp2⟩:=lN hw;refine wpAny_getItem_heap (CS hu) (Iu I.hok eb) dd hp ?_;rw[hp2];exact h w' _ (I.tok _) Sv
theorem aI4{Q:A6→A8→Prop}(hu:A.units+1<As)(I:Inv X pins σ H s)(g:Oa H a y o)(ry:RelV y u)(h:∀s',Inv X pins σ H s'→Q (.bool o.isSome) s') :
  AF (AG X.prog X.w) A (AS .In u (.ref a)) Q E s:=by
 rcases g with ⟨kvs,k,e,ey,l⟩ | ⟨kvs,k,b,e,ey,eb,l⟩
 ·subst ey;obtain⟨z,hd,vs,rel,dd⟩:=La I.hok e;refine wpAny_in_of (Uq ry) hd dd.mapOf ?_;rw[←(rel.val k).vK,←l];exact h _ (I.tok _)
 ·subst ey
  cases(show u=AQ b from ry)
  obtain⟨z,hd,xs,rel,dd⟩:=Nz I.hok e;refine wpAny_in_heap (CS hu) (Iu I.hok eb) hd dd ?_;have q:=(rel.val k).vK;rw[V9]at q;rw[←q,←l];exact h _ (I.tok _)
theorem aCR{Q:A6→A8→Prop}(hu:A.units+1<As)(I:Inv X pins σ H s)(g:Oa H a y o)(ry:RelV y u)(h:∀s',Inv X pins σ H s'→Q (.bool (!o.isSome)) s') :
  AF (AG X.prog X.w) A (AS .NotIn u (.ref a)) Q E s:=by
 rcases g with ⟨kvs,k,e,ey,l⟩ | ⟨kvs,k,b,e,ey,eb,l⟩
 ·subst ey;obtain⟨z,hd,vs,rel,dd⟩:=La I.hok e;refine wpAny_notIn_of (Uq ry) hd dd.mapOf ?_;rw[←(rel.val k).vK,←l];exact h _ (I.tok _)
 ·subst ey
  cases(show u=AQ b from ry)
  obtain⟨z,hd,xs,rel,dd⟩:=Nz I.hok e;refine wpAny_notIn_heap (CS hu) (Iu I.hok eb) hd dd ?_;have q:=(rel.val k).vK;rw[V9]at q;rw[←q,←l];exact h _ (I.tok _)
theorem ZX{h':AM}{t':Nat}{ob:HO}(I:Inv X pins σ H s)(mu:Mut (H a))(hs:BH a s.heap h')(he:∃q,h'.get? a=ND q)(new:jG X.prog X.w (upd H a ob) h' a ob) :
  Inv X pins σ (upd H a ob) {s with heap:=h',toks:=t'}:=
 I.write (x:=a) (e:=a) mu (.inl U) (λb q hb z=>(hs.2 b hb).trans z) he new
theorem aFx{P:AI}{w:AL}{H':Hp}{h':AM}{kvs:List (Key×V)}{vs:List (Key×A6)}(z:kvs.length≤sizeLine)(hd:(a==BN)=NH)(rel:KV kvs vs)(dd:h'.DictOf (iW P w) a vs) :
  jG P w H' h' a (.dK kvs):=⟨z,hd,vs,rel,dd⟩
theorem nq{H':Hp}{Q:Unit→A8→Prop}(hu:A.units+1<As)(I:Inv X pins σ H s)(g:aHz H a y v H')(ry:RelV y u)(rv:RelV v r)(h:∀s',Inv X pins σ H' s'→Q () s') :
  AF (AG X.prog X.w) A (setItem (.ref a) u r) Q E s:=by
 rcases g with ⟨kvs,k,e,ey,l,eH⟩ | ⟨kvs,k,b,e,ey,eb,l,eH⟩
 ·subst ey eH;obtain⟨z,hd,vs,rel,dd⟩:=aHx I.hok e;have hz:vs.length≤sizeLine:=by rw[←rel.length];exact z
  have hl:(putK kvs k v).length≤sizeLine:=by have:=zT kvs k v;omega
  refine wpAny_setItem_pairs (hsz:=hz) (Uq ry) dd λh' dd' hs=>h _ ?_;have he:∃q,h'.get? a=ND q:=let ⟨q,_,_,hq,_⟩:=dd';⟨q,hq⟩;exact ZX I (by rw[e];exact True.intro) hs he (aFx hl hd (rel.put k rv) dd')
 ·subst ey eH
  cases(show u=AQ b from ry)
  obtain⟨z,hd,xs,rel,dd⟩:=aHy I.hok e;have hz:xs.length≤sizeLine:=by rw[←GV rel];exact z
  have hl:(putK kvs k v).length≤sizeLine:=by have:=zT kvs k v;omega
  refine wpAny_setItem_heap (hsz:=hz) (CS hu) (Iu I.hok eb) dd λh' dd' hs=>h _ ?_;obtain⟨q,es,ep,hq,h2,h3,h4,_,h5⟩:=dd';refine ZX I (by rw[e];exact True.intro) hs ⟨q,hq⟩ ⟨hl,hd,_,(rel.put k eb rv).keeps λc ys ec=>?_,q,es,ep,hq,h2,h3,h4,h5⟩;rw[bQ (aG6 ec e (λz=>nomatch z))];exact ec
end
section
variable{X:Cx}{pins:List (A7×Obj)}{σ:St}{H:Hp}{s:A8}{a:A7}{kvs:List (Key×V)}{k:Key}{u:A6}{A:AN}{E:A6→A8→Prop}
end
def aFy(i:AB):Prop:=∀ov iv,Fk i NH ov iv=operate [ov,iv] (GA ov iv)
theorem aCS{prog:AI}{w:AL}{A:AN}{E:A6→A8→Prop}{s:A8}{env:Env}{value slice:AB}{pos:Pos}{T id:String}{Q:A6→A8→Prop}
  (hl:typeLookup (.type T) "__getitem__" = pure (ND (.builtin id))) (hs:aFy slice)
  (h:AF (AG prog w) A (AO value env) (λo s₁=>AF (AG prog w) A (AO slice env) (λi s₂=>s₂.TypeIs o T∧AF (AG prog w) A (GA o i) Q E s₂) E s₁) E s) :
  AF (AG prog w) A (AO (.Subscript value slice pos) env) Q E s:=by
 refine IS (AW h (λo s₁ h₁=>AW h₁ (λi s₂ h₂=>?_) λ_ _ x=>x) λ_ _ x=>x);obtain⟨hT,h₂⟩:=h₂;unfold GY;refine A9 ?_;rw[getitemInPython_of_ne hT.not_modules];refine A9 (IT hT hl ?_);have fin:AF (AG prog w) A (Fk slice NH o i) (λr s₃=>AF (AG prog w) A (letTemporaryGo value o r >>= λ_=>pure r) Q E s₃) E s₂:=by rw[hs o i];exact wpAny_operating (AW h₂ (λr s₃ h₃=>A9 (wpAny_letTemporaryGo (AE h₃))) λ_ _ x=>x)
 first
  | exact AE (A9 fin)
  | exact A9 (AE (A9 fin))
  | exact A9 fin
theorem GF{X:Cx}{pins:List (A7×Obj)}{σ:St}{H:Hp}{s:A8}{a:A7}{y:V}{o:Option V}(I:Inv X pins σ H s)(g:Oa H a y o):s.TypeIs (.ref a) "dict" := by
 rcases g with ⟨kvs,k,e,_,_⟩ | ⟨kvs,k,b,e,_,_,_⟩
 ·obtain⟨_,_,vs,_,dd⟩:=La I.hok e;exact dd.typeIs
 ·obtain⟨_,_,xs,_,dd⟩:=Nz I.hok e;exact dd.typeIs
def aEg(td ty:TE):TE:=λσ H Q=>td σ H λx H1=>ty σ H1 λy H2=>∃a v,x=.ref a∧Oa H2 a y (ND v)∧Q v H2
def aCT(ty td:TE):TE:=λσ H Q=>ty σ H λy H1=>td σ H1 λx H2=>∃a o,x=.ref a∧Oa H2 a y o∧Q (.bl o.isSome) H2
def Xu(ty td:TE):TE:=λσ H Q=>ty σ H λy H1=>td σ H1 λx H2=>∃a o,x=.ref a∧Oa H2 a y o∧Q (.bl (!o.isSome)) H2
def Fy(td ty tv:TE):TS:=λD σ H=>tv σ H λv H1=>td σ H1 λx H2=>ty σ H2 λy H3=>∃a H4,x=.ref a∧aHz H3 a y v H4∧D.nx σ H4
section
variable{X:Cx}{o i e value:AB}{pos pos' tpos:Pos}{td ty tv:TE}
theorem aCU(hu:X.A.units+1<As)(ho:PE X o td)(hi:PE X i ty)(hs:aFy i):PE X (.Subscript o i pos) (aEg td ty):=by intro pins s σ H Q I h;refine aCS PySem.F.slot_dict_getitem.lookup hs (jA (ho pins s σ H _ I h) λu s1 ⟨x,H1,I1,rx,q1⟩=>jA (hi pins s1 σ H1 _ I1 q1) λiv s2 ⟨y,H2,I2,ry,a,v,ex,g,q2⟩=>?_);subst ex;obtain rfl:u=AQ a:=rx;exact⟨GF I2 g,ni hu I2 g ry λw' s3 I3 Sv=>⟨v,H2,I3,Sv,q2⟩⟩
theorem RW(hu:X.A.units+1<As)(hi:PE X i ty)(ho:PE X o td):PC X .In i o (aCT ty td):=by intro pins s σ H Q I h;refine jA (hi pins s σ H _ I h) λiv s1 ⟨y,H1,I1,ry,q1⟩=>jA (ho pins s1 σ H1 _ I1 q1) λu s2 ⟨x,H2,I2,rx,a,ov,ex,g,q2⟩=>?_;subst ex;obtain rfl:u=AQ a:=rx;exact aI4 hu I2 g ry λs3 I3=>⟨.bl ov.isSome,H2,I3,U,q2⟩
theorem Us(hu:X.A.units+1<As)(hi:PE X i ty)(ho:PE X o td):PC X .NotIn i o (Xu ty td):=by intro pins s σ H Q I h;refine jA (hi pins s σ H _ I h) λiv s1 ⟨y,H1,I1,ry,q1⟩=>jA (ho pins s1 σ H1 _ I1 q1) λu s2 ⟨x,H2,I2,rx,a,ov,ex,g,q2⟩=>?_;subst ex;obtain rfl:u=AQ a:=rx;exact aCR hu I2 g ry λs3 I3=>⟨.bl (!ov.isSome),H2,I3,U,q2⟩
theorem wR(hu:X.A.units+1<As)(ho:PE X o td)(hi:PE X i ty)(hv:PE X value tv)(hs:DA value (ND (.Subscript o i pos')) pos.line X.env=pure NH) :
  PS X (.Assign [.Subscript o i pos'] value pos) (Fy td ty tv):=by
 intro pins s σ H D I h;refine wpAny_Assign_Subscript (jA (hv pins s σ H _ I h) λr s1 ⟨v,H1,I1,rv,q1⟩=>jA (ho pins s1 σ H1 _ I1 q1) λu s2 ⟨x,H2,I2,rx,q2⟩=>jA (hi pins s2 σ H2 _ I2 q2) λiv s3 ⟨y,H3,I3,ry,a,H4,ex,g,q3⟩=>?_) hs;subst ex;obtain rfl:u=AQ a:=rx;exact nq hu I3 g ry rv λs4 I4=>⟨σ,H4,I4,q3⟩
end
theorem aAh{P:AI}{w:AL}{H:Hp}(h:AM)(hb:BN<h.objs.size):jG P w H (h.push {cls:=.type "dict", data:=.dict #[]}) h.objs.size (.dK []):=
 ⟨N4 _,beq_eq_false_iff_ne.mpr (Ne.symm (E5 hb)),[],.nil,Mb h⟩
theorem aAi{P:AI}{w:AL}{H:Hp}(h:AM)(hb:BN<h.objs.size):jG P w H (h.push {cls:=.type "dict", data:=.dict #[]}) h.objs.size (.dT []):=
 ⟨N4 _,beq_eq_false_iff_ne.mpr (Ne.symm (E5 hb)),[],.nil,_,#[],0,AK _ U,⟨U,U,U⟩,U,U,Z6⟩
def RX:TE:=λ_ H Q=>∀p,H p=none→Q (.ref p) (upd H p (.dK []))
def aAj:TE:=λ_ H Q=>∀p,H p=none→Q (.ref p) (upd H p (.dT []))
section
variable{X:Cx}{pos:Pos}
theorem aAk:PE X (.Dict [] [] pos) RX:=λpins s σ H Q I h=>
 IH ⟨.ref s.heap.objs.size,_,I.laid (a:=s.heap.objs.size) (o:=.dK []) (t':=s.toks) (λ_ _ q=>AA _ q) (C6 _) (aAh s.heap I.big),U,h _ (I.hok.fresh (C6 _))⟩
theorem aAl:PE X (.Dict [] [] pos) aAj:=λpins s σ H Q I h=>
 IH ⟨.ref s.heap.objs.size,_,I.laid (a:=s.heap.objs.size) (o:=.dT []) (t':=s.toks) (λ_ _ q=>AA _ q) (C6 _) (aAi s.heap I.big),U,h _ (I.hok.fresh (C6 _))⟩
end
def RZ:List (TE×TE)→St→Hp→(List (V×V)→Hp→Prop)→Prop
 | [],_,H,Q=>Q [] H
 | (tk,tv)::r,σ,H,Q=>tk σ H λx H1=>tv σ H1 λy H2=>RZ r σ H2 λps H3=>Q ((x,y)::ps) H3
abbrev VV:List (V×V)→List (A6×A6)→Prop:=Paired λp q=>RelV p.1 q.1∧RelV p.2 q.2
def PPs(X:Cx)(pos:Pos)(keys:List (Option AB))(values:List AB)(trs:List (TE×TE)):Prop:=
 ∀(pins:List (A7×Obj))(s:A8)(σ:St)(H:Hp)(Q:List (V×V)→Hp→Prop),Inv X pins σ H s→RZ trs σ H Q →
  AF (AG X.prog X.w) X.A (evalPairs (pairTrees keys values X.env pos)) (λvs s'=>∃ps H',Inv X pins σ H' s'∧VV ps vs∧Q ps H') X.xe s
structure M1(X:Cx)(o:AB)(m:Str)(apos:Pos)(e:AB)(cpos:Pos):Prop where
 base:CL o m X.env (AO o X.env)=AO o X.env
 few:((AY cpos (AD [e] X.env)).all (λx=>!x.1)&&(DO cpos (Bz [] X.env)).all (λx=>x.1.isSome)
  && decide (([e]:List AB).length+([]:List FB).length+(if([]:List FB).isEmpty then 0 else 1)<30))=NG
 line:(apos.endLine==cpos.line)=NG
 trees:AY cpos (AD [e] X.env)=[(NH,AO e X.env)]
structure M2(X:Cx)(o:AB)(m:Str)(apos:Pos)(e f:AB)(cpos:Pos):Prop where
 base:CL o m X.env (AO o X.env)=AO o X.env
 few:((AY cpos (AD [e,f] X.env)).all (λx=>!x.1)&&(DO cpos (Bz [] X.env)).all (λx=>x.1.isSome)
  && decide (([e,f]:List AB).length+([]:List FB).length+(if([]:List FB).isEmpty then 0 else 1)<30))=NG
 line:(apos.endLine==cpos.line)=NG
 trees:AY cpos (AD [e,f] X.env)=[(NH,AO e X.env),(NH,AO f X.env)]
def IsD(H:Hp)(a:A7):Prop:=(∃kvs,Rd H a (.dK kvs))∨∃kvs,Rd H a (.dT kvs)
theorem aFz{X:Cx}{pins:List (A7×Obj)}{σ:St}{H:Hp}{s:A8}{a:A7}(I:Inv X pins σ H s)(d:IsD H a) :
  s.TypeIs (.ref a) "dict" ∧ (∀b,AQ a=.ref b→∃ob,s.heap.get? b=ND ob∧ob.dict=none)∧(a==BN)=NH:=by
 rcases d with ⟨kvs,e⟩ | ⟨kvs,e⟩
 ·obtain⟨_,hd,vs,_,dd⟩:=La I.hok e;refine⟨dd.typeIs,λb q=>?_,hd⟩;cases q;obtain⟨ob,_,_,h1,h2,_⟩:=dd;exact⟨ob,h1,h2.2.1⟩
 ·obtain⟨_,hd,xs,_,dd⟩:=Nz I.hok e;refine⟨dd.typeIs,λb q=>?_,hd⟩;cases q;obtain⟨ob,_,_,h1,h2,_⟩:=dd;exact⟨ob,h1,h2.2.1⟩
section
variable{X:Cx}{pins:List (A7×Obj)}{σ:St}{H:Hp}{s:A8}{a:A7}{y d:V}{u r:A6}{o:Option V}{A:AN}{E:A6→A8→Prop}
theorem aFA{Q:A6→A8→Prop}(hu:A.units+1<As)(I:Inv X pins σ H s)(g:Oa H a y o)(ry:RelV y u)(h:∀w' s',Inv X pins σ H s'→RelV (o.getD .non) w'→Q w' s') :
  AF (AG X.prog X.w) A (call (.builtin "dict.get") [.ref a,u]) Q E s:=by
 rcases g with ⟨kvs,k,e,ey,l⟩ | ⟨kvs,k,b,e,ey,eb,l⟩
 ·subst ey;obtain⟨z,hd,vs,rel,dd⟩:=La I.hok e;refine Kt T1 dd.typeIs Y6 (X4 _ _) (meets_dict_get (iW X.prog X.w) a (Uq ry) hd) ⟨_,dd.mapOf,h _ _ (I.tok _) ?_⟩;rw[l];exact(rel.val k).getD U
 ·subst ey
  cases(show u=AQ b from ry)
  obtain⟨z,hd,xs,rel,dd⟩:=Nz I.hok e;refine Kt T1 dd.typeIs Y6 (X4 _ _) (meetsH_dict_get (EL (iW X.prog X.w)) a b hd) ⟨CS hu,k,xs,Iu I.hok eb,dd,h _ _ (I.tok _) ?_⟩;rw[l];exact(rel.val k).getD U
end
def aAm(td ty:TE):TE:=λσ H Q=>td σ H λx H1=>∃a,x=.ref a∧IsD H1 a∧ty σ H1 λy H2=>∃o,Oa H2 a y o∧Q (o.getD .non) H2
section
variable{X:Cx}{o e f:AB}{apos cpos:Pos}{td ty tx:TE}
theorem aAn(hu:X.A.units+1<As)(ho:PE X o td)(he:PE X e ty)(m:M1 X o "get" apos e cpos):PE X (.Call (.Attribute o "get" apos) [e] [] cpos) (aAm td ty):=by intro pins s σ H Q I h;refine wpAny_Call_method m.base m.few m.line PySem.F.plainAttrs_dict T1 PySem.F.type_dict_get (jA (ho pins s σ H _ I h) λu s1 ⟨x,H1,I1,rx,a,ex,d,q1⟩=>?_);subst ex;obtain rfl:u=AQ a:=rx;obtain⟨t1,t2,_⟩:=aFz I1 d;refine⟨t1,t2,?_⟩;rw[m.trees];refine Fn U (GO (CO (jA (he pins s1 σ H1 _ I1 q1) λiv s2 ⟨y,H2,I2,ry,ov,g,q2⟩=>Cb ?_)));exact aFA hu I2 g ry λw' s3 I3 Sv=>⟨_,H2,I3,Sv,q2⟩
end
section
variable{X:Cx}{pins:List (A7×Obj)}{σ:St}{H:Hp}{s:A8}{a:A7}{kvs:List (Key×V)}{A:AN}{E:A6→A8→Prop}
end
section
variable{X:Cx}{pins:List (A7×Obj)}{σ:St}{H:Hp}{s:A8}{a:A7}{y:V}{u:A6}{A:AN}{E:A6→A8→Prop}
end
end L2
namespace Att
open PySem PySem.W PySem.Calls PyProof.Rows
theorem Lw{P:Kx}{h:AM}:∀(ns:List Int)(vs:List A6),WellAll P h vs (ns.map WData.int)→ED vs ns:=by
 intro ns
 induction ns with
 | nil=>
  intro vs w;rw[J2]at w;cases w;exact .nil
 | cons n ns ih=>
  intro vs w;rw[D3]at w;cases w with
  | cons a b=>cases a;exact .cons _ _ (ih _ b)
theorem nu{l:OpenLaw}{n:Nat}(hn:l.most=ND n){P:Kx}{h:AM}{args:List WData}{vals:List A6}
  (hpre:l.row.toRowW.claim.pre args=NG) (hwl:WellAll P h vals args) :
  ∃a vs ns,vals=[AQ a]∧args=[WData.list (ns.map WData.int)]∧h.get? a=ND {cls:=.type "list", data:=.seq vs.toArray}∧ED vs ns∧ns.length≤n:=by
 have hsh:WShape.hasAll [] args [.list .int]=NG:=(pre_splitW hpre).1;have hc:l.pre.holds [] {args:=args}=NG:=(pre_splitW hpre).2;obtain⟨d,r,rfl,h1,h2⟩:=hasAllW_cons hsh;obtain rfl:=hasAllW_nil h2;obtain⟨xs,rfl,h3⟩:=hasW_list h1;obtain⟨ns,rfl⟩:=items_int h3;have hlen:ns.length≤n:=by
  unfold OpenLaw.pre at hc;have h4:(WTm.not (.lt (.lit (.int (n:Int))) (.len (.arg 0)))).holds [] {args:=[.list (ns.map .int)]}=NG:=by have h4:=(holds_andW hc).1;rw[hn]at h4;exact h4
  have h5:=condW_of h4 (w_not (w_lt w_lit (w_len_list (w_arg U))));rw[B7]at h5;refine Nat.le_of_not_lt λq=>?_;have q':(n:Int)<((ns.length:Nat):Int):=by omega
  first
   | (rw[decide_eq_true q']at h5;exact absurd h5 (by decide))
   | (simp at h5;omega)
 cases hwl with
 | cons w1 w2=>
  cases w2;cases w1 with
  | list ho hall=>exact⟨_,_,ns,U,U,ho,Lw ns _ hall,hlen⟩
theorem oh(l:OpenLaw)(args:List WData):l.row.toRowW.claim.post args (.bool NG) args=NG:=
 postW_of (r:=l.row.toRowW) (X:=(NG==NG))
  (show WShape.has [] (.bool NG) .bool=NG by first | rfl | decide | simp[WShape.has,WShape.arms,WShape.armsAll])
  (show (WTm.eq .res (.lit (.bool NG))).value [] {args:=args,res:=ND (.bool NG),after:=args}=ND (.bool (NG==NG))from w_eq_bool (w_res U) w_lit) U
section
variable{prog:AI}{w:AL}{A:AN}{E:A6→A8→Prop}{s:A8}{K:Frag}
end
end Att
namespace L2
open PySem PySem.Spec PyProof.Rows
theorem Bf:∀{vs:List A6} {ns:List Int},ED vs ns→Vals (ns.map V.int) vs
 | _,_,.nil=>.nil
 | _,_,.cons n t h=>.cons ⟨t,U⟩ (Bf h)
def Only(H:Hp):Prop:=∀b,H b=none∨∃o xs,H b=ND (.zA o (.lst xs))
theorem aAo{P:AI}{w:AL}{K:aF}{mg mb:Str→Option A6}{CX:mj}{k:Nat}{fa a:A7}{fd:BG}{x:Str}{sp:Sp}{s₁:A8}{vs:List A6}{ns:List Int}
  (KX:K.In s₁.heap) (hns:s₁.heap.Ns AV mg) (hb:s₁.heap.Ns II mb) (hbb:∀x:Str,x ≠ "__name__" → mb x=AU x) (hlim:s₁.heap.NoLimit) (hg:s₁.gens=#[])
  (ha:s₁.heap.get? a=ND {cls:=.type "list", data:=.seq vs.toArray}) (hi:ED vs ns) (hl:ns.length≤sizeLine) (hr:jR k FD)
  (F:∀base:AM,K.In base→base.Ns AV mg→zF P w K mg base CX k fa fd [x] sp) (hbind:∀(s:A8)(u:A6),Fu s fd ⟨[u],[]⟩ [(x,u)])
  (hsp:∀H:Hp,Only H→pK K H a (ns.map V.int)→sp [.ref a] H (λv _=>v=.bl NG) λ_ _ _=>False)
  (hCX:∀H e s',CX [] H s₁ (λ_ _ _=>False) e s'→False) :
  CI (AG P w) FD (.call (.ref fa) ⟨[.ref a],[]⟩) (λr s'=>r=.ok (.ret (.bool NG))∧OldK s₁.heap s'.heap∧s'.os=s₁.os∧DF s'.gens) s₁:=by
 have rv:=Bf hi;have lenV:=hi.length;have core:∀H:Hp,Only H→pK K H a (ns.map V.int)→Df P w H s₁.heap→(∀b,H b≠none→b=a)→(H a≠none→K.lookup a=none) →
   CI (AG P w) FD (.call (.ref fa) ⟨[.ref a],[]⟩) (λr s'=>r=.ok (.ret (.bool NG))∧OldK s₁.heap s'.heap∧s'.os=s₁.os∧DF s'.gens) s₁:=by
  intro H hO hS hok hA hK;have ZZ:∀{b:A7} {o:Obj},s₁.heap.get? b=ND o→H b=none→(Wy s₁.heap H).get? b=ND o:=λe n=>yd e n;have noA:∀{b:A7} {o:Obj} {es:Array DictEntry} {ep:Nat},s₁.heap.get? b=ND o→o.data=.dict es ep→H b=none:=λ{b o es ep} e d=>by
   cases q:H b with
   | none=>rfl
   | some u=>have e':b=a:=hA b (by rw[q];simp);subst e';rw[ha]at e;cases e;have d':Data.seq vs.toArray _=Data.dict es ep:=d;cases d'
  have nsK:∀{b:A7} {m:Str→Option A6},s₁.heap.Ns b m→(Wy s₁.heap H).Ns b m:=λ{b m} ⟨o,es,ep,e,d,r⟩=>⟨o,es,ep,ZZ e (noA e d),d,r⟩
  have hKb:K.In (Wy s₁.heap H):=λb o e=>ZZ (KX b o e) (by
   cases q:H b with
   | none=>rfl
   | some u=>
    have e':b=a:=hA b (by rw[q];simp);subst e';rw[hK (by rw[q];simp)]at e;cases e)
  have hM:Mod K mg (Wy s₁.heap H):=⟨hKb,nsK hns,⟨mb,nsK hb,hbb⟩,let ⟨mc,h1,h2⟩:=hlim;⟨mc,nsK h1,h2⟩⟩
  have e0:RP P w K mg (Wy s₁.heap H) FD [] s₁ H:=⟨U,hM,λb o e=>aCp e,d6 (jz _ _),trivial,λb hb=>absurd (show b∈([]:List A7)from hb) (by simp),hok,.of_eq hg⟩
  refine Cn ((F _ hKb (nsK hns)).run FD [] s₁ H ⟨[.ref a],[]⟩ [.ref a] [.ref a] _ _ hr e0 (hbind s₁ (.ref a)) (.cons U .nil) (hsp H hO hS)) λr s' h=>?_;cases r with
  | error e=>exact(hCX H e s' h).elim
  | ok fl=>
   cases fl with
   | next=>exact False.elim h
   | brk=>exact False.elim h
   | cont=>exact False.elim h
   | ret u=>
    obtain⟨v,H',os,bare,un,hok',r',q⟩:=h;have q':v=.bl NG:=q;subst q';obtain rfl:u=DC NG:=r';refine⟨U,OldK.of_keep λb o e=>?_,os,bare⟩;cases q:H b with
    | none=>exact un.keep b o e q (by intro z;exact absurd (show b∈([]:List A7)from z) (by simp)) (by simp)
    | some u=>
     rcases hO b with z | ⟨ob,xs,z⟩
     ·rw[q]at z;cases z
     ·have z2:=un.Wx b ob _ z;obtain⟨e1,_⟩:=hok b _ z;obtain⟨e2,_⟩:=hok' b _ z2;rw[e]at e1;cases e1;exact e2
 cases hk:K.lookup a with
 | some o=>
  have e:=KX a o hk;rw[ha]at e;cases e;refine core (λ_=>none) (λ_=>.inl U) (.inr ⟨_,vs.toArray,_,hk,U,U,U,by rw[C5,lenV];exact hl,by simpa using rv⟩) (λb u z=>by have z':(none:Option HO)=ND u:=z;cases z') (λb z=>absurd U z) λz=>absurd U z
 | none=>
  refine core (λb=>if b=a then ND (.zA {cls:=.type "list", data:=.seq vs.toArray} (.lst (ns.map V.int)))else none) (λb=>?_) (.inl (.inr ⟨{cls:=.type "list", data:=.seq vs.toArray},if_pos U⟩)) (λb u z=>?_) (λb z=>?_) λ_=>hk
  ·by_cases hb:b=a
   ·exact .inr ⟨_,_,if_pos hb⟩
   ·exact .inl (if_neg hb)
  ·by_cases hb:b=a
   ·have z':=(if_pos hb).symm.trans z;cases z';subst hb;exact⟨ha,by rw[B7];exact hl,vs,_,rv,ha⟩
   ·have z':=(if_neg hb).symm.trans z;cases z'
  ·by_cases hb:b=a
   ·exact hb
   ·exact absurd (if_neg hb) z
end L2
namespace L2
open PySem PySem.Spec PyProof.Rows
end L2
namespace L2
open PySem PySem.Spec PyProof.Rows
def inClass(s:AH)(j:Nat):AH:=match s with
 | .ClassDef _ _ _ body _ _ _ _ _ _ _=>body.getD j (.Pass ⟨0,0,0,0⟩)
 | _=>.Pass ⟨0,0,0,0⟩
def fP(s:AH):Arguments:=match s with
 | .FunctionDef _ a _ _ _ _ _ _ _ _=>a
 | _=>{posonlyargs:=[],args:=[],vararg:=none,kwonlyargs:=[],kw_defaults:=[],kwarg:=none,defaults:=[]}
def cH(s:AH):List AH:=match s with
 | .FunctionDef _ _ b _ _ _ _ _ _ _=>b
 | _=>[]
def aM(s:AH):BF:=match s with
 | .FunctionDef _ _ _ _ _ _ sc _ _ _=>sc
 | _=>{kind:=.function,names:=[],isGenerator:=NH,isCoroutine:=NH}
abbrev CZ:mj:=λ_ _ _ _ _ _=>False
abbrev E0:XK:=λ_ _ _=>False
theorem Ut{X:Cx}:Passes CZ X E0:=λ_ _ _ _ _ _ _ h=>h.elim
structure Fun(K:aF)(x qual:Str)(st:AH)(f:A7)(fd:BG):Prop where
 ex:∃(oc:A6)(od:Option A7)(kV doc pm:A6)(an:Option A7)(cdv ct:A6)(osl:Array (Option A6)),
  fd=F6 x qual (fP st) (cH st) (aM st) .none kV doc pm an cdv ct∧K.lookup f=ND ⟨oc,od,.func fd,osl⟩∧K4 K cdv qual=NG
 kp:J9 K (.ref f)=NG
section
variable{P:AI}{w:AL}{K:aF}{mg:Str→Option A6}{base:AM}
theorem Fun.ok{x qual:Str}{st:AH}{f:A7}{fd:BG}{N ps:List Str}{k:Nat}{sp:Sp}(F:Fun K x qual st f fd)(S:bB N ps (aM st))(len:∀vs H Q E,sp vs H Q E→vs.length=ps.length)
  (hbody:∀(cdv:A6)(A:AN)(outer:List Env)(s:A8)(H:Hp)(vs:List V)(Q:VK)(E:XK),jR k (A.deeper (BS qual (aM st) s.heap.objs.size f cdv))→sp vs H Q E →
   ∃t,DY (Fv CZ P w K mg base N qual (aM st) f cdv A outer s H E).ZK (cH st) t∧t {nx:=λ_ H'=>Q .non H',rt:=Q} (start N vs) H):zF P w K mg base CZ (k+1) f fd ps sp:=by
 obtain⟨oc,od,kV,doc,pm,an,cdv,ct,osl,rfl,lk,hcd⟩:=F.ex;refine aAd lk hcd S len λA outer s H vs Q E hr hsp=>?_;obtain⟨t,h,q⟩:=hbody cdv A outer s H vs Q E hr hsp;exact⟨t,h.ZK,q⟩
theorem Fun.binds{x qual:Str}{st:AH}{f:A7}{fd:BG}{ps:List Str}(F:Fun K x qual st f fd)
  (h:∀(kV doc pm:A6)(an:Option A7)(cdv ct:A6)(us:List A6),us.length=ps.length→Dx (F6 x qual (fP st) (cH st) (aM st) .none kV doc pm an cdv ct) ⟨us,[]⟩=pure (ps.zip us)):Binds K fd ps []:=by
 obtain⟨oc,od,kV,doc,pm,an,cdv,ct,osl,rfl,lk,hcd⟩:=F.ex;exact .all (h kV doc pm an cdv ct)
theorem aFB{x qual:Str}{st:AH}{f:A7}{oc:A6}{od an:Option A7}{osl:Array (Option A6)}{kV doc pm cdv ct:A6}(l:K.lookup f=ND ⟨oc,od,.func (F6 x qual (fP st) (cH st) (aM st) .none kV doc pm an cdv ct),osl⟩)
  (c:K4 K cdv qual=NG) (k:J9 K (.ref f)=NG):Fun K x qual st f (F6 x qual (fP st) (cH st) (aM st) .none kV doc pm an cdv ct):=⟨⟨oc,od,kV,doc,pm,an,cdv,ct,osl,U,l,c⟩,k⟩
end
theorem cY{A:AN}{k:Nat}(hr:jR k A):A.units+1<As:=U8 (Nat.add_le_add_left (by decide:1≤64) _) hr.units
theorem vL{n:Nat}(h:n≤1000):n<sizeLine:=U8 h (by decide)
section
variable{X:Cx}
theorem pv(i:Nat){x:Str}{pos:Pos}(hN:X.N[i]?=ND x:=by rfl)(hv:Vis X.env.scope x:=by first | exact D6 U | exact D5 (D6 U) | exact D5 (D5 U))(hd:(x==("__debug__" : Str))=NH:=by decide)
  (hcd:(x==("__classdict__" : Str))=NH:=by decide):PE X (.Name x pos) (qN i):=aEZ hN hv hd hcd
end
def aU(H H':Hp):Prop:=∀b o,H b=ND o→H' b=ND o
theorem aU.refl(H:Hp):aU H H:=λ_ _ h=>h
theorem aU.trans{H H1 H2:Hp}(a:aU H H1)(b:aU H1 H2):aU H H2:=λc o h=>b c o (a c o h)
theorem aU.free{H H':Hp}(e:aU H H'){l:A7}(h:H' l=p7):H l=p7:=by
 cases q:H l with
 | none=>rfl
 | some o=>rw[e l o q]at h;cases h
theorem aU.seq{K:aF}{H H':Hp}{a:A7}{xs:List V}(e:aU H H')(h:pK K H a xs):pK K H' a xs:=by
 rcases h with (h | ⟨o,h⟩) | h
 ·exact .inl (.inl (e _ _ h))
 ·exact .inl (.inr ⟨o,e _ _ h⟩)
 ·exact .inr h
section
variable{κ:Type} [DecidableEq κ]
end
end L2


namespace L2
open PySem PySem.Spec PyProof.Rows
theorem Dv(env:Env):∀(names:List (Str×FI))(acc:List (Str×A7)),(∀x∈names,x.2=.free→∃c,env.cells.lookup x.1=ND c) →
    ∃cl:List (Str×A7),(forIn names acc (λ(x:Str×FI) (r:List (Str×A7))=>(match x with
      | (name,kind)=>if(kind==.free)=NG then do let c ←cellOf env name;pure (ForInStep.yield ((name,c)::r))else pure (ForInStep.yield r):Sem (ForInStep (List (Str×A7))))))=pure cl ∧
      (∀x c,cl.lookup x=ND c→(∃k,(x,k)∈names∧k=.free∧env.cells.lookup x=ND c)∨acc.lookup x=ND c) ∧
      (∀x,(x,Au)∈names→∃c,cl.lookup x=ND c)∧(∀x c,acc.lookup x=ND c→∃c',cl.lookup x=ND c')
  | [],acc,_=>⟨acc,U,λx c h=>.inr h,λx h=>by simp at h,λx c h=>⟨c,h⟩⟩
  | (n,k)::r,acc,h=>by
    rw[List.forIn_cons];by_cases hk:k=.free
    · subst hk
      obtain⟨c,hc⟩:=h (n,.free) D4 U;obtain⟨cl,e,h1,h2,h3⟩:=Dv env r ((n,c)::acc) λx hx=>h x (C8 _ hx);refine⟨cl,?_,λx d hd=>?_,λx hx=>?_,λx d hd=>?_⟩
      · have e0:cellOf env n=pure c:=by unfold cellOf;rw[hc]
        simp only[beq_self_eq_true,if_true,e0,pure_bind];exact e
      · rcases h1 x d hd with ⟨k',m,q⟩ | q
        · exact .inl ⟨k',C8 _ m,q⟩
        · rw[S8]at q
          by_cases e:x==n
          · rw[e]at q
            have e':=eq_of_beq e;subst e';cases q;exact .inl ⟨.free,D4,U,hc⟩
          · have e':(x==n)=NH:=by simpa using e
            rw[e']at q;exact .inr q
      · rcases C9.mp hx with q | q
        · cases q
          exact h3 n c (by simp)
        · exact h2 x q
      · by_cases e:x==n
        · exact h3 x c (by rw[S8,e])
        · have e':(x==n)=NH:=by simpa using e
          exact h3 x d (by rw[S8,e'];exact hd)
    · obtain⟨cl,e,h1,h2,h3⟩:=Dv env r acc λx hx=>h x (C8 _ hx)
      have hb:(k==Au)=NH:=by simpa using hk
      refine⟨cl,?_,λx d hd=>?_,λx hx=>?_,h3⟩
      · simp only[hb,U9,if_false,pure_bind]
        exact e
      · rcases h1 x d hd with ⟨k',m,q⟩ | q
        · exact .inl ⟨k',C8 _ m,q⟩
        · exact .inr q
      · rcases C9.mp hx with q | q
        · cases q
          exact absurd U hk
        · exact h2 x q
theorem Dg(scope:BF)(env:Env)(h:∀x∈scope.names,x.2=.free→∃c,env.cells.lookup x.1=ND c) :
    ∃cl,closureFor scope env=pure cl∧(∀x c,cl.lookup x=ND c→(x,Au)∈scope.names∧env.cells.lookup x=ND c)∧∀x,(x,Au)∈scope.names→∃c,cl.lookup x=ND c:=by
  obtain⟨cl,e,h1,h2,_⟩:=Dv env scope.names [] h;refine⟨cl,?_,λx c hx=>?_,h2⟩
  · unfold closureFor
    exact(congrArg (λt=>t >>= pure) e).trans (pure_bind _ _)
  · rcases h1 x c hx with ⟨k,m,rfl,q⟩ | q
    · exact⟨m,q⟩
    · simp at q
theorem Xv{scope:BF}{env:Env}(hcell:∀y∈scope.names,y.2≠.cell){x:Str}(h:(GG scope env).names.lookup x=ND .cell∨(GG scope env).names.lookup x=ND .free):(x,Au)∈scope.names:=by
 have m:(x,Mo)∈(GG scope env).names∨(x,Au)∈(GG scope env).names:=by
  rcases h with h | h
  ·exact .inl (M9 h)
  ·exact .inr (M9 h)
 unfold GG at m;rcases m with m | m
 all_goals
  obtain⟨⟨n,k⟩,hm,e⟩:=G4.mp m;dsimp only at e;split at e
  ·rename_i hc;simp only[J7,beq_iff_eq]at hc;cases e
   first
    | (rw[hc.1.1]at hm;exact hm)
    | skip
  ·cases e
   first
    | exact hm
    | exact absurd U (hcell _ hm)
def lE(X:Cx)(scope:BF)(N:List Str)(cl:List (Str×A7))(fp:List A7)(s:A8)(H:Hp)(C:A7):Cx where
 prog:=X.prog
 w:=X.w
 K:=X.K
 mg:=X.mg
 base:=X.base
 A:=X.A
 N:=N
 s₀:=s
 H₀:=H
 env:=LA scope cl C X.env
 outer:=X.stack
 stack:=X.stack
 ex:=fp
 calm:=X.calm
 fn:=λ_=>NH
 pn:=[]
 xe:=λ_ _=>False
def SJ(σ:St)(fr:List Nat):St:=fr.map λi=>σ.getD i none
def blk(k:Nat)(σ:St)(fr:List Nat):St:=E4 k none++SJ σ fr
def Kp(k:Nat)(σ:St)(fr:List Nat)(σ2:St):Prop:=σ2.length=(blk k σ fr).length∧∀(j:Nat) v,(blk k σ fr)[j]?=ND (ND v)→σ2[j]?=ND (ND v)
def PTs(X:Cx)(ifs:List AB)(t:TT):Prop:=
 ∀(pins:List (A7×Obj))(s:A8)(σ:St)(H:Hp)(Q:Bool→Hp→Prop),Inv X pins σ H s→t σ H Q →
  AF (AG X.prog X.w) X.A (forIn ifs NG λc r=>if r=NG then do let ok ←HE c X.env (AO c X.env);pure (ForInStep.yield ok)else pure (ForInStep.yield r)) (TP X pins σ Q) X.xe s
def aHA:TT:=λ_ H Q=>Q NG H
theorem aCV{X:Cx}:PTs X [] aHA:=λ_ _ _ H _ I h=>wpAny_tests_nil ⟨H,I,h⟩
theorem aCW{X:Cx}{c:AB}{t:TT}(h:PT X c t):PTs X [c] t:=λpins s σ H Q I q=>wpAny_tests_one (h pins s σ H Q I q)
theorem Cq{prog:AI}{w:AL}{A:AN}{R:FG→A8→Prop}{s:A8}{elt target iter:AB}{ifs:List AB}{scope:BF}{pos:Pos}{it acc:A6}{env:Env}(I:Nat→A8→Prop)
  (turn:∀n s,I n s→AF (AG prog w) A (DD it) (λr s₁=>match r with
   | none=>R (.ok .next) s₁
   | some v=>AF (AG prog w) A (EG target it v) (λ_ s₀=>AF (AG prog w) A (EM target env v) (λ_ s₂=>
     AF (AG prog w) A (forIn ifs NG λc r=>if r=NG then do let ok ←HE c env (AO c env);pure (ForInStep.yield ok)else pure (ForInStep.yield r)) (λok s₃=>
      if ok=NG then AF (AG prog w) A (AO elt env) (λx s₄=>
       AF (AG prog w) A (call (.builtin "list.append") [acc,x]) (λ_ s₅=>∃m,m<n∧I m s₅) (λ_ _=>False) s₄) (λ_ _=>False) s₃
      else ∃m,m<n∧I m s₃) (λ_ _=>False) s₂) (λ_ _=>False) s₀) (λ_ _=>False) s₁) (λ_ _=>False) s)
  (n:Nat) (h:I n s) :
  CI (AG prog w) A (.compLoop (.ListComp elt [⟨target,iter,ifs,0⟩] scope pos) 0 it acc env) R s:=by
 refine codeAny_loop U I (λn s hI=>?_) n h;show AF _ A ((compTurn (.ListComp elt [⟨target,iter,ifs,0⟩] scope pos) 0 it acc env).onRaise (λx=>do noteFrame x env;theTreesLotGoes x)) _ _ s;refine wpAny_noted ?_;rw[compTurn_list];refine AW (E:=λ_ _=>False) ?_ (λ_ _ q=>q) λ_ _ x=>x.elim;refine A9 (GW (A9 (AW (turn n s hI) (λr s₁ h₁=>?_) λ_ _ h'=>h')));cases r with
 | none=>exact AE h₁
 | some v=>
  refine A9 (AW h₁ (λ_ s₀ h₀=>?_) λ_ _ h'=>h');refine A9 (AW h₀ (λ_ s₂ h₂=>A9 (AW h₂ (λok s₃ h₃=>?_) λ_ _ h'=>h')) λ_ _ h'=>h');cases ok with
  | false=>exact AE ⟨U,h₃⟩
  | true=>exact A9 (A9 (AW h₃ (λx s₄ h₄=>A9 (AW h₄ (λ_ s₅ h₅=>AE (AE ⟨U,h₅⟩)) λ_ _ h'=>h')) λ_ _ h'=>h'))
def aEh(J:It)(k:Nat)(fr:List Nat)(g:TG)(tc:TT)(te:TE)(σ:St)(H1:Hp)(Q:VK)(D:A7):Prop:=∃W:Nat→Nat→List V→Hp→Prop,(∃m,W 0 m [] (upd H1 D (.lst []))) ∧
 ∀i m ys H,W i m ys H→H D=ND (.lst ys)∧((J.stop i H∧Q (.ref D) H)∨(J.go i H∧∀x H',J.yld i H x H'→g x (blk k σ fr) H' λσ2 H2=>Kp k σ fr σ2∧tc σ2 H2 λok H3=>if ok=NG then
  te σ2 H3 λy H4=>H4 D=ND (.lst ys)∧ys.length<sizeLine∧∃m',m'<m∧W (i+1) m' (ys++[y]) (upd H4 D (.lst (ys++[y])))else ∃m',m'<m∧W (i+1) m' ys H3))
def GJ(wi:TI)(k:Nat)(fr:List Nat)(g:TG)(tc:TT)(te:TE):TE:=λσ H Q=>wi σ H λJ H1=>∀D,H1 D=none→aEh J k fr g tc te σ H1 Q D
def vM(scope DG:BF):BF:=
 {scope with names:=scope.names.map λ(n,k)=>if(k==.free&&DG.kind==.function&&DG.names.lookup n==ND .cell)then(n,.cell)else(n,k)}
structure kO(DG scope:BF)(oN N:List Str)(k:Nat)(fr:List Nat):Prop where
 kind:scope.kind=.function
 cell:∀y∈scope.names,y.2≠.cell
 loc:∀y∈scope.names,y.2=.local→scope.names.lookup y.1=ND .local
 free:∀y∈scope.names,y.2=.free→DG.names.lookup y.1=ND .cell∨DG.names.lookup y.1=ND .free
 len:N.length=k+fr.length
 slots:∀j∈D2 fr.length,oN[fr.getD j 0]?=N[k+j]?
 from_:∀x∈N.drop k,(x,Au)∈scope.names∧((vM scope DG).names.lookup x=ND .cell∨(vM scope DG).names.lookup x=ND .free)
def aj(DG scope:BF)(oN N:List Str)(k:Nat)(fr:List Nat):Bool:=
 decide (scope.kind=.function)&&decide (∀y∈scope.names,y.2≠.cell)&&decide (∀y∈scope.names,y.2=.local→scope.names.lookup y.1=ND .local) &&
 decide (∀y∈scope.names,y.2=.free→DG.names.lookup y.1=ND .cell∨DG.names.lookup y.1=ND .free)&&decide (N.length=k+fr.length) &&
 decide (∀j∈D2 fr.length,oN[fr.getD j 0]?=N[k+j]?) &&
 decide (∀x∈N.drop k,(x,Au)∈scope.names∧((vM scope DG).names.lookup x=ND .cell∨(vM scope DG).names.lookup x=ND .free))
theorem kO.of{DG scope:BF}{oN N:List Str}{k:Nat}{fr:List Nat}(h:aj DG scope oN N k fr=NG):kO DG scope oN N k fr:=by unfold aj at h;simp only[J7,decide_eq_true_eq]at h;obtain⟨⟨⟨⟨⟨⟨h1,h2⟩,h3⟩,h4⟩,h5⟩,h6⟩,h7⟩:=h;exact⟨h1,h2,h3,h4,h5,h6,h7⟩
section
variable{X:Cx}
theorem aCX{k:Nat}{σ:St}{fr:List Nat}{i:Nat}{v:V}(h:(blk k σ fr)[i]?=ND (ND v)):∃j o,i=k+j∧fr[j]?=ND o∧σ[o]?=ND (ND v):=by
 unfold blk at h;by_cases hi:i<k
 ·rw[G9 (by simpa using hi),P4]at h;rw[if_pos hi]at h;cases h
 ·rw[N1 (by simpa using hi),P9]at h;unfold SJ at h;rw[B8]at h;cases e:fr[i-k]? with
  | none=>rw[e]at h;cases h
  | some o=>
   rw[e]at h;refine⟨i-k,o,by omega,e,?_⟩;have h:ND (σ.getD o none)=ND (ND v):=h;have h:=F4 h;rw[B9]at h;cases e2:σ[o]? with
   | none=>rw[e2]at h;cases h
   | some z=>rw[e2]at h;exact congrArg ND h
theorem SM{pins:List (A7×Obj)}{σ:St}{H:Hp}{s:A8}{scope:BF}{N:List Str}{k:Nat}{fr:List Nat}{cl:List (Str×A7)}{fp:List A7}{h₁:AM}{tk:Nat}{m:Str→Option A6}
    (I:Inv X pins σ H s) (B:kO X.env.scope scope X.N N k fr) (hf:∀b∈fp,Xe X pins H b) (hfo:∀b∈fp,b<s.heap.objs.size)
    (hcl:∀x c,cl.lookup x=ND c→(x,Au)∈scope.names∧X.env.cells.lookup x=ND c) (aCY:∀x,(x,Au)∈scope.names→∃c,cl.lookup x=ND c)
    (hn:h₁.Ns (s.heap.objs.size+1) m) (hs:BH (s.heap.objs.size+1) ((s.heap.push {cls:=.type "list", data:=.seq ([]:List A6).toArray}).push {cls:=.type "dict", data:=.dict #[]}) h₁) :
    Inv (lE X scope N cl fp s H (s.heap.objs.size+1)) [] (blk k σ fr) (upd H s.heap.objs.size (.lst [])) {s with heap:=h₁,toks:=tk}:=by
  have I3:=I.aHw (ys:=[]) (its:=[]) (t':=tk) .nil (N4 _);have hD:H s.heap.objs.size=none:=I.fresh;have hC:H (s.heap.objs.size+1)=none:=I.hok.fresh (N5 _);have neC:∀b o,(s.heap.push {cls:=.type "list", data:=.seq ([]:List A6).toArray}).get? b=ND o→b≠s.heap.objs.size+1:=λb o e=>by have:=AJ e;rw[AX]at this;exact E5 this
  have aEi:∀b o,(s.heap.push {cls:=.type "list", data:=.seq ([]:List A6).toArray}).get? b=ND o→h₁.get? b=ND o:=λb o e=>
    hs.extBut b o (neC b o e) (AA _ e)
  have kept:∀b o,s.heap.get? b=ND o→h₁.get? b=ND o:=λb o e=>aEi b o (AA _ e);refine⟨⟨I.ok.mod,B.kind,I.ok.glob,I.ok.blt,N5 _,λx y c h1 h2=>I.ok.inj x y c (hcl x c h1).2 (hcl y c h2).2,λx hx=>aCY x (Xv B.cell hx),λx c h _=>(nomatch h),
      I.ok.hd,I.ok.frames,.inl U,λb hb=>⟨?_,λx c e=>(hf b hb).2.2.2.2.1 x c (hcl x c e).2⟩,λb o e=>I.bs b o e,G2 I.ok.bsz I.sz,λb o e hb=>?_,λb hb hb2=>?_,I.stack,I.ZG⟩,
    rfl,I.bare,Un.laid kept (C6 _) hD,⟨m,hn,λi x v h1 h2 h3=>?_⟩,λx c e=>?_,?_,λx c e=>?_,λp hp=>absurd (show p∈([]:List (A7×Obj))from hp) (by simp),?_,?_⟩
  · exact E5 (M7 (hfo b hb))
  · rcases(hf b hb).2.2.2.1 with z | z
    · exact I.ok.yf b o e z
    · exact absurd (E1 (AJ e) (G2 I.ok.bsz z)) (K7 _)
  · rcases C9.mp (I.Wz b hb2)with z | z
    · exact(hf b hb).2.1 z
    · exact(hf b hb).2.2.1 z
  · obtain⟨j,o,rfl,h4,h5⟩:=aCX h2
    have h1:N[k+j]?=ND x:=h1;have hj:j<fr.length:=(D1.mp h4).1;have hx:X.N[o]?=ND x:=by have q:=B.slots j (F5.mpr hj);rw[B9,h4]at q;exact q.trans h1
    obtain⟨hfr,hre⟩:=B.from_ x (D9 (i:=j) (by rw[V0];exact h1));have hk:=B.free _ hfr U;obtain⟨m0,hn0,hl0⟩:=I.loc;have hv:Vis X.env.scope x:=by
      rcases hk with q | q
      · exact .inr (.inl q)
      · exact .inr (.inr q)
    obtain⟨u,r,l⟩:=hl0 o x v hx h5 hv;refine⟨u,r,.inr ?_⟩;rcases l with ⟨q,_⟩ | ⟨_,c,e,z⟩
    · rcases hk with q' | q'
      · exact absurd (q.symm.trans q') (by intro z;cases z)
      · exact absurd (q.symm.trans q') (by intro z;cases z)
    · obtain⟨c',e'⟩:=aCY x hfr
      have e2:=(hcl x c' e').2;rw[e]at e2;cases e2;refine⟨hre,c,e',?_⟩;obtain⟨oc,hoc,hd⟩:=z;exact⟨oc,kept c oc hoc,hd⟩
  · obtain⟨v,oc,hoc,hd⟩:=I.cell x c (hcl x c e).2
    exact⟨v,oc,kept c oc hoc,hd⟩
  · show upd H s.heap.objs.size (.lst []) (s.heap.objs.size+1)=none
    rw[bQ (O6 (M0 _))];exact hC
  · have hc:=(hcl x c e).2
    obtain⟨v,oc,hoc,hd⟩:=I.cell x c hc;show upd H s.heap.objs.size (.lst []) c=none;rw[bQ (E5 (AJ hoc))];exact I.yM x c hc
  · exact Df.kept I3.hok aEi
  · show (blk k σ fr).length=N.length
    rw[B.len];unfold blk SJ;simp
theorem GK{tg elt iter:AB}{ifs:List AB}{scope:BF}{pos:Pos}{N:List Str}{k:Nat}{fr:List Nat}{g:TG}{tc:TT}{te:TE}{cl:List (Str×A7)}{pins:List (A7×Obj)}{σ:St}{H:Hp}{s:A8}{it:A7}{fp:List A7}{tn:Nat→AM→Prop}{J:It}{Q:VK}
    {RR:A6→A7→FG→A8→Prop} {E:A6→A8→Prop} (hcalm:X.calm=NG) (I:Inv X pins σ H s) (T:Turn X.prog X.w X.K tg J fp it tn) (st:tn 0 s.heap) (hf:∀b∈fp,Xe X pins H b) (B:kO X.env.scope scope X.N N k fr)
    (hcl:∀x c,cl.lookup x=ND c→(x,Au)∈scope.names∧X.env.cells.lookup x=ND c) (aCY:∀x,(x,Au)∈scope.names→∃c,cl.lookup x=ND c)
    (hg:∀cl fp s H C,PG (lE X scope N cl fp s H C) tg g) (hc:∀cl fp s H C,PTs (lE X scope N cl fp s H C) ifs tc) (he:∀cl fp s H C,PE (lE X scope N cl fp s H C) elt te)
    (hw:∀D,H D=none→aEh J k fr g tc te σ H Q D)
    (hRR:∀D C m s' H',s'.heap.Ns C m→s.heap.objs.size≤C→H' C=none→C≠D→Inv X pins σ H' s'→Q (.ref D) H'→RR (.ref D) C (.ok .next) s') :
    AF (AG X.prog X.w) X.A (newList []) (λacc s₃=>AF (AG X.prog X.w) X.A (newFunctionEnv scope X.env.globals cl [] X.env.qual none .none (ND X.env)) (λcenv s₄=>
      CI (AG X.prog X.w) X.A (.compStart (.ListComp elt [⟨tg,iter,ifs,0⟩] scope pos) 0 (.ref it) acc {cenv with scope:=GG scope X.env}) (RR acc cenv.locals) s₄) E s₃) E s:=by
  refine BT (wpAny_newFunctionEnv B.cell (by intro y hy;simp at hy) (λh₁ hns₁ hsb₁=>?_) B.kind);dsimp only at hns₁ hsb₁ ⊢;rw[AX]at hns₁ hsb₁ ⊢;have hfo:∀b∈fp,b<s.heap.objs.size:=λb hb=>by obtain⟨o,e,_⟩:=T.obj 0 _ st b hb;exact AJ e
  have I4:=SM (tk:=s.toks+([]:List (Str×A6)).length) I B hf hfo hcl aCY hns₁ hsb₁;generalize hD:s.heap.objs.size=D at *;have hDn:H D=none:=by rw[←hD];exact I.fresh
  obtain⟨W,⟨m0,w0⟩,turn⟩:=hw D hDn;have st1:tn 0 h₁:=T.keep 0 _ _ st λb hb o e=>hsb₁.extBut b o (E5 (M7 (by have:=hfo b hb;exact this))) (AA _ (AA _ e));have fr0:∀b∈fp,(upd H D (.lst [])) b=none:=λb hb=>by rw[bQ (E5 (hfo b hb))];exact(hf b hb).1
  generalize hX':lE X scope N cl fp s H (D+1)=X' at I4;have stat:∀{H':Hp},(∀b∈fp,H' b=none)→∀b∈fp,Xe X' [] H' b:=λ{H'} hn b hb=>by
    subst hX';refine⟨hn b hb,?_,λz=>?_,.inl hb,λx c e=>(hf b hb).2.2.2.2.1 x c (hcl x c e).2,λp hp=>absurd (show p∈([]:List (A7×Obj))from hp) (by simp)⟩
    · exact E5 (M7 (hfo b hb))
    · rcases C9.mp (I.Wz b z)with z | z
      · exact(hf b hb).2.1 z
      · exact(hf b hb).2.2.1 z
  have loop:∀s₃:A8,s₃={s with heap:=h₁,toks:=s.toks+([]:List (Str×A6)).length} →
      CI (AG X.prog X.w) X.A (.compLoop (.ListComp elt [⟨tg,iter,ifs,0⟩] scope pos) 0 (.ref it) (.ref D) (LA scope cl (D+1) X.env)) (RR (.ref D) (D+1)) s₃:=by
    rintro s₃ rfl;refine Cq (λn s'=>∃i ys H',Inv X' [] (blk k σ fr) H' s'∧tn i s'.heap∧(∀b∈fp,H' b=none)∧W i n ys H') ?_ m0 ⟨0,[],_,I4,st1,fr0,w0⟩;rintro n s5 ⟨i,ys,H5,I5,st5,fr5,w5⟩;obtain⟨hys,way⟩:=turn i n ys H5 w5;have e1:X'.prog=X.prog:=by rw[←hX'];rfl
    have e2:X'.w=X.w:=by rw[←hX'];rfl
    have e3:X'.K=X.K:=by rw[←hX'];rfl
    have e4:X'.A=X.A:=by rw[←hX'];rfl
    have e5:X'.calm=NG:=by rw[←hX'];exact hcalm
    have e6:X'.env=LA scope cl (D+1) X.env:=by rw[←hX'];rfl
    have e7:X'.xe=λ_ _=>False:=by rw[←hX'];rfl
    rcases way with ⟨stop,q⟩ | ⟨go,step⟩
    · have d:=T.done X' e1 e2 e3 e5 i [] s5 _ H5 (λ_ _=>False) I5 (stat fr5) st5 stop
      rw[e4]at d;refine jA d λr s6 ⟨hr,I6⟩=>?_;subst hr;subst hX';obtain⟨m6,hn6,_⟩:=I6.loc;refine hRR D (D+1) m6 s6 H5 hn6 (N5 _) I6.free (O6 (M0 _)) ?_ q;exact I.call' I6.os I6.base I6.hok I6.bare λb hb=>⟨(hf b hb).2.2.2.1,(hf b hb).2.1,(hf b hb).2.2.2.2.1,(hf b hb).2.2.2.2.2⟩
    · have d:=T.item X' e1 e2 e3 e5 i [] s5 _ H5 (λ_ _=>False) I5 (stat fr5) st5 go
      rw[e4]at d;refine jA d λr s6 ⟨u,hr,h6⟩=>?_;subst hr;refine jA h6 λ_ s7 ⟨x,H7,I7,r7,y7,st7,fr7⟩=>?_;have I7':=I7.pinned (stat fr7) (T.obj _ _ st7);have hg':PG X' tg g:=by rw[←hX'];exact hg _ _ _ _ _
      have hc':PTs X' ifs tc:=by rw[←hX'];exact hc _ _ _ _ _
      have he':PE X' elt te:=by rw[←hX'];exact he _ _ _ _ _
      have a1:=hg' _ s7 _ H7 x u _ I7' r7 (step x H7 y7);rw[e1,e2,e4,e6,e7]at a1;refine jA a1 λ_ s8 ⟨σ8,H8,I8,⟨kl,kk⟩,q8⟩=>?_;have a2:=hc' _ s8 σ8 H8 _ I8 q8;rw[e1,e2,e4,e6,e7]at a2;refine jA a2 λok s9 ⟨H9,I9,q9⟩=>?_;have again:∀{Ha:Hp} {ya:List V} {sa:A8},Inv X' ([]++Nm fp s7.heap) σ8 Ha sa→(∃m',m'<n∧W (i+1) m' ya Ha) →
          ∃m,m<n∧∃i ys H',Inv X' [] (blk k σ fr) H' sa∧tn i sa.heap∧(∀b∈fp,H' b=none)∧W i m ys H':=λ{Ha ya sa} Ia ⟨m',hm,w'⟩=>by
        refine⟨m',hm,i+1,ya,Ha,(Ia.weak kl.symm kk).Ft,T.keep _ _ _ st7 λb hb o e=>(Ia.pin (b,o) (G3 _ (G3 _ (wO hb e)))).1,λb hb=>?_,w'⟩;obtain⟨o,e,d⟩:=T.obj _ _ st7 b hb;exact(Ia.pin (b,o) (G3 _ (G3 _ (wO hb e)))).2.1
      cases ok with
      | false=>exact again I9 q9
      | true=>have a3:=he' _ s9 σ8 H9 _ I9 q9;rw[e1,e2,e4,e6,e7]at a3;show AF _ _ _ _ _ s9;refine jA a3 λv s10 ⟨y,H10,I10,r10,hD10,hz,q10⟩=>?_;have a4:=mJ (X:=X') _ s10 σ8 H10 (.ref D) [y] (.ref D) [v] (λ_ H11=>H11=upd H10 D (.lst (ys++[y]))) I10 U (.cons r10 .nil) ⟨D,ys,y,U,U,hD10,hz,U⟩;rw[e1,e2,e4,e7]at a4;refine jA a4 λ_ s11 ⟨_,H11,I11,_,e11⟩=>?_;subst e11;exact again I11 q10
  exact codeAny_compStart_list (loop _ U) (T.self _ 0 _ _ _ st1 (loop _ U))
theorem aCZ{tg elt iter:AB}{ifs:List AB}{scope:BF}{pos:Pos}{wi:TI}{g:TG}{tc:TT}{te:TE}(N:List Str)(k:Nat)(fr:List Nat)(hcalm:X.calm=NG)(B:kO X.env.scope scope X.N N k fr)(hi:PI X tg iter wi)
  (hg:∀cl fp s H C,PG (lE X scope N cl fp s H C) tg g) (hc:∀cl fp s H C,PTs (lE X scope N cl fp s H C) ifs tc) (he:∀cl fp s H C,PE (lE X scope N cl fp s H C) elt te)
  (hs:∀x,B4 iter X.env x=pure x:=by intro _;rfl):PE X (.ListComp elt [⟨tg,iter,ifs,0⟩] scope pos) (GJ wi k fr g tc te):=by
 intro pins s σ H Q I h;obtain⟨cl,e,h1,h2⟩:=Dg scope X.env λy hy hk=>I.ok.has y.1 (B.free y hy hk);rw[eval_ListComp];refine FM (use:=none) U hs e B.kind B.loc (AW (hi pins s σ H _ I h) (λxv s₁ q₁=>AW q₁ (λitv s₂ q₂=>?_) λ_ _ x=>x) λ_ _ x=>x);obtain⟨it,fp,tn,J,H2,rfl,I2,T,st2,f2,hw⟩:=q₂;refine GK (Q:=Q) (RR:=λacc C=>compPost (AG X.prog X.w) X.A X.xe none (EP X pins σ Q) acc C) hcalm I2 T st2 f2 B h1 h2 hg hc he hw ?_;intro D C m s' H' hn hC hf hne I' q;refine⟨m,hn,λh' hs'=>⟨.ref D,H',?_,U,q⟩⟩;exact I'.turned (t':=s'.toks) (λb o hb eb=>(hs'.2 b hb).trans eb) hf (O6 (E1 I2.lt hC)) (.inr (G2 I2.sz hC)) (λx c ec z=>by
  obtain⟨v,q⟩:=I2.cell x c ec;exact absurd (E1 q.lt (by rw[z];exact hC)) (K7 _)) λp hp z=>absurd (E1 (AJ (I2.pin p hp).1) (by rw[z];exact hC)) (K7 _)
theorem aC0{tg elt iter:AB}{ifs:List AB}{scope:BF}{pos spos py:Pos}{y:Str}{i:Nat}{wi:TI}{g:TG}{tc:TT}{te:TE}(N:List Str)(k:Nat)(fr:List Nat)(hcalm:X.calm=NG)(B:kO X.env.scope scope X.N N k fr)(hN:X.N.Nodup)(hy:X.N[i]?=ND y)(hx:Loc X.env.scope y)(hi:PI X tg iter wi)
  (hg:∀cl fp s H C,PG (lE X scope N cl fp s H C) tg g) (hc:∀cl fp s H C,PTs (lE X scope N cl fp s H C) ifs tc) (he:∀cl fp s H C,PE (lE X scope N cl fp s H C) elt te)
  (hsw:DA (.ListComp elt [⟨tg,iter,ifs,0⟩] scope pos) (ND (.Name y py)) spos.line X.env=pure NG:=by rfl)
  (hs:∀x,B4 iter X.env x=pure x:=by intro _;rfl) (hf:X.fn y=NG∨X.env.scope.names.lookup y=ND .local:=by first | exact .inl U | exact .inr U | assumption) :
  PS X (.Assign [.Name y py] (.ListComp elt [⟨tg,iter,ifs,0⟩] scope pos) spos) (uD (GJ wi k fr g tc te) (iR i)):=by
 intro pins s σ H D I h;obtain⟨cl,e,h1,h2⟩:=Dg scope X.env λy hy hk=>I.ok.has y.1 (B.free y hy hk);rw[exec_Assign_Name_used _ _ _ _ hsw];refine A9 (GW (A9 ?_));show AF _ X.A (do let _ ←comprehension (.ListComp elt [⟨tg,iter,ifs,0⟩] scope pos) scope X.env _ (newList []) NH (AO iter X.env) (ND (EM (.Name y py) X.env))) _ _ s;refine A9 (AW (FM (use:=ND (EM (.Name y py) X.env)) (Q:=λ_ s'=>SP X pins D .next s') U hs e B.kind B.loc
  (AW (hi pins s σ H _ I h) (λxv s₁ q₁=>AW q₁ (λitv s₂ q₂=>?_) λ_ _ x=>x) λ_ _ x=>x)) (λ_ s' hq=>AE (AE hq)) λ_ _ x=>x)
 obtain⟨it,fp,tn,J,H2,rfl,I2,T,st2,f2,hw⟩:=q₂;refine GK (Q:=λx H1=>iR i x σ H1 D.nx) (RR:=λacc C=>compPost (AG X.prog X.w) X.A X.xe (ND (EM (.Name y py) X.env)) (λ_ s'=>SP X pins D .next s') acc C) hcalm I2 T st2 f2 B h1 h2 hg hc he hw ?_;intro E C m s' H' hn hC hfr hne I' q;show AF _ X.A (EM (.Name y py) X.env (.ref E)) _ _ _;have cne:∀x c,X.env.cells.lookup x=ND c→c≠C:=λx c ec z=>by obtain⟨v,q⟩:=I2.cell x c ec;exact absurd (E1 q.lt (by rw[z];exact hC)) (K7 _)
 refine IA (Ud I' hN hy hx (show RelV (.ref E) (.ref E)from rfl) (λs6 I6 ⟨a,hsb,ha⟩=>?_) hf);have neA:C≠a:=by
  rcases ha with z | z
  ·rw[z];exact O6 (E1 I2.lt hC)
  ·exact λq=>cne _ _ z q.symm
 refine⟨m,hn.sameBut hsb neA,λh'' hs''=>⟨_,H',?_,q⟩⟩;exact I6.turned (t':=s6.toks) (λb o hb eb=>(hs''.2 b hb).trans eb) hfr (O6 (E1 I2.lt hC)) (.inr (G2 I2.sz hC)) cne
  λp hp z=>absurd (E1 (AJ (I2.pin p hp).1) (by rw[z];exact hC)) (K7 _)
end
end L2


set_option maxHeartbeats 4000000
namespace L2
open PySem PySem.Spec PyProof.Rows
def JIs(J:It)(P:Hp→Prop)(xs:List V):Prop:=
 ∀i H,P H→(i<xs.length→J.go i H)∧(∀x H',J.yld i H x H'→H'=H∧(i<xs.length→xs[i]?=ND x))∧(xs.length≤i→J.stop i H)
theorem Ob{K:aF}{a:A7}{xs:List V}:JIs (Itl K a) (λH=>pK K H a xs) xs:=λi H hq=>
 ⟨λh=>⟨xs,xs[i],hq,by simp[h]⟩,λx H' ⟨e,y⟩=>⟨e,λ_=>y xs hq⟩,λh=>⟨xs,hq,h⟩⟩
theorem aC1{K:aF}{a:A7}{xs:List V}:JIs (Itt K a) (λH=>zO K H a xs) xs:=λi H hq=>
 ⟨λh=>⟨xs,xs[i],hq,by simp[h]⟩,λx H' ⟨e,y⟩=>⟨e,λ_=>y xs hq⟩,λh=>⟨xs,hq,h⟩⟩
theorem Iv{lo:Int}{n:Nat}:JIs (Itr lo n) (λ_=>True) ((D2 n).map λi:Nat=>V.int (lo+(i:Int))):=λi H _=>
 ⟨λh=>show i<n by simpa using h,λx H' ⟨e,y⟩=>⟨e,λh=>by
  have h:i<n:=by simpa using h
  subst y;simp[h]⟩,λh=>show n≤i by simpa using h⟩
section
variable{X:Cx}
theorem jH{scope:BF}{N:List Str}{x:Str}{pos:Pos}(hN:N.Nodup)(hi:N[0]?=ND x)(hx:(vM scope X.env.scope).names.lookup x=ND .local) :
  ∀cl fp s H C,PG (lE X scope N cl fp s H C) (.Name x pos) (iR 0):=λ_ _ _ _ _=>lJ hN hi (D6 hx) (D5 hx)
theorem aC2{P:AI}{w:AL}{k:Key}{v:A6}(h:(iW P w).is k v=NG):RelV (kV k) v:=by
 rcases iH (k:=k) (v:=v) h with ⟨i,t,rfl,rfl⟩ | ⟨x,t,rfl,rfl⟩
 ·exact⟨t,U⟩
 ·exact⟨t,U⟩
theorem Mj{J:It}{P:Hp→Prop}{xs:List V}(hJ:JIs J P xs){g:TG}{tb:TS}{D:Ends}{σ:St}{H:Hp}(Pv:Nat→St→Hp→Prop)(h0:Pv 0 σ H)(hl:∀i σ H,i≤xs.length→Pv i σ H→P H)
  (hs:∀i x σ H,xs[i]?=ND x→Pv i σ H→g x σ H λσ2 H2=>tb {D with nx:=Pv (i+1),ct:=Pv (i+1),bk:=D.nx} σ2 H2) (hd:∀σ H,Pv xs.length σ H→D.nx σ H) :
  ∃W:Nat→Nat→St→Hp→Prop,(∃m,W 0 m σ H)∧∀i m σ H,W i m σ H →
   (J.stop i H∧D.nx σ H)∨(J.go i H∧∃N:St→Hp→Prop,(∀σ' H',N σ' H'→∃m',m'<m∧W (i+1) m' σ' H')∧∀x H',J.yld i H x H'→g x σ H' λσ2 H2=>tb {D with nx:=N,ct:=N,bk:=D.nx} σ2 H2):=by
 refine⟨λi m σ H=>m=xs.length-i∧i≤xs.length∧Pv i σ H,⟨xs.length,by simp,N4 _,h0⟩,?_⟩;rintro i m σ H ⟨rfl,hi,p⟩;obtain⟨j1,j2,j3⟩:=hJ i H (hl i σ H hi p);by_cases hlt:i<xs.length
 ·refine .inr ⟨j1 hlt,Pv (i+1),λσ' H' p'=>⟨xs.length-(i+1),by omega,U,hlt,p'⟩,λx H' y=>?_⟩;obtain⟨e,ex⟩:=j2 x H' y;subst e;exact hs i x σ _ (ex hlt) p
 ·have e:i=xs.length:=by omega
  subst e;exact .inl ⟨j3 (C6 _),hd σ H p⟩
end
end L2


namespace L2
open PySem PySem.Spec PyProof.Rows
section
variable{X:Cx}
theorem Lb:∀{bs:List Bool} {us:List A6},Vals (bs.map V.bl) us→us=bs.map DC
 | [],us,r=>by rw[J2]at r;cases r;rfl
 | b::bs,us,r=>by
  rw[D3]at r;cases r with
  | cons r1 r2=>
   cases(show _=DC b from r1)
   rw[Lb r2];rfl
theorem SN(bs:List Bool):((D2 bs.length).all λi=>(bs[i]?).getD NG)=bs.all id:=by
 rw[M8,M3,M3];constructor
 ·intro h b hb;obtain⟨i,hi,rfl⟩:=J6 hb;have:=h i (F5.mpr hi);simpa[hi]using this
 ·intro h i hi;have hi':=F5.mp hi;simp only[B6 hi',S9];exact h _ (O9 hi')
theorem ak{s:A8}{h':AM}{o:Obj}(hk:∀b x,b∉[s.heap.objs.size]→(s.heap.push o).get? b=ND x→h'.get? b=ND x):∀b x,s.heap.get? b=ND x→h'.get? b=ND x:=
 λb x e=>hk b x (λhm=>by rw[E3.mp hm]at e;exact K7 _ (AJ e)) (AA _ e)
theorem aAp(hc:X.calm=NG):nF X (.builtin "all") (λxs H Q=>∃(p:A7)(bs:List Bool),xs=[.ref p]∧pK X.K H p (bs.map V.bl)∧Q (.bl (bs.all id)) H):=by
 intro pins s σ H xs us Q I r h;obtain⟨p,bs,rfl,hq,q⟩:=h;obtain⟨u,rfl,rx⟩:=vals1 r;cases rx;obtain⟨its,rv,pl,hz⟩:=I.list hq;have hb:=Lb rv;subst hb;have hl:=pl.isList;have hlt:p<s.heap.objs.size:=by obtain⟨_,e,_⟩:=hl;exact AJ e
 refine call_all_walk (DU hl ?_);refine⟨s.heap.objs.size,[s.heap.objs.size,p],[s.heap.objs.size],_,_,_,λi=>(bs[i]?).getD NG,U,IU (A:=X.A.in1) (I.ok.hd hc) _ p (E5 hlt) _,
  ⟨⟨_,AK _ U,U,U⟩,hl.push _⟩,λi v s' Q' E' hP hQ=>?_,λh' tk hk=>?_⟩
 ·have e:(bs.map DC)[i]?=ND v:=by simpa using hP
  rw[B8]at e;cases e2:bs[i]? with
  | none=>rw[e2]at e;cases e
  | some b=>rw[e2]at e;cases e;simp only[e2,S9]at hQ;exact B3 hQ
 ·have e:((D2 (bs.map DC).toArray.size).all λi=>(bs[i]?).getD NG)=bs.all id:=by rw[C5,B7];exact SN bs
  rw[e];exact⟨.bl _,H,I.kept (ak hk),U,q⟩
theorem ou{P:AI}{w:AL}{kvs:List (Key×V)}{vs:List (Key×A6)}(rel:KV kvs vs){us:List A6}(hl:us.length=vs.length)(hv:∀(j:Nat)(v:A6),us[j]?=ND v→∃k x,vs[j]?=ND (k,x)∧(iW P w).is k v=NG) :
  Vals (kvs.map λkv=>kV kv.1) us:=by
 have ek:=KV.keys rel;have e0:(kvs.map λkv=>kV kv.1)=(vs.map (·.1)).map kV:=by rw[←ek,K5];rfl
 rw[e0];clear e0 ek rel
 induction vs generalizing us with
 | nil=>
  cases us with
  | nil=>exact .nil
  | cons _ _=>simp at hl
 | cons p r ih=>
  cases us with
  | nil=>simp at hl
  | cons u us=>refine .cons ?_ (ih (by simpa using hl) λj v e=>by simpa using hv (j+1) v (by simpa using e));obtain⟨k,x,e,h⟩:=hv 0 u U;simp at e;subst e;exact aC2 h
theorem zU(hc:X.calm=NG):nF X (.type "list") (λxs H Q=>∃p kvs,xs=[.ref p]∧Rd H p (.dK kvs)∧∀l,H l=none→Q (.ref l) (upd H l (.lst (kvs.map λkv=>kV kv.1)))):=by intro pins s σ H xs us Q I r h;obtain⟨p,kvs,rfl,hq,q⟩:=h;obtain⟨u,rfl,rx⟩:=vals1 r;cases rx;obtain⟨hz,hsm,vs,rel,dd⟩:=La I.hok hq;obtain⟨ep,hat⟩:=dd.dictAt;have hl:=KV.length rel;refine PySem.W.kdl_call (PySem.W.kdl_dict (knd:=iW X.prog X.w) (kvs:=vs) (ep:=ep) hsm) (I.ok.hd hc) hat (by omega) ?_;intro h' tk acc c kp e hacc;have hk:=ou (P:=X.prog) (w:=X.w) rel (us:=acc.toList) (by rw[K3];exact hacc.1) λj v ej=>hacc.2 j v (by rw[←L8];exact ej);exact⟨.ref s.heap.objs.size,_,I.laid (t':=tk) kp (C6 _) (show jG X.prog X.w _ h' _ (.lst (kvs.map λkv=>kV kv.1))from⟨by rw[B7];exact hz,acc.toList,c,hk,by simpa using e⟩),U,q _ (I.hok.fresh (C6 _))⟩
def rising(ns ms:List Int):Prop:=ms.Perm ns∧ms.Pairwise (·≤·)
theorem GP:nF X (.builtin "sorted") (λxs H Q=>∃(p:A7)(ns:List Int),xs=[.ref p]∧pK X.K H p (ns.map V.int)∧ns.length<64∧∀l ms,H l=none→rising ns ms→Q (.ref l) (upd H l (.lst (ms.map V.int)))):=by
 intro pins s σ H xs us Q I r h;obtain⟨p,ns,rfl,hq,h64,q⟩:=h;obtain⟨u,rfl,rx⟩:=vals1 r;cases rx;obtain⟨its,rv,pl,hz⟩:=I.list hq;have hlen:=rv.length;rw[B7]at hlen;refine sorted_ints pl.isList (intsAre_of rv) (by omega) λout ns' a1 a2 a3=>?_;obtain⟨e,he⟩:=sortedAll_at s.heap its out;have hl2:ns'.length=ns.length:=a2.length_eq;have hs:H (s.heap.objs.size+1)=none:=I.hok.fresh (N5 _);have I2:=I.laid (t':=s.toks) (a:=s.heap.objs.size+1) (o:=.lst (ns'.map V.int)) (h':=sortedAll s.heap its out) (λb o e=>sortedAll_old e) (N5 _)
  ⟨by rw[B7];exact O5 (vL (by omega)),out.toList,e,Bf a1,by simpa[HP]using he⟩
 exact⟨.ref _,_,I2,U,q _ _ hs ⟨a2,a3⟩⟩
end
inductive DV where
  | int (i:Int) | non | lst (ds:List DV) | tup (ds:List DV)
mutual
def Reads(K:aF)(H:Hp):DV→V→Prop
 | .int i,x=>x=.int i
 | .non,x=>x=.non
 | .lst ds,x=>∃a xs,x=.ref a∧pK K H a xs∧eN K H ds xs
 | .tup ds,x=>∃a xs,x=.ref a∧zO K H a xs∧eN K H ds xs
def eN(K:aF)(H:Hp):List DV→List V→Prop
 | [],xs=>xs=[]
 | d::ds,xs=>∃y ys,xs=y::ys∧Reads K H d y∧eN K H ds ys
end
mutual
def DV.depth:DV→Nat
 | .int _=>0
 | .non=>0
 | .lst ds=>gQ ds+1
 | .tup ds=>gQ ds+1
def gQ:List DV→Nat
 | []=>0
 | d::ds=>max d.depth (gQ ds)
end
theorem eN.length{K:aF}{H:Hp}:∀{ds:List DV} {xs:List V},eN K H ds xs→xs.length=ds.length
 | [],xs,h=>by unfold eN at h;rw[h];rfl
 | d::ds,xs,h=>by unfold eN at h;obtain⟨y,ys,rfl,_,h2⟩:=h;simp[eN.length h2]
theorem eN.get{K:aF}{H:Hp}:∀{ds:List DV} {xs:List V} {i:Nat} {d:DV},eN K H ds xs→ds[i]?=ND d→∃x,xs[i]?=ND x∧Reads K H d x
 | [],xs,i,d,h,e=>by simp at e
 | d'::ds,xs,0,d,h,e=>by unfold eN at h;obtain⟨y,ys,rfl,h1,_⟩:=h;simp at e;subst e;exact⟨y,U,h1⟩
 | d'::ds,xs,i+1,d,h,e=>by unfold eN at h;obtain⟨y,ys,rfl,_,h2⟩:=h;obtain⟨x,e1,e2⟩:=eN.get h2 (by simpa using e);exact⟨x,by simpa using e1,e2⟩
theorem Oc:∀{ds:List DV} {i:Nat} {d:DV},ds[i]?=ND d→d.depth≤gQ ds
 | [],i,d,e=>by simp at e
 | d'::ds,0,d,e=>by simp at e;subst e;unfold gQ;exact Nat.le_max_left _ _
 | d'::ds,i+1,d,e=>by have:=Oc (ds:=ds) (i:=i) (d:=d) (by simpa using e);unfold gQ;exact G2 this (Nat.le_max_right _ _)
theorem SQ(A:AN):A.in1.units=A.units+1:=rfl
section
open SeqAt
open Classical in
noncomputable def zV(d e:DV):Bool:=decide (d=e)
theorem vN{d e:DV}:zV d e=NG↔d=e:=by unfold zV;simp
theorem vO(d:DV):zV d d=NG:=vN.mpr U
theorem jZ{d e:DV}(h:d≠e):zV d e=NH:=by unfold zV;simp[h]
theorem aC3(a b:Int):zV (.int a) (.int b)=(a==b):=by
 by_cases h:a=b
 ·subst h;simp[vO]
 ·rw[jZ (by simpa using h)];simp[h]
open Classical in
theorem pX{ds es:List DV}(hl:ds.length=es.length):((D2 ds.length).all λi=>match ds[i]?,es[i]? with | some d,ND e=>zV d e | _,_=>NG)=decide (ds=es):=by
 rw[M8,M3,decide_eq_true_iff];constructor
 ·intro h;apply X0 hl;intro i h1 h2;have:=h i (F5.mpr h1);simp only[B6 h1,B6 h2]at this;exact vN.mp this
 ·rintro rfl i hi;have hi':=F5.mp hi;simp only[B6 hi'];exact vO _
variable{X:Cx}{pins:List (A7×Obj)}{σ:St}{H:Hp}{s:A8}
open Classical in
theorem ao(ds es:List DV):zV (.lst ds) (.lst es)=decide (ds=es):=by
 by_cases h:ds=es
 ·subst h;simp[vO]
 ·rw[jZ (by intro z;cases z;exact h U)];simp[h]
open Classical in
theorem aq(ds es:List DV):zV (.tup ds) (.tup es)=decide (ds=es):=by
 by_cases h:ds=es
 ·subst h;simp[vO]
 ·rw[jZ (by intro z;cases z;exact h U)];simp[h]
theorem Uu(I:Inv X pins σ H s):∀(n:Nat)(d e:DV)(x:V),d.depth≤n→Reads X.K H d x→Reads X.K H e x→d=e:=by
 have lists:∀(n:Nat),(∀(d e:DV)(x:V),d.depth≤n→Reads X.K H d x→Reads X.K H e x→d=e)→∀(ds es:List DV)(xs:List V),gQ ds≤n→eN X.K H ds xs→eN X.K H es xs→ds=es:=by
  intro n ih ds
  induction ds with
  | nil=>
   intro es xs _ h1 h2;have l1:=h1.length;have l2:=h2.length;cases es with
   | nil=>rfl
   | cons _ _=>rw[l1]at l2;simp at l2
  | cons d ds ihl=>
   intro es xs hd h1 h2;have hd1:d.depth≤n:=by unfold gQ at hd;omega
   have hd2:gQ ds≤n:=by unfold gQ at hd;omega
   unfold eN at h1;obtain⟨y,ys,rfl,a1,a2⟩:=h1;cases es with
   | nil=>have:=h2.length;simp at this
   | cons e es=>unfold eN at h2;obtain⟨y',ys',q,b1,b2⟩:=h2;cases q;rw[ih d e y hd1 a1 b1,ihl es ys hd2 a2 b2]
 have kinds:∀{a:A7} {xs ys:List V},pK X.K H a xs→zO X.K H a ys→False:=λ{a xs ys} h1 h2=>by obtain⟨_,_,p1,_⟩:=I.list h1;obtain⟨_,_,p2,_⟩:=I.tuple h2;exact ne_of_list_tuple p1.isList (show s.heap.IsTuple a _ from p2) U
 intro n
 induction n with
 | zero=>
  intro d e x hd h1 h2;cases d with
  | int i=>
   unfold Reads at h1;subst h1;cases e with
   | int j=>unfold Reads at h2;cases h2;rfl
   | non=>unfold Reads at h2;cases h2
   | lst es=>unfold Reads at h2;obtain⟨_,_,q,_⟩:=h2;cases q
   | tup es=>unfold Reads at h2;obtain⟨_,_,q,_⟩:=h2;cases q
  | non=>
   unfold Reads at h1;subst h1;cases e with
   | non=>rfl
   | int j=>unfold Reads at h2;cases h2
   | lst es=>unfold Reads at h2;obtain⟨_,_,q,_⟩:=h2;cases q
   | tup es=>unfold Reads at h2;obtain⟨_,_,q,_⟩:=h2;cases q
  | lst ds=>unfold DV.depth at hd;omega
  | tup ds=>unfold DV.depth at hd;omega
 | succ n ih=>
  intro d e x hd h1 h2;cases d with
  | int i=>
   unfold Reads at h1;subst h1;cases e with
   | int j=>unfold Reads at h2;cases h2;rfl
   | non=>unfold Reads at h2;cases h2
   | lst es=>unfold Reads at h2;obtain⟨_,_,q,_⟩:=h2;cases q
   | tup es=>unfold Reads at h2;obtain⟨_,_,q,_⟩:=h2;cases q
  | non=>
   unfold Reads at h1;subst h1;cases e with
   | non=>rfl
   | int j=>unfold Reads at h2;cases h2
   | lst es=>unfold Reads at h2;obtain⟨_,_,q,_⟩:=h2;cases q
   | tup es=>unfold Reads at h2;obtain⟨_,_,q,_⟩:=h2;cases q
  | lst ds=>
   unfold Reads at h1;obtain⟨a,xs,rfl,hq,r⟩:=h1;cases e with
   | int j=>unfold Reads at h2;cases h2
   | non=>unfold Reads at h2;cases h2
   | lst es=>
    unfold Reads at h2;obtain⟨b,ys,q,hq2,r2⟩:=h2;cases q;have:=I.EY hq hq2;subst this;rw[lists n ih ds es xs (by unfold DV.depth at hd;omega) r r2]
   | tup es=>
    unfold Reads at h2;obtain⟨b,ys,q,hq2,r2⟩:=h2;cases q;exact(kinds hq hq2).elim
  | tup ds=>
   unfold Reads at h1;obtain⟨a,xs,rfl,hq,r⟩:=h1;cases e with
   | int j=>unfold Reads at h2;cases h2
   | non=>unfold Reads at h2;cases h2
   | lst es=>
    unfold Reads at h2;obtain⟨b,ys,q,hq2,r2⟩:=h2;cases q;exact(kinds hq2 hq).elim
   | tup es=>unfold Reads at h2;obtain⟨b,ys,q,hq2,r2⟩:=h2;cases q;have:=I.Ue hq hq2;subst this;rw[lists n ih ds es xs (by unfold DV.depth at hd;omega) r r2]
theorem aAq(I:Inv X pins σ H s)(i:Int)(e:DV)(y:V)(u v:A6)(A:AN)(hu:A.units<As)(r2:Reads X.K H e y)(rx:RelV (.int i) u)(ry:RelV y v):RcAt A s u v (zV (.int i) e)∧EqAt A s u v (zV (.int i) e):=by
 obtain⟨t,rfl⟩:=rx;cases e with
 | int j=>unfold Reads at r2;subst r2;obtain⟨t',rfl⟩:=ry;rw[aC3];exact⟨RcAt.int_int _ _ _ _,EqAt.int_int _ _ _ _⟩
 | non=>
  unfold Reads at r2;subst r2;cases ry;rw[jZ (by intro z;cases z)];exact⟨RcAt.int_none _ _,EqAt.int_none _ _⟩
 | lst es=>
  unfold Reads at r2;obtain⟨b,ys,rfl,hq,_⟩:=r2;cases ry;obtain⟨its,_,pl,_⟩:=I.list hq;rw[jZ (by intro z;cases z)];exact⟨RcAt.int_list _ _ pl.isList (hu),EqAt.int_list _ _ pl.isList (hu)⟩
 | tup es=>unfold Reads at r2;obtain⟨b,ys,rfl,hq,_⟩:=r2;cases ry;obtain⟨its,_,pl,_⟩:=I.tuple hq;rw[jZ (by intro z;cases z)];exact⟨RcAt.int_tuple _ _ pl (hu),EqAt.int_tuple _ _ pl (hu)⟩
theorem aAr(I:Inv X pins σ H s)(e:DV)(y:V)(u v:A6)(A:AN)(hu:A.units<As)(r2:Reads X.K H e y)(rx:RelV .non u)(ry:RelV y v):RcAt A s u v (zV .non e)∧EqAt A s u v (zV .non e):=by
 cases rx;cases e with
 | non=>
  unfold Reads at r2;subst r2;cases ry;rw[vO];exact⟨RcAt.none_none,EqAt.same _⟩
 | int j=>unfold Reads at r2;subst r2;obtain⟨t',rfl⟩:=ry;rw[jZ (by intro z;cases z)];exact⟨RcAt.none_int _ _,EqAt.none_int _ _⟩
 | lst es=>
  unfold Reads at r2;obtain⟨b,ys,rfl,hq,_⟩:=r2;cases ry;obtain⟨its,_,pl,_⟩:=I.list hq;rw[jZ (by intro z;cases z)];exact⟨RcAt.none_list pl.isList hu,EqAt.none_list pl.isList hu⟩
 | tup es=>unfold Reads at r2;obtain⟨b,ys,rfl,hq,_⟩:=r2;cases ry;obtain⟨its,_,pl,_⟩:=I.tuple hq;rw[jZ (by intro z;cases z)];exact⟨RcAt.none_tuple pl hu,EqAt.none_tuple pl hu⟩
theorem Od(I:Inv X pins σ H s):∀(n:Nat)(A:AN),(∀(d e:DV)(x y:V)(u v:A6)(A:AN),d.depth≤n→A.units+n<As→Reads X.K H d x→Reads X.K H e y→RelV x u→RelV y v→RcAt A s u v (zV d e)∧EqAt A s u v (zV d e)) →
  ∀(ds es:List DV)(xs ys:List V)(us vs:List A6),gQ ds≤n→A.units+(n+1)<As→eN X.K H ds xs→eN X.K H es ys→Vals xs us→Vals ys vs →
  ∀j (h1:j<us.toArray.size) (h2:j<vs.toArray.size),EqAt A.in1 s us.toArray[j] vs.toArray[j] (match ds[j]?,es[j]? with | some d,ND e=>zV d e | _,_=>NG):=by
 intro n A ih ds es xs ys us vs hd hu r1 r2 v1 v2 j h1 h2;have l1:j<ds.length:=by rw[←r1.length,v1.length];simpa using h1
 have l2:j<es.length:=by rw[←r2.length,v2.length];simpa using h2
 obtain⟨x,ex,rx⟩:=r1.get (i:=j) (d:=ds[j]) (by simp);obtain⟨y,ey,ry⟩:=r2.get (i:=j) (d:=es[j]) (by simp);obtain⟨u,eu,ru⟩:=v1.get ex;obtain⟨v,ev,rv⟩:=v2.get ey;have e1:us.toArray[j]=u:=by rw[D1]at eu;obtain⟨_,eu⟩:=eu;simpa using eu
 have e2:vs.toArray[j]=v:=by rw[D1]at ev;obtain⟨_,ev⟩:=ev;simpa using ev
 rw[e1,e2];simp only[B6 l1,B6 l2];exact(ih _ _ x y u v A.in1 (G2 (Oc (i:=j) (by simp)) hd) (by rw[SQ];omega) rx ry ru rv).2
theorem Xw(I:Inv X pins σ H s):∀(n:Nat)(d e:DV)(x y:V)(u v:A6)(A:AN),d.depth≤n→A.units+n<As→Reads X.K H d x→Reads X.K H e y→RelV x u→RelV y v→RcAt A s u v (zV d e)∧EqAt A s u v (zV d e):=by
 have items:=Od I;have seqs:∀(n:Nat)(A:AN),(∀(d e:DV)(x y:V)(u v:A6)(A:AN),d.depth≤n→A.units+n<As→Reads X.K H d x→Reads X.K H e y→RelV x u→RelV y v→RcAt A s u v (zV d e)∧EqAt A s u v (zV d e)) →
   ∀(d e:DV)(x y:V)(u v:A6),d.depth≤n+1→A.units+(n+1)<As→Reads X.K H d x→Reads X.K H e y→RelV x u→RelV y v→RcAt A s u v (zV d e)∧EqAt A s u v (zV d e):=by
  intro n A ih d e x y u v hd hu r1 r2 rx ry;have of_same:∀{a b:A7} {k:Bool},(a=b→k=NG)→RcAt A s (.ref a) (.ref b) k→EqAt A s (.ref a) (.ref b) k:=λ{a b k} hk h=>by
   by_cases hab:a=b
   ·subst hab;rw[hk rfl];exact EqAt.same _
   ·exact EqAt.of_refs hab h
  cases d with
  | int i=>unfold Reads at r1;subst r1;exact aAq I i e y u v A (by omega) r2 rx ry
  | non=>unfold Reads at r1;subst r1;exact aAr I e y u v A (by omega) r2 rx ry
  | lst ds=>
   unfold Reads at r1;obtain⟨a,xs,rfl,hq1,ph⟩:=r1;cases rx;obtain⟨Oe,v1,Sy,_⟩:=I.list hq1;have hd':gQ ds≤n:=by unfold DV.depth at hd;omega
   cases e with
   | int j=>unfold Reads at r2;subst r2;obtain⟨t',rfl⟩:=ry;rw[jZ (by intro z;cases z)];exact⟨RcAt.list_int _ _ Sy.isList (by omega),EqAt.list_int _ _ Sy.isList (by omega)⟩
   | non=>
    unfold Reads at r2;subst r2;cases ry;rw[jZ (by intro z;cases z)];exact⟨RcAt.list_none Sy.isList (by omega),EqAt.list_none Sy.isList (by omega)⟩
   | lst es=>
    unfold Reads at r2;obtain⟨b,ys,rfl,hq2,SX⟩:=r2;cases ry;obtain⟨its2,v2,GQ,_⟩:=I.list hq2;have e1:Oe.toArray.size=ds.length:=by rw[C5,←v1.length,ph.length]
    have e2:its2.toArray.size=es.length:=by rw[C5,←v2.length,SX.length]
    have rc:RcAt A s (.ref a) (.ref b) (zV (.lst ds) (.lst es)):=by
     by_cases hl:ds.length=es.length
     ·have q:=RcAt.lists (A:=A) (s:=s) Sy.isList GQ.isList (by rw[e1,e2];exact hl) (by omega) (items n A ih ds es xs ys Oe its2 hd' hu ph SX v1 v2);rw[e1,pX hl]at q;rw[ao];exact q
     ·rw[jZ (by intro z;cases z;exact hl U)];exact RcAt.lists_lengths Sy.isList GQ.isList (by rw[e1,e2];simpa using hl) (by omega)
    exact⟨rc,of_same (λhab=>by
     subst hab;refine vN.mpr (Uu I (n+1) _ _ (.ref a) hd ?_ ?_)
     ·unfold Reads;exact⟨a,xs,U,hq1,ph⟩
     ·unfold Reads;exact⟨a,ys,U,hq2,SX⟩) rc⟩
   | tup es=>
    unfold Reads at r2;obtain⟨b,ys,rfl,hq2,SX⟩:=r2;cases ry;obtain⟨its2,v2,GQ,_⟩:=I.tuple hq2;rw[jZ (by intro z;cases z)];exact⟨RcAt.list_tuple Sy.isList GQ (by omega),EqAt.list_tuple Sy.isList GQ (by omega)⟩
  | tup ds=>
   unfold Reads at r1;obtain⟨a,xs,rfl,hq1,ph⟩:=r1;cases rx;obtain⟨Oe,v1,Sy,_⟩:=I.tuple hq1;have hd':gQ ds≤n:=by unfold DV.depth at hd;omega
   cases e with
   | int j=>unfold Reads at r2;subst r2;obtain⟨t',rfl⟩:=ry;rw[jZ (by intro z;cases z)];exact⟨RcAt.tuple_int _ _ Sy (by omega),EqAt.tuple_int _ _ Sy (by omega)⟩
   | non=>
    unfold Reads at r2;subst r2;cases ry;rw[jZ (by intro z;cases z)];exact⟨RcAt.tuple_none Sy (by omega),EqAt.tuple_none Sy (by omega)⟩
   | lst es=>
    unfold Reads at r2;obtain⟨b,ys,rfl,hq2,SX⟩:=r2;cases ry;obtain⟨its2,v2,GQ,_⟩:=I.list hq2;rw[jZ (by intro z;cases z)];exact⟨RcAt.tuple_list Sy GQ.isList (by omega),EqAt.tuple_list Sy GQ.isList (by omega)⟩
   | tup es=>
    unfold Reads at r2;obtain⟨b,ys,rfl,hq2,SX⟩:=r2;cases ry;obtain⟨its2,v2,GQ,_⟩:=I.tuple hq2;have e1:Oe.toArray.size=ds.length:=by rw[C5,←v1.length,ph.length]
    have e2:its2.toArray.size=es.length:=by rw[C5,←v2.length,SX.length]
    have rc:RcAt A s (.ref a) (.ref b) (zV (.tup ds) (.tup es)):=by
     have q:=RcAt.tuples (A:=A) (s:=s) (l:=a) (b:=b) Sy GQ (by omega) (items n A ih ds es xs ys Oe its2 hd' hu ph SX v1 v2);rw[e1,e2]at q;by_cases hl:ds.length=es.length
     ·rw[←hl,d9,pX hl]at q;rw[aq];simpa using q
     ·rw[jZ (by intro z;cases z;exact hl U)];have z:(ds.length==es.length)=NH:=by simpa using hl
      rw[z,m7]at q;exact q
    exact⟨rc,of_same (λhab=>by
     subst hab;refine vN.mpr (Uu I (n+1) _ _ (.ref a) hd ?_ ?_)
     ·unfold Reads;exact⟨a,xs,U,hq1,ph⟩
     ·unfold Reads;exact⟨a,ys,U,hq2,SX⟩) rc⟩
 intro n
 induction n with
 | zero=>
  intro d e x y u v A hd hu r1 r2 rx ry;cases d with
  | int i=>unfold Reads at r1;subst r1;exact aAq I i e y u v A (by omega) r2 rx ry
  | non=>unfold Reads at r1;subst r1;exact aAr I e y u v A (by omega) r2 rx ry
  | lst ds=>unfold DV.depth at hd;omega
  | tup ds=>unfold DV.depth at hd;omega
 | succ n ih=>intro d e x y u v A hd hu r1 r2 rx ry;exact seqs n A ih d e x y u v hd hu r1 r2 rx ry
end
section
variable{X:Cx}
def aFD(K:aF)(neg:Bool):R2:=λx y H Q=>∃d e,Reads K H d x∧Reads K H e y∧d.depth≤32∧Q (.bl (if neg then !zV d e else zV d e)) H
theorem aFE(hu:X.A.units+64<As):wM X (AS .Eq) (aFD X.K NH):=by intro pins s σ H x y v u Q I rx ry h;obtain⟨d,e,r1,r2,hd,q⟩:=h;exact(Xw I 32 d e x y v u X.A hd (by omega) r1 r2 rx ry).1 X.prog X.w X.xe _ ⟨.bl _,H,I,U,q⟩
open SeqAt in
theorem aFF(hu:X.A.units+64<As):wM X (AS .NotEq) (λx y H Q=>∃ds es,Reads X.K H (.lst ds) x∧Reads X.K H (.lst es) y∧gQ ds≤32∧Q (.bl (!zV (.lst ds) (.lst es))) H):=by
 intro pins s σ H x y v u Q I rx ry h;obtain⟨ds,es,r1,r2,hd,q⟩:=h;unfold Reads at r1 r2;obtain⟨a,xs,rfl,hq1,ph⟩:=r1;obtain⟨b,ys,rfl,hq2,SX⟩:=r2;cases rx;cases ry;obtain⟨Oe,v1,Sy,_⟩:=I.list hq1;obtain⟨its2,v2,GQ,_⟩:=I.list hq2;have e1:Oe.toArray.size=ds.length:=by rw[C5,←v1.length,ph.length]
 have e2:its2.toArray.size=es.length:=by rw[C5,←v2.length,SX.length]
 have rc:RcNeAt X.A s (.ref a) (.ref b) (!zV (.lst ds) (.lst es)):=by
  by_cases hl:ds.length=es.length
  ·have z:=RcNeAt.lists (A:=X.A) (s:=s) Sy.isList GQ.isList (by rw[e1,e2];exact hl) (by omega) (Od I 32 X.A (λd e x y u v A a1 a2 a3 a4 a5 a6=>Xw I 32 d e x y u v A a1 a2 a3 a4 a5 a6) ds es xs ys Oe its2 hd (by omega) ph SX v1 v2);rw[e1,pX hl]at z;rw[ao];exact z
  ·rw[jZ (by intro z;cases z;exact hl U)];exact RcNeAt.lists_lengths Sy.isList GQ.isList (by rw[e1,e2];simpa using hl) (by omega)
 exact rc X.prog X.w X.xe _ ⟨.bl _,H,I,U,q⟩
end
end L2


namespace L2
open PySem PySem.Spec PyProof.Rows
structure Raw(K:aF)(mg:Str→Option A6)(x:Str)(st:AH):Prop where
 ex:∃f fd,Fun K x x st f fd∧mg x=ND (.ref f)
theorem aFG{K:aF}{h:AM}{mg:Str→Option A6}{x:Str}{st:AH}{f:A7}{oc:A6}{od an:Option A7}{osl:Array (Option A6)}{kV doc pm cdv ct:A6}(X:K.In h)(G:h.Ns AV mg)
  (a:R1 K AV x=ND (ND (.ref f))) (l:K.lookup f=ND ⟨oc,od,.func (F6 x x (fP st) (cH st) (aM st) .none kV doc pm an cdv ct),osl⟩)
  (c:K4 K cdv x=NG) (k:J9 K (.ref f)=NG):Raw K mg x st:=⟨⟨f,_,aFB l c k,b8 X G a⟩⟩
structure qL(P:AI)(w:AL)(K:aF)(mg:Str→Option A6)(base:AM)(x:Str)(k:Nat)(n:Nat)(sp:Sp):Prop where
 ex:∃f fd ps,ps.length=n∧zF P w K mg base CZ k f fd ps sp∧Binds K fd ps []∧J9 K (.ref f)=NG∧mg x=ND (.ref f)
theorem Raw.cal{P:AI}{w:AL}{K:aF}{mg:Str→Option A6}{base:AM}{x:Str}{st:AH}{N ps:List Str}{k:Nat}{sp:Sp}(R:Raw K mg x st)(S:bB N ps (aM st))(len:∀vs H Q E,sp vs H Q E→vs.length=ps.length)
  (hb:∀(kV doc pm:A6)(an:Option A7)(cdv ct:A6)(us:List A6),us.length=ps.length→Dx (F6 x x (fP st) (cH st) (aM st) .none kV doc pm an cdv ct) ⟨us,[]⟩=pure (ps.zip us))
  (hbody:∀(f:A7)(cdv:A6)(A:AN)(outer:List Env)(s:A8)(H:Hp)(vs:List V)(Q:VK)(E:XK),jR k (A.deeper (BS x (aM st) s.heap.objs.size f cdv))→sp vs H Q E →
   ∃t,DY (Fv CZ P w K mg base N x (aM st) f cdv A outer s H E).ZK (cH st) t∧t {nx:=λ_ H'=>Q .non H',rt:=Q} (start N vs) H):qL P w K mg base x (k+1) ps.length sp:=by
 obtain⟨f,fd,F,m⟩:=R.ex;exact⟨f,fd,ps,U,F.ok S len λcdv A outer s H vs Q E hr h=>hbody f cdv A outer s H vs Q E hr h,F.binds hb,F.kp,m⟩
theorem aAs{X:Cx}{x:Str}{k n:Nat}{sp:Sp}{e:AB}{es:List AB}{p pos:Pos}{t:TA}(C:qL X.prog X.w X.K X.mg X.base x k n sp)(hr:jR k X.A)(hg:Gl X x)
  (ha:PA X (e::es) t) (hdb:(x==("__debug__" : Str))=NH:=by decide) (he:AD (e::es) X.env=(NH,AO e X.env)::AD es X.env:=by rfl) (hpl:(AY pos (AD es X.env)).any (·.1)=NH:=by rfl) :
  PE X (.Call (.Name x p) (e::es) [] pos) (Uj sp [] E0 t):=by
 obtain⟨f,fd,ps,_,F,hb,hk,hm⟩:=C.ex;exact aCG F hr hg hm hk hb .nil Ut ha hdb he hpl
theorem call_of{sp:Sp}{E:XK}{t:TA}{σ:St}{H:Hp}{Q:VK}(h:t σ H λvs H1=>sp vs H1 Q E):Uj sp [] E t σ H Q:=by
 unfold Uj;have e:(λ(vs:List V) (H1:Hp)=>sp (vs++[]) H1 Q E)=λvs H1=>sp vs H1 Q E:=by funext vs H1;rw[F9]
 rw[e];exact h
theorem dO{H:Hp}{p:A7}(h:H p=none)(o:HO):aU H (upd H p o):=λb u q=>by rw[bQ (iQ q h)];exact q
theorem aU.tup{K:aF}{H H':Hp}{a:A7}{xs:List V}(e:aU H H')(h:zO K H a xs):zO K H' a xs:=by
 rcases h with (h | ⟨o,h⟩) | h
 ·exact .inl (.inl (e _ _ h))
 ·exact .inl (.inr ⟨o,e _ _ h⟩)
 ·exact .inr h
mutual
theorem aU.reads{K:aF}{H H':Hp}(e:aU H H'):∀(d:DV)(x:V),Reads K H d x→Reads K H' d x
 | .int i,x,h=>by unfold Reads at h ⊢;exact h
 | .non,x,h=>by unfold Reads at h ⊢;exact h
 | .lst ds,x,h=>by unfold Reads at h ⊢;obtain⟨a,xs,r,hq,l⟩:=h;exact⟨a,xs,r,e.seq hq,aU.TF e ds xs l⟩
 | .tup ds,x,h=>by unfold Reads at h ⊢;obtain⟨a,xs,r,hq,l⟩:=h;exact⟨a,xs,r,e.tup hq,aU.TF e ds xs l⟩
theorem aU.TF{K:aF}{H H':Hp}(e:aU H H'):∀(ds:List DV)(xs:List V),eN K H ds xs→eN K H' ds xs
 | [],xs,h=>by unfold eN at h ⊢;exact h
 | d::ds,xs,h=>by unfold eN at h ⊢;obtain⟨y,ys,r,h1,h2⟩:=h;exact⟨y,ys,r,aU.reads e d y h1,aU.TF e ds ys h2⟩
end
theorem wU:∀ns:List Int,gQ (ns.map DV.int)=0
 | []=>by rw[J2];unfold gQ;rfl
 | n::ns=>by rw[D3];unfold gQ DV.depth;rw[wU ns];rfl
theorem GR{ns ms:List Int}:ns.map DV.int=ms.map DV.int↔ns=ms:=by
 constructor
 ·intro h;have:∀(a b:Int),DV.int a=DV.int b→a=b:=λa b e=>by cases e;rfl
  exact(List.map_inj_right this).mp h
 ·rintro rfl;rfl
theorem aI7{xs:List V}{k:Int}{v:V}(h0:0≤k)(h:xs[k.toNat]?=ND v):QZ xs k=ND v:=by
 have ek:k=((k.toNat:Nat):Int):=by omega
 rw[ek];exact aCL h
theorem aC4(z:Int)(ns:List Int):inV (.int z) (ns.map V.int)=decide (z∈ns):=by
 unfold inV;rw[M8,Q6,decide_eq_true_iff];constructor
 ·rintro⟨v,hv,e⟩
  obtain⟨m,hm,rfl⟩:=G4.mp hv;have:m=z:=by simpa[eqV]using e
  subst this;exact hm
 ·intro h;exact⟨.int z,G4.mpr ⟨z,h,U⟩,by simp[eqV]⟩
theorem pq(ns:List Int):(ns.map V.int).all zQ=NG:=by rw[M3];intro v hv;obtain⟨m,_,rfl⟩:=G4.mp hv;rfl
def mk(ns:List Int):List (Key×V):=ns.foldl (λkvs n=>putK kvs (F2 n) (V.bl NG)) []
theorem aC5(ns:List Int)(n:Int):mk (ns++[n])=putK (mk ns) (F2 n) (V.bl NG):=by unfold mk;rw[i4];rfl
theorem zW(ns:List Int):(mk ns).length≤ns.length:=by
 have h:∀(l:List Int),(mk l.reverse).length≤l.length:=by
  intro l
  induction l with
  | nil=>exact C6 _
  | cons a l ih=>rw[List.reverse_cons,aC5,E9];exact G2 (zT _ _ _) (W9 ih)
 have q:=h ns.reverse;rw[List.reverse_reverse,List.length_reverse]at q;exact q
end L2
namespace L2
theorem kO.at{scope:PySem.Scope}{N:List PySem.Str}{k:Nat}{fr:List Nat}(DG:PySem.Scope)(oN:List PySem.Str)(h:aj DG scope oN N k fr=NG):kO DG scope oN N k fr:=kO.of h
end L2
namespace L2
open PySem PySem.Spec PyProof.Rows
def yN(H:Hp)(p:A7):Prop:=(∀xs,H p≠ND (.tup xs))∧∀o xs,H p≠ND (.zA o (.tup xs))
theorem sJ{H:Hp}{p:A7}{xs:List V}(h:H p=ND (.lst xs)):yN H p:=⟨λys e=>(by rw[h]at e;cases e),λo ys e=>(by rw[h]at e;cases e)⟩
theorem Og{H:Hp}{p:A7}{kvs:List (Key×V)}(h:H p=ND (.dK kvs)):yN H p:=⟨λys e=>(by rw[h]at e;cases e),λo ys e=>(by rw[h]at e;cases e)⟩
theorem zO.upd{K:aF}{H:Hp}{a p:A7}{xs:List V}{o:HO}(h:zO K H a xs)(n:yN H p):zO K (upd H p o) a xs:=by
 rcases h with (h | ⟨u,h⟩) | h
 ·exact .inl (.inl (by rw[bQ (λz=>n.1 xs (by rw[←z];exact h))];exact h))
 ·exact .inl (.inr ⟨u,by rw[bQ (λz=>n.2 u xs (by rw[←z];exact h))];exact h⟩)
 ·exact .inr h
mutual
def jK:DV→Bool
 | .int _=>NG
 | .non=>NG
 | .lst _=>NH
 | .tup ds=>gY ds
def gY:List DV→Bool
 | []=>NG
 | d::ds=>jK d&&gY ds
end
mutual
theorem qe{K:aF}{H:Hp}{p:A7}{o:HO}(n:yN H p):∀(d:DV)(x:V),jK d=NG→Reads K H d x→Reads K (upd H p o) d x
 | .int i,x,_,h=>by unfold Reads at h ⊢;exact h
 | .non,x,_,h=>by unfold Reads at h ⊢;exact h
 | .lst ds,x,hi,h=>by unfold jK at hi;cases hi
 | .tup ds,x,hi,h=>by unfold jK at hi;unfold Reads at h ⊢;obtain⟨a,xs,r,hq,l⟩:=h;exact⟨a,xs,r,hq.upd n,Oh n ds xs hi l⟩
theorem Oh{K:aF}{H:Hp}{p:A7}{o:HO}(n:yN H p):∀(ds:List DV)(xs:List V),gY ds=NG→eN K H ds xs→eN K (upd H p o) ds xs
 | [],xs,_,h=>by unfold eN at h ⊢;exact h
 | d::ds,xs,hi,h=>by unfold gY at hi;rw[J7]at hi;unfold eN at h ⊢;obtain⟨y,ys,r,h1,h2⟩:=h;exact⟨y,ys,r,qe n d y hi.1 h1,Oh n ds ys hi.2 h2⟩
end
theorem Oi{n d:Nat}{k:Nat}:HT.Nt n d (ND (k:Int))=min k n:=HT.aCI n d k
end L2
namespace L2
open PySem PySem.Spec PyProof.Rows
section
variable{X:Cx}
end
end L2
namespace L2
open PySem PySem.Spec PyProof.Rows
end L2
namespace L2
open PySem PySem.Spec PyProof.Rows
section
variable{X:Cx}
end
theorem uZ:∀{l m:List Int},l.Pairwise (·<·)→m.Pairwise (·<·)→(∀j,j∈l↔j∈m)→l=m
  | [],[],_,_,_=>rfl
  | [],b::m,_,_,h=>absurd ((h b).mpr D4) (by simp)
  | a::l,[],_,_,h=>absurd ((h a).mp D4) (by simp)
  | a::l,b::m,h1,h2,h=>by
    obtain⟨h1a,h1b⟩:=J3.mp h1;obtain⟨h2a,h2b⟩:=J3.mp h2;have e:a=b:=by
      rcases C9.mp ((h a).mp D4)with q | q
      · exact q
      · rcases C9.mp ((h b).mpr D4)with q' | q'
        · exact q'.symm
        · have:=h2a a q
          have:=h1a b q';omega
    subst e;rw[uZ h1b h2b λj=>?_];constructor
    · intro hj
      rcases C9.mp ((h j).mp (C8 _ hj))with q | q
      · have:=h1a j hj
        omega
      · exact q
    · intro hj
      rcases C9.mp ((h j).mpr (C8 _ hj))with q | q
      · have:=h2a j hj
        omega
      · exact q
theorem GX{K:aF}:J4 K (.type "int") (.type "int")=ND NG:=by unfold J4;rfl
theorem Tc{K:aF}:J4 K (.type "bool") (.type "bool")=ND NG:=by unfold J4;rfl
theorem Td{K:aF}:J4 K (.type "list") (.type "list")=ND NG:=by unfold J4;rfl
theorem Lx{K:aF}:J4 K (.type "tuple") (.type "tuple")=ND NG:=by unfold J4;rfl
theorem Xx{K:aF}:J4 K (.type "int") (.type "bool")=ND NH:=by
  first | rfl | decide | (unfold J4 m8;rfl) | (unfold J4 m8;simp;decide)
end L2


namespace L2
open PySem PySem.Spec PyProof.Rows
section
variable{X:Cx}
def Ml(ns:List Int)(m:Int):Prop:=m∈ns∧∀a∈ns,m≤a
theorem Dh(ns:List Int):∀k,k<ns.length→argBest (λi j=>decide (ns.getD i 0<ns.getD j 0)) k≤k∧∀i,i≤k→ns.getD (argBest (λi j=>decide (ns.getD i 0<ns.getD j 0)) k) 0≤ns.getD i 0
 | 0,_=>⟨C6 _,λi hi=>by
  have:i=0:=by omega
  subst this;exact Y7 _⟩
 | k+1,h=>by
  obtain⟨h1,h2⟩:=Dh ns k (by omega);unfold argBest;split
  ·rename_i c;have c':=of_decide_eq_true c;refine⟨C6 _,λi hi=>?_⟩;rcases J8 i (k+1)with q | q
   ·have:=h2 i (by omega);omega
   ·have:i=k+1:=by omega
    subst this;exact Y7 _
  ·rename_i c;have c':=of_decide_eq_false (W0.mpr c);refine⟨by omega,λi hi=>?_⟩;rcases J8 i (k+1)with q | q
   ·exact h2 i (by omega)
   ·have:i=k+1:=by omega
    subst this;omega
theorem qg(hc:X.calm=NG):nF X (.builtin "min") (λxs H Q=>∃(p:A7)(ns:List Int),xs=[.ref p]∧pK X.K H p (ns.map V.int)∧0<ns.length∧∀m,Ml ns m→Q (.int m) H):=by
 intro pins s σ H xs us Q I r h;obtain⟨p,ns,rfl,hq,hpos,q⟩:=h;obtain⟨u,rfl,rx⟩:=vals1 r;cases rx;obtain⟨its,rv,pl,hz⟩:=I.list hq;have hl:=pl.isList;have hlen:=rv.length;rw[B7]at hlen;have hlt:p<s.heap.objs.size:=by obtain⟨_,e,_⟩:=hl;exact AJ e
 have item:∀(i:Nat)(v:A6),its.toArray[i]?=ND v→∃t,v=.int (ns.getD i 0) t∧i<ns.length:=λi v e=>by
  have e':its[i]?=ND v:=by simpa using e
  have hi:=(D1.mp e').1;obtain⟨u,eu,ru⟩:=rv.get (i:=i) (x:=.int (ns.getD i 0)) (by rw[B8,B9,B6 (by omega)];rfl);rw[e']at eu;cases eu;obtain⟨t,rfl⟩:=ru;exact⟨t,U,by omega⟩
 refine call_min_walk (DU hl ?_);refine⟨s.heap.objs.size,[s.heap.objs.size,p],[s.heap.objs.size],its.toArray.size,_,_,λi j=>decide (ns.getD i 0<ns.getD j 0),U,IU (A:=X.A.in1) (I.ok.hd hc) _ p (E5 hlt) _,
  ⟨⟨_,AK _ U,U,U⟩,hl.push _⟩,λb hb=>?_,by rw[C5];omega,λi j vi vj s' Q' E' hi hj hQ=>?_,λv h' tk hP hk=>?_⟩
 ·show b<(s.heap.push _).objs.size;rw[AX];rcases C9.mp hb with e | hb
  ·rw[e];exact M0 _
  ·rw[E3.mp hb];exact M7 hlt
 ·obtain⟨t1,rfl,_⟩:=item i vi hi;obtain⟨t2,rfl,_⟩:=item j vj hj;exact HT.aAe _ _ _ _ _ _ _ _ _ _ hQ
 ·obtain⟨t,rfl,hi⟩:=item _ v hP;rw[C5,←hlen]at hi ⊢;obtain⟨h1,h2⟩:=Dh ns (ns.length-1) (by omega);refine⟨.int _,H,I.kept (ak hk),⟨t,U⟩,q _ ⟨?_,λa ha=>?_⟩⟩
  ·rw[B9,B6 hi];exact O9 _
  ·obtain⟨i,hi',rfl⟩:=J6 ha;have:=h2 i (by omega);rw[show ns.getD i 0=ns[i]from by rw[B9,B6 hi'];rfl]at this;exact this
open SeqAt in
theorem aFH(hu:X.A.units+64<As):wM X (AS .NotEq) (λx y H Q=>∃ds es,Reads X.K H (.tup ds) x∧Reads X.K H (.tup es) y∧gQ ds≤32∧Q (.bl (!zV (.tup ds) (.tup es))) H):=by
 intro pins s σ H x y v u Q I rx ry h;obtain⟨ds,es,r1,r2,hd,q⟩:=h;unfold Reads at r1 r2;obtain⟨a,xs,rfl,hq1,ph⟩:=r1;obtain⟨b,ys,rfl,hq2,SX⟩:=r2;cases rx;cases ry;obtain⟨Oe,v1,Sy,_⟩:=I.tuple hq1;obtain⟨its2,v2,GQ,_⟩:=I.tuple hq2;have e1:Oe.toArray.size=ds.length:=by rw[C5,←v1.length,ph.length]
 have e2:its2.toArray.size=es.length:=by rw[C5,←v2.length,SX.length]
 have rc:RcNeAt X.A s (.ref a) (.ref b) (!zV (.tup ds) (.tup es)):=by
  have z:=RcNeAt.tuples (A:=X.A) (s:=s) (l:=a) (b:=b) Sy GQ (by omega) (Od I 32 X.A (λd e x y u v A a1 a2 a3 a4 a5 a6=>Xw I 32 d e x y u v A a1 a2 a3 a4 a5 a6) ds es xs ys Oe its2 hd (by omega) ph SX v1 v2);rw[e1,e2]at z;by_cases hl:ds.length=es.length
  ·rw[←hl,d9,pX hl]at z;rw[aq];simpa using z
  ·rw[jZ (by intro z;cases z;exact hl U)];have zz:(ds.length==es.length)=NH:=by simpa using hl
   rw[zz,m7]at z;exact z
 exact rc X.prog X.w X.xe _ ⟨.bl _,H,I,U,q⟩
end
end L2


namespace L2
open PySem PySem.Spec PyProof.Rows
inductive D where
  | non | bl (b:Bool) | int (i:Int) | str (x:Str)
  | lst (ds:List D) | tup (ds:List D)
  | dk (ks:List Key) (ds:List D)
  | dt (ks:List (List Key)) (ds:List D)
  | ins (C:A7) (nm:List Str) (ds:List D)
abbrev Fp:=A7→Prop
def Apart(A B:Fp):Prop:=∀x,A x→¬B x
def Is(A B:Fp):Prop:=∀x,A x↔B x
def None(A:Fp):Prop:=∀x,¬A x
abbrev fK(A B:Fp):Fp:=λx=>A x∨B x
mutual
def Rv(K:aF)(H:Hp):D→V→Prop
 | .non,v=>v=.non
 | .bl b,v=>v=.bl b
 | .int i,v=>v=.int i
 | .str x,v=>v=.str x
 | .lst ds,v=>∃a xs,v=.ref a∧pK K H a xs∧eY K H ds xs
 | .tup ds,v=>∃a xs,v=.ref a∧zO K H a xs∧eY K H ds xs
 | .dk ks ds,v=>∃a xs,v=.ref a∧Rd H a (.dK (ks.zip xs))∧ks.length=xs.length∧eY K H ds xs
 | .dt ks ds,v=>∃a xs,v=.ref a∧Rd H a (.dT (ks.zip xs))∧ks.length=xs.length∧eY K H ds xs
 | .ins C nm ds,v=>∃a dx xs,v=.ref a∧H a=ND (.ins C dx (nm.zip xs))∧nm.length=xs.length∧eY K H ds xs
def eY(K:aF)(H:Hp):List D→List V→Prop
 | [],xs=>xs=[]
 | d::ds,xs=>∃y ys,xs=y::ys∧Rv K H d y∧eY K H ds ys
end
theorem aU.rd{H H':Hp}(e:aU H H'){a:A7}{u:HO}(h:Rd H a u):Rd H' a u:=by
 rcases h with h | ⟨o,h⟩
 ·exact .inl (e _ _ h)
 ·exact .inr ⟨o,e _ _ h⟩
mutual
theorem aU.rv{K:aF}{H H':Hp}(e:aU H H'):∀(d:D)(v:V),Rv K H d v→Rv K H' d v
 | .non,v,h=>by unfold Rv at h ⊢;exact h
 | .bl _,v,h=>by unfold Rv at h ⊢;exact h
 | .int _,v,h=>by unfold Rv at h ⊢;exact h
 | .str _,v,h=>by unfold Rv at h ⊢;exact h
 | .lst ds,v,h=>by unfold Rv at h ⊢;obtain⟨a,xs,r,hq,l⟩:=h;exact⟨a,xs,r,e.seq hq,aU.TJ e ds xs l⟩
 | .tup ds,v,h=>by unfold Rv at h ⊢;obtain⟨a,xs,r,hq,l⟩:=h;exact⟨a,xs,r,e.tup hq,aU.TJ e ds xs l⟩
 | .dk ks ds,v,h=>by unfold Rv at h ⊢;obtain⟨a,xs,r,hq,hl,l⟩:=h;exact⟨a,xs,r,e.rd hq,hl,aU.TJ e ds xs l⟩
 | .dt ks ds,v,h=>by unfold Rv at h ⊢;obtain⟨a,xs,r,hq,hl,l⟩:=h;exact⟨a,xs,r,e.rd hq,hl,aU.TJ e ds xs l⟩
 | .ins C nm ds,v,h=>by unfold Rv at h ⊢;obtain⟨a,dx,xs,r,hq,hl,l⟩:=h;exact⟨a,dx,xs,r,e _ _ hq,hl,aU.TJ e ds xs l⟩
theorem aU.TJ{K:aF}{H H':Hp}(e:aU H H'):∀(ds:List D)(xs:List V),eY K H ds xs→eY K H' ds xs
 | [],xs,h=>by unfold eY at h ⊢;exact h
 | d::ds,xs,h=>by unfold eY at h ⊢;obtain⟨y,ys,r,h1,h2⟩:=h;exact⟨y,ys,r,aU.rv e d y h1,aU.TJ e ds ys h2⟩
end
theorem eY.length{K:aF}{H:Hp}:∀{ds:List D} {xs:List V},eY K H ds xs→xs.length=ds.length
 | [],xs,h=>by unfold eY at h;subst h;rfl
 | d::ds,xs,h=>by unfold eY at h;obtain⟨y,ys,rfl,_,h2⟩:=h;rw[E9,E9,eY.length h2]
theorem eY.get{K:aF}{H:Hp}:∀{ds:List D} {xs:List V} {i:Nat} {d:D},eY K H ds xs→ds[i]?=ND d→∃x,xs[i]?=ND x∧Rv K H d x
 | [],xs,i,d,h,e=>by simp at e
 | d'::ds,xs,0,d,h,e=>by unfold eY at h;obtain⟨y,ys,rfl,h1,_⟩:=h;simp at e;subst e;exact⟨y,rfl,h1⟩
 | d'::ds,xs,i+1,d,h,e=>by unfold eY at h;obtain⟨y,ys,rfl,_,h2⟩:=h;obtain⟨x,e1,e2⟩:=eY.get (i:=i) (d:=d) h2 (by simpa using e);exact⟨x,by simpa using e1,e2⟩
theorem eY.of{K:aF}{H:Hp}:∀{ds:List D} {xs:List V},xs.length=ds.length→(∀(i:Nat)(d:D)(x:V),ds[i]?=ND d→xs[i]?=ND x→Rv K H d x)→eY K H ds xs
 | [],xs,hl,_=>by unfold eY;exact L9 hl
 | d::ds,[],hl,_=>by simp at hl
 | d::ds,x::xs,hl,h=>by unfold eY;exact⟨x,xs,U,h 0 d x U U,eY.of (by simpa using hl) λi e y h1 h2=>h (i+1) e y (by simpa using h1) (by simpa using h2)⟩
def eU{α β:Type}(R:α→Fp→β→Prop):List α→Fp→List β→Prop
 | [],A,ys=>None A∧ys=[]
 | d::ds,A,ys=>∃y yt A1 A2,ys=y::yt∧Apart A1 A2∧Is A (fK A1 A2)∧R d A1 y∧eU R ds A2 yt
section
variable{α β:Type}{R R':α→Fp→β→Prop}
theorem eU.congr:∀{ds:List α} {A A':Fp} {ys:List β},eU R ds A ys→Is A A'→eU R ds A' ys
 | [],A,A',ys,h,e=>⟨λx q=>h.1 x ((e x).mpr q),h.2⟩
 | d::ds,A,A',ys,⟨y,yt,A1,A2,h1,h2,h3,h4⟩,e=>⟨y,yt,A1,A2,h1,h2,λx=>((e x).symm).trans (h3 x),h4⟩
theorem eU.mono:∀{ds:List α} {A:Fp} {ys:List β},eU R ds A ys→(∀e B z,(∀x,B x→A x)→R e B z→R' e B z)→eU R' ds A ys
 | [],A,ys,h,_=>h
 | d::ds,A,ys,⟨y,yt,A1,A2,h1,h2,h3,h4,h5⟩,m=>
  ⟨y,yt,A1,A2,h1,h2,h3,m _ _ _ (λx q=>(h3 x).mpr (.inl q)) h4,h5.mono λe B z hb=>m e B z λx q=>(h3 x).mpr (.inr (hb x q))⟩
theorem eU.len:∀{ds:List α} {A:Fp} {ys:List β},eU R ds A ys→ys.length=ds.length
 | [],A,ys,h=>by rw[h.2];rfl
 | d::ds,A,ys,⟨y,yt,A1,A2,h1,h2,h3,h4,h5⟩=>by rw[h1,E9,E9,h5.len]
theorem eU.focus:∀{ds:List α} {A:Fp} {ys:List β} {i:Nat} {d:α},eU R ds A ys→ds[i]?=ND d→∃y A1 C,ys[i]?=ND y∧Apart A1 C∧Is A (fK A1 C)∧R d A1 y ∧
    ∀(R':α→Fp→β→Prop),(∀e B z,(∀x,B x→C x)→R e B z→R' e B z)→∀d' y' HD,Apart HD C→R' d' HD y'→eU R' (ds.set i d') (fK HD C) (ys.set i y')
  | [],A,ys,i,d,h,e=>by simp at e
  | d0::ds,A,ys,0,d,⟨y,yt,A1,A2,h1,h2,h3,h4,h5⟩,e=>by simp at e;subst e h1;exact⟨y,A1,A2,U,h2,h3,h4,λR' m d' y' HD ap r=>⟨y',yt,HD,A2,U,ap,λx=>Iff.rfl,r,h5.mono m⟩⟩
  | d0::ds,A,ys,i+1,d,⟨y,yt,A1,A2,h1,h2,h3,h4,h5⟩,e=>by
    subst h1;obtain⟨z,B1,C,e1,ap,hA,r,k⟩:=eU.focus (i:=i) (d:=d) h5 (by simpa using e);refine⟨z,B1,fK A1 C,by simpa using e1,?_,?_,r,λR' m d' y' HD ap' r'=>?_⟩
    · intro x hx hc
      rcases hc with hc | hc
      · exact h2 x hc ((hA x).mpr (.inl hx))
      · exact ap x hx hc
    · intro x
      rw[h3 x];constructor
      · rintro(q | q)
        · exact .inr (.inl q)
        · rcases(hA x).mp q with q | q
          · exact .inl q
          · exact .inr (.inr q)
      · rintro(q | q | q)
        · exact .inr ((hA x).mpr (.inl q))
        · exact .inl q
        · exact .inr ((hA x).mpr (.inr q))
    · refine⟨y,_,A1,fK HD C,U,?_,?_,m _ _ _ (λx q=>.inl q) h4,k R' (λe B z hb=>m e B z λx q=>.inr (hb x q)) d' y' HD (λx q q'=>ap' x q (.inr q')) r'⟩
      · intro x q q'
        rcases q' with q' | q'
        · exact ap' x q' (.inl q)
        · exact h2 x q ((hA x).mpr (.inr q'))
      · intro x
        show (HD x∨A1 x∨C x)↔(A1 x∨HD x∨C x)
        constructor
        · rintro(q | q | q)
          · exact .inr (.inl q)
          · exact .inl q
          · exact .inr (.inr q)
        · rintro(q | q | q)
          · exact .inr (.inl q)
          · exact .inl q
          · exact .inr (.inr q)
theorem eU.snoc:∀{ds:List α} {A A1:Fp} {ys:List β} {d:α} {y:β},eU R ds A ys→R d A1 y→Apart A A1→eU R (ds++[d]) (fK A A1) (ys++[y])
 | [],A,A1,ys,d,y,h,r,ap=>by rw[h.2];exact⟨y,[],A1,λ_=>False,U,λ_ _ z=>z,λx=>⟨λq=>q.elim (λq=>absurd q (h.1 x)) .inl,λq=>q.elim .inr False.elim⟩,r,λ_ z=>z,U⟩
 | d0::ds,A,A1,ys,d,y,⟨y0,yt,B1,B2,h1,h2,h3,h4,h5⟩,r,ap=>by
  subst h1;refine⟨y0,yt++[y],B1,fK B2 A1,U,?_,?_,h4,eU.snoc h5 r λx q=>ap x ((h3 x).mpr (.inr q))⟩
  ·intro x q q';rcases q' with q' | q'
   ·exact h2 x q q'
   ·exact ap x ((h3 x).mpr (.inl q)) q'
  ·intro x;show (A x∨A1 x)↔(B1 x∨B2 x∨A1 x)
   rw[h3 x];exact or_assoc
end
mutual
def Ow(K:aF)(H:Hp):D→Fp→V→Prop
 | .non,A,v=>None A∧v=.non
 | .bl b,A,v=>None A∧v=.bl b
 | .int i,A,v=>None A∧v=.int i
 | .str x,A,v=>None A∧v=.str x
 | .lst ds,A,v=>∃a xs B,v=.ref a∧H a=ND (.lst xs)∧¬B a∧Is A (fK (·=a) B)∧dX K H ds B xs
 | .tup ds,A,v=>∃a xs,v=.ref a∧zO K H a xs∧dX K H ds A xs
 | .dk ks ds,A,v=>∃a xs B,v=.ref a∧H a=ND (.dK (ks.zip xs))∧ks.length=xs.length∧¬B a∧Is A (fK (·=a) B)∧dX K H ds B xs
 | .dt ks ds,A,v=>∃a xs B,v=.ref a∧H a=ND (.dT (ks.zip xs))∧ks.length=xs.length∧¬B a∧Is A (fK (·=a) B)∧dX K H ds B xs
 | .ins C nm ds,A,v=>∃a dx xs B,v=.ref a∧H a=ND (.ins C dx (nm.zip xs))∧H dx=ND (.own a)∧nm.length=xs.length∧¬B a∧¬B dx∧Is A (fK (λx=>x=a∨x=dx) B)∧dX K H ds B xs
def dX(K:aF)(H:Hp):List D→Fp→List V→Prop
 | [],A,ys=>None A∧ys=[]
 | d::ds,A,ys=>∃y yt A1 A2,ys=y::yt∧Apart A1 A2∧Is A (fK A1 A2)∧Ow K H d A1 y∧dX K H ds A2 yt
end
theorem cG{K:aF}{H:Hp}:∀{ds:List D} {A:Fp} {ys:List V},dX K H ds A ys↔eU (Ow K H) ds A ys
 | [],A,ys=>by unfold dX eU;exact Iff.rfl
 | d::ds,A,ys=>by
  unfold dX eU;constructor
  ·rintro⟨y,yt,A1,A2,h1,h2,h3,h4,h5⟩;exact⟨y,yt,A1,A2,h1,h2,h3,h4,cG.mp h5⟩
  ·rintro⟨y,yt,A1,A2,h1,h2,h3,h4,h5⟩;exact⟨y,yt,A1,A2,h1,h2,h3,h4,cG.mpr h5⟩
def vP(K:aF)(H H':Hp):Prop:=∀a xs,zO K H a xs→zO K H' a xs
theorem aU.tk{K:aF}{H H':Hp}(e:aU H H'):vP K H H':=λ_ _ h=>e.tup h
theorem Ow.congr{K:aF}{H:Hp}{d:D}{A A':Fp}{v:V}(h:Ow K H d A v)(e:Is A A'):Ow K H d A' v:=by
 cases d with
 | non=>unfold Ow at h ⊢;exact⟨λx q=>h.1 x ((e x).mpr q),h.2⟩
 | bl b=>unfold Ow at h ⊢;exact⟨λx q=>h.1 x ((e x).mpr q),h.2⟩
 | int b=>unfold Ow at h ⊢;exact⟨λx q=>h.1 x ((e x).mpr q),h.2⟩
 | str b=>unfold Ow at h ⊢;exact⟨λx q=>h.1 x ((e x).mpr q),h.2⟩
 | lst ds=>unfold Ow at h ⊢;obtain⟨a,xs,B,h1,h2,h3,h4,h5⟩:=h;exact⟨a,xs,B,h1,h2,h3,λx=>(e x).symm.trans (h4 x),h5⟩
 | tup ds=>unfold Ow at h ⊢;obtain⟨a,xs,h1,h2,h3⟩:=h;exact⟨a,xs,h1,h2,cG.mpr ((cG.mp h3).congr e)⟩
 | dk ks ds=>unfold Ow at h ⊢;obtain⟨a,xs,B,h1,h2,h2',h3,h4,h5⟩:=h;exact⟨a,xs,B,h1,h2,h2',h3,λx=>(e x).symm.trans (h4 x),h5⟩
 | dt ks ds=>unfold Ow at h ⊢;obtain⟨a,xs,B,h1,h2,h2',h3,h4,h5⟩:=h;exact⟨a,xs,B,h1,h2,h2',h3,λx=>(e x).symm.trans (h4 x),h5⟩
 | ins C nm ds=>unfold Ow at h ⊢;obtain⟨a,dx,xs,B,h1,h2,h2',h3,h3',h3'',h4,h5⟩:=h;exact⟨a,dx,xs,B,h1,h2,h2',h3,h3',h3'',λx=>(e x).symm.trans (h4 x),h5⟩
mutual
theorem Ow.frame{K:aF}{H H':Hp}(t:vP K H H'):∀(d:D)(A:Fp)(v:V),Ow K H d A v→(∀a,A a→H' a=H a)→Ow K H' d A v
 | .non,A,v,h,f=>by unfold Ow at h ⊢;exact h
 | .bl _,A,v,h,f=>by unfold Ow at h ⊢;exact h
 | .int _,A,v,h,f=>by unfold Ow at h ⊢;exact h
 | .str _,A,v,h,f=>by unfold Ow at h ⊢;exact h
 | .lst ds,A,v,h,f=>by unfold Ow at h ⊢;obtain⟨a,xs,B,h1,h2,h3,h4,h5⟩:=h;exact⟨a,xs,B,h1,(f a ((h4 a).mpr (.inl U))).trans h2,h3,h4,dX.frame t ds B xs h5 λb q=>f b ((h4 b).mpr (.inr q))⟩
 | .tup ds,A,v,h,f=>by unfold Ow at h ⊢;obtain⟨a,xs,h1,h2,h3⟩:=h;exact⟨a,xs,h1,t _ _ h2,dX.frame t ds A xs h3 f⟩
 | .dk ks ds,A,v,h,f=>by unfold Ow at h ⊢;obtain⟨a,xs,B,h1,h2,h2',h3,h4,h5⟩:=h;exact⟨a,xs,B,h1,(f a ((h4 a).mpr (.inl U))).trans h2,h2',h3,h4,dX.frame t ds B xs h5 λb q=>f b ((h4 b).mpr (.inr q))⟩
 | .dt ks ds,A,v,h,f=>by unfold Ow at h ⊢;obtain⟨a,xs,B,h1,h2,h2',h3,h4,h5⟩:=h;exact⟨a,xs,B,h1,(f a ((h4 a).mpr (.inl U))).trans h2,h2',h3,h4,dX.frame t ds B xs h5 λb q=>f b ((h4 b).mpr (.inr q))⟩
 | .ins C nm ds,A,v,h,f=>by unfold Ow at h ⊢;obtain⟨a,dx,xs,B,h1,h2,h2',h3,h3',h3'',h4,h5⟩:=h;exact⟨a,dx,xs,B,h1,(f a ((h4 a).mpr (.inl (.inl U)))).trans h2,(f dx ((h4 dx).mpr (.inl (.inr U)))).trans h2',h3,h3',h3'',h4,dX.frame t ds B xs h5 λb q=>f b ((h4 b).mpr (.inr q))⟩
theorem dX.frame{K:aF}{H H':Hp}(t:vP K H H'):∀(ds:List D)(A:Fp)(ys:List V),dX K H ds A ys→(∀a,A a→H' a=H a)→dX K H' ds A ys
 | [],A,ys,h,f=>by unfold dX at h ⊢;exact h
 | d::ds,A,ys,h,f=>by unfold dX at h ⊢;obtain⟨y,yt,A1,A2,h1,h2,h3,h4,h5⟩:=h;exact⟨y,yt,A1,A2,h1,h2,h3,Ow.frame t d A1 y h4 λb q=>f b ((h3 b).mpr (.inl q)),dX.frame t ds A2 yt h5 λb q=>f b ((h3 b).mpr (.inr q))⟩
end
mutual
theorem Ow.rv{K:aF}{H:Hp}:∀(d:D)(A:Fp)(v:V),Ow K H d A v→Rv K H d v
 | .non,A,v,h=>by unfold Ow at h;unfold Rv;exact h.2
 | .bl _,A,v,h=>by unfold Ow at h;unfold Rv;exact h.2
 | .int _,A,v,h=>by unfold Ow at h;unfold Rv;exact h.2
 | .str _,A,v,h=>by unfold Ow at h;unfold Rv;exact h.2
 | .lst ds,A,v,h=>by unfold Ow at h;unfold Rv;obtain⟨a,xs,B,h1,h2,h3,h4,h5⟩:=h;exact⟨a,xs,h1,pK.of h2,dX.rv ds B xs h5⟩
 | .tup ds,A,v,h=>by unfold Ow at h;unfold Rv;obtain⟨a,xs,h1,h2,h3⟩:=h;exact⟨a,xs,h1,h2,dX.rv ds A xs h3⟩
 | .dk ks ds,A,v,h=>by unfold Ow at h;unfold Rv;obtain⟨a,xs,B,h1,h2,h2',h3,h4,h5⟩:=h;exact⟨a,xs,h1,.inl h2,h2',dX.rv ds B xs h5⟩
 | .dt ks ds,A,v,h=>by unfold Ow at h;unfold Rv;obtain⟨a,xs,B,h1,h2,h2',h3,h4,h5⟩:=h;exact⟨a,xs,h1,.inl h2,h2',dX.rv ds B xs h5⟩
 | .ins C nm ds,A,v,h=>by unfold Ow at h;unfold Rv;obtain⟨a,dx,xs,B,h1,h2,h2',h3,h3',h3'',h4,h5⟩:=h;exact⟨a,dx,xs,h1,h2,h3,dX.rv ds B xs h5⟩
theorem dX.rv{K:aF}{H:Hp}:∀(ds:List D)(A:Fp)(ys:List V),dX K H ds A ys→eY K H ds ys
 | [],A,ys,h=>by unfold dX at h;unfold eY;exact h.2
 | d::ds,A,ys,h=>by unfold dX at h;unfold eY;obtain⟨y,yt,A1,A2,h1,h2,h3,h4,h5⟩:=h;exact⟨y,yt,h1,Ow.rv d A1 y h4,dX.rv ds A2 yt h5⟩
end
def lO(H:Hp)(a:A7):Prop:=(∃o,H a=ND o)∧yN H a
mutual
theorem Ow.cells{K:aF}{H:Hp}:∀(d:D)(A:Fp)(v:V),Ow K H d A v→∀a,A a→lO H a
 | .non,A,v,h,a,q=>by unfold Ow at h;exact absurd q (h.1 a)
 | .bl _,A,v,h,a,q=>by unfold Ow at h;exact absurd q (h.1 a)
 | .int _,A,v,h,a,q=>by unfold Ow at h;exact absurd q (h.1 a)
 | .str _,A,v,h,a,q=>by unfold Ow at h;exact absurd q (h.1 a)
 | .lst ds,A,v,h,a,q=>by
  unfold Ow at h;obtain⟨p,xs,B,h1,h2,h3,h4,h5⟩:=h
  rcases(h4 a).mp q with z | z
  ·cases z;exact⟨⟨_,h2⟩,sJ h2⟩
  ·exact dX.cells ds B xs h5 a z
 | .tup ds,A,v,h,a,q=>by unfold Ow at h;obtain⟨p,xs,h1,h2,h3⟩:=h;exact dX.cells ds A xs h3 a q
 | .dk ks ds,A,v,h,a,q=>by
  unfold Ow at h;obtain⟨p,xs,B,h1,h2,h2',h3,h4,h5⟩:=h
  rcases(h4 a).mp q with z | z
  ·cases z;exact⟨⟨_,h2⟩,Og h2⟩
  ·exact dX.cells ds B xs h5 a z
 | .dt ks ds,A,v,h,a,q=>by
  unfold Ow at h;obtain⟨p,xs,B,h1,h2,h2',h3,h4,h5⟩:=h
  rcases(h4 a).mp q with z | z
  ·cases z;exact⟨⟨_,h2⟩,λys e=>(by rw[h2]at e;cases e),λo ys e=>(by rw[h2]at e;cases e)⟩
  ·exact dX.cells ds B xs h5 a z
 | .ins C nm ds,A,v,h,a,q=>by
  unfold Ow at h;obtain⟨p,dx,xs,B,h1,h2,h2',h3,h3',h3'',h4,h5⟩:=h
  rcases(h4 a).mp q with (z | z) | z
  ·cases z;exact⟨⟨_,h2⟩,λys e=>(by rw[h2]at e;cases e),λo ys e=>(by rw[h2]at e;cases e)⟩
  ·cases z;exact⟨⟨_,h2'⟩,λys e=>(by rw[h2']at e;cases e),λo ys e=>(by rw[h2']at e;cases e)⟩
  ·exact dX.cells ds B xs h5 a z
theorem dX.cells{K:aF}{H:Hp}:∀(ds:List D)(A:Fp)(ys:List V),dX K H ds A ys→∀a,A a→lO H a
 | [],A,ys,h,a,q=>by unfold dX at h;exact absurd q (h.1 a)
 | d::ds,A,ys,h,a,q=>by
  unfold dX at h;obtain⟨y,yt,A1,A2,h1,h2,h3,h4,h5⟩:=h
  rcases(h3 a).mp q with z | z
  ·exact Ow.cells d A1 y h4 a z
  ·exact dX.cells ds A2 yt h5 a z
end
mutual
def D.jK:D→Bool
  | .non=>NG | .bl _=>NG | .int _=>NG | .str _=>NG
  | .tup ds=>D.gY ds
  | _=>NH
def D.gY:List D→Bool
  | []=>NG
  | d::ds=>D.jK d&&D.gY ds
end
abbrev nil:Fp:=λ_=>False
mutual
theorem zX{K:aF}{H:Hp}:∀(d:D)(v:V),d.jK=NG→Rv K H d v→Ow K H d nil v
 | .non,v,_,h=>by unfold Rv at h;unfold Ow;exact⟨λ_ z=>z,h⟩
 | .bl _,v,_,h=>by unfold Rv at h;unfold Ow;exact⟨λ_ z=>z,h⟩
 | .int _,v,_,h=>by unfold Rv at h;unfold Ow;exact⟨λ_ z=>z,h⟩
 | .str _,v,_,h=>by unfold Rv at h;unfold Ow;exact⟨λ_ z=>z,h⟩
 | .tup ds,v,i,h=>by unfold D.jK at i;unfold Rv at h;unfold Ow;obtain⟨a,xs,h1,h2,h3⟩:=h;exact⟨a,xs,h1,h2,Fz ds xs i h3⟩
 | .lst ds,v,i,h=>by unfold D.jK at i;cases i
 | .dk _ ds,v,i,h=>by unfold D.jK at i;cases i
 | .dt _ ds,v,i,h=>by unfold D.jK at i;cases i
 | .ins _ _ ds,v,i,h=>by unfold D.jK at i;cases i
theorem Fz{K:aF}{H:Hp}:∀(ds:List D)(ys:List V),D.gY ds=NG→eY K H ds ys→dX K H ds nil ys
 | [],ys,_,h=>by unfold eY at h;unfold dX;exact⟨λ_ z=>z,h⟩
 | d::ds,ys,i,h=>by unfold D.gY at i;rw[J7]at i;unfold eY at h;unfold dX;obtain⟨y,yt,h1,h2,h3⟩:=h;exact⟨y,yt,nil,nil,h1,λ_ z _=>z,λx=>⟨False.elim,λz=>z.elim id id⟩,zX d y i.1 h2,Fz ds yt i.2 h3⟩
end
open Classical in
noncomputable def out(H:Hp)(A:Fp):Hp:=λa=>if A a then none else H a
theorem Xy{H:Hp}{A:Fp}{a:A7}(h:¬A a):out H A a=H a:=by unfold out;rw[if_neg h]
theorem bA{H:Hp}{A:Fp}{a:A7}{o:HO}:out H A a=ND o↔¬A a∧H a=ND o:=by
 unfold out;split
 ·rename_i h;exact⟨λz=>(by cases z),λz=>absurd h z.1⟩
 ·rename_i h;exact⟨λz=>⟨h,z⟩,λz=>z.2⟩
theorem kW(H:Hp)(A:Fp):aU (out H A) H:=λb o h=>(bA.mp h).2
theorem Oj{K:aF}{H:Hp}{A:Fp}(h:∀a,A a→yN H a):vP K H (out H A):=λa xs q=>by
 rcases q with (q | ⟨o,q⟩) | q
 ·exact .inl (.inl (bA.mpr ⟨λz=>(h a z).1 _ q,q⟩))
 ·exact .inl (.inr ⟨o,bA.mpr ⟨λz=>(h a z).2 _ _ q,q⟩⟩)
 ·exact .inr q
theorem Ow.out{K:aF}{H:Hp}{d:D}{A A':Fp}{v:V}(h:Ow K H d A' v)(ap:Apart A' A)(c:∀a,A a→yN H a):Rv K (out H A) d v:=
 Ow.rv d A' v (Ow.frame (Oj c) d A' v h λa q=>Xy (ap a q))
end L2


namespace L2
open PySem PySem.Spec PyProof.Rows
abbrev DE:=List (Option D)
abbrev FE:=DE→Option D
abbrev FA:=DE→Option (List D)
abbrev FT:=DE→Option Bool
def yO(K:aF)(H:Hp)(e:DE)(σ:St):Prop:=∀(i:Nat)(d:D),e[i]?=ND (ND d)→∃v,σ[i]?=ND (ND v)∧Rv K H d v
theorem yO.same{K:aF}{H H':Hp}{e:DE}{σ:St}(h:yO K H e σ)(s:aU H H'):yO K H' e σ:=λi d q=>let ⟨v,h1,h2⟩:=h i d q;⟨v,h1,s.rv _ _ h2⟩
structure Zn(K:aF)(N:Fp)(Z H:Hp):Prop where
 sm:aU Z H
 tk:vP K H Z
 no:∀a,N a→Z a=none∧¬H a=none
theorem Zn.self(K:aF)(H:Hp):Zn K nil H H:=⟨aU.refl _,λ_ _ h=>h,λ_ z=>z.elim⟩
theorem vP.trans{K:aF}{H H1 H2:Hp}(a:vP K H H1)(b:vP K H1 H2):vP K H H2:=λp xs h=>b p xs (a p xs h)
theorem Ow.same{K:aF}{H H':Hp}{d:D}{A:Fp}{v:V}(h:Ow K H d A v)(s:aU H H'):Ow K H' d A v:=
 Ow.frame s.tk d A v h λa q=>by obtain⟨⟨o,e⟩,_⟩:=Ow.cells d A v h a q;rw[e];exact s a o e
theorem dX.same{K:aF}{H H':Hp}{ds:List D}{A:Fp}{vs:List V}(h:dX K H ds A vs)(s:aU H H'):dX K H' ds A vs:=
 dX.frame s.tk ds A vs h λa q=>by obtain⟨⟨o,e⟩,_⟩:=dX.cells ds A vs h a q;rw[e];exact s a o e
def Mm(K:aF)(H H':Hp)(d:D)(v:V):Prop:=∃A,Ow K H' d A v∧∀a,A a→H a=none
def Te(K:aF)(H H':Hp)(ds:List D)(vs:List V):Prop:=∃A,dX K H' ds A vs∧∀a,A a→H a=none
theorem Mm.rv{K:aF}{H H':Hp}{d:D}{v:V}(h:Mm K H H' d v):Rv K H' d v:=let ⟨A,o,_⟩:=h;Ow.rv d A v o
theorem Te.rv{K:aF}{H H':Hp}{ds:List D}{vs:List V}(h:Te K H H' ds vs):eY K H' ds vs:=let ⟨A,o,_⟩:=h;dX.rv ds A vs o
theorem Mm.same{K:aF}{H H' H2:Hp}{d:D}{v:V}(h:Mm K H H' d v)(s:aU H' H2):Mm K H H2 d v:=let ⟨A,o,f⟩:=h;⟨A,o.same s,f⟩
theorem Mm.back{K:aF}{H0 H H':Hp}{d:D}{v:V}(h:Mm K H H' d v)(s:aU H0 H):Mm K H0 H' d v:=let ⟨A,o,f⟩:=h;⟨A,o,λa q=>s.free (f a q)⟩
theorem Mm.jK{K:aF}{H H':Hp}{d:D}{v:V}(i:d.jK=NG)(h:Rv K H' d v):Mm K H H' d v:=⟨nil,zX d v i h,λ_ z=>z.elim⟩
theorem Te.gY{K:aF}{H H':Hp}{ds:List D}{vs:List V}(i:D.gY ds=NG)(h:eY K H' ds vs):Te K H H' ds vs:=⟨nil,Fz ds vs i h,λ_ z=>z.elim⟩
open Classical in
noncomputable def Xz(Z H H':Hp):Hp:=λa=>if H a=none then H' a else Z a
theorem Ga{Z H H':Hp}{a:A7}(h:H a=none):Xz Z H H' a=H' a:=by unfold Xz;rw[if_pos h]
theorem Ol{Z H H':Hp}{a:A7}(h:¬H a=none):Xz Z H H' a=Z a:=by unfold Xz;rw[if_neg h]
theorem Iw{K:aF}{N:Fp}{Z H H':Hp}(z:Zn K N Z H):aU Z (Xz Z H H'):=λb o e=>by rw[Ol (by rw[z.sm b o e];intro q;cases q)];exact e
theorem Yb{K:aF}{N:Fp}{Z H H':Hp}(z:Zn K N Z H)(s:aU H H'):Zn K N (Xz Z H H') H' where
  sm:=λb o e=>by
    by_cases c:H b=none
    · rw[Ga c]at e;exact e
    · rw[Ol c]at e;exact s b o (z.sm b o e)
  tk:=λa xs h=>by
    by_cases c:H a=none
    · rcases h with (h | ⟨o,h⟩) | h
      · exact .inl (.inl (by rw[Ga c];exact h))
      · exact .inl (.inr ⟨o,by rw[Ga c];exact h⟩)
      · exact .inr h
    · have q:zO K H a xs:=by
        rcases h with (h | ⟨o,h⟩) | h
        · cases e:H a with
          | none=>exact absurd e c
          | some o=>have:=s a o e;rw[h]at this;cases this;exact .inl (.inl e)
        · cases e:H a with
          | none=>exact absurd e c
          | some o=>have:=s a o e;rw[h]at this;cases this;exact .inl (.inr ⟨_,e⟩)
        · exact .inr h
      exact(Iw z).tup (z.tk a xs q)
  no:=λa q=>⟨by rw[Ol (z.no a q).2];exact(z.no a q).1,λh=>(z.no a q).2 (s.free h)⟩
theorem Mm.zone{K:aF}{N:Fp}{Z H H':Hp}{d:D}{v:V}(h:Mm K H H' d v)(z:Zn K N Z H)(s:aU H H'):Rv K (Xz Z H H') d v:=by obtain⟨A,o,f⟩:=h;exact Ow.rv d A v (Ow.frame (Yb z s).tk d A v o λa q=>Ga (f a q))
def Iz(K:aF)(t:TE)(f:FE):Prop:=∀{N:Fp}(σ:St)(H Z:Hp)(e:DE)(d:D)(Q:VK),Zn K N Z H→yO K Z e σ→f e=ND d →
 (∀v H' Z',aU H H'→aU Z Z'→Zn K N Z' H'→Rv K Z' d v→Q v H')→t σ H Q
def Sg(K:aF)(t:TE)(f:FE):Prop:=∀(σ:St)(H:Hp)(e:DE)(d:D)(Q:VK),yO K H e σ→f e=ND d →
 (∀v H',aU H H'→Mm K H H' d v→Q v H')→t σ H Q
def TQ(K:aF)(t:TT)(f:FT):Prop:=∀(σ:St)(H:Hp)(e:DE)(b:Bool)(Q:Bool→Hp→Prop),yO K H e σ→f e=ND b→(∀H',aU H H'→Q b H')→t σ H Q
def EvA(K:aF)(t:TA)(f:FA):Prop:=∀{N:Fp}(σ:St)(H Z:Hp)(e:DE)(ds:List D)(Q:List V→Hp→Prop),Zn K N Z H→yO K Z e σ→f e=ND ds →
 (∀vs H' Z',aU H H'→aU Z Z'→Zn K N Z' H'→eY K Z' ds vs→Q vs H')→t σ H Q
def EvB(K:aF)(t:TA)(f:FA):Prop:=∀(σ:St)(H:Hp)(e:DE)(ds:List D)(Q:List V→Hp→Prop),yO K H e σ→f e=ND ds →
 (∀vs H',aU H H'→Te K H H' ds vs→Q vs H')→t σ H Q
theorem Sg.r{K:aF}{t:TE}{f:FE}(h:Sg K t f):Iz K t f:=λσ H Z e d Q z r q k=>
 h σ H e d Q (r.same z.sm) q λv H' s n=>k v H' (Xz Z H H') s (Iw z) (Yb z s) (n.zone z s)
def cO(f:FE):FE:=λe=>(f e).bind λd=>if d.jK=NG then ND d else none
theorem Uv{f:FE}{e:DE}{d:D}:cO f e=ND d↔f e=ND d∧d.jK=NG:=by
 unfold cO;cases q:f e with
 | none=>simp
 | some a=>
  simp only[C4];split
  ·rename_i h;constructor
   ·intro z;cases z;exact⟨U,h⟩
   ·rintro⟨z,_⟩;exact z
  ·rename_i h;constructor
   ·intro z;cases z
   ·rintro⟨z,z2⟩;cases z;exact absurd z2 h
theorem Iz.n{K:aF}{t:TE}{f:FE}(h:Iz K t f):Sg K t (cO f):=λσ H e d Q r q k=>by obtain⟨q1,q2⟩:=Uv.mp q;exact h σ H H e d Q (Zn.self K H) r q1 λv H' Z' s1 s2 z' rv=>k v H' s1 (.jK q2 (z'.sm.rv _ _ rv))
def aD(i:Nat):FE:=λe=>(e[i]?).getD none
theorem aFJ{K:aF}(i:Nat):Iz K (qN i) (aD i):=λσ H Z e d Q z r q k=>by
 have e1:e[i]?=ND (ND d):=by
  unfold aD at q;cases h:e[i]? with
  | none=>rw[h]at q;cases q
  | some o=>rw[h]at q;cases q;rfl
 obtain⟨v,h1,h2⟩:=r i d e1;exact⟨v,h1,k v H Z (aU.refl _) (aU.refl _) z h2⟩
def fC(d:D):FE:=λ_=>ND d
theorem aAt{K:aF}(i:Int):Sg K (tC (.int i)) (fC (.int i)):=λσ H e d Q r q k=>by cases q;exact k _ H (aU.refl _) (.jK U (by unfold Rv;rfl))
theorem aHB{K:aF}(i:Bool):Sg K (tC (.bl i)) (fC (.bl i)):=λσ H e d Q r q k=>by cases q;exact k _ H (aU.refl _) (.jK U (by unfold Rv;rfl))
theorem aFK{K:aF}:Sg K (tC .non) (fC .non):=λσ H e d Q r q k=>by cases q;exact k _ H (aU.refl _) (.jK U (by unfold Rv;rfl))
def f2(φ:D→D→Option D)(f g:FE):FE:=λe=>(f e).bind λa=>(g e).bind λb=>φ a b
theorem Mq{φ:D→D→Option D}{f g:FE}{e:DE}{d:D}(h:f2 φ f g e=ND d):∃a b,f e=ND a∧g e=ND b∧φ a b=ND d:=by unfold f2 at h;obtain⟨a,h1,h2⟩:=aY h;obtain⟨b,h3,h4⟩:=aY h2;exact⟨a,b,h1,h3,h4⟩
def OpD(K:aF)(r:R2)(φ:D→D→Option D):Prop:=∀{N:Fp}(x y:V)(H Z:Hp)(a b d:D)(Q:VK),Zn K N Z H→Rv K Z a x→Rv K Z b y→φ a b=ND d →
 (∀v H' Z',aU H H'→aU Z Z'→Zn K N Z' H'→Rv K Z' d v→Q v H')→r x y H Q
def TV(K:aF)(r:R2)(φ:D→D→Option D):Prop:=∀(x y:V)(H:Hp)(a b d:D)(Q:VK),Rv K H a x→Rv K H b y→φ a b=ND d →
 (∀v H',aU H H'→Mm K H H' d v→Q v H')→r x y H Q
theorem aHC{K:aF}{r:R2}{φ:D→D→Option D}{ta tb:TE}{f g:FE}(o:OpD K r φ)(ha:Iz K ta f)(hb:Iz K tb g):Iz K (CW r ta tb) (f2 φ f g):=λσ H Z e d Q z re q k=>by obtain⟨a,b,h1,h2,h3⟩:=Mq q;refine ha σ H Z e a _ z re h1 λx H1 Z1 s1 t1 z1 rx=>hb σ H1 Z1 e b _ z1 (re.same t1) h2 λy H2 Z2 s2 t2 z2 ry=>?_;exact o x y H2 Z2 a b d Q z2 (t2.rv _ _ rx) ry h3 λv H3 Z3 s3 t3 z3 rv=>k v H3 Z3 (s1.trans (s2.trans s3)) (t1.trans (t2.trans t3)) z3 rv
theorem aAu{K:aF}{r:R2}{φ:D→D→Option D}{ta tb:TE}{f g:FE}(o:TV K r φ)(ha:Iz K ta f)(hb:Iz K tb g):Sg K (CW r ta tb) (f2 φ f g):=λσ H e d Q re q k=>by obtain⟨a,b,h1,h2,h3⟩:=Mq q;refine ha σ H H e a _ (Zn.self K H) re h1 λx H1 Z1 s1 t1 z1 rx=>hb σ H1 Z1 e b _ z1 (re.same t1) h2 λy H2 Z2 s2 t2 z2 ry=>?_;exact o x y H2 a b d Q (z2.sm.rv _ _ (t2.rv _ _ rx)) (z2.sm.rv _ _ ry) h3 λv H3 s3 n=>k v H3 (s1.trans (s2.trans s3)) (n.back (s1.trans s2))
def Om(C:Int→Int→Prop) [∀i j,Decidable (C i j)] (g:Int→Int→D):D→D→Option D
 | .int i,.int j=>if C i j then ND (g i j)else none
 | _,_=>none
theorem Oo{C:Int→Int→Prop} [∀i j,Decidable (C i j)] {g:Int→Int→D} {a b d:D} (h:Om C g a b=ND d):∃i j,a=.int i∧b=.int j∧C i j∧d=g i j:=by
 unfold Om at h;split at h
 ·split at h
  ·rename_i i j c;cases h;exact⟨i,j,U,U,c,U⟩
  ·cases h
 ·cases h
theorem Yc{K:aF}{C:Int→Int→Prop} [∀i j,Decidable (C i j)] {C':Int→Int→Prop} (hC:∀i j,C i j→C' i j) {g:Int→Int→Int}:TV K (rI C' λi j=>.int (g i j)) (Om C λi j=>.int (g i j)):=λx y H a b d Q ra rb q k=>by obtain⟨i,j,rfl,rfl,c,rfl⟩:=Oo q;unfold Rv at ra rb;exact⟨i,j,ra,rb,hC i j c,k _ H (aU.refl _) (.jK U (by unfold Rv;rfl))⟩
theorem aC6{K:aF}{g:Int→Int→Int}:TV K (xq λi j=>.int (g i j)) (Om (λ_ _=>True) λi j=>.int (g i j)):=λx y H a b d Q ra rb q k=>by obtain⟨i,j,rfl,rfl,c,rfl⟩:=Oo q;unfold Rv at ra rb;exact⟨i,j,ra,rb,k _ H (aU.refl _) (.jK U (by unfold Rv;rfl))⟩
theorem sV{K:aF}{g:Int→Int→Bool}:TV K (xq λi j=>.bl (g i j)) (Om (λ_ _=>True) λi j=>.bl (g i j)):=λx y H a b d Q ra rb q k=>by obtain⟨i,j,rfl,rfl,c,rfl⟩:=Oo q;unfold Rv at ra rb;exact⟨i,j,ra,rb,k _ H (aU.refl _) (.jK U (by unfold Rv;rfl))⟩
def aK:FA:=λ_=>ND []
def aA(f:FE)(fs:FA):FA:=λe=>(f e).bind λa=>(fs e).bind λr=>ND (a::r)
theorem Ld{f:FE}{fs:FA}{e:DE}{ds:List D}(h:aA f fs e=ND ds):∃a r,f e=ND a∧fs e=ND r∧ds=a::r:=by unfold aA at h;obtain⟨a,h1,h2⟩:=aY h;obtain⟨b,h3,h4⟩:=aY h2;cases h4;exact⟨a,b,h1,h3,U⟩
theorem aAv{K:aF}:EvA K nG aK:=λσ H Z e ds Q z re q k=>by cases q;exact k [] H Z (aU.refl _) (aU.refl _) z (by unfold eY;rfl)
theorem aC7{K:aF}{te:TE}{t:TA}{f:FE}{fs:FA}(h:Iz K te f)(hs:EvA K t fs):EvA K (fY te t) (aA f fs):=λσ H Z e ds Q z re q k=>by obtain⟨a,r,h1,h2,rfl⟩:=Ld q;refine h σ H Z e a _ z re h1 λx H1 Z1 s1 t1 z1 rx=>hs σ H1 Z1 e r _ z1 (re.same t1) h2 λvs H2 Z2 s2 t2 z2 rs=>?_;exact k _ H2 Z2 (s1.trans s2) (t1.trans t2) z2 (by unfold eY;exact⟨x,vs,U,t2.rv _ _ rx,rs⟩)
theorem aFL{K:aF}:EvB K nG aK:=λσ H e ds Q re q k=>by cases q;exact k [] H (aU.refl _) (.gY U (by unfold eY;rfl))
theorem aC8{K:aF}{te:TE}{t:TA}{f:FE}{fs:FA}(h:Sg K te f)(hs:EvB K t fs):EvB K (fY te t) (aA f fs):=λσ H e ds Q re q k=>by obtain⟨a,r,h1,h2,rfl⟩:=Ld q;refine h σ H e a _ re h1 λx H1 s1 n1=>hs σ H1 e r _ (re.same s1) h2 λvs H2 s2 n2=>?_;refine k _ H2 (s1.trans s2) ?_;obtain⟨A,oA,fA⟩:=n1;obtain⟨B,oB,fB⟩:=n2;refine⟨fK A B,?_,λp q=>q.elim (fA p) λz=>s1.free (fB p z)⟩;unfold dX;refine⟨x,vs,A,B,U,λp qa qb=>?_,λ_=>Iff.rfl,oA.same s2,oB⟩;obtain⟨⟨o,e1⟩,_⟩:=Ow.cells _ _ _ oA p qa;rw[fB p qb]at e1;cases e1
def cap(n:Nat)(d:D):Option D:=if n≤100000 then ND d else none
theorem Oq{n:Nat}{d d':D}(h:cap n d=ND d'):n≤100000∧d'=d:=by
 unfold cap at h;split at h
 ·rename_i c;cases h;exact⟨c,U⟩
 ·cases h
theorem Uw{n:Nat}(h:n≤100000):n≤sizeLine:=by rw[Fa];omega
theorem Ot{n:Nat}(h:n≤100000):n<sizeLine:=by rw[Fa];omega
def kE(fs:FA):FE:=λe=>(fs e).bind λds=>cap ds.length (.lst ds)
def vQ(fs:FA):FE:=λe=>(fs e).bind λds=>cap ds.length (.tup ds)
theorem uH{K:aF}{H H1:Hp}{ds:List D}{xs:List V}{p:A7}(s:aU H H1)(n:Te K H H1 ds xs)(hp:H1 p=none):Mm K H (upd H1 p (.lst xs)) (.lst ds) (.ref p):=by obtain⟨A,o,f⟩:=n;refine⟨fK (·=p) A,?_,λa q=>q.elim (λz=>by cases z;exact s.free hp) (f a)⟩;unfold Ow;refine⟨p,xs,A,U,cJ,λz=>?_,λ_=>Iff.rfl,o.same (dO hp _)⟩;obtain⟨⟨u,e⟩,_⟩:=dX.cells _ _ _ o p z;rw[hp]at e;cases e
theorem au{K:aF}{H H1:Hp}{ds:List D}{xs:List V}{p:A7}(n:Te K H H1 ds xs)(hp:H1 p=none):Mm K H (upd H1 p (.tup xs)) (.tup ds) (.ref p):=by obtain⟨A,o,f⟩:=n;refine⟨A,?_,f⟩;unfold Ow;exact⟨p,xs,U,zO.of cJ,o.same (dO hp _)⟩
theorem aFM{K:aF}{t:TA}{fs:FA}(h:EvB K t fs):Sg K (zu t) (kE fs):=λσ H e d Q re q k=>by
 unfold kE at q;obtain⟨ds,h1,h2⟩:=aY q;obtain⟨hc,rfl⟩:=Oq h2;refine h σ H e ds _ re h1 λxs H1 s1 n=>⟨Uw (by rw[n.rv.length];exact hc),λp hp=>?_⟩
 exact k _ _ (s1.trans (dO hp _)) (uH s1 n hp)
theorem aFN{K:aF}{t:TA}{fs:FA}(h:EvB K t fs):Sg K (aCF t) (vQ fs):=λσ H e d Q re q k=>by
 unfold vQ at q;obtain⟨ds,h1,h2⟩:=aY q;obtain⟨hc,rfl⟩:=Oq h2;refine h σ H e ds _ re h1 λxs H1 s1 n=>⟨Uw (by rw[n.rv.length];exact hc),λp hp=>?_⟩
 exact k _ _ (s1.trans (dO hp _)) (au n hp)
theorem TX{K:aF}{N:Fp}{Z H:Hp}{p:A7}{o:HO}(z:Zn K N Z H)(hp:H p=none):aU Z (upd Z p o)∧Zn K N (upd Z p o) (upd H p o):=by
 have hz:Z p=none:=z.sm.free hp;refine⟨dO hz o,⟨λb u e=>?_,λa xs h=>?_,λa q=>?_⟩⟩
 ·by_cases c:b=p
  ·subst c;rw[cJ]at e;rw[cJ];exact e
  ·rw[bQ c]at e;rw[bQ c];exact z.sm b u e
 ·by_cases c:a=p
  ·subst c;rcases h with (h | ⟨u,h⟩) | h
   ·rw[cJ]at h;exact .inl (.inl (by rw[cJ];exact h))
   ·rw[cJ]at h;exact .inl (.inr ⟨u,by rw[cJ];exact h⟩)
   ·exact .inr h
  ·have q:zO K H a xs:=by
    rcases h with (h | ⟨u,h⟩) | h
    ·rw[bQ c]at h;exact .inl (.inl h)
    ·rw[bQ c]at h;exact .inl (.inr ⟨u,h⟩)
    ·exact .inr h
   exact(dO hz o).tup (z.tk a xs q)
 ·have c:a≠p:=λz'=>(z.no a q).2 (by rw[z'];exact hp);rw[bQ c,bQ c];exact z.no a q
theorem aFO{K:aF}{t:TA}{fs:FA}(h:EvA K t fs):Iz K (zu t) (kE fs):=λσ H Z e d Q z re q k=>by
 unfold kE at q;obtain⟨ds,h1,h2⟩:=aY q;obtain⟨hc,rfl⟩:=Oq h2;refine h σ H Z e ds _ z re h1 λxs H1 Z1 s1 t1 z1 rs=>⟨Uw (by rw[rs.length];exact hc),λp hp=>?_⟩
 obtain⟨a1,a2⟩:=TX (o:=.lst xs) z1 hp;exact k _ _ _ (s1.trans (dO hp _)) (t1.trans a1) a2 (by unfold Rv;exact⟨p,xs,U,pK.of cJ,a1.TJ _ _ rs⟩)
end L2


namespace L2
open PySem PySem.Spec PyProof.Rows
structure XR(K:aF)(X:Cx)(e:AB)(t:TE)(f:FE):Prop where
 hk:X.K=K
 pe:PE X e t
 ev:Iz K t f
structure XN(K:aF)(X:Cx)(e:AB)(t:TE)(f:FE):Prop where
 hk:X.K=K
 pe:PE X e t
 ev:Sg K t f
structure XT(K:aF)(X:Cx)(e:AB)(t:TT)(f:FT):Prop where
 hk:X.K=K
 pt:PT X e t
 ev:TQ K t f
structure XW(K:aF)(X:Cx)(e:AB)(t:TT)(f:FT):Prop where
 hk:X.K=K
 pw:PW X e t
 ev:TQ K t f
structure XA(K:aF)(X:Cx)(es:List AB)(t:TA)(f:FA):Prop where
 hk:X.K=K
 pa:PA X es t
 ev:EvA K t f
structure XB(K:aF)(X:Cx)(es:List AB)(t:TA)(f:FA):Prop where
 hk:X.K=K
 pa:PA X es t
 ev:EvB K t f
section
variable{K:aF}{X:Cx}{e a b c:AB}{es:List AB}{t ta tb:TE}{f g:FE}{tA:TA}{fs:FA}{pos:Pos}
theorem XN.r(h:XN K X e t f):XR K X e t f:=⟨h.hk,h.pe,h.ev.r⟩
theorem XR.n(h:XR K X e t f):XN K X e t (cO f):=⟨h.hk,h.pe,Iz.n h.ev⟩
theorem aJ{i:Nat}(h:PE X e (qN i))(hk:X.K=K:=by rfl):XR K X e (qN i) (aD i):=⟨hk,h,aFJ i⟩
theorem aN{i:Int}{j:Nat}(hk:X.K=K:=by rfl):XN K X (.Constant (.int i) j pos) (tC (.int i)) (fC (.int i)):=⟨hk,yh,aAt i⟩
theorem zY{i:Bool}{j:Nat}(hk:X.K=K:=by rfl):XN K X (.Constant (.bool i) j pos) (tC (.bl i)) (fC (.bl i)):=⟨hk,aHa,aHB i⟩
theorem zZ{j:Nat}(hk:X.K=K:=by rfl):XN K X (.Constant .none j pos) (tC .non) (fC .non):=⟨hk,aE0,aFK⟩
theorem Ux{op:Operator}{r:R2}{φ:D→D→Option D}(ho:wM X (DL op) r)(hd:TV K r φ)(ha:XR K X a ta f)(hb:XR K X b tb g):XN K X (.BinOp a op b pos) (CW r ta tb) (f2 φ f g):=⟨ha.hk,aEa ho ha.pe hb.pe,aAu hd ha.ev hb.ev⟩
def zG:D→D→Option D:=Om (λ_ _=>True) λi j=>.int (i-j)
instance (i j:Int):Decidable (Su i j):=by unfold Su;exact inferInstance
instance (i j:Int):Decidable (lg i j):=by unfold lg;exact inferInstance
instance (i j:Int):Decidable (lq i j):=by unfold lq;exact inferInstance
def sW:D→D→Option D:=Om Su λi j=>.int (i*j)
def sX:D→D→Option D:=Om lg λi j=>.int (i/j)
def eV:D→D→Option D:=Om (λ_ j=>0<j) λi j=>.int (i%j)
def zH:D→D→Option D:=Om lq λi j=>.int (i ^ j.toNat)
theorem qO(ha:XR K X a ta f)(hb:XR K X b tb g):XN K X (.BinOp a .Sub b pos) (CW (xq λi j=>.int (i-j)) ta tb) (f2 zG f g):=Ux aFi aC6 ha hb
theorem lQ(ha:XR K X a ta f)(hb:XR K X b tb g):XN K X (.BinOp a .Mult b pos) (CW (rI Su λi j=>.int (i*j)) ta tb) (f2 sW f g):=Ux aFj (Yc λ_ _ h=>h) ha hb
theorem oJ(ha:XR K X a ta f)(hb:XR K X b tb g):XN K X (.BinOp a .FloorDiv b pos) (CW (rI lg λi j=>.int (i/j)) ta tb) (f2 sX f g):=Ux aCz (Yc λ_ _ h=>h) ha hb
theorem bT(ha:XR K X a ta f)(hb:XR K X b tb g):XN K X (.BinOp a .Mod b pos) (CW (rI (λ_ j=>0<j) λi j=>.int (i%j)) ta tb) (f2 eV f g):=Ux aFk (Yc λ_ _ h=>h) ha hb
theorem vA(ha:XR K X a ta f)(hb:XR K X b tb g):XN K X (.BinOp a .Pow b pos) (CW (rI lq λi j=>.int (i ^ j.toNat)) ta tb) (f2 zH f g):=Ux aFl (Yc λ_ _ h=>h) ha hb
theorem Yd{op:EK}{r:R2}{φ:D→D→Option D}(ho:wM X (AS op) r)(hd:TV K r φ)(ha:XR K X a ta f)(hb:XR K X b tb g)(hm:behindInMarks op b=NH):XN K X (.Compare a [op] [b] pos) (CW r ta tb) (f2 φ f g):=⟨ha.hk,aCB ho ha.pe hb.pe hm,aAu hd ha.ev hb.ev⟩
def fB(f:FE):FT:=λe=>(f e).bind λd=>match d with | .bl b=>ND b | _=>none
theorem Gb{f:FE}{e:DE}{b:Bool}(h:fB f e=ND b):f e=ND (.bl b):=by
 unfold fB at h;obtain⟨d,h1,h2⟩:=aY h;split at h2
 ·cases h2;exact h1
 ·cases h2
theorem aC9(h:Iz K t f):TQ K (FQ t) (fB f):=λσ H e b Q re q k=>h σ H H e _ _ (Zn.self K H) re (Gb q) λv H' Z' s1 s2 z rv=>by unfold Rv at rv;exact⟨b,rv,k H' s1⟩
theorem aEj(h:Iz K t f):TQ K (tB t) (fB f):=λσ H e b Q re q k=>h σ H H e _ _ (Zn.self K H) re (Gb q) λv H' Z' s1 s2 z rv=>by unfold Rv at rv;exact⟨b,rv,k H' s1⟩
theorem cT{op:EK}{r:R2}{φ:D→D→Option D}(ho:wM X (AS op) r)(hd:TV K r φ)(ha:XR K X a ta f)(hb:XR K X b tb g)(hm:behindInMarks op b=NH):XT K X (.Compare a [op] [b] pos) (FQ (CW r ta tb)) (fB (f2 φ f g)):=⟨ha.hk,aCC ho ha.pe hb.pe hm,aC9 (aAu hd ha.ev hb.ev).r⟩
theorem Ja(h:XR K X e t f)(he:∀whole,HE e X.env whole=(do let v ←whole;EB e.pos;Ch [v] (truthy v)):=by intro _;rfl):XT K X e (tB t) (fB f):=⟨h.hk,aE2 h.pe he,aEj h.ev⟩
def xu:D→D→Option D:=Om (λ_ _=>True) λi j=>.bl (decide (i<j))
def dLe:D→D→Option D:=Om (λ_ _=>True) λi j=>.bl (decide (i≤j))
def dGt:D→D→Option D:=Om (λ_ _=>True) λi j=>.bl (decide (j<i))
def dGe:D→D→Option D:=Om (λ_ _=>True) λi j=>.bl (decide (j≤i))
def toV:D→Option V
  | .non=>ND .non | .bl b=>ND (.bl b) | .int i=>ND (.int i) | .str x=>ND (.str x)
  | _=>none
theorem Jb{H:Hp}{d:D}{v x:V}(h:toV d=ND v)(r:Rv K H d x):x=v:=by cases d<;>unfold toV at h<;>first | (cases h;unfold Rv at r;exact r) | cases h
mutual
def jO:D→Option DV
 | .int i=>ND (.int i)
 | .non=>ND .non
 | .lst ds=>(pL ds).map DV.lst
 | .tup ds=>(pL ds).map DV.tup
 | _=>none
def pL:List D→Option (List DV)
 | []=>ND []
 | d::ds=>(jO d).bind λx=>(pL ds).bind λxs=>ND (x::xs)
end
mutual
theorem wV{H:Hp}:∀(d:D)(x:DV)(v:V),jO d=ND x→Rv K H d v→Reads K H x v
 | .int i,x,v,h,r=>by unfold jO at h;cases h;unfold Rv at r;unfold Reads;exact r
 | .lst ds,x,v,h,r=>by unfold jO at h;obtain⟨xs,h1,rfl⟩:=lN h;unfold Rv at r;unfold Reads;obtain⟨a,vs,r1,r2,r3⟩:=r;exact⟨a,vs,r1,r2,Ou ds xs vs h1 r3⟩
 | .tup ds,x,v,h,r=>by unfold jO at h;obtain⟨xs,h1,rfl⟩:=lN h;unfold Rv at r;unfold Reads;obtain⟨a,vs,r1,r2,r3⟩:=r;exact⟨a,vs,r1,r2,Ou ds xs vs h1 r3⟩
 | .non,x,v,h,r=>by unfold jO at h;cases h;unfold Rv at r;unfold Reads;exact r
 | .bl _,x,v,h,r=>by unfold jO at h;cases h
 | .str _,x,v,h,r=>by unfold jO at h;cases h
 | .dk _ _,x,v,h,r=>by unfold jO at h;cases h
 | .dt _ _,x,v,h,r=>by unfold jO at h;cases h
 | .ins _ _ _,x,v,h,r=>by unfold jO at h;cases h
theorem Ou{H:Hp}:∀(ds:List D)(xs:List DV)(vs:List V),pL ds=ND xs→eY K H ds vs→eN K H xs vs
 | [],xs,vs,h,r=>by unfold pL at h;cases h;unfold eY at r;unfold eN;exact r
 | d::ds,xs,vs,h,r=>by unfold pL at h;obtain⟨x,h1,h2⟩:=aY h;obtain⟨xt,h3,h4⟩:=aY h2;cases h4;unfold eY at r;unfold eN;obtain⟨y,ys,r1,r2,r3⟩:=r;exact⟨y,ys,r1,wV d x y h1 r2,Ou ds xt ys h3 r3⟩
end
mutual
theorem aAw:∀(d e:D)(x:DV),jO d=ND x→jO e=ND x→d=e
 | .int i,e,x,h,h'=>by
  unfold jO at h;cases h;cases e<;>unfold jO at h'<;>first | (cases h';rfl) | cases h' | (obtain⟨xs,q1,q2⟩:=lN h';cases q2)
 | .lst ds,e,x,h,h'=>by
  unfold jO at h;obtain⟨xs,h1,rfl⟩:=lN h;cases e with
  | lst es=>unfold jO at h';obtain⟨ys,q1,q2⟩:=lN h';cases q2;rw[Jc ds es xs h1 q1]
  | tup es=>unfold jO at h';obtain⟨ys,q1,q2⟩:=lN h';cases q2
  | _=>unfold jO at h';cases h'
 | .tup ds,e,x,h,h'=>by
  unfold jO at h;obtain⟨xs,h1,rfl⟩:=lN h;cases e with
  | tup es=>unfold jO at h';obtain⟨ys,q1,q2⟩:=lN h';cases q2;rw[Jc ds es xs h1 q1]
  | lst es=>unfold jO at h';obtain⟨ys,q1,q2⟩:=lN h';cases q2
  | _=>unfold jO at h';cases h'
 | .non,e,x,h,h'=>by
  unfold jO at h;cases h;cases e<;>unfold jO at h'<;>first | (cases h';rfl) | cases h' | (obtain⟨xs,q1,q2⟩:=lN h';cases q2)
 | .bl _,e,x,h,h'=>by unfold jO at h;cases h
 | .str _,e,x,h,h'=>by unfold jO at h;cases h
 | .dk _ _,e,x,h,h'=>by unfold jO at h;cases h
 | .dt _ _,e,x,h,h'=>by unfold jO at h;cases h
 | .ins _ _ _,e,x,h,h'=>by unfold jO at h;cases h
theorem Jc:∀(ds es:List D)(xs:List DV),pL ds=ND xs→pL es=ND xs→ds=es
 | [],[],xs,h,h'=>rfl
 | [],e::es,xs,h,h'=>by
  unfold pL at h h';cases h;obtain⟨x,h1,h2⟩:=aY h';obtain⟨xt,h3,h4⟩:=aY h2;cases h4
 | d::ds,[],xs,h,h'=>by
  unfold pL at h h';cases h';obtain⟨x,h1,h2⟩:=aY h;obtain⟨xt,h3,h4⟩:=aY h2;cases h4
 | d::ds,e::es,xs,h,h'=>by unfold pL at h h';obtain⟨x,h1,h2⟩:=aY h;obtain⟨xt,h3,h4⟩:=aY h2;cases h4;obtain⟨y,k1,k2⟩:=aY h';obtain⟨yt,k3,k4⟩:=aY k2;cases k4;rw[aAw d e x h1 k1,Jc ds es xt h3 k3]
end
noncomputable def Il(a b:D):Option D:=match toV a,toV b with
 | some x,ND y=>if aCA x y=NG then ND (.bl (decide (x=y)))else none
 | _,_=>match jO a,jO b with
  | some x,ND y=>if x.depth≤32 then ND (.bl (zV x y))else none
  | _,_=>none
theorem yP:TV K (λx y H Q=>rEq x y H Q∨aFD K NH x y H Q) Il:=λx y H a b d Q ra rb q k=>by
 unfold Il at q;split at q
 ·rename_i u v h1 h2;split at q
  ·rename_i hs;cases q;rw[Jb h1 ra,Jb h2 rb];exact .inl ⟨hs,k _ H (aU.refl _) (.jK U (by unfold Rv;rfl))⟩
  ·cases q
 ·split at q
  ·rename_i u v h1 h2;split at q
   ·rename_i hs;cases q;exact .inr ⟨u,v,wV a u x h1 ra,wV b v y h2 rb,hs,k _ H (aU.refl _) (.jK U (by unfold Rv;rfl))⟩
   ·cases q
  ·cases q
noncomputable def Gd(a b:D):Option D:=match toV a,toV b with
 | some x,ND y=>if aCA x y=NG then ND (.bl (!decide (x=y)))else none
 | _,_=>match jO a,jO b with
  | some (.lst x),ND (.lst y)=>if gQ x≤32 then ND (.bl (!zV (.lst x) (.lst y)))else none
  | some (.tup x),ND (.tup y)=>if gQ x≤32 then ND (.bl (!zV (.tup x) (.tup y)))else none
  | _,_=>none
def aHD(K:aF):R2:=λx y H Q=>rNe x y H Q∨(∃ds es,Reads K H (.lst ds) x∧Reads K H (.lst es) y∧gQ ds≤32∧Q (.bl (!zV (.lst ds) (.lst es))) H)∨(∃ds es,Reads K H (.tup ds) x∧Reads K H (.tup es) y∧gQ ds≤32∧Q (.bl (!zV (.tup ds) (.tup es))) H)
theorem yQ:TV K (aHD K) Gd:=λx y H a b d Q ra rb q k=>by
 unfold Gd at q;split at q
 ·rename_i u v h1 h2;split at q
  ·rename_i hs;cases q;rw[Jb h1 ra,Jb h2 rb];exact .inl ⟨hs,k _ H (aU.refl _) (.jK U (by unfold Rv;rfl))⟩
  ·cases q
 ·split at q
  ·rename_i u v h1 h2;split at q
   ·rename_i hs;cases q;exact .inr (.inl ⟨u,v,wV a _ x h1 ra,wV b _ y h2 rb,hs,k _ H (aU.refl _) (.jK U (by unfold Rv;rfl))⟩)
   ·cases q
  ·rename_i u v h1 h2;split at q
   ·rename_i hs;cases q;exact .inr (.inr ⟨u,v,wV a _ x h1 ra,wV b _ y h2 rb,hs,k _ H (aU.refl _) (.jK U (by unfold Rv;rfl))⟩)
   ·cases q
  ·cases q
theorem or_eq(hu:X.A.units+64<As)(hk:X.K=K):wM X (AS .Eq) (λx y H Q=>rEq x y H Q∨aFD K NH x y H Q):=by subst hk;exact aHn.or (aFE hu)
theorem yR(hu:X.A.units+64<As)(hk:X.K=K):wM X (AS .NotEq) (aHD K):=by subst hk;exact aHo.or ((aFF hu).or (aFH hu))
def HF:List D→Option (List V)
 | []=>ND []
 | d::ds=>(toV d).bind λx=>(HF ds).bind λxs=>ND (x::xs)
theorem az{H:Hp}:∀{ds:List D} {vs xs:List V},HF ds=ND vs→eY K H ds xs→xs=vs
 | [],vs,xs,h,r=>by unfold HF at h;cases h;unfold eY at r;exact r
 | d::ds,vs,xs,h,r=>by unfold HF at h;obtain⟨x,h1,h2⟩:=aY h;obtain⟨xt,h3,h4⟩:=aY h2;cases h4;unfold eY at r;obtain⟨y,ys,rfl,r2,r3⟩:=r;rw[Jb h1 r2,az h3 r3]
def zJ:D→Option (List D)
 | .lst ds=>ND ds
 | .tup ds=>ND ds
 | _=>none
theorem Mr{H:Hp}{d:D}{ds:List D}{v:V}(h:zJ d=ND ds)(r:Rv K H d v):∃p xs,v=.ref p∧(pK K H p xs∨zO K H p xs)∧eY K H ds xs:=by
 cases d with
 | lst es=>unfold zJ at h;cases h;unfold Rv at r;obtain⟨p,xs,r1,r2,r3⟩:=r;exact⟨p,xs,r1,.inl r2,r3⟩
 | tup es=>unfold zJ at h;cases h;unfold Rv at r;obtain⟨p,xs,r1,r2,r3⟩:=r;exact⟨p,xs,r1,.inr r2,r3⟩
 | _=>unfold zJ at h;cases h
def dIn(neg:Bool)(a b:D):Option D:=(toV a).bind λx=>(zJ b).bind λds=>(HF ds).bind λxs=>if zQ x=NG∧xs.all zQ=NG then ND (.bl (if neg then !inV x xs else inV x xs))else none
theorem bc(neg:Bool):TV K (rIn K neg) (dIn neg):=λx y H a b d Q ra rb q k=>by
 unfold dIn at q;obtain⟨u,h1,q⟩:=aY q;obtain⟨ds,h2,q⟩:=aY q;obtain⟨us,h3,q⟩:=aY q;split at q
 ·rename_i c;cases q;obtain⟨p,xs,rfl,r2,r3⟩:=Mr h2 rb;have:=az h3 r3;subst this;rw[Jb h1 ra];exact⟨p,xs,U,r2,c.1,c.2,k _ H (aU.refl _) (.jK U (by unfold Rv;rfl))⟩
 ·cases q
theorem aHE(hk:X.K=K):wM X (AS .In) (rIn K NH):=by subst hk;exact mz
theorem Ov(hk:X.K=K):wM X (AS .NotIn) (rIn K NG):=by subst hk;exact Xo
end
section
variable{κ:Type} [DecidableEq κ] {K:aF} {H:Hp}
def posK:List κ→κ→Option Nat
 | [],_=>none
 | a::ks,k=>if a=k then ND 0 else(posK ks k).map (·+1)
theorem sY:∀{ks:List κ} {xs:List V} {k:κ},ks.length=xs.length→wQ (ks.zip xs) k=(posK ks k).bind λj=>xs[j]?
 | [],xs,k,h=>by unfold posK;rfl
 | a::ks,[],k,h=>by simp at h
 | a::ks,x::xs,k,h=>by
  have ih:=sY (ks:=ks) (xs:=xs) (k:=k) (by simpa using h);unfold posK;rw[P5];unfold wQ at ih ⊢;rw[N9];by_cases c:a=k
  ·rw[if_pos c,decide_eq_true c];rfl
  ·rw[if_neg c,decide_eq_false c];show a9 _ (List.find? _ (ks.zip xs))=_;rw[ih];cases posK ks k<;>rfl
theorem rN:∀{ks:List κ} {k:κ} {j:Nat},posK ks k=ND j→j<ks.length∧ks[j]?=ND k
 | [],k,j,h=>by unfold posK at h;cases h
 | a::ks,k,j,h=>by
  unfold posK at h;split at h
  ·rename_i c;cases h;exact⟨by simp,by simp[c]⟩
  ·obtain⟨i,h1,rfl⟩:=lN h;obtain⟨a1,a2⟩:=rN h1;exact⟨by simpa using a1,by simpa using a2⟩
theorem Bg:∀{ks:List κ} {k:κ},posK ks k=none↔k∉ks
  | [],k=>by unfold posK;simp
  | a::ks,k=>by
    unfold posK;have ih:=Bg (ks:=ks) (k:=k);split
    · rename_i c;simp[c]
    · rename_i c
      rw[Y8,ih,C9];constructor
      · rintro h (q | q)
        · exact c q.symm
        · exact h q
      · intro h q;exact h (.inr q)
def lF(ks:List κ)(k:κ):List κ:=if(posK ks k).isSome then ks else ks++[k]
def putD{β:Type}(ks:List κ)(ds:List β)(k:κ)(d:β):List β:=if(posK ks k).isSome then Q1 (λk' d'=>if k'=k then d else d') ks ds else ds++[d]
theorem vR{β:Type}{ks:List κ}{ds:List β}{k:κ}{d:β}(h:ks.length=ds.length):(lF ks k).length=(putD ks ds k d).length:=by
 unfold lF putD;split
 ·rw[List.length_zipWith,h,d9]
 ·rw[C7,C7,h];rfl
theorem HH{ks:List κ}{xs:List V}{k:κ}{v:V}(h:ks.length=xs.length):putK (ks.zip xs) k v=(lF ks k).zip (putD ks xs k v):=by
 have ha:((ks.zip xs).any λkv=>decide (kv.1=k))=(posK ks k).isSome:=by
  rw[Ny,sY h];cases q:posK ks k with
  | none=>rfl
  | some j=>obtain⟨h1,h2⟩:=rN q;rw[C4,B6 (by omega)];rfl
 unfold putK lF putD;rw[ha];by_cases c:(posK ks k).isSome=NG
 ·rw[if_pos c,if_pos c,if_pos c];clear ha c
  induction ks generalizing xs with
  | nil=>rfl
  | cons a ks ih=>
   cases xs with
   | nil=>simp at h
   | cons x xs=>
    rw[P5,D3,J1,P5,ih (by simpa using h)]
    split<;>rfl
 ·rw[if_neg c,if_neg c,if_neg c,List.zip_append h];rfl
end
def Tf:D→Option Key
 | .int i=>ND (.inl i)
 | .str x=>ND (.inr x)
 | _=>none
theorem Ms{K:aF}{H:Hp}{d:D}{k:Key}{v:V}(h:Tf d=ND k)(r:Rv K H d v):v=kV k:=by cases d<;>unfold Tf at h<;>first | (cases h;unfold Rv at r;exact r) | cases h
def kD:Key→D
 | .inl i=>.int i
 | .inr x=>.str x
section
variable{K:aF}{X:Cx}{e a b c:AB}{es:List AB}{t ta tb:TE}{f g:FE}{pos:Pos}
def Ge(neg:Bool)(k d:D):Option D:=match d with
 | .dk ks ds=>(Tf k).bind λk=>ND (.bl (if neg then !(posK ks k).isSome else(posK ks k).isSome))
 | _=>none
def aKS(d k:D):Option D:=match d with
 | .dk ks ds=>(Tf k).bind λk=>(posK ks k).bind λj=>ds[j]?
 | _=>none
theorem TY{ks:List Key}{xs:List V}{k:Key}(h:ks.length=xs.length):(wQ (ks.zip xs) k).isSome=(posK ks k).isSome:=by
 rw[sY h];cases q:posK ks k with
 | none=>rfl
 | some j=>obtain⟨h1,h2⟩:=rN q;rw[C4,B6 (by omega)];rfl
theorem HJ{H:Hp}{x y:V}{ka d r:D}{neg:Bool}(h:Ge neg ka d=ND r)(rk:Rv K H ka y)(rd:Rv K H d x):∃p o,x=.ref p∧Oa H p y o∧r=.bl (if neg then !o.isSome else o.isSome):=by
 unfold Ge at h;split at h
 ·rename_i ks ds;obtain⟨k,h1,h2⟩:=aY h;cases h2;unfold Rv at rd;obtain⟨p,xs,r1,r2,r3,r4⟩:=rd;refine⟨p,wQ (ks.zip xs) k,r1,.inl ⟨_,k,r2,Ms h1 rk,U⟩,?_⟩;rw[TY r3]
 ·cases h
theorem aAx(hu:X.A.units+1<As)(ha:XR K X a ta f)(hb:XR K X b tb g)(h1:behindInMarks .In b=NH:=by first | exact nobehind _ (by decide) (by decide) | rfl):XN K X (.Compare a [.In] [b] pos) (aCT ta tb) (f2 (Ge NH) f g):=
 ⟨ha.hk,RB (RW hu ha.pe hb.pe) h1,λσ H e d Q re q k=>by
  obtain⟨da,db,q1,q2,q3⟩:=Mq q;refine ha.ev σ H H e da _ (Zn.self K H) re q1 λx H1 Z1 s1 t1 z1 rx=>hb.ev σ H1 Z1 e db _ z1 (re.same t1) q2 λy H2 Z2 s2 t2 z2 ry=>?_;obtain⟨p,o,e1,e2,e3⟩:=HJ q3 (z2.sm.rv _ _ (t2.rv _ _ rx)) (z2.sm.rv _ _ ry);subst e3;exact⟨p,o,e1,e2,k _ H2 (s1.trans s2) (.jK U (by unfold Rv;rfl))⟩⟩
theorem ql(hu:X.A.units+1<As)(ha:XR K X a ta f)(hb:XR K X b tb g)(h1:behindInMarks .NotIn b=NH:=by first | exact nobehind _ (by decide) (by decide) | rfl):XN K X (.Compare a [.NotIn] [b] pos) (Xu ta tb) (f2 (Ge NG) f g):=
 ⟨ha.hk,RB (Us hu ha.pe hb.pe) h1,λσ H e d Q re q k=>by
  obtain⟨da,db,q1,q2,q3⟩:=Mq q;refine ha.ev σ H H e da _ (Zn.self K H) re q1 λx H1 Z1 s1 t1 z1 rx=>hb.ev σ H1 Z1 e db _ z1 (re.same t1) q2 λy H2 Z2 s2 t2 z2 ry=>?_;obtain⟨p,o,e1,e2,e3⟩:=HJ q3 (z2.sm.rv _ _ (t2.rv _ _ rx)) (z2.sm.rv _ _ ry);subst e3;exact⟨p,o,e1,e2,k _ H2 (s1.trans s2) (.jK U (by unfold Rv;rfl))⟩⟩
theorem aEk{op:EK}(h:XN K X (.Compare a [op] [b] pos) t f)(pc:PC X op a b t)(h1:behindInMarks op b=NH):XT K X (.Compare a [op] [b] pos) (tB t) (fB f):=⟨h.hk,aE1 pc h1,aEj h.ev.r⟩
theorem Uy(hu:X.A.units+1<As)(ha:XR K X a ta f)(hb:XR K X b tb g)(h1:behindInMarks .NotIn b=NH:=by first | exact nobehind _ (by decide) (by decide) | rfl):XT K X (.Compare a [.NotIn] [b] pos) (tB (Xu ta tb)) (fB (f2 (Ge NG) f g)):=aEk (ql hu ha hb h1) (Us hu ha.pe hb.pe) h1
def dI(a i:D):Option D:=match i with
 | .int i=>(zJ a).bind λds=>QZ ds i
 | _=>none
theorem aEm{H:Hp}{ds:List D}{xs:List V}{i:Int}{d:D}(r:eY K H ds xs)(h:QZ ds i=ND d):∃v,QZ xs i=ND v∧Rv K H d v:=by unfold QZ at h ⊢;obtain⟨j,h1,h2⟩:=aY h;rw[r.length,h1];exact r.get h2
theorem aEn(hk:X.K=K):IxR X (rIx K):=by subst hk;exact aFt
theorem bN(ha:XR K X a ta f)(hb:XR K X b tb g)(hs:Xl b):XR K X (.Subscript a b pos) (CW (rIx K) ta tb) (f2 dI f g):=
 ⟨ha.hk,aEe (aEn ha.hk) ha.pe hb.pe hs,aHC (λx y H Z da db d Q z ra rb q k=>by
  unfold dI at q;split at q
  ·rename_i i;obtain⟨ds,h1,h2⟩:=aY q;unfold Rv at rb;cases da with
   | lst es=>
    unfold zJ at h1;cases h1;unfold Rv at ra;obtain⟨p,xs,r1,r2,r3⟩:=ra;obtain⟨v,e1,e2⟩:=aEm r3 h2;exact .inl ⟨p,xs,i,v,r1,rb,z.sm.seq r2,e1,k v H Z (aU.refl _) (aU.refl _) z e2⟩
   | tup es=>
    unfold zJ at h1;cases h1;unfold Rv at ra;obtain⟨p,xs,r1,r2,r3⟩:=ra;obtain⟨v,e1,e2⟩:=aEm r3 h2;exact .inr (.inl ⟨p,xs,i,v,r1,rb,z.sm.tup r2,e1,k v H Z (aU.refl _) (aU.refl _) z e2⟩)
   | _=>unfold zJ at h1;cases h1
  ·cases q) ha.ev hb.ev⟩
end
end L2


namespace L2
open PySem PySem.Spec PyProof.Rows
section
variable{K:aF}{X:Cx}{e a b c:AB}{es rest:List AB}{t ta tb:TE}{f g:FE}{tA:TA}{fs:FA}{pos:Pos}{tc:TT}{fc fd:FT}{td:TT}
theorem aQ(hk:X.K=K:=by rfl):XA K X [] nG aK:=⟨hk,jY,aAv⟩
theorem aG(h:XR K X e t f)(hs:XA K X es tA fs)(hst:AD (e::es) X.env=(NH,AO e X.env)::AD es X.env:=by rfl):XA K X (e::es) (fY t tA) (aA f fs):=⟨h.hk,fD h.pe hs.pa hst,aC7 h.ev hs.ev⟩
theorem gZ(hk:X.K=K:=by rfl):XB K X [] nG aK:=⟨hk,jY,aFL⟩
theorem bF(h:XN K X e t f)(hs:XB K X es tA fs)(hst:AD (e::es) X.env=(NH,AO e X.env)::AD es X.env:=by rfl):XB K X (e::es) (fY t tA) (aA f fs):=⟨h.hk,fD h.pe hs.pa hst,aC8 h.ev hs.ev⟩
theorem qP(h:XB K X es tA fs):XN K X (.List es pos) (zu tA) (kE fs):=⟨h.hk,aAa h.pa,aFM h.ev⟩
theorem oX(h:XA K X es tA fs):XR K X (.List es pos) (zu tA) (kE fs):=⟨h.hk,aAa h.pa,aFO h.ev⟩
theorem qQ{x1:Nat}(h:XB K X es tA fs):XN K X (.Tuple es x1 pos) (aCF tA) (vQ fs):=⟨h.hk,zy h.pa,aFN h.ev⟩
theorem aDa:Sg K RX (fC (.dk [] [])):=λσ H e d Q re q k=>by cases q;intro p hp;refine k _ _ (dO hp _) ⟨(·=p),?_,λa q=>by cases q;exact hp⟩;unfold Ow;exact⟨p,[],nil,U,cJ,U,λz=>z,λx=>⟨.inl,λz=>z.elim id False.elim⟩,by unfold dX;exact⟨λ_ z=>z,U⟩⟩
theorem Bh(hk:X.K=K:=by rfl):XN K X (.Dict [] [] pos) RX (fC (.dk [] [])):=⟨hk,aAk,aDa⟩
def Cu(f g:FT):FT:=λe=>(f e).bind λc=>if c=NG then g e else ND NH
def UG(f g:FT):FT:=λe=>(f e).bind λc=>if c=NG then ND NG else g e
def Cv(f:FT):FT:=λe=>(f e).map λc=>!c
theorem aFP(h1:TQ K tc fc)(h2:TQ K td fd):TQ K (aE3 tc td) (Cu fc fd):=λσ H e b Q re q k=>by
 unfold Cu at q;obtain⟨c,q1,q2⟩:=aY q;refine h1 σ H e c _ re q1 λH1 s1=>?_;cases c with
 | true=>rw[if_pos rfl]at q2 ⊢;exact h2 σ H1 e b Q (re.same s1) q2 λH2 s2=>k H2 (s1.trans s2)
 | false=>rw[if_neg (by decide)]at q2 ⊢;cases q2;exact k H1 s1
theorem aHF(h1:TQ K tc fc)(h2:TQ K td fd):TQ K (tOr tc td) (UG fc fd):=λσ H e b Q re q k=>by
 unfold UG at q;obtain⟨c,q1,q2⟩:=aY q;refine h1 σ H e c _ re q1 λH1 s1=>?_;cases c with
 | false=>rw[if_neg (by decide)]at q2 ⊢;exact h2 σ H1 e b Q (re.same s1) q2 λH2 s2=>k H2 (s1.trans s2)
 | true=>rw[if_pos rfl]at q2 ⊢;cases q2;exact k H1 s1
theorem aFQ(h1:TQ K tc fc):TQ K (aE4 tc) (Cv fc):=λσ H e b Q re q k=>by unfold Cv at q;obtain⟨c,q1,rfl⟩:=lN q;exact h1 σ H e c _ re q1 k
theorem XW.xt(h:XW K X e tc fc):XT K X e tc fc:=⟨h.hk,h.pw.pt,h.ev⟩
theorem Gf(h:XT K X a tc fc):XW K X (.BoolOp .And [a] pos) tc fc:=⟨h.hk,aCv h.pt,h.ev⟩
theorem Ye(h:XT K X a tc fc):XW K X (.BoolOp .Or [a] pos) tc fc:=⟨h.hk,aE5 h.pt,h.ev⟩
theorem Ox(h:XT K X a tc fc)(h2:XW K X (.BoolOp .And (b::rest) pos) td fd):XW K X (.BoolOp .And (a::b::rest) pos) (aE3 tc td) (Cu fc fd):=⟨h.hk,aE6 h.pt h2.pw,aFP h.ev h2.ev⟩
theorem HN(h:XT K X a tc fc)(h2:XW K X (.BoolOp .Or (b::rest) pos) td fd):XW K X (.BoolOp .Or (a::b::rest) pos) (tOr tc td) (UG fc fd):=⟨h.hk,aHb h.pt h2.pw,aHF h.ev h2.ev⟩
theorem Aa(h:XT K X a tc fc):XT K X (.UnaryOp .Not a pos) (aE4 tc) (Cv fc):=⟨h.hk,aE7 h.pt,aFQ h.ev⟩
def Uz(f g:FE):FE:=λe=>(fB f e).bind λc=>if c=NG then g e else ND (.bl NH)
def Tg(f g:FE):FE:=λe=>(fB f e).bind λc=>if c=NG then ND (.bl NG)else g e
def HQ(f:FE):FE:=λe=>(fB f e).map λc=>.bl (!c)
theorem Mt{op:BoolOp}(h:XN K X a t f):XN K X (.BoolOp op [a] pos) t f:=⟨h.hk,aE8 h.pe,h.ev⟩
theorem aAy(h:XR K X a ta f)(h2:XN K X (.BoolOp .And (b::rest) pos) tb g):XN K X (.BoolOp .And (a::b::rest) pos) (aD4 ta tb) (Uz f g):=⟨h.hk,aE9 h.pe h2.pe,λσ H e d Q re q k=>by
 unfold Uz at q;obtain⟨c,q1,q2⟩:=aY q;refine h.ev σ H H e _ _ (Zn.self K H) re (Gb q1) λv H1 Z1 s1 t1 z1 rv=>?_;unfold Rv at rv;refine⟨c,rv,?_⟩;cases c with
 | true=>rw[if_pos rfl]at q2 ⊢;exact h2.ev σ H1 e d Q (re.same s1) q2 λv H2 s2 n=>k v H2 (s1.trans s2) (n.back s1)
 | false=>rw[if_neg (by decide)]at q2 ⊢;cases q2;exact k _ H1 s1 (.jK U (by unfold Rv;rfl))⟩
theorem aEo(h:XR K X a ta f)(h2:XN K X (.BoolOp .Or (b::rest) pos) tb g):XN K X (.BoolOp .Or (a::b::rest) pos) (aHc ta tb) (Tg f g):=⟨h.hk,aHd h.pe h2.pe,λσ H e d Q re q k=>by
 unfold Tg at q;obtain⟨c,q1,q2⟩:=aY q;refine h.ev σ H H e _ _ (Zn.self K H) re (Gb q1) λv H1 Z1 s1 t1 z1 rv=>?_;unfold Rv at rv;refine⟨c,rv,?_⟩;cases c with
 | false=>rw[if_neg (by decide)]at q2 ⊢;exact h2.ev σ H1 e d Q (re.same s1) q2 λv H2 s2 n=>k v H2 (s1.trans s2) (n.back s1)
 | true=>rw[if_pos rfl]at q2 ⊢;cases q2;exact k _ H1 s1 (.jK U (by unfold Rv;rfl))⟩
theorem aFR(h:XR K X a ta f):XN K X (.UnaryOp .Not a pos) (aD5 ta) (HQ f):=⟨h.hk,aFa h.pe,λσ H e d Q re q k=>by
 unfold HQ at q;obtain⟨c,q1,rfl⟩:=lN q;refine h.ev σ H H e _ _ (Zn.self K H) re (Gb q1) λv H1 Z1 s1 t1 z1 rv=>?_;unfold Rv at rv;exact⟨c,rv,k _ H1 s1 (.jK U (by unfold Rv;rfl))⟩⟩
def fIf(c:FT)(f g:FE):FE:=λe=>(c e).bind λb=>if b=NG then f e else g e
theorem aEq(hc:XT K X c tc fc)(ha:XN K X a ta f)(hb:XN K X b tb g):XN K X (.IfExp c a b pos) (tIf tc ta tb) (fIf fc f g):=⟨ha.hk,yj hc.pt ha.pe hb.pe,λσ H e d Q re q k=>by
 unfold fIf at q;obtain⟨c,q1,q2⟩:=aY q;refine hc.ev σ H e c _ re q1 λH1 s1=>?_;cases c with
 | true=>rw[if_pos rfl]at q2 ⊢;exact ha.ev σ H1 e d Q (re.same s1) q2 λv H2 s2 n=>k v H2 (s1.trans s2) (n.back s1)
 | false=>rw[if_neg (by decide)]at q2 ⊢;exact hb.ev σ H1 e d Q (re.same s1) q2 λv H2 s2 n=>k v H2 (s1.trans s2) (n.back s1)⟩
theorem aFS(ha:XR K X a ta f):XN K X (.UnaryOp .USub a pos) (tUn (rU λi=>.int (-i)) ta) (λe=>(f e).bind λd=>match d with | .int i=>ND (.int (-i)) | _=>none):=⟨ha.hk,aHl aFm ha.pe,λσ H e d Q re q k=>by
 obtain⟨c,q1,q2⟩:=aY q;split at q2
 ·rename_i i;cases q2;refine ha.ev σ H H e _ _ (Zn.self K H) re q1 λv H1 Z1 s1 t1 z1 rv=>?_;unfold Rv at rv;exact⟨i,rv,k _ H1 s1 (.jK U (by unfold Rv;rfl))⟩
 ·cases q2⟩
def fL(φ:List D→Option D)(fs:FA):FE:=λe=>(fs e).bind φ
def yS(K:aF)(r:List V→Hp→VK→Prop)(φ:List D→Option D):Prop:=∀(vs:List V)(H:Hp)(ds:List D)(d:D)(Q:VK),eY K H ds vs→φ ds=ND d →
 (∀v H',aU H H'→Mm K H H' d v→Q v H')→r vs H Q
theorem aEr{r:List V→Hp→VK→Prop}{φ:List D→Option D}(o:yS K r φ)(h:EvA K tA fs):Sg K (tCB r tA) (fL φ fs):=λσ H e d Q re q k=>by obtain⟨ds,q1,q2⟩:=aY q;exact h σ H H e ds _ (Zn.self K H) re q1 λvs H1 Z1 s1 t1 z1 rs=>o vs H1 ds d Q (z1.sm.TJ _ _ rs) q2 λv H2 s2 n=>k v H2 (s1.trans s2) (n.back s1)
theorem iI{r:List V→Hp→VK→Prop}{φ:List D→Option D}{x:Str}{id:String}{p:Pos}(o:yS K r φ)(hc:nF X (.builtin id) r)(hg:Gl X x)(hm:X.mg x=none)(hv:AU x=ND (.builtin id))(ha:XA K X (e::es) tA fs)(hn:x ≠ "__name__" := by decide) (hdb:(x==("__debug__" : Str))=NH:=by decide)
  (he:AD (e::es) X.env=(NH,AO e X.env)::AD es X.env:=by rfl) (hpl:(AY pos (AD es X.env)).any (·.1)=NH:=by rfl):XN K X (.Call (.Name x p) (e::es) [] pos) (tCB r tA) (fL φ fs):=⟨ha.hk,FZ hc hg hm hv ha.pa hn hdb he hpl,aEr o ha.ev⟩
theorem Ab{r:List V→Hp→VK→Prop}{φ:List D→Option D}{x:Str}{id:String}{p:Pos}(o:yS K r φ)(hc:nF X (.type id) r)(hg:Gl X x)(hm:X.mg x=none)(hv:AU x=ND (.type id))(ha:XA K X (e::es) tA fs)(hn:x ≠ "__name__" := by decide) (hdb:(x==("__debug__" : Str))=NH:=by decide)
  (he:AD (e::es) X.env=(NH,AO e X.env)::AD es X.env:=by rfl) (hpl:(AY pos (AD es X.env)).any (·.1)=NH:=by rfl):XN K X (.Call (.Name x p) (e::es) [] pos) (tCB r tA) (fL φ fs):=⟨ha.hk,my hc hg hm hv ha.pa hn hdb he hpl,aEr o ha.ev⟩
theorem sZ{H:Hp}{d:D}{vs:List V}(h:eY K H [d] vs):∃v,vs=[v]∧Rv K H d v:=by unfold eY at h;obtain⟨y,ys,rfl,h1,h2⟩:=h;unfold eY at h2;subst h2;exact⟨y,U,h1⟩
theorem aAz{H:Hp}{d d':D}{vs:List V}(h:eY K H [d,d'] vs):∃v v',vs=[v,v']∧Rv K H d v∧Rv K H d' v':=by unfold eY at h;obtain⟨y,ys,rfl,h1,h2⟩:=h;obtain⟨v,rfl,h3⟩:=sZ h2;exact⟨y,v,U,h1,h3⟩
def jP:List D→Option D
 | [d]=>(zJ d).map λds=>.int ds.length
 | _=>none
def aHG(K:aF):List V→Hp→VK→Prop:=λxs H Q=>∃p ys,xs=[.ref p]∧(pK K H p ys∨zO K H p ys)∧Q (.int ys.length) H
theorem iB:yS K (aHG K) jP:=λvs H ds d Q rs q k=>by
 unfold jP at q;split at q
 ·rename_i d0;obtain⟨es,q1,rfl⟩:=lN q;obtain⟨v,rfl,r⟩:=sZ rs;obtain⟨p,xs,rfl,r2,r3⟩:=Mr q1 r;refine⟨p,xs,U,r2,k _ H (aU.refl _) (.jK U ?_)⟩;rw[r3.length];unfold Rv;rfl
 ·cases q
theorem iC(hk:X.K=K):nF X (.builtin "len") (aHG K):=by subst hk;exact Xp
def dList:List D→Option D
 | [d]=>(zJ d).bind λds=>if D.gY ds=NG then ND (.lst ds)else none
 | _=>none
def aEs(K:aF):List V→Hp→VK→Prop:=λxs H Q=>∃p ys,xs=[.ref p]∧(pK K H p ys∨zO K H p ys)∧∀l,H l=none→Q (.ref l) (upd H l (.lst ys))
theorem uI:yS K (aEs K) dList:=λvs H ds d Q rs q k=>by
 unfold dList at q;split at q
 ·rename_i d0;obtain⟨es,q1,q2⟩:=aY q;split at q2
  ·rename_i hi;cases q2;obtain⟨v,rfl,r⟩:=sZ rs;obtain⟨p,xs,rfl,r2,r3⟩:=Mr q1 r;exact⟨p,xs,U,r2,λl hl=>k _ _ (dO hl _) (uH (aU.refl _) (.gY hi r3) hl)⟩
  ·cases q2
 ·cases q
theorem uJ(hk:X.K=K):nF X (.type "list") (aEs K):=by subst hk;exact Xq
def Oz:List D→Option D
 | [.dk ks ds]=>ND (.lst (ks.map kD))
 | _=>none
theorem Va:∀ks:List Key,D.gY (ks.map kD)=NG
 | []=>by rw[J2];unfold D.gY;rfl
 | k::ks=>by rw[D3];unfold D.gY;rw[Va ks];cases k<;>(unfold kD D.jK;rfl)
theorem HR{H:Hp}:∀ks:List Key,eY K H (ks.map kD) (ks.map kV)
 | []=>by rw[J2,J2];unfold eY;rfl
 | k::ks=>by rw[D3,D3];unfold eY;exact⟨_,_,U,by cases k<;>(unfold kD kV Rv;rfl),HR ks⟩
def aFT:List V→Hp→VK→Prop:=λxs H Q=>∃p kvs,xs=[.ref p]∧Rd H p (.dK kvs)∧∀l,H l=none→Q (.ref l) (upd H l (.lst (kvs.map λkv=>kV kv.1)))
theorem aAA{ks:List Key}{xs:List V}(h:ks.length=xs.length):((ks.zip xs).map λkv=>kV kv.1)=ks.map kV:=by
 have:((ks.zip xs).map λkv=>kV kv.1)=((ks.zip xs).map Prod.fst).map kV:=by rw[K5];rfl
 rw[this,List.map_fst_zip (by omega)]
theorem HS:yS K aFT Oz:=λvs H ds d Q rs q k=>by
 unfold Oz at q;split at q
 ·rename_i ks es;cases q;obtain⟨v,rfl,r⟩:=sZ rs;unfold Rv at r;obtain⟨p,xs,rfl,r2,r3,r4⟩:=r;refine⟨p,_,U,r2,λl hl=>?_⟩;rw[aAA r3];exact k _ _ (dO hl _) (uH (aU.refl _) (.gY (Va ks) (HR ks)) hl)
 ·cases q
def Pa:List D→Option D
 | [d]=>(zJ d).bind λds=>if D.gY ds=NG then ND (.tup ds)else none
 | _=>none
def aAB(K:aF):List V→Hp→VK→Prop:=λxs H Q=>∃p ys,xs=[.ref p]∧((pK K H p ys∧∀l,H l=none→Q (.ref l) (upd H l (.tup ys)))∨(zO K H p ys∧Q (.ref p) H))
theorem aAC:yS K (aAB K) Pa:=λvs H ds d Q rs q k=>by
 unfold Pa at q;split at q
 ·rename_i d0;obtain⟨es,q1,q2⟩:=aY q;split at q2
  ·rename_i hi;cases q2;obtain⟨v,rfl,r⟩:=sZ rs;obtain⟨p,xs,rfl,r2,r3⟩:=Mr q1 r;refine⟨p,xs,U,?_⟩;rcases r2 with r2 | r2
   ·exact .inl ⟨r2,λl hl=>k _ _ (dO hl _) (au (.gY hi r3) hl)⟩
   ·exact .inr ⟨r2,k _ H (aU.refl _) (.jK (by unfold D.jK;exact hi) (by unfold Rv;exact⟨p,xs,U,r2,r3⟩))⟩
  ·cases q2
 ·cases q
theorem aAD(hk:X.K=K):nF X (.type "tuple") (aAB K):=by subst hk;exact Sx
def intsOf:List D→Option (List Int)
 | []=>ND []
 | .int i::ds=>(intsOf ds).map (i::·)
 | _=>none
theorem kI:∀ns:List Int,intsOf (ns.map D.int)=ND ns
 | []=>rfl
 | n::ns=>by rw[D3];unfold intsOf;rw[kI ns];rfl
theorem uK:∀{ds:List D} {ns:List Int},intsOf ds=ND ns→ds=ns.map D.int
 | [],ns,h=>by unfold intsOf at h;cases h;rfl
 | d::ds,ns,h=>by
  cases d with
  | int i=>unfold intsOf at h;obtain⟨ms,h1,rfl⟩:=lN h;rw[D3,←uK h1]
  | _=>unfold intsOf at h;cases h
theorem kY{H:Hp}:∀{ns:List Int} {xs:List V},eY K H (ns.map D.int) xs↔xs=ns.map V.int
 | [],xs=>by rw[J2,J2];unfold eY;rfl
 | n::ns,xs=>by
  rw[D3,D3];unfold eY;constructor
  ·rintro⟨y,ys,rfl,h1,h2⟩
   unfold Rv at h1;rw[h1,kY.mp h2]
  ·rintro rfl;exact⟨_,_,U,by unfold Rv;rfl,kY.mpr U⟩
theorem cV:∀ns:List Int,D.gY (ns.map D.int)=NG
 | []=>by rw[J2];unfold D.gY;rfl
 | n::ns=>by rw[D3];unfold D.gY D.jK;rw[cV ns];rfl
theorem vU{H:Hp}{ds:List D}{ns:List Int}{v:V}(h:intsOf ds=ND ns)(r:Rv K H (.lst ds) v):∃p,v=.ref p∧pK K H p (ns.map V.int):=by rw[uK h]at r;unfold Rv at r;obtain⟨p,xs,r1,r2,r3⟩:=r;rw[kY.mp r3]at r2;exact⟨p,r1,r2⟩
def sortI(ns:List Int):List Int:=ns.mergeSort λa b=>decide (a≤b)
theorem jJ(ns:List Int):rising ns (sortI ns):=⟨List.mergeSort_perm _ _,by
 have h:=List.pairwise_mergeSort (le:=λa b:Int=>decide (a≤b)) (λa b c h1 h2=>decide_eq_true (Int.le_trans (of_decide_eq_true h1) (of_decide_eq_true h2))) (λa b=>by
  rw[l3,decide_eq_true_iff,decide_eq_true_iff];exact Int.le_total a b) ns
 exact h.imp λh=>of_decide_eq_true h⟩
theorem Vb:∀{l m:List Int},l.Pairwise (·≤·)→m.Pairwise (·≤·)→l.Perm m→l=m
  | [],m,_,_,p=>(List.Perm.nil_eq p)
  | a::l,[],_,_,p=>absurd p.symm (by simp)
  | a::l,b::m,h1,h2,p=>by
    obtain⟨h1a,h1b⟩:=J3.mp h1;obtain⟨h2a,h2b⟩:=J3.mp h2;have e:a=b:=by
      have q1:a∈b::m:=p.mem_iff.mp D4;have q2:b∈a::l:=p.mem_iff.mpr D4;rcases C9.mp q1 with q1 | q1
      · exact q1
      · rcases C9.mp q2 with q2 | q2
        · exact q2.symm
        · have:=h1a b q2
          have:=h2a a q1;omega
    subst e;rw[Vb h1b h2b (List.Perm.cons_inv p)]
theorem rO{ns ms:List Int}(h:rising ns ms):ms=sortI ns:=Vb h.2 (jJ ns).2 (h.1.trans (jJ ns).1.symm)
def uL:List D→Option D
 | [.lst ds]=>(intsOf ds).bind λns=>if ns.length<64 then ND (.lst ((sortI ns).map D.int))else none
 | _=>none
def bf(K:aF):List V→Hp→VK→Prop:=λxs H Q=>∃(p:A7)(ns:List Int),xs=[.ref p]∧pK K H p (ns.map V.int)∧ns.length<64∧∀l ms,H l=none→rising ns ms→Q (.ref l) (upd H l (.lst (ms.map V.int)))
theorem Jd:yS K (bf K) uL:=λvs H ds d Q rs q k=>by
 unfold uL at q;split at q
 ·obtain⟨ns,q1,q2⟩:=aY q;split at q2
  ·rename_i hl;cases q2;obtain⟨v,rfl,r⟩:=sZ rs;obtain⟨p,rfl,r2⟩:=vU q1 r;refine⟨p,ns,U,r2,hl,λl ms hl hr=>?_⟩;rw[rO hr];exact k _ _ (dO hl _) (uH (aU.refl _) (.gY (cV _) (kY.mpr U)) hl)
  ·cases q2
 ·cases q
theorem Je(hk:X.K=K):nF X (.builtin "sorted") (bf K):=by subst hk;exact GP
def Di:List D→Option (List Bool)
 | []=>ND []
 | .bl i::ds=>(Di ds).map (i::·)
 | _=>none
theorem HW{H:Hp}:∀{ds:List D} {bs:List Bool} {xs:List V},Di ds=ND bs→eY K H ds xs→xs=bs.map V.bl
 | [],bs,xs,h,r=>by unfold Di at h;cases h;unfold eY at r;exact r
 | d::ds,bs,xs,h,r=>by
  cases d with
  | bl i=>unfold Di at h;obtain⟨cs,h1,rfl⟩:=lN h;unfold eY at r;obtain⟨y,ys,rfl,r1,r2⟩:=r;unfold Rv at r1;rw[r1,HW h1 r2];rfl
  | _=>unfold Di at h;cases h
theorem Vc{α:Type}(p:α→Bool):∀l:List α,Di (l.map λx=>D.bl (p x))=ND (l.map p)
 | []=>rfl
 | a::l=>by rw[D3];unfold Di;rw[Vc p l];rfl
def aAE:List D→Option D
 | [.lst ds]=>(Di ds).map λbs=>.bl (bs.all id)
 | _=>none
def aHH(K:aF):List V→Hp→VK→Prop:=λxs H Q=>∃(p:A7)(bs:List Bool),xs=[.ref p]∧pK K H p (bs.map V.bl)∧Q (.bl (bs.all id)) H
theorem aDb{H:Hp}{ds:List D}{bs:List Bool}{v:V}(h:Di ds=ND bs)(r:Rv K H (.lst ds) v):∃p,v=.ref p∧pK K H p (bs.map V.bl):=by unfold Rv at r;obtain⟨p,xs,r1,r2,r3⟩:=r;rw[HW h r3]at r2;exact⟨p,r1,r2⟩
theorem aAF:yS K (aHH K) aAE:=λvs H ds d Q rs q k=>by
 unfold aAE at q;split at q
 ·obtain⟨bs,q1,rfl⟩:=lN q;obtain⟨v,rfl,r⟩:=sZ rs;obtain⟨p,rfl,r2⟩:=aDb q1 r;exact⟨p,bs,U,r2,k _ H (aU.refl _) (.jK U (by unfold Rv;rfl))⟩
 ·cases q
theorem aAG(hk:X.K=K)(hc:X.calm=NG:=by rfl):nF X (.builtin "all") (aHH K):=by subst hk;exact aAp hc
def HX:List D→Option D
 | [.int i,.int j]=>ND (.int (if j > i then j else i))
 | _=>none
def aJ5:List D→Option D
 | [.int i,.int j]=>ND (.int (if j<i then j else i))
 | _=>none
theorem aDc:yS K (λxs H Q=>∃i j,xs=[.int i,.int j]∧Q (.int (if j > i then j else i)) H) HX:=λvs H ds d Q rs q k=>by
 unfold HX at q;split at q
 ·cases q;obtain⟨v,w,rfl,r1,r2⟩:=aAz rs;unfold Rv at r1 r2;exact⟨_,_,by rw[r1,r2],k _ H (aU.refl _) (.jK U (by unfold Rv;rfl))⟩
 ·cases q
def UJ:List Int→Int
 | []=>0
 | [a]=>a
 | a::b::l=>let m:=UJ (b::l);if m<a then m else a
theorem Dw:∀{ns:List Int},0<ns.length→Ml ns (UJ ns)
 | [],h=>absurd h (by simp)
 | [a],_=>⟨E3.mpr U,λb hb=>by rw[E3.mp hb];exact Y7 _⟩
 | a::b::l,_=>by
  obtain⟨h1,h2⟩:=Dw (ns:=b::l) (by simp);unfold UJ;dsimp only;split
  ·rename_i c;refine⟨C8 _ h1,λx hx=>?_⟩;rcases C9.mp hx with q | q
   ·omega
   ·exact h2 x q
  ·rename_i c;refine⟨D4,λx hx=>?_⟩;rcases C9.mp hx with q | q
   ·omega
   ·have:=h2 x q;omega
theorem UL{ns:List Int}{m:Int}(h:Ml ns m):m=UJ ns:=by obtain⟨h1,h2⟩:=Dw (List.length_pos_of_mem h.1);have:=h.2 _ h1;have:=h2 _ h.1;omega
def bh:List D→Option D
 | [.lst ds]=>(intsOf ds).bind λns=>if 0<ns.length then ND (.int (UJ ns))else none
 | _=>none
def aEt(K:aF):List V→Hp→VK→Prop:=λxs H Q=>∃(p:A7)(ns:List Int),xs=[.ref p]∧pK K H p (ns.map V.int)∧0<ns.length∧∀m,Ml ns m→Q (.int m) H
theorem aDd:yS K (aEt K) bh:=λvs H ds d Q rs q k=>by
 unfold bh at q;split at q
 ·obtain⟨ns,q1,q2⟩:=aY q;split at q2
  ·rename_i hl;cases q2;obtain⟨v,rfl,r⟩:=sZ rs;obtain⟨p,rfl,r2⟩:=vU q1 r;refine⟨p,ns,U,r2,hl,λm hm=>?_⟩;rw[UL hm];exact k _ H (aU.refl _) (.jK U (by unfold Rv;rfl))
  ·cases q2
 ·cases q
theorem aDe(hk:X.K=K)(hc:X.calm=NG:=by rfl):nF X (.builtin "min") (aEt K):=by subst hk;exact qg hc
end
end L2


namespace L2
open PySem PySem.Spec PyProof.Rows
section
variable{K:aF}{X:Cx}{e a b c:AB}{es rest:List AB}{t ta tb:TE}{f g:FE}{tA:TA}{fs:FA}{pos:Pos}{tc:TT}{fc fd:FT}{td:TT}
abbrev FO:=DE→Option (Option Int)
def EvO(K:aF)(t:TO)(f:FO):Prop:=∀(σ:St)(H:Hp)(e:DE)(o:Option Int)(Q:Option Int→Hp→Prop),yO K H e σ→f e=ND o→(∀H',aU H H'→Q o H')→t σ H Q
structure XO(K:aF)(X:Cx)(e:Option AB)(t:TO)(f:FO):Prop where
 po:PO X e t
 ev:EvO K t f
def UT:FO:=λ_=>ND none
def qR(f:FE):FO:=λe=>(f e).bind λd=>match d with | .int i=>ND (ND i) | _=>none
theorem aDf:XO K X none ZV UT:=⟨aCJ,λσ H e o Q re q k=>by cases q;exact k H (aU.refl _)⟩
theorem Yg(h:XR K X e t f):XO K X (ND e) (aEd t) (qR f):=⟨aCK h.pe,λσ H e o Q re q k=>by
 unfold qR at q;obtain⟨d,q1,q2⟩:=aY q;split at q2
 ·rename_i i;cases q2;refine h.ev σ H H e _ _ (Zn.self K H) re q1 λv H1 Z1 s1 t1 z1 rv=>?_;unfold Rv at rv;exact⟨i,rv,k H1 s1⟩
 ·cases q2⟩
def Cw{α:Type}(xs:List α)(lo hi:Option Int):List α:=(xs.drop (HT.Nt xs.length 0 lo)).take (HT.Nt xs.length xs.length hi-HT.Nt xs.length 0 lo)
theorem eY.drop{H:Hp}:∀{ds:List D} {xs:List V} (n:Nat),eY K H ds xs→eY K H (ds.drop n) (xs.drop n)
 | ds,xs,0,h=>h
 | [],xs,n+1,h=>by unfold eY at h;subst h;simp;unfold eY;rfl
 | d::ds,xs,n+1,h=>by unfold eY at h;obtain⟨y,ys,rfl,_,h2⟩:=h;simpa using eY.drop n h2
theorem eY.take{H:Hp}:∀{ds:List D} {xs:List V} (n:Nat),eY K H ds xs→eY K H (ds.take n) (xs.take n)
 | ds,xs,0,h=>by simp;unfold eY;rfl
 | [],xs,n+1,h=>by unfold eY at h;subst h;simp;unfold eY;rfl
 | d::ds,xs,n+1,h=>by unfold eY at h;obtain⟨y,ys,rfl,h1,h2⟩:=h;rw[b9,b9];unfold eY;exact⟨y,_,U,h1,eY.take n h2⟩
theorem bj{H:Hp}{ds:List D}{xs:List V}(lo hi:Option Int)(h:eY K H ds xs):eY K H (Cw ds lo hi) (RT xs lo hi):=by unfold Cw RT;rw[h.length];exact(h.drop _).take _
def xx(jK:Bool)(f:FE)(l h:FO):FE:=λe=>(f e).bind λd=>(l e).bind λlo=>(h e).bind λhi=>match d with
 | .lst ds=>if jK=NH∨D.gY (Cw ds lo hi)=NG then ND (.lst (Cw ds lo hi))else none
 | _=>none
theorem HY{jK:Bool}{f:FE}{l h:FO}{e:DE}{d:D}(q:xx jK f l h e=ND d):∃ds lo hi,f e=ND (.lst ds)∧l e=ND lo∧h e=ND hi∧(jK=NH∨D.gY (Cw ds lo hi)=NG)∧d=.lst (Cw ds lo hi):=by
 unfold xx at q;obtain⟨d0,q1,q⟩:=aY q;obtain⟨lo,q2,q⟩:=aY q;obtain⟨hi,q3,q⟩:=aY q;split at q
 ·split at q
  ·rename_i c;cases q;exact⟨_,lo,hi,q1,q2,q3,c,U⟩
  ·cases q
 ·cases q
theorem bu(hk:X.K=K):SlR X (aCN K):=by subst hk;exact aCO
variable{lo hi:Option AB}{tl th:TO}{fl fh:FO}{p2:Pos}
theorem aAH(h:XR K X e t f)(hl:XO K X lo tl fl)(hu:XO K X hi th fh):XR K X (.Subscript e (.Slice lo hi none p2) pos) (tSl (aCN K) t tl th) (xx NH f fl fh):=⟨h.hk,GC (bu h.hk) h.pe hl.po hu.po,λσ H Z e d Q z re q k=>by
 obtain⟨ds,lo,hi,q1,q2,q3,_,rfl⟩:=HY q;refine h.ev σ H Z e _ _ z re q1 λv H1 Z1 s1 t1 z1 rv=>hl.ev σ H1 e lo _ (re.same (z.sm.trans s1)) q2 λH2 s2=>hu.ev σ H2 e hi _ (re.same (z.sm.trans (s1.trans s2))) q3 λH3 s3=>?_;have z3:=Yb z1 (s2.trans s3);have t3:aU Z1 (Xz Z1 H1 H3):=Iw z1;unfold Rv at rv;obtain⟨p,xs,rfl,r2,r3⟩:=rv;refine⟨p,xs,U,z3.sm.seq (t3.seq r2),λl hl=>?_⟩;obtain⟨a1,a2⟩:=TX (o:=.lst (RT xs lo hi)) z3 hl;exact k _ _ _ (s1.trans (s2.trans (s3.trans (dO hl _)))) (t1.trans (t3.trans a1)) a2 (by unfold Rv;exact⟨l,_,U,pK.of cJ,a1.TJ _ _ (t3.TJ _ _ (bj lo hi r3))⟩)⟩
theorem aAI(h:XR K X e t f)(hl:XO K X lo tl fl)(hu:XO K X hi th fh):XN K X (.Subscript e (.Slice lo hi none p2) pos) (tSl (aCN K) t tl th) (xx NG f fl fh):=⟨h.hk,GC (bu h.hk) h.pe hl.po hu.po,λσ H e d Q re q k=>by
 obtain⟨ds,lo,hi,q1,q2,q3,qi,rfl⟩:=HY q;refine h.ev σ H H e _ _ (Zn.self K H) re q1 λv H1 Z1 s1 t1 z1 rv=>hl.ev σ H1 e lo _ (re.same s1) q2 λH2 s2=>hu.ev σ H2 e hi _ (re.same (s1.trans s2)) q3 λH3 s3=>?_;have rv3:=(z1.sm.trans (s2.trans s3)).rv _ _ rv;unfold Rv at rv3;obtain⟨p,xs,rfl,r2,r3⟩:=rv3;refine⟨p,xs,U,r2,λl hl=>?_⟩;have Pb:=s1.trans (s2.trans s3);exact k _ _ (Pb.trans (dO hl _)) (uH Pb (.gY (qi.resolve_left (by decide)) (bj lo hi r3)) hl)⟩
def bw(K:aF):R2:=λx y H Q=>∃l b xs zs,x=.ref l∧y=.ref b∧pK K H l xs∧pK K H b zs∧xs.length+zs.length≤sizeLine∧∀p,H p=none→Q (.ref p) (upd H p (.lst (xs++zs)))
theorem cg(hk:X.K=K):wM X (DL .Add) (bw K):=by
 subst hk;intro pins s σ H x y v u Q I rx ry h;obtain⟨l,b,xs,zs,rfl,rfl,h1,h2,hz,q⟩:=h;cases rx;cases ry;obtain⟨its,r,pl,_⟩:=I.list h1;obtain⟨its2,r2,GQ,_⟩:=I.list h2;obtain⟨⟨cl,dd,da,sl⟩,ho,hc,n,hd⟩:=pl.isList;obtain⟨⟨cl2,dd2,da2,sl2⟩,ho2,hc2,n2,hd2⟩:=GQ.isList;dsimp only at hc hd hc2 hd2;subst hc hd hc2 hd2;have hlen:its.toArray.size+its2.toArray.size≤sizeLine:=by rw[C5,C5,←r.length,←r2.length];exact hz
 have ea:its.toArray++its2.toArray=(its++its2).toArray:=by simp
 refine concat_meets ⟨_,ho,U⟩ ⟨_,ho2,U⟩ noFill_list_add seq_list_add PySem.F.slot_list_add PySem.F.entry_list_add (PySem.F.args_list_add_2 _ _)
  (list_addW l b its.toArray its2.toArray n n2 dd dd2 sl sl2 hlen) ⟨ho,ho2,?_⟩
 rw[ea];exact⟨.ref _,_,I.aHw (t':=s.toks) (r.append r2) (by rw[C7];exact hz),U,q _ I.fresh⟩
def dJ(a b:D):Option D:=match a,b with
 | .int i,.int j=>ND (.int (i+j))
 | .lst x,.lst y=>if D.gY (x++y)=NG∧x.length+y.length≤100000 then ND (.lst (x++y))else none
 | _,_=>none
theorem eY.append{H:Hp}:∀{ds es:List D} {xs ys:List V},eY K H ds xs→eY K H es ys→eY K H (ds++es) (xs++ys)
 | [],es,xs,ys,h,h'=>by unfold eY at h;subst h;exact h'
 | d::ds,es,xs,ys,h,h'=>by unfold eY at h;obtain⟨y,yt,rfl,h1,h2⟩:=h;rw[P0,P0];unfold eY;exact⟨y,_,U,h1,eY.append h2 h'⟩
theorem aDg:TV K (λx y H Q=>xq (λi j=>.int (i+j)) x y H Q∨bw K x y H Q) dJ:=λx y H a b d Q ra rb q k=>by
 unfold dJ at q;split at q
 ·cases q;unfold Rv at ra rb;exact .inl ⟨_,_,ra,rb,k _ H (aU.refl _) (.jK U (by unfold Rv;rfl))⟩
 ·split at q
  ·rename_i c;cases q;unfold Rv at ra rb;obtain⟨p,xs,rfl,r2,r3⟩:=ra;obtain⟨p',xs',rfl,r2',r3'⟩:=rb;refine .inr ⟨p,p',xs,xs',U,U,r2,r2',Uw (by rw[r3.length,r3'.length];exact c.2),λl hl=>?_⟩;exact k _ _ (dO hl _) (uH (aU.refl _) (.gY c.1 (r3.append r3')) hl)
  ·cases q
 ·cases q
theorem cL(ha:XR K X a ta f)(hb:XR K X b tb g):XN K X (.BinOp a .Add b pos) (CW (λx y H Q=>xq (λi j=>.int (i+j)) x y H Q∨bw K x y H Q) ta tb) (f2 dJ f g):=Ux (aFh.or (cg ha.hk)) aDg ha hb
def EvI(K:aF)(wi:TI)(fi:FA):Prop:=∀{N:Fp}(σ:St)(H Z:Hp)(e:DE)(ds:List D)(R:It→Hp→Prop),Zn K N Z H→yO K Z e σ→fi e=ND ds →
 (∀J H' Z' P vs,aU H H'→aU Z Z'→Zn K N Z' H'→JIs J P vs→(∀H2,aU Z' H2→P H2)→eY K Z' ds vs→R J H')→wi σ H R
structure XI(K:aF)(X:Cx)(tg iter:AB)(wi:TI)(fi:FA):Prop where
 hk:X.K=K
 pi:PI X tg iter wi
 ev:EvI K wi fi
def lM(f:FE):FA:=λe=>(f e).bind zJ
def aAJ(K:aF)(t:TE):TI:=λσ H R=>aD9 K t σ H R∨aHk K t σ H R
theorem lR{tg:AB}(h:XR K X e t f):XI K X tg e (aAJ K t) (lM f):=⟨h.hk,by
 have hk:=h.hk;subst hk;exact λpins s σ H R I q=>q.elim (ZM h.pe pins s σ H R I) (yw h.pe pins s σ H R I),λσ H Z e ds R z re q k=>by
 unfold lM at q;obtain⟨d,q1,q2⟩:=aY q;cases d with
 | lst es=>
  unfold zJ at q2;cases q2;refine .inl (h.ev σ H Z e _ _ z re q1 λv H1 Z1 s1 t1 z1 rv=>?_);unfold Rv at rv;obtain⟨p,xs,rfl,r2,r3⟩:=rv;exact⟨p,U,⟨xs,z1.sm.seq r2⟩,k _ H1 Z1 _ xs s1 t1 z1 Ob (λH2 s=>s.seq r2) r3⟩
 | tup es=>
  unfold zJ at q2;cases q2;refine .inr (h.ev σ H Z e _ _ z re q1 λv H1 Z1 s1 t1 z1 rv=>?_);unfold Rv at rv;obtain⟨p,xs,rfl,r2,r3⟩:=rv;exact⟨p,U,⟨xs,z1.sm.tup r2⟩,k _ H1 Z1 _ xs s1 t1 z1 aC1 (λH2 s=>s.tup r2) r3⟩
 | _=>unfold zJ at q2;cases q2⟩
def iY(lo:Int)(n:Nat):List D:=(D2 n).map λi:Nat=>D.int (lo+(i:Int))
theorem Jf{H:Hp}(lo:Int)(n:Nat):eY K H (iY lo n) ((D2 n).map λi:Nat=>V.int (lo+(i:Int))):=by
 unfold iY;refine eY.of (by simp) λi d x h1 h2=>?_;rw[B8]at h1 h2;cases q:(D2 n)[i]? with
 | none=>rw[q]at h1;cases h1
 | some j=>rw[q]at h1 h2;cases h1;cases h2;unfold Rv;rfl
def lim(i:Int):Bool:=decide (-100000≤i∧i≤100000)
def tD(fs:FA):FA:=λe=>(fs e).bind λds=>match ds with
 | [.int n]=>if lim n=NG then ND (iY 0 n.toNat)else none
 | _=>none
def Pg(fs:FA):FA:=λe=>(fs e).bind λds=>match ds with
 | [.int i,.int j]=>if lim i=NG∧lim j=NG then ND (iY i (j-i).toNat)else none
 | _=>none
theorem Yh{i:Int}(h:lim i=NG):-100000≤i∧i≤100000:=of_decide_eq_true h
theorem Jg{tg:AB}{p:Pos}(hg:Gl X "range") (hm:X.mg "range" = none) (ha:XA K X [a] tA fs) (hs:AD [a] X.env=[(NH,AO a X.env)]:=by rfl):XI K X tg (.Call (.Name "range" p) [a] [] pos) (yx tA) (tD fs):=⟨ha.hk,Ug hg hm ha.pa hs,λσ H Z e ds R z re q k=>by
 unfold tD at q;obtain⟨es,q1,q2⟩:=aY q;split at q2
 ·rename_i n;split at q2
  ·rename_i hl;cases q2;have hl:=Yh hl;refine ha.ev σ H Z e _ _ z re q1 λvs H1 Z1 s1 t1 z1 rs=>?_;obtain⟨v,rfl,r⟩:=sZ rs;unfold Rv at r;subst r;exact⟨n,U,by omega,by omega,k _ H1 Z1 _ _ s1 t1 z1 Iv (λ_ _=>True.intro) (Jf 0 n.toNat)⟩
  ·cases q2
 ·cases q2⟩
def rH(e:DE)(fr:List Nat):DE:=fr.map λi=>(e[i]?).getD none
theorem aDh{H:Hp}{e:DE}{σ:St}{fr:List Nat}{d:D}{x:V}(re:yO K H e σ)(r:Rv K H d x):yO K H (ND d::rH e fr) (ND x::SJ σ fr):=λi d' h=>by
 cases i with
 | zero=>simp at h;subst h;exact⟨x,rfl,r⟩
 | succ i=>
  rw[List.getElem?_cons_succ]at h ⊢;unfold rH at h;unfold SJ;rw[B8]at h ⊢;cases q:fr[i]? with
  | none=>rw[q]at h;cases h
  | some j=>
   rw[q]at h;have h:(e[j]?).getD none=ND d':=F4 h;have h2:e[j]?=ND (ND d'):=by
    cases q2:e[j]? with
    | none=>rw[q2]at h;cases h
    | some o=>rw[q2]at h;rw[show o=ND d' from h]
   obtain⟨v,h3,h4⟩:=re j d' h2;refine⟨v,?_,h4⟩;show ND (σ.getD j none)=_;rw[B9,h3];rfl
def oY(c:D→Option Bool)(el:D→Option D):List D→Option (List D)
 | []=>ND []
 | x::xs=>(c x).bind λb=>if b=NG then(el x).bind λy=>(oY c el xs).map (y::·)else oY c el xs
def gF(fi:FA)(fr:List Nat)(fc:FT)(fe:FE):FE:=λe=>(fi e).bind λxs=>if xs.length≤100000 then(oY (λx=>fc (ND x::rH e fr)) (λx=>fe (ND x::rH e fr)) xs).map D.lst else none
theorem tE{H:Hp}{p:A7}{o:HO}(n:yN H p):vP K H (upd H p o):=λa xs h=>h.upd n
theorem cj{wi:TI}{fi:FA}{fr:List Nat}{te:TE}{fe:FE}(hi:EvI K wi fi)(hc:TQ K tc fc)(he:Sg K te fe):Sg K (GJ wi 1 fr (iR 0) tc te) (gF fi fr fc fe):=by
 intro σ H e d Q re q k;unfold gF at q;obtain⟨xs,q1,q⟩:=aY q;split at q
 ·rename_i hlen;obtain⟨ds,q2,rfl⟩:=lN q;refine hi σ H H e xs _ (Zn.self K H) re q1 λJ H1 Z1 P vs s1 t1 z1 hJ hP rvs=>?_;intro D0 hD;have hl:=rvs.length;have hHD:H D0=none:=s1.free hD;generalize hcc:(λx=>fc (ND x::rH e fr))=cc at q2;generalize hel:(λx=>fe (ND x::rH e fr))=el at q2;refine⟨λi m ys H2=>∃ds1 cu A,m=vs.length-i∧i≤vs.length∧ds=ds1++cu∧oY cc el (xs.drop i)=ND cu∧aU H1 H2∧H2 D0=ND (.lst ys)∧dX K H2 ds1 A ys∧(∀a,A a→H1 a=none∧a≠D0)∧ys.length≤i,
   ⟨vs.length,[],ds,nil,by simp,N4 _,U,by simpa using q2,dO hD _,cJ,by unfold dX;exact⟨λ_ z=>z,U⟩,λ_ z=>z.elim,C6 _⟩,?_⟩
  rintro i m ys H2 ⟨ds1,cu,A,rfl,hi',hds,hcl,s2,hD2,ow,fr2,hyl⟩;obtain⟨j1,j2,j3⟩:=hJ i H2 (hP H2 (z1.sm.trans s2));refine⟨hD2,?_⟩;by_cases hlt:i<vs.length
  ·refine .inr ⟨j1 hlt,λx H' y=>?_⟩;obtain⟨e1,ex⟩:=j2 x H' y;subst e1;have hx:=ex hlt;have hxi:i<xs.length:=by omega
   have hxs:xs.drop i=xs[i]::xs.drop (i+1):=L6 hxi;obtain⟨x',hx',rx⟩:=rvs.get (B6 hxi);rw[hx]at hx';cases hx';rw[hxs]at hcl;unfold oY at hcl;obtain⟨bb,c1,c2⟩:=aY hcl;show Kp 1 σ fr (ND x::SJ σ fr)∧_;refine⟨⟨by simp[blk],λj v hv=>?_⟩,?_⟩
   ·cases j with
    | zero=>simp[blk]at hv
    | succ j=>simpa[blk]using hv
   have re2:yO K H' (ND xs[i]::rH e fr) (ND x::SJ σ fr):=aDh (re.same (s1.trans s2)) ((z1.sm.trans s2).rv _ _ rx);refine hc _ H' _ bb _ re2 (by rw[←hcc]at c1;exact c1) λH3 s3=>?_;have hD3:=s3 _ _ hD2;cases bb with
   | false=>rw[if_neg (by decide)]at c2 ⊢;exact⟨vs.length-(i+1),by omega,ds1,cu,A,U,by omega,hds,c2,s2.trans s3,hD3,ow.same s3,fr2,by omega⟩
   | true=>
    rw[if_pos rfl]at c2 ⊢;obtain⟨dy,c3,c4⟩:=aY c2;obtain⟨ds3,c5,rfl⟩:=lN c4;refine he _ H3 _ dy _ (re2.same s3) (by rw[←hel]at c3;exact c3) λyv H4 s4 n4=>?_;have hD4:=s4 _ _ hD3;refine⟨hD4,Ot (by omega),vs.length-(i+1),by omega,ds1++[dy],ds3,?_⟩;obtain⟨B,oB,fB⟩:=n4;have hB:∀a,B a→H1 a=none∧a≠D0:=λa qa=>⟨(s2.trans s3).free (fB a qa),λz=>by have q0:=fB a qa;rw[z,hD3]at q0;cases q0⟩
    refine⟨fK A B,U,by omega,by rw[hds];simp,c5,λb o eb=>?_,cJ,?_,λa qa=>qa.elim (fr2 a) (hB a),by rw[C7];simp;exact hyl⟩
    ·rw[bQ (iQ eb hD)];exact(s2.trans (s3.trans s4)) b o eb
    ·have o4:=(ow.same s3).same s4;have ap:Apart A B:=λa qa qb=>by obtain⟨⟨u,eu⟩,_⟩:=dX.cells _ _ _ (ow.same s3) a qa;rw[fB a qb]at eu;cases eu
     have all:dX K H4 (ds1++[dy]) (fK A B) (ys++[yv]):=cG.mpr ((cG.mp o4).snoc oB ap);exact dX.frame (tE (sJ hD4)) _ _ _ all λa qa=>bQ (qa.elim (λz=>(fr2 a z).2) λz=>(hB a z).2)
  ·have ei:i=vs.length:=by omega
   subst ei;have:xs.drop vs.length=[]:=List.drop_eq_nil_of_le (by omega);rw[this]at hcl;unfold oY at hcl;cases hcl;rw[F9]at hds;subst hds;refine .inl ⟨j3 (C6 _),k _ H2 (s1.trans s2) ⟨fK (·=D0) A,?_,λa qa=>qa.elim (λz=>by cases z;exact hHD) λz=>s1.free (fr2 a z).1⟩⟩;unfold Ow;exact⟨D0,ys,A,U,hD2,λz=>(fr2 D0 z).2 U,λ_=>Iff.rfl,ow⟩
 ·cases q
def jN:FT:=λ_=>ND NG
structure XTs(K:aF)(X:Cx)(ifs:List AB)(t:TT)(f:FT):Prop where
 pts:PTs X ifs t
 ev:TQ K t f
theorem nU:XTs K X [] aHA jN:=⟨aCV,λσ H e b Q re q k=>by cases q;exact k H (aU.refl _)⟩
theorem Gg(h:XT K X c tc fc):XTs K X [c] tc fc:=⟨aCW h.pt,h.ev⟩
theorem kJ{tg elt iter:AB}{ifs:List AB}{scope:BF}{wi:TI}{fi:FA}{te:TE}{fe:FE}(N:List Str)(fr:List Nat)(hcalm:X.calm=NG)(B:kO X.env.scope scope X.N N 1 fr)(hi:XI K X tg iter wi fi)
  (hg:∀cl fp s H C,PG (lE X scope N cl fp s H C) tg (iR 0)) (hc:∀cl fp s H C,XTs K (lE X scope N cl fp s H C) ifs tc fc) (he:∀cl fp s H C,XN K (lE X scope N cl fp s H C) elt te fe)
  (hs:∀x,B4 iter X.env x=pure x:=by intro _;rfl):XN K X (.ListComp elt [⟨tg,iter,ifs,0⟩] scope pos) (GJ wi 1 fr (iR 0) tc te) (gF fi fr fc fe):=
 ⟨hi.hk,aCZ N 1 fr hcalm B hi.pi hg (λcl fp s H C=>(hc cl fp s H C).pts) (λcl fp s H C=>(he cl fp s H C).pe) hs,
  cj hi.ev (hc [] [] X.s₀ X.H₀ 0).ev (he [] [] X.s₀ X.H₀ 0).ev⟩
def iD(K:aF)(n:Nat)(F:List D→Option D):Sp:=λvs H Q _=>∃ds d,ds.length=n∧eY K H ds vs∧F ds=ND d∧∀v H',aU H H'→Mm K H H' d v→Q v H'
def dD(n:Nat)(F:List D→Option D)(fs:FA):FE:=λe=>(fs e).bind λds=>if ds.length=n then F ds else none
theorem cZ{x:Str}{k n:Nat}{F:List D→Option D}{p:Pos}(C:qL X.prog X.w X.K X.mg X.base x k n (iD K n F))(hr:jR k X.A)(hg:Gl X x)(ha:XA K X (e::es) tA fs)(hdb:(x==("__debug__" : Str))=NH:=by decide)
  (he:AD (e::es) X.env=(NH,AO e X.env)::AD es X.env:=by rfl) (hpl:(AY pos (AD es X.env)).any (·.1)=NH:=by rfl):XN K X (.Call (.Name x p) (e::es) [] pos) (Uj (iD K n F) [] E0 tA) (dD n F fs):=
 ⟨ha.hk,aAs C hr hg ha.pa hdb he hpl,λσ H e d Q re q k=>by
  unfold dD at q;obtain⟨ds,q1,q2⟩:=aY q;split at q2
  ·rename_i hl;refine call_of (ha.ev σ H H e ds _ (Zn.self K H) re q1 λvs H1 Z1 s1 t1 z1 rs=>?_);exact⟨ds,d,hl,z1.sm.TJ _ _ rs,q2,λv H2 s2 n=>k v H2 (s1.trans s2) (n.back s1)⟩
  ·cases q2⟩
end
end L2


namespace L2
open PySem PySem.Spec PyProof.Rows
inductive SD where
  | no | fro (d:D) | own (d:D) | inn (v:V) (d:D)
def SD.z:SD→Option D
 | .fro d=>ND d
 | .own d=>if d.jK=NG then ND d else none
 | .inn _ d=>if d.jK=NG then ND d else none
 | .no=>none
def SD.r:SD→Option D
 | .fro d=>ND d
 | .own d=>ND d
 | .inn _ d=>ND d
 | .no=>none
abbrev EN:=List SD
def zE(env:EN):DE:=env.map SD.z
def rE(env:EN):DE:=env.map SD.r
def fZ(K:aF)(H Z:Hp):SD→Fp→Option V→Prop
 | .no,A,_=>None A
 | .fro d,A,y=>None A∧∃v,y=ND v∧Rv K Z d v
 | .own d,A,y=>∃v,y=ND v∧Ow K H d A v
 | .inn v d,A,y=>y=ND v∧Ow K H d A v
def Rel(K:aF)(B:Hp)(env:EN)(σ:St)(H:Hp):Prop:=∃A,eU (fZ K H (out H A)) env A σ∧aU B (out H A)
section
variable{K:aF}{B B' H H' Z Z':Hp}{env:EN}{σ:St}{A:Fp}
theorem eU.all{α β:Type}{R:α→Fp→β→Prop}{Pr:A7→Prop}:∀{ds:List α} {A:Fp} {ys:List β},eU R ds A ys→(∀d B y,R d B y→∀a,B a→Pr a)→∀a,A a→Pr a
 | [],A,ys,h,_,a,q=>absurd q (h.1 a)
 | d::ds,A,ys,⟨y,yt,A1,A2,h1,h2,h3,h4,h5⟩,m,a,q=>((h3 a).mp q).elim (m _ _ _ h4 a) (eU.all h5 m a)
theorem fZ.cells{s:SD}{y:Option V}(h:fZ K H Z s A y):∀a,A a→lO H a:=by
 cases s with
 | no=>exact λa q=>absurd q (h a)
 | fro d=>exact λa q=>absurd q (h.1 a)
 | own d=>obtain⟨v,_,o⟩:=h;exact Ow.cells d A v o
 | inn v d=>exact Ow.cells d A v h.2
theorem jB(h:eU (fZ K H Z) env A σ):∀a,A a→lO H a:=eU.all h λ_ _ _ q=>q.cells
theorem Rel.len(h:Rel K B env σ H):σ.length=env.length:=let ⟨_,s,_⟩:=h;s.len
theorem Rel.mono(h:Rel K B' env σ H)(s:aU B B'):Rel K B env σ H:=let ⟨A,a,b⟩:=h;⟨A,a,s.trans b⟩
theorem bU{A A':Fp}(s:aU H H')(h:∀a,A' a→A a∨H a=none):aU (out H A) (out H' A'):=λb o e=>by
 obtain⟨e1,e2⟩:=bA.mp e;refine bA.mpr ⟨λq=>?_,s b o e2⟩;rcases h b q with q | q
 ·exact e1 q
 ·rw[q]at e2;cases e2
theorem fZ.same{s:SD}{y:Option V}(h:fZ K H Z s A y)(e:aU H H')(z:aU Z Z'):fZ K H' Z' s A y:=by
 cases s with
 | no=>exact h
 | fro d=>obtain⟨h1,v,h2,h3⟩:=h;exact⟨h1,v,h2,z.rv _ _ h3⟩
 | own d=>obtain⟨v,h1,h2⟩:=h;exact⟨v,h1,h2.same e⟩
 | inn v d=>exact⟨h.1,h.2.same e⟩
theorem Rel.same(h:Rel K B env σ H)(s:aU H H'):Rel K B env σ H':=by obtain⟨A,a,b⟩:=h;have g:aU (out H A) (out H' A):=bU s λa q=>.inl q;exact⟨A,a.mono λe C z _ q=>q.same s g,b.trans g⟩
theorem Ph(h:eU (fZ K H (out H A)) env A σ):Zn K A (out H A) H:=⟨kW H A,Oj λa q=>(jB h a q).2,λa q=>⟨by
 unfold out;rw[if_pos q],λz=>by obtain⟨⟨o,e⟩,_⟩:=jB h a q;rw[z]at e;cases e⟩⟩
theorem Rel.r(h:Rel K B env σ H):yO K H (rE env) σ:=λi d q=>by
 obtain⟨A,a,b⟩:=h;unfold rE at q;rw[B8]at q;cases e:env[i]? with
 | none=>rw[e]at q;cases q
 | some s=>
  rw[e]at q;obtain⟨y,A1,C,h1,h2,h3,h4,_⟩:=a.focus e;cases s with
  | no=>cases q
  | fro d0=>cases q;obtain⟨_,v,rfl,h5⟩:=h4;exact⟨v,h1,(kW H A).rv _ _ h5⟩
  | own d0=>cases q;obtain⟨v,rfl,h5⟩:=h4;exact⟨v,h1,Ow.rv _ _ _ h5⟩
  | inn v d0=>cases q;obtain⟨rfl,h5⟩:=h4;exact⟨v,h1,Ow.rv _ _ _ h5⟩
theorem aEu(a:eU (fZ K H (out H A)) env A σ):yO K (out H A) (zE env) σ:=λi d q=>by
 unfold zE at q;rw[B8]at q;cases e:env[i]? with
 | none=>rw[e]at q;cases q
 | some s=>
  rw[e]at q;obtain⟨y,A1,C,h1,h2,h3,h4,_⟩:=a.focus e;cases s with
  | no=>cases q
  | fro d0=>cases q;obtain⟨_,v,rfl,h5⟩:=h4;exact⟨v,h1,h5⟩
  | own d0=>
   obtain⟨v,rfl,h5⟩:=h4;have q:(if d0.jK=NG then ND d0 else none)=ND d:=F4 q;split at q
   ·rename_i im;cases q;exact⟨v,h1,(zX _ v im (Ow.rv _ _ _ h5)).out (λ_ z=>z.elim) λx hx=>(jB a x hx).2⟩
   ·cases q
  | inn v d0=>
   obtain⟨rfl,h5⟩:=h4;have q:(if d0.jK=NG then ND d0 else none)=ND d:=F4 q;split at q
   ·rename_i im;cases q;exact⟨v,h1,(zX _ v im (Ow.rv _ _ _ h5)).out (λ_ z=>z.elim) λx hx=>(jB a x hx).2⟩
   ·cases q
theorem Rel.own{i:Nat}{d:D}{v:V}(h:Rel K B env σ H)(hi:i<env.length)(s:aU H H')(n:Mm K H H' d v):Rel K B (env.set i (.own d)) (σ.set i (ND v)) H':=by obtain⟨A,a,b⟩:=h;obtain⟨N,o,f⟩:=n;have cl:=jB a;obtain⟨y,A1,C,h1,h2,h3,h4,k⟩:=a.focus (B6 hi);have g:aU (out H A) (out H' (fK N C)):=bU s λx q=>q.elim (λq=>.inr (f x q)) λq=>.inl ((h3 x).mpr (.inr q));refine⟨fK N C,k (fZ K H' (out H' (fK N C))) (λe D z _ q=>q.same s g) (.own d) (ND v) N (λx q c=>?_) ⟨v,U,o⟩,b.trans g⟩;obtain⟨⟨u,e⟩,_⟩:=cl x ((h3 x).mpr (.inr c));rw[f x q]at e;cases e
theorem Mu{i:Nat}{d:D}{v:V}(a:eU (fZ K H (out H A)) env A σ)(b:aU B (out H A))(hi:i<env.length)(s:aU H H')(t:aU (out H A) Z')(z:Zn K A Z' H')(r:Rv K Z' d v):Rel K B (env.set i (.fro d)) (σ.set i (ND v)) H':=by obtain⟨y,A1,C,h1,h2,h3,h4,k⟩:=a.focus (B6 hi);have hC:∀x,fK nil C x→A x:=λx q=>q.elim False.elim λq=>(h3 x).mpr (.inr q);have g:aU (out H A) (out H' (fK nil C)):=bU s λx q=>.inl (hC x q);have g2:aU Z' (out H' (fK nil C)):=λx o e=>bA.mpr ⟨λq=>(by rw[(z.no x (hC x q)).1]at e;cases e),z.sm x o e⟩;exact⟨fK nil C,k (fZ K H' (out H' (fK nil C))) (λe D z _ q=>q.same s g) (.fro d) (ND v) nil (λx q c=>q) ⟨λ_ z=>z,v,U,g2.rv _ _ r⟩,b.trans g⟩
def aAK(env:EN)(j:Nat):EN:=match env[j]? with
 | some (.own d)=>env.set j (.fro d)
 | _=>env
def zA(js:List Nat)(env:EN):EN:=js.foldl aAK env
theorem set_same{α:Type}{l:List α}{i:Nat}{x:α}(h:l[i]?=ND x):l.set i x=l:=by
 apply K6;intro j;rw[F8];by_cases c:i=j
 ·subst c;rw[if_pos U,h];split
  ·rfl
  ·rename_i q;rw[E8 (by omega)]at h;cases h
 ·rw[if_neg c]
theorem Rel.aAK{j:Nat}(h:Rel K B env σ H):Rel K B (aAK env j) σ H:=by
 unfold L2.aAK;cases e:env[j]? with
 | none=>exact h
 | some s=>
  cases s with
  | no=>exact h
  | fro d=>exact h
  | inn v d=>exact h
  | own d=>
   obtain⟨A,a,b⟩:=h;have cl:=jB a;obtain⟨y,A1,C,h1,h2,h3,h4,k⟩:=a.focus e;obtain⟨v,rfl,o⟩:=h4;have g:aU (out H A) (out H (fK nil C)):=bU (aU.refl _) λx q=>q.elim False.elim λq=>.inl ((h3 x).mpr (.inr q));have:=k (fZ K H (out H (fK nil C))) (λe D z _ q=>q.same (aU.refl _) g) (.fro d) (ND v) nil (λx q c=>q)
    ⟨λ_ z=>z,v,U,o.out (λx q c=>h2 x q (c.elim False.elim id)) λx q=>(cl x ((h3 x).mpr (.inr (q.elim False.elim id)))).2⟩
   rw[set_same h1]at this;exact⟨fK nil C,this,b.trans g⟩
theorem Rel.zA{js:List Nat}(h:Rel K B env σ H):Rel K B (zA js env) σ H:=by
 unfold L2.zA
 induction js generalizing env with
 | nil=>exact h
 | cons j js ih=>exact ih h.aAK
end
inductive SR where
  | next (env:EN) | ret (d:D) | brk (env:EN) | cont (env:EN) | bad | rete (d:D) (env:EN)
def Pj(K:aF)(B:Hp)(E:Ends):SR→Prop
 | .next env=>∀σ H,Rel K B env σ H→E.nx σ H
 | .ret d=>∀v H A,aU B (out H A)→Ow K H d A v→E.rt v H
 | .brk env=>∀σ H,Rel K B env σ H→E.bk σ H
 | .cont env=>∀σ H,Rel K B env σ H→E.ct σ H
 | .bad=>False
 | .rete d env=>∀v σ H,Rel K B (env++[.own d]) (σ++[ND v]) H→E.rt v H
theorem Pj.mono{K:aF}{B B':Hp}{E:Ends}{r:SR}(h:Pj K B E r)(s:aU B B'):Pj K B' E r:=by
 cases r with
 | next env=>exact λσ H q=>h σ H (q.mono s)
 | ret d=>exact λv H A q=>h v H A (s.trans q)
 | brk env=>exact λσ H q=>h σ H (q.mono s)
 | cont env=>exact λσ H q=>h σ H (q.mono s)
 | bad=>exact h
 | rete d env=>exact λv σ H q=>h v σ H (q.mono s)
abbrev GS:=EN→SR
def DS(K:aF)(t:TS)(g:GS):Prop:=∀(B:Hp)(E:Ends)(σ:St)(H:Hp)(env:EN),Rel K B env σ H→Pj K B E (g env)→t E σ H
def aHI(K:aF)(B:Hp)(E:Ends)(σ:St):SR→Prop
 | .next env=>∀H,Rel K B env σ H→E.nx σ H
 | r=>Pj K B E r
def qm(K:aF)(t:TS)(g:GS):Prop:=∀(B:Hp)(E:Ends)(σ:St)(H:Hp)(env:EN),Rel K B env σ H→aHI K B E σ (g env)→t E σ H
theorem qm.ds{K:aF}{t:TS}{g:GS}(h:qm K t g):DS K t g:=λB E σ H env r p=>h B E σ H env r (by
 cases q:g env with
 | next e=>rw[q]at p;exact λH' r'=>p σ H' r'
 | ret d=>rw[q]at p;exact p
 | brk e=>rw[q]at p;exact p
 | cont e=>rw[q]at p;exact p
 | bad=>rw[q]at p;exact p
 | rete d e=>rw[q]at p;exact p)
structure YS(K:aF)(X:Cx)(st:AH)(t:TS)(g:GS):Prop where
 ps:PS X st t
 ev:DS K t g
structure YB(K:aF)(X:Cx)(st:List AH)(t:TS)(g:GS):Prop where
 ps:DY X st t
 ev:DS K t g
section
variable{K:aF}{X:Cx}{st:AH}{sts:List AH}{t u:TS}{g g1 g2:GS}{e a b c:AB}{te ta tb:TE}{f fa fb:FE}{tc:TT}{fc:FT}{pos:Pos}
def aX(g1 g2:GS):GS:=λenv=>match g1 env with
 | .next env'=>g2 env'
 | r=>r
theorem aFU(h1:DS K t g1)(h2:DS K u g2):DS K (aFb t u) (aX g1 g2):=λB E σ H env r p=>by
 unfold aX at p;refine h1 B {E with nx:=u E} σ H env r ?_;cases q:g1 env with
 | next env'=>rw[q]at p;exact λσ' H' r'=>h2 B E σ' H' env' r' p
 | ret d=>rw[q]at p;exact p
 | brk d=>rw[q]at p;exact p
 | cont d=>rw[q]at p;exact p
 | bad=>rw[q]at p;exact p
 | rete d e=>rw[q]at p;exact p
def fG:GS:=λenv=>.next env
theorem fM:YB K X [] aD6 fG:=⟨aCw,λB E σ H env r p=>p σ H r⟩
theorem aV(h:YS K X st t g):YB K X [st] t g:=⟨ZL h.ps,h.ev⟩
theorem aO(h:YS K X st t g1)(h2:YB K X sts u g2):YB K X (st::sts) (aFb t u) (aX g1 g2):=⟨yl h.ps h2.ps,aFU h.ev h2.ev⟩
def dG(i:Nat)(f:FE):GS:=λenv=>match f (rE env)with
 | some d=>if i<env.length then .next (env.set i (.own d))else .bad
 | none=>.bad
theorem aAL{i:Nat}(h:Sg K te f):DS K (uD te (iR i)) (dG i f):=λB E σ H env r p=>by
 unfold dG at p;split at p
 ·rename_i d q;split at p
  ·rename_i hi;exact h σ H (rE env) d _ r.r q λv H' s n=>p _ _ (r.own hi s n)
  ·exact p.elim
 ·exact p.elim
theorem bM{i:Nat}{x:Str}{pos':Pos}(h:XN K X e te f)(hp:PE X e te→PS X (.Assign [.Name x pos'] e pos) (uD te (iR i))):YS K X (.Assign [.Name x pos'] e pos) (uD te (iR i)) (dG i f):=⟨hp h.pe,aAL h.ev⟩
def fO(f:FE):GS:=λenv=>match f (rE env)with
 | some d=>.ret d
 | none=>.bad
theorem bV(h:XN K X e te f):YS K X (.Return (ND e) pos) (yo te) (fO f):=⟨Xc h.pe,λB E σ H env r p=>by
 unfold fO at p;split at p
 ·rename_i d q;refine h.ev σ H (rE env) d _ r.r q λv H' s ⟨N,o,fr⟩=>p v H' N (λx u ex=>?_) o;obtain⟨A,a,b⟩:=r;have h1:=(bA.mp (b x u ex)).2;exact bA.mpr ⟨λz=>(by rw[fr x z]at h1;cases h1),s x u h1⟩
 ·exact p.elim⟩
def Dj(i:Nat):GS:=λenv=>match env[i]? with
 | some (.own d)=>.ret d
 | some (.fro d)=>if d.jK=NG then .ret d else .bad
 | _=>.bad
theorem Yi{i:Nat}(h:PE X e (qN i)):YS K X (.Return (ND e) pos) (yo (qN i)) (Dj i):=⟨Xc h,λB E σ H env r p=>by
 unfold Dj at p;obtain⟨A,a,b⟩:=r;split at p
 ·rename_i d q;obtain⟨y,A1,C,h1,h2,h3,h4,_⟩:=a.focus q;obtain⟨v,rfl,o⟩:=h4;exact⟨v,h1,p v H A1 (b.trans (bU (aU.refl _) λx z=>.inl ((h3 x).mpr (.inl z)))) o⟩
 ·rename_i d q;split at p
  ·rename_i im;obtain⟨y,A1,C,h1,h2,h3,h4,_⟩:=a.focus q;obtain⟨_,v,rfl,rv⟩:=h4;exact⟨v,h1,p v H nil (b.trans (bU (aU.refl _) λx z=>z.elim)) (zX d v im ((kW H A).rv _ _ rv))⟩
  ·exact p.elim
 ·exact p.elim⟩
def yU(f:FE):GS:=λenv=>match f (rE env)with
 | some _=>.next env
 | none=>.bad
theorem aDi(h:Iz K te f):DS K (nD te) (yU f):=λB E σ H env r p=>by
 unfold yU at p;split at p
 ·rename_i d q;exact h σ H H (rE env) d _ (Zn.self K H) r.r q λv H' Z' s t z rv=>p _ _ (r.same s)
 ·exact p.elim
def qM(f:FT)(g1 g2:GS):GS:=λenv=>match f (rE env)with
 | some NG=>g1 env
 | some NH=>g2 env
 | none=>.bad
theorem iT{s1 s2:List AH}(hc:XT K X c tc fc)(h1:YB K X s1 t g1)(h2:YB K X s2 u g2):YS K X (.If c s1 s2 pos) (aHe tc t u) (qM fc g1 g2):=⟨aHf hc.pt h1.ps h2.ps,λB E σ H env r p=>by
 unfold qM at p;split at p
 ·rename_i q;refine hc.ev σ H (rE env) NG _ r.r q λH' s=>?_;rw[if_pos rfl];exact h1.ev B E σ H' env (r.same s) p
 ·rename_i q;refine hc.ev σ H (rE env) NH _ r.r q λH' s=>?_;rw[if_neg (by decide)];exact h2.ev B E σ H' env (r.same s) p
 ·exact p.elim⟩
def Dy(i:Nat)(g:GS):List D→EN→SR
 | [],env=>.next env
 | x::xs,env=>if i<env.length then match g (env.set i (.fro x))with
   | .next env'=>Dy i g xs env'
   | .cont env'=>Dy i g xs env'
   | .brk env'=>.next env'
   | r=>r
  else .bad
def Th(js:List Nat)(i:Nat)(fi:FA)(g:GS):GS:=λenv=>match fi (zE (zA js env))with
 | some xs=>Dy i g xs (zA js env)
 | none=>.bad
theorem aFV{js:List Nat}{i:Nat}{wi:TI}{fi:FA}{tb:TS}(hi:EvI K wi fi)(h:DS K tb g):DS K (Xf wi (iR i) tb) (Th js i fi g):=λB E σ H env r p=>by
 unfold Th at p;have r':Rel K B (zA js env) σ H:=r.zA;generalize zA js env=Dz at r' p;split at p
 ·rename_i xs q;obtain⟨A,a,b⟩:=r';refine hi σ H (out H A) (zE Dz) xs _ (Ph a) (aEu a) q λJ H1 Z1 P vs s t z hJ hP rvs=>?_;have hl:=rvs.length;have g0:aU Z1 (out H1 A):=λx o e=>bA.mpr ⟨λqa=>(by rw[(z.no x qa).1]at e;cases e),z.sm x o e⟩;have aJd:Rel K Z1 Dz σ H1:=⟨A,a.mono λe D y _ qq=>qq.same s (bU s λx q=>.inl q),g0⟩
  have bz:aU B Z1:=b.trans t;have p':=p.mono bz;refine Mj hJ (λk σ2 H2=>∃fH,Rel K Z1 fH σ2 H2∧Pj K Z1 E (Dy i g (xs.drop k) fH)) ⟨Dz,aJd,by simpa using p'⟩ (λk σ2 H2 _ ⟨fH,⟨A2,a2,b2⟩,_⟩=>hP H2 (b2.trans (kW H2 A2))) ?_ ?_
  ·rintro k x σ2 H2 hx ⟨fH,r2,p2⟩;have hk:k<xs.length:=by have:=D1.mp hx;obtain⟨h1,_⟩:=this;omega
   rw[L6 hk]at p2;unfold Dy at p2;obtain⟨x',hx',rx⟩:=rvs.get (B6 hk);rw[hx]at hx';cases hx';split at p2
   ·rename_i hlen;obtain⟨A2,a2,b2⟩:=r2;have r3:Rel K Z1 (fH.set i (.fro xs[k])) (σ2.set i (ND x)) H2:=Mu a2 b2 hlen (aU.refl _) (aU.refl _) (Ph a2) (b2.rv _ _ rx);refine h Z1 _ _ H2 _ r3 ?_;split at p2
    ·rename_i env' q2;rw[q2];exact λσ' H' r'=>⟨env',r',p2⟩
    ·rename_i env' q2;rw[q2];exact λσ' H' r'=>⟨env',r',p2⟩
    ·rename_i env' q2;rw[q2];exact p2
    ·rename_i n1 n2 n3;cases q2:g (fH.set i (.fro xs[k]))with
     | next e=>exact absurd q2 (n1 e)
     | cont e=>exact absurd q2 (n2 e)
     | brk e=>exact absurd q2 (n3 e)
     | ret d=>rw[q2]at p2;exact p2
     | bad=>rw[q2]at p2;exact p2
     | rete d e=>rw[q2]at p2;exact p2
   ·exact p2.elim
  ·rintro σ2 H2 ⟨fH,r2,p2⟩;rw[hl,X1]at p2;exact p2 σ2 H2 r2
 ·exact p.elim
def qT(c:FT)(g:GS):Nat→EN→SR
 | 0,_=>.bad
 | n+1,env=>match c (rE env)with
  | some NG=>(match g env with
   | .next env'=>qT c g n env'
   | .cont env'=>qT c g n env'
   | .brk env'=>.next env'
   | r=>r)
  | some NH=>.next env
  | none=>.bad
theorem aAM{n:Nat}{tb:TS}(hc:TQ K tc fc)(h:DS K tb g):DS K (RC tc tb) (qT fc g n):=λB E σ H env r p=>by
 refine⟨λm σ2 H2=>∃fH,Rel K B fH σ2 H2∧Pj K B E (qT fc g m fH),⟨n,env,r,p⟩,?_⟩;rintro m σ2 H2 ⟨fH,r2,p2⟩;cases m with
 | zero=>exact p2.elim
 | succ m=>
  unfold qT at p2;split at p2
  ·rename_i q;refine hc σ2 H2 (rE fH) NG _ r2.r q λH3 s=>?_;rw[if_pos rfl];refine⟨λσ' H'=>∃env',Rel K B env' σ' H'∧Pj K B E (qT fc g m env'),λσ' H' ⟨env',a1,a2⟩=>⟨m,M0 m,env',a1,a2⟩,?_⟩;refine h B _ σ2 H3 fH (r2.same s) ?_;split at p2
   ·rename_i env' q2;rw[q2];exact λσ' H' r'=>⟨env',r',p2⟩
   ·rename_i env' q2;rw[q2];exact λσ' H' r'=>⟨env',r',p2⟩
   ·rename_i env' q2;rw[q2];exact p2
   ·rename_i n1 n2 n3;cases q2:g fH with
    | next e=>exact absurd q2 (n1 e)
    | cont e=>exact absurd q2 (n2 e)
    | brk e=>exact absurd q2 (n3 e)
    | ret d=>rw[q2]at p2;exact p2
    | bad=>rw[q2]at p2;exact p2
    | rete d e=>rw[q2]at p2;exact p2
  ·rename_i q;refine hc σ2 H2 (rE fH) NH _ r2.r q λH3 s=>?_;rw[if_neg (by decide)];exact p2 σ2 H3 (r2.same s)
  ·exact p2.elim
theorem Yj{tg iter:AB}{body:List AH}{wi:TI}{fi:FA}{tb:TS}{i:Nat}(js:List Nat)(hp:EC (AG X.prog X.w) X.A X.env X.xe)(UW:X.calm=NG)(hi:XI K X tg iter wi fi)(hg:PG X tg (iR i))(hb:YB K X body tb g)
  (hs:∀x,B4 iter X.env x=pure x:=by intro _;rfl):YS K X (.For tg iter body [] pos) (Xf wi (iR i) tb) (Th js i fi g):=⟨Xg hp UW hi.pi hg hb.ps hs,aFV hi.ev hb.ev⟩
theorem aAN{body:List AH}{tb:TS}(n:Nat)(hp:EC (AG X.prog X.w) X.A X.env X.xe)(hc:XT K X c tc fc)(hb:YB K X body tb g):YS K X (.While c body [] pos) (RC tc tb) (qT fc g n):=⟨yr hp hc.pt hb.ps,aAM hc.ev hb.ev⟩
end
end L2


namespace L2
open PySem PySem.Spec PyProof.Rows
inductive Step where
  | ix (k:Nat) | key (k:Key) | fld (C:A7) (f:Str)
def kids:D→List D
 | .lst ds=>ds
 | .dk _ ds=>ds
 | .ins _ _ ds=>ds
 | _=>[]
def Gh:D→List D→D
 | .lst _,ds=>.lst ds
 | .dk ks _,ds=>.dk ks ds
 | .ins C nm _,ds=>.ins C nm ds
 | d,_=>d
def Cy:Step→D→Option Nat
 | .ix k,.lst ds=>ND k
 | .key k,.dk ks _=>posK ks k
 | .fld C f,.ins C' nm _=>if C'=C then posK nm f else none
 | _,_=>none
def eO:List Step→D→Option D
 | [],d=>ND d
 | s::p,d=>(Cy s d).bind λj=>((kids d)[j]?).bind (eO p)
def dR:List Step→D→D→D
 | [],_,d'=>d'
 | s::p,d,d'=>match Cy s d with
  | some j=>(match (kids d)[j]? with
   | some c=>Gh d ((kids d).set j (dR p c d'))
   | none=>d)
  | none=>d
def stepV(H:Hp)(s:Step)(v:V):Option V:=match v with
 | .ref a=>(match s,H a with
  | .ix k,ND (.lst xs)=>xs[k]?
  | .key k,ND (.dK kvs)=>wQ kvs k
  | .fld C f,ND (.ins C' _ fs)=>if C'=C then fs.lookup f else none
  | _,_=>none)
 | _=>none
def Le(H:Hp):List Step→V→Option V
 | [],v=>ND v
 | s::p,v=>(stepV H s v).bind (Le H p)
theorem VB{H H':Hp}(e:aU H H'){s:Step}{v w:V}(h:stepV H s v=ND w):stepV H' s v=ND w:=by
 cases v with
 | ref a=>
  unfold stepV at h ⊢;dsimp only at h ⊢;cases q:H a with
  | none=>rw[q]at h;cases s<;>cases h
  | some o=>rw[e a o q];rw[q]at h;exact h
 | _=>unfold stepV at h;cases h
theorem tG{H H':Hp}(e:aU H H'):∀{p:List Step} {v w:V},Le H p v=ND w→Le H' p v=ND w
 | [],v,w,h=>h
 | s::p,v,w,h=>by unfold Le at h ⊢;obtain⟨u,h1,h2⟩:=aY h;rw[VB e h1];exact tG e h2
theorem Ea{nm:List Str}{xs:List V}{f:Str}(h:nm.length=xs.length):(nm.zip xs).lookup f=(posK nm f).bind λj=>xs[j]?:=by
 induction nm generalizing xs with
 | nil=>unfold posK;rfl
 | cons a nm ih=>
  cases xs with
  | nil=>simp at h
  | cons x xs=>
   have ih:=ih (xs:=xs) (by simpa using h);unfold posK;rw[P5,S8];by_cases c:a=f
   ·subst c;simp
   ·have c2:(f==a)=NH:=by rw[beq_eq_false_iff_ne];exact λz=>c z.symm
    rw[c2,if_neg c,ih];cases posK nm f<;>rfl
theorem Ow.kids{K:aF}{H:Hp}{d:D}{A:Fp}{v:V}{s:Step}{j:Nat}(h:Ow K H d A v)(q:Cy s d=ND j):∃xs T Bt,(∀x,xs[j]?=ND x→stepV H s v=ND x)∧dX K H (kids d) Bt xs∧Is A (fK T Bt)∧Apart T Bt ∧
  ∀H' ds' B',ds'.length=(kids d).length→dX K H' ds' B' xs→(∀a,T a→H' a=H a)→Apart T B'→Ow K H' (Gh d ds') (fK T B') v:=by
 cases d with
 | lst ds=>
  unfold Ow at h;obtain⟨a,xs,B,rfl,h2,h3,h4,h5⟩:=h;cases s with
  | ix k=>
   unfold Cy at q;cases q;refine⟨xs,(·=a),B,λx hx=>?_,h5,h4,λx qx qb=>h3 (qx▸qb),λH' ds' B' hl o f ap=>?_⟩
   ·unfold stepV;dsimp only;rw[h2];exact hx
   ·show Ow K H' (.lst ds') _ _;unfold Ow;exact⟨a,xs,B',U,(f a U).trans h2,ap a U,λ_=>Iff.rfl,o⟩
  | _=>unfold Cy at q;cases q
 | dk ks ds=>
  unfold Ow at h;obtain⟨a,xs,B,rfl,h2,h2',h3,h4,h5⟩:=h;cases s with
  | key k=>
   have q:posK ks k=ND j:=q;refine⟨xs,(·=a),B,λx hx=>?_,h5,h4,λx qx qb=>h3 (qx▸qb),λH' ds' B' hl o f ap=>?_⟩
   ·unfold stepV;dsimp only;rw[h2];show wQ (ks.zip xs) k=_;rw[sY h2',q];exact hx
   ·show Ow K H' (.dk ks ds') _ _;unfold Ow;exact⟨a,xs,B',U,(f a U).trans h2,h2',ap a U,λ_=>Iff.rfl,o⟩
  | _=>unfold Cy at q;cases q
 | ins C nm ds=>
  unfold Ow at h;obtain⟨a,dx,xs,B,rfl,h2,h2',h3,h3',h3'',h4,h5⟩:=h;cases s with
  | fld C0 k=>
   have q:(if C=C0 then posK nm k else none)=ND j:=q;by_cases hc:C=C0
   rotate_left
   ·rw[if_neg hc]at q;cases q
   rw[if_pos hc]at q;refine⟨xs,(λx=>x=a∨x=dx),B,λx hx=>?_,h5,h4,λx qx qb=>qx.elim (λz=>h3' (z▸qb)) λz=>h3'' (z▸qb),λH' ds' B' hl o f ap=>?_⟩
   ·unfold stepV;dsimp only;rw[h2];show (if C=C0 then(nm.zip xs).lookup k else none)=_;rw[if_pos hc,Ea h3,q];exact hx
   ·show Ow K H' (.ins C nm ds') _ _;unfold Ow;exact⟨a,dx,xs,B',U,(f a (.inl U)).trans h2,(f dx (.inr U)).trans h2',h3,ap a (.inl U),ap dx (.inr U),λ_=>Iff.rfl,o⟩
  | _=>unfold Cy at q;cases q
 | _=>cases s<;>(unfold Cy at q;cases q)
theorem Ow.at{K:aF}{H:Hp}:∀{p:List Step} {d d1:D} {A:Fp} {v:V},Ow K H d A v→eO p d=ND d1→∃w A1 C,Le H p v=ND w∧Apart A1 C∧Is A (fK A1 C)∧Ow K H d1 A1 w ∧
    ∀H' d' A',Apart A' C→(∀a,C a→H' a=H a)→vP K H H'→Ow K H' d' A' w→Ow K H' (dR p d d') (fK A' C) v
  | [],d,d1,A,v,h,q=>by
    unfold eO at q;cases q;exact⟨v,A,nil,U,λ_ _ z=>z,λx=>⟨.inl,λz=>z.elim id False.elim⟩,h,λH' d' A' _ _ _ o=>o.congr λx=>⟨.inl,λz=>z.elim id False.elim⟩⟩
  | s::p,d,d1,A,v,h,q=>by
    unfold eO at q;obtain⟨j,q1,q2⟩:=aY q;obtain⟨c,q3,q4⟩:=aY q2;obtain⟨xs,T,Bt,k1,k2,k3,k4,k5⟩:=h.kids q1;obtain⟨y,B1,C1,f1,f2,f3,f4,f5⟩:=(cG.mp k2).focus q3;obtain⟨w,A1,C2,g1,g2,g3,g4,g5⟩:=Ow.at f4 q4;refine⟨w,A1,fK T (fK C1 C2),?_,?_,?_,g4,λH' d' A' ap fr tk o=>?_⟩
    · unfold Le
      rw[k1 y f1];exact g1
    · intro x qx qc
      have b1:B1 x:=(g3 x).mpr (.inl qx);rcases qc with qc | qc | qc
      · exact k4 x qc ((f3 x).mpr (.inl b1))
      · exact f2 x b1 qc
      · exact g2 x qx qc
    · intro x
      rw[k3 x];constructor
      · rintro(z | z)
        · exact .inr (.inl z)
        · rcases(f3 x).mp z with z | z
          · rcases(g3 x).mp z with z | z
            · exact .inl z
            · exact .inr (.inr (.inr z))
          · exact .inr (.inr (.inl z))
      · rintro(z | z | z | z)
        · exact .inr ((f3 x).mpr (.inl ((g3 x).mpr (.inl z))))
        · exact .inl z
        · exact .inr ((f3 x).mpr (.inr z))
        · exact .inr ((f3 x).mpr (.inl ((g3 x).mpr (.inr z))))
    · have o1:Ow K H' (dR p c d') (fK A' C2) y:=g5 H' d' A' (λx a b=>ap x a (.inr (.inr b))) (λa z=>fr a (.inr (.inr z))) tk o
      have ap1:Apart (fK A' C2) C1:=λx a b=>a.elim (λz=>ap x z (.inr (.inl b))) λz=>f2 x ((g3 x).mpr (.inr z)) b;have o2:=f5 (Ow K H') (λe B z hb qq=>Ow.frame tk e B z qq λa za=>fr a (.inr (.inl (hb a za)))) (dR p c d') y (fK A' C2) ap1 o1;rw[set_same f1]at o2;have o3:=k5 H' ((L2.kids d).set j (dR p c d')) _ (by rw[J5]) (cG.mpr o2) (λa z=>fr a (.inl z)) (λx a b=>by
        rcases b with (b | b) | b
        · exact ap x b (.inl a)
        · exact k4 x a ((f3 x).mpr (.inl ((g3 x).mpr (.inr b))))
        · exact k4 x a ((f3 x).mpr (.inr b)))
      have e:dR (s::p) d d'=Gh d ((L2.kids d).set j (dR p c d')):=by show (match Cy s d with | some j=>_ | none=>_)=_;rw[q1];show (match (L2.kids d)[j]? with | some c=>_ | none=>_)=_;rw[q3]
      rw[e];refine o3.congr λx=>?_;show (T x∨(A' x∨C2 x)∨C1 x)↔(A' x∨T x∨C1 x∨C2 x)
      constructor
      · rintro(z | (z | z) | z)
        · exact .inr (.inl z)
        · exact .inl z
        · exact .inr (.inr (.inr z))
        · exact .inr (.inr (.inl z))
      · rintro(z | z | z | z)
        · exact .inr (.inl (.inl z))
        · exact .inl z
        · exact .inr (.inr z)
        · exact .inr (.inl (.inr z))
section
variable{K:aF}{B H:Hp}{env:EN}{σ:St}
theorem Rel.at{i:Nat}{p:List Step}{d0 d:D}(h:Rel K B env σ H)(e:env[i]?=ND (.own d0))(q:eO p d0=ND d):∃v0 w A1 C,σ[i]?=ND (ND v0)∧Le H p v0=ND w∧Ow K H d A1 w∧Apart A1 C∧(∀a,C a→lO H a) ∧
    ∀H' d' A',Apart A' C→(∀a,C a→H' a=H a)→vP K H H'→Ow K H' d' A' w→aU (out H (fK A1 C)) (out H' (fK A' C))→Rel K B (env.set i (.own (dR p d0 d'))) σ H':=by
  obtain⟨A,a,b⟩:=h;have cl:=jB a;obtain⟨y,A1,C,h1,h2,h3,h4,k⟩:=a.focus e;obtain⟨v0,rfl,o⟩:=h4;obtain⟨w,B1,C1,g1,g2,g3,g4,g5⟩:=o.at q;refine⟨v0,w,B1,fK C1 C,h1,g1,g4,λx z1 z2=>?_,λx z=>?_,λH' d' A' ap fr tk o' sm=>?_⟩
  · exact z2.elim (g2 x z1) (h2 x ((g3 x).mpr (.inl z1)))
  · exact cl x ((h3 x).mpr (z.elim (λz=>.inl ((g3 x).mpr (.inr z))) .inr))
  · have o2:=g5 H' d' A' (λx z1 z2=>ap x z1 (.inl z2)) (λx z=>fr x (.inl z)) tk o'
    have ap2:Apart (fK A' C1) C:=λx z1 z2=>z1.elim (λz=>ap x z (.inr z2)) λz=>h2 x ((g3 x).mpr (.inr z)) z2;have hA:Is A (fK B1 (fK C1 C)):=λx=>by
      rw[h3 x];constructor
      · rintro(z | z)
        · exact((g3 x).mp z).elim .inl λz=>.inr (.inl z)
        · exact .inr (.inr z)
      · rintro(z | z | z)
        · exact .inl ((g3 x).mpr (.inl z))
        · exact .inl ((g3 x).mpr (.inr z))
        · exact .inr z
    have g:aU (out H A) (out H' (fK (fK A' C1) C)):=λx u ex=>by obtain⟨e1,e2⟩:=bA.mp ex;have:=sm x u (bA.mpr ⟨λz=>e1 ((hA x).mpr z),e2⟩);obtain⟨e3,e4⟩:=bA.mp this;exact bA.mpr ⟨λz=>e3 (z.elim (λz=>z.elim .inl λz=>.inr (.inl z)) λz=>.inr (.inr z)),e4⟩
    have s:=k (fZ K H' (out H' (fK (fK A' C1) C))) (λs D z hb qq=>by
      cases s with
      | no=>exact qq
      | fro d=>obtain⟨q1,v,q2,q3⟩:=qq;exact⟨q1,v,q2,g.rv _ _ q3⟩
      | inn v d=>exact⟨qq.1,Ow.frame tk _ _ _ qq.2 λx zx=>fr x (.inr (hb x zx))⟩
      | own d=>obtain⟨v,q1,q2⟩:=qq;exact⟨v,q1,Ow.frame tk _ _ _ q2 λx zx=>fr x (.inr (hb x zx))⟩) (.own (dR p d0 d')) (ND v0) (fK A' C1) ap2 ⟨v0,U,o2⟩
    rw[set_same h1]at s;exact⟨_,s,b.trans g⟩
theorem Rel.IK{i:Nat}{p:List Step}{d0:D}{ds:List D}(h:Rel K B env σ H)(e:env[i]?=ND (.own d0))(q:eO p d0=ND (.lst ds)):∃v0 a xs Bs,σ[i]?=ND (ND v0)∧Le H p v0=ND (.ref a)∧H a=ND (.lst xs)∧¬Bs a∧dX K H ds Bs xs ∧
    ∀H2 ds' xs' Bn,aU H H2→dX K H2 ds' Bn xs'→(∀b,Bn b→Bs b∨H b=none)→Rel K B (env.set i (.own (dR p d0 (.lst ds')))) σ (upd H2 a (.lst xs')):=by
  obtain⟨v0,w,A1,C,h1,h2,h3,h4,h5,h6⟩:=h.at e q;unfold Ow at h3;obtain⟨a,xs,Bs,rfl,o2,o3,o4,o5⟩:=h3;refine⟨v0,a,xs,Bs,h1,h2,o2,o3,o5,λH2 ds' xs' Bn s o hb=>?_⟩;have nBa:¬Bn a:=λz=>(hb a z).elim o3 λz=>by rw[o2]at z;cases z
  have hC:∀x,C x→¬x=a:=λx z y=>h4 x ((o4 x).mpr (.inl y)) z;have Ti:H2 a=ND (.lst xs):=s a _ o2;refine h6 _ (.lst ds') (fK (·=a) Bn) (λx z1 z2=>?_) (λx z=>?_) (s.tk.trans (tE (sJ Ti))) ?_ (λx u ex=>?_)
  · rcases z1 with z1 | z1
    · exact hC x z2 z1
    · rcases hb x z1 with z | z
      · exact h4 x ((o4 x).mpr (.inr z)) z2
      · obtain⟨⟨u,eu⟩,_⟩:=h5 x z2
        rw[z]at eu;cases eu
  · obtain⟨⟨u,eu⟩,_⟩:=h5 x z
    rw[bQ (hC x z),eu,s x u eu]
  · unfold Ow
    refine⟨a,xs',Bn,U,cJ,nBa,λ_=>Iff.rfl,dX.frame (tE (sJ Ti)) _ _ _ o λx zx=>bQ λy=>nBa (y▸zx)⟩
  · obtain⟨e1,e2⟩:=bA.mp ex
    have na:x≠a:=λy=>e1 (.inl ((o4 x).mpr (.inl y)));refine bA.mpr ⟨λz=>?_,by rw[bQ na];exact s x u e2⟩;rcases z with (z | z) | z
    · exact na z
    · rcases hb x z with z | z
      · exact e1 (.inl ((o4 x).mpr (.inr z)))
      · rw[z]at e2;cases e2
    · exact e1 (.inr z)
theorem Rel.aJf{i:Nat}{p:List Step}{d0:D}{ks:List Key}{ds:List D}(h:Rel K B env σ H)(e:env[i]?=ND (.own d0))(q:eO p d0=ND (.dk ks ds)):∃v0 a xs Bs,σ[i]?=ND (ND v0)∧Le H p v0=ND (.ref a)∧H a=ND (.dK (ks.zip xs))∧ks.length=xs.length∧¬Bs a∧dX K H ds Bs xs ∧
    ∀H2 ks' ds' xs' Bn,aU H H2→ks'.length=xs'.length→dX K H2 ds' Bn xs'→(∀b,Bn b→Bs b∨H b=none)→Rel K B (env.set i (.own (dR p d0 (.dk ks' ds')))) σ (upd H2 a (.dK (ks'.zip xs'))):=by
  obtain⟨v0,w,A1,C,h1,h2,h3,h4,h5,h6⟩:=h.at e q;unfold Ow at h3;obtain⟨a,xs,Bs,rfl,o2,o2',o3,o4,o5⟩:=h3;refine⟨v0,a,xs,Bs,h1,h2,o2,o2',o3,o5,λH2 ks' ds' xs' Bn s hl o hb=>?_⟩;have nBa:¬Bn a:=λz=>(hb a z).elim o3 λz=>by rw[o2]at z;cases z
  have hC:∀x,C x→¬x=a:=λx z y=>h4 x ((o4 x).mpr (.inl y)) z;have Ti:H2 a=ND (.dK (ks.zip xs)):=s a _ o2;refine h6 _ (.dk ks' ds') (fK (·=a) Bn) (λx z1 z2=>?_) (λx z=>?_) (s.tk.trans (tE (Og Ti))) ?_ (λx u ex=>?_)
  · rcases z1 with z1 | z1
    · exact hC x z2 z1
    · rcases hb x z1 with z | z
      · exact h4 x ((o4 x).mpr (.inr z)) z2
      · obtain⟨⟨u,eu⟩,_⟩:=h5 x z2
        rw[z]at eu;cases eu
  · obtain⟨⟨u,eu⟩,_⟩:=h5 x z
    rw[bQ (hC x z),eu,s x u eu]
  · unfold Ow
    refine⟨a,xs',Bn,U,cJ,hl,nBa,λ_=>Iff.rfl,dX.frame (tE (Og Ti)) _ _ _ o λx zx=>bQ λy=>nBa (y▸zx)⟩
  · obtain⟨e1,e2⟩:=bA.mp ex
    have na:x≠a:=λy=>e1 (.inl ((o4 x).mpr (.inl y)));refine bA.mpr ⟨λz=>?_,by rw[bQ na];exact s x u e2⟩;rcases z with (z | z) | z
    · exact na z
    · rcases hb x z with z | z
      · exact e1 (.inl ((o4 x).mpr (.inr z)))
      · rw[z]at e2;cases e2
    · exact e1 (.inr z)
end
end L2


namespace L2
open PySem PySem.Spec PyProof.Rows
abbrev FP:=DE→Option (List Step)
def EvP(K:aF)(t:TE)(i:Nat)(π:FP):Prop:=∀(σ:St)(H:Hp)(e:DE)(v0:V)(p:List Step)(v:V)(Q:VK),yO K H e σ→σ[i]?=ND (ND v0)→π e=ND p→Le H p v0=ND v→(∀H',aU H H'→Q v H')→t σ H Q
structure XP(K:aF)(X:Cx)(e:AB)(t:TE)(i:Nat)(π:FP):Prop where
 hk:X.K=K
 pe:PE X e t
 ev:EvP K t i π
theorem Pk{H:Hp}{s:Step}:∀{p:List Step} {v0 v:V},Le H (p++[s]) v0=ND v→∃w,Le H p v0=ND w∧stepV H s w=ND v
 | [],v0,v,h=>by
  rw[Y1]at h;unfold Le at h;obtain⟨w,h1,h2⟩:=aY h;unfold Le at h2;cases h2;exact⟨v0,U,h1⟩
 | s'::p,v0,v,h=>by rw[P0]at h;unfold Le at h;obtain⟨u,h1,h2⟩:=aY h;obtain⟨w,h3,h4⟩:=Pk h2;refine⟨w,?_,h4⟩;unfold Le;rw[h1];exact h3
theorem aAP{H:Hp}{k:Nat}{w v:V}(h:stepV H (.ix k) w=ND v):∃a xs,w=.ref a∧H a=ND (.lst xs)∧xs[k]?=ND v:=by
 cases w with
 | ref a=>
  unfold stepV at h;dsimp only at h;cases q:H a with
  | none=>rw[q]at h;cases h
  | some o=>
   rw[q]at h;cases o with
   | lst xs=>exact⟨a,xs,U,q,h⟩
   | _=>cases h
 | _=>unfold stepV at h;cases h
def cW:FP:=λ_=>ND []
def Tj(π:FP)(g:FE):FP:=λe=>(π e).bind λp=>(g e).bind λd=>match d with
 | .int k=>if 0≤k then ND (p++[.ix k.toNat])else none
 | _=>none
section
variable{K:aF}{X:Cx}{e a b c:AB}{es:List AB}{t ta tb te:TE}{f g:FE}{tA:TA}{fs:FA}{pos:Pos}{i j:Nat}{π:FP}{st:AH}
theorem iG(h:PE X e (qN i))(hk:X.K=K:=by rfl):XP K X e (qN i) i cW:=⟨hk,h,λσ H e v0 p v Q re h1 h2 h3 k=>by
 cases h2;unfold Le at h3;cases h3;exact⟨v0,h1,k H (aU.refl _)⟩⟩
theorem Lf(h:XP K X a ta i π)(hb:XR K X b tb g)(hs:Xl b):XP K X (.Subscript a b pos) (CW (rIx K) ta tb) i (Tj π g):=⟨h.hk,aEe (aEn h.hk) h.pe hb.pe hs,λσ H e v0 p v Q re h1 h2 h3 k=>by
 unfold Tj at h2;obtain⟨p0,q1,q2⟩:=aY h2;obtain⟨d,q3,q4⟩:=aY q2;split at q4
 ·rename_i n;split at q4
  ·rename_i hn;cases q4;obtain⟨w,w1,w2⟩:=Pk h3;obtain⟨ad,xs,rfl,w3,w4⟩:=aAP w2;refine h.ev σ H e v0 p0 _ _ re h1 q1 w1 λH1 s1=>hb.ev σ H1 H1 e _ _ (Zn.self K H1) (re.same s1) q3 λy H2 Z2 s2 t2 z2 ry=>?_;unfold Rv at ry;exact .inl ⟨ad,xs,n,v,U,ry,pK.of (s2 _ _ (s1 _ _ w3)),aI7 hn w4,k H2 (s1.trans s2)⟩
  ·cases q4
 ·cases q4⟩
def Eb(i:Nat)(π:FP)(f:FE):GS:=λenv=>match env[i]?,π (rE env),f (rE env)with
 | some (.own d0),ND p,ND d=>(match eO p d0 with
  | some (.lst ds)=>if ds.length<100000 then .next (env.set i (.own (dR p d0 (.lst (ds++[d])))))else .bad
  | _=>.bad)
 | _,_,_=>.bad
theorem Pn{H H1:Hp}{A:Fp}{ds:List D}{xs:List V}{N:Fp}(o:dX K H ds A xs)(fr:∀a,N a→H a=none):Apart A N:=λx q1 q2=>by obtain⟨⟨u,eu⟩,_⟩:=dX.cells _ _ _ o x q1;rw[fr x q2]at eu;cases eu
theorem aAQ(h:EvP K ta i π)(he:Sg K te f):qm K (nD (Nu K "list" nT ta (fY te nG))) (Eb i π f):=λB E σ H env r p=>by
 unfold Eb at p;split at p
 ·rename_i d0 pp d q1 q2 q3;split at p
  ·rename_i ds q4;split at p
   ·rename_i hl;obtain⟨v0,a,xs,Bs,k1,k2,k3,k4,k5,k6⟩:=r.IK q1 q4;refine h σ H (rE env) v0 pp _ _ r.r k1 q2 k2 λH1 s1=>⟨.inl ⟨U,xs,pK.of (s1 _ _ k3)⟩,?_⟩
    refine he σ H1 (rE env) d _ (r.r.same s1) q3 λy H2 s2 n=>?_;obtain⟨N,o,fr⟩:=n.back s1;have s12:=s1.trans s2;refine⟨a,xs,y,U,U,s12 _ _ k3,Ot (by rw[(dX.rv _ _ _ k5).length];omega),p _ ?_⟩;exact k6 H2 (ds++[d]) (xs++[y]) (fK Bs N) s12 (cG.mpr ((cG.mp (k5.same s12)).snoc o (Pn (H1:=H) k5 fr))) λb z=>z.imp id (fr b)
   ·exact p.elim
  ·exact p.elim
 ·exact p.elim
theorem aAR{m:Str}{apos cpos:Pos}(h:XP K X a ta i π)(he:XN K X e te f)(hp:PE X a ta→PE X e te→PS X (.Expr (.Call (.Attribute a m apos) [e] [] cpos) pos) (nD (Nu K "list" nT ta (fY te nG)))):YS K X (.Expr (.Call (.Attribute a m apos) [e] [] cpos) pos) (nD (Nu K "list" nT ta (fY te nG))) (Eb i π f):=⟨hp h.pe he.pe,(aAQ h.ev he.ev).ds⟩
def uM(i:Nat)(π:FP)(g f:FE):GS:=λenv=>match env[i]?,π (rE env),g (rE env),f (rE env)with
 | some (.own d0),ND p,ND (.int k),ND d=>(match eO p d0 with
  | some (.lst ds)=>(match Up ds.length k with
   | some j=>.next (env.set i (.own (dR p d0 (.lst (ds.set j d)))))
   | none=>.bad)
  | _=>.bad)
 | _,_,_,_=>.bad
theorem aAS{n:Nat}{k:Int}{j:Nat}(h:Up n k=ND j):j<n:=by
 unfold Up at h;split at h
 ·split at h
  ·cases h;omega
  ·cases h
 ·split at h
  ·cases h;omega
  ·cases h
theorem cz(h:EvP K ta i π)(hx:Iz K tb g)(he:Sg K te f):qm K (uD te (Xd ta tb Fw)) (uM i π g f):=λB E σ H env r p=>by
 unfold uM at p;split at p
 ·rename_i d0 pp k d q1 q2 q3 q3';split at p
  ·rename_i ds q4;split at p
   ·rename_i j q5;obtain⟨v0,a,xs,Bs,k1,k2,k3,k4,k5,k6⟩:=r.IK q1 q4;refine he σ H (rE env) d _ r.r q3' λy H1 s1 n=>?_;refine h σ H1 (rE env) v0 pp _ _ (r.r.same s1) k1 q2 (tG s1 k2) λH2 s2=>hx σ H2 H2 (rE env) _ _ (Zn.self K H2) (r.r.same (s1.trans s2)) q3 λy' H3 Z3 s3 t3 z3 ry=>?_;unfold Rv at ry;have Pb:=s1.trans (s2.trans s3);obtain⟨N,o,fr⟩:=n.same (s2.trans s3);have hlen:=(dX.rv _ _ _ k5).length;refine⟨a,xs,k,j,U,ry,Pb _ _ k3,by rw[hlen];exact q5,p _ ?_⟩;obtain⟨y0,A1,C,f1,f2,f3,f4,f5⟩:=(cG.mp (k5.same Pb)).focus (B6 (aAS q5));have ap:Apart N C:=λx q1 q2=>Pn (H1:=H) k5 fr x ((f3 x).mpr (.inr q2)) q1;exact k6 H3 (ds.set j d) (xs.set j y) (fK N C) Pb (cG.mpr (f5 (Ow K H3) (λ_ _ _ _ qq=>qq) d y N ap o)) λb z=>z.elim (λz=>.inr (fr b z)) λz=>.inl ((f3 b).mpr (.inr z))
   ·exact p.elim
  ·exact p.elim
 ·exact p.elim
theorem Yk{pos':Pos}(h:XP K X a ta i π)(hx:XR K X b tb g)(he:XN K X e te f)(hp:PE X a ta→PE X b tb→PE X e te→PS X (.Assign [.Subscript a b pos'] e pos) (uD te (Xd ta tb Fw))):YS K X (.Assign [.Subscript a b pos'] e pos) (uD te (Xd ta tb Fw)) (uM i π g f):=⟨hp h.pe hx.pe he.pe,(cz h.ev hx.ev he.ev).ds⟩
def rJ(i:Nat)(π:FP)(g f:FE):GS:=λenv=>match env[i]?,π (rE env),g (rE env),f (rE env)with
 | some (.own d0),ND p,ND k,ND d=>(match eO p d0,Tf k with
  | some (.dk ks ds),ND k=>if d.jK=NG∧ks.length<100000 then .next (env.set i (.own (dR p d0 (.dk (lF ks k) (putD ks ds k d)))))else .bad
  | _,_=>.bad)
 | _,_,_,_=>.bad
theorem IV{H:Hp}{d:D}{v:V}(o:Ow K H d nil v)(k:Key):∀{ks:List Key} {ds:List D} {A:Fp} {xs:List V},ks.length=xs.length→dX K H ds A xs→∃A',(∀x,A' x→A x)∧dX K H (Q1 (λk' d'=>if k'=k then d else d') ks ds) A' (Q1 (λk' d'=>if k'=k then v else d') ks xs)
 | [],ds,A,xs,hl,h=>by
  cases xs with
  | nil=>exact⟨nil,λ_ z=>z.elim,by rw[Q2,Q2];unfold dX;exact⟨λ_ z=>z,U⟩⟩
  | cons x xs=>simp at hl
 | k0::ks,[],A,xs,hl,h=>by unfold dX at h;rw[h.2]at hl;simp at hl
 | k0::ks,d0::ds,A,xs,hl,h=>by
  unfold dX at h;obtain⟨y,yt,A1,A2,rfl,h2,h3,h4,h5⟩:=h;obtain⟨A',a1,a2⟩:=IV o k (by simpa using hl) h5;by_cases c:k0=k
  ·refine⟨A',λx q=>(h3 x).mpr (.inr (a1 x q)),?_⟩;rw[J1,J1,if_pos c,if_pos c];unfold dX;exact⟨v,_,nil,A',U,λ_ z=>z.elim,λx=>⟨.inr,λz=>z.elim False.elim id⟩,o,a2⟩
  ·refine⟨fK A1 A',λx q=>(h3 x).mpr (q.imp id (a1 x)),?_⟩;rw[J1,J1,if_neg c,if_neg c];unfold dX;exact⟨y,_,A1,A',U,λx z1 z2=>h2 x z1 (a1 x z2),λ_=>Iff.rfl,h4,a2⟩
theorem dg(h:EvP K ta i π)(hx:Iz K tb g)(he:Iz K te f):qm K (Fy ta tb te) (rJ i π g f):=λB E σ H env r p=>by
 unfold rJ at p;split at p
 ·rename_i d0 pp kd d q1 q2 q3 q3';split at p
  ·rename_i ks ds k q4 q5;split at p
   ·rename_i hc;obtain⟨v0,a,xs,Bs,k1,k2,k3,k3',k4,k5,k6⟩:=r.aJf q1 q4;refine he σ H H (rE env) d _ (Zn.self K H) r.r q3' λy H1 Z1 s1 t1 z1 ry=>?_;refine h σ H1 (rE env) v0 pp _ _ (r.r.same s1) k1 q2 (tG s1 k2) λH2 s2=>hx σ H2 H2 (rE env) _ _ (Zn.self K H2) (r.r.same (s1.trans s2)) q3 λy' H3 Z3 s3 t3 z3 ry'=>?_;have Pb:=s1.trans (s2.trans s3);have o:Ow K H3 d nil y:=zX d y hc.1 ((z1.sm.trans (s2.trans s3)).rv _ _ ry);have ek:=Ms q5 (z3.sm.rv _ _ ry');refine⟨a,_,U,.inl ⟨ks.zip xs,k,Pb _ _ k3,ek,Ot (by rw[Y2];omega),U⟩,p _ ?_⟩;rw[HH k3'];have ow3:=k5.same Pb;have hl3:=(dX.rv _ _ _ k5).length;by_cases c:(posK ks k).isSome=NG
    ·obtain⟨A',a1,a2⟩:=IV o k k3' ow3;refine k6 H3 (lF ks k) (putD ks ds k d) (putD ks xs k y) A' Pb (vR k3') ?_ λb z=>.inl (a1 b z);unfold putD;rw[if_pos c,if_pos c];exact a2
    ·refine k6 H3 (lF ks k) (putD ks ds k d) (putD ks xs k y) (fK Bs nil) Pb (vR k3') ?_ λb z=>z.elim .inl False.elim;unfold putD;rw[if_neg c,if_neg c];exact cG.mpr ((cG.mp ow3).snoc o λ_ _ z=>z)
   ·exact p.elim
  ·exact p.elim
 ·exact p.elim
theorem dh{pos':Pos}(h:XP K X a ta i π)(hx:XR K X b tb g)(he:XR K X e te f)(hp:PE X a ta→PE X b tb→PE X e te→PS X (.Assign [.Subscript a b pos'] e pos) (Fy ta tb te)):YS K X (.Assign [.Subscript a b pos'] e pos) (Fy ta tb te) (rJ i π g f):=⟨hp h.pe hx.pe he.pe,(dg h.ev hx.ev he.ev).ds⟩
theorem Vd{α β:Type}{R:α→Fp→β→Prop}:∀{ds:List α} {A:Fp} {ys:List β} (k:Nat),eU R ds A ys→∃A',(∀x,A' x→A x)∧eU R (ds.eraseIdx k) A' (ys.eraseIdx k)
 | [],A,ys,k,h=>⟨A,λ_ z=>z,by rw[h.2];exact⟨h.1,U⟩⟩
 | d::ds,A,ys,0,⟨y,yt,A1,A2,h1,h2,h3,h4,h5⟩=>⟨A2,λx z=>(h3 x).mpr (.inr z),by rw[h1];exact h5⟩
 | d::ds,A,ys,k+1,⟨y,yt,A1,A2,h1,h2,h3,h4,h5⟩=>by obtain⟨A',a1,a2⟩:=Vd k h5;refine⟨fK A1 A',λx z=>(h3 x).mpr (z.imp id (a1 x)),?_⟩;rw[h1,M6,M6];exact⟨y,_,A1,A',U,λx z1 z2=>h2 x z1 (a1 x z2),λ_=>Iff.rfl,h4,a2⟩
def Bj(i j:Nat)(f:FE):GS:=λenv=>match env[i]?,env[j]?,f (rE env)with
 | some (.own (.lst ds)),ND (.own (.lst es)),ND (.int k)=>if i≠j∧ds.length<100000∧0≤k∧k<es.length∧es.length≤100000 then(match es[k.toNat]? with
   | some d=>if d.jK=NG then .next ((env.set j (.own (.lst (es.eraseIdx k.toNat)))).set i (.own (.lst (ds++[d]))))else .bad
   | none=>.bad)else .bad
 | _,_,_=>.bad
theorem qp(he:Iz K te f):DS K (nD (Nu K "list" nT (qN i) (fY (Nu K "list" Xr (qN j) (fY te nG)) nG))) (Bj i j f):=λB E σ H env r p=>by
 unfold Bj at p;split at p
 ·rename_i ds es k q1 q2 q3;split at p
  ·rename_i hc;obtain⟨c1,c2,c3,c4,c5⟩:=hc;split at p
   ·rename_i d q4;split at p
    ·rename_i im;obtain⟨w0,b,ys,Cs,m1,m2,m3,m4,m5,m6⟩:=r.IK (p:=[]) q2 U;obtain⟨v0,a,xs,Bs,k1,k2,k3,k4,k5,k6⟩:=r.IK (p:=[]) q1 U;have e1:v0=.ref a:=by unfold Le at k2;exact F4 k2
     have e2:w0=.ref b:=by unfold Le at m2;exact F4 m2
     subst e1 e2;refine⟨_,k1,.inl ⟨U,xs,pK.of k3⟩,⟨_,m1,.inl ⟨U,ys,pK.of m3⟩,?_⟩⟩;refine he σ H H (rE env) _ _ (Zn.self K H) r.r q3 λy H1 Z1 s1 t1 z1 ry=>?_;unfold Rv at ry;have hly:=(dX.rv _ _ _ m5).length;have hlx:=(dX.rv _ _ _ k5).length;obtain⟨x',hx',rx'⟩:=(dX.rv _ _ _ m5).get q4;refine⟨b,ys,k,k.toNat,x',U,by rw[ry],s1 _ _ m3,by omega,by omega,Fh c3 (by rw[hly];exact c4),hx',?_⟩;have o1:=m5.same s1;obtain⟨A',a1,a2⟩:=Vd k.toNat (cG.mp o1);have r1:=m6 H1 (es.eraseIdx k.toNat) (ys.eraseIdx k.toNat) A' s1 (cG.mpr a2) λx z=>.inl (a1 x z);have r1':Rel K B (env.set j (.own (.lst (es.eraseIdx k.toNat)))) σ (upd H1 b (.lst (ys.eraseIdx k.toNat))):=r1;have q1':(env.set j (.own (.lst (es.eraseIdx k.toNat))))[i]?=ND (.own (.lst ds)):=by rw[F8,if_neg (Ne.symm c1)];exact q1
     obtain⟨v0',a',xs',Bs',n1,n2,n3,n4,n5,n6⟩:=r1'.IK (p:=[]) q1' U;rw[k1]at n1;cases n1;have e3:a'=a:=by unfold Le at n2;cases n2;rfl
     subst e3;have ne:a'≠b:=by
      intro z;subst z;obtain⟨A0,sA,_⟩:=r;obtain⟨y1,A1,C,f1,f2,f3,f4,f5⟩:=sA.focus q1;obtain⟨v1,ev1,o1⟩:=f4;have g1:=f5 (fZ K H (out H A0)) (λ_ _ _ _ qq=>qq) (.own (.lst ds)) (ND v1) A1 f2 ⟨v1,U,o1⟩;rw[k1]at f1;cases f1;cases ev1;unfold Ow at o1;obtain⟨p1,_,_,ep1,_,_,ip1,_⟩:=o1;cases ep1;have other:∀{l:EN} {A:Fp} {ys:St} (i j:Nat),eU (fZ K H (out H A0)) l A ys→i≠j→∀s s',l[i]?=ND s→l[j]?=ND s'→∃y y' A1 A2,ys[i]?=ND y∧ys[j]?=ND y'∧fZ K H (out H A0) s A1 y∧fZ K H (out H A0) s' A2 y'∧Apart A1 A2:=by
       intro l
       induction l with
       | nil=>intro A ys i j _ _ s s' h1 _;simp at h1
       | cons d l ih=>
        rintro A ys i j ⟨y,yt,B1,B2,rfl,h2,h3,h4,h5⟩ hij s s' h6 h7;cases i with
        | zero=>
         cases j with
         | zero=>exact absurd U hij
         | succ j=>simp at h6;subst h6;obtain⟨y2,A3,C3,w1,w2,w3,w4,_⟩:=h5.focus (i:=j) (d:=s') (by simpa using h7);exact⟨y,y2,B1,A3,U,by simpa using w1,h4,w4,λx z1 z2=>h2 x z1 ((w3 x).mpr (.inl z2))⟩
        | succ i=>
         cases j with
         | zero=>simp at h7;subst h7;obtain⟨y2,A3,C3,w1,w2,w3,w4,_⟩:=h5.focus (i:=i) (d:=s) (by simpa using h6);exact⟨y2,y,A3,B1,by simpa using w1,U,w4,h4,λx z1 z2=>h2 x z2 ((w3 x).mpr (.inl z1))⟩
         | succ j=>obtain⟨y2,y3,A3,A4,w1,w2,w3,w4,w5⟩:=ih i j h5 (λz=>hij (by rw[z])) s s' (by simpa using h6) (by simpa using h7);exact⟨y2,y3,A3,A4,by simpa using w1,by simpa using w2,w3,w4,w5⟩
      obtain⟨y2,y3,A3,A4,w1,w2,w3,w4,w5⟩:=other i j sA c1 _ _ q1 q2;rw[k1]at w1;cases w1;rw[m1]at w2;cases w2;obtain⟨_,ea,oa⟩:=w3;obtain⟨_,eb,ob⟩:=w4;cases ea;cases eb;unfold Ow at oa ob;obtain⟨p1,_,_,e1,_,_,i1,_⟩:=oa;obtain⟨p2,_,_,e2,_,_,i2,_⟩:=ob;cases e1;cases e2;exact w5 _ ((i1 _).mpr (.inl U)) ((i2 _).mpr (.inl U))
     have n3':H1 a'=ND (.lst xs'):=by rw[bQ ne]at n3;exact n3
     have exx:xs'=xs:=by have:=s1 _ _ k3;rw[n3']at this;cases this;rfl
     subst exx;have imo:Ow K (upd H1 b (.lst (ys.eraseIdx k.toNat))) d nil x':=Ow.frame (tE (sJ (s1 _ _ m3))) _ _ _ (zX d x' im (s1.rv _ _ rx')) λ_ z=>z.elim;refine⟨a',xs',x',U,U,n3,Ot (by omega),p _ _ ?_⟩;exact n6 _ (ds++[d]) (xs'++[x']) (fK Bs' nil) (aU.refl _) (cG.mpr ((cG.mp n5).snoc imo λ_ _ z=>z)) λx z=>z.elim .inl False.elim
    ·exact p.elim
   ·exact p.elim
  ·exact p.elim
 ·exact p.elim
end
end L2


namespace L2
open PySem PySem.Spec PyProof.Rows
def VD(K:aF)(B:Hp)(R:Fp)(env:EN)(σ:St)(H:Hp):Prop:=∃A,eU (fZ K H (out H (fK A R))) env A σ∧Apart A R∧aU B (out H (fK A R))
section
variable{K:aF}{B H H':Hp}{env:EN}{σ:St}{R R' A1:Fp}
theorem Rel.x(h:Rel K B env σ H)(s:aU H H')(f:∀a,R a→H a=none):VD K B R env σ H':=by obtain⟨A,a,b⟩:=h;have cl:=jB a;have g:aU (out H A) (out H' (fK A R)):=bU s λx q=>q.imp id (f x);refine⟨A,a.mono λe C z _ q=>q.same s g,λx q1 q2=>?_,b.trans g⟩;obtain⟨⟨u,eu⟩,_⟩:=cl x q1;rw[f x q2]at eu;cases eu
theorem VD.own{i:Nat}{d:D}{v:V}(h:VD K B R env σ H)(e:Is R (fK A1 R'))(ap:Apart A1 R')(o:Ow K H d A1 v)(hi:i<env.length):VD K B R' (env.set i (.own d)) (σ.set i (ND v)) H:=by
 obtain⟨A,a,aR,b⟩:=h;obtain⟨y,A0,C,h1,h2,h3,h4,k⟩:=a.focus (B6 hi);have g:aU (out H (fK A R)) (out H (fK (fK A1 C) R')):=bU (aU.refl _) λx q=>by
  rcases q with (q | q) | q
  ·exact .inl (.inr ((e x).mpr (.inl q)))
  ·exact .inl (.inl ((h3 x).mpr (.inr q)))
  ·exact .inl (.inr ((e x).mpr (.inr q)))
 refine⟨fK A1 C,k _ (λs D z _ q=>q.same (aU.refl _) g) (.own d) (ND v) A1 (λx q1 q2=>aR x ((h3 x).mpr (.inr q2)) ((e x).mpr (.inl q1))) ⟨v,U,o⟩,λx q1 q2=>?_,b.trans g⟩;rcases q1 with q1 | q1
 ·exact ap x q1 q2
 ·exact aR x ((h3 x).mpr (.inr q1)) ((e x).mpr (.inr q2))
theorem VD.done(h:VD K B R env σ H)(e:None R):Rel K B env σ H:=by obtain⟨A,a,aR,b⟩:=h;have g:aU (out H (fK A R)) (out H A):=bU (aU.refl _) λx q=>.inl (.inl q);exact⟨A,a.mono λs D z _ q=>q.same (aU.refl _) g,b.trans g⟩
end
def Ec:List Nat→TGs
 | []=>aHh
 | i::is=>aD8 (iR i) (Ec is)
def uN:EN→List Nat→List D→EN
 | env,i::is,d::ds=>uN (env.set i (.own d)) is ds
 | env,_,_=>env
theorem IW{K:aF}{B H:Hp}{Q:St→Hp→Prop}:∀{is:List Nat} {ds:List D} {xs:List V} {R:Fp} {env:EN} {σ:St},VD K B R env σ H→dX K H ds R xs→is.length=ds.length→(∀i∈is,i<env.length) →
  (∀σ',Rel K B (uN env is ds) σ' H→Q σ' H)→Ec is xs σ H Q
 | [],ds,xs,R,env,σ,r,o,hl,hi,k=>by
  cases ds with
  | cons d ds=>simp at hl
  | nil=>unfold dX at o;unfold Ec;exact⟨o.2,k σ (by unfold uN;exact r.done o.1)⟩
 | i::is,ds,xs,R,env,σ,r,o,hl,hi,k=>by
  cases ds with
  | nil=>simp at hl
  | cons d ds=>unfold dX at o;obtain⟨y,yt,A1,A2,rfl,h2,h3,h4,h5⟩:=o;unfold Ec;refine⟨y,yt,U,?_⟩;have hi0:=hi i D4;exact IW (r.own h3 h2 h4 hi0) h5 (by simpa using hl) (λj hj=>by rw[J5];exact hi j (C8 _ hj)) λσ' r'=>k σ' (by unfold uN;exact r')
def wW(is:List Nat)(f:FE):GS:=λenv=>match f (rE env)with
 | some (.tup ds)=>if is.length=ds.length∧is.all (λi=>decide (i<env.length))=NG then .next (uN env is ds)else .bad
 | _=>.bad
section
variable{K:aF}{X:Cx}{e a b c:AB}{es:List AB}{t ta tb te:TE}{f g:FE}{tA:TA}{fs:FA}{pos:Pos}{i j:Nat}{π:FP}{st:AH}
theorem qt{is:List Nat}{n:Nat}(h:Sg K te f)(hn:n=is.length):DS K (uD te (aCy K n (Ec is))) (wW is f):=λB E σ H env r p=>by
 unfold wW at p;split at p
 ·rename_i ds q;split at p
  ·rename_i hc;refine h σ H (rE env) _ _ r.r q λv H' s ⟨N,o,fr⟩=>?_;unfold Ow at o;obtain⟨ad,xs,rfl,o1,o2⟩:=o;refine⟨ad,xs,U,o1,by rw[(dX.rv _ _ _ o2).length,hn,hc.1],?_⟩;exact IW (r.x s fr) o2 hc.1 (λi hi=>of_decide_eq_true (M3.mp hc.2 i hi)) λσ' r'=>p σ' H' r'
  ·exact p.elim
 ·exact p.elim
theorem qu{is:List Nat}{n:Nat}{tg:AB}(h:XN K X e te f)(hp:PE X e te→PS X (.Assign [tg] e pos) (uD te (aCy K n (Ec is))))(hn:n=is.length:=by rfl):YS K X (.Assign [tg] e pos) (uD te (aCy K n (Ec is))) (wW is f):=⟨hp h.pe,qt h.ev hn⟩
def aAT:EN→List Nat→Option (List D)
 | _,[]=>ND []
 | env,i::is=>(match env[i]? with
  | some (.own d)=>(aAT env is).map (d::·)
  | _=>none)
inductive TyS(K:aF)(H:Hp):V→A6→Prop where
 | bl (x:Bool):TyS K H (.bl x) (.type "bool")
 | int (i:Int):TyS K H (.int i) (.type "int")
 | lst {a:A7} {xs:List V} (e:pK K H a xs):TyS K H (.ref a) (.type "list")
 | tup {a:A7} {xs:List V} (e:zO K H a xs):TyS K H (.ref a) (.type "tuple")
theorem Yl:nF X (.builtin "isinstance") (λxs H Q=>∃x T t b,xs=[x,.ty T]∧TyS X.K H x t∧J4 X.K t (.type T)=ND b∧Q (.bl b) H):=by
 intro pins s σ H xs us Q I r h;obtain⟨x,T,t,b,rfl,ty,hk,q⟩:=h;obtain⟨u,w',rfl,rx,rt⟩:=vals2 r;cases rt;cases ty with
 | bl y=>exact Ui I rx (.bl y) hk λtk=>⟨.bl b,H,I.tok _,U,q⟩
 | int i=>exact Ui I rx (.int i) hk λtk=>⟨.bl b,H,I.tok _,U,q⟩
 | @lst a xs e=>
  cases(show u=AQ a from rx)
  obtain⟨its,_,pl,_⟩:=I.list e;obtain⟨o,n,h1,h2,_⟩:=pl;exact K0 V8 I.Im ⟨o,h1,h2⟩ hk (λz=>nomatch z) λtk=>⟨.bl b,H,I.tok _,rfl,q⟩
 | @tup a xs e=>
  cases(show u=AQ a from rx)
  obtain⟨its,_,pl,_⟩:=I.tuple e;obtain⟨o,h1,h2,_⟩:=pl;exact K0 d7 I.Im ⟨o,h1,h2⟩ hk (λz=>nomatch z) λtk=>⟨.bl b,H,I.tok _,rfl,q⟩
def JB(T:String)(d:D):Option D:=match d with
 | .int _=>if T = "int" then ND (.bl NG)else if T = "bool" then ND (.bl NH)else none
 | .bl _=>if T = "bool" then ND (.bl NG)else none
 | .lst _=>if T = "list" then ND (.bl NG)else none
 | .tup _=>if T = "tuple" then ND (.bl NG)else none
 | _=>none
def VF(T:String)(f:FE):FE:=λe=>(f e).bind (JB T)
def aHL(K:aF):List V→Hp→VK→Prop:=λxs H Q=>∃x T t b,xs=[x,.ty T]∧TyS K H x t∧J4 K t (.type T)=ND b∧Q (.bl b) H
theorem aFY{H:Hp}{T:String}{d r:D}{v:V}(h:JB T d=ND r)(rv:Rv K H d v):∃t b,TyS K H v t∧J4 K t (.type T)=ND b∧r=.bl b:=by
 cases d with
 | int i=>
  unfold JB at h;dsimp only at h;unfold Rv at rv;subst rv;split at h
  ·rename_i c;cases h;subst c;exact⟨_,_,.int i,GX,rfl⟩
  ·split at h
   ·rename_i c;cases h;subst c;exact⟨_,_,.int i,Xx,rfl⟩
   ·cases h
 | bl b=>
  unfold JB at h;dsimp only at h;unfold Rv at rv;subst rv;split at h
  ·rename_i c;cases h;subst c;exact⟨_,_,.bl b,Tc,rfl⟩
  ·cases h
 | lst ds=>
  unfold JB at h;dsimp only at h;unfold Rv at rv;obtain⟨a,xs,rfl,r2,_⟩:=rv;split at h
  ·rename_i c;cases h;subst c;exact⟨_,_,.lst r2,Td,rfl⟩
  ·cases h
 | tup ds=>
  unfold JB at h;dsimp only at h;unfold Rv at rv;obtain⟨a,xs,rfl,r2,_⟩:=rv;split at h
  ·rename_i c;cases h;subst c;exact⟨_,_,.tup r2,Lx,rfl⟩
  ·cases h
 | _=>unfold JB at h;cases h
theorem aFZ(hk:X.K=K):nF X (.builtin "isinstance") (aHL K):=by subst hk;exact Yl
theorem VG{T:String}{p:Pos}{eT:AB}(h:XR K X e t f)(hT:PE X eT (tC (.ty T)))(hg:Gl X "isinstance") (hm:X.mg "isinstance" = none) (hst:AD (e::[eT]) X.env=(NH,AO e X.env)::AD [eT] X.env:=by rfl) (hst2:AD [eT] X.env=(NH,AO eT X.env)::AD [] X.env:=by rfl)
  (hpl:(AY pos (AD [eT] X.env)).any (·.1)=NH:=by rfl):XN K X (.Call (.Name "isinstance" p) [e,eT] [] pos) (tCB (aHL K) (fY t (fY (tC (.ty T)) nG))) (VF T f):=
 ⟨h.hk,FZ (aFZ h.hk) hg hm PyProof.Rows.boot_isinstance (fD h.pe (fD hT jY hst2) hst) (by decide) (by decide) hst hpl,λσ H e d Q re q k=>by
  unfold VF at q;obtain⟨d0,q1,q2⟩:=aY q;refine h.ev σ H H e d0 _ (Zn.self K H) re q1 λv H1 Z1 s1 t1 z1 rv=>?_;obtain⟨ty,b,b1,b2,rfl⟩:=aFY q2 (z1.sm.rv _ _ rv);exact⟨v,T,ty,b,U,b1,b2,k _ H1 s1 (.jK U (by unfold Rv;rfl))⟩⟩
structure iU(mg:Str→Option A6)(x:Str)(i:Int):Prop where
 ex:∃t,mg x=ND (.int i t)
structure aKb(K:aF)(mg:Str→Option A6)(x:Str)(ns:List Int):Prop where
 ex:∃a,mg x=ND (.ref a)∧∀H:Hp,zO K H a (ns.map V.int)
theorem nH{x:Str}{i:Int}(G:iU X.mg x i)(hg:Gl X x)(hd:(x==("__debug__" : Str))=NH:=by decide) (hk:X.K=K:=by rfl):XN K X (.Name x pos) (tC (.int i)) (fC (.int i)):=by obtain⟨t,h⟩:=G.ex;exact⟨hk,aCu hg h ⟨t,U⟩ hd,aAt i⟩
def dTup(ns:List Int):D:=.tup (ns.map D.int)
end
def pN(n m:Nat)(g:GS):List D→Option D:=λds=>if ds.length=m then(match g (ds.map SD.fro++E4 (n-m) SD.no)with
  | .ret d=>ND d
  | .next _=>ND .non
  | _=>none)else none
theorem Pq{K:aF}{H Z:Hp}{k:Nat}:∀{ds:List D} {vs:List V},eY K Z ds vs→eU (fZ K H Z) (ds.map SD.fro++E4 k SD.no) nil (vs.map ND++E4 k none)
 | [],vs,h=>by
  unfold eY at h;subst h;simp only[J2,Y1]
  induction k with
  | zero=>exact⟨λ_ z=>z,U⟩
  | succ k ih=>rw[c6,c6];exact⟨none,_,nil,nil,U,λ_ z=>z.elim,λx=>⟨.inl,λz=>z.elim id id⟩,λ_ z=>z,ih⟩
 | d::ds,vs,h=>by unfold eY at h;obtain⟨y,ys,rfl,h1,h2⟩:=h;rw[D3,D3,P0,P0];exact⟨ND y,_,nil,nil,U,λ_ z=>z.elim,λx=>⟨.inl,λz=>z.elim id id⟩,⟨λ_ z=>z,y,U,h1⟩,Pq h2⟩
theorem Jh{K:aF}{H:Hp}{k:Nat}{ds:List D}{vs:List V}(h:eY K H ds vs):Rel K H (ds.map SD.fro++E4 k SD.no) (vs.map ND++E4 k none) H:=by have g:aU H (out H nil):=λx u e=>bA.mpr ⟨λz=>z,e⟩;exact⟨nil,Pq (g.TJ _ _ h),g⟩
theorem Raw.wX{P:AI}{w:AL}{K:aF}{mg:Str→Option A6}{base:AM}{x:Str}{st:AH}{N ps:List Str}{k:Nat}{g:GS}(R:Raw K mg x st)(S:bB N ps (aM st))
  (hb:∀(kV doc pm:A6)(an:Option A7)(cdv ct:A6)(us:List A6),us.length=ps.length→Dx (F6 x x (fP st) (cH st) (aM st) .none kV doc pm an cdv ct) ⟨us,[]⟩=pure (ps.zip us))
  (hbody:∀(f:A7)(cdv:A6)(A:AN)(outer:List Env)(s:A8)(H:Hp)(E:XK),jR k (A.deeper (BS x (aM st) s.heap.objs.size f cdv)) →
   ∃t,YB K (Fv CZ P w K mg base N x (aM st) f cdv A outer s H E).ZK (cH st) t g):qL P w K mg base x (k+1) ps.length (iD K ps.length (pN N.length ps.length g)):=by
 refine R.cal S (λvs H Q E h=>?_) hb (λf cdv A outer s H vs Q E hr h=>?_)
 ·obtain⟨ds,d,h1,h2,_⟩:=h;rw[h2.length];exact h1
 obtain⟨ds,d,h1,h2,h3,kk⟩:=h;obtain⟨t,yb⟩:=hbody f cdv A outer s H E hr;refine⟨t,yb.ps,yb.ev H _ _ H (ds.map SD.fro++E4 (N.length-ps.length) SD.no) ?_ ?_⟩
 ·have hl:vs.length=ps.length:=by rw[h2.length];exact h1
  have:=Jh (k:=N.length-ps.length) h2;unfold start;rw[hl];exact this
 ·unfold pN at h3;rw[if_pos h1]at h3;cases q:g (ds.map SD.fro++E4 (N.length-ps.length) SD.no)with
  | ret d'=>
   rw[q]at h3;cases h3;refine λv H' A' s' o=>kk v H' (s'.trans (kW _ _)) ⟨A',o,λa qa=>?_⟩;cases e:H a with
   | none=>rfl
   | some u=>exact absurd qa (bA.mp (s' a u e)).1
  | next env'=>
   rw[q]at h3;cases h3;refine λσ' H' ⟨A',_,s'⟩=>kk .non H' (s'.trans (kW _ _)) (.jK U (by unfold Rv;rfl))
  | brk env'=>rw[q]at h3;cases h3
  | cont env'=>rw[q]at h3;cases h3
  | bad=>rw[q]at h3;cases h3
  | rete d e=>rw[q]at h3;cases h3
end L2


namespace L2
open PySem PySem.Spec PyProof.Rows
section
variable{K:aF}{X:Cx}{e a b c:AB}{es:List AB}{t ta tb te:TE}{f g:FE}{tA:TA}{fs:FA}{pos:Pos}{i j:Nat}{π:FP}{st:AH}{gb:GS}{tc:TT}{fc:FT}
def zK(f:FE):FE:=λe=>(f e).bind λd=>match d with | .int i=>ND (.int (-i)) | _=>none
theorem rP(ha:XR K X a ta f):XN K X (.UnaryOp .USub a pos) (tUn (rU λi=>.int (-i)) ta) (zK f):=aFS ha
theorem di{tg elt iter:AB}{ifs:List AB}{scope:BF}{spos py:Pos}{y:Str}{wi:TI}{fi:FA}{fe:FE}(N:List Str)(fr:List Nat)(hcalm:X.calm=NG)(B:kO X.env.scope scope X.N N 1 fr)(hN:X.N.Nodup)(hy:X.N[i]?=ND y)(hx:Loc X.env.scope y)(hi:XI K X tg iter wi fi)
  (hg:∀cl fp s H C,PG (lE X scope N cl fp s H C) tg (iR 0)) (hc:∀cl fp s H C,XTs K (lE X scope N cl fp s H C) ifs tc fc) (he:∀cl fp s H C,XN K (lE X scope N cl fp s H C) elt te fe)
  (hsw:DA (.ListComp elt [⟨tg,iter,ifs,0⟩] scope pos) (ND (.Name y py)) spos.line X.env=pure NG:=by rfl)
  (hs:∀x,B4 iter X.env x=pure x:=by intro _;rfl) (hf:X.fn y=NG∨X.env.scope.names.lookup y=ND .local:=by first | exact .inl U | exact .inr U | assumption) :
  YS K X (.Assign [.Name y py] (.ListComp elt [⟨tg,iter,ifs,0⟩] scope pos) spos) (uD (GJ wi 1 fr (iR 0) tc te) (iR i)) (dG i (gF fi fr fc fe)):=
 ⟨aC0 N 1 fr hcalm B hN hy hx hi.pi hg (λcl fp s H C=>(hc cl fp s H C).pts) (λcl fp s H C=>(he cl fp s H C).pe) hsw hs hf,aAL (cj hi.ev (hc [] [] X.s₀ X.H₀ 0).ev (he [] [] X.s₀ X.H₀ 0).ev)⟩
def EvJ(K:aF)(wi:TI)(fi:FA):Prop:=∀(σ:St)(H:Hp)(e:DE)(ds:List D)(R:It→Hp→Prop),yO K H e σ→fi e=ND ds →
 (∀J H' P vs,aU H H'→JIs J P vs→(∀H2,P H2)→(∀Z,eY K Z ds vs)→R J H')→wi σ H R
structure XJ(K:aF)(X:Cx)(tg iter:AB)(wi:TI)(fi:FA):Prop where
 pi:PI X tg iter wi
 ev:EvJ K wi fi
theorem Ji{tg:AB}{p:Pos}(hg:Gl X "range") (hm:X.mg "range" = none) (ha:XA K X [a] tA fs) (hs:AD [a] X.env=[(NH,AO a X.env)]:=by rfl):XJ K X tg (.Call (.Name "range" p) [a] [] pos) (yx tA) (tD fs):=⟨Ug hg hm ha.pa hs,λσ H e ds R re q k=>by
 unfold tD at q;obtain⟨es,q1,q2⟩:=aY q;split at q2
 ·rename_i n;split at q2
  ·rename_i hl;cases q2;have hl:=Yh hl;refine ha.ev σ H H e _ _ (Zn.self K H) re q1 λvs H1 Z1 s1 t1 z1 rs=>?_;obtain⟨v,rfl,r⟩:=sZ rs;unfold Rv at r;subst r;exact⟨n,U,by omega,by omega,k _ H1 _ _ s1 Iv (λ_=>True.intro) λZ=>Jf 0 n.toNat⟩
  ·cases q2
 ·cases q2⟩
theorem aEv{tg:AB}{p:Pos}(hp:PA X [a,b] tA→PI X tg (.Call (.Name "range" p) [a,b] [] pos) (yz tA)) (ha:XA K X [a,b] tA fs):XI K X tg (.Call (.Name "range" p) [a,b] [] pos) (yz tA) (Pg fs):=⟨ha.hk,hp ha.pa,λσ H Z e ds R z re q k=>by
 unfold Pg at q;obtain⟨es,q1,q2⟩:=aY q;split at q2
 ·rename_i i j;split at q2
  ·rename_i hl;cases q2;have hl1:=Yh hl.1;have hl2:=Yh hl.2;refine ha.ev σ H Z e _ _ z re q1 λvs H1 Z1 s1 t1 z1 rs=>?_;obtain⟨v,w,rfl,r,r'⟩:=aAz rs;unfold Rv at r r';subst r r';exact⟨i,j,U,⟨by omega,by omega,by omega,by omega⟩,k _ H1 Z1 _ _ s1 t1 z1 Iv (λ_ _=>True.intro) (Jf i (j-i).toNat)⟩
  ·cases q2
 ·cases q2⟩
def Dk(i:Nat)(fi:FA)(g:GS):GS:=λenv=>match fi (rE env)with
 | some xs=>Dy i g xs env
 | none=>.bad
theorem aDj{wi:TI}{fi:FA}{tb:TS}(hi:EvJ K wi fi)(h:DS K tb gb):DS K (Xf wi (iR i) tb) (Dk i fi gb):=λB E σ H env r p=>by
 unfold Dk at p;split at p
 ·rename_i xs q;refine hi σ H (rE env) xs _ r.r q λJ H1 P vs s hJ hP rvs=>?_;have hl:=(rvs H).length;refine Mj hJ (λk σ2 H2=>∃fH,Rel K B fH σ2 H2∧Pj K B E (Dy i gb (xs.drop k) fH)) ⟨env,r.same s,by simpa using p⟩ (λk σ2 H2 _ _=>hP H2) ?_ ?_
  ·rintro k x σ2 H2 hx ⟨fH,r2,p2⟩;have hk:k<xs.length:=by obtain⟨h1,_⟩:=D1.mp hx;omega
   rw[L6 hk]at p2;unfold Dy at p2;split at p2
   ·rename_i hlen;obtain⟨A2,a2,b2⟩:=r2;obtain⟨x',hx',rx⟩:=(rvs (out H2 A2)).get (B6 hk);rw[hx]at hx';cases hx';have r3:Rel K B (fH.set i (.fro xs[k])) (σ2.set i (ND x)) H2:=Mu a2 b2 hlen (aU.refl _) (aU.refl _) (Ph a2) rx;refine h B _ _ H2 _ r3 ?_;split at p2
    ·rename_i env' q2;rw[q2];exact λσ' H' r'=>⟨env',r',p2⟩
    ·rename_i env' q2;rw[q2];exact λσ' H' r'=>⟨env',r',p2⟩
    ·rename_i env' q2;rw[q2];exact p2
    ·rename_i n1 n2 n3;cases q2:gb (fH.set i (.fro xs[k]))with
     | next e=>exact absurd q2 (n1 e)
     | cont e=>exact absurd q2 (n2 e)
     | brk e=>exact absurd q2 (n3 e)
     | ret d=>rw[q2]at p2;exact p2
     | bad=>rw[q2]at p2;exact p2
     | rete d e=>rw[q2]at p2;exact p2
   ·exact p2.elim
  ·rintro σ2 H2 ⟨fH,r2,p2⟩;rw[hl,X1]at p2;exact p2 σ2 H2 r2
 ·exact p.elim
theorem Ym{tg iter:AB}{body:List AH}{wi:TI}{fi:FA}{tb:TS}(hp:EC (AG X.prog X.w) X.A X.env X.xe)(UW:X.calm=NG)(hi:XJ K X tg iter wi fi)(hg:PG X tg (iR i))(hb:YB K X body tb gb)
  (hs:∀x,B4 iter X.env x=pure x:=by intro _;rfl):YS K X (.For tg iter body [] pos) (Xf wi (iR i) tb) (Dk i fi gb):=⟨Xg hp UW hi.pi hg hb.ps hs,aDj hi.ev hb.ev⟩
theorem qw{m m':Str}{apos cpos aEw aEx:Pos}(he:XR K X e te f)(hp:PE X e te→PS X (.Expr (.Call (.Attribute a m apos) [.Call (.Attribute b m' aEw) [e] [] aEx] [] cpos) pos) (nD (Nu K "list" nT (qN i) (fY (Nu K "list" Xr (qN j) (fY te nG)) nG)))):YS K X (.Expr (.Call (.Attribute a m apos) [.Call (.Attribute b m' aEw) [e] [] aEx] [] cpos) pos) (nD (Nu K "list" nT (qN i) (fY (Nu K "list" Xr (qN j) (fY te nG)) nG))) (Bj i j f):=⟨hp he.pe,qp he.ev⟩
end
theorem VH{K:aF}{st:AH}{f:A7}{fd:BG}(F:Fun K "law" "law" st f fd) (hb:∀(kV doc pm:A6)(an:Option A7)(cdv ct:A6)(u:A6),Dx (F6 "law" "law" (fP st) (cH st) (aM st) .none kV doc pm an cdv ct) ⟨[u],[]⟩=pure [(("script" : Str),u)]):∀(s:A8)(u:A6),Fu s fd ⟨[u],[]⟩ [("script", u)]:=by obtain⟨oc,od,kV,doc,pm,an,cdv,ct,osl,rfl,lk,hcd⟩:=F.ex;exact λs u=>.of_eq (hb kV doc pm an cdv ct u)
theorem nJ{K:aF}{h:AM}{mg:Str→Option A6}{x:Str}{i:Int}{t:Tok}(X:K.In h)(G:h.Ns AV mg)(a:R1 K AV x=ND (ND (.int i t))):iU mg x i:=⟨t,b8 X G a⟩
end L2


namespace L2
open PySem PySem.Spec PyProof.Rows
section
variable{K:aF}{X:Cx}{e a b c:AB}{es:List AB}{t ta tb te:TE}{f g:FE}{tA:TA}{fs:FA}{pos:Pos}{i j:Nat}{π:FP}{st:AH}
variable{lo hi:Option AB}{tl th:TO}{fl fh:FO}{p2:Pos}
def aKd(a b:D):Option D:=match a,b with
 | .tup x,.tup y=>if D.gY x=NG∧D.gY y=NG∧x.length+y.length≤100000 then ND (.tup (x++y))else none
 | _,_=>none
end
end L2


namespace L2
open PySem PySem.Spec PyProof.Rows
theorem bgo(xs:Array Nat)(j:Nat):∀(fuel lo hi:Nat),hi-lo≤fuel→lo≤hi→hi≤xs.size→xs.toList.Pairwise (·<·) →
  (∀i,i<lo→xs.getD i 0<j)→(∀i,hi≤i→i<xs.size→j≤xs.getD i 0) →
  Cf xs j fuel lo hi≤xs.size∧(∀i,i<Cf xs j fuel lo hi→xs.getD i 0<j)∧(∀i,Cf xs j fuel lo hi≤i→i<xs.size→j≤xs.getD i 0)
 | 0,lo,hi,h1,h2,h3,up,h4,h5=>by
  unfold Cf;have e:lo=hi:=by omega
  subst e;exact⟨h3,h4,h5⟩
 | fuel+1,lo,hi,h1,h2,h3,up,h4,h5=>by
  unfold Cf;have mono:∀a b,a<b→b<xs.size→xs.getD a 0<xs.getD b 0:=λa b q q'=>by have:=I0.mp up a b (by simp;omega) (by simpa using q') q;simp only[T8]at this;simpa[O4,q',show a<xs.size by omega]using this
  split
  ·rename_i c;have hm:(lo+hi)/2<xs.size:=by omega
   have e:xs.getD ((lo+hi)/2) j=xs.getD ((lo+hi)/2) 0:=by simp[O4,hm]
   dsimp only;rw[e];by_cases c2:xs.getD ((lo+hi)/2) 0<j
   ·rw[if_pos c2];refine bgo xs j fuel ((lo+hi)/2+1) hi (by omega) (by omega) h3 up (λi hi'=>?_) h5;rcases J8 i ((lo+hi)/2)with z | z
    ·have:=mono i _ z hm;omega
    ·have z':i=(lo+hi)/2:=by omega
     subst z';exact c2
   ·rw[if_neg c2];refine bgo xs j fuel lo ((lo+hi)/2) (by omega) (by omega) (by omega) up h4 λi hi' hs=>?_;rcases J8 ((lo+hi)/2) i with z | z
    ·have:=mono _ i z hs;omega
    ·have z':i=(lo+hi)/2:=by omega
     subst z';omega
  ·have e:lo=hi:=by omega
   subst e;exact⟨h3,h4,h5⟩
theorem below_at{xs:Array Nat}(up:xs.toList.Pairwise (·<·))(j:Nat) :
  AR xs j≤xs.size∧(∀i,i<AR xs j→xs.getD i 0<j)∧(∀i,AR xs j≤i→i<xs.size→j≤xs.getD i 0):=by
 unfold AR;exact bgo xs j xs.size 0 xs.size (by omega) (N4 _) (C6 _) up (λi h=>absurd h (L7 _)) λi h h'=>by omega
def Led(b:Bool)(t:SetTable):Prop:=t.led=b∧(t.plain=NG→t.place.toList.Pairwise (·<·)∧t.dummies=#[])
theorem Led.fresh(b:Bool):Led b (.fresh 0 0 b):=⟨U,λ_=>⟨by simp[Me],U⟩⟩
theorem Led.standIn{b:Bool}{t:SetTable}(h:Led b t)(n:Nat):Led b (t.standIn n):=⟨h.1,λq=>by simp[MW]at q⟩
theorem Led.off{b:Bool}{t:SetTable}(h:Led b t):Led b {t with plain:=NH}:=⟨h.1,λq=>by simp at q⟩
theorem pgo{t:SetTable}(hd:t.dummies=#[]){g:Nat→Int}{h:Int}:∀(fuel:Nat)(p:Mn)(j:Nat)(d:Option Nat),p.dummy=none→EW t g h fuel p=ND (.empty j d)→d=none∧t.slot j=.empty
 | 0,p,j,d,_,q=>by simp[EW]at q
 | fuel+1,p,j,d,e,q=>by
  unfold EW at q;have adv:(t.advance p).dummy=none:=by
   unfold MX;split
   ·exact e
   ·exact e
  split at q
  ·rename_i c;injection q with q;injection q with q1 q2;rw[←q1,←q2];exact⟨e,c⟩
  ·rename_i c;exfalso;unfold KS at c;dsimp only at c;split at c
   ·cases c
   ·split at c
    ·rename_i z;rw[hd]at z;simp[HU]at z
    ·cases c
  ·split at q
   ·cases q
   ·exact pgo hd fuel _ j d adv q
theorem Ve{t:SetTable}(hd:t.dummies=#[]){h:Int}{j:Nat}{w:Bool}(q:t.freeSlot h=ND (j,w)):t.slot j=.empty∧w=NH:=by
 unfold MR at q;split at q
 ·rename_i j' d e;obtain⟨rfl,e2⟩:=pgo hd _ _ _ _ (by rfl) e;simp at q;obtain⟨rfl,rfl⟩:=q;exact⟨e2,U⟩
 ·cases q
theorem aAU{t:SetTable}(hd:t.dummies=#[])(up:t.place.toList.Pairwise (·<·)){j:Nat}(q:t.slot j=.empty):(t.put j).1.place.toList.Pairwise (·<·)∧(t.put j).1.dummies=#[]:=by
 obtain⟨b1,b2,b3⟩:=below_at up j;refine⟨?_,?_⟩
 ·show (MS t.place (AR t.place j) j).toList.Pairwise (·<·);rw[LB];have ne:t.place[AR t.place j]?≠ND j:=λz=>by unfold KS at q;dsimp only at q;rw[z]at q;simp at q
  have lo:∀x∈t.place.toList.take (AR t.place j),x<j:=λx hx=>by
   obtain⟨i,hi,rfl⟩:=J6 hx;rw[J0]at hi;have hs:i<t.place.size:=by simp at hi;omega
   have:=b2 i (by omega);simpa[O4,hs]using this
  have hi:∀x∈t.place.toList.drop (AR t.place j),j<x:=λx hx=>by
   obtain⟨i,hi,rfl⟩:=J6 hx;rw[O8,K3]at hi;have hs:AR t.place j+i<t.place.size:=by omega
   have h1:=b3 (AR t.place j+i) (by omega) hs;have e:(t.place.toList.drop (AR t.place j))[i]=t.place.getD (AR t.place j+i) 0:=by simp[O4,hs]
   rw[e];rcases V1 i with z | z
   ·subst z;rcases J8 j (t.place.getD (AR t.place j+0) 0)with y | y
    ·exact y
    ·refine absurd ?_ ne;have e2:t.place.getD (AR t.place j) 0=j:=by simp only[Nat.add_zero]at y h1;omega
     rw[N3 (by omega)];simpa[O4,show AR t.place j<t.place.size by omega]using e2
   ·have h0:=b3 (AR t.place j) (C6 _) (by omega);have:=I0.mp up (AR t.place j) (AR t.place j+i) (by simp;omega) (by simpa using hs) (by omega);simp only[T8]at this;have e3:t.place.getD (AR t.place j) 0<t.place.getD (AR t.place j+i) 0:=by simpa[O4,hs,show AR t.place j<t.place.size by omega]using this
    omega
  refine K9.mpr ⟨up.sublist (O0 _ _),J3.mpr ⟨hi,up.sublist (i6 _ _)⟩,λx hx y hy=>?_⟩;have h1:=lo x hx;rcases C9.mp hy with z | z
  ·omega
  ·have:=hi y z;omega
 ·show (if HU t.dummies j then _ else t.dummies)=#[];rw[hd];simp[HU]
theorem Led.lay{b:Bool}{t:SetTable}(h:Led b t)(es:Array (Int×A6))(k:Int)(x:A6):Led b (layNew t es k x).2.1:=by
 unfold layNew;split
 ·rename_i j w e;dsimp only;unfold MO;split
  ·refine⟨h.1,λq=>?_⟩;obtain⟨u,d⟩:=h.2 q;exact aAU d u (Ve d e).1
  ·exact Led.standIn (t:=(t.put j).1) ⟨h.1,λq=>by
    obtain⟨u,d⟩:=h.2 q;exact aAU d u (Ve d e).1⟩ _
 ·exact h.standIn _
theorem aEy{β:Type}(f:Nat→Option β):∀l:List Nat,l.Pairwise (·<·)→((l.filterMap λj=>(f j).map λy=>(j,y)).map (·.1)).Pairwise (·<·)∧∀x∈((l.filterMap λj=>(f j).map λy=>(j,y)).map (·.1)),x∈l
 | [],_=>⟨.nil,λx h=>by simp at h⟩
 | a::l,h=>by
  obtain⟨h1,h2⟩:=J3.mp h;obtain⟨i1,i2⟩:=aEy f l h2;rw[Q9];cases e:f a with
  | none=>exact⟨i1,λx hx=>C8 _ (i2 x hx)⟩
  | some y=>
   refine⟨J3.mpr ⟨λx hx=>h1 x (i2 x hx),i1⟩,λx hx=>?_⟩;rcases C9.mp hx with z | z
   ·exact z▸D4
   ·exact C8 _ (i2 x z)
theorem Led.aHM{b:Bool}{t:SetTable}(h:Led b t)(es:Array (Int×A6))(n:Nat):Led b (EI t es n).2.1:=by
 unfold EI;split
 ·rename_i t' order e;dsimp only;split
  ·dsimp only;unfold Mc NA at e;obtain⟨ow,e1,e2⟩:=aY e;injection e2 with e2;injection e2 with e3 e4;rw[←e3];exact⟨h.1,λ_=>⟨by simpa using (aEy (λj=>ow.getD j none) _ R9).1,U⟩⟩
  ·exact h.standIn _
 ·exact h.standIn _
theorem Ed{α:Type}:∀(l:List α)(i:Nat)(h:i<l.length),(l[i]::l.eraseIdx i).Perm l
 | [],i,h=>absurd h (by simp)
 | a::l,0,h=>Q3 _
 | a::l,i+1,h=>by have:=Ed l i (by simpa using h);simp only[List.getElem_cons_succ,M6];exact(m9 a _ _).trans (this.cons a)
theorem dm{α:Type}(next:Nat→Nat):∀(n:Nat)(left:List α)(k:Nat)(out:Array α),left.length=n→((HV next n k left out).toList).Perm (out.toList++left)
 | 0,left,k,out,hn=>by have:left=[]:=L9 hn;subst this;simp[HV]
 | n+1,left,k,out,hn=>by
  unfold HV;have hl:next k%left.length<left.length:=T9 _ (by omega)
  rw[B6 hl];dsimp only;refine(dm next n (left.eraseIdx (next k%left.length)) (k+1) _ (by rw[V4 hl];omega)).trans ?_;rw[i7,P8];exact Z7 _ (Ed _ _ hl)
theorem qy{α:Type}(next:Nat→Nat)(xs:Array α):(HZ next xs).toList.Perm xs.toList:=by
 have:=dm next xs.size xs.toList 0 #[] (by simp)
 simpa[HZ]using this
end L2


namespace L2
open PySem PySem.Spec PyProof.Rows
section
variable{prog:AI}{w:AL}{A:AN}{E:A6→A8→Prop}{s:A8}{b:Bool}
def Ef(prog:AI)(w:AL)(b:Bool)(h:AM)(a:A7)(S:Int→Bool)(n:Nat):Prop:=
 ∃o es ep t,h.get? a=ND o∧o.ExactSet∧o.data=.set es ep t∧JJ (intKind prog w) es.toList∧(∀k,S k=NG↔∃e∈es.toList,(intKind prog w).is k e.2=NG)∧es.size<CA∧t.fits es.size=NG∧es.size=n∧Led b t
theorem Ef.at_{h h':AM}{a:A7}{S:Int→Bool}{n:Nat}(x:Ef prog w b h a S n)(e:∀o,h.get? a=ND o→h'.get? a=ND o):Ef prog w b h' a S n:=
 let ⟨o,es,ep,t,ho,r⟩:=x;⟨o,es,ep,t,e o ho,r⟩
theorem Ef.to{h:AM}{a:A7}{S S':Int→Bool}{n n':Nat}(x:Ef prog w b h a S n)(e:∀k,S k=S' k)(en:n=n'):Ef prog w b h a S' n':=by subst en;have:S=S':=funext e;rw[←this];exact x
theorem aEz{h:AM}{a:A7}{o:Obj}{es es':Array (Int×A6)}{ep:Nat}{t t':SetTable}{S':Int→Bool}(ho:h.get? a=ND o)(hex:o.ExactSet)(hd:o.data=.set es ep t)(hel:JJ (intKind prog w) es'.toList)
  (hm:∀k,S' k=NG↔∃e∈es'.toList,(intKind prog w).is k e.2=NG) (hz:es'.size<CA) (hf:t'.fits es'.size=NG) (hl:Led b t') :
  (h.update a (IX es' t')).get? a=ND {o with data:=.set es' (ep+1) t'}∧Ef prog w b (h.update a (IX es' t')) a S' es'.size:=
 have g:=(SetOf_store (knd:=intKind prog w) ho hex hd hel hm hz hf).1
 ⟨g,_,es',ep+1,t',g,hex,U,hel,hm,hz,hf,U,hl⟩
theorem aAV{g:Bool→Sem Unit}(hg:∀(c:Bool)(s₁:A8)(Q':Unit→A8→Prop),Q' () s₁→AF (AG prog w) A (g c) Q' E s₁){a:A7}{o:Obj}{es e1:Array (Int×A6)}{ep:Nat}{t t2:SetTable}{S':Int→Bool}
  (ho:s.heap.get? a=ND o) (hex:o.ExactSet) (hd:o.data=.set es ep t) (hel:JJ (intKind prog w) e1.toList) (hm:∀k,S' k=NG↔∃e∈e1.toList,(intKind prog w).is k e.2=NG) (hz:e1.size<CA) (hf:t2.fits e1.size=NG) (hl:Led b t2)
  {wd:Bool} {R:Option Bool→A8→Prop} (h:∀h',BH a s.heap h'→Ef prog w b h' a S' e1.size→R (ND NG) {s with heap:=h'}) :
  AF (AG prog w) A (do
    storeSet a e1 t2
    if(!wd&&t2.tooFull)=NG then do
      g (EI t2 e1 (BI e1.size)).2.2
      storeSet a (EI t2 e1 (BI e1.size)).1 (EI t2 e1 (BI e1.size)).2.1
      pure (ND NG)
     else pure (ND NG)) R E s:=by
 obtain⟨g1,s1⟩:=aEz (prog:=prog) (w:=w) ho hex hd hel hm hz hf hl;refine A9 (IB ho hd ?_ (EX hz));have sb:=B5 s.heap a (IX e1 t2);split
 ·have pm:=relayAll_perm t2 e1 (BI e1.size);have ff:=relayAll_fits t2 e1 (BI e1.size);have ll:=hl.aHM e1 (BI e1.size);have sz:(EI t2 e1 (BI e1.size)).1.size=e1.size:=by rw[←K3,pm.length_eq,K3]
  have zz:(EI t2 e1 (BI e1.size)).1.size<CA:=by rw[sz];exact hz
  refine A9 (hg _ _ _ (A9 (IB g1 U ?_ (EX zz))));obtain⟨_,s2⟩:=aEz (prog:=prog) (w:=w) (S':=S') g1 hex U (hel.perm pm) (λk=>(hm k).trans ⟨λ⟨e,he,q⟩=>⟨e,pm.mem_iff.mpr he,q⟩,λ⟨e,he,q⟩=>⟨e,pm.mem_iff.mp he,q⟩⟩) zz ff ll;rw[sz]at s2;exact AE (h _ (sb.trans (B5 _ a _)) s2)
 ·exact AE (h _ sb s1)
theorem aHN{a:A7}{S:Int→Bool}{n:Nat}{k:Int}{tk:Tok}{Q:Bool→A8→Prop}(hS:Ef prog w b s.heap a S n)(room:n+1<CA)
  (h:∀h',BH a s.heap h'→Ef prog w b h' a (λj=>S j||decide (j=k)) (if S k then n else n+1)→Q (!S k) {s with heap:=h'}) :
  AF (AG prog w) A (LD a (.int k tk) ((intKind prog w).hash k)) Q E s:=by
 obtain⟨o,es,ep,t,ho,hex,hd,hel,hm,hb,hf,hn,hl⟩:=hS;have key:(intKind prog w).is k (.int k tk)=NG:=IY _ _ _ _;have sc:(CM k tk).scannable=NG:=rfl;unfold LD setAddHashedIn;refine BQ (A9 (BU ho hd hf ?_));dsimp only;rw[byScan_of sc hb hel];simp only[↓reduceIte];unfold setAddByScan;refine A9 (A9 (IZ (A9 (wpAny_setScan_of key ho hd hf hel ?_))));cases hr:List.findIdx? (λe=>(intKind prog w).is k e.2) es.toList with
 | some j=>
  dsimp only;obtain⟨hj,pj,_⟩:=List.findIdx?_eq_some_iff_getElem.mp hr;have hk:S k=NG:=(hm k).mpr ⟨es.toList[j],O9 hj,pj⟩;have z:=h s.heap (MU a s.heap) ⟨o,es,ep,t,ho,hex,hd,hel,λj=>by
   rw[l3,decide_eq_true_eq,←hm j];exact⟨λq=>q.elim id λe=>by rw[e];exact hk,.inl⟩,hb,hf,by rw[hk];exact hn,hl⟩
  rw[hk]at z;exact AE (AE z)
 | none=>
  dsimp only;have hk:S k=NH:=by
   cases e:S k with
   | false=>rfl
   | true=>obtain⟨x,hx,px⟩:=(hm k).mp e;have:=List.findIdx?_eq_none_iff.mp hr x hx;rw[px]at this;cases this
  have hgw:∀(c:Bool) {s₁:A8} {Q':Unit→A8→Prop},Q' () s₁→AF (AG prog w) A (match c with | true=>rule "set.scan.the-table-gave-way" | false=>pure ()) Q' E s₁:=λc s₁ Q' q=>by
   cases c
   ·exact AE q
   ·exact IZ q
  have pm:=layNew_perm t es ((intKind prog w).hash k) (.int k tk);have ff:=layNew_fits t es ((intKind prog w).hash k) (.int k tk);have ll:=hl.lay es ((intKind prog w).hash k) (.int k tk);generalize layNew t es ((intKind prog w).hash k) (.int k tk)=Y at pm ff ll ⊢;obtain⟨e1,t1,wd,gave⟩:=Y;dsimp only at pm ff ll ⊢;rw[i7]at pm;have sz:e1.size=n+1:=by rw[←K3,pm.length_eq,C7,K3,hn];rfl
  have zz:e1.size<CA:=by omega
  have el1:=(hel.push key sc).perm pm;have m1:=mem_push_iff (k:=k) key hm pm;refine A9 (hgw _ ?_);have fin:∀h',BH a s.heap h'→Ef prog w b h' a (λj=>S j||decide (j=k)) e1.size→Q NG {s with heap:=h'}:=λh' q1 q2=>by have z:=h h' q1;rw[hk]at z;rw[sz]at q2;exact z q2
  split
  ·rw[hashByValue_scannable 8 sc];refine A9 (AE ?_);refine aAV (b:=b) (λc s₁ Q' q=>hgw c q) ho hex hd el1 m1 zz ?_ ?_ λh' q1 q2=>?_
   ·split
    ·exact ff
    ·exact LN ff
   ·split
    ·exact ll
    ·exact ll.off
   ·dsimp only;exact AE (fin h' q1 q2)
  ·refine A9 (AE ?_);simp only[↓reduceIte];refine aAV (b:=b) (λc s₁ Q' q=>hgw c q) ho hex hd el1 m1 zz ff ll λh' q1 q2=>?_;dsimp only;exact AE (fin h' q1 q2)
end
section
variable{prog:AI}{w:AL}{A:AN}{R:FG→A8→Prop}{I:A7}{fp wr:List A7}{G:Array IF→Array IF→Prop}{n:Nat}{P:Nat→A6→Prop}{St:Nat→A8→Prop}{b:Bool}
abbrev VJ(prog:AI)(w:AL)(b:Bool)(h:AM)(a:A7)(val:Nat→Int)(i:Nat):Prop:=Ef prog w b h a (λk=>(EA val i).any (·==k)) (EA val i).length
theorem aF0(W:WalksS prog w A.in1 I fp wr G n P St)(a:A7)(hf:a∉fp)(val:Nat→Int)(hval:∀i v,P i v→∃t,v=.int (val i) t)(hz:n+1<CA) :
  ∀(m i:Nat)(s:A8),n-i=m→i≤n→St i s→VJ prog w b s.heap a val i→(∀s',Moved (a::wr) G s s'→VJ prog w b s'.heap a val n→R (.ok (.ret .none)) s') →
   CI (AG prog w) A (.builtin "set.update.loop" ⟨[.ref a,.ref I],[]⟩) R s:=by
 have hw:a∉wr:=λz=>hf (W.sub _ z);have sub:∀c∈wr,c∈a::wr:=λc hc=>C8 _ hc;intro m
 induction m with
 | zero=>
  intro i s hk hi hst hS hR;have e:i=n:=by omega
  subst e;refine CU R3 ?_;rw[Bi O2 _];show AF _ A.in1 (DD (.ref I) >>= _) _ _ s;refine A9 (W.done s _ _ hst λs' mv=>?_);show AF _ A.in1 (ret BA) _ _ s';exact AE (hR s' (mv.mono sub) (hS.at_ λo e=>mv.heap a o hw e))
 | succ m ih=>
  intro i s hk hi hst hS hR;have lt:i<n:=by omega
  refine CU R3 ?_;rw[Bi O2 _];show AF _ A.in1 (DD (.ref I) >>= _) _ _ s;refine A9 (W.item i s _ _ lt hst λv s1 hP st1 mv=>?_);obtain⟨tk,rfl⟩:=hval i v hP;have S1:VJ prog w b s1.heap a val i:=hS.at_ λo e=>mv.heap a o hw e;show AF _ A.in1 (Ch [CM (val i) tk] (setAdd a (.int (val i) tk)) >>= _) _ _ s1;unfold setAdd;refine A9 (BQ (BQ (A9 ((intKind prog w).pyHash (k:=val i) (IY _ _ _ _) ?_))));have room:(EA val i).length+1<CA:=by have:=EO val i;omega
  refine aHN (s:={s1 with toks:=s1.toks+1}) S1 room λh' sb S2=>?_;have S3:VJ prog w b h' a val (i+1):=S2.to (λj=>by rw[ET,step_any]) (by rw[ET,step_length]);refine AE ⟨Da O2 _,ih (i+1) _ (by omega) lt (W.frame _ s1 _ _ st1 (N5 _) λc hc o e=>?_) S3 λs2 mv2 S4=>?_⟩
  ·rw[sb.2 c λz=>hf (by rw[←z];exact hc)];exact e
  ·refine hR s2 (Moved.trans W.gtrans ((mv.mono sub).then_heap (N5 _) λc o hc e=>?_) mv2) S4;rw[sb.2 c λz=>hc (by rw[z];exact D4)];exact e
end
end L2


namespace L2
open PySem PySem.Spec PyProof.Rows
section
variable{prog:AI}{w:AL}{A:AN}{E:A6→A8→Prop}{s:A8}
abbrev vB(b:Bool):Obj:={cls:=.type "set", dict:=none,data:=.set #[] 0 (.fresh 0 0 b)}
abbrev vC(w:AL):Bool:=!w.params.followText "set-order"
theorem aHO(a:A6){Q:A6→A8→Prop}(h:Q (.ref s.heap.objs.size) {s with heap:=s.heap.push (vB (vC w))}) :
  CI (AG prog w) A (.call (.builtin "set.__new__") ⟨[.type "set", a],[]⟩) (wants Q E) s:=by
 refine Ic ?_;show AF _ A.in1 (checkBuiltinCall "set.__new__" ⟨[.type "set", a],[]⟩ >>= λ_=>again (.builtin "set.__new__" ⟨[.type "set", a],[]⟩)) _ _ s;refine A9 (DI (PySem.F.newCall_set_1 a) (AE ⟨Da Z8 _,CU PySem.F.entry_set_new ?_⟩));rw[Bi Z8 _];unfold DJ.«set.__new__» KU;have sub:=sub_set_self;obtain⟨hp,g,d,tk,os⟩:=s;dsimp only
 wp_walk
 refine CB (AE ?_);dsimp only;simp only[newObj];exact A9 (wpAny_alloc (AE (AE h)))
theorem aDk(b:Bool){h:AM}{a:A7}{val:Nat→Int}(e:h.get? a=ND (vB b)):VJ prog w b h a val 0:=
 ⟨_,#[],0,_,e,⟨U,U,U⟩,U,λx hx=>by simp at hx,λk=>by simp[KW],by decide,by rfl,U,Led.fresh b⟩
theorem aEA{l:A7}{its:Array A6}{ns:List Int}{Q:A6→A8→Prop}(hh:A.handled=none)(hl:s.heap.IsList l its)(hi:ED its.toList ns)(hz:its.size+1<CA)
  (h:∀(h':AM)(tk:Nat),VJ prog w (vC w) h' s.heap.objs.size (λi=>ns.getD i 0) its.size→(∀b o,s.heap.get? b=ND o→h'.get? b=ND o)→Q (.ref s.heap.objs.size) {s with heap:=h',toks:=tk}) :
  AF (AG prog w) A (call (.type "set") [.ref l]) Q E s:=by
 obtain⟨c,tl,hmro⟩:=M4.mro;have hmade:=M4.made;have hsub:=M4.sub;refine IQ (Ic ?_);show AF _ _ (callAny (.type "set") _) _ _ _;refine AE ⟨Code.quiet_builtin _ (by decide +kernel),CU PySem.F.entry_type_call ?_⟩;rw[Around.under_plain (weight_type_call_type "set" [.ref l] []) rfl];have h1:=M4.notType;have h2:=M4.canCreate;have hct:=PySem.F.typeCall_set_1 (.ref l)
 repeat (any_goals (first | assumption | wp_step))
 refine Cn (aHO (.ref l) (E:=E) (Q:=λv s1=>v=.ref s.heap.objs.size∧s1={s with heap:=s.heap.push (vB (vC w))}) ⟨U,U⟩) λr s1 hr=>?_;cases r with
 | error e=>exact hr
 | ok fl=>
  cases fl with
  | ret obj=>
   obtain⟨rfl,rfl⟩:=hr;have g0:(s.heap.push (vB (vC w))).get? s.heap.objs.size=ND (vB (vC w)):=AK _ U;have hT:Kb {s with heap:=s.heap.push (vB (vC w))} (.ref s.heap.objs.size) "set" := ⟨_,g0,U⟩
   have hli:=M4.init.lookup;have hbi:=M4.init.bind (.ref s.heap.objs.size)
   repeat (any_goals (first | assumption | wp_step))
   refine Cn (codeAny_call_builtin (R:=wants (λr s2=>r=.none∧∃h' tk,s2={s with heap:=h',toks:=tk}∧VJ prog w (vC w) h' s.heap.objs.size (λi=>ns.getD i 0) its.size∧(∀b o,s.heap.get? b=ND o→h'.get? b=ND o)) E) M4.init.plain PySem.F.entry_set_init (check_set_init_1 hT ?_)) λr2 s2 hr2=>?_
   ·obtain⟨ol,hol,hcl,nl,hdl⟩:=hl;obtain⟨ocls,odict,odata,oslots⟩:=ol;simp only at hcl hdl;subst hcl hdl;have hol':(s.heap.push (vB (vC w))).get? l=ND {cls:=.type "list", dict:=odict,data:=.seq its nl,slots:=oslots}:=AA _ hol;have q1:=PySem.F.sub_list_set;have q2:=PySem.F.sub_list_frozenset;have q3:(BY "list" == BY "dict")=NH:=by decide
    have L1:(s.heap.push (vB (vC w))).IsList l its:=⟨_,hol',U,nl,U⟩
    unfold DJ.«set.__init__» noKeywords JO;generalize hPI:HG=PI
    wp_walk
    subst hPI;refine DU L1 (A9 (JU ?_));have lt:=AJ hol;have hh3:A.in1.in1.in1.handled=none:=by simp[hh]
    have ne:l≠(s.heap.push (vB (vC w))).objs.size:=by rw[AX];exact E5 (M7 lt)
    have nf:s.heap.objs.size∉[(s.heap.push (vB (vC w))).objs.size,l]:=by
     rw[AX];intro z;rcases C9.mp z with z | z
     ·exact absurd z (E5 (M0 _))
     ·exact absurd (E3.mp z) (O6 lt)
    have hval:∀(i:Nat)(v:A6),its[i]?=ND v→∃t,v=.int ((λi=>ns.getD i 0) i) t:=λi v hv=>hi.int_at i v (by rw[L8];exact hv);refine aF0 ((IU hh3 _ l ne its).toS) s.heap.objs.size nf (λi=>ns.getD i 0) hval hz (its.size-0) 0 _ (by omega) (N4 _) ⟨⟨_,AK _ U,U,U⟩,(L1.push _)⟩ (aDk (vC w) (AA _ g0)) λs' mv S'=>?_;obtain⟨h',g',d',tk',os'⟩:=s';have eg:g'=s.gens:=mv.gens;have ed:d'=s.drawn:=mv.drawn;have eo:os'=s.os:=mv.os;subst eg ed eo;show AF _ _ _ _ _ _;refine AE ?_;show AF _ _ (ret BA) _ _ _;refine AE ⟨U,h',tk',U,S',λb o e=>?_⟩;have lb:=AJ e;refine mv.heap b o (λz=>?_) (AA _ (AA _ e));rcases C9.mp z with z | z
    ·exact absurd z (E5 lb)
    ·have:=E3.mp z;rw[AX]at this;exact absurd this (E5 (M7 lb))
   ·cases r2 with
    | error e=>exact hr2
    | ok f2=>
     cases f2 with
     | ret r=>
      obtain⟨rfl,h',tk,rfl,S',kp⟩:=hr2
      repeat (any_goals (first | assumption | wp_step))
      exact h _ _ S' kp
     | _=>exact hr2.elim
  | _=>exact hr.elim
end
end L2


namespace L2
open PySem PySem.Spec PyProof.Rows
theorem aAW:Md.lookup (String.ofList ['r','o','t','a','r','e','t','i','_','t','e','s'].reverse)=ND Kk:=by kernel_rfl
theorem oZ:Slot "set_iterator" "__next__" "set_iterator.__next__" := Slot.of (owner := "set_iterator") (n := "__next__") (by rw[Iq,GH];kernel_rfl) (by decide +kernel) (by decide +kernel) (by decide +kernel) (by first | exact .inl (by decide +kernel) | exact .inr (by decide +kernel)) (by rw[GI];kernel_rfl)
theorem Bk:LF table "set_iterator.__next__" = ND DJ.«set_iterator.__next__»:=entryFor_of_tree (by kernel_rfl)
theorem Bl(a:A6):LG "set_iterator.__next__" ⟨[a],[]⟩:=by unfold LG;rw[Ki (id := "set_iterator.__next__") (n:=['_','_','t','x','e','n','_','_']) (o:=['r','o','t','a','r','e','t','i','_','t','e','s']) (by kernel_rfl) aAW];kernel_rfl
theorem dq:Slot "set_iterator" "__iter__" "set_iterator.__iter__" := Slot.of (owner := "set_iterator") (n := "__iter__") (by rw[Iq,GH];kernel_rfl) (by decide +kernel) (by decide +kernel) (by decide +kernel) (by first | exact .inl (by decide +kernel) | exact .inr (by decide +kernel)) (by rw[GI];kernel_rfl)
theorem qz(a:A6):LG "set_iterator.__iter__" ⟨[a],[]⟩:=by unfold LG;rw[Ki (id := "set_iterator.__iter__") (n:=['_','_','r','e','t','i','_','_']) (o:=['r','o','t','a','r','e','t','i','_','t','e','s']) (by kernel_rfl) aAW];kernel_rfl
theorem rm:LF table "set_iterator.__iter__" = ND DJ.«dict_keyiterator.__iter__»:=JY (id' := "dict_keyiterator.__iter__") (by kernel_rfl) (by first | rfl | decide +kernel | (unfold String.splitOn;simp +decide [String.splitOnAux])) (by decide +kernel) (by kernel_rfl)
theorem rn:LF table "set.__iter__" = ND DJ.«frozenset.__iter__»:=JY (id' := "frozenset.__iter__") (by kernel_rfl) U (by decide +kernel) (by kernel_rfl)
def du(h:AM)(I:A7)(f:A6)(i:Nat)(a:A7)(n ep:Nat):Prop:=∃o,h.get? I=ND o∧o.cls=.type "set_iterator" ∧ o.data=.fields #[f,.int (i:Int) 0,.ref a,.int (n:Int) 0,.int (ep:Int) 0]
def VL(h:AM)(a:A7)(es:Array (Int×A6))(ep:Nat)(t:SetTable):Prop:=∃o,h.get? a=ND o∧o.cls=.type "set" ∧ o.data=.set es ep t∧t.fits es.size=NG
theorem du.at_{h h':AM}{I a:A7}{f:A6}{i n ep:Nat}(x:du h I f i a n ep)(e:∀o,h.get? I=ND o→h'.get? I=ND o):du h' I f i a n ep:=let ⟨o,ho,r⟩:=x;⟨o,e o ho,r⟩
theorem VL.at_{h h':AM}{a:A7}{es:Array (Int×A6)}{ep:Nat}{t:SetTable}(x:VL h a es ep t)(e:∀o,h.get? a=ND o→h'.get? a=ND o):VL h' a es ep t:=let ⟨o,ho,r⟩:=x;⟨o,e o ho,r⟩
section
variable{prog:AI}{w:AL}{A:AN}{E:A6→A8→Prop}{s:A8}{I a T:A7}{f:A6}{i n ep:Nat}{es:Array (Int×A6)}{t:SetTable}
theorem du.ty(x:du s.heap I f i a n ep):s.TypeIs (.ref I) "set_iterator" := let ⟨o,ho,hc,_⟩:=x;⟨o,ho,hc⟩
theorem VL.ty(x:VL s.heap a es ep t):s.TypeIs (.ref a) "set" := let ⟨o,ho,hc,_⟩:=x;⟨o,ho,hc⟩
theorem dw{Q:A6→A8→Prop}(x:du s.heap I f i a n ep)(h:Q (.ref I) s):AF (AG prog w) A (HG (.ref I)) Q E s:=by refine IC x.ty dq (BM dq x.ty rm ?_ (qz _));show AF _ _ (ret (.ref I)) _ _ s;exact AE ⟨_,U, "set_iterator", _,x.ty,oZ.lookup,h⟩
theorem JC{α:Type}{h1:AM}{Q0:α→A8→Prop}{E':A6→A8→Prop}(hh:A.handled=none)(hQ:∀(v:A6) h',Kb {s with heap:=h'} v "StopIteration" → (∀b o,h1.get? b=ND o→h'.get? b=ND o)→E' v {s with heap:=h'}) :
  AF (AG prog w) A.in1 (newExc (.type "StopIteration") [] >>= λe=>(raiseNew e:Sem α)) Q0 E' {s with heap:=h1}:=by
 refine A9 ?_;simp only[newExc,newTuple];refine A9 (BT (A9 (m:=Jn _ _) (DI (a:=BA) (by first | rfl | (simp only[Jn];rfl)) (BT ?_ (by size_fits)))) (by size_fits));simp only[raiseNew];refine A9 (wpAny_handled ?_);rw[show A.in1.handled=none from hh];refine A9 (AE (wpAny_throw ?_));refine hQ (.ref _) _ ?_ λb o e=>AA _ (AA _ e);exact⟨_,AK _ U,U⟩
theorem aDl{slot nxt:Nat}{x:A6}{Q:Option A6→A8→Prop}(hit:du s.heap I (.int (slot:Int) 0) i a es.size ep)(hs:VL s.heap a es ep t)
  (hN:∀(Q':Option (A6×Nat)→A8→Prop) E',Q' (ND (x,nxt)) s→AF (AG prog w) A.in1 (FF a slot i ep) Q' E' s)
  (hQ:∀h',du h' I (.int (nxt:Int) 0) (i+1) a es.size ep→BH I s.heap h'→Q (ND x) {s with heap:=h'}):AF (AG prog w) A (DD (.ref I)) Q E s:=by
 obtain⟨o,ho,hc,hd⟩:=id hit;obtain⟨oa,ha,_,hda,hf⟩:=id hs;unfold DD;refine A9 (EU (CH (name:=FR "__next__") hit.ty oZ (BM oZ hit.ty Bk ?_ (Bl _))));unfold DJ.«set_iterator.__next__»;refine A9 (DI (a:=(AQ I,[])) U ?_);dsimp only;refine A9 (EJ ho hd ?_);dsimp only;refine A9 (CD ha hda hf ?_);rw[if_neg (by simp)];dsimp only[D7];refine A9 (hN _ _ ?_);dsimp only;refine A9 (Co ho hd (by simp) ?_);have g1:=BB (Kj (·.setIfInBounds 0 (EH (nxt:Int)))) ho (Ct (BD hd _));have d1:=BD hd (·.setIfInBounds 0 (EH (nxt:Int)));refine A9 (Co g1 d1 (by simp) (AE ⟨x,U,AE (hQ _ ?_ ((B5 ..).trans (B5 ..)))⟩));refine⟨_,BB _ g1 (Ct (BD d1 _)),(EZ ..).trans ((EZ ..).trans hc),?_⟩;rw[BD d1];simp[EH]
theorem aF1{slot:Nat}{Q:Option A6→A8→Prop}(hh:A.handled=none)(hit:du s.heap I (.int (slot:Int) 0) i a es.size ep)(hs:VL s.heap a es ep t)
  (hN:∀(Q':Option (A6×Nat)→A8→Prop) E',Q' none s→AF (AG prog w) A.in1 (FF a slot i ep) Q' E' s)
  (hQ:∀h',(∀b o,b≠I→s.heap.get? b=ND o→h'.get? b=ND o)→Q none {s with heap:=h'}):AF (AG prog w) A (DD (.ref I)) Q E s:=by
 obtain⟨o,ho,hc,hd⟩:=id hit;obtain⟨oa,ha,_,hda,hf⟩:=id hs;unfold DD;refine A9 (EU (CH (name:=FR "__next__") hit.ty oZ (BM oZ hit.ty Bk ?_ (Bl _))));unfold DJ.«set_iterator.__next__»;refine A9 (DI (a:=(AQ I,[])) U ?_);dsimp only;refine A9 (EJ ho hd ?_);dsimp only;refine A9 (CD ha hda hf ?_);rw[if_neg (by simp)];dsimp only[D7];refine A9 (hN _ _ ?_);dsimp only;refine A9 (Co ho hd (by simp) ?_);refine JC hh λv h' ty kp=>A9 (FU ty KA ?_);exact AE (hQ h' λb o nb e=>kp b o ((B5 s.heap I _).extBut b o nb e))
theorem aDm{ps:Array A6}{c p:Nat}{tk:Tok}{hx:Int}{x:A6}{oT:Obj}{Q:Option A6→A8→Prop}(hit:du s.heap I (.ref T) i a es.size ep)(hs:VL s.heap a es ep t)(hT:s.heap.get? T=ND oT)(hTd:oT.data=.seq ps c)(hp:ps[i]?=ND (.int (p:Int) tk))(he:es[p]?=ND (hx,x))
  (hQ:∀h',du h' I (.ref T) (i+1) a es.size ep→BH I s.heap h'→Q (ND x) {s with heap:=h'}):AF (AG prog w) A (DD (.ref I)) Q E s:=by
 obtain⟨o,ho,hc,hd⟩:=id hit;obtain⟨oa,ha,_,hda,hf⟩:=id hs;unfold DD;refine A9 (EU (CH (name:=FR "__next__") hit.ty oZ (BM oZ hit.ty Bk ?_ (Bl _))));unfold DJ.«set_iterator.__next__»;refine A9 (DI (a:=(AQ I,[])) U ?_);dsimp only;refine A9 (EJ ho hd ?_);dsimp only;refine A9 (CD ha hda hf ?_);rw[if_neg (by simp)];dsimp only[D7];refine A9 (KB hT hTd ?_);dsimp only;rw[hp];dsimp only[D7];unfold setNextDrawn;refine A9 (A9 (BU ha hda hf ?_));dsimp only;rw[if_neg (by simp),he];dsimp only;refine AE (A9 (Co ho hd (by simp) (AE ⟨x,U,AE (hQ _ ?_ (B5 ..))⟩)));refine⟨_,BB _ ho (Ct (BD hd _)),(EZ ..).trans hc,?_⟩;rw[BD hd];simp[EH]
theorem aF2{ps:Array A6}{c:Nat}{oT:Obj}{Q:Option A6→A8→Prop}(hh:A.handled=none)(hit:du s.heap I (.ref T) i a es.size ep)(hs:VL s.heap a es ep t)(hT:s.heap.get? T=ND oT)(hTd:oT.data=.seq ps c)(hp:ps[i]?=none)
  (hQ:∀h',(∀b o,b≠I→s.heap.get? b=ND o→h'.get? b=ND o)→Q none {s with heap:=h'}):AF (AG prog w) A (DD (.ref I)) Q E s:=by
 obtain⟨o,ho,hc,hd⟩:=id hit;obtain⟨oa,ha,_,hda,hf⟩:=id hs;unfold DD;refine A9 (EU (CH (name:=FR "__next__") hit.ty oZ (BM oZ hit.ty Bk ?_ (Bl _))));unfold DJ.«set_iterator.__next__»;refine A9 (DI (a:=(AQ I,[])) U ?_);dsimp only;refine A9 (EJ ho hd ?_);dsimp only;refine A9 (CD ha hda hf ?_);rw[if_neg (by simp)];dsimp only[D7];refine A9 (KB hT hTd ?_);dsimp only;rw[hp];dsimp only;refine A9 (Co ho hd (by simp) ?_);have g1:=BB (Kj (·.setIfInBounds 0 (EH 0))) ho (Ct (BD hd _));have d1:=BD hd (·.setIfInBounds 0 (EH 0));refine A9 (Co g1 d1 (by simp) ?_);refine JC hh λv h' ty kp=>A9 (FU ty KA ?_);exact AE (hQ h' λb o nb e=>kp b o (((B5 s.heap I _).trans (B5 _ I _)).extBut b o nb e))
theorem aF3{slot:Nat}{Q:Option (A6×Nat)→A8→Prop}(hb:vC w=NH)(hs:VL s.heap a es ep t)(h:Q (((HZ (w.params.setOrder a ep) es)[i]?).map λe=>(e.2,slot)) s):AF (AG prog w) A (FF a slot i ep) Q E s:=by
 obtain⟨oa,ha,_,hda,hf⟩:=id hs;have ft:w.params.followText "set-order" = NG:=by simpa using hb
 unfold FF;refine A9 (BU ha hda hf ?_);dsimp only;unfold GU;refine A9 (A9 (CB (AE ?_)));dsimp only;rw[show (AG prog w).w.params.followText "set-order" = NG from ft,if_pos U,if_neg (by simp)];unfold setWalk GU;refine A9 (A9 (BU ha hda hf ?_));dsimp only;refine A9 (A9 (CB (AE ?_)));dsimp only;rw[show (AG prog w).w.params.followText "set-order" = NG from ft,if_pos rfl];refine A9 (CB (AE (AE ?_)));exact h
def Gi(t:SetTable):Nat→Nat
 | 0=>0
 | i+1=>t.place.getD i 0+1
theorem VM(up:t.place.toList.Pairwise (·<·))(hi:i≤t.place.size):AR t.place (Gi t i)=i:=by
 obtain⟨b1,b2,b3⟩:=below_at up (Gi t i);have mono:∀a b,a<b→b<t.place.size→t.place.getD a 0<t.place.getD b 0:=λa b q q'=>by have:=I0.mp up a b (by simp;omega) (by simpa using q') q;simp only[T8]at this;simpa[O4,q',show a<t.place.size by omega]using this
 rcases i8 (AR t.place (Gi t i)) i with z | z | z
 ·cases i with
  | zero=>omega
  | succ i=>have h1:=b3 i (by omega) (by omega);rw[show Gi t (i+1)=t.place.getD i 0+1 from rfl]at h1;omega
 ·exact z
 ·have h1:=b2 i z;cases i with
  | zero=>exact absurd h1 (L7 _)
  | succ i=>rw[show Gi t (i+1)=t.place.getD i 0+1 from rfl]at h1;have:=mono i (i+1) (by omega) (by omega);omega
theorem aF4{Q:Option (A6×Nat)→A8→Prop}(hb:vC w=NG)(hs:VL s.heap a es ep t)(hl:Led (vC w) t)(hdr:(!t.plain&&decide (es.size > 1))=NH)(hi:i≤es.size)(h:Q ((es[i]?).map λe=>(e.2,Gi t (i+1))) s):AF (AG prog w) A (FF a (Gi t i) i ep) Q E s:=by
 obtain⟨oa,ha,_,hda,hf⟩:=id hs;have ft:w.params.followText "set-order" = NH:=by simpa using hb
 have hz:t.place.size=es.size:=by simp only[NC,J7,beq_iff_eq]at hf;exact hf.1
 have up:t.place.toList.Pairwise (·<·):=by
  cases e:t.plain with
  | true=>exact(hl.2 e).1
  | false=>
   rw[e]at hdr;have:es.size≤1:=by simpa using hdr
   match h:t.place.toList with
   | []=>exact .nil
   | [x]=>simp
   | x::y::r=>have:=congrArg j4 h;simp at this;omega
 unfold FF;refine A9 (BU ha hda hf ?_);dsimp only;unfold GU;refine A9 (A9 (CB (AE ?_)));dsimp only;rw[show (AG prog w).w.params.followText "set-order" = NH from ft,if_neg (by simp)];refine CY (λq=>?_) λ_=>?_
 ·exfalso;have q':(!t.plain&&decide (es.size > 1))=NG:=q;rw[hdr]at q';cases q'
 ·refine A9 ?_;refine CY (λq=>?_) λ_=>AE ?_
  ·exfalso;have:t.led=NG:=by rw[hl.1,hb]
   rw[this]at q;simp at q
  ·rw[VM up (by omega)];refine AE ?_;rcases J8 i es.size with z | z
   ·rw[N3 z]at h ⊢;rw[N3 (by omega)];have e:t.place[i]'(by omega)=t.place.getD i 0:=by simp[O4,show i<t.place.size by omega]
    simpa[Gi,e]using h
   ·rw[Array.getElem?_eq_none z]at h ⊢;exact h
end
end L2


namespace L2
open PySem PySem.Spec PyProof.Rows
section
variable{prog:AI}{w:AL}{A:AN}{E:A6→A8→Prop}{s:A8}{I a T:A7}{f:A6}{i n ep:Nat}{es:Array (Int×A6)}{t:SetTable}
theorem aDn{M:IL}{src:Source}{m:Nat}{Q:Nat→A8→Prop}(hm:m≠0)(h:∀i dr,i<m→Q i {s with drawn:=dr}):AF M A (choose src m) Q E s:=λ_ _ _=>⟨hm,h _ _ (T9 _ (Nat.pos_of_ne_zero hm))⟩
theorem Vf{M:IL}{α:Type}:∀(m:Nat)(xs:List α)(s:A8)(Q:List α→A8→Prop),xs.length=m→(∀ys dr,ys.Perm xs→Q ys {s with drawn:=dr})→AF M A (KG m xs) Q E s
 | 0,xs,s,Q,hn,h=>by have:xs=[]:=L9 hn;subst this;unfold KG;exact AE (h [] s.drawn (Q3 _))
 | m+1,[],s,Q,hn,h=>absurd hn (by simp)
 | m+1,x::xs,s,Q,hn,h=>by unfold KG;refine A9 (aDn (by simp) λi dr hi=>?_);rw[B6 hi];dsimp only;refine A9 (Vf m ((x::xs).eraseIdx i) _ _ (by rw[V4 hi];omega) λys dr' pm=>AE ?_);exact h _ dr' ((pm.cons _).trans (Ed _ _ hi))
def Ord(S:Int→Bool)(n:Nat)(ord:List A6):Prop:=ord.length=n∧∃ns,ED ord ns∧∀k,S k=NG↔k∈ns
theorem VN{S:Int→Bool}{l:List (Int×A6)}{ord:List A6}(hel:JJ (intKind prog w) l)(hm:∀k,S k=NG↔∃e∈l,(intKind prog w).is k e.2=NG)(hn:l.length=n)(pm:ord.Perm (l.map (·.2))):Ord S n ord:=by
  refine⟨by rw[pm.length_eq,B7,hn],?_⟩;have allI:∀v∈ord,∃k t,v=CM k t:=λv hv=>by obtain⟨e,he,rfl⟩:=G4.mp (pm.mem_iff.mp hv);obtain⟨⟨k,hk,_⟩,_⟩:=hel e he;obtain⟨t,ht⟩:=EV hk;exact⟨k,t,ht⟩
  have mk:∀vs:List A6,(∀v∈vs,∃k t,v=CM k t)→∃ns,ED vs ns∧∀k,k∈ns↔∃t,CM k t∈vs:=by
    intro vs
    induction vs with
    | nil=>exact λ_=>⟨[],.nil,λk=>by simp⟩
    | cons v vs ih=>
      intro hv;obtain⟨ns,h1,h2⟩:=ih λv q=>hv v (C8 _ q);obtain⟨k,t,rfl⟩:=hv v D4;refine⟨k::ns,.cons k t h1,λj=>?_⟩;rw[C9,h2];constructor
      · rintro(rfl | ⟨t',q⟩)
        · exact⟨t,D4⟩
        · exact⟨t',C8 _ q⟩
      · rintro⟨t',q⟩
        rcases C9.mp q with q | q
        · injection q with q
          exact .inl q
        · exact .inr ⟨t',q⟩
  obtain⟨ns,h1,h2⟩:=mk ord allI;refine⟨ns,h1,λk=>?_⟩;rw[hm,h2];constructor
  · rintro⟨e,he,hk⟩
    obtain⟨t,ht⟩:=EV hk;exact⟨t,pm.mem_iff.mpr (G4.mpr ⟨e,he,ht⟩)⟩
  · rintro⟨t,q⟩
    obtain⟨e,he,q⟩:=G4.mp (pm.mem_iff.mp q);exact⟨e,he,by rw[q];exact IY _ _ _ _⟩
theorem Pu(hh:A.handled=none)(ne:a≠I){slot:Nat→Nat}{ord:List A6}(hz:ord.length=es.size)
  (hN:∀(s:A8)(i:Nat)(Q':Option (A6×Nat)→A8→Prop) E',i≤es.size→VL s.heap a es ep t→Q' ((ord[i]?).map λv=>(v,slot (i+1))) s→AF (AG prog w) A.in1 (FF a (slot i) i ep) Q' E' s) :
  Walks prog w A I [I,a] [I] es.size (λi v=>ord[i]?=ND v) (λi h=>du h I (.int (slot i:Int) 0) i a es.size ep∧VL h a es ep t) where
 sub:=λb hb=>by simp at hb;simp[hb]
 frame:=λ_ _ _ x kp=>⟨x.1.at_ λo e=>kp I (by simp) o e,x.2.at_ λo e=>kp a (by simp) o e⟩
 item:=λi s Q E hi x hQ=>by have e:ord[i]?=ND (ord[i]'(by omega)):=B6 (by omega);refine aDl (x:=ord[i]'(by omega)) (nxt:=slot (i+1)) x.1 x.2 (λQ' E' q=>hN s i Q' E' (by omega) x.2 (by rw[e];exact q)) λh' st sb=>?_;exact hQ _ h' s.toks e ⟨st,x.2.at_ λo eo=>sb.extBut a o ne eo⟩ λb o hb eo=>sb.extBut b o (λz=>hb (by simp[z])) eo
 done:=λs Q E x hQ=>aF1 hh x.1 x.2 (λQ' E' q=>hN s es.size Q' E' (C6 _) x.2 (by rw[E8 (by omega)];exact q)) λh' kp=>hQ h' s.toks λb o hb e=>kp b o (λz=>hb (by simp[z])) e
 self:=λ_ _ _ _ x hQ=>dw x.1 hQ
theorem VP(hh:A.handled=none)(ne:a≠I)(neT:T≠I){ps:List Nat}(hz:ps.length=es.size)(hp:∀p∈ps,p<es.size) :
  Walks prog w A I [I,a,T] [I] es.size (λi v=>(ps.map λp=>(es.getD p (0,.none)).2)[i]?=ND v) (λi h=>du h I (.ref T) i a es.size ep∧VL h a es ep t∧∃o c,h.get? T=ND o∧o.data=.seq (ps.map λ(p:Nat)=>EH p).toArray c) where
 sub:=λb hb=>by simp at hb;simp[hb]
 frame:=λ_ _ _ x kp=>⟨x.1.at_ λo e=>kp I (by simp) o e,x.2.1.at_ λo e=>kp a (by simp) o e,let ⟨o,c,ho,hd⟩:=x.2.2;⟨o,c,kp T (by simp) o ho,hd⟩⟩
 item:=λi s Q E hi x hQ=>by
  obtain⟨h1,h2,oT,c,hT,hTd⟩:=x;have lt:i<ps.length:=by omega
  have lp:=hp ps[i] (O9 lt);refine aDm (p:=ps[i]) (tk:=0) (hx:=es[ps[i]].1) (x:=es[ps[i]].2) h1 h2 hT hTd (by simp[lt,EH]) (by rw[N3 lp]) λh' st sb=>?_;exact hQ _ h' s.toks (by simp[lt,O4,lp]) ⟨st,h2.at_ λo eo=>sb.extBut a o ne eo,oT,c,sb.extBut T oT neT hT,hTd⟩ λb o hb eo=>sb.extBut b o (λz=>hb (by simp[z])) eo
 done:=λs Q E x hQ=>by obtain⟨h1,h2,oT,c,hT,hTd⟩:=x;exact aF2 hh h1 h2 hT hTd (by simp[hz]) λh' kp=>hQ h' s.toks λb o hb e=>kp b o (λz=>hb (by simp[z])) e
 self:=λ_ _ _ _ x hQ=>dw x.1 hQ
theorem aAX{S:Int→Bool}{Q:A6→A8→Prop}(hh:A.handled=none)(hs:Ef prog w (vC w) s.heap a S n)
    (h:∀(h1:AM)(dr:IJ)(I:A7)(fp:List A7)(ord:List A6)(St:Nat→AM→Prop),(∀b o,s.heap.get? b=ND o→h1.get? b=ND o)→Walks prog w A I fp [I] n (λi v=>ord[i]?=ND v) St→St 0 h1→(∀x∈fp,x=a∨s.heap.objs.size≤x)→s.heap.objs.size≤I→Ord S n ord→Q (.ref I) {s with heap:=h1,drawn:=dr}) :
    AF (AG prog w) A (HG (.ref a)) Q E s:=by
  obtain⟨o,es,ep,t,ho,hex,hd,hel,hm,hz,hf,hn,hl⟩:=hs;have sat:VL s.heap a es ep t:=⟨o,ho,hex.1,hd,hf⟩
  have lt:=AJ ho;subst hn;refine IC sat.ty Z9 (BM Z9 sat.ty rn ?_ (PySem.F.args_set_iter_1 _));unfold DJ.«frozenset.__iter__» LO;refine A9 (A9 (DI (a:=(AQ a,[])) U ?_));unfold LH LI;refine AE (A9 (A9 (CD ho hd hf (AE ?_))));unfold setDrawn GU;refine A9 (A9 (BU ho hd hf ?_));dsimp only;refine A9 (A9 (CB (AE ?_)));refine AE ?_;refine CY (λc=>?_) λc=>?_
  · have c':(vC w&&(!t.plain&&decide (es.size > 1)))=NG:=c
    rw[J7]at c';refine A9 (Vf es.size (D2 es.size) s _ (by simp) λps dr pm=>?_);have lps:ps.length=es.size:=by rw[pm.length_eq,D8]
    have hp:∀p∈ps,p<es.size:=λp hp=>F5.mp (pm.mem_iff.mp hp);refine A9 (wpAny_newTuple ?_ (by rw[B7,lps];exact EX hz));have g1:(s.heap.push {cls:=.type "tuple", data:=.seq (ps.map λ(i:Nat)=>EH i).toArray}).get? a=ND o:=AA _ ho;refine A9 (ID g1 hd hf ?_);refine A9 (BT (AE ⟨_,U, "set_iterator", _,⟨_,AK _ U,U⟩,oZ.lookup,?_⟩));refine h _ dr _ _ (ps.map λp=>(es.getD p (0,.none)).2) _ (λb o e=>AA _ (AA _ e)) (VP (T:=s.heap.objs.size) (t:=t) (ep:=ep) hh ?_ ?_ lps hp) ⟨⟨_,AK _ U,U,U⟩,sat.at_ λo e=>AA _ (AA _ e),_,_,AA _ (AK _ U),U⟩ ?_ ?_ ?_
    · show a≠(s.heap.push _).objs.size
      rw[AX];exact E5 (M7 lt)
    · show s.heap.objs.size≠(s.heap.push _).objs.size
      rw[AX];exact E5 (M0 _)
    · intro x hx
      rcases C9.mp hx with z | z
      · rw[z]
        show _∨s.heap.objs.size≤(s.heap.push _).objs.size;rw[AX];exact .inr (N5 _)
      · rcases C9.mp z with z | z
        · exact .inl z
        · rw[E3.mp z]
          exact .inr (C6 _)
    · show s.heap.objs.size≤(s.heap.push _).objs.size
      rw[AX];exact N5 _
    · refine VN (prog:=prog) (w:=w) hel hm (by simp) ?_
      have e:es.toList.map (·.2)=(D2 es.size).map λp=>(es.getD p (0,.none)).2:=by refine X0 (by simp) λk k1 k2=>?_;simp at k1;simp[O4,k1]
      rw[e];exact pm.map _
  · refine A9 (AE ?_)
    refine A9 (ID ho hd hf ?_);refine A9 (BT (AE ⟨_,U, "set_iterator", _,⟨_,AK _ U,U⟩,oZ.lookup,?_⟩));have ne:a≠s.heap.objs.size:=E5 lt;have fp':∀x∈[s.heap.objs.size,a],x=a∨s.heap.objs.size≤x:=λx hx=>by
      rcases C9.mp hx with z | z
      · exact .inr (d6 z.symm)
      · exact .inl (E3.mp z)
    cases hb:vC w with
    | false=>have pm:=qy (w.params.setOrder a ep) es;refine h _ s.drawn _ _ ((HZ (w.params.setOrder a ep) es).toList.map (·.2)) _ (λb o e=>AA _ e) (Pu (t:=t) (ep:=ep) (slot:=λ_=>0) hh ne (by rw[B7,pm.length_eq,K3]) λs i Q' E' hi x q=>?_) ⟨⟨_,AK _ U,U,U⟩,sat.at_ λo e=>AA _ e⟩ fp' (C6 _) (VN (prog:=prog) (w:=w) hel hm (by simp) (pm.map _));refine aF3 hb x ?_;rw[B8,L8,n8]at q;exact q
    | true=>
      have c':(!t.plain&&decide (es.size > 1))=NH:=by have c2:¬(vC w&&(!t.plain&&decide (es.size > 1)))=NG:=c;rw[hb,Bool.true_and]at c2;simpa using c2
      refine h _ s.drawn _ _ (es.toList.map (·.2)) _ (λb o e=>AA _ e) (Pu (t:=t) (ep:=ep) (slot:=Gi t) hh ne (by simp) λs i Q' E' hi x q=>?_) ⟨⟨_,AK _ U,U,U⟩,sat.at_ λo e=>AA _ e⟩ fp' (C6 _) (VN (prog:=prog) (w:=w) hel hm (by simp) (Q3 _));refine aF4 hb x hl c' hi ?_;rw[B8,L8,n8]at q;exact q
end
end L2


namespace L2
open PySem PySem.Spec PySem.Calls PyProof.Rows PyProof.V
section
variable{prog:AI}{w:AL}{A:AN}{E:A6→A8→Prop}{s:A8}{I a T:A7}{n:Nat}{S:Int→Bool}
theorem aAY{Q:Bool→A8→Prop}(hT:s.TypeIs (.ref a) "set") (h:Q NH s):AF (AG prog w) A (ER (.ref a)) Q E s:=by
 unfold ER;refine A9 (IT hT PySem.F.slot_set_len.lookup ?_);generalize hid:("set.__len__" : String)=id0
 wp_delta
 rw[show splitId id0=ND ("set", "__len__")from by subst hid;decide +kernel];subst hid;refine A9 (FU (T := "set") (b:=NG) hT (by rw[GI];kernel_rfl) (CY (λz=>absurd z (by decide)) λ_=>CY (λ_=>?_) λz=>absurd (by decide +kernel) z));exact A9 (LJ hT (AE h))
theorem aDo{R:FG→A8→Prop}(hh:A.handled=none)(hs:Ef prog w (vC w) s.heap a S n)(hz:n≤sizeLine)(L:A7)(ne:L≠a)(hL:s.heap.get? L=ND {cls:=.type "list", data:=.seq #[] 0})
    (hR:∀h' dr tk acc c,(∀b o,b≠L→s.heap.get? b=ND o→h'.get? b=ND o)→h'.get? L=ND {cls:=.type "list", dict:=none,data:=.seq acc c,slots:=#[]}→Ord S n acc.toList→R (.ok (.ret (.ref L))) {s with heap:=h',drawn:=dr,toks:=tk}) :
    AF (AG prog w) A.in1 (DB (.ref L) (.ref a) (.ref L)) (λfin s'=>match fin with | .done f=>R (.ok f) s' | .again c'=>c'.quiet=NG∧CI (AG prog w) A c' R s') (λe s'=>R (.error e) s') s:=by
  have lt:L<s.heap.objs.size:=AJ hL;have ty:s.TypeIs (.ref a) "set" := let ⟨o,_,_,_,ho,hex,_⟩:=hs;⟨o,ho,hex.1⟩;unfold DB;refine A9 (LJ (T := "set") ty ?_);have h1:FV (.ref L) (.ref a)=NH:=by simp[FV,ne]
  have h2:(BY "set" == BY "list")=NH:=by decide
  have h3:(BY "set" == BY "tuple")=NH:=by decide
  simp only[h1,h2,h3,o7,U9,if_false];refine A9 (aAX (A:=A.in1) hh hs λh0 dr I fp ord St kp W st fpo lI od=>?_);have hL1:=kp _ _ hL;have nf:L∉fp:=λz=>by
    rcases fpo L z with z | z
    · exact ne z
    · exact absurd lt (Nat.not_lt.mpr z)
  have nI:∀b o,s.heap.get? b=ND o→b≠I:=λb o e=>E5 (E1 (AJ e) lI);have key:∀(h:AM)(c1 tk:Nat),St 0 h→(∀b o,b≠L→s.heap.get? b=ND o→h.get? b=ND o)→h.get? L=ND {cls:=.type "list", data:=.seq #[] c1}→CI (AG prog w) A (.builtin "list.extend.loop" ⟨[.ref L,.ref I,.ref L],[]⟩) R {s with heap:=h,drawn:=dr,toks:=tk}:=by
    intro h c1 tk st0 k0 g0;refine codeAny_extend_loopS W.toS hz L nf (.ref L) n 0 _ #[] c1 U (N4 _) st0 g0 (ItemsOf.nil _) λs' acc c mv g' it=>?_;rw[Moved.eq_with mv];refine hR s'.heap dr s'.toks acc c (λb o nb e=>mv.heap b o (λz=>?_) (k0 b o nb e)) g' ?_
    · rcases C9.mp z with z | z
      · exact nb z
      · exact nI b o e (E3.mp z)
    · have e:acc.toList=ord:=by
        refine K6 λj=>?_;rcases J8 j acc.size with z | z
        · have e1:acc[j]?=ND acc[j]:=N3 z
          rw[L8,e1,it.2 j _ e1]
        · rw[E8 (by simpa using z),E8 (by have:=it.1;have:=od.1;omega)]
      rw[e];exact od
  refine A9 (BQ (aAY (hT:=let ⟨o,ho,hc⟩:=ty;⟨o,kp _ _ ho,hc⟩) ?_));refine CY (λ_=>?_) λ_=>AE ⟨Da W5 _,key _ 0 _ st (λb o _ e=>kp b o e) hL1⟩;refine A9 (IZ (A9 ?_));show AF _ _ (updateSeq L (·.push .none) >>= λ_=>updateSeq L (·.pop)) _ _ _;refine A9 (Iy hL1 U ?_);have g2:=BB (DT (·.push BA)) hL1 U;refine Iy (hz:=by seq_fits) g2 U ?_;have g3:=BB (DT (·.pop)) g2 U;refine AE ⟨Da W5 _,key _ _ _ (W.frame 0 _ _ st λb hb o e=>?_) (λb o hb e=>?_) g3⟩
  · have nb:b≠L:=λz=>nf (z▸hb)
    exact(BE _ _ (Ne.symm nb)).trans ((BE _ _ (Ne.symm nb)).trans e)
  · exact(BE _ _ (Ne.symm hb)).trans ((BE _ _ (Ne.symm hb)).trans (kp b o e))
theorem JD{R:List A6→A8→Prop}(hh:A.handled=none)(hs:Ef prog w (vC w) s.heap a S n)(hz:n≤sizeLine)
  (h:∀(h':AM)(dr:IJ)(tk:Nat)(acc:List A6),(∀b o,s.heap.get? b=ND o→h'.get? b=ND o)→Ord S n acc→R acc {s with heap:=h',drawn:=dr,toks:=tk}):AF (AG prog w) A (collect (.ref a)) R E s:=by
 have lt:a<s.heap.objs.size:=let ⟨o,_,_,_,ho,_⟩:=hs;AJ ho;unfold collect;refine A9 (JU (CU entry_proto_collect' ?_));rw[Bi PySem.F.plain_proto_collect _];show AF _ A.in1 (newList [] >>= λl=>again (.builtin "list.__iadd__" ⟨[l,.ref a],[]⟩)) _ _ s;refine A9 (BT (AE ⟨Da X5 _,CU entry_list_iadd' ?_⟩));rw[Bi X5 _];have g1:(s.heap.push {cls:=.type "list", data:=.seq ([]:List A6).toArray}).get? s.heap.objs.size=ND {cls:=.type "list", data:=.seq #[]}:=AK _ U;show AF _ A.in1 (DB (.ref s.heap.objs.size) (.ref a) (.ref s.heap.objs.size)) _ _ _;have key:=aDo (A:=A) (s:={s with heap:=s.heap.push {cls:=.type "list", data:=.seq ([]:List A6).toArray}})
  (R:=λ(q:FG) (s':A8)=>∃(h':AM)(dr:IJ)(tk:Nat)(acc:Array A6)(c:Nat),q=.ok (.ret (.ref s.heap.objs.size))∧s'={s with heap:=h',drawn:=dr,toks:=tk}∧(∀b o,s.heap.get? b=ND o→h'.get? b=ND o)∧h'.get? s.heap.objs.size=ND {cls:=.type "list", dict:=none,data:=.seq acc c,slots:=#[]}∧Ord S n acc.toList)
  hh (hs.at_ λo e=>AA _ e) hz s.heap.objs.size (O6 lt) g1 λh' dr tk acc c kp g od=>⟨h',dr,tk,acc,c,U,U,λb o e=>kp b o (E5 (AJ e)) (AA _ e),g,od⟩
 refine AW key (λfin s' x=>?_) λe s' x=>?_
 ·cases fin with
  | done f=>
   obtain⟨h',dr,tk,acc,c,e,rfl,kp,g,od⟩:=x;cases e;show AF _ A (load s.heap.objs.size >>= _) _ _ _;exact A9 (IP g (AE (h h' dr tk acc.toList kp od)))
  | again c1=>refine⟨x.1,Cn x.2 λq s2 y=>?_⟩;obtain⟨h',dr,tk,acc,c,rfl,rfl,kp,g,od⟩:=y;show AF _ A (load s.heap.objs.size >>= _) _ _ _;exact A9 (IP g (AE (h h' dr tk acc.toList kp od)))
 ·obtain⟨_,_,_,_,_,e',_⟩:=x;cases e'
end
end L2


namespace L2
open PySem PySem.Spec PySem.Calls PyProof.Rows PyProof.V
def Px(k:Int):List Int→List Int
 | []=>[k]
 | a::l=>if k<a then k::a::l else if k=a then a::l else a::Px k l
theorem Py(k j:Int):∀l:List Int,j∈Px k l↔j=k∨j∈l
  | []=>by simp[Px]
  | a::l=>by
    unfold Px;split
    · simp
    · split
      · rename_i e
        subst e;simp
      · rw[C9,Py k j l,C9]
        constructor
        · rintro(h | h | h)
          · exact .inr (.inl h)
          · exact .inl h
          · exact .inr (.inr h)
        · rintro(h | h | h)
          · exact .inr (.inl h)
          · exact .inl h
          · exact .inr (.inr h)
theorem dz(k:Int):∀l:List Int,l.Pairwise (·<·)→(Px k l).Pairwise (·<·)
 | [],_=>by simp[Px]
 | a::l,h=>by
  obtain⟨h1,h2⟩:=J3.mp h;unfold Px;split
  ·rename_i c;refine J3.mpr ⟨λx hx=>?_,h⟩;rcases C9.mp hx with z | z
   ·omega
   ·have:=h1 x z;omega
  ·split
   ·exact h
   ·refine J3.mpr ⟨λx hx=>?_,dz k l h2⟩
    rcases(Py k x l).mp hx with z | z
    ·omega
    ·exact h1 x z
def fj:List Int→List Int
 | []=>[]
 | a::l=>Px a (fj l)
theorem Yn(j:Int):∀ns:List Int,j∈fj ns↔j∈ns
 | []=>Iff.rfl
 | a::l=>by rw[fj,Py,Yn j l,C9]
theorem VR:∀ns:List Int,(fj ns).Pairwise (·<·)
 | []=>.nil
 | a::l=>dz a _ (VR l)
theorem aF5{ns ms:List Int}(h:ms.Pairwise (·<·))(m:∀k,k∈ms↔k∈ns):ms=fj ns:=uZ h (VR ns) λj=>(m j).trans (Yn j ns).symm
theorem JF(k:Int):∀l:List Int,(Px k l).length≤l.length+1
 | []=>by simp[Px]
 | a::l=>by
  unfold Px;split
  ·simp
  ·split
   ·simp
   ·have:=JF k l;simp only[E9];omega
theorem gf:∀ns:List Int,(fj ns).length≤ns.length
 | []=>C6 _
 | a::l=>by have:=JF a (fj l);have:=gf l;simp only[fj,E9];omega
theorem Pz{α:Type} [DecidableEq α]:∀{l m:List α},l.Nodup→(∀x∈l,x∈m)→m.length≤l.length→l.Perm m
 | [],m,_,_,h=>by have:m=[]:=L9 (by simpa using h);subst this;exact Q3 _
 | a::l,m,hn,hs,hl=>by
  obtain⟨h1,h2⟩:=L5.mp hn;have ha:=hs a D4;have e:=List.perm_cons_erase ha;refine List.Perm.trans (List.Perm.cons a (Pz h2 (λx hx=>?_) ?_)) e.symm
  ·have ne:x≠a:=λz=>by rw[z]at hx;exact h1 hx
   exact(List.mem_erase_of_ne ne).mpr (hs x (C8 _ hx))
  ·rw[X2 ha];simp only[E9]at hl;omega
theorem tH(val:Nat→Int):∀i,(EA val i).Nodup
 | 0=>by rw[KW];exact Z6
 | i+1=>by
  rw[ET];unfold step_dedup;have ih:=tH val i;split
  ·exact ih
  ·rename_i c;refine O1.mpr ⟨ih,by simp,λx hx y hy=>?_⟩;rw[E3.mp hy];intro z;subst z;exact c (Q6.mpr ⟨_,hx,by simp⟩)
theorem sr{ns ks ms:List Int}(hk:∀k,(EA (λi=>ns.getD i 0) ns.length).any (·==k)=NG↔k∈ks)(hl:ks.length=(EA (λi=>ns.getD i 0) ns.length).length)(hm:ms.Perm ks)(hs:ms.Pairwise (·≤·)):ms=fj ns:=by
 have hmem:∀k,k∈ks↔k∈ns:=λk=>by
  rw[←hk,LL];have e:(D2 ns.length).map (λi=>ns.getD i 0)=ns:=by refine X0 (by simp) λi h1 h2=>?_;simp[B9,h2]
  rw[e,Q6];exact⟨λ⟨x,hx,q⟩=>by rw[←(beq_iff_eq.mp q)];exact hx,λh=>⟨k,h,by simp⟩⟩
 have nd:ks.Nodup:=by have p:=Pz (tH (λi=>ns.getD i 0) ns.length) (m:=ks) (λx hx=>(hk x).mp (Q6.mpr ⟨x,hx,by simp⟩)) (by omega);exact p.nodup_iff.mp (tH _ _)
 refine aF5 ?_ λk=>(hm.mem_iff).trans (hmem k);have ndm:=hm.nodup_iff.mpr nd;exact(hs.and ndm).imp λq=>by have:=q.1;have:=q.2;omega
section
variable{X:Cx}{e:AB}{t:TE}{x y:Str}{p p2 pos pos2:Pos}
theorem gj{T id:String}{r:V→Hp→VK→Prop}(hc:∀(pins:List (A7×Obj))(s:A8)(σ:St)(H:Hp)(v:V)(u:A6)(Q:VK),Inv X pins σ H s→RelV v u→r v H Q→AF (AG X.prog X.w) X.A (call (.type T) [u]) (λu' s'=>AF (AG X.prog X.w) X.A (call (.builtin id) [u']) (EP X pins σ Q) X.xe s') X.xe s)
  (ha:PE X e t) (hg:Gl X x) (hm:X.mg x=none) (hv:AU x=ND (.builtin id)) (hg2:Gl X y) (hm2:X.mg y=none) (hv2:AU y=ND (.type T)) (hn:x ≠ "__name__" := by decide) (hdb:(x==("__debug__" : Str))=NH:=by decide) (hn2:y ≠ "__name__" := by decide) (Yo:(y==("__debug__" : Str))=NH:=by decide)
  (he:AD [e] X.env=[(NH,AO e X.env)]:=by rfl) (he2:AD [.Call (.Name y p2) [e] [] pos2] X.env=[(NH,AO (.Call (.Name y p2) [e] [] pos2) X.env)]:=by rfl) :
  PE X (.Call (.Name x p) [.Call (.Name y p2) [e] [] pos2] [] pos) (tUn r t):=by
 intro pins s σ H Q I h;refine BC (wN I hg hm hv ?_ hn hdb);refine T7 ?_ he2 U;rw[he2];refine CO (BC (wN I hg2 hm2 hv2 ?_ hn2 Yo));refine K8 ?_ he U;rw[he];exact CO (jA (ha pins s σ H _ I h) λu s1 ⟨v,H1,I1,r1,q1⟩=>Cb (jA (hc pins s1 σ H1 v u Q I1 r1 q1) λu' s' z=>Cb z))
theorem Inv.drew{pins:List (A7×Obj)}{σ:St}{H:Hp}{s:A8}(J:Inv X pins σ H s)(dr:IJ):Inv X pins σ H {s with drawn:=dr}:=⟨J.ok,J.os,J.bare,J.base,J.loc,J.cell,J.free,J.yM,J.pin,J.hok,J.len⟩
def aEB(K:aF):V→Hp→VK→Prop:=λv H Q=>∃(p:A7)(ns:List Int),v=.ref p∧pK K H p (ns.map V.int)∧ns.length<64∧∀l,H l=none→Q (.ref l) (upd H l (.lst ((fj ns).map V.int)))
theorem aF6(hc:X.calm=NG)(pins:List (A7×Obj))(s:A8)(σ:St)(H:Hp)(v:V)(u:A6)(Q:VK)(I:Inv X pins σ H s)(rv:RelV v u)(h:aEB X.K v H Q) :
  AF (AG X.prog X.w) X.A (call (.type "set") [u]) (λu' s'=>AF (AG X.prog X.w) X.A (call (.builtin "sorted") [u']) (EP X pins σ Q) X.xe s') X.xe s:=by
 obtain⟨p,ns,rfl,hq,h64,q⟩:=h;cases rv;obtain⟨its,r,pl,hz⟩:=I.list hq;have hlen:=r.length;rw[B7]at hlen;refine aEA (its:=its.toArray) (ns:=ns) (I.ok.hd hc) pl.isList (by simpa using intsAre_of r) (by rw[C5];unfold CA;omega) λh1 tk1 S1 kp1=>?_;have I1:Inv X pins σ H {s with heap:=h1,toks:=tk1}:=I.kept (t':=tk1) kp1;have ez:its.toArray.size=ns.length:=by simp[hlen]
 rw[ez]at S1;have hfl:=EO (λi=>ns.getD i 0) ns.length;refine Calls.call_function_entry kind_sorted plain_sorted entry_sorted (args_sorted1 _) ?_;unfold DJ.«sorted»;refine A9 (m:=checkCount "sorted" 1 1 _) (AE (A9 (JD (A:=X.A.in1) (I.ok.hd hc) S1 (O5 (vL (by omega))) λh2 dr tk2 acc kp2 od=>?_)));obtain⟨al,ks,ik,mk⟩:=od;have hla:ks.length=acc.length:=(IntsAre.length ik).symm;refine A9 (wpAny_newList ?_ (by rw[al];exact O5 (vL (by omega))));have hoL:(h2.push (HP "list" acc.toArray 0)).get? h2.objs.size=ND (HP "list" acc.toArray 0):=AK _ U;refine A9 (BQ (BM slot_list_sort ⟨_,hoL,U⟩ entry_list_sort (list_sort_tree hoL ik (by omega) λout ns' a1 a2 a3=>⟨_,U,?_⟩) (args_list_sort _)));refine AE ⟨_,U,?_⟩;obtain⟨e,he⟩:=sortedHeap_at (out:=out) hoL;have I2:Inv X pins σ H {s with heap:=h2,drawn:=dr,toks:=tk2}:=(I1.kept (t':=tk2) kp2).drew dr;have hs:H h2.objs.size=none:=I2.hok.fresh (C6 _);have hl2:ns'.length=ks.length:=a2.length_eq;have I3:=I2.laid (t':=tk2) (a:=h2.objs.size) (o:=.lst (ns'.map V.int)) (h':=sortedHeap (h2.push (HP "list" acc.toArray 0)) h2.objs.size acc out)
  (λb o eb=>by
   have hlt:=AJ eb;rw[sortedHeap_old (E5 hlt) (by rw[AX];exact M7 hlt)];exact AA _ eb) (C6 _)
  ⟨by rw[B7];exact O5 (vL (by omega)),out.toList,e,Bf a1,by simpa[HP]using he⟩
 rw[sr mk (by omega) a2 a3]at I3;exact⟨.ref _,_,I3,U,q _ hs⟩
end
end L2


namespace L2
open PySem PySem.Spec PySem.Calls PyProof.Rows PyProof.V
section
variable{prog:AI}{w:AL}{A:AN}{E:A6→A8→Prop}{s:A8}{I l:A7}
end
section
variable{K:aF}{X:Cx}{e:AB}{t:TE}{f:FE}{x y:Str}{p p2 pos pos2:Pos}
def pY(φ:D→Option D)(f:FE):FE:=λe=>(f e).bind φ
def gq:D→Option D
 | .lst ds=>(intsOf ds).bind λns=>if ns.length<64 then ND (.lst ((fj ns).map D.int))else none
 | _=>none
theorem aDp(h:XR K X e t f)(hg:Gl X x)(hm:X.mg x=none)(hv:AU x=ND (.builtin "sorted")) (hg2:Gl X y) (hm2:X.mg y=none) (hv2:AU y=ND (.type "set")) (hc:X.calm=NG:=by rfl) (hn:x ≠ "__name__" := by decide) (hdb:(x==("__debug__" : Str))=NH:=by decide) (hn2:y ≠ "__name__" := by decide) (Yo:(y==("__debug__" : Str))=NH:=by decide)
  (he:AD [e] X.env=[(NH,AO e X.env)]:=by rfl) (he2:AD [.Call (.Name y p2) [e] [] pos2] X.env=[(NH,AO (.Call (.Name y p2) [e] [] pos2) X.env)]:=by rfl) :
  XN K X (.Call (.Name x p) [.Call (.Name y p2) [e] [] pos2] [] pos) (tUn (aEB K) t) (pY gq f):=⟨h.hk,gj (by have:=h.hk;subst this;exact aF6 hc) h.pe hg hm hv hg2 hm2 hv2 hn hdb hn2 Yo he he2,λσ H e d Q re q k=>by
 obtain⟨d0,q1,q2⟩:=aY q;unfold gq at q2;split at q2
 ·obtain⟨ns,q3,q4⟩:=aY q2;split at q4
  ·rename_i hl;cases q4;refine h.ev σ H H e _ _ (Zn.self K H) re q1 λv H1 Z1 s1 t1 z1 rv=>?_;obtain⟨p,rfl,r2⟩:=vU q3 (z1.sm.rv _ _ rv);exact⟨p,ns,U,r2,hl,λl hl=>k _ _ (s1.trans (dO hl _)) ((uH (aU.refl _) (.gY (cV _) (kY.mpr U)) hl).back s1)⟩
  ·cases q4
 ·cases q2⟩
end
end L2


namespace L2
open PySem PySem.Spec PySem.Calls PyProof.Rows PyProof.V PySem.W Att
abbrev Small(k:Int):Prop:=CF k≤1048576
theorem aAZ{ns:List Int}(h:WData.layableAll [WData.list (ns.map WData.int)]=NG):∀k∈ns,Small k:=λk hk=>by
 have h1:(WData.list (ns.map WData.int)).layable=NG:=by simpa[WData.layableAll]using h
 obtain⟨c,_,w⟩:=layableW_iff.mp h1;have c':WData.canLayAll (ns.map WData.int)=NG:=by simpa[WData.canLay]using c
 have w':WData.weightAll (ns.map WData.int)≤2 ^ 20:=by simpa[WData.weight]using w
 have:=(items_part (G4.mpr ⟨k,hk,U⟩) c').2.2;have e:(WData.int k).weight=CF k:=by simp only[WData.weight,CF]
 rw[e]at this;exact G2 this w'
theorem JG{l:OpenLaw}{n:Nat}{q:AI}{loose:List Str}{XP:(Str→Option A6)→AM→Prop}{YP:AL→AM→Prop}{d:DefRec}(hn:l.most=ND n)(hdf:d.params.defaults=[])
  (call:∀(w:AL)(s₀ s₁:A8)(mg mb:Str→Option A6)(fa:A7)(o:Obj)(pm cd doc:A6)(a:A7)(vs:List A6)(ns:List Int),Ground q loose [] XP w s₀ mg mb s₁.heap→YP w s₁.heap →
   s₁.heap.get? fa=ND o→o.data=.func (docDef d.name d.params d.body d.scope pm cd doc)→s₁.heap.CodeRec cd d.name→mg d.name=ND (.ref fa) →
   s₁.heap.get? a=ND {cls:=.type "list", data:=.seq vs.toArray}→ED vs ns→ns.length≤n→(∀k∈ns,Small k)→s₁.gens=#[] →
   CI (AG l.prog w) FD (.call (.ref fa) ⟨[.ref a],[]⟩) (λr s'=>r=.ok (.ret (.bool NG))∧OldK s₁.heap s'.heap∧s'.os=s₁.os∧DF s'.gens) s₁) :
  WalkO q loose XP YP l.row.toRowW d [] (λf vs=>l4 f vs):=by
 intro w s₀ s₁ mg mb G Y fa o pm cd doc dV kV ho hd hcd hD hmg hg args vals as hpre hlay hrd hwl hlo;obtain rfl:dV=.none:=Dflts.none hD hdf;obtain rfl:kV=.none:=Dflts.noKw hD;obtain⟨a,vs,ns,rfl,rfl,hobj,hints,hlen⟩:=nu hn hpre hwl;refine enter_call (Cn (call w s₀ s₁ mg mb fa o pm cd doc a vs ns G Y ho (fd_plain hd) hcd hmg hobj hints hlen (aAZ hlay) hg) λr s' hq=>?_);obtain⟨rfl,h2,h3,h4⟩:=hq;exact⟨.inl ⟨.bool NG,.bool NG,[],rfl,λ_=>rfl,.bool NG,oh l _,λ_=>⟨List.Pairwise.nil,λ_ hm=>(nomatch hm)⟩⟩,h2,h3,h4⟩
theorem su{l:l5}{n k:Nat}{q:AI}{loose:List Str}{XP:(Str→Option A6)→AM→Prop}{YP:AL→AM→Prop}{d:DefRec}{K:Kx→aF}{CX:AL→mj}{sp:AL→Sp}{x:Str}(hn:l.most=ND n)(hn2:n≤sizeLine)(hdf:d.params.defaults=[])(hr:jR k FD)
  (hY:∀(w:AL)(h:AM),YP w h→(K w.params).In h)
  (F:∀(w:AL)(mg:Str→Option A6)(fa:A7)(h:AM),(K w.params).In h→h.Ns AV mg→mg d.name=ND (.ref fa)→∃fd:BG,(∀(s:A8)(u:A6),Fu s fd ⟨[u],[]⟩ [(x,u)])∧∀base:AM,(K w.params).In base→base.Ns AV mg→zF l.prog w (K w.params) mg base (CX w) k fa fd [x] (sp w))
  (hsp:∀(w:AL)(H:Hp)(a:A7)(ns:List Int),ns.length≤n→(∀k∈ns,Small k)→Only H→pK (K w.params) H a (ns.map V.int)→sp w [.ref a] H (λv _=>v=.bl NG) λ_ _ _=>False)
  (hCX:∀(w:AL)(H:Hp)(s:A8)(e:A6)(s':A8),CX w [] H s (λ_ _ _=>False) e s'→False) :
  o9 q loose XP YP l.row.toRowW d [] (λf vs=>l4 f vs):=by
 refine JG hn hdf λw s₀ s₁ mg mb fa o pm cd doc a vs ns G Y ho hd hcd hmg hobj hints hlen hsm hg=>?_;have KX:=hY w _ Y;obtain⟨fd,hb,hF⟩:=F w mg fa _ KX G.T.g hmg;exact aAo KX G.T.g G.T.b G.T.builtins G.T.nolimit hg hobj hints (G2 hlen hn2) hr hF hb (λH hO hS=>hsp w H a ns hlen hsm hO hS) λH e s'=>hCX w H s₁ e s'
def spB(K:aF):Sp:=λvs H Q _=>∃(a:A7)(ns:List Int),vs=[.ref a]∧pK K H a (ns.map V.int)∧ns.length≤63∧(∀k∈ns,Small k)∧∀H',Q (.bl NG) H'
theorem Fun.okB{P:AI}{w:AL}{K:aF}{mg:Str→Option A6}{base:AM}{x:Str}{st:AH}{N:List Str}{k:Nat}{g:GS}{f:A7}{fd:BG}(F:Fun K x x st f fd)(S:bB N ["script"] (aM st))
  (hbody:∀(cdv:A6)(A:AN)(outer:List Env)(s:A8)(H:Hp)(E:XK),jR k (A.deeper (BS x (aM st) s.heap.objs.size f cdv))→∃t,YB K (Fv CZ P w K mg base N x (aM st) f cdv A outer s H E).ZK (cH st) t g)
  (aF7:∀ns:List Int,ns.length≤63→(∀k∈ns,Small k)→pN N.length 1 g [.lst (ns.map D.int)]=ND (.bl NG)):zF P w K mg base CZ (k+1) f fd ["script"] (spB K):=by
 refine F.ok S (λvs H Q E h=>?_) (λcdv A outer s H vs Q E hr h=>?_)
 ·obtain⟨a,ns,rfl,_⟩:=h;rfl
 obtain⟨a,ns,rfl,hS,hl,hb,q⟩:=h;obtain⟨t,yb⟩:=hbody cdv A outer s H E hr;have h3:=aF7 ns hl hb;have rv:eY K H [.lst (ns.map D.int)] [.ref a]:=by unfold eY;exact⟨_,_,U,by unfold Rv;exact⟨a,_,U,hS,kY.mpr U⟩,by unfold eY;rfl⟩
 refine⟨t,yb.ps,yb.ev H _ _ H ([D.lst (ns.map D.int)].map SD.fro++E4 (N.length-1) SD.no) (Jh rv) ?_⟩;unfold pN at h3;rw[if_pos (show [D.lst (ns.map D.int)].length=1 from rfl)]at h3;cases qq:g ([D.lst (ns.map D.int)].map SD.fro++E4 (N.length-1) SD.no)with
 | ret d'=>
  rw[qq]at h3;cases h3;refine λv H' A' s' o=>?_;have:=Ow.rv _ _ _ o;unfold Rv at this;subst this;exact q _
 | _=>rw[qq]at h3;cases h3
section
variable{K:aF}{X:Cx}{e a b c:AB}{es:List AB}{t ta tb te:TE}{f g:FE}{pos:Pos}
def aA0(i j:Int):Prop:=CF i≤4000000∧CF j≤4000000
instance (i j:Int):Decidable (aA0 i j):=by unfold aA0;exact inferInstance
def aKg:D→D→Option D:=Om aA0 λi j=>.int (i*j)
variable{lo hi:Option AB}{tl th:TO}{fl fh:FO}{p2:Pos}
end
end L2


namespace L2
open PySem PySem.Spec PySem.Calls PyProof.Rows PyProof.V
section
variable{K:aF}{X:Cx}
def aKh:List D→Option D
 | [.bl c]=>ND (.int (if c then 1 else 0))
 | _=>none
end
end L2


namespace L2
open PySem PySem.Spec PySem.Calls PyProof.Rows PyProof.V
section
variable{X:Cx}{pins:List (A7×Obj)}{σ:St}{H:Hp}{s:A8}{h':AM}
end
section
variable{K:aF}{X:Cx}{e a b c:AB}{es:List AB}{t ta tb te:TE}{f g fe:FE}{tc:TT}{fc:FT}{pos p p2:Pos}{x:Str}
end
end L2


namespace L2
open PySem PySem.Spec PySem.Calls PyProof.Rows PyProof.V
section
variable{K:aF}{B H:Hp}{env:EN}{σ:St}{i:Nat}{v:V}{d:D}
theorem Rel.aA1(h:Rel K B env σ H)(e:env[i]?=ND (.inn v d)):Rel K B (env.set i (.own d)) σ H∧σ[i]?=ND (ND v):=by obtain⟨A,a,b⟩:=h;obtain⟨y,A1,C,h1,h2,h3,h4,k⟩:=a.focus e;obtain⟨rfl,o⟩:=h4;have eA:A=fK A1 C:=funext λx=>propext (h3 x);subst eA;have s:=k _ (λ_ _ _ _ q=>q) (.own d) (ND v) A1 h2 ⟨v,U,o⟩;rw[set_same h1]at s;exact⟨⟨_,s,b⟩,h1⟩
theorem Rel.aA2(h:Rel K B env σ H)(e:env[i]?=ND (.own d))(hv:σ[i]?=ND (ND v)):Rel K B (env.set i (.inn v d)) σ H:=by obtain⟨A,a,b⟩:=h;obtain⟨y,A1,C,h1,h2,h3,h4,k⟩:=a.focus e;obtain⟨v',rfl,o⟩:=h4;rw[hv]at h1;cases h1;have eA:A=fK A1 C:=funext λx=>propext (h3 x);subst eA;have s:=k _ (λ_ _ _ _ q=>q) (.inn v d) (ND v) A1 h2 ⟨U,o⟩;rw[set_same hv]at s;exact⟨_,s,b⟩
end
section
variable{K:aF}{X:Cx}{st:AH}{sts:List AH}{t u tb:TS}{g g1 g2:GS}{e a b c:AB}{es:List AB}{te ta t0:TE}{f f0 fa fb:FE}{gk:FE}{tA:TA}{fs:FA}{tc:TT}{fc:FT}{pos:Pos}{i:Nat}{π:FP}
end
end L2


namespace L2
open PySem PySem.Spec PySem.Calls PyProof.Rows PyProof.V
section
variable{α β:Type}{R:α→Fp→β→Prop}
theorem eU.Jj:∀{ds:List α} {A:Fp} {ys:List β} {d:α} {y:β},eU R (ds++[d]) A (ys++[y])→∃A0 A1,eU R ds A0 ys∧R d A1 y∧Apart A0 A1∧Is A (fK A0 A1)
  | [],A,ys,d,y,h=>by
    obtain⟨y0,yt,A1,A2,h1,h2,h3,h4,h5,h6⟩:=h;subst h6;cases ys with
    | nil=>
      cases h1;exact⟨nil,A1,⟨λ_ z=>z,U⟩,h4,λ_ z=>z.elim,λx=>⟨λq=>((h3 x).mp q).elim .inr λz=>absurd z (h5 x),λq=>q.elim False.elim λz=>(h3 x).mpr (.inl z)⟩⟩
    | cons z zs=>
      injection h1 with _ h1;cases zs<;>cases h1
  | d0::ds,A,ys,d,y,h=>by
    obtain⟨y0,yt,A1,A2,h1,h2,h3,h4,h5⟩:=h;have hl:=h5.len;cases ys with
    | nil=>injection h1 with _ h1;subst h1;have hl:0=(ds++[d]).length:=hl;rw[C7]at hl;simp at hl
    | cons z zs=>
      injection h1 with e1 e2;subst e1 e2;obtain⟨B0,B1,k1,k2,k3,k4⟩:=eU.Jj h5;refine⟨fK A1 B0,B1,⟨z,zs,A1,B0,U,λx q q'=>h2 x q ((k4 x).mpr (.inl q')),λx=>Iff.rfl,h4,k1⟩,k2,λx q q'=>?_,λx=>?_⟩
      · rcases q with q | q
        · exact h2 x q ((k4 x).mpr (.inr q'))
        · exact k3 x q q'
      · rw[h3 x]
        constructor
        · rintro(q | q)
          · exact .inl (.inl q)
          · exact((k4 x).mp q).elim (λz=>.inl (.inr z)) .inr
        · rintro((q | q) | q)
          · exact .inl q
          · exact .inr ((k4 x).mpr (.inl q))
          · exact .inr ((k4 x).mpr (.inr q))
end
section
variable{K:aF}{B H H':Hp}{env:EN}{σ:St}{i:Nat}{v:V}{d:D}
theorem Rel.snoc(h:Rel K B env σ H)(s:aU H H')(n:Mm K H H' d v):Rel K B (env++[.own d]) (σ++[ND v]) H':=by obtain⟨A,a,b⟩:=h;obtain⟨N,o,f⟩:=n;have cl:=jB a;have g:aU (out H A) (out H' (fK A N)):=bU s λx q=>q.elim .inl λq=>.inr (f x q);refine⟨fK A N,eU.snoc (a.mono λe D z _ q=>q.same s g) ⟨v,U,o⟩ λx q1 q2=>?_,b.trans g⟩;obtain⟨⟨u,e⟩,_⟩:=cl x q1;rw[f x q2]at e;cases e
theorem Rel.pop{s:SD}{y:Option V}(h:Rel K B (env++[s]) (σ++[y]) H):Rel K B env σ H:=by obtain⟨A,a,b⟩:=h;obtain⟨A0,A1,k1,k2,k3,k4⟩:=a.Jj;have g:aU (out H A) (out H A0):=bU (aU.refl _) λx q=>.inl ((k4 x).mpr (.inl q));exact⟨A0,k1.mono λe D z _ q=>q.same (aU.refl _) g,b.trans g⟩
theorem Rel.move(h:Rel K B (env++[.own d]) (σ++[ND v]) H)(hi:i<env.length):Rel K B (env.set i (.own d)) (σ.set i (ND v)) H:=by obtain⟨A,a,b⟩:=h;obtain⟨A0,A1,k1,⟨v',e,o⟩,k3,k4⟩:=a.Jj;cases e;obtain⟨y,B1,C,f1,f2,f3,f4,f5⟩:=k1.focus (B6 hi);have g:aU (out H A) (out H (fK A1 C)):=bU (aU.refl _) λx q=>.inl ((k4 x).mpr (q.elim .inr λq=>.inl ((f3 x).mpr (.inr q))));exact⟨fK A1 C,f5 (fZ K H (out H (fK A1 C))) (λe D z _ q=>q.same (aU.refl _) g) (.own d) (ND v) A1 (λx q q'=>k3 x ((f3 x).mpr (.inr q')) q) ⟨v,U,o⟩,b.trans g⟩
theorem Rel.give(h:Rel K B env σ H)(e:env[i]?=ND (.own d)):∃v,σ[i]?=ND (ND v)∧Rel K B (env.set i .no++[.own d]) (σ++[ND v]) H:=by obtain⟨A,a,b⟩:=h;obtain⟨y,A1,C,h1,h2,h3,h4,k⟩:=a.focus e;obtain⟨v,rfl,o⟩:=h4;have eA:A=fK A1 C:=funext λx=>propext (h3 x);subst eA;have s:=k _ (λ_ _ _ _ q=>q) .no (ND v) nil (λ_ z=>z.elim) (λ_ z=>z);rw[set_same h1]at s;have s2:=eU.snoc (d:=SD.own d) (y:=ND v) (A1:=A1) s ⟨v,U,o⟩ (λx q q'=>q.elim False.elim (h2 x q'));have eA2:(fK (fK nil C) A1)=fK A1 C:=funext λx=>propext ⟨λq=>q.elim (λq=>q.elim False.elim .inr) .inl,λq=>q.elim .inr λq=>.inl (.inr q)⟩;rw[eA2]at s2;exact⟨v,h1,_,s2,b⟩
end
def jL(i:Nat)(g:GS):GS:=λenv=>match env[i]? with
 | some (.inn v d)=>(match g (env.set i (.own d))with
  | .next env'=>(match env'[i]? with
   | some (.own d')=>.next (env'.set i (.inn v d'))
   | _=>.bad)
  | _=>.bad)
 | _=>.bad
theorem aA3{K:aF}{t:TS}{g:GS}{i:Nat}(h:qm K t g):qm K t (jL i g):=λB E σ H env r p=>by
 unfold jL at p;split at p
 ·rename_i v d q1;obtain⟨r',hσ⟩:=r.aA1 q1;refine h B E σ H _ r' ?_;split at p
  ·rename_i env' q2;rw[q2];split at p
   ·rename_i d' q3;exact λH' r2=>p H' (r2.aA2 q3 hσ)
   ·exact p.elim
  ·exact p.elim
 ·exact p.elim
theorem Jk{K:aF}{X:Cx}{st:AH}{t:TS}{g:GS}(i:Nat)(hp:PS X st t)(h:qm K t g):YS K X st t (jL i g):=⟨hp,(aA3 h).ds⟩
def aA4:GS:=λ_=>.bad
theorem Yp{K:aF}{X:Cx}{st:AH}:YS K X st yp aA4:=⟨yq,λ_ _ _ _ _ _ p=>p.elim⟩
section
variable{K:aF}{X:Cx}{st:AH}{sts:List AH}{t u tb:TS}{g g1 g2:GS}{e a b c o:AB}{es:List AB}{te ta t0 tv:TE}{f f0 fa fb:FE}{gk:FE}{tA:TA}{fs:FA}{tc:TT}{fc:FT}{pos apos:Pos}{i:Nat}{π:FP}
structure iZ(K:aF)(C:A7)(nm:List Str):Prop where
 cl:zp K C
 no:∀f∈nm,Du K C f
def eQ(C:A7)(x:Str)(d:D):Option D:=match d with
 | .ins C' nm ds=>if C'=C then(posK nm x).bind λj=>ds[j]? else none
 | _=>none
theorem aDq{H:Hp}{C:A7}{x:Str}{d r:D}{v:V}(q:eQ C x d=ND r)(rv:Rv K H d v):∃a dx fs y,v=.ref a∧H a=ND (.ins C dx fs)∧fs.lookup x=ND y∧Rv K H r y:=by
 unfold eQ at q;split at q
 ·rename_i C' nm ds;split at q
  ·rename_i hc;subst hc;obtain⟨j,q1,q2⟩:=aY q;unfold Rv at rv;obtain⟨a,dx,xs,rfl,h1,h2,h3⟩:=rv;obtain⟨y,h4,h5⟩:=h3.get q2;exact⟨a,dx,_,y,U,h1,by rw[Ea h2,q1];exact h4,h5⟩
  ·cases q
 ·cases q
theorem dH{C:A7}{nm:List Str}{x:Str}(F:iZ K C nm)(h:XR K X e ta f)(hx:x∈nm)(hb:CL e x X.env (AO e X.env)=AO e X.env):XR K X (.Attribute e x pos) (aFn K ta x) (pY (eQ C x) f):=⟨h.hk,by have:=h.hk;subst this;exact zq h.pe hb,λσ H Z e d Q z re q k=>by
 obtain⟨d0,q1,q2⟩:=aY q;refine h.ev σ H Z e d0 _ z re q1 λv H1 Z1 s1 t1 z1 rv=>?_;obtain⟨a,dx,fs,y,rfl,h1,h2,h3⟩:=aDq q2 rv;exact⟨a,C,dx,fs,y,U,z1.sm _ _ h1,F.cl,F.no x hx,h2,k y H1 Z1 s1 t1 z1 h3⟩⟩
theorem sy{H:Hp}{C:A7}{x:Str}{w v:V}(h:stepV H (.fld C x) w=ND v):∃a dx fs,w=.ref a∧H a=ND (.ins C dx fs)∧fs.lookup x=ND v:=by
 cases w with
 | ref a=>
  cases q:H a with
  | none=>unfold stepV at h;dsimp only at h;rw[q]at h;cases h
  | some u=>
   unfold stepV at h;dsimp only at h;rw[q]at h;cases u with
   | ins C' dx fs=>
    have h2:(if C'=C then fs.lookup x else none)=ND v:=h;by_cases hc:C'=C
    ·rw[if_pos hc]at h2;rw[←hc];exact⟨a,dx,fs,U,q,h2⟩
    ·rw[if_neg hc]at h2;cases h2
   | _=>cases h
 | _=>unfold stepV at h;cases h
def Ac(C:A7)(x:Str)(π:FP):FP:=λe=>(π e).bind λp=>ND (p++[.fld C x])
theorem oK{C:A7}{nm:List Str}{x:Str}(F:iZ K C nm)(h:XP K X a ta i π)(hx:x∈nm)(hb:CL a x X.env (AO a X.env)=AO a X.env):XP K X (.Attribute a x pos) (aFn K ta x) i (Ac C x π):=⟨h.hk,by have:=h.hk;subst this;exact zq h.pe hb,λσ H e v0 p v Q re h1 h2 h3 k=>by
 unfold Ac at h2;obtain⟨p0,q1,q2⟩:=aY h2;cases q2;obtain⟨w,w1,w2⟩:=Pk h3;obtain⟨ad,dx,fs,rfl,w3,w4⟩:=sy w2;exact h.ev σ H e v0 p0 _ _ re h1 q1 w1 λH1 s1=>⟨ad,C,dx,fs,v,U,s1 _ _ w3,F.cl,F.no x hx,w4,k H1 s1⟩⟩
end
theorem JH{x:Str}{y:V}:∀{nm:List Str} {xs:List V},nm.length=xs.length→zB x y (nm.zip xs)=(match posK nm x with | some j=>nm.zip (xs.set j y) | none=>(nm++[x]).zip (xs++[y]))
 | [],xs,h=>by
  cases xs with
  | nil=>rfl
  | cons=>simp at h
 | a::nm,[],h=>by simp at h
 | a::nm,z::xs,h=>by
  have ih:=JH (x:=x) (y:=y) (nm:=nm) (xs:=xs) (by simpa using h);rw[P5];unfold zB posK;by_cases c:a=x
  ·rw[if_pos c,if_pos c];rfl
  ·rw[if_neg c,if_neg c,ih];cases q:posK nm x with
   | none=>rfl
   | some j=>rfl
section
variable{K:aF}{B H:Hp}{env:EN}{σ:St}
theorem tu{H:Hp}{a C dx:A7}{fs:List (Str×V)}(h:H a=ND (.ins C dx fs)):yN H a:=⟨λys e=>(by rw[h]at e;cases e),λo ys e=>(by rw[h]at e;cases e)⟩
theorem Rel.aJl{i:Nat}{p:List Step}{d0:D}{C:A7}{nm:List Str}{ds:List D}(h:Rel K B env σ H)(e:env[i]?=ND (.own d0))(q:eO p d0=ND (.ins C nm ds)):∃v0 a dx xs Bs,σ[i]?=ND (ND v0)∧Le H p v0=ND (.ref a)∧H a=ND (.ins C dx (nm.zip xs))∧nm.length=xs.length∧dX K H ds Bs xs ∧
    ∀H2 nm' ds' xs' Bn,aU H H2→nm'.length=xs'.length→dX K H2 ds' Bn xs'→(∀b,Bn b→Bs b∨H b=none)→Rel K B (env.set i (.own (dR p d0 (.ins C nm' ds')))) σ (upd H2 a (.ins C dx (nm'.zip xs'))):=by
  obtain⟨v0,w,A1,Cc,h1,h2,h3,h4,h5,h6⟩:=h.at e q;have hc:=Ow.cells _ _ _ h3;unfold Ow at h3;obtain⟨a,dx,xs,Bs,rfl,o2,o2',o3,o3',aJm,o4,o5⟩:=h3;refine⟨v0,a,dx,xs,Bs,h1,h2,o2,o3,o5,λH2 nm' ds' xs' Bn s hl o hb=>?_⟩;have nad:dx≠a:=λz=>by rw[z,o2]at o2';cases o2'
  have nBa:¬Bn a:=λz=>(hb a z).elim o3' λz=>by rw[o2]at z;cases z
  have nBd:¬Bn dx:=λz=>(hb dx z).elim aJm λz=>by rw[o2']at z;cases z
  have hC:∀x,Cc x→¬(x=a∨x=dx):=λx z y=>h4 x ((o4 x).mpr (.inl y)) z;have Ti:H2 a=ND (.ins C dx (nm.zip xs)):=s a _ o2;have nt:yN H2 a:=tu Ti;refine h6 _ (.ins C nm' ds') (fK (λx=>x=a∨x=dx) Bn) (λx z1 z2=>?_) (λx z=>?_) (s.tk.trans (tE nt)) ?_ (λx u ex=>?_)
  · rcases z1 with z1 | z1
    · exact hC x z2 z1
    · rcases hb x z1 with z | z
      · exact h4 x ((o4 x).mpr (.inr z)) z2
      · obtain⟨⟨u,eu⟩,_⟩:=h5 x z2
        rw[z]at eu;cases eu
  · obtain⟨⟨u,eu⟩,_⟩:=h5 x z
    rw[bQ (λy=>hC x z (.inl y)),eu,s x u eu]
  · unfold Ow
    refine⟨a,dx,xs',Bn,U,cJ,by rw[bQ nad];exact s dx _ o2',hl,nBa,nBd,λ_=>Iff.rfl,dX.frame (tE nt) _ _ _ o λx zx=>bQ λy=>nBa (y▸zx)⟩
  · obtain⟨e1,e2⟩:=bA.mp ex
    have na:x≠a:=λy=>e1 (.inl ((o4 x).mpr (.inl (.inl y))));refine bA.mpr ⟨λz=>?_,by rw[bQ na];exact s x u e2⟩;rcases z with (z | z) | z
    · exact e1 (.inl ((o4 x).mpr (.inl z)))
    · rcases hb x z with z | z
      · exact e1 (.inl ((o4 x).mpr (.inr z)))
      · rw[z]at e2;cases e2
    · exact e1 (.inr z)
end
section
variable{K:aF}{X:Cx}{st:AH}{sts:List AH}{t u tb:TS}{g g1 g2:GS}{e a b c o:AB}{es:List AB}{te ta t0 tv:TE}{f f0 fa fb:FE}{gk:FE}{tA:TA}{fs:FA}{tc:TT}{fc:FT}{pos apos:Pos}{i:Nat}{π:FP}
def Vg(nm:List Str)(ds:List D)(x:Str)(d:D):List Str×List D:=match posK nm x with
 | some j=>(nm,ds.set j d)
 | none=>(nm++[x],ds++[d])
def vV(C:A7)(i:Nat)(π:FP)(x:Str)(f:FE):GS:=λenv=>match env[i]?,π (rE env),f (rE env)with
 | some (.own d0),ND p,ND d=>(match eO p d0 with
  | some (.ins C' nm ds)=>if C'=C∧nm.length<900 then .next (env.set i (.own (dR p d0 (.ins C' (Vg nm ds x d).1 (Vg nm ds x d).2))))else .bad
  | _=>.bad)
 | _,_,_=>.bad
theorem aF8{C:A7}{uc:List Str}{x:Str}(F:iZ K C uc)(hx:x∈uc)(h:EvP K ta i π)(he:Sg K te f):qm K (aFo K ta te x) (vV C i π x f):=λB E σ H env r p=>by
 unfold vV at p;split at p
 ·rename_i d0 pp d q1 q2 q3;split at p
  ·rename_i C' nm ds q4;split at p
   ·rename_i hc;obtain⟨rfl,hl⟩:=hc;obtain⟨v0,a,dx,xs,Bs,k1,k2,k3,k4,k5,k6⟩:=r.aJl q1 q4;refine he σ H (rE env) d _ r.r q3 λy H1 s1 n=>?_;refine h σ H1 (rE env) v0 pp _ _ (r.r.same s1) k1 q2 (tG s1 k2) λH2 s2=>?_;have s12:=s1.trans s2;obtain⟨N,o,fr⟩:=n.same s2;refine⟨a,C',dx,_,U,s12 _ _ k3,F.cl,F.no x hx,by rw[Y2];omega,p _ ?_⟩;rw[JH k4];unfold Vg;cases qj:posK nm x with
    | none=>exact k6 H2 (nm++[x]) (ds++[d]) (xs++[y]) (fK Bs N) s12 (by simp[k4]) (cG.mpr ((cG.mp (k5.same s12)).snoc o (Pn (H1:=H) k5 fr))) λb z=>z.imp id (fr b)
    | some j=>have hj:=(rN qj).1;have hlen:=(dX.rv _ _ _ k5).length;obtain⟨y0,A1,Cc,f1,f2,f3,f4,f5⟩:=(cG.mp (k5.same s12)).focus (B6 (show j<ds.length by omega));have ap:Apart N Cc:=λx q1 q2=>Pn (H1:=H) k5 fr x ((f3 x).mpr (.inr q2)) q1;exact k6 H2 nm (ds.set j d) (xs.set j y) (fK N Cc) s12 (by rw[J5];exact k4) (cG.mpr (f5 (Ow K H2) (λ_ _ _ _ qq=>qq) d y N ap o)) λb z=>z.elim (λz=>.inr (fr b z)) λz=>.inl ((f3 b).mpr (.inr z))
   ·exact p.elim
  ·exact p.elim
 ·exact p.elim
end
end L2


namespace L2
open PySem PySem.Spec PySem.Calls PyProof.Rows PyProof.V
section
variable{K:aF}{B H H':Hp}{env:EN}{σ:St}{i:Nat}{p:List Step}{d0 d:D}
theorem lO.same{a:A7}(h:lO H a)(s:aU H H'):lO H' a:=by obtain⟨⟨o,e⟩,n⟩:=h;have e':=s _ _ e;exact⟨⟨o,e'⟩,λxs z=>n.1 xs (by rw[e,←e'];exact z),λu xs z=>n.2 u xs (by rw[e,←e'];exact z)⟩
theorem aA5{A:Fp}(c:∀x,A x→lO H x):Zn K A (out H A) H:=⟨kW H A,Oj λx q=>(c x q).2,λx q=>⟨by unfold out;rw[if_pos q],λz=>by obtain⟨⟨o,e⟩,_⟩:=c x q;rw[z]at e;cases e⟩⟩
theorem aEC{A:Fp}{Z:Hp}(z:Zn K A Z H):aU Z (out H A):=λx o e=>bA.mpr ⟨λq=>(by rw[(z.no x q).1]at e;cases e),z.sm x o e⟩
theorem Rel.atR(h:Rel K B env σ H)(e:env[i]?=ND (.own d0))(q:eO p d0=ND d):∃v0 w A1 C,σ[i]?=ND (ND v0)∧Le H p v0=ND w∧Ow K H d A1 w∧Apart A1 C∧(∀a,C a→lO H a)∧yO K (out H A1) (rE (env.set i .no)) σ ∧
    ∀H' d' r x A' A2,Apart A' C→Apart A2 C→Apart A' A2→(∀a,C a→H' a=H a)→vP K H H'→Ow K H' d' A' w→Ow K H' r A2 x→aU (out H (fK A1 C)) (out H' (fK (fK A' A2) C))→Rel K B (env.set i (.own (dR p d0 d'))++[.own r]) (σ++[ND x]) H':=by
  obtain⟨A,a,b⟩:=h;have cl:=jB a;obtain⟨y,A1,C,h1,h2,h3,h4,k⟩:=a.focus e;obtain⟨v0,rfl,o⟩:=h4;obtain⟨w,B1,C1,g1,g2,g3,g4,g5⟩:=o.at q;refine⟨v0,w,B1,fK C1 C,h1,g1,g4,λx z1 z2=>?_,λx z=>?_,?_,λH' d' r x A' A2 ap apr apx fr tk o' o'' sm=>?_⟩
  · exact z2.elim (g2 x z1) (h2 x ((g3 x).mpr (.inl z1)))
  · exact cl x ((h3 x).mpr (z.elim (λz=>.inl ((g3 x).mpr (.inr z))) .inr))
  · intro j dj qj
    unfold rE at qj;rw[B8]at qj;cases ej:(env.set i .no)[j]? with
    | none=>rw[ej]at qj;cases qj
    | some sd=>
      rw[ej]at qj;have ne:i≠j:=λz=>by subst z;rw[G6 (D1.mp e).1]at ej;cases ej;cases qj
      have S':=k (fZ K H (out H A)) (λ_ _ _ _ q=>q) .no none nil (λ_ z=>z.elim) λ_ z=>z;obtain⟨y,Ak,Ck,f1,f2,f3,f4,_⟩:=S'.focus ej;rw[F8,if_neg ne]at f1;have hB:∀x,B1 x→A x:=λx z=>(h3 x).mpr (.inl ((g3 x).mpr (.inl z)));have apk:Apart Ak B1:=λx z1 z2=>h2 x ((g3 x).mpr (.inl z2)) (((f3 x).mpr (.inl z1)).elim False.elim id);cases sd with
      | no=>cases qj
      | fro d1=>
        cases qj;obtain⟨_,v1,rfl,f5⟩:=f4;exact⟨v1,f1,(bU (aU.refl _) λx q=>.inl (hB x q):aU (out H A) (out H B1)).rv _ _ f5⟩
      | own d1=>
        cases qj;obtain⟨v1,rfl,f5⟩:=f4;exact⟨v1,f1,f5.out apk λx q=>(cl x (hB x q)).2⟩
      | inn v1 d1=>cases qj;obtain⟨rfl,f5⟩:=f4;exact⟨v1,f1,f5.out apk λx q=>(cl x (hB x q)).2⟩
  · have o2:=g5 H' d' A' (λx z1 z2=>ap x z1 (.inl z2)) (λx z=>fr x (.inl z)) tk o'
    have ap2:Apart (fK A' C1) C:=λx z1 z2=>z1.elim (λz=>ap x z (.inr z2)) λz=>h2 x ((g3 x).mpr (.inr z)) z2;have hA:Is A (fK B1 (fK C1 C)):=λx=>by
      rw[h3 x];constructor
      · rintro(z | z)
        · exact((g3 x).mp z).elim .inl λz=>.inr (.inl z)
        · exact .inr (.inr z)
      · rintro(z | z | z)
        · exact .inl ((g3 x).mpr (.inl z))
        · exact .inl ((g3 x).mpr (.inr z))
        · exact .inr z
    have g:aU (out H A) (out H' (fK (fK (fK A' C1) C) A2)):=λx u ex=>by
      obtain⟨e1,e2⟩:=bA.mp ex;have:=sm x u (bA.mpr ⟨λz=>e1 ((hA x).mpr z),e2⟩);obtain⟨e3,e4⟩:=bA.mp this;refine bA.mpr ⟨λz=>e3 ?_,e4⟩;rcases z with ((z | z) | z) | z
      · exact .inl (.inl z)
      · exact .inr (.inl z)
      · exact .inr (.inr z)
      · exact .inl (.inr z)
    have s:=k (fZ K H' (out H' (fK (fK (fK A' C1) C) A2))) (λs D z hb qq=>by
      cases s with
      | no=>exact qq
      | fro d=>obtain⟨q1,v,q2,q3⟩:=qq;exact⟨q1,v,q2,g.rv _ _ q3⟩
      | inn v d=>exact⟨qq.1,Ow.frame tk _ _ _ qq.2 λx zx=>fr x (.inr (hb x zx))⟩
      | own d=>obtain⟨v,q1,q2⟩:=qq;exact⟨v,q1,Ow.frame tk _ _ _ q2 λx zx=>fr x (.inr (hb x zx))⟩) (.own (dR p d0 d')) (ND v0) (fK A' C1) ap2 ⟨v0,U,o2⟩
    rw[set_same h1]at s;refine⟨_,eU.snoc s ⟨x,U,o''⟩ λy z1 z2=>?_,b.trans g⟩;rcases z1 with (z | z) | z
    · exact apx y z z2
    · exact apr y z2 (.inl z)
    · exact apr y z2 (.inr z)
def spS(K:aF)(m:Nat)(F:List D→Option (D×D)):Sp:=λvs H Q _=>∃d es v ws A r d',vs=v::ws∧es.length+1=m∧Ow K H d A v∧eY K (out H A) es ws∧F (d::es)=ND (r,d')∧∀w H' A' A2,Ow K H' d' A' v→Ow K H' r A2 w→Apart A' A2→aU (out H A) (out H' (fK A' A2))→Q w H'
theorem JK{m:Nat}{F:List D→Option (D×D)}{E:XK}{Q:VK}{es:List D}{r d':D}(h:Rel K B env σ H)(e:env[i]?=ND (.own d0))(q:eO p d0=ND d)(hl:es.length+1=m)(hF:F (d::es)=ND (r,d'))(k:∀w H',Rel K B (env.set i (.own (dR p d0 d'))++[.own r]) (σ++[ND w]) H'→Q w H') :
  ∃v0 w0 A1,σ[i]?=ND (ND v0)∧Le H p v0=ND w0∧Ow K H d A1 w0∧yO K (out H A1) (rE (env.set i .no)) σ∧∀H2 vs,aU H H2→eY K (out H2 A1) es vs→spS K m F (w0::vs) H2 Q E:=by
 obtain⟨v0,w,A1,C,h1,h2,h3,h4,h5,h6,h7⟩:=h.atR e q;have c1:=Ow.cells _ _ _ h3;refine⟨v0,w,A1,h1,h2,h3,h6,λH2 vs s rvs=>⟨d,es,w,vs,A1,r,d',U,hl,h3.same s,rvs,hF,λx H3 A' A2 o1 o2 ap sm=>k x H3 ?_⟩⟩;have hC:∀y,C y→¬A' y∧¬A2 y∧H3 y=H y:=λy hy=>by obtain⟨⟨u,eu⟩,_⟩:=h5 y hy;obtain⟨n1,n2⟩:=bA.mp (sm y u (bA.mpr ⟨λz=>h4 y z hy,s y u eu⟩));exact⟨λz=>n1 (.inl z),λz=>n1 (.inr z),n2.trans eu.symm⟩
 have tk:vP K H H3:=(Oj λx q=>(c1 x q).2).trans ((bU s λx q=>.inl q:aU (out H A1) (out H2 A1)).trans (sm.trans (kW _ _))).tk;refine h7 H3 d' r x A' A2 (λy z1 z2=>(hC y z2).1 z1) (λy z1 z2=>(hC y z2).2.1 z1) ap (λy hy=>(hC y hy).2.2) tk o1 o2 λy u ey=>?_;obtain⟨e1,e2⟩:=bA.mp ey;obtain⟨n1,n2⟩:=bA.mp (sm y u (bA.mpr ⟨λz=>e1 (.inl z),s y u e2⟩));exact bA.mpr ⟨λz=>z.elim n1 λz=>e1 (.inr z),n2⟩
def SD.hold:SD→Option (D×(D→SD))
 | .own d=>ND (d,.own)
 | .inn v d=>ND (d,.inn v)
 | _=>none
theorem aA6{m:Nat}{F:List D→Option (D×D)}{E:XK}{Q:VK}{es:List D}{r d':D}{back:D→SD}(h:Rel K B env σ H)(e:env[i]?.bind SD.hold=ND (d0,back))(q:eO p d0=ND d)(hl:es.length+1=m)(hF:F (d::es)=ND (r,d'))(k:∀w H',Rel K B (env.set i (back (dR p d0 d'))++[.own r]) (σ++[ND w]) H'→Q w H') :
  ∃v0 w0 A1,σ[i]?=ND (ND v0)∧Le H p v0=ND w0∧Ow K H d A1 w0∧yO K (out H A1) (rE (env.set i .no)) σ∧∀H2 vs,aU H H2→eY K (out H2 A1) es vs→spS K m F (w0::vs) H2 Q E:=by
 obtain⟨s,e1,e2⟩:=aY e;cases s with
 | no=>cases e2
 | fro d=>cases e2
 | own d=>cases e2;exact JK h e1 q hl hF k
 | inn v d=>
  cases e2;obtain⟨r',hσ⟩:=h.aA1 e1;have hi:i<env.length:=(D1.mp e1).1;have:=JK (E:=E) (Q:=Q) r' (G6 hi) q hl hF λw H' rr=>by
   rw[R4]at rr;have r2:=rr.aA2 (i:=i) (v:=v) (d:=dR p d0 d') (by rw[G9 (by rw[J5];exact hi)];exact G6 hi) (by
    have hl:=h.len;rw[G9 (by omega)];exact hσ)
   rw[List.set_append_left _ _ (by rw[J5];exact hi),R4]at r2;exact k w H' r2
  rw[R4]at this;exact this
end
abbrev GM:=EN→Option (D×EN)
def EvM(K:aF)(t:TE)(g:GM):Prop:=∀(B:Hp)(σ:St)(H:Hp)(env:EN)(d:D)(env':EN)(Q:VK),Rel K B env σ H→g env=ND (d,env')→(∀v H',Rel K B (env'++[.own d]) (σ++[ND v]) H'→Q v H')→t σ H Q
structure XM(K:aF)(X:Cx)(e:AB)(t:TE)(g:GM):Prop where
 hk:X.K=K
 pe:PE X e t
 ev:EvM K t g
abbrev GB:=EN→Option (Bool×EN)
def aHR(K:aF)(t:TT)(g:GB):Prop:=∀(B:Hp)(σ:St)(H:Hp)(env:EN)(b:Bool)(env':EN)(Q:Bool→Hp→Prop),Rel K B env σ H→g env=ND (b,env')→(∀H',Rel K B env' σ H'→Q b H')→t σ H Q
structure XTM(K:aF)(X:Cx)(e:AB)(t:TT)(g:GB):Prop where
 hk:X.K=K
 pt:PT X e t
 ev:aHR K t g
structure XWM(K:aF)(X:Cx)(e:AB)(t:TT)(g:GB):Prop where
 hk:X.K=K
 pw:PW X e t
 ev:aHR K t g
abbrev FA2:=DE→DE→Option (List D)
def aHS(K:aF)(t:TA)(fs:FA2):Prop:=∀(A1:Fp)(σ:St)(H:Hp)(eF eZ:DE)(ds:List D)(Q:List V→Hp→Prop),(∀x,A1 x→lO H x)→yO K H eF σ→yO K (out H A1) eZ σ→fs eF eZ=ND ds →
 (∀vs H',aU H H'→eY K (out H' A1) ds vs→Q vs H')→t σ H Q
structure XAB(K:aF)(X:Cx)(es:List AB)(t:TA)(fs:FA2):Prop where
 hk:X.K=K
 pa:PA X es t
 ev:aHS K t fs
section
variable{K:aF}{X:Cx}{st:AH}{sts:List AH}{t u tb:TS}{g:GM}{g1 g2:GS}{e a b c o:AB}{es rest:List AB}{te ta t0 tv:TE}{f f0 fa fb:FE}{tA:TA}{fs:FA2}{tc td:TT}{fc:FT}{gb gc:GB}{pos apos:Pos}{i:Nat}{π:FP}
def mX:FA2:=λ_ _=>ND []
def Cz(f:FE)(fs:FA2):FA2:=λeF eZ=>(f eZ).bind λd=>(fs eF eZ).map λr=>d::r
def gr(f:FE)(fs:FA2):FA2:=λeF eZ=>(f eF).bind λd=>(fs eF eZ).map λr=>d::r
theorem nW(hk:X.K=K:=by rfl):XAB K X [] nG mX:=⟨hk,jY,λA1 σ H eF eZ ds Q c re rz q k=>by
 cases q;exact k [] H (aU.refl _) (by unfold eY;rfl)⟩
theorem jW(h:XR K X e te f)(hs:XAB K X es tA fs)(hst:AD (e::es) X.env=(NH,AO e X.env)::AD es X.env:=by rfl):XAB K X (e::es) (fY te tA) (Cz f fs):=⟨h.hk,fD h.pe hs.pa hst,λA1 σ H eF eZ ds Q c re rz q k=>by
 obtain⟨d,q1,q2⟩:=aY q;obtain⟨ds',q3,rfl⟩:=lN q2;refine h.ev σ H (out H A1) eZ d _ (aA5 c) rz q1 λv H1 Z1 s1 t1 z1 rv=>?_;refine hs.ev A1 σ H1 eF eZ ds' _ (λx q=>(c x q).same s1) (re.same s1) (rz.same (bU s1 λx q=>.inl q)) q3 λvs H2 s2 rvs=>?_;refine k (v::vs) H2 (s1.trans s2) ?_;unfold eY;exact⟨v,vs,U,((aEC z1).trans (bU s2 λx q=>.inl q)).rv _ _ rv,rvs⟩⟩
theorem Lg(h:XN K X e te f)(hs:XAB K X es tA fs)(hst:AD (e::es) X.env=(NH,AO e X.env)::AD es X.env:=by rfl):XAB K X (e::es) (fY te tA) (gr f fs):=⟨h.hk,fD h.pe hs.pa hst,λA1 σ H eF eZ ds Q c re rz q k=>by
 obtain⟨d,q1,q2⟩:=aY q;obtain⟨ds',q3,rfl⟩:=lN q2;refine h.ev σ H eF d _ re q1 λv H1 s1 n=>?_;have c1:∀x,A1 x→lO H1 x:=λx q=>(c x q).same s1;refine hs.ev A1 σ H1 eF eZ ds' _ c1 (re.same s1) (rz.same (bU s1 λx q=>.inl q)) q3 λvs H2 s2 rvs=>?_;refine k (v::vs) H2 (s1.trans s2) ?_;obtain⟨N,o,fr⟩:=n;unfold eY;refine⟨v,vs,U,(bU s2 λx q=>.inl q:aU (out H1 A1) (out H2 A1)).rv _ _ (o.out (λx z1 z2=>?_) λx q=>(c1 x q).2),rvs⟩;obtain⟨⟨u,eu⟩,_⟩:=c x z2;rw[fr x z1]at eu;cases eu⟩
structure cU(P:AI)(w:AL)(K:aF)(mg:Str→Option A6)(base:AM)(C:A7)(m:Str)(k n:Nat)(df:Bool)(sp:Sp):Prop where
 ex:∃f fd ps,ps.length=n∧zF P w K mg base CZ k f fd ps sp∧Binds K fd ps []∧(df=NG→Binds K fd ps [BA])∧Meth K C m f
theorem Vh{nm:List Str}{xs:List V}{m:Str}(h:nm.length=xs.length)(n:m∉nm):(nm.zip xs).lookup m=none:=by rw[Ea h,Bg.mpr n];rfl
def pM(C:A7)(m:Str)(i:Nat)(π:FP)(F:List D→Option (D×D))(fs:FA2):GM:=λenv=>match env[i]?.bind SD.hold,π (rE env),fs (rE env) (rE (env.set i .no))with
 | some (d0,back),ND p,ND es=>(match eO p d0 with
  | some (.ins C' nm ds)=>if C'=C∧m∉nm then(F (.ins C' nm ds::es)).map λrd=>(rd.1,env.set i (back (dR p d0 rd.2)))else none
  | _=>none)
 | _,_,_=>none
theorem gw{C:A7}{m:Str}{n:Nat}{F:List D→Option (D×D)}{Ik:List V}{ud:List D}(hF:∀d es p,F (d::es)=ND p→es.length+1=n)(hd:∀H,eY K H ud Ik)(ho:EvP K ta i π)(ha:aHS K tA fs):EvM K (Kz C m (spS K n F) Ik E0 ta tA) (pM C m i π F (λeF eZ=>(fs eF eZ).map (·++ud))):=λB σ H env d env' Q r q k=>by
 unfold pM at q;split at q
 ·rename_i d0 back p es' q1 q2 q3;obtain⟨es,q3a,rfl⟩:=lN q3;split at q
  ·rename_i C' nm ds q4;split at q
   ·rename_i hc;obtain⟨rfl,hm⟩:=hc;obtain⟨⟨r1,d1⟩,q5,q6⟩:=lN q;cases q6;obtain⟨v0,w0,A1,k1,k2,k3,k4,k5⟩:=aA6 (E:=E0) (Q:=Q) r q1 q4 (hF _ _ _ q5) q5 k;have c1:=Ow.cells _ _ _ k3;have k3':=k3;unfold Ow at k3;obtain⟨a,dx,xs,Bs,rfl,o2,o2',o3,_⟩:=k3;refine ho σ H (rE env) v0 p _ _ r.r k1 q2 k2 λH1 s1=>⟨a,dx,_,U,s1 _ _ o2,Vh o3 hm,?_⟩
    refine ha A1 σ H1 (rE env) (rE (env.set i .no)) es _ (λx q=>(c1 x q).same s1) (r.r.same s1) (k4.same (bU s1 λx q=>.inl q)) q3a λvs H2 s2 rvs=>?_;exact k5 H2 (vs++Ik) (s1.trans s2) (rvs.append (hd _))
   ·cases q
  ·cases q
 ·cases q
theorem rQ{C:A7}{m:Str}{k n:Nat}{df:Bool}{F:List D→Option (D×D)}{uc:List Str}{pl:Sem Bool}(Cm:cU X.prog X.w X.K X.mg X.base C m k n df (spS K n F))(Fc:iZ K C uc)(hF:∀d es p,F (d::es)=ND p→es.length+1=n)(hr:jR k X.A)(ho:XP K X o ta i π)(ha:XAB K X (e::es) tA fs)
  (hst:AD (e::es) X.env=(NH,AO e X.env)::AD es X.env:=by rfl) (hpl:(AY pos (AD es X.env)).any (·.1)=NH:=by rfl)
  (ht:AO (.Call (.Attribute o m apos) (e::es) [] pos) X.env=(do
   let ov ←AO o X.env
   EB apos.atName
   let (f,first) ←Ch [ov] (DM ov m pl)
   FH pos f first (AY pos (AD (e::es) X.env)) (DO pos (Bz [] X.env))):=by rfl):XM K X (.Call (.Attribute o m apos) (e::es) [] pos) (Kz C m (spS K n F) [] E0 ta tA) (pM C m i π F (λeF eZ=>(fs eF eZ).map (·++[]))):=by
 have hk:=ho.hk;subst hk;obtain⟨f,fd,ps,_,Fo,hb,_,hm⟩:=Cm.ex;exact⟨U,Xj (pl:=pl) ho.pe Fc.cl hm Fo hr hb .nil Ut ha.pa hst hpl ht,gw hF (λH=>by unfold eY;rfl) ho.ev ha.ev⟩
theorem Qa{C:A7}{m:Str}{k n:Nat}{F:List D→Option (D×D)}{uc:List Str}{pl:Sem Bool}(Cm:cU X.prog X.w X.K X.mg X.base C m k n NG (spS K n F))(Fc:iZ K C uc)(hF:∀d es p,F (d::es)=ND p→es.length+1=n)(hr:jR k X.A)(ho:XP K X o ta i π)(ha:XAB K X (e::es) tA fs)
  (hst:AD (e::es) X.env=(NH,AO e X.env)::AD es X.env:=by rfl) (hpl:(AY pos (AD es X.env)).any (·.1)=NH:=by rfl)
  (ht:AO (.Call (.Attribute o m apos) (e::es) [] pos) X.env=(do
   let ov ←AO o X.env
   EB apos.atName
   let (f,first) ←Ch [ov] (DM ov m pl)
   FH pos f first (AY pos (AD (e::es) X.env)) (DO pos (Bz [] X.env))):=by rfl):XM K X (.Call (.Attribute o m apos) (e::es) [] pos) (Kz C m (spS K n F) [.non] E0 ta tA) (pM C m i π F (λeF eZ=>(fs eF eZ).map (·++[.non]))):=by
 have hk:=ho.hk;subst hk;obtain⟨f,fd,ps,_,Fo,_,hb,hm⟩:=Cm.ex;exact⟨U,Xj (pl:=pl) ho.pe Fc.cl hm Fo hr (hb U) (.cons U .nil) Ut ha.pa hst hpl ht,gw hF (λH=>by unfold eY;exact⟨_,_,U,by unfold Rv;rfl,by unfold eY;rfl⟩) ho.ev ha.ev⟩
def bK(C:A7)(m:Str)(n:Nat)(F:List D→Option D)(fo:FE)(fs:FA)(ud:List D):FE:=λe=>(fo e).bind λd0=>match d0 with
 | .ins C' nm ds=>if C'=C∧m∉nm then(fs e).bind λes=>if es.length+ud.length+1=n then F (.ins C' nm ds::(es++ud))else none else none
 | _=>none
theorem ie{fsA:FA}{C:A7}{m:Str}{n:Nat}{F:List D→Option D}{Ik:List V}{ud:List D}(hd:∀H,eY K H ud Ik)(ho:Iz K ta f)(ha:EvA K tA fsA):Sg K (Kz C m (iD K n F) Ik E0 ta tA) (bK C m n F f fsA ud):=λσ H e d Q re q k=>by
 obtain⟨d0,q1,q2⟩:=aY q;split at q2
 ·rename_i C' nm ds;split at q2
  ·rename_i hc;obtain⟨rfl,hm⟩:=hc;obtain⟨es,q3,q4⟩:=aY q2;split at q4
   ·rename_i hl;refine ho σ H H e _ _ (Zn.self K H) re q1 λv H1 Z1 s1 t1 z1 rv=>?_;have rv1:=z1.sm.rv _ _ rv;have aJp:=rv1;unfold Rv at rv1;obtain⟨a,dx,xs,rfl,h1,h2,h3⟩:=rv1;refine⟨a,dx,_,U,h1,Vh h2 hm,?_⟩;refine ha σ H1 H1 e es _ (Zn.self K H1) (re.same s1) q3 λvs H2 Z2 s2 t2 z2 rvs=>?_;refine⟨_::(es++ud),d,by rw[E9,C7];omega,?_,q4,λw H3 s3 nw=>k w H3 (s1.trans (s2.trans s3)) (nw.back (s1.trans s2))⟩;unfold eY;exact⟨_,_,U,s2.rv _ _ aJp,(z2.sm.TJ _ _ rvs).append (hd _)⟩
   ·cases q4
  ·cases q2
 ·cases q2
theorem cM{fsA:FA}{C:A7}{m:Str}{k n:Nat}{df:Bool}{F:List D→Option D}{uc:List Str}{pl:Sem Bool}(Cm:cU X.prog X.w X.K X.mg X.base C m k n df (iD K n F))(Fc:iZ K C uc)(hr:jR k X.A)(ho:XR K X o ta f)(ha:XA K X (e::es) tA fsA)
  (hst:AD (e::es) X.env=(NH,AO e X.env)::AD es X.env:=by rfl) (hpl:(AY pos (AD es X.env)).any (·.1)=NH:=by rfl)
  (ht:AO (.Call (.Attribute o m apos) (e::es) [] pos) X.env=(do
   let ov ←AO o X.env
   EB apos.atName
   let (f,first) ←Ch [ov] (DM ov m pl)
   FH pos f first (AY pos (AD (e::es) X.env)) (DO pos (Bz [] X.env))):=by rfl):XN K X (.Call (.Attribute o m apos) (e::es) [] pos) (Kz C m (iD K n F) [] E0 ta tA) (bK C m n F f fsA []):=by
 have hk:=ho.hk;subst hk;obtain⟨f,fd,ps,_,Fo,hb,_,hm⟩:=Cm.ex;exact⟨U,Xj (pl:=pl) ho.pe Fc.cl hm Fo hr hb .nil Ut ha.pa hst hpl ht,ie (λH=>by unfold eY;rfl) ho.ev ha.ev⟩
theorem kZ{C:A7}{m:Str}{k n:Nat}{df:Bool}{F:List D→Option D}{uc:List Str}{pl:Sem Bool}(Cm:cU X.prog X.w X.K X.mg X.base C m k n df (iD K n F))(Fc:iZ K C uc)(hr:jR k X.A)(ho:XR K X o ta f)
  (ht:AO (.Call (.Attribute o m apos) [] [] pos) X.env=(do
   let ov ←AO o X.env
   EB apos.atName
   let (f,first) ←Ch [ov] (DM ov m pl)
   FH pos f first (AY pos (AD [] X.env)) (DO pos (Bz [] X.env))):=by rfl):XN K X (.Call (.Attribute o m apos) [] [] pos) (Kz C m (iD K n F) [] E0 ta nG) (bK C m n F f aK []):=by
 have hk:=ho.hk;subst hk;obtain⟨f,fd,ps,_,Fo,hb,_,hm⟩:=Cm.ex;exact⟨U,aAb (pl:=pl) ho.pe Fc.cl hm Fo hr hb .nil Ut ht,ie (λH=>by unfold eY;rfl) ho.ev aAv⟩
structure ue(P:AI)(w:AL)(K:aF)(mg:Str→Option A6)(base:AM)(x:Str)(C:A7)(k n:Nat)(sp:Sp):Prop where
 ex:∃f fd ps,ps.length=n∧zF P w K mg base CZ k f fd ps sp∧Binds K fd ps []∧Mk K C f∧mg x=ND (.ref C)
def Vi(C:A7)(F:List D→Option (D×D))(fs:FA):FE:=λe=>(fs e).bind λes=>match F (.ins C [] []::es)with
 | some (.non,d')=>ND d'
 | _=>none
theorem Yq{fsA:FA}{x:Str}{C:A7}{k n:Nat}{F:List D→Option (D×D)}{p:Pos}(Ci:ue X.prog X.w X.K X.mg X.base x C k n (spS K n F))(hF:∀d es p,F (d::es)=ND p→es.length+1=n)(hr:jR (k+1) X.A)(hg:Gl X x)(ha:XA K X (e::es) tA fsA)(hdb:(x==("__debug__" : Str))=NH:=by decide)
  (he:AD (e::es) X.env=(NH,AO e X.env)::AD es X.env:=by rfl) (hpl:(AY pos (AD es X.env)).any (·.1)=NH:=by rfl):XN K X (.Call (.Name x p) (e::es) [] pos) (aEb C (spS K n F) [] E0 tA) (Vi C F fsA):=by
 have hk:=ha.hk;subst hk;obtain⟨f,fd,ps,_,Fo,hb,M,hm⟩:=Ci.ex;refine⟨U,aCH M Fo hr hg hm hb .nil Ut ha.pa hdb he hpl,λσ H e d Q re q k=>?_⟩;obtain⟨es,q1,q2⟩:=aY q;split at q2
 ·rename_i d' q3;cases q2;refine ha.ev σ H H e es _ (Zn.self _ H) re q1 λvs H1 Z1 s1 t1 z1 rvs=>λx dx nx ndx ne=>?_;have s0:aU H1 (upd (upd H1 dx (.own x)) x (.ins C dx [])):=λb o eb=>by rw[bQ (iQ eb nx),bQ (iQ eb ndx)];exact eb
  have so:aU H1 (out (upd (upd H1 dx (.own x)) x (.ins C dx [])) (λy=>y=x∨y=dx)):=λb o eb=>bA.mpr ⟨λz=>z.elim (iQ eb nx) (iQ eb ndx),s0 b o eb⟩;refine⟨.ins C [] [],es,.ref x,vs++[],(λy=>y=x∨y=dx),.non,_,U,hF _ _ _ q3,?_,?_,q3,λw H2 A' A2 o1 o2 ap sm=>⟨?_,k (.ref x) H2 (λb o eb=>?_) ⟨A',o1,λb hb=>?_⟩⟩⟩
  ·unfold Ow;refine⟨x,dx,[],nil,U,cJ,by rw[bQ ne,cJ],U,λz=>z,λz=>z,λy=>⟨.inl,λz=>z.elim id False.elim⟩,?_⟩;unfold dX;exact⟨λ_ z=>z,U⟩
  ·rw[F9];exact(z1.sm.trans so).TJ _ _ rvs
  ·have:=Ow.rv _ _ _ o2;unfold Rv at this;exact this
  ·exact(bA.mp (sm b o ((s1.trans so) b o eb))).2
  ·cases eb:H b with
   | none=>rfl
   | some o=>exact absurd (.inl hb) (bA.mp (sm b o ((s1.trans so) b o eb))).1
 ·cases q2
theorem aJq(h:XN K X e te f):XM K X e te (λenv=>(f (rE env)).map λd=>(d,env)):=⟨h.hk,h.pe,λB σ H env d env' Q r q k=>by
 obtain⟨d0,q1,q2⟩:=lN q;cases q2;exact h.ev σ H (rE env) d Q r.r q1 λv H' s n=>k v H' (r.snoc s n)⟩
def gbV(g:GM):GB:=λenv=>(g env).bind λde=>match de.1 with
 | .bl b=>ND (b,de.2)
 | _=>none
def gbT(f:FT):GB:=λenv=>(f (rE env)).map λb=>(b,env)
def aKj(g:GB):GB:=λenv=>(g env).map λbe=>(!be.1,be.2)
def aKk(g h:GB):GB:=λenv=>(g env).bind λbe=>if be.1=NG then h be.2 else ND (NH,be.2)
def aLe(g h:GB):GB:=λenv=>(g env).bind λbe=>if be.1=NG then ND (NG,be.2)else h be.2
def aLf(φ:D→D→Option D)(g:GM)(f:FE):GM:=λenv=>(g env).bind λde=>(f (rE de.2)).bind λd2=>(φ de.1 d2).bind λr=>if r.jK=NG then ND (r,de.2)else none
def Gj(i:Nat)(g:GM):GS:=λenv=>match g env with
 | some (d,env')=>if i<env'.length then .next (env'.set i (.own d))else .bad
 | none=>.bad
theorem Mv{x:Str}{pos':Pos}(h:XM K X e te g)(hp:PE X e te→PS X (.Assign [.Name x pos'] e pos) (uD te (iR i))):YS K X (.Assign [.Name x pos'] e pos) (uD te (iR i)) (Gj i g):=⟨hp h.pe,λB E σ H env r p=>by
 unfold Gj at p;split at p
 ·rename_i d env' q;split at p
  ·rename_i hi;exact h.ev B σ H env d env' _ r q λv H' r'=>p _ _ (r'.move hi)
  ·exact p.elim
 ·exact p.elim⟩
def vD(g:GM):GS:=λenv=>match g env with
 | some (_,env')=>.next env'
 | none=>.bad
theorem Ad(h:XM K X e te g)(hs:DA e none pos.line X.env=pure NH:=by rfl):YS K X (.Expr e pos) (nD te) (vD g):=⟨lH h.pe hs,λB E σ H env r p=>by
 unfold vD at p;split at p
 ·rename_i d env' q;exact h.ev B σ H env d env' _ r q λv H' r'=>p _ _ r'.pop
 ·exact p.elim⟩
def Ae(g:GM):GS:=λenv=>match g env with
 | some (d,env')=>.rete d env'
 | none=>.bad
theorem Gk(h:XM K X e te g):YS K X (.Return (ND e) pos) (yo te) (Ae g):=⟨Xc h.pe,λB E σ H env r p=>by
 unfold Ae at p;split at p
 ·rename_i d env' q;exact h.ev B σ H env d env' _ r q λv H' r'=>p v σ H' r'
 ·exact p.elim⟩
def wY(i:Nat):GS:=λenv=>match env[i]? with
 | some (.own d)=>.rete d (env.set i .no)
 | some (.fro d)=>if d.jK=NG then .rete d env else .bad
 | _=>.bad
theorem Gm(h:PE X e (qN i)):YS K X (.Return (ND e) pos) (yo (qN i)) (wY i):=⟨Xc h,λB E σ H env r p=>by
 unfold wY at p;split at p
 ·rename_i d q;obtain⟨v,hv,r'⟩:=r.give q;exact⟨v,hv,p v σ H r'⟩
 ·rename_i d q;split at p
  ·rename_i im;obtain⟨v,hv,rv⟩:=r.r i d (by unfold rE;rw[B8,q];rfl);exact⟨v,hv,p v σ H (r.snoc (aU.refl _) (.jK im rv))⟩
  ·exact p.elim
 ·exact p.elim⟩
def aLg(g:GB)(g1 g2:GS):GS:=λenv=>match g env with
 | some (NG,env')=>g1 env'
 | some (NH,env')=>g2 env'
 | none=>.bad
end
end L2


namespace L2
open PySem PySem.Spec PySem.Calls PyProof.Rows PyProof.V
def aHT(K:aF)(dN:Bool)(dV:A6):Prop:=match dN with
 | false=>dV=.none
 | true=>∃T o n,dV=.ref T∧K.lookup T=ND o∧o.data=.seq #[.none] n
structure JL(K:aF)(f:A7)(m q:Str)(st:AH)(dN:Bool):Prop where
 ex:∃(oc:A6)(od:Option A7)(dV kV doc pm:A6)(an:Option A7)(cdv ct:A6)(osl:Array (Option A6)),
  K.lookup f=ND ⟨oc,od,.func (F6 m q (fP st) (cH st) (aM st) dV kV doc pm an cdv ct),osl⟩∧K4 K cdv q=NG∧aHT K dN dV
structure gB(K:aF)(C:A7)(m q:Str)(st:AH)(dN:Bool):Prop where
 ex:∃f,JL K f m q st dN∧Meth K C m f
structure JM(K:aF)(mg:Str→Option A6)(x:Str)(C:A7)(q:Str)(st:AH):Prop where
 ex:∃f,JL K f "__init__" q st NH∧Mk K C f∧mg x=ND (.ref C)
def HB(x q:Str)(st:AH)(ps:List Str):Prop:=∀(kV doc pm:A6)(an:Option A7)(cdv ct:A6)(us:List A6),us.length=ps.length→Dx (F6 x q (fP st) (cH st) (aM st) .none kV doc pm an cdv ct) ⟨us,[]⟩=pure (ps.zip us)
def HBD(x q:Str)(st:AH)(ps:List Str):Prop:=∀(T:A7)(kV doc pm:A6)(an:Option A7)(cdv ct:A6)(us:List A6),(us.length=ps.length→∃k,Dx (F6 x q (fP st) (cH st) (aM st) (.ref T) kV doc pm an cdv ct) ⟨us,[]⟩=seqItems? (AQ T) >>= k∧k (ND #[BA])=pure (ps.zip us)) ∧
 (us.length+1=ps.length→∃k,Dx (F6 x q (fP st) (cH st) (aM st) (.ref T) kV doc pm an cdv ct) ⟨us,[]⟩=seqItems? (AQ T) >>= k∧k (ND #[BA])=pure (ps.zip (us++[BA])))
def HBs(dN:Bool)(x q:Str)(st:AH)(ps:List Str):Prop:=match dN with
 | false=>HB x q st ps
 | true=>HBD x q st ps
section
variable{P:AI}{w:AL}{K:aF}{mg:Str→Option A6}{base:AM}
theorem JL.binds{f:A7}{m q:Str}{st:AH}{dN:Bool}{ps:List Str}{oc:A6}{od:Option A7}{dV kV doc pm:A6}{an:Option A7}{cdv ct:A6}(hd:aHT K dN dV)(h:HBs dN m q st ps) :
  Binds K (F6 m q (fP st) (cH st) (aM st) dV kV doc pm an cdv ct) ps []∧(dN=NG→Binds K (F6 m q (fP st) (cH st) (aM st) dV kV doc pm an cdv ct) ps [BA]):=by
 cases dN with
 | false=>
  cases hd;exact⟨.all (h kV doc pm an cdv ct),λz=>by cases z⟩
 | true=>
  obtain⟨T,o,n,rfl,h1,h2⟩:=hd;refine⟨λs us kin hl=>?_,λ_ s us kin hl=>?_⟩
  ·rw[F9]at hl ⊢;obtain⟨k,e1,e2⟩:=(h T kV doc pm an cdv ct us).1 hl;exact .of_defaults U (kin _ _ h1) h2 e1 e2
  ·rw[C7]at hl;obtain⟨k,e1,e2⟩:=(h T kV doc pm an cdv ct us).2 hl;exact .of_defaults U (kin _ _ h1) h2 e1 e2
abbrev uf(n m:Nat)(d:D)(es:List D)(v:V):EN:=.inn v d::(es.map SD.fro++E4 (n-m) SD.no)
def JN(r d':D)(v:V)(o:SR):Prop:=∃env',(o=.rete r env'∨(o=.next env'∧r=.non))∧env'[0]?=ND (.inn v d')
open Classical in
noncomputable def nM(n m:Nat)(g:GS):List D→Option (D×D)
 | d::es=>if h:∃p:D×D,es.length+1=m∧∀v,JN p.1 p.2 v (g (uf n m d es v))then ND h.choose else none
 | _=>none
theorem aA7{r d' r2 d2:D}{v:V}{o:SR}(h1:JN r d' v o)(h2:JN r2 d2 v o):r=r2∧d'=d2:=by
  obtain⟨e1,a1,a2⟩:=h1;obtain⟨e2,b1,b2⟩:=h2;rcases a1 with a1 | ⟨a1,rfl⟩
  · rcases b1 with b1 | ⟨b1,rfl⟩
    · rw[a1]at b1
      injection b1 with c1 c2;subst c2;rw[a2]at b2;injection b2 with b2;injection b2 with _ b2;exact⟨c1,b2⟩
    · rw[a1]at b1;cases b1
  · rcases b1 with b1 | ⟨b1,rfl⟩
    · rw[a1]at b1;cases b1
    · rw[a1]at b1
      injection b1 with c2;subst c2;rw[a2]at b2;injection b2 with b2;injection b2 with _ b2;exact⟨U,b2⟩
theorem aA8{n m:Nat}{g:GS}{d r d':D}{es:List D}(hl:es.length+1=m)(h:∀v,JN r d' v (g (uf n m d es v))):nM n m g (d::es)=ND (r,d'):=by
 have ex:∃p:D×D,es.length+1=m∧∀v,JN p.1 p.2 v (g (uf n m d es v)):=⟨(r,d'),hl,h⟩
 unfold nM;dsimp only;rw[dif_pos ex];obtain⟨e1,e2⟩:=aA7 (ex.choose_spec.2 .non) (h .non);exact congrArg ND (j7 e1 e2)
theorem JP{n m:Nat}{g:GS}{d r d':D}{es:List D}(h:nM n m g (d::es)=ND (r,d'))(v:V):es.length+1=m∧JN r d' v (g (uf n m d es v)):=by
 unfold nM at h;dsimp only at h;split at h
 ·rename_i ex;have:=ex.choose_spec;rw[F4 h]at this;exact⟨this.1,this.2 v⟩
 ·cases h
theorem fV{n m:Nat}{g:GS}(d:D)(es:List D)(p:D×D)(h:nM n m g (d::es)=ND p):es.length+1=m:=(JP (r:=p.1) (d':=p.2) h .non).1
theorem aHU{X:Cx}{N ps:List Str}{g:GS}{body:List AH}{t:TS}{vs:List V}{H:Hp}{Q:VK}{E:XK}(yb:YB K X body t g)(h:spS K ps.length (nM N.length ps.length g) vs H Q E):t {nx:=λ_ H'=>Q .non H',rt:=Q} (start N vs) H:=by
  obtain⟨d,es,v,ws,A1,r,d',rfl,hl,ho,hrs,hF,kk⟩:=h;obtain⟨_,env',q1,q2⟩:=JP hF v;have hw:=hrs.length;refine yb.ev (out H A1) _ _ H (uf N.length ps.length d es v) ?_ ?_
  · have sa:=Pq (K:=K) (H:=H) (k:=N.length-ps.length) hrs
    have e:start N (v::ws)=ND v::(ws.map ND++E4 (N.length-ps.length) none):=by unfold start;rw[D3,E9,show N.length-(ws.length+1)=N.length-ps.length by omega];rfl
    rw[e];exact⟨A1,⟨_,_,A1,nil,U,λ_ _ z=>z,λx=>⟨.inl,λz=>z.elim id False.elim⟩,⟨U,ho⟩,sa⟩,aU.refl _⟩
  · rcases q1 with q1 | ⟨q1,rfl⟩
    · rw[q1]
      intro w σ' H' ⟨A2,a2,b2⟩;obtain⟨A3,A4,k1,⟨w',ew,o⟩,k3,k4⟩:=a2.Jj;cases ew;obtain⟨y,A5,C,h1,h2,h3,h4,_⟩:=k1.focus q2;exact kk w H' A5 A4 h4.2 o (λx z1 z2=>k3 x ((h3 x).mpr (.inl z1)) z2) (b2.trans (bU (aU.refl _) λx z=>.inl ((k4 x).mpr (z.elim (λz=>.inl ((h3 x).mpr (.inl z))) .inr))))
    · rw[q1]
      intro σ' H' ⟨A2,a2,b2⟩;obtain⟨y,A5,C,h1,h2,h3,h4,_⟩:=a2.focus q2;exact kk .non H' A5 nil h4.2 (by unfold Ow;exact⟨λ_ z=>z,U⟩) (λx z1 z2=>z2) (b2.trans (bU (aU.refl _) λx z=>.inl ((h3 x).mpr (.inl (z.elim id False.elim)))))
theorem aJr{ps:List Str}{F:List D→Option (D×D)}(vs:List V)(H:Hp)(Q:VK)(E:XK)(h:spS K ps.length F vs H Q E):vs.length=ps.length:=by obtain⟨d,es,v,ws,A,r,d',rfl,hl,_,rs,_⟩:=h;have:=rs.length;rw[E9];omega
theorem JL.okS{f:A7}{m q:Str}{st:AH}{dN:Bool}{N ps:List Str}{k:Nat}{g:GS}(R:JL K f m q st dN)(S:bB N ps (aM st))(hb:HBs dN m q st ps)
  (hbody:∀(f:A7)(cdv:A6)(A:AN)(outer:List Env)(s:A8)(H:Hp)(E:XK),jR k (A.deeper (BS q (aM st) s.heap.objs.size f cdv))→∃t,YB K (Fv CZ P w K mg base N q (aM st) f cdv A outer s H E).ZK (cH st) t g) :
  ∃fd,zF P w K mg base CZ (k+1) f fd ps (spS K ps.length (nM N.length ps.length g))∧Binds K fd ps []∧(dN=NG→Binds K fd ps [BA]):=by
 obtain⟨oc,od,dV,kV,doc,pm,an,cdv,ct,osl,lk,hcd,hd⟩:=R.ex;refine⟨_,aAd lk hcd S aJr λA outer s H vs Q E hr hsp=>?_,JL.binds (f:=f) (oc:=oc) (od:=od) hd hb⟩;obtain⟨t,yb⟩:=hbody f cdv A outer s H E hr;exact⟨t,yb.ps.ZK,aHU yb hsp⟩
theorem gB.Yr{C:A7}{m q:Str}{st:AH}{dN:Bool}{N ps:List Str}{k:Nat}{g:GS}(R:gB K C m q st dN)(S:bB N ps (aM st))(hb:HBs dN m q st ps)
  (hbody:∀(f:A7)(cdv:A6)(A:AN)(outer:List Env)(s:A8)(H:Hp)(E:XK),jR k (A.deeper (BS q (aM st) s.heap.objs.size f cdv))→∃t,YB K (Fv CZ P w K mg base N q (aM st) f cdv A outer s H E).ZK (cH st) t g):cU P w K mg base C m (k+1) ps.length dN (spS K ps.length (nM N.length ps.length g)):=by
 obtain⟨f,Rf,M⟩:=R.ex;obtain⟨fd,F,b1,b2⟩:=Rf.okS (P:=P) (w:=w) (mg:=mg) (base:=base) S hb hbody;exact⟨f,fd,ps,U,F,b1,b2,M⟩
theorem JM.aHV{C:A7}{x q:Str}{st:AH}{N ps:List Str}{k:Nat}{g:GS}(R:JM K mg x C q st)(S:bB N ps (aM st))(hb:HB "__init__" q st ps)
  (hbody:∀(f:A7)(cdv:A6)(A:AN)(outer:List Env)(s:A8)(H:Hp)(E:XK),jR k (A.deeper (BS q (aM st) s.heap.objs.size f cdv))→∃t,YB K (Fv CZ P w K mg base N q (aM st) f cdv A outer s H E).ZK (cH st) t g):ue P w K mg base x C (k+1) ps.length (spS K ps.length (nM N.length ps.length g)):=by
 obtain⟨f,Rf,M,hm⟩:=R.ex;obtain⟨fd,F,b1,b2⟩:=Rf.okS (P:=P) (w:=w) (mg:=mg) (base:=base) S hb hbody;exact⟨f,fd,ps,U,F,b1,M,hm⟩
def mV(n m:Nat)(g:GS):List D→Option D:=λds=>if ds.length=m then(match g (ds.map SD.fro++E4 (n-m) SD.no)with
 | .ret d=>ND d
 | .next _=>ND .non
 | _=>none)else none
theorem aHW{X:Cx}{N ps:List Str}{g:GS}{body:List AH}{t:TS}{vs:List V}{H:Hp}{Q:VK}{E:XK}(yb:YB K X body t g)(h:iD K ps.length (mV N.length ps.length g) vs H Q E):t {nx:=λ_ H'=>Q .non H',rt:=Q} (start N vs) H:=by
 obtain⟨ds,d,h1,h2,h3,kk⟩:=h;refine yb.ev H _ _ H (ds.map SD.fro++E4 (N.length-ps.length) SD.no) ?_ ?_
 ·have hl:vs.length=ps.length:=by rw[h2.length];exact h1
  have:=Jh (k:=N.length-ps.length) h2;unfold start;rw[hl];exact this
 ·unfold mV at h3;rw[if_pos h1]at h3;cases q:g (ds.map SD.fro++E4 (N.length-ps.length) SD.no)with
  | ret d'=>
   rw[q]at h3;cases h3;refine λv H' A' s' o=>kk v H' (s'.trans (kW _ _)) ⟨A',o,λa qa=>?_⟩;cases e:H a with
   | none=>rfl
   | some u=>exact absurd qa (bA.mp (s' a u e)).1
  | next env'=>
   rw[q]at h3;cases h3;intro σ' H' ⟨A,a,b⟩;exact kk .non H' (b.trans (kW _ _)) (.jK U (by unfold Rv;rfl))
  | bad=>rw[q]at h3;cases h3
  | brk e=>rw[q]at h3;cases h3
  | cont e=>rw[q]at h3;cases h3
  | rete d e=>rw[q]at h3;cases h3
theorem gB.Gn{C:A7}{m q:Str}{st:AH}{dN:Bool}{N ps:List Str}{k:Nat}{g:GS}(R:gB K C m q st dN)(S:bB N ps (aM st))(hb:HBs dN m q st ps)
  (hbody:∀(f:A7)(cdv:A6)(A:AN)(outer:List Env)(s:A8)(H:Hp)(E:XK),jR k (A.deeper (BS q (aM st) s.heap.objs.size f cdv))→∃t,YB K (Fv CZ P w K mg base N q (aM st) f cdv A outer s H E).ZK (cH st) t g):cU P w K mg base C m (k+1) ps.length dN (iD K ps.length (mV N.length ps.length g)):=by
 obtain⟨f,Rf,M⟩:=R.ex;obtain⟨oc,od,dV,kV,doc,pm,an,cdv,ct,osl,lk,hcd,hd⟩:=Rf.ex;obtain⟨b1,b2⟩:=JL.binds (f:=f) (oc:=oc) (od:=od) (kV:=kV) (doc:=doc) (pm:=pm) (an:=an) (cdv:=cdv) (ct:=ct) hd hb;refine⟨f,_,ps,U,aAd lk hcd S (λvs H Q E h=>?_) λA outer s H vs Q E hr hsp=>?_,b1,b2,M⟩
 ·obtain⟨ds,d,h1,h2,_⟩:=h;rw[h2.length];exact h1
 obtain⟨t,yb⟩:=hbody f cdv A outer s H E hr;exact⟨t,yb.ps.ZK,aHW yb hsp⟩
theorem ig{f:A7}{m q:Str}{st:AH}{oc:A6}{od an:Option A7}{osl:Array (Option A6)}{kV doc pm cdv ct:A6}(l:K.lookup f=ND ⟨oc,od,.func (F6 m q (fP st) (cH st) (aM st) .none kV doc pm an cdv ct),osl⟩)(c:K4 K cdv q=NG):JL K f m q st NH:=⟨⟨oc,od,.none,kV,doc,pm,an,cdv,ct,osl,l,c,U⟩⟩
theorem aDr{C f:A7}{m q:Str}{st:AH}{oc:A6}{od an:Option A7}{osl:Array (Option A6)}{kV doc pm cdv ct:A6}(a:F3 K (.ref C) m=ND (ND (.ref f)))(i:O7 K (.ref f)=NG)(l:K.lookup f=ND ⟨oc,od,.func (F6 m q (fP st) (cH st) (aM st) .none kV doc pm an cdv ct),osl⟩)(c:K4 K cdv q=NG)(k:J9 K (.ref f)=NG):gB K C m q st NH:=⟨⟨f,ig l c,⟨a,i,k⟩⟩⟩
theorem aA9{C f T:A7}{m q:Str}{st:AH}{oc oc2:A6}{od an od2:Option A7}{osl aJs:Array (Option A6)}{kV doc pm cdv ct:A6}{n:Nat}(a:F3 K (.ref C) m=ND (ND (.ref f)))(i:O7 K (.ref f)=NG)(l:K.lookup f=ND ⟨oc,od,.func (F6 m q (fP st) (cH st) (aM st) (.ref T) kV doc pm an cdv ct),osl⟩)(c:K4 K cdv q=NG)(k:J9 K (.ref f)=NG)(t:K.lookup T=ND ⟨oc2,od2,.seq #[.none] n,aJs⟩):gB K C m q st NG:=⟨⟨f,⟨⟨oc,od,.ref T,kV,doc,pm,an,cdv,ct,osl,l,c,T,_,n,U,t,U⟩⟩,⟨a,i,k⟩⟩⟩
theorem aDs{h:AM}{x q:Str}{C f:A7}{st:AH}{oc:A6}{od an:Option A7}{osl:Array (Option A6)}{kV doc pm cdv ct:A6}(X:K.In h)(G:h.Ns AV mg)(aC:R1 K AV x=ND (ND (.ref C)))(a:F3 K (.ref C) "__init__" = ND (ND (.ref f))) (i:O7 K (.ref f)=NG) (l:K.lookup f=ND ⟨oc,od,.func (F6 "__init__" q (fP st) (cH st) (aM st) .none kV doc pm an cdv ct),osl⟩) (c:K4 K cdv q=NG) (mk:T6 K C=NG) (kc:J9 K (.ref C)=NG):JM K mg x C q st:=⟨⟨f,ig l c,⟨mk,a,i,kc⟩,b8 X G aC⟩⟩
end
section
variable{K:aF}{X:Cx}{st:AH}{g g1 g2 gb:GS}{e a b c o:AB}{es rest:List AB}{te ta tb tc t0 tv:TE}{f f0 fa fb fc:FE}{tA:TA}{fs:FA}{pos apos:Pos}{i j:Nat}{π:FP}{tbs:TS}
def ug(φ φ':D→D→Option D)(f g h:FE):FT:=λe=>(f e).bind λa=>(g e).bind λb=>(φ a b).bind λr=>match r with
  | .bl NG=>(h e).bind λc=>(φ' b c).bind λr2=>match r2 with | .bl k=>ND k | _=>none
  | .bl NH=>ND NH
  | _=>none
theorem Qc{op op':EK}{r r':R2}{φ φ':D→D→Option D}(ho:wM X (AS op) r)(ho':wM X (AS op') r')(hd:TV K r φ)(hd':TV K r' φ')(ha:XR K X a ta fa)(hb:XR K X b tb fb)(hc:XR K X c tc fc)(hm:lastMarks [op,op'] [b,c]=NH:=by with_unfolding_all rfl):XT K X (.Compare a [op,op'] [b,c] pos) (FQ (zf r r' ta tb tc)) (ug φ φ' fa fb fc):=⟨ha.hk,zg ho ho' ha.pe hb.pe hc.pe hm,λσ H e k Q re q kk=>by
 obtain⟨d1,q1,q⟩:=aY q;obtain⟨d2,q2,q⟩:=aY q;obtain⟨d3,q3,q⟩:=aY q;refine ha.ev σ H H e d1 _ (Zn.self K H) re q1 λx H1 Z1 s1 t1 z1 rx=>hb.ev σ H1 H1 e d2 _ (Zn.self K H1) (re.same s1) q2 λy H2 Z2 s2 t2 z2 ry=>?_;refine hd x y H2 d1 d2 d3 _ (s2.rv _ _ (z1.sm.rv _ _ rx)) (z2.sm.rv _ _ ry) q3 λz H3 s3 n=>?_;have rz:=n.rv;split at q
 ·obtain⟨d4,q4,q⟩:=aY q;obtain⟨d5,q5,q⟩:=aY q;unfold Rv at rz;refine⟨NG,rz,?_⟩;rw[if_pos rfl];refine hc.ev σ H3 H3 e d4 _ (Zn.self K H3) (re.same (s1.trans (s2.trans s3))) q4 λw H4 Z4 s4 t4 z4 Sv=>?_;refine hd' y w H4 d2 d4 d5 _ ((s3.trans s4).rv _ _ (z2.sm.rv _ _ ry)) (z4.sm.rv _ _ Sv) q5 λv H5 s5 n5=>?_;have r5:=n5.rv;split at q
  ·cases q;unfold Rv at r5;exact⟨_,r5,kk H5 (s1.trans (s2.trans (s3.trans (s4.trans s5))))⟩
  ·cases q
 ·cases q;unfold Rv at rz;refine⟨NH,rz,?_⟩;rw[if_neg (by decide)];exact⟨_,U,kk H3 (s1.trans (s2.trans s3))⟩
 ·cases q⟩
open Classical in
noncomputable def zL(j i:Nat)(g:GS)(v:V)(all:List D):List D→EN→SR
 | [],env=>if env[j]?=ND (.inn v (.lst all))then .next env else .bad
 | x::xs,env=>if i<env.length∧env[j]?=ND (.inn v (.lst all))then(match g (env.set i (.fro x))with
  | .next e=>zL j i g v all xs e
  | .cont e=>zL j i g v all xs e
  | _=>.bad)else .bad
open Classical in
noncomputable def Dl(j i:Nat)(g:GS):GS:=λenv=>match env[j]? with
 | some (.own (.lst xs))=>if h:(intsOf xs).isSome=NG∧∃env':EN,env'[j]?=ND (.own (.lst xs))∧∀v,zL j i g v xs xs (env.set j (.inn v (.lst xs)))=.next (env'.set j (.inn v (.lst xs)))then .next h.2.choose else .bad
 | _=>.bad
theorem aDt{α:Type}{l m:List α}{j:Nat}{s:α}(h1:l.set j s=m.set j s)(h2:l[j]?=m[j]?):l=m:=by
 apply K6;intro k;by_cases c:j=k
 ·subst c;exact h2
 ·have:=congrArg (λx=>x[k]?) h1;simp only[F8,if_neg c]at this;exact this
theorem aBa{env env':EN}{ns:List Int}(h:env[j]?=ND (.own (.lst (ns.map D.int))))(h1:env'[j]?=ND (.own (.lst (ns.map D.int))))(h2:∀v,zL j i g v (ns.map D.int) (ns.map D.int) (env.set j (.inn v (.lst (ns.map D.int))))=.next (env'.set j (.inn v (.lst (ns.map D.int))))):Dl j i g env=.next env':=by
 have ex:(intsOf (ns.map D.int)).isSome=NG∧∃env':EN,env'[j]?=ND (.own (.lst (ns.map D.int)))∧∀v,zL j i g v (ns.map D.int) (ns.map D.int) (env.set j (.inn v (.lst (ns.map D.int))))=.next (env'.set j (.inn v (.lst (ns.map D.int)))):=⟨by rw[kI];rfl,env',h1,h2⟩
 unfold Dl;rw[h];dsimp only;rw[dif_pos ex];have c:=ex.2.choose_spec;have e:=(c.2 .non).symm.trans (h2 .non);injection e with e;rw[aDt e (c.1.trans h1.symm)]
theorem uh{xs:List D}{ns:List Int}(h:intsOf xs=ND ns):xs=ns.map D.int:=by
 induction xs generalizing ns with
 | nil=>unfold intsOf at h;cases h;rfl
 | cons x xs ih=>
  unfold intsOf at h;cases x with
  | int i=>obtain⟨ms,h1,h2⟩:=lN h;subst h2;rw[D3,ih h1]
  | _=>cases h
theorem aDu(hb:DS K tbs g):DS K (Xf (aAJ K (qN j)) (iR i) tbs) (Dl j i g):=λB E σ H env r p=>by
 unfold Dl at p;split at p
 ·rename_i xs q;split at p
  ·rename_i ex;obtain⟨ns,hns⟩:=W8.mp ex.1;have exx:=uh hns;obtain⟨c1,c2⟩:=ex.2.choose_spec;generalize ex.2.choose=env' at *;subst exx;have hj:j<env'.length:=(D1.mp c1).1;obtain⟨v,hσ,rv⟩:=r.r j _ (by unfold rE;rw[B8,q];rfl);have c2:=c2 v;have r1:=r.aA2 q hσ;have lst:∀{fH:EN} {σ2:St} {H2:Hp},Rel K B fH σ2 H2→fH[j]?=ND (.inn v (.lst (ns.map D.int)))→∃a,v=.ref a∧pK K H2 a (ns.map V.int):=by rintro fH σ2 H2 ⟨A,aa,bb⟩ e2;obtain⟨y,A1,C,h1,h2,h3,h4,_⟩:=aa.focus e2;have:=Ow.rv _ _ _ h4.2;unfold Rv at this;obtain⟨a,ys,e,sq,l⟩:=this;rw[kY.mp l]at sq;exact⟨a,e,sq⟩
   obtain⟨a,rfl,sq0⟩:=lst r1 (G6 (D1.mp q).1);refine .inl ⟨.ref a,hσ,a,U,⟨_,sq0⟩,?_⟩;refine Mj Ob (λk σ2 H2=>∃fH,Rel K B fH σ2 H2∧fH[j]?=ND (.inn (.ref a) (.lst (ns.map D.int)))∧zL j i g (.ref a) (ns.map D.int) ((ns.map D.int).drop k) fH=.next (env'.set j (.inn (.ref a) (.lst (ns.map D.int))))) ⟨_,r1,G6 (D1.mp q).1,by rw[n9];exact c2⟩ (λk σ2 H2 _ ⟨fH,r2,e2,_⟩=>by
    obtain⟨a',e,sq⟩:=lst r2 e2;cases e;exact sq) ?_ ?_
   ·rintro k x σ2 H2 hx ⟨fH,r2,e2,f2⟩;have hk:k<ns.length:=by
     have:=(D1.mp hx).1
     rwa [B7]at this
    rw[L6 (by rw[B7];exact hk)]at f2;rw[B8,B6 hk]at hx;cases hx;rw[List.getElem_map]at f2;unfold zL at f2;split at f2
    ·rename_i hlen;have r3:Rel K B (fH.set i (.fro (.int ns[k]))) (σ2.set i (ND (.int ns[k]))) H2:=by obtain⟨A2,a2,b2⟩:=r2;exact Mu a2 b2 hlen.1 (aU.refl _) (aU.refl _) (Ph a2) (by unfold Rv;rfl)
     refine hb B _ _ H2 _ r3 ?_;have fin:∀{o:SR},o=g (fH.set i (.fro (.int ns[k])))→(match o with | .next e=>zL j i g (.ref a) (ns.map D.int) ((ns.map D.int).drop (k+1)) e | .cont e=>zL j i g (.ref a) (ns.map D.int) ((ns.map D.int).drop (k+1)) e | _=>.bad)=.next (env'.set j (.inn (.ref a) (.lst (ns.map D.int))))→Pj K B {E with nx:=λσ3 H3=>∃fH,Rel K B fH σ3 H3∧fH[j]?=ND (.inn (.ref a) (.lst (ns.map D.int)))∧zL j i g (.ref a) (ns.map D.int) ((ns.map D.int).drop (k+1)) fH=.next (env'.set j (.inn (.ref a) (.lst (ns.map D.int)))),ct:=λσ3 H3=>∃fH,Rel K B fH σ3 H3∧fH[j]?=ND (.inn (.ref a) (.lst (ns.map D.int)))∧zL j i g (.ref a) (ns.map D.int) ((ns.map D.int).drop (k+1)) fH=.next (env'.set j (.inn (.ref a) (.lst (ns.map D.int)))),bk:=E.nx} o:=by
      intro o _ ho;have there:∀{e3:EN} {xs:List D},zL j i g (.ref a) (ns.map D.int) xs e3=.next (env'.set j (.inn (.ref a) (.lst (ns.map D.int))))→e3[j]?=ND (.inn (.ref a) (.lst (ns.map D.int))):=by
       intro e3 xs h3;cases xs with
       | nil=>
        unfold zL at h3;split at h3
        ·rename_i z;exact z
        ·cases h3
       | cons y ys=>
        unfold zL at h3;split at h3
        ·rename_i z;exact z.2
        ·cases h3
      cases o with
      | next e3=>exact λσ3 H3 r4=>⟨e3,r4,there ho,ho⟩
      | cont e3=>exact λσ3 H3 r4=>⟨e3,r4,there ho,ho⟩
      | ret d=>cases ho
      | brk d=>cases ho
      | bad=>cases ho
      | rete d e=>cases ho
     exact fin U f2
    ·cases f2
   ·rintro σ2 H2 ⟨fH,r2,e2,f2⟩;rw[B7]at f2;rw[show ns.length=(ns.map D.int).length by rw[B7],X1]at f2;unfold zL at f2;rw[if_pos e2]at f2;injection f2 with f2;rw[f2]at r2;obtain⟨r3,_⟩:=r2.aA1 (G6 hj);rw[R4,set_same c1]at r3;exact p σ2 H2 r3
  ·exact p.elim
 ·exact p.elim
theorem Ys{tg:AB}{body:List AH}(hp:EC (AG X.prog X.w) X.A X.env X.xe)(UW:X.calm=NG)(hv:PE X e (qN j))(hg:PG X tg (iR i))(hb:YB K X body tbs g)(hs:∀x,B4 e X.env x=pure x:=by intro _;rfl)(hk:X.K=K:=by rfl):YS K X (.For tg e body [] pos) (Xf (aAJ K (qN j)) (iR i) tbs) (Dl j i g):=by
 subst hk;refine⟨Xg hp UW (λpins s σ H R I h=>?_) hg hb.ps hs,aDu hb.ev⟩;rcases h with h | h
 ·exact ZM hv pins s σ H R I h
 ·exact yw hv pins s σ H R I h
end
end L2


namespace L2
open PySem PySem.Spec PySem.Calls PyProof.Rows PyProof.V
theorem JQ{H:Hp}{p:A7}{kvs:List (List Key×V)}(h:H p=ND (.dT kvs)):yN H p:=⟨λys e=>(by rw[h]at e;cases e),λo ys e=>(by rw[h]at e;cases e)⟩
section
variable{K:aF}{B H:Hp}{env:EN}{σ:St}
theorem Rel.aJt{i:Nat}{p:List Step}{d0:D}{ks:List (List Key)}{ds:List D}(h:Rel K B env σ H)(e:env[i]?=ND (.own d0))(q:eO p d0=ND (.dt ks ds)):∃v0 a xs Bs,σ[i]?=ND (ND v0)∧Le H p v0=ND (.ref a)∧H a=ND (.dT (ks.zip xs))∧ks.length=xs.length∧¬Bs a∧dX K H ds Bs xs ∧
    ∀H2 ks' ds' xs' Bn,aU H H2→ks'.length=xs'.length→dX K H2 ds' Bn xs'→(∀b,Bn b→Bs b∨H b=none)→Rel K B (env.set i (.own (dR p d0 (.dt ks' ds')))) σ (upd H2 a (.dT (ks'.zip xs'))):=by
  obtain⟨v0,w,A1,C,h1,h2,h3,h4,h5,h6⟩:=h.at e q;unfold Ow at h3;obtain⟨a,xs,Bs,rfl,o2,o2',o3,o4,o5⟩:=h3;refine⟨v0,a,xs,Bs,h1,h2,o2,o2',o3,o5,λH2 ks' ds' xs' Bn s hl o hb=>?_⟩;have nBa:¬Bn a:=λz=>(hb a z).elim o3 λz=>by rw[o2]at z;cases z
  have hC:∀x,C x→¬x=a:=λx z y=>h4 x ((o4 x).mpr (.inl y)) z;have Ti:H2 a=ND (.dT (ks.zip xs)):=s a _ o2;refine h6 _ (.dt ks' ds') (fK (·=a) Bn) (λx z1 z2=>?_) (λx z=>?_) (s.tk.trans (tE (JQ Ti))) ?_ (λx u ex=>?_)
  · rcases z1 with z1 | z1
    · exact hC x z2 z1
    · rcases hb x z1 with z | z
      · exact h4 x ((o4 x).mpr (.inr z)) z2
      · obtain⟨⟨u,eu⟩,_⟩:=h5 x z2
        rw[z]at eu;cases eu
  · obtain⟨⟨u,eu⟩,_⟩:=h5 x z
    rw[bQ (hC x z),eu,s x u eu]
  · unfold Ow
    refine⟨a,xs',Bn,U,cJ,hl,nBa,λ_=>Iff.rfl,dX.frame (tE (JQ Ti)) _ _ _ o λx zx=>bQ λy=>nBa (y▸zx)⟩
  · obtain⟨e1,e2⟩:=bA.mp ex
    have na:x≠a:=λy=>e1 (.inl ((o4 x).mpr (.inl y)));refine bA.mpr ⟨λz=>?_,by rw[bQ na];exact s x u e2⟩;rcases z with (z | z) | z
    · exact na z
    · rcases hb x z with z | z
      · exact e1 (.inl ((o4 x).mpr (.inr z)))
      · rw[z]at e2;cases e2
    · exact e1 (.inr z)
end
def JR:List D→Option (List Key)
 | []=>ND []
 | d::ds=>(Tf d).bind λk=>(JR ds).map λr=>k::r
theorem JS{K:aF}{H:Hp}:∀{ds:List D} {ks:List Key} {vs:List V},JR ds=ND ks→eY K H ds vs→vs=ks.map kV
 | [],ks,vs,h,r=>by
  unfold JR at h;cases h;unfold eY at r;exact r
 | d::ds,ks,vs,h,r=>by unfold JR at h;obtain⟨k,h1,h2⟩:=aY h;obtain⟨ks',h3,rfl⟩:=lN h2;unfold eY at r;obtain⟨y,ys,rfl,r1,r2⟩:=r;rw[Ms h1 r1,JS h3 r2];rfl
abbrev FK:=DE→Option (List Key)
def EvK(K:aF)(t:TE)(fk:FK):Prop:=∀(σ:St)(H:Hp)(e:DE)(k:List Key)(Q:VK),yO K H e σ→fk e=ND k→(∀b H',aU H H'→H' b=ND (.tup (k.map kV))→Q (.ref b) H')→t σ H Q
structure XKt(K:aF)(X:Cx)(e:AB)(t:TE)(fk:FK):Prop where
 hk:X.K=K
 pe:PE X e t
 ev:EvK K t fk
section
variable{K:aF}{X:Cx}{st:AH}{e a b c o:AB}{es rest:List AB}{te ta tb tc t0 tv:TE}{f fa fb:FE}{g:FK}{gd:FE}{tA:TA}{fs:FA}{pos apos:Pos}{i j:Nat}{π:FP}{tbs:TS}
def Jl(fs:FA):FK:=λe=>(fs e).bind λds=>if ds.length≤100 then JR ds else none
theorem Qd{x1:Nat}(h:XA K X es tA fs):XKt K X (.Tuple es x1 pos) (aCF tA) (Jl fs):=⟨h.hk,zy h.pa,λσ H e k Q re q kk=>by
 obtain⟨ds,q1,q2⟩:=aY q;split at q2
 ·rename_i hl;refine h.ev σ H H e ds _ (Zn.self K H) re q1 λvs H1 Z1 s1 t1 z1 rvs=>⟨Uw (by rw[rvs.length];omega),λp hp=>kk p _ (s1.trans (dO hp _)) ?_⟩
  rw[cJ,JS q2 rvs]
 ·cases q2⟩
def Tn(neg:Bool)(fk:FK)(f:FE):FE:=λe=>(fk e).bind λk=>(f e).bind λd=>match d with
 | .dt ks _=>ND (.bl (if neg then !(posK ks k).isSome else(posK ks k).isSome))
 | _=>none
theorem WD{ks:List (List Key)}{xs:List V}{k:List Key}(h:ks.length=xs.length):(wQ (ks.zip xs) k).isSome=(posK ks k).isSome:=by
 rw[sY h];cases q:posK ks k with
 | none=>rfl
 | some j=>obtain⟨h1,h2⟩:=rN q;rw[C4,B6 (by omega)];rfl
theorem aGa{neg:Bool}{d:D}{σ:St}{H:Hp}{e:DE}{Q:VK}(ha:EvK K ta g)(hb:Iz K tb f)(re:yO K H e σ)(q:Tn neg g f e=ND d)(k:∀v H',aU H H'→Mm K H H' d v→Q v H') :
  ta σ H λy H1=>tb σ H1 λx H2=>∃a o,x=.ref a∧Oa H2 a y o∧Q (.bl (if neg then !o.isSome else o.isSome)) H2:=by
 obtain⟨kk,q1,q⟩:=aY q;obtain⟨d1,q2,q⟩:=aY q;split at q
 ·rename_i ks ds;cases q;refine ha σ H e kk _ re q1 λbb H1 s1 hb1=>hb σ H1 H1 e _ _ (Zn.self K H1) (re.same s1) q2 λx H2 Z2 s2 t2 z2 rx=>?_;have rx:=z2.sm.rv _ _ rx;unfold Rv at rx;obtain⟨p,xs,r1,r2,r3,r4⟩:=rx;refine⟨p,wQ (ks.zip xs) kk,r1,.inr ⟨_,kk,bb,r2,U,s2 _ _ hb1,U⟩,?_⟩;rw[WD r3];exact k _ H2 (s1.trans s2) (.jK U (by unfold Rv;rfl))
 ·cases q
theorem aDv(hu:X.A.units+1<As)(ha:XKt K X a ta g)(hb:XR K X b tb f)(h1:behindInMarks .In b=NH:=by first | exact nobehind _ (by decide) (by decide) | rfl):XN K X (.Compare a [.In] [b] pos) (aCT ta tb) (Tn NH g f):=
 ⟨ha.hk,RB (RW hu ha.pe hb.pe) h1,λσ H e d Q re q k=>aGa (neg:=NH) ha.ev hb.ev re q k⟩
theorem il(hu:X.A.units+1<As)(ha:XKt K X a ta g)(hb:XR K X b tb f)(h1:behindInMarks .In b=NH:=by first | exact nobehind _ (by decide) (by decide) | rfl):XT K X (.Compare a [.In] [b] pos) (tB (aCT ta tb)) (fB (Tn NH g f)):=aEk (aDv hu ha hb h1) (RW hu ha.pe hb.pe) h1
def Qe(f:FE)(fk:FK):FE:=λe=>(f e).bind λd=>(fk e).bind λk=>match d with
 | .dt ks ds=>(posK ks k).bind λj=>(ds[j]?).bind λr=>if r.jK=NG then ND r else none
 | _=>none
theorem JT(hu:X.A.units+1<As)(ha:XR K X a ta f)(hb:XKt K X b tb g)(hs:aFy b):XN K X (.Subscript a b pos) (aEg ta tb) (Qe f g):=
 ⟨ha.hk,aCU hu ha.pe hb.pe hs,λσ H e d Q re q k=>by
  obtain⟨d1,q1,q⟩:=aY q;obtain⟨kk,q2,q⟩:=aY q;split at q
  ·rename_i ks ds;obtain⟨j,q3,q⟩:=aY q;obtain⟨r,q4,q⟩:=aY q;split at q
   ·rename_i im;cases q;refine ha.ev σ H H e _ _ (Zn.self K H) re q1 λx H1 Z1 s1 t1 z1 rx=>hb.ev σ H1 e kk _ (re.same s1) q2 λbb H2 s2 hb2=>?_;have rx:=s2.rv _ _ (z1.sm.rv _ _ rx);unfold Rv at rx;obtain⟨p,xs,r1,r2,r3,r4⟩:=rx;obtain⟨v,e1,e2⟩:=r4.get q4;refine⟨p,v,r1,.inr ⟨_,kk,bb,r2,U,hb2,?_⟩,k v H2 (s1.trans s2) (.jK im e2)⟩;rw[sY r3,q3,C4,e1]
   ·cases q
  ·cases q⟩
theorem aBb(hk:X.K=K:=by rfl):XN K X (.Dict [] [] pos) aAj (fC (.dt [] [])):=⟨hk,aAl,λσ H e d Q re q k=>by
 cases q;intro p hp;refine k _ _ (dO hp _) ⟨(·=p),?_,λa q=>by cases q;exact hp⟩;unfold Ow;exact⟨p,[],nil,U,cJ,U,λz=>z,λx=>⟨.inl,λz=>z.elim id False.elim⟩,by unfold dX;exact⟨λ_ z=>z,U⟩⟩⟩
def Vj(i:Nat)(π:FP)(g:FK)(f:FE):GS:=λenv=>match env[i]?,π (rE env),g (rE env),f (rE env)with
 | some (.own d0),ND p,ND k,ND d=>(match eO p d0 with
  | some (.dt ks ds)=>if d.jK=NG∧ks.length<100000 then .next (env.set i (.own (dR p d0 (.dt (lF ks k) (putD ks ds k d)))))else .bad
  | _=>.bad)
 | _,_,_,_=>.bad
theorem JV{H:Hp}{d:D}{v:V}(o:Ow K H d nil v)(k:List Key):∀{ks:List (List Key)} {ds:List D} {A:Fp} {xs:List V},ks.length=xs.length→dX K H ds A xs→∃A',(∀x,A' x→A x)∧dX K H (Q1 (λk' d'=>if k'=k then d else d') ks ds) A' (Q1 (λk' d'=>if k'=k then v else d') ks xs)
 | [],ds,A,xs,hl,h=>by
  cases xs with
  | nil=>exact⟨nil,λ_ z=>z.elim,by rw[Q2,Q2];unfold dX;exact⟨λ_ z=>z,U⟩⟩
  | cons x xs=>simp at hl
 | k0::ks,[],A,xs,hl,h=>by unfold dX at h;rw[h.2]at hl;simp at hl
 | k0::ks,d0::ds,A,xs,hl,h=>by
  unfold dX at h;obtain⟨y,yt,A1,A2,rfl,h2,h3,h4,h5⟩:=h;obtain⟨A',a1,a2⟩:=JV o k (by simpa using hl) h5;by_cases c:k0=k
  ·refine⟨A',λx q=>(h3 x).mpr (.inr (a1 x q)),?_⟩;rw[J1,J1,if_pos c,if_pos c];unfold dX;exact⟨v,_,nil,A',U,λ_ z=>z.elim,λx=>⟨.inr,λz=>z.elim False.elim id⟩,o,a2⟩
  ·refine⟨fK A1 A',λx q=>(h3 x).mpr (q.imp id (a1 x)),?_⟩;rw[J1,J1,if_neg c,if_neg c];unfold dX;exact⟨y,_,A1,A',U,λx z1 z2=>h2 x z1 (a1 x z2),λ_=>Iff.rfl,h4,a2⟩
theorem aDw(h:EvP K ta i π)(hx:EvK K tb g)(he:Iz K te f):qm K (Fy ta tb te) (Vj i π g f):=λB E σ H env r p=>by
 unfold Vj at p;split at p
 ·rename_i d0 pp k d q1 q2 q3 q3';split at p
  ·rename_i ks ds q4;split at p
   ·rename_i hc;obtain⟨v0,a,xs,Bs,k1,k2,k3,k3',k4,k5,k6⟩:=r.aJt q1 q4;refine he σ H H (rE env) d _ (Zn.self K H) r.r q3' λy H1 Z1 s1 t1 z1 ry=>?_;refine h σ H1 (rE env) v0 pp _ _ (r.r.same s1) k1 q2 (tG s1 k2) λH2 s2=>hx σ H2 (rE env) _ _ (r.r.same (s1.trans s2)) q3 λbb H3 s3 hb3=>?_;have Pb:=s1.trans (s2.trans s3);have o:Ow K H3 d nil y:=zX d y hc.1 ((z1.sm.trans (s2.trans s3)).rv _ _ ry);refine⟨a,_,U,.inr ⟨ks.zip xs,k,bb,Pb _ _ k3,U,hb3,Ot (by rw[Y2];omega),U⟩,p _ ?_⟩;rw[HH k3'];have ow3:=k5.same Pb;by_cases c:(posK ks k).isSome=NG
    ·obtain⟨A',a1,a2⟩:=JV o k k3' ow3;refine k6 H3 (lF ks k) (putD ks ds k d) (putD ks xs k y) A' Pb (vR k3') ?_ λb z=>.inl (a1 b z);unfold putD;rw[if_pos c,if_pos c];exact a2
    ·refine k6 H3 (lF ks k) (putD ks ds k d) (putD ks xs k y) (fK Bs nil) Pb (vR k3') ?_ λb z=>z.elim .inl False.elim;unfold putD;rw[if_neg c,if_neg c];exact cG.mpr ((cG.mp ow3).snoc o λ_ _ z=>z)
   ·exact p.elim
  ·exact p.elim
 ·exact p.elim
def aJv(K:aF)(t:TA)(fs:FA)(i:Nat):Prop:=∀(σ:St)(H:Hp)(e:DE)(ds:List D)(v:V)(Q:List V→Hp→Prop),yO K H e σ→fs e=ND ds→σ[i]?=ND (ND v)→(∀vs H',aU H H'→Te K H H' ds vs→Q (vs++[v]) H')→t σ H Q
structure XBm(K:aF)(X:Cx)(es:List AB)(t:TA)(fs:FA)(i:Nat):Prop where
 hk:X.K=K
 pa:PA X es t
 ev:aJv K t fs i
end
end L2


namespace L2
open PySem PySem.Spec PySem.Calls PyProof.Rows PyProof.V
section
variable{K:aF}{X:Cx}{st:AH}{e a b c o:AB}{es rest:List AB}{te ta tb tc t0 tv:TE}{f fa fb g:FE}{gk:FK}{gd:FE}{tA:TA}{fs:FA}{pos apos:Pos}{i j:Nat}{π:FP}{tbs:TS}{gm:GM}
def gmN(f:FE):GM:=λenv=>(f (rE env)).map λd=>(d,env)
theorem ir(h:XN K X e te f):XM K X e te (gmN f):=aJq h
theorem Bm(h:XR K X e te f)(hs:DA e none pos.line X.env=pure NH:=by rfl):YS K X (.Expr e pos) (nD te) (yU f):=⟨lH h.pe hs,aDi h.ev⟩
theorem nY{C:A7}{uc:List Str}{x:Str}{pos':Pos}(F:iZ K C uc)(hx:x∈uc)(h:XP K X a ta i π)(he:XN K X e te f)(hs:DA e (ND (.Attribute a x pos')) pos.line X.env=pure NH:=by rfl):YS K X (.Assign [.Attribute a x pos'] e pos) (aFo K ta te x) (jL i (vV C i π x f)):=⟨by have:=h.hk;subst this;exact aFp h.pe he.pe hs,(aA3 (aF8 F hx h.ev he.ev)).ds⟩
theorem Mw{m:Str}{apos cpos:Pos}(h:XP K X a ta i π)(he:XN K X e te f)(hp:PE X a ta→PE X e te→PS X (.Expr (.Call (.Attribute a m apos) [e] [] cpos) pos) (nD (Nu K "list" nT ta (fY te nG)))):YS K X (.Expr (.Call (.Attribute a m apos) [e] [] cpos) pos) (nD (Nu K "list" nT ta (fY te nG))) (jL i (Eb i π f)):=Jk i (hp h.pe he.pe) (aAQ h.ev he.ev)
theorem JW{pos':Pos}(h:XP K X a ta i π)(hx:XR K X b tb g)(he:XN K X e te f)(hp:PE X a ta→PE X b tb→PE X e te→PS X (.Assign [.Subscript a b pos'] e pos) (uD te (Xd ta tb Fw))):YS K X (.Assign [.Subscript a b pos'] e pos) (uD te (Xd ta tb Fw)) (jL i (uM i π g f)):=Jk i (hp h.pe hx.pe he.pe) (cz h.ev hx.ev he.ev)
theorem Gp{pos':Pos}(h:XP K X a ta i π)(hx:XR K X b tb g)(he:XR K X e te f)(hp:PE X a ta→PE X b tb→PE X e te→PS X (.Assign [.Subscript a b pos'] e pos) (Fy ta tb te)):YS K X (.Assign [.Subscript a b pos'] e pos) (Fy ta tb te) (jL i (rJ i π g f)):=Jk i (hp h.pe hx.pe he.pe) (dg h.ev hx.ev he.ev)
theorem aBc{pos':Pos}(h:XP K X a ta i π)(hx:XKt K X b tb gk)(he:XR K X e te f)(hp:PE X a ta→PE X b tb→PE X e te→PS X (.Assign [.Subscript a b pos'] e pos) (Fy ta tb te)):YS K X (.Assign [.Subscript a b pos'] e pos) (Fy ta tb te) (jL i (Vj i π gk f)):=Jk i (hp h.pe hx.pe he.pe) (aDw h.ev hx.ev he.ev)
end
end L2
namespace L2
open PySem PySem.Spec PySem.Calls PyProof.Rows PyProof.V
def D.JX:D→Bool
 | .non=>NG
 | _=>NH
theorem JZ{K:aF}{H:Hp}{d:D}{v:V}(r:Rv K H d v):decide (v=.non)=d.JX:=by
 cases d with
 | non=>unfold Rv at r;subst r;rfl
 | bl b=>unfold Rv at r;subst r;rfl
 | int b=>unfold Rv at r;subst r;rfl
 | str b=>unfold Rv at r;subst r;rfl
 | lst ds=>unfold Rv at r;obtain⟨a,xs,rfl,_⟩:=r;rfl
 | tup ds=>unfold Rv at r;obtain⟨a,xs,rfl,_⟩:=r;rfl
 | dk ks ds=>unfold Rv at r;obtain⟨a,xs,rfl,_⟩:=r;rfl
 | dt ks ds=>unfold Rv at r;obtain⟨a,xs,rfl,_⟩:=r;rfl
 | ins C nm ds=>unfold Rv at r;obtain⟨a,dx,xs,rfl,_⟩:=r;rfl
def zM(neg:Bool)(a b:D):Option D:=match b with
 | .non=>ND (.bl (if neg then !a.JX else a.JX))
 | _=>none
theorem Yt{K:aF}:TV K (λx y H Q=>y=.non∧Q (.bl (decide (x=.non))) H) (zM NH):=λx y H a b d Q ra rb q k=>by
 unfold zM at q;split at q
 ·cases q;unfold Rv at rb;refine⟨rb,?_⟩;rw[JZ ra];exact k _ H (aU.refl _) (.jK U (by unfold Rv;rfl))
 ·cases q
theorem Jm{K:aF}:TV K (λx y H Q=>y=.non∧Q (.bl (!decide (x=.non))) H) (zM NG):=λx y H a b d Q ra rb q k=>by
 unfold zM at q;split at q
 ·cases q;unfold Rv at rb;refine⟨rb,?_⟩;rw[JZ ra];exact k _ H (aU.refl _) (.jK U (by unfold Rv;rfl))
 ·cases q
end L2


namespace L2
open PySem PySem.Spec PySem.Calls PyProof.Rows PyProof.V
section
variable{K:aF}{X:Cx}{e stx:AB}{te ts:TE}{f g:FE}{pos p2:Pos}
end
end L2


namespace L2
open PySem PySem.Spec PySem.Calls PyProof.Rows PyProof.V
abbrev FE2:=DE→DE→Option D
def EvZ(K:aF)(t:TE)(f:FE2):Prop:=∀{N:Fp}(σ:St)(H Z:Hp)(eF eZ:DE)(d:D)(Q:VK),Zn K N Z H→yO K H eF σ→yO K Z eZ σ→f eF eZ=ND d →
 (∀v H' Z',aU H H'→aU Z Z'→Zn K N Z' H'→Rv K Z' d v→Q v H')→t σ H Q
def aJw(K:aF)(t:TA)(f:FA2):Prop:=∀{N:Fp}(σ:St)(H Z:Hp)(eF eZ:DE)(ds:List D)(Q:List V→Hp→Prop),Zn K N Z H→yO K H eF σ→yO K Z eZ σ→f eF eZ=ND ds →
 (∀vs H' Z',aU H H'→aU Z Z'→Zn K N Z' H'→eY K Z' ds vs→Q vs H')→t σ H Q
structure XZ(K:aF)(X:Cx)(e:AB)(t:TE)(f:FE2):Prop where
 hk:X.K=K
 pe:PE X e t
 ev:EvZ K t f
structure XZA(K:aF)(X:Cx)(es:List AB)(t:TA)(f:FA2):Prop where
 hk:X.K=K
 pa:PA X es t
 ev:aJw K t f
section
variable{K:aF}{X:Cx}{e a b:AB}{es:List AB}{te ta tb:TE}{f:FE}{g h:FE2}{tA:TA}{fs:FA2}{pos:Pos}{i:Nat}
theorem aDx(h:XR K X e te f):XZ K X e te (λ_ eZ=>f eZ):=⟨h.hk,h.pe,λσ H Z eF eZ d Q z rF rZ q k=>h.ev σ H Z eZ d Q z rZ q k⟩
def faZ(g:FE2)(fs:FA2):FA2:=λeF eZ=>(g eF eZ).bind λd=>(fs eF eZ).map λr=>d::r
def aKm(fs:FA2):FE2:=λeF eZ=>(fs eF eZ).bind λds=>cap ds.length (.lst ds)
def aEE(a b:D):Option D:=match a,b with
 | .lst x,.lst y=>if x.length+y.length≤100000 then ND (.lst (x++y))else none
 | _,_=>none
def KC(g h:FE2):FE2:=λeF eZ=>(g eF eZ).bind λa=>(h eF eZ).bind λb=>aEE a b
theorem aBd(ha:XZ K X a ta g)(hb:XZ K X b tb h):XZ K X (.BinOp a .Add b pos) (CW (bw K) ta tb) (KC g h):=⟨ha.hk,aEa (cg ha.hk) ha.pe hb.pe,λσ H Z eF eZ d Q z rF rZ q k=>by
 obtain⟨d1,q1,q⟩:=aY q;obtain⟨d2,q2,q⟩:=aY q;unfold aEE at q;split at q
 ·rename_i x y;split at q
  ·rename_i hl;cases q;refine ha.ev σ H Z eF eZ _ _ z rF rZ q1 λu H1 Z1 s1 t1 z1 ru=>hb.ev σ H1 Z1 eF eZ _ _ z1 (rF.same s1) (rZ.same t1) q2 λv H2 Z2 s2 t2 z2 rv=>?_;have ru:=t2.rv _ _ ru;unfold Rv at ru rv;obtain⟨p,xs,rfl,r2,r3⟩:=ru;obtain⟨p',xs',rfl,r2',r3'⟩:=rv;refine⟨p,p',xs,xs',U,U,z2.sm.seq r2,z2.sm.seq r2',Uw (by rw[r3.length,r3'.length];exact hl),λl hl=>?_⟩;obtain⟨a1,a2⟩:=TX (o:=.lst (xs++xs')) z2 hl;exact k _ _ _ (s1.trans (s2.trans (dO hl _))) (t1.trans (t2.trans a1)) a2 (by unfold Rv;exact⟨l,_,U,pK.of cJ,a1.TJ _ _ (r3.append r3')⟩)
  ·cases q
 ·cases q⟩
def Jo(js:List Nat)(i:Nat)(g:FE2):GS:=λenv=>match g (rE (zA js env)) (zE (zA js env))with
 | some d=>if i<(zA js env).length then .next ((zA js env).set i (.fro d))else .bad
 | none=>.bad
theorem KD{js:List Nat}{x:Str}{pos':Pos}(h:XZ K X e te g)(hp:PE X e te→PS X (.Assign [.Name x pos'] e pos) (uD te (iR i))):YS K X (.Assign [.Name x pos'] e pos) (uD te (iR i)) (Jo js i g):=⟨hp h.pe,λB E σ H env r p=>by
 have r:=r.zA (js:=js);unfold Jo at p;generalize zA js env=Dz at *;split at p
 ·rename_i d q;split at p
  ·rename_i hi;have rr:=r.r;obtain⟨A,a,b⟩:=r;exact h.ev σ H (out H A) (rE Dz) (zE Dz) d _ (Ph a) rr (aEu a) q λv H' Z' s t z rv=>p _ _ (Mu a b hi s t z rv)
  ·exact p.elim
 ·exact p.elim⟩
end
end L2


namespace L2
open PySem PySem.Spec PySem.Calls PyProof.Rows PyProof.V
inductive Ar where
  | ch (i:Nat) | rd (f:FE) | nw (f:FE)
def chA:List Ar→List Nat
 | []=>[]
 | .ch i::as=>i::chA as
 | .rd _::as=>chA as
 | .nw _::as=>chA as
def iu:List Ar→List Bool
 | []=>[]
 | .ch _::as=>NG::iu as
 | .rd _::as=>NH::iu as
 | .nw _::as=>NH::iu as
def rdA:List Ar→DE→DE→Option (List D)
 | [],_,_=>ND []
 | .ch _::as,eF,eZ=>rdA as eF eZ
 | .rd f::as,eF,eZ=>(f eZ).bind λd=>(rdA as eF eZ).map λr=>d::r
 | .nw f::as,eF,eZ=>(f eF).bind λd=>(rdA as eF eZ).map λr=>d::r
def tK:List Bool→List D→List D→List D
 | true::m,c::cs,rs=>c::tK m cs rs
 | false::m,cs,r::rs=>r::tK m cs rs
 | _,_,_=>[]
def um:List Bool→List V→List V
 | true::m,v::vs=>v::um m vs
 | false::m,_::vs=>um m vs
 | _,_=>[]
def aBe:List Bool→List D→List V→EN
 | true::m,d::ds,v::vs=>.inn v d::aBe m ds vs
 | false::m,d::ds,_::vs=>.fro d::aBe m ds vs
 | _,_,_=>[]
def iw(K:aF)(Z:Hp)(σ:St):List Ar→List D→List V→Prop
 | [],ds,vs=>ds=[]∧vs=[]
 | .ch i::as,ds,vs=>∃v r,vs=v::r∧σ[i]?=ND (ND v)∧iw K Z σ as ds r
 | .rd _::as,ds,vs=>∃d dr v r,ds=d::dr∧vs=v::r∧Rv K Z d v∧iw K Z σ as dr r
 | .nw _::as,ds,vs=>∃d dr v r,ds=d::dr∧vs=v::r∧Rv K Z d v∧iw K Z σ as dr r
def VsA(σ:St):List Nat→List V→Prop
 | [],vs=>vs=[]
 | j::js,vs=>∃v r,vs=v::r∧σ[j]?=ND (ND v)∧VsA σ js r
def takes:List Nat→EN→Option (List D×EN)
 | [],env=>ND ([],env)
 | j::js,env=>(env[j]?.bind SD.hold).bind λdb=>(takes js (env.set j .no)).map λde=>(db.1::de.1,de.2)
def aHZ:List Nat→List D→EN→EN
 | j::js,d::ds,env=>(match env[j]?.bind SD.hold with
  | some db=>(aHZ js ds (env.set j .no)).set j (db.2 d)
  | none=>env)
 | _,_,env=>env
section
variable{K:aF}{X:Cx}{e:AB}{es:List AB}{te:TE}{f:FE}{tA:TA}{as:List Ar}{pos:Pos}{i:Nat}
def aJx(K:aF)(t:TA)(as:List Ar):Prop:=∀(A1:Fp)(σ:St)(H:Hp)(eF eZ:DE)(ds:List D)(cv:List V)(Q:List V→Hp→Prop),(∀x,A1 x→lO H x)→yO K H eF σ→yO K (out H A1) eZ σ→VsA σ (chA as) cv→rdA as eF eZ=ND ds →
 (∀vs H',aU H H'→iw K (out H' A1) σ as ds vs→Q vs H')→t σ H Q
structure XAC(K:aF)(X:Cx)(es:List AB)(t:TA)(as:List Ar):Prop where
 hk:X.K=K
 pa:PA X es t
 ev:aJx K t as
end
section
variable{K:aF}{H H' Z Z' B:Hp}{σ:St}
theorem eU.fp{α β:Type}{R:α→Fp→β→Prop}{ds:List α}{A A':Fp}{ys:List β}(h:eU R ds A ys)(e:Is A A'):eU R ds A' ys:=by have:A=A':=funext λx=>propext (e x);rw[←this];exact h
theorem aH0{A A0 A1:Fp}{e0:EN}(h:eU (fZ K H (out H A)) e0 A0 σ)(h0:Apart A0 A1)(hA:∀x,A1 x→A x)(c:∀x,A1 x→lO H x):yO K (out H A1) (rE e0) σ:=λj d q=>by
 unfold rE at q;rw[B8]at q;cases ej:e0[j]? with
 | none=>rw[ej]at q;cases q
 | some sd=>
  rw[ej]at q;obtain⟨y,Ak,Ck,f1,f2,f3,f4,_⟩:=h.focus ej;have apk:Apart Ak A1:=λx z1 z2=>h0 x ((f3 x).mpr (.inl z1)) z2;cases sd with
  | no=>cases q
  | fro d1=>
   cases q;obtain⟨_,v1,rfl,f5⟩:=f4;exact⟨v1,f1,(bU (aU.refl _) λx q=>.inl (hA x q):aU (out H A) (out H A1)).rv _ _ f5⟩
  | own d1=>
   cases q;obtain⟨v1,rfl,f5⟩:=f4;exact⟨v1,f1,f5.out apk λx q=>(c x q).2⟩
  | inn v1 d1=>cases q;obtain⟨rfl,f5⟩:=f4;exact⟨v1,f1,f5.out apk λx q=>(c x q).2⟩
end
def spG(K:aF)(mask:List Bool)(F:List D→Option (D×List D)):Sp:=λvs H Q _=>∃A ds r ds',ds.length=mask.length∧vs.length=mask.length∧eU (fZ K H (out H A)) (aBe mask ds vs) A (vs.map ND)∧F ds=ND (r,ds')∧∀w H' A' A2,dX K H' ds' A' (um mask vs)→Ow K H' r A2 w→Apart A' A2→aU (out H A) (out H' (fK A' A2))→Q w H'
def aKo(as:List Ar)(F:List D→Option (D×List D)):GM:=λenv=>(takes (chA as) env).bind λce=>(rdA as (rE env) (rE ce.2)).bind λVk=>(F (tK (iu as) ce.1 Vk)).map λrd=>(rd.1,aHZ (chA as) rd.2 env)
section
variable{K:aF}{X:Cx}{e:AB}{es:List AB}{tA:TA}{as:List Ar}{pos pf:Pos}
end
def Vl:List Bool→List V→EN→List D→Prop
 | true::m,v::vs,s::e,ds=>∃d r,s=.inn v d∧ds=d::r∧Vl m vs e r
 | false::m,_::vs,_::e,ds=>Vl m vs e ds
 | [],_,_,ds=>ds=[]
 | _,_,_,_=>False
def Ly(mask:List Bool)(r:D)(ds':List D)(vs:List V)(o:SR):Prop:=∃env',(o=.rete r env'∨(o=.next env'∧r=.non))∧Vl mask vs env' ds'
theorem Bo:∀{m:List Bool} {vs:List V} {e:EN} {a b:List D},Vl m vs e a→Vl m vs e b→a=b
 | true::m,v::vs,s::e,a,b,⟨d,r,h1,h2,h3⟩,⟨d',r',g1,g2,g3⟩=>by rw[h1]at g1;injection g1 with _ g1;rw[h2,g2,Bo h3 g3,g1]
 | false::m,v::vs,s::e,a,b,h,g=>Bo (m:=m) (vs:=vs) (e:=e) h g
 | [],vs,e,a,b,h,g=>by have h:a=[]:=h;have g:b=[]:=g;rw[h,g]
 | true::m,[],e,a,b,h,g=>h.elim
 | false::m,[],e,a,b,h,g=>h.elim
 | true::m,v::vs,[],a,b,h,g=>h.elim
 | false::m,v::vs,[],a,b,h,g=>h.elim
theorem aBf{mask:List Bool}{r r2:D}{a b:List D}{vs:List V}{o:SR}(h1:Ly mask r a vs o)(h2:Ly mask r2 b vs o):r=r2∧a=b:=by
  obtain⟨e1,a1,a2⟩:=h1;obtain⟨e2,b1,b2⟩:=h2;rcases a1 with a1 | ⟨a1,rfl⟩
  · rcases b1 with b1 | ⟨b1,rfl⟩
    · rw[a1]at b1
      injection b1 with c1 c2;subst c2;exact⟨c1,Bo a2 b2⟩
    · rw[a1]at b1;cases b1
  · rcases b1 with b1 | ⟨b1,rfl⟩
    · rw[a1]at b1;cases b1
    · rw[a1]at b1
      injection b1 with c2;subst c2;exact⟨U,Bo a2 b2⟩
abbrev KH(n:Nat)(mask:List Bool)(ds:List D)(vs:List V):EN:=aBe mask ds vs++E4 (n-mask.length) SD.no
open Classical in
noncomputable def Qf(n:Nat)(mask:List Bool)(g:GS):List D→Option (D×List D):=λds=>if h:∃p:D×List D,ds.length=mask.length∧∀vs:List V,vs.length=mask.length→Ly mask p.1 p.2 vs (g (KH n mask ds vs))then ND h.choose else none
theorem Af{n:Nat}{mask:List Bool}{g:GS}{ds ds':List D}{r:D}(hl:ds.length=mask.length)(h:∀vs:List V,vs.length=mask.length→Ly mask r ds' vs (g (KH n mask ds vs))):Qf n mask g ds=ND (r,ds'):=by
 have ex:∃p:D×List D,ds.length=mask.length∧∀vs:List V,vs.length=mask.length→Ly mask p.1 p.2 vs (g (KH n mask ds vs)):=⟨(r,ds'),hl,h⟩
 unfold Qf;rw[dif_pos ex];have hz:(E4 mask.length V.non).length=mask.length:=P9;obtain⟨e1,e2⟩:=aBf (ex.choose_spec.2 _ hz) (h _ hz);exact congrArg ND (j7 e1 e2)
theorem aBg{n:Nat}{mask:List Bool}{g:GS}{ds ds':List D}{r:D}(h:Qf n mask g ds=ND (r,ds'))(vs:List V)(hv:vs.length=mask.length):Ly mask r ds' vs (g (KH n mask ds vs)):=by
 unfold Qf at h;split at h
 ·rename_i ex;have:=ex.choose_spec;rw[F4 h]at this;exact this.2 vs hv
 ·cases h
section
variable{P:AI}{w:AL}{K:aF}{mg:Str→Option A6}{base:AM}
theorem Mx{H Z:Hp}:∀(m:List Bool)(vs:List V)(env:EN)(ds:List D)(A:Fp)(σ:St),eU (fZ K H Z) env A σ→Vl m vs env ds→vs.length=m.length→∃A',(∀x,A' x→A x)∧dX K H ds A' (um m vs)
 | true::m,v::vs,s::e,ds,A,σ,h,⟨d,r,h1,h2,h3⟩,hl=>by obtain⟨y,yt,A1,A2,k1,k2,k3,k4,k5⟩:=h;subst h1 h2;obtain⟨A',g1,g2⟩:=Mx m vs e r A2 yt k5 h3 (p6 hl);refine⟨fK A1 A',λx z=>(k3 x).mpr (z.elim .inl λz=>.inr (g1 x z)),?_⟩;unfold dX;exact⟨v,um m vs,A1,A',U,λx z1 z2=>k2 x z1 (g1 x z2),λx=>Iff.rfl,k4.2,g2⟩
 | false::m,v::vs,s::e,ds,A,σ,h,h3,hl=>by obtain⟨y,yt,A1,A2,k1,k2,k3,k4,k5⟩:=h;obtain⟨A',g1,g2⟩:=Mx m vs e ds A2 yt k5 h3 (p6 hl);exact⟨A',λx z=>(k3 x).mpr (.inr (g1 x z)),g2⟩
 | [],vs,e,ds,A,σ,h,g,hl=>by
  have g:ds=[]:=g;subst g;refine⟨nil,λ_ z=>z.elim,?_⟩;unfold dX;refine⟨λ_ z=>z,?_⟩;cases vs<;>rfl
 | true::m,[],e,ds,A,σ,h,g,hl=>g.elim
 | false::m,[],e,ds,A,σ,h,g,hl=>g.elim
 | true::m,v::vs,[],ds,A,σ,h,g,hl=>g.elim
 | false::m,v::vs,[],ds,A,σ,h,g,hl=>g.elim
theorem iy{H Z:Hp}:∀(n:Nat) {env:EN} {A:Fp} {σ:St},eU (fZ K H Z) env A σ→eU (fZ K H Z) (env++E4 n SD.no) A (σ++E4 n none)
 | 0,env,A,σ,h=>by show eU _ (env++[]) A (σ++[]);rw[F9,F9];exact h
 | n+1,env,A,σ,h=>by have s:=iy n (eU.snoc (d:=SD.no) (y:=none) (A1:=nil) h (λ_ z=>z) λ_ _ z=>z);rw[P8,P8]at s;exact s.fp λx=>⟨λz=>z.elim id False.elim,.inl⟩
theorem aH1{X:Cx}{N:List Str}{mask:List Bool}{g:GS}{body:List AH}{t:TS}{vs:List V}{H:Hp}{Q:VK}{E:XK}(yb:YB K X body t g)(h:spG K mask (Qf N.length mask g) vs H Q E):t {nx:=λ_ H'=>Q .non H',rt:=Q} (start N vs) H:=by
  obtain⟨A,ds,r,ds',hl,hv,hs,hF,kk⟩:=h;obtain⟨env',q1,q2⟩:=aBg hF vs hv;refine yb.ev (out H A) _ _ H (KH N.length mask ds vs) ?_ ?_
  · have s:=iy (N.length-mask.length) hs
    have e:start N vs=vs.map ND++E4 (N.length-mask.length) none:=by unfold start;rw[hv]
    rw[e];exact⟨A,s,aU.refl _⟩
  · rcases q1 with q1 | ⟨q1,rfl⟩
    · rw[q1]
      intro w σ' H' ⟨A2,a2,b2⟩;obtain⟨A3,A4,k1,⟨w',ew,o⟩,k3,k4⟩:=a2.Jj;cases ew;obtain⟨A5,g1,g2⟩:=Mx mask vs env' ds' A3 σ' k1 q2 hv;exact kk w H' A5 A4 g2 o (λx z1 z2=>k3 x (g1 x z1) z2) (b2.trans (bU (aU.refl _) λx z=>.inl ((k4 x).mpr (z.elim (λz=>.inl (g1 x z)) .inr))))
    · rw[q1]
      intro σ' H' ⟨A2,a2,b2⟩;obtain⟨A5,g1,g2⟩:=Mx mask vs env' ds' A2 σ' a2 q2 hv;exact kk .non H' A5 nil g2 (by unfold Ow;exact⟨λ_ z=>z,U⟩) (λx z1 z2=>z2) (b2.trans (bU (aU.refl _) λx z=>.inl (z.elim (g1 x) False.elim)))
theorem Raw.aJy{x:Str}{st:AH}{N ps:List Str}{k:Nat}{g:GS}{mask:List Bool}(R:Raw K mg x st)(S:bB N ps (aM st))(hb:HB x x st ps)(hm:mask.length=ps.length)
  (hbody:∀(f:A7)(cdv:A6)(A:AN)(outer:List Env)(s:A8)(H:Hp)(E:XK),jR k (A.deeper (BS x (aM st) s.heap.objs.size f cdv))→∃t,YB K (Fv CZ P w K mg base N x (aM st) f cdv A outer s H E).ZK (cH st) t g):qL P w K mg base x (k+1) mask.length (spG K mask (Qf N.length mask g)):=by
 rw[hm];refine R.cal S (λvs H Q E h=>by obtain⟨A,ds,r,ds',hl,hv,_⟩:=h;exact hv.trans hm) hb (λf cdv A outer s H vs Q E hr h=>?_);obtain⟨t,yb⟩:=hbody f cdv A outer s H E hr;exact⟨t,yb.ps,aH1 yb h⟩
end
section
variable{K:aF}{X:Cx}{a b:AB}{rest:List AB}{ta tb:TE}{g h:GM}{f:FE}{pos:Pos}
def aKp(g h:GM):GM:=λenv=>(g env).bind λde=>match de.1 with
 | .bl NG=>h de.2
 | .bl NH=>ND (.bl NH,de.2)
 | _=>none
def aIM(f:FE):GS:=λenv=>match f (rE env)with
 | some (.lst _)=>.next env
 | _=>.bad
end
end L2


namespace L2
open PySem PySem.Spec PySem.Calls PyProof.Rows PyProof.V
section
variable{prog:AI}{w:AL}{A:AN}{R:FG→A8→Prop}{I:A7}{fp wr:List A7}{n:Nat}{P:Nat→A6→Prop}{St:Nat→AM→Prop}{kw:List (Str×A6)}
end
section
variable{prog:AI}{w:AL}{A:AN}{E:A6→A8→Prop}{s:A8}
end
section
variable{K:aF}{X:Cx}{e e2:AB}{te t2:TE}{f g:FE}{x:Str}{p pos kp:Pos}
end
end L2


namespace L2
open PySem PySem.Spec PySem.Calls PyProof.Rows PyProof.V
section
variable{X:Cx}
def My:V→List V→Hp→VK→Prop:=λx vs H Q=>∃l xs i y,x=.ref l∧vs=[.int i,y]∧H l=ND (.lst xs)∧0≤i∧i.toNat≤xs.length∧xs.length<sizeLine∧Q .non (upd H l (.lst (xs.take i.toNat++y::xs.drop i.toNat)))
theorem uo:MtM X "list.insert" My:=by
 intro pins s σ H x vs v us Q I rx rv h;obtain⟨l,xs,i,y,rfl,rfl,hH,h0,h1,hz,q⟩:=h;cases rx;obtain⟨u1,u2,rfl,ru1,ru2⟩:=rv.two;obtain⟨t,rfl⟩:=ru1;obtain⟨z,its,n,r,hl,e⟩:=I.aCQ hH;have hsl:sizeLine<2 ^ 62:=by decide
 refine Ee F.slot_list_insert ⟨_,e,U⟩ F.entry_list_insert (F.args_list_insert_3 _ _ _) (He l its.toArray n i t u2 (by rw[JI (by omega) (by omega)];decide) (by rw[C5];omega)) ⟨e,?_⟩;refine⟨.non,_,I.aCP (its':=its.take i.toNat++u2::its.drop i.toNat) hH e ?_ ((r.take _).append (.cons ru2 (r.drop _))) ?_,U,q⟩
 ·show (its.toArray.extract 0 (if i<0 then(i+(its.toArray.size:Int)).toNat else min i.toNat its.toArray.size)).push u2++its.toArray.extract (if i<0 then(i+(its.toArray.size:Int)).toNat else min i.toNat its.toArray.size)=_;rw[if_neg (by omega),C5,show min i.toNat its.length=i.toNat by omega];apply Array.ext';simp;exact S0 (by rw[O8];omega)
 ·rw[C7,E9,J0,O8];omega
theorem Yu{i:Int}{t:Tok}:∀{ns:List Int} {us:List A6},Vals (ns.map V.int) us→∀y∈us,MY y (.int i t) (Xn (.int i) y)
 | [],_,.nil=>λy hy=>by cases hy
 | n::ns,u::us,.cons r rs=>λy hy=>by
  rcases C9.mp hy with rfl | hy
  ·obtain⟨t',rfl⟩:=r;exact Lm n i t' t
  ·exact Yu rs y hy
theorem Eg{i:Int}:∀{ns:List Int} {m:Nat} (h:m<ns.length),m<ns.idxOf i→ns[m]≠i
 | [],m,h,_=>absurd h (L7 _)
 | a::ns,0,h,hl=>λe=>by have e:a=i:=e;rw[Y3,e,beq_self_eq_true]at hl;exact absurd hl (K7 _)
 | a::ns,m+1,h,hl=>by
  rw[Y3]at hl;cases q:a==i with
  | true=>rw[q]at hl;exact absurd hl (L7 _)
  | false=>rw[q]at hl;have hl:m+1<ns.idxOf i+1:=hl;exact Eg (ns:=ns) (m:=m) (by simpa using h) (by omega)
theorem aBh{α β:Type}(φ:α→β):∀(l:List α)(k:Nat),(l.map φ).eraseIdx k=(l.eraseIdx k).map φ
 | [],_=>rfl
 | _::_,0=>rfl
 | a::l,k+1=>congrArg (φ a::·) (aBh φ l k)
theorem int_at{ns:List Int}{us:List A6}(h:Vals (ns.map V.int) us)(i:Int){m:Nat}(hm:m<us.toArray.size):∃hn:m<ns.length,Xn (.int i) us.toArray[m]=(ns[m]==i):=by
 have hl:=h.length;rw[B7]at hl;have hm':m<us.length:=by simpa using hm
 obtain⟨u,eu,ru⟩:=h.get (i:=m) (x:=.int (ns[m]'(by omega))) (by rw[B8,B6 (by omega)];rfl);obtain⟨t,rfl⟩:=ru;have e:us.toArray[m]=.int (ns[m]'(by omega)) t:=by have:=B6 hm';rw[eu]at this;simpa using (F4 this).symm
 refine⟨by omega,?_⟩;rw[e];rfl
def Mz:V→List V→Hp→VK→Prop:=λx vs H Q=>∃(l:A7)(ns:List Int)(i:Int),x=.ref l∧vs=[.int i]∧H l=ND (.lst (ns.map V.int))∧i∈ns∧Q .non (upd H l (.lst ((ns.eraseIdx (ns.idxOf i)).map V.int)))
theorem Jp:MtM X "list.remove" Mz:=by
 intro pins s σ H x vs v us Q I rx rv h;obtain⟨l,ns,i,rfl,rfl,hH,hi,q⟩:=h;cases rx;obtain⟨u,rfl,ru⟩:=rv.one;obtain⟨t,rfl⟩:=ru;obtain⟨z,its,n,r,hl,e⟩:=I.aCQ hH;rw[B7]at hl;have hj:ns.idxOf i<ns.length:=V2 hi;have hz:its.length≤sizeLine:=by rw[B7]at z;omega
 refine Ee F.slot_list_remove ⟨_,e,U⟩ F.entry_list_remove (F.args_list_remove_2 _ _) (Lo l its.toArray n (.int i t) (Xn (.int i)) (λy hy=>Yu r y (by simpa using hy)) (ns.idxOf i) (by rw[C5];omega) ?_ ?_ (by rw[C5];exact hz)) ⟨e,?_⟩
 ·obtain⟨h1,h2⟩:=int_at r i (m:=ns.idxOf i) (by rw[C5];omega);rw[h2,f6];exact beq_self_eq_true i
 ·intro m hm hlt;obtain⟨h1,h2⟩:=int_at r i hm;rw[h2];exact beq_eq_false_iff_ne.mpr (Eg h1 hlt)
 ·refine⟨.non,_,I.aCP (its':=its.eraseIdx (ns.idxOf i)) hH e ?_ ?_ ?_,U,q⟩
  ·rw[T3]
  ·have:=r.eraseIdx (ns.idxOf i);rw[aBh]at this;exact this
  ·rw[B7];have:=Ir ns (ns.idxOf i);omega
def WK(K:aF):V→List V→Hp→VK→Prop:=λx vs H Q=>∃(l:A7)(ns:List Int)(i:Int),x=.ref l∧vs=[.int i]∧pK K H l (ns.map V.int)∧i∈ns∧Q (.int (ns.idxOf i)) H
theorem aBi:MtM X "list.index" (WK X.K):=by
 intro pins s σ H x vs v us Q I rx rv h;obtain⟨l,ns,i,rfl,rfl,hq,hi,q⟩:=h;cases rx;obtain⟨u,rfl,ru⟩:=rv.one;obtain⟨t,rfl⟩:=ru;obtain⟨its,r,pl,z⟩:=I.list hq;have hl:=r.length;rw[B7]at hl z;have hj:ns.idxOf i<ns.length:=V2 hi;have hsl:sizeLine<2 ^ 62:=by decide
 obtain⟨⟨cls,dd,data,sl⟩,ho,hc,n,hd⟩:=pl.isList;dsimp only at hc hd;subst hc hd;refine Ee F.slot_list_index ⟨_,ho,U⟩ F.entry_list_index (F.args_list_index_2 _ _) (SeqAt.list_indexAt l its.toArray n dd sl (.int i t) (Xn (.int i)) (ns.idxOf i) (by rw[C5];omega) (by omega) ?_ ?_) ⟨ho,λy hy=>MY.at (Yu r y (by simpa using hy)) _ _,?_⟩
 ·obtain⟨h1,h2⟩:=int_at r i (m:=ns.idxOf i) (by rw[C5];omega);rw[h2,f6];exact beq_self_eq_true i
 ·intro m hm hlt;obtain⟨h1,h2⟩:=int_at r i hm;rw[h2];exact beq_eq_false_iff_ne.mpr (Eg h1 hlt)
 ·exact⟨.int (ns.idxOf i),H,I.tok _,⟨_,U⟩,q⟩
end
section
variable{K:aF}{X:Cx}{a b e:AB}{ta tb te:TE}{f g:FE}{i:Nat}{π:FP}{pos apos cpos:Pos}{m:Str}
def uq(i:Nat)(π:FP)(g f:FE):GS:=λenv=>match env[i]?,π (rE env),g (rE env),f (rE env)with
 | some (.own d0),ND p,ND (.int k),ND (.int y)=>(match eO p d0 with
  | some (.lst ds)=>(match intsOf ds with
   | some ns=>if 0≤k∧k.toNat≤ns.length∧ns.length<1000 then .next (env.set i (.own (dR p d0 (.lst ((ns.take k.toNat++y::ns.drop k.toNat).map D.int)))))else .bad
   | none=>.bad)
  | _=>.bad)
 | _,_,_,_=>.bad
theorem aGc(h:EvP K ta i π)(hx:Iz K tb g)(he:Iz K te f):qm K (nD (Nu K "list" My ta (fY tb (fY te nG)))) (uq i π g f):=λB E σ H env r p=>by
 unfold uq at p;split at p
 ·rename_i d0 pp k y q1 q2 q3 q3';split at p
  ·rename_i ds q4;split at p
   ·rename_i ns q5;split at p
    ·rename_i hc;obtain⟨c0,c1,c2⟩:=hc;obtain⟨v0,a,xs,Bs,k1,k2,k3,k4,k5,k6⟩:=r.IK q1 q4;have ed:=uK q5;subst ed;have ex:=kY.mp (dX.rv _ _ _ k5);subst ex;refine h σ H (rE env) v0 pp _ _ r.r k1 q2 k2 λH1 s1=>⟨.inl ⟨U,_,pK.of (s1 _ _ k3)⟩,?_⟩
     refine hx σ H1 H1 (rE env) _ _ (Zn.self K H1) (r.r.same s1) q3 λu H2 Z2 s2 t2 z2 ru=>he σ H2 H2 (rE env) _ _ (Zn.self K H2) (r.r.same (s1.trans s2)) q3' λw H3 Z3 s3 t3 z3 Sv=>?_;unfold Rv at ru Sv;subst ru Sv;have Pb:=s1.trans (s2.trans s3);refine⟨a,_,k,.int y,U,U,Pb _ _ k3,c0,by rw[B7];exact c1,Ot (by rw[B7];omega),p _ ?_⟩;have e:(ns.map V.int).take k.toNat++V.int y::(ns.map V.int).drop k.toNat=(ns.take k.toNat++y::ns.drop k.toNat).map V.int:=by rw[G0,D3,S6,S7]
     rw[e];exact k6 H3 _ _ nil Pb (Fz _ _ (cV _) (kY.mpr U)) λb z=>z.elim
    ·exact p.elim
   ·exact p.elim
  ·exact p.elim
 ·exact p.elim
def KJ(i:Nat)(π:FP)(f:FE):GS:=λenv=>match env[i]?,π (rE env),f (rE env)with
 | some (.own d0),ND p,ND (.int y)=>(match eO p d0 with
  | some (.lst ds)=>(match intsOf ds with
   | some ns=>if y∈ns then .next (env.set i (.own (dR p d0 (.lst ((ns.eraseIdx (ns.idxOf y)).map D.int)))))else .bad
   | none=>.bad)
  | _=>.bad)
 | _,_,_=>.bad
theorem aGd(h:EvP K ta i π)(he:Iz K te f):qm K (nD (Nu K "list" Mz ta (fY te nG))) (KJ i π f):=λB E σ H env r p=>by
 unfold KJ at p;split at p
 ·rename_i d0 pp y q1 q2 q3;split at p
  ·rename_i ds q4;split at p
   ·rename_i ns q5;split at p
    ·rename_i hc;obtain⟨v0,a,xs,Bs,k1,k2,k3,k4,k5,k6⟩:=r.IK q1 q4;have ed:=uK q5;subst ed;have ex:=kY.mp (dX.rv _ _ _ k5);subst ex;refine h σ H (rE env) v0 pp _ _ r.r k1 q2 k2 λH1 s1=>⟨.inl ⟨U,_,pK.of (s1 _ _ k3)⟩,?_⟩
     refine he σ H1 H1 (rE env) _ _ (Zn.self K H1) (r.r.same s1) q3 λw H2 Z2 s2 t2 z2 Sv=>?_;unfold Rv at Sv;subst Sv;have s12:=s1.trans s2;refine⟨a,ns,y,U,U,s12 _ _ k3,hc,p _ ?_⟩;exact k6 H2 _ _ nil s12 (Fz _ _ (cV _) (kY.mpr U)) λb z=>z.elim
    ·exact p.elim
   ·exact p.elim
  ·exact p.elim
 ·exact p.elim
theorem aDy(h:XP K X a ta i π)(hx:XR K X b tb g)(he:XR K X e te f)(hp:PE X a ta→PE X b tb→PE X e te→PS X (.Expr (.Call (.Attribute a m apos) [b,e] [] cpos) pos) (nD (Nu K "list" My ta (fY tb (fY te nG))))):YS K X (.Expr (.Call (.Attribute a m apos) [b,e] [] cpos) pos) (nD (Nu K "list" My ta (fY tb (fY te nG)))) (jL i (uq i π g f)):=Jk i (hp h.pe hx.pe he.pe) (aGc h.ev hx.ev he.ev)
theorem Yv(h:XP K X a ta i π)(he:XR K X e te f)(hp:PE X a ta→PE X e te→PS X (.Expr (.Call (.Attribute a m apos) [e] [] cpos) pos) (nD (Nu K "list" Mz ta (fY te nG)))):YS K X (.Expr (.Call (.Attribute a m apos) [e] [] cpos) pos) (nD (Nu K "list" Mz ta (fY te nG))) (jL i (KJ i π f)):=Jk i (hp h.pe he.pe) (aGd h.ev he.ev)
def Qg(a b:D):Option D:=match a,b with
 | .lst ds,.int i=>(intsOf ds).bind λns=>if i∈ns then ND (.int (ns.idxOf i))else none
 | _,_=>none
theorem aBj(ha:XR K X a ta f)(he:XR K X e te g)(hp:PE X a ta→PE X e te→PE X (.Call (.Attribute a m apos) [e] [] pos) (Nu X.K "list" (WK X.K) ta (fY te nG))):XN K X (.Call (.Attribute a m apos) [e] [] pos) (Nu K "list" (WK K) ta (fY te nG)) (f2 Qg f g):=⟨ha.hk,by have:=ha.hk;subst this;exact hp ha.pe he.pe,λσ H e d Q re q k=>by
 obtain⟨d1,q1,q⟩:=aY q;obtain⟨d2,q2,q⟩:=aY q;unfold Qg at q;split at q
 ·obtain⟨ns,q3,q⟩:=aY q;split at q
  ·rename_i hi;cases q;refine ha.ev σ H H e _ _ (Zn.self K H) re q1 λv H1 Z1 s1 t1 z1 rv=>?_;have rv:=z1.sm.rv _ _ rv;obtain⟨p,rfl,r2⟩:=vU q3 rv;refine⟨.inl ⟨U,_,r2⟩,he.ev σ H1 H1 e _ _ (Zn.self K H1) (re.same s1) q2 λu H2 Z2 s2 t2 z2 ru=>?_⟩;unfold Rv at ru;subst ru;obtain⟨p',e',r3⟩:=vU q3 (s2.rv _ _ rv);cases e';exact⟨p,ns,_,U,U,r3,hi,k _ H2 (s1.trans s2) (.jK U (by unfold Rv;rfl))⟩
  ·cases q
 ·cases q⟩
def Qh(a b:D):Option D:=match a with
 | .dk ks ds=>(Tf b).bind λk=>match posK ks k with
  | none=>ND .non
  | some j=>(ds[j]?).bind λr=>if r.jK=NG then ND r else none
 | _=>none
theorem Qi(hu:X.A.units+1<As)(ha:XR K X a ta f)(he:XR K X e te g)(mm:M1 X a "get" apos e cpos):XN K X (.Call (.Attribute a "get" apos) [e] [] cpos) (aAm ta te) (f2 Qh f g):=⟨ha.hk,aAn hu ha.pe he.pe mm,λσ H e d Q re q k=>by
 obtain⟨d1,q1,q⟩:=aY q;obtain⟨d2,q2,q⟩:=aY q;unfold Qh at q;split at q
 ·rename_i ks ds _;obtain⟨kk,h1,q⟩:=aY q;refine ha.ev σ H H e _ _ (Zn.self K H) re q1 λx H1 Z1 s1 t1 z1 rx=>?_;have rx:=z1.sm.rv _ _ rx;have rx':=rx;unfold Rv at rx;obtain⟨p,xs,r1,r2,r3,r4⟩:=rx;refine⟨p,r1,.inl ⟨_,r2⟩,he.ev σ H1 H1 e _ _ (Zn.self K H1) (re.same s1) q2 λu H2 Z2 s2 t2 z2 ru=>?_⟩;have ru:=z2.sm.rv _ _ ru;have rx2:=s2.rv _ _ rx';unfold Rv at rx2;obtain⟨p',xs',e1,r2',r3',r4'⟩:=rx2;rw[r1]at e1;cases e1;refine⟨wQ (ks.zip xs') kk,.inl ⟨_,kk,r2',Ms h1 ru,U⟩,?_⟩;rw[sY r3'];split at q
  ·rename_i hn;cases q;rw[hn];exact k _ H2 (s1.trans s2) (.jK U (by unfold Rv;rfl))
  ·rename_i j hj;obtain⟨r,q4,q⟩:=aY q;split at q
   ·rename_i im;cases q;obtain⟨v,e1,e2⟩:=r4'.get q4;rw[hj,C4,e1];exact k v H2 (s1.trans s2) (.jK im e2)
   ·cases q
 ·cases q⟩
def aDz:List D→Option D
 | [.int a]=>ND (.int (if a<0 then -a else a))
 | _=>none
def aH2:List V→Hp→VK→Prop:=λxs H Q=>∃a:Int,xs=[.int a]∧Q (.int (if a<0 then -a else a)) H
theorem aGe:yS K aH2 aDz:=λvs H ds d Q rs q k=>by
 unfold aDz at q;split at q
 ·cases q;obtain⟨v,rfl,r⟩:=sZ rs;unfold Rv at r;subst r;exact⟨_,U,k _ H (aU.refl _) (.jK U (by unfold Rv;rfl))⟩
 ·cases q
theorem aGf:nF X (.builtin "abs") aH2:=by intro pins s σ H xs us Q I r h;obtain⟨a,rfl,q⟩:=h;obtain⟨u,rfl,rx⟩:=vals1 r;obtain⟨t,rfl⟩:=rx;exact call_abs_int λu tk=>⟨.int _,H,I.tok _,⟨u,U⟩,q⟩
end
end L2


namespace L2
open PySem PySem.Spec PySem.Calls PyProof.Rows PyProof.V
def aGg(ks:List Key)(vs:List V):List (V×V):=(ks.zip vs).map λkv=>(kV kv.1,kv.2)
def aJz(K:aF)(t:List (TE×TE))(ks:List Key)(is:List Nat)(fs:FA):Prop:=∀(σ:St)(H:Hp)(e:DE)(ds:List D)(xs:List V)(Q:List (V×V)→Hp→Prop),yO K H e σ→fs e=ND ds→xs.length=is.length →
 (∀(k i:Nat),is[k]?=ND i→∃x,xs[k]?=ND x∧σ[i]?=ND (ND x))→(∀vs H',aU H H'→Te K H H' ds vs→Q (aGg ks (xs++vs)) H')→RZ t σ H Q
structure XDm(K:aF)(X:Cx)(p:Pos)(keys:List (Option AB))(vals:List AB)(t:List (TE×TE))(ks:List Key)(is:List Nat)(fs:FA):Prop where
 hk:X.K=K
 pps:PPs X p keys vals t
 ev:aJz K t ks is fs
section
variable{K:aF}{X:Cx}{st:AH}{e:AB}{vals:List AB}{keys:List (Option AB)}{te:TE}{f:FE}{fs:FA}{pos p p1:Pos}{i j:Nat}{t:List (TE×TE)}{ks:List Key}{is:List Nat}{x:Str}
def aKr(ks:List Key)(is:List Nat)(fs:FA):GS:=λenv=>match fs (rE env),aAT env is with
 | some ds,ND os=>if decide is.Nodup=NG∧decide ks.Nodup=NG∧ks.length=os.length+ds.length∧ks.length≤15 then .ret (.dk ks (os++ds))else .bad
 | _,_=>.bad
end
section
variable{X:Cx}{K:aF}{x y:Str}{p p2 pos pos2:Pos}{a b:AB}{t:TA}{fs:FA}
theorem KN(lo:Int):∀(m:Nat)(us:List A6)(s:Nat),us.length=m→(∀(j:Nat)(w:A6),us[j]?=ND w→∃t,w=.int (lo+((s+j:Nat):Int)) t)→Vals ((List.range' s m).map λk=>V.int (lo+((k:Nat):Int))) us
 | 0,us,s,hl,_=>by have:us=[]:=L9 hl;subst this;exact .nil
 | m+1,us,s,hl,hw=>by
  cases us with
  | nil=>cases hl
  | cons w us=>rw[List.range'_succ,D3];obtain⟨t0,e0⟩:=hw 0 w U;refine .cons ⟨t0,by rw[e0];rfl⟩ (KN lo m us (s+1) (by simpa using hl) λj w' hj=>?_);obtain⟨t1,e1⟩:=hw (j+1) w' (by simpa using hj);exact⟨t1,by rw[e1,show s+(j+1)=s+1+j by omega]⟩
def Yw:List V→Hp→VK→Prop:=λvs H Q=>∃lo hi:Int,vs=[.int lo,.int hi]∧0≤lo∧lo≤1000∧0≤hi∧hi≤1000∧∀l,H l=none→Q (.ref l) (upd H l (.lst ((D2 (hi-lo).toNat).map λk=>V.int (lo+((k:Nat):Int)))))
theorem aBk(hc:X.calm=NG)(pins:List (A7×Obj))(s:A8)(σ:St)(H:Hp)(vs:List V)(us:List A6)(Q:VK)(I:Inv X pins σ H s)(rv:Vals vs us)(h:Yw vs H Q) :
  AF (AG X.prog X.w) X.A (call (.type "range") us) (λu' s'=>AF (AG X.prog X.w) X.A (call (.type "list") [u']) (EP X pins σ Q) X.xe s') X.xe s:=by
 obtain⟨lo,hi,rfl,h0,h1,h2,h3,q⟩:=h;cases rv with
 | cons r rr=>
  cases rr with
  | cons r' rr=>
   cases rr;obtain⟨t,rfl⟩:=r;obtain⟨t',rfl⟩:=r';refine Kn ?_;refine call_list_range (n:=(hi-lo).toNat) (I.ok.hd hc) (LU _ _ _ _ _ _ _) (small_one (by omega) (by omega) (by omega) (by omega)) (by rw[KL];split<;>omega) (by omega) λh' tk acc c kp g it=>?_;have I1:Inv X pins σ H {s with heap:=s.heap.push {cls:=.type "range", data:=.fields #[.int lo t,.int hi t',.int 1 s.toks]},toks:=s.toks+1}:=I.kept (t':=s.toks+1) λb o e=>AA _ e;generalize hg':s.heap.push {cls:=.type "range", data:=.fields #[.int lo t,.int hi t',.int 1 s.toks]}=hp at *;have hs:H hp.objs.size=none:=I1.hok.fresh (C6 _);have rr:Vals ((D2 (hi-lo).toNat).map λk=>V.int (lo+((k:Nat):Int))) acc.toList:=by rw[List.range_eq_range'];refine KN lo _ acc.toList 0 (by rw[K3];exact it.1) λj w hj=>?_;obtain⟨t1,e1⟩:=it.2 j w (by rw[←L8];exact hj);exact⟨t1,by rw[e1,show lo+(j:Int)*1=lo+((0+j:Nat):Int) by omega]⟩
   exact⟨.ref _,_,I1.laid (t':=tk) (a:=hp.objs.size) (o:=.lst ((D2 (hi-lo).toNat).map λk=>V.int (lo+((k:Nat):Int)))) kp (C6 _) ⟨by rw[B7,D8];exact O5 (vL (by omega)),acc.toList,c,rr,by simpa[HP]using g⟩,U,q _ hs⟩
theorem ur(hc:X.calm=NG)(ha:PA X [a,b] t)(hg:Gl X x)(hm:X.mg x=none)(hv:AU x=ND (.type "list")) (hg2:Gl X y) (hm2:X.mg y=none) (hv2:AU y=ND (.type "range")) (hn:x ≠ "__name__" := by decide) (hdb:(x==("__debug__" : Str))=NH:=by decide) (hn2:y ≠ "__name__" := by decide) (Yo:(y==("__debug__" : Str))=NH:=by decide)
  (he:AD [a,b] X.env=[(NH,AO a X.env),(NH,AO b X.env)]:=by rfl) (he1:AD [b] X.env=[(NH,AO b X.env)]:=by rfl) (he2:AD [.Call (.Name y p2) [a,b] [] pos2] X.env=[(NH,AO (.Call (.Name y p2) [a,b] [] pos2) X.env)]:=by rfl) :
  PE X (.Call (.Name x p) [.Call (.Name y p2) [a,b] [] pos2] [] pos) (tCB Yw t):=by
 intro pins s σ H Q I h;refine BC (wN I hg hm hv ?_ hn hdb);refine K8 ?_ he2 U;rw[he2];refine CO (BC (wN I hg2 hm2 hv2 ?_ hn2 Yo));exact K8 (jA (ha pos2 pins s σ H _ I h) λus s1 ⟨vs,H1,I1,r1,q1⟩=>jA (aBk hc pins s1 σ H1 vs us Q I1 r1 q1) λu' s' z=>Cb z) (by rw[he,he1]) (by rw[he1];rfl)
def rR:List D→Option D
 | [.int lo,.int hi]=>if 0≤lo∧lo≤1000∧0≤hi∧hi≤1000 then ND (.lst ((D2 (hi-lo).toNat).map λk=>D.int (lo+((k:Nat):Int))))else none
 | _=>none
theorem Vm(h:XA K X [a,b] t fs)(hg:Gl X x)(hm:X.mg x=none)(hv:AU x=ND (.type "list")) (hg2:Gl X y) (hm2:X.mg y=none) (hv2:AU y=ND (.type "range")) (hc:X.calm=NG:=by rfl) (hn:x ≠ "__name__" := by decide) (hdb:(x==("__debug__" : Str))=NH:=by decide) (hn2:y ≠ "__name__" := by decide) (Yo:(y==("__debug__" : Str))=NH:=by decide)
  (he:AD [a,b] X.env=[(NH,AO a X.env),(NH,AO b X.env)]:=by rfl) (he1:AD [b] X.env=[(NH,AO b X.env)]:=by rfl) (he2:AD [.Call (.Name y p2) [a,b] [] pos2] X.env=[(NH,AO (.Call (.Name y p2) [a,b] [] pos2) X.env)]:=by rfl) :
  XN K X (.Call (.Name x p) [.Call (.Name y p2) [a,b] [] pos2] [] pos) (tCB Yw t) (fL rR fs):=⟨h.hk,ur hc h.pa hg hm hv hg2 hm2 hv2 hn hdb hn2 Yo he he1 he2,λσ H e d Q re q k=>by
 obtain⟨ds,q1,q2⟩:=aY q;unfold rR at q2;split at q2
 ·rename_i lo hi;split at q2
  ·rename_i hl;cases q2;refine h.ev σ H H e _ _ (Zn.self K H) re q1 λvs H1 Z1 s1 t1 z1 rvs=>?_;unfold eY at rvs;obtain⟨v1,r1,rfl,e1,rvs⟩:=rvs;unfold eY at rvs;obtain⟨v2,r2,rfl,e2,rvs⟩:=rvs;unfold eY at rvs;subst rvs;unfold Rv at e1 e2;subst e1 e2;refine⟨lo,hi,U,hl.1,hl.2.1,hl.2.2.1,hl.2.2.2,λl hl=>k _ _ (s1.trans (dO hl _)) ((uH (aU.refl _) (.gY ?_ ?_) hl).back s1)⟩
   ·have:=cV ((D2 (hi-lo).toNat).map λk=>lo+((k:Nat):Int));rw[K5]at this;exact this
   ·have:=kY (K:=K) (H:=H1) (ns:=(D2 (hi-lo).toNat).map λk=>lo+((k:Nat):Int)) |>.mpr U;rw[K5]at this;rw[show (λk:Nat=>V.int (lo+(k:Int)))=V.int∘λk:Nat=>lo+(k:Int)from rfl,←K5];exact this
  ·cases q2
 ·cases q2⟩
end
end L2


namespace L2
open PySem PySem.Spec PySem.Calls PyProof.Rows PyProof.V
section
variable{K:aF}{X:Cx}{a e:AB}{ta te:TE}{f:FE}{π:FP}{i:Nat}{m:Str}{apos cpos pos:Pos}
def aKs(i:Nat)(π:FP)(f:FE):GS:=λenv=>match env[i]?,π (rE env),f (rE env)with
 | some (.own d0),ND p,ND (.int k)=>(match eO p d0 with
  | some (.lst ds)=>(match intsOf ds with
   | some ns=>if 0≤k∧k.toNat<ns.length∧ns.length<1000 then .next (env.set i (.own (dR p d0 (.lst ((ns.eraseIdx k.toNat).map D.int)))))else .bad
   | none=>.bad)
  | _=>.bad)
 | _,_,_=>.bad
end
end L2


namespace L2
open PySem PySem.Spec PySem.Calls PyProof.Rows PyProof.V
section
variable{K:aF}{X:Cx}{a b e:AB}{es:List AB}{ta tb te t:TE}{f g:FE}{tA:TA}{fs:FA}{pos apos cpos p2:Pos}{m:Str}
structure aKt(mg:Str→Option A6)(x:Str)(i:Str):Prop where
 ex:∃t,mg x=ND (.str i t)
def aEF(i j:Int):Prop:=0<j∧j.natAbs.log2<9000
instance:∀i j,Decidable (aEF i j):=λi j=>by unfold aEF;exact inferInstance
end
section
variable{P:AI}{w:AL}{K:aF}{tg:AB}
end
section
variable{K:aF}{X:Cx}{tg e l:AB}{t tl:TE}{f:FE}
end
end L2


namespace L2
open PySem PySem.Spec PySem.Calls PyProof.Rows PyProof.V
section
variable{K:aF}{X:Cx}{a b c e:AB}{ta tb tc te t:TE}{f g fa fb fc:FE}{pos apos cpos:Pos}{m:Str}
end
end L2


namespace L2
open PySem PySem.Spec PySem.Calls PyProof.Rows PyProof.V
section
variable{K:aF}{B H H':Hp}{env:EN}{σ:St}{i j:Nat}{v:V}{d:D}
theorem Rel.aGh(h:Rel K B (env++[.own d]) (σ++[ND v]) H):∃H0,Rel K B env σ H0∧aU H0 H∧Mm K H0 H d v:=by
 obtain⟨A,a,b⟩:=h;obtain⟨A0,A1,k1,⟨v',e,o⟩,k3,k4⟩:=a.Jj;cases e;have cl:=Ow.cells _ _ _ o;have tk:vP K H (out H A1):=λp xs q=>by
  have np:(∃u,H p=ND (.tup xs)∨H p=ND (.zA u (.tup xs)))→¬A1 p:=λz z2=>by
   obtain⟨u,z⟩:=z;rcases z with z | z
   ·exact(cl p z2).2.1 _ z
   ·exact(cl p z2).2.2 _ _ z
  rcases q with (q | ⟨u,q⟩) | q
  ·exact .inl (.inl (by rw[Xy (np ⟨default,.inl q⟩)];exact q))
  ·exact .inl (.inr ⟨u,by rw[Xy (np ⟨u,.inr q⟩)];exact q⟩)
  ·exact .inr q
 have g:aU (out H A) (out (out H A1) A0):=λx u ex=>by obtain⟨e1,e2⟩:=bA.mp ex;exact bA.mpr ⟨λz=>e1 ((k4 x).mpr (.inl z)),bA.mpr ⟨λz=>e1 ((k4 x).mpr (.inr z)),e2⟩⟩
 refine⟨out H A1,⟨A0,k1.mono λs D z hb qq=>?_,b.trans g⟩,kW _ _,A1,o,λx z=>?_⟩
 ·have fr:∀x,D x→out H A1 x=H x:=λx zx=>Xy λz=>k3 x (hb x zx) z;cases s with
  | no=>exact qq
  | fro d=>obtain⟨q1,v,q2,q3⟩:=qq;exact⟨q1,v,q2,g.rv _ _ q3⟩
  | inn v d=>exact⟨qq.1,Ow.frame tk _ _ _ qq.2 fr⟩
  | own d=>obtain⟨v,q1,q2⟩:=qq;exact⟨v,q1,Ow.frame tk _ _ _ q2 fr⟩
 ·unfold out;rw[if_pos z]
end
end L2


namespace L2
open PySem PySem.Spec PySem.Calls PyProof.Rows PyProof.V
abbrev aJA(h:AM)(l:List Env):AM:=k9 h (frs l)
structure Fl(l:List Env)(s1:A8)(e:A7)(cls:A6)(s':A8):Prop where
 fly:∃a0,Heap.FlyingW (aJA s1.heap l) l e cls a0 s'.heap
 up:s1.heap.UpToSlots s'.heap
 os:s'.os=s1.os
 bare:DF s'.gens
def CX1(P:AI)(w:AL):mj:=λouter H s E ev s'=>∃e cls H' s1,ev=.ref e∧s1.os=s.os∧DF s1.gens∧Un (frs outer) [] H H' s.heap s1.heap∧Df P w H' s1.heap∧Fl outer s1 e cls s'∧E cls none H'
section
variable{P:AI}{w:AL}{l:List Env}{s1 s':A8}{e:A7}{cls:A6}{H:Hp}{base:AM}
end
section
variable{X:Cx}{pins:List (A7×Obj)}{σ:St}{H:Hp}{s s1 s':A8}{e:A7}{cls ev:A6}{E:XK}
end
section
variable{P:AI}{w:AL}{env:Env}{outer:List Env}{L e:A7}{cls a0:A6}{s0 s1:A8}{H0 H:Hp}{E:XK}{base h':AM}{s2:A8}
end
section
variable{P:AI}{w:AL}{K:aF}{mg:Str→Option A6}{base:AM}{N:List Str}{qual:Str}{scope:BF}{f:A7}{cd:A6}{A:AN}{outer:List Env}{s0:A8}{H0:Hp}{E:XK}
end
end L2


namespace L2
open PySem PySem.Spec PySem.Calls PyProof.Rows PyProof.V
abbrev GZ:=EN→Option Nat
def DZ(K:aF)(κ:Nat→A7)(E:XK)(t:TS)(z:GZ):Prop:=∀(B:Hp)(D:Ends)(σ:St)(H:Hp)(env:EN)(i:Nat),Rel K B env σ H→z env=ND i→(∀H',aU B H'→E (.ref (κ i)) none H')→t D σ H
structure YZ(K:aF)(κ:Nat→A7)(X:Cx)(E:XK)(st:AH)(t:TS)(z:GZ):Prop where
 ps:PS X st t
 ev:DZ K κ E t z
structure YZB(K:aF)(κ:Nat→A7)(X:Cx)(E:XK)(st:List AH)(t:TS)(z:GZ):Prop where
 ps:DY X st t
 ev:DZ K κ E t z
structure aLp(P:AI)(w:AL)(K:aF)(mg:Str→Option A6)(base:AM)(x:Str)(k:Nat)(n:Nat)(sp:Sp):Prop where
 ex:∃f fd ps,ps.length=n∧zF P w K mg base (CX1 P w) k f fd ps sp∧Binds K fd ps []∧J9 K (.ref f)=NG∧mg x=ND (.ref f)
structure aKu(P:AI)(w:AL)(K:aF)(mg:Str→Option A6)(base:AM)(C:A7)(m:Str)(k n:Nat)(df:Bool)(sp:Sp):Prop where
 ex:∃f fd ps,ps.length=n∧zF P w K mg base (CX1 P w) k f fd ps sp∧Binds K fd ps []∧(df=NG→Binds K fd ps [BA])∧Meth K C m f
section
variable{K:aF}{κ:Nat→A7}{X:Cx}{E:XK}{st:AH}{sts rest:List AH}{t u:TS}{z z1 z2:GZ}{g:GS}{c e o:AB}{es:List AB}{te ta:TE}{tA:TA}{tc:TT}{fc:FT}{f:FE}{fs:FA}{pos apos:Pos}{m:Str}
def PE1(X:Cx)(pins:List (A7×Obj))(σ:St)(e:AB)(t:TE):Prop:=∀(s:A8)(H:Hp)(Q:VK),Inv X pins σ H s→t σ H Q→AF (AG X.prog X.w) X.A (AO e X.env) (EP X pins σ Q) X.xe s
def PS1(X:Cx)(pins:List (A7×Obj))(σ:St)(st:AH)(t:TS):Prop:=∀(s:A8)(H:Hp)(D:Ends),Inv X pins σ H s→t D σ H→AF (AG X.prog X.w) X.A (exec st X.env) (SP X pins D) X.xe s
def aEG(CX:mj)(X:Cx)(pins:List (A7×Obj))(σ:St)(E:XK):Prop:=∀(H:Hp)(s:A8)(e:A6)(s':A8),Inv X pins σ H s→CX X.stack H s E e s'→X.xe e s'
structure XRz(K:aF)(κ:Nat→A7)(X:Cx)(E:XK)(e:AB)(t:TE)(z:DE→Option Nat):Prop where
 pe:∀(pins:List (A7×Obj))(σ:St),aEG (CX1 X.prog X.w) X pins σ E→PE1 X pins σ e t
 ev:∀(σ:St)(H:Hp)(de:DE)(i:Nat)(Q:VK),yO K H de σ→z de=ND i→(∀H',aU H H'→E (.ref (κ i)) none H')→t σ H Q
end
section
variable{P:AI}{w:AL}{K:aF}{mg:Str→Option A6}{base:AM}{κ:Nat→A7}
end
section
variable{K:aF}{κ:Nat→A7}{X:Cx}{E:XK}{z:GZ}{g:GS}{pos:Pos}
end
end L2


namespace L2
open PySem PySem.Spec PySem.Calls PyProof.Rows PyProof.V
abbrev aH3:List A6:=[.type "ValueError", .type "Exception", .type "BaseException", .type "object"]
structure ExF(K:aF)(mg:Str→Option A6)(x:Str)(C:A7):Prop where
 mg:mg x=ND (.ref C)
 ok:PySem.W.excIn K C aH3 "ValueError.__new__" = NG
section
variable{P:AI}{w:AL}{K:aF}{mg:Str→Option A6}{base:AM}{N:List Str}{qual:Str}{scope:BF}{f:A7}{cd:A6}{A:AN}{outer:List Env}{s0:A8}{H0:Hp}{E:XK}{κ:Nat→A7}
 {x:Str} {C:A7} {np cpos pos:Pos} {e:AB} {es:List AB} {tA:TA}
end
abbrev Cx.tr(X:Cx)(pn:List (A7×Obj))(Ex:A6→A8→Prop):Cx:={X with pn:=pn,xe:=Ex}
abbrev Cx.hand(X:Cx)(pn:List (A7×Obj))(e:A7):Cx:={X with pn:=pn,A:=X.A.mark (ND (.ref e)),calm:=NH,xe:=λ_ _=>False}
section
variable{X:Cx}{pins yg pn:List (A7×Obj)}{σ:St}{H:Hp}{s s':A8}{Ex:A6→A8→Prop}{e:A7}{D:Ends}{fl:Flow}
end
abbrev aH4:=Nat→Nat→Bool
section
variable{K:aF}{κ:Nat→A7}{X:Cx}{sub:aH4}{n nj:Nat}{z:GZ}{g:GS}{st:AH}{pos:Pos}
def gAs(k:Nat)(g:GS):GS:=λenv=>if k<env.length then(match g (env.set k .no)with
 | .next env'=>if k<env'.length then .next (env'.set k .no)else .bad
 | _=>.bad)else .bad
structure YE(K:aF)(X:Cx)(k:Nat)(e:A7)(sts:List AH)(t:TS)(g:GS):Prop where
 ps:DY X sts t
 ev:∀(B:Hp)(D:Ends)(σ:St)(H:Hp)(env:EN),Rel K B env σ H→σ[k]?=ND (ND (.ref e))→Pj K B D (g env)→t D σ H
inductive HK(K:aF)(κ:Nat→A7)(X:Cx)(n i:Nat):List Go→List (Nat×GS)→Prop
 | nil:HK K κ X n i [] []
 | cons {x:Str} {np hp:Pos} {b₀:AH} {suite:List AH} {rest:List Go} {j:Nat} {gh:GS} {r:List (Nat×GS)} (hm:X.mg x=ND (.ref (κ j))) (hg:Gl X x) (hd:(x==("__debug__" : Str))=NH)
   (hs:∀(pn:List (A7×Obj))(e:A7),∃t,YB K (X.hand pn e) (b₀::suite) t gh) (hr:HK K κ X n i rest r):HK K κ X n i (.ExceptHandler (ND (.Name x np)) none (b₀::suite) hp::rest) ((j,gh)::r)
 | as {x nm:Str} {np hp:Pos} {b₀:AH} {suite:List AH} {rest:List Go} {j k:Nat} {gh:GS} {r:List (Nat×GS)} (hm:X.mg x=ND (.ref (κ j))) (hg:Gl X x) (hd:(x==("__debug__" : Str))=NH) (hN:X.N.Nodup) (hk:X.N[k]?=ND nm) (hl:X.env.scope.names.lookup nm=ND .local)
   (hs:∀(pn:List (A7×Obj))(e:A7)(oe:Obj),i<n→oe.cls=.ref (κ i)→(e,oe)∈pn→∃t,YE K (X.hand pn e) k e (b₀::suite) t gh) (hr:HK K κ X n i rest r):HK K κ X n i (.ExceptHandler (ND (.Name x np)) (ND nm) (b₀::suite) hp::rest) ((j,gAs k gh)::r)
structure ZS(K:aF)(κ:Nat→A7)(X:Cx)(E:XK)(st:AH)(t:TS)(z:GZ):Prop where
 ps:∀(pins:List (A7×Obj))(σ:St),aEG (CX1 X.prog X.w) X pins σ E→PS1 X pins σ st t
 ev:∀(B:Hp)(D:Ends)(σ:St)(H:Hp)(env:EN)(i:Nat),Rel K B env σ H→z env=ND i→(∀H',aU H H'→E (.ref (κ i)) none H')→t D σ H
end
end L2


namespace L2
open PySem PySem.Spec PySem.Calls PyProof.Rows PyProof.V
section
variable{K:aF}{X:Cx}{κ:Nat→A7}{pos p:Pos}
structure XE(K:aF)(X:Cx)(k:Nat)(ea:A7)(e:AB)(t:TE)(d:D):Prop where
 pe:PE X e t
 ev:∀(σ:St)(H:Hp)(Q:VK),σ[k]?=ND (ND (.ref ea))→(∀v H',aU H H'→Mm K H H' d v→Q v H')→t σ H Q
end
section
variable{K:aF}{X:Cx}{g:GS}{pos:Pos}
end
end L2


namespace L2
open PySem PySem.Spec PySem.Calls PyProof.Rows PyProof.V
section
variable{K:aF}{X:Cx}{pos p0:Pos}
end
end L2


namespace L2
open PySem PySem.Spec PySem.Calls PyProof.Rows PyProof.V Builtin Builtin.ObjectAttr Builtin.Getset_descriptor
section
variable{P:AI}{w:AL}{A:AN}{E:A6→A8→Prop}{s:A8}{K:aF}{x D:A7}{ox:Obj}{od:Option Obj}
structure aLt(K:aF)(D:A7):Prop where
 ga:F3 K (.ref D) "__getattribute__" = ND (ND (.builtin "BaseException.__getattribute__"))
 gt:F3 K (.ref D) "__getattr__" = ND none
 cl:F3 K (.ref D) "__class__" = ND (ND (.builtin "object.__class__"))
 sp:V7 K (.builtin "object.__class__") "__get__" = ND (ND (.builtin "getset_descriptor.__get__"))
 tk:l0 K (.builtin "object.__class__")=ND NG
 mr:o6 K D (.type "object")=ND NG
 bx:PySem.W.subIn K (.ref D) (.type "BaseException")=ND NG
 ct:(PySem.W.clsIn K D).isSome=NG
end
section
variable{K:aF}{X:Cx}{κ:Nat→A7}{pos p:Pos}
structure XEn(K:aF)(X:Cx)(k:Nat)(ea:A7)(e:AB)(t:TE)(f:FE):Prop where
 hk:X.K=K
 pe:PE X e t
 ev:∀(σ:St)(H:Hp)(de:DE)(d:D)(Q:VK),yO K H de σ→σ[k]?=ND (ND (.ref ea))→f de=ND d→(∀v H',aU H H'→Mm K H H' d v→Q v H')→t σ H Q
structure XEB(K:aF)(X:Cx)(k:Nat)(ea:A7)(es:List AB)(t:TA)(fs:FA):Prop where
 hk:X.K=K
 pa:PA X es t
 ev:∀(σ:St)(H:Hp)(de:DE)(ds:List D)(Q:List V→Hp→Prop),yO K H de σ→σ[k]?=ND (ND (.ref ea))→fs de=ND ds→(∀vs H',aU H H'→Te K H H' ds vs→Q vs H')→t σ H Q
end
end L2


namespace L2
open PySem PySem.Spec PySem.Calls PyProof.Rows PyProof.V
section
variable{P:AI}{w:AL}{K:aF}{mg:Str→Option A6}{base:AM}{κ:Nat→A7}
end
section
variable{K:aF}{κ:Nat→A7}{X:Cx}{E:XK}{pos:Pos}
end
end L2


namespace L2
open PySem PySem.Spec PySem.Calls PyProof.Rows PyProof.V
section
variable{K:aF}{X:Cx}{e:AB}{t:TE}{f:FE}{pos:Pos}
end
end L2


set_option maxHeartbeats 1000000
namespace L2
open PySem PySem.Spec PySem.Calls PyProof.Rows PyProof.V
section
variable{K:aF}{X:Cx}{e:AB}{t:TE}{f:FE}{pos p2:Pos}
def aH5(z:Str)(lo hi:Option Int):Prop:=(∀i∈lo.toList,0≤i)∧(∀j∈hi.toList,0≤j)∧HT.Nt z.length 0 lo≤HT.Nt z.length z.length hi∧z.length≤100000
instance:∀z lo hi,Decidable (aH5 z lo hi):=λz lo hi=>by unfold aH5;exact inferInstance
end
end L2


namespace L2
open PySem PySem.Spec PySem.Calls PyProof.Rows PyProof.V
section
variable{K:aF}{X:Cx}{pos:Pos}
variable{κ:Nat→A7}{sub:aH4}{n nj:Nat}
end
end L2


namespace L2
open PySem PySem.Spec PySem.Calls PyProof.Rows PyProof.V
section
variable{K:aF}{X:Cx}
end
end L2


namespace L2
open PySem PySem.Spec PySem.Calls PyProof.Rows PyProof.V
section
variable{K:aF}{X:Cx}{a e0 eM:AB}{es:List AB}{t0 tM:TE}{f0:FE}{gM:GM}{tA:TA}{fs:FA}{pos:Pos}{i:Nat}
end
end L2


namespace L2
open PySem PySem.Spec PySem.Calls PyProof.Rows PyProof.V
section
variable{K:aF}{X:Cx}{e1 e2:AB}{t1 t2 te:TE}{f g fe:FE}{tc:TT}{fc:FT}{pos p p2:Pos}{x:Str}
end
end L2


namespace L2
open PySem PySem.Spec PySem.Calls PyProof.Rows PyProof.V
inductive Ap where
  | ch (i:Nat) (π:FP) | rd (f:FE) | nw (f:FE)
def chP:List Ap→DE→Option (List (Nat×List Step))
 | [],_=>ND []
 | .ch i π::as,e=>(π e).bind λp=>(chP as e).map λr=>(i,p)::r
 | .rd _::as,e=>chP as e
 | .nw _::as,e=>chP as e
def qD:List Ap→List Bool
 | []=>[]
 | .ch _ _::as=>NG::qD as
 | .rd _::as=>NH::qD as
 | .nw _::as=>NH::qD as
def rdP:List Ap→DE→DE→Option (List D)
 | [],_,_=>ND []
 | .ch _ _::as,eF,eZ=>rdP as eF eZ
 | .rd f::as,eF,eZ=>(f eZ).bind λd=>(rdP as eF eZ).map λr=>d::r
 | .nw f::as,eF,eZ=>(f eF).bind λd=>(rdP as eF eZ).map λr=>d::r
def KQ(K:aF)(Z:Hp):List Ap→List V→List D→List V→Prop
 | [],cv,ds,vs=>cv=[]∧ds=[]∧vs=[]
 | .ch _ _::as,cv,ds,vs=>∃v cr r,cv=v::cr∧vs=v::r∧KQ K Z as cr ds r
 | .rd _::as,cv,ds,vs=>∃d dr v r,ds=d::dr∧vs=v::r∧Rv K Z d v∧KQ K Z as cv dr r
 | .nw _::as,cv,ds,vs=>∃d dr v r,ds=d::dr∧vs=v::r∧Rv K Z d v∧KQ K Z as cv dr r
def VsP(σ:St)(H:Hp):List (Nat×List Step)→List V→Prop
 | [],vs=>vs=[]
 | (j,p)::js,vs=>∃v0 v r,vs=v::r∧σ[j]?=ND (ND v0)∧Le H p v0=ND v∧VsP σ H js r
theorem VsP.same{σ:St}{H H':Hp}(s:aU H H'):∀{js:List (Nat×List Step)} {vs:List V},VsP σ H js vs→VsP σ H' js vs
 | [],_,h=>h
 | (_,_)::_,_,⟨v0,v,r,h1,h2,h3,h4⟩=>⟨v0,v,r,h1,h2,tG s h3,VsP.same s h4⟩
def wZ:List (Nat×List Step)→EN→Option (List D×EN)
 | [],env=>ND ([],env)
 | (j,p)::js,env=>(env[j]?.bind SD.hold).bind λdb=>(eO p db.1).bind λd=>(wZ js (env.set j .no)).map λde=>(d::de.1,de.2)
def Dm:List (Nat×List Step)→List D→EN→EN
 | (j,p)::js,d::ds,env=>(match env[j]?.bind SD.hold with
  | some db=>(Dm js ds (env.set j .no)).set j (db.2 (dR p db.1 d))
  | none=>env)
 | _,_,env=>env
section
variable{K:aF}{X:Cx}{e:AB}{es:List AB}{te:TE}{f:FE}{tA:TA}{as:List Ap}{pos:Pos}{i:Nat}{π:FP}
def aJB(K:aF)(t:TA)(as:List Ap):Prop:=∀(A1:Fp)(σ:St)(H:Hp)(eF eZ:DE)(ds:List D)(ps:List (Nat×List Step))(cv:List V)(Q:List V→Hp→Prop),(∀x,A1 x→lO H x)→yO K H eF σ→yO K (out H A1) eZ σ→chP as eF=ND ps→VsP σ H ps cv→rdP as eF eZ=ND ds →
 (∀vs H',aU H H'→KQ K (out H' A1) as cv ds vs→Q vs H')→t σ H Q
structure XAP(K:aF)(X:Cx)(es:List AB)(t:TA)(as:List Ap):Prop where
 hk:X.K=K
 pa:PA X es t
 ev:aJB K t as
theorem aDA(hk:X.K=K:=by rfl):XAP K X [] nG []:=⟨hk,jY,λA1 σ H eF eZ ds ps cv Q c re rz cp va q k=>by
 cases q;cases cp;exact k [] H (aU.refl _) ⟨va,U,U⟩⟩
theorem aBl(h:XP K X e te i π)(hs:XAP K X es tA as)(hst:AD (e::es) X.env=(NH,AO e X.env)::AD es X.env:=by rfl):XAP K X (e::es) (fY te tA) (.ch i π::as):=⟨hs.hk,fD h.pe hs.pa hst,λA1 σ H eF eZ ds ps cv Q c re rz cp va q k=>by
 obtain⟨p,c1,c2⟩:=aY cp;obtain⟨pr,c3,rfl⟩:=lN c2;obtain⟨v0,v,r,rfl,h1,h2,h3⟩:=va;refine h.ev σ H eF v0 p v _ re h1 c1 h2 λH1 s1=>?_;refine hs.ev A1 σ H1 eF eZ ds pr r _ (λx q=>(c x q).same s1) (re.same s1) (rz.same (bU s1 λx q=>.inl q)) c3 (h3.same s1) q λvs H' s a=>k (v::vs) H' (s1.trans s) ⟨v,r,vs,U,U,a⟩⟩
theorem aH6(h:XR K X e te f)(hs:XAP K X es tA as)(hst:AD (e::es) X.env=(NH,AO e X.env)::AD es X.env:=by rfl):XAP K X (e::es) (fY te tA) (.rd f::as):=⟨h.hk,fD h.pe hs.pa hst,λA1 σ H eF eZ ds ps cv Q c re rz cp va q k=>by
 obtain⟨d,q1,q2⟩:=aY q;obtain⟨ds',q3,rfl⟩:=lN q2;refine h.ev σ H (out H A1) eZ d _ (aA5 c) rz q1 λv H1 Z1 s1 t1 z1 rv=>?_;refine hs.ev A1 σ H1 eF eZ ds' ps cv _ (λx q=>(c x q).same s1) (re.same s1) (rz.same (bU s1 λx q=>.inl q)) cp (va.same s1) q3 λvs H2 s2 rvs=>?_;exact k (v::vs) H2 (s1.trans s2) ⟨d,ds',v,vs,U,U,((aEC z1).trans (bU s2 λx q=>.inl q)).rv _ _ rv,rvs⟩⟩
end
section
variable{K:aF}{H H' Z Z' B:Hp}{σ:St}
theorem KR:∀(js:List (Nat×List Step))(ds:List D)(env:EN)(p:List D×EN)(j:Nat),wZ js env=ND p→env[j]?=ND .no→(Dm js ds env)[j]?=ND .no
 | [],ds,env,p,j,_,h=>by unfold Dm;exact h
 | i::js,[],env,p,j,_,h=>by unfold Dm;exact h
 | (i,w)::js,d::ds,env,p,j,q,h=>by
  unfold wZ at q;obtain⟨db,q1,q2⟩:=aY q;obtain⟨d1,_,q2⟩:=aY q2;obtain⟨de,q3,_⟩:=lN q2;have ne:i≠j:=λz=>by subst z;rw[h]at q1;cases q1
  unfold Dm;rw[q1];dsimp only;rw[F8,if_neg ne];exact KR js ds _ _ j q3 (by rw[F8,if_neg ne];exact h)
theorem Vn:∀(js:List (Nat×List Step))(env:EN)(A:Fp)(ds:List D)(e0:EN),eU (fZ K H Z) env A σ→wZ js env=ND (ds,e0)→∃A0 A1 C vs,Apart A0 A1∧Apart A0 C∧Apart A1 C∧Is A (fK (fK A0 A1) C)∧eU (fZ K H Z) e0 A0 σ∧dX K H ds A1 vs∧VsP σ H js vs ∧
    ∀(H' Z':Hp)(ds':List D)(A0' HD:Fp),vP K H H'→(∀a,C a→H' a=H a)→eU (fZ K H' Z') e0 A0' σ→dX K H' ds' HD vs→Apart A0' HD→Apart A0' C→Apart HD C→eU (fZ K H' Z') (Dm js ds' env) (fK (fK A0' HD) C) σ
  | [],env,A,ds,e0,h,q=>by
    cases q;refine⟨A,nil,nil,[],λ_ _ z=>z,λ_ _ z=>z,λ_ _ z=>z,λx=>⟨λz=>.inl (.inl z),λz=>z.elim (λz=>z.elim id False.elim) False.elim⟩,h,by unfold dX;exact⟨λ_ z=>z,U⟩,U,λH' Z' ds' A0' HD _ _ s o ap _ _=>?_⟩;cases ds' with
    | nil=>unfold dX at o;unfold Dm;exact s.fp λx=>⟨λz=>.inl (.inl z),λz=>z.elim (λz=>z.elim id λz=>absurd z (o.1 x)) False.elim⟩
    | cons d dr=>
      unfold dX at o;obtain⟨y,yt,_,_,z,_⟩:=o;cases z
  | (j,p)::js,env,A,ds,e0,h,q=>by
    unfold wZ at q;obtain⟨db,q1,q2⟩:=aY q;obtain⟨d,qd,q2⟩:=aY q2;obtain⟨⟨dr,e1⟩,q3,q4⟩:=lN q2;cases q4;obtain⟨s,e,hs⟩:=aY q1;obtain⟨y,A1,Cs,h1,h2,h3,h4,k⟩:=h.focus e;have key:∃v,y=ND v∧Ow K H db.1 A1 v∧∀(H' Z':Hp)(d':D)(A':Fp),Ow K H' d' A' v→fZ K H' Z' (db.2 d') A' (ND v):=by
      cases s with
      | no=>cases hs
      | fro d=>cases hs
      | own d=>cases hs;obtain⟨v,rfl,o⟩:=h4;exact⟨v,U,o,λH' Z' d' A' o'=>⟨v,U,o'⟩⟩
      | inn v d=>cases hs;obtain⟨rfl,o⟩:=h4;exact⟨v,U,o,λH' Z' d' A' o'=>⟨U,o'⟩⟩
    obtain⟨v,rfl,o,bk⟩:=key;obtain⟨w,B1,C1,g1,g2,g3,g4,g5⟩:=o.at qd;have s0:=k _ (λ_ _ _ _ q=>q) .no (ND v) nil (λ_ z=>z.elim) (λ_ z=>z);rw[set_same h1]at s0;obtain⟨A0,A1r,Cr,vs,k1,k1b,k1c,k2,k3,k4,k5,k6⟩:=Vn js (env.set j .no) _ dr e1 s0 q3;have hC:∀x,Cs x↔(A0 x∨A1r x)∨Cr x:=λx=>⟨λz=>(k2 x).mp (.inr z),λz=>((k2 x).mpr z).elim False.elim id⟩
    have b1:∀x,B1 x→¬Cs x:=λx z=>h2 x ((g3 x).mpr (.inl z));have c1:∀x,C1 x→¬Cs x:=λx z=>h2 x ((g3 x).mpr (.inr z));refine⟨A0,fK B1 A1r,fK C1 Cr,w::vs,λx z1 z2=>z2.elim (λz=>b1 x z ((hC x).mpr (.inl (.inl z1)))) (k1 x z1),λx z1 z2=>z2.elim (λz=>c1 x z ((hC x).mpr (.inl (.inl z1)))) (k1b x z1),λx z1 z2=>?_,λx=>?_,k3,?_,⟨v,w,vs,U,h1,g1,k5⟩,λH' Z' ds' A0' HD tk fr s' o' ap ap0 ap1=>?_⟩
    · rcases z1 with z1 | z1
      · exact z2.elim (g2 x z1) λz=>b1 x z1 ((hC x).mpr (.inr z))
      · exact z2.elim (λz=>c1 x z ((hC x).mpr (.inl (.inr z1)))) (k1c x z1)
    · rw[h3 x]
      constructor
      · rintro(z | z)
        · exact((g3 x).mp z).elim (λz=>.inl (.inr (.inl z))) λz=>.inr (.inl z)
        · rcases(hC x).mp z with (z | z) | z
          · exact .inl (.inl z)
          · exact .inl (.inr (.inr z))
          · exact .inr (.inr z)
      · rintro((z | z | z) | z | z)
        · exact .inr ((hC x).mpr (.inl (.inl z)))
        · exact .inl ((g3 x).mpr (.inl z))
        · exact .inr ((hC x).mpr (.inl (.inr z)))
        · exact .inl ((g3 x).mpr (.inr z))
        · exact .inr ((hC x).mpr (.inr z))
    · unfold dX
      exact⟨w,vs,B1,A1r,U,λx z1 z2=>b1 x z1 ((hC x).mpr (.inl (.inr z2))),λx=>Iff.rfl,g4,k4⟩
    · cases ds' with
      | nil=>
        unfold dX at o';cases o'.2
      | cons d' dr'=>
        unfold dX at o';obtain⟨y',yt,Aj,Ar',z1,a1,a2,o1,o2⟩:=o';cases z1;have s1:=k6 H' Z' dr' A0' Ar' tk (λa z=>fr a (.inr z)) s' o2 (λx w1 w2=>ap x w1 ((a2 x).mpr (.inr w2))) (λx w1 w2=>ap0 x w1 (.inr w2)) λx w1 w2=>ap1 x ((a2 x).mpr (.inr w1)) (.inr w2);have n1:=KR js dr' (env.set j .no) _ j q3 (G6 (D1.mp e).1);obtain⟨y2,Bx,C2,f1,f2,f3,f4,f5⟩:=s1.focus n1;have f4:∀x,¬Bx x:=f4;have hC2:∀x,C2 x↔(A0' x∨Ar' x)∨Cr x:=λx=>⟨λz=>(f3 x).mpr (.inr z),λz=>((f3 x).mp z).elim (λw=>absurd w (f4 x)) id⟩
        have oj:=g5 H' d' Aj (λx w1 w2=>ap1 x ((a2 x).mpr (.inl w1)) (.inl w2)) (λa z=>fr a (.inl z)) tk o1;have s2:=f5 _ (λ_ _ _ _ q=>q) (db.2 (dR p db.1 d')) (ND v) (fK Aj C1) (λx w1 w2=>by
          rcases(hC2 x).mp w2 with (z | z) | z
          · rcases w1 with w1 | w1
            · exact ap x z ((a2 x).mpr (.inl w1))
            · exact ap0 x z (.inl w1)
          · rcases w1 with w1 | w1
            · exact a1 x w1 z
            · exact ap1 x ((a2 x).mpr (.inr z)) (.inl w1)
          · rcases w1 with w1 | w1
            · exact ap1 x ((a2 x).mpr (.inl w1)) (.inr z)
            · exact c1 x w1 ((hC x).mpr (.inr z))) (bk H' Z' _ _ oj)
        rw[set_same h1]at s2;unfold Dm;rw[q1];dsimp only;refine s2.fp λx=>?_;constructor
        · rintro((z | z) | z)
          · exact .inl (.inr ((a2 x).mpr (.inl z)))
          · exact .inr (.inl z)
          · rcases(hC2 x).mp z with (z | z) | z
            · exact .inl (.inl z)
            · exact .inl (.inr ((a2 x).mpr (.inr z)))
            · exact .inr (.inr z)
        · rintro((z | z) | z | z)
          · exact .inr ((hC2 x).mpr (.inl (.inl z)))
          · exact((a2 x).mp z).elim (λz=>.inl (.inl z)) λz=>.inr ((hC2 x).mpr (.inl (.inr z)))
          · exact .inl (.inr z)
          · exact .inr ((hC2 x).mpr (.inr z))
theorem xF:∀(as:List Ap)(Lz Vk:List D)(A:Fp)(uv vs:List V),dX K H Lz A uv→KQ K Z as uv Vk vs→eU (fZ K H Z) (aBe (qD as) (tK (qD as) Lz Vk) vs) A (vs.map ND)∧um (qD as) vs=uv∧(tK (qD as) Lz Vk).length=(qD as).length∧vs.length=(qD as).length
 | [],Lz,Vk,A,uv,vs,o,ar=>by
  obtain⟨rfl,rfl,rfl⟩:=ar;cases Lz with
  | nil=>unfold dX at o;exact⟨⟨o.1,U⟩,U,U,U⟩
  | cons d dr=>unfold dX at o;obtain⟨_,_,_,_,z,_⟩:=o;cases z
 | .ch i π::as,Lz,Vk,A,uv,vs,o,ar=>by
  obtain⟨v,r,r',rfl,rfl,g2⟩:=ar;cases Lz with
  | nil=>unfold dX at o;cases o.2
  | cons d dr=>
   unfold dX at o;obtain⟨y,yt,A1,A2,z,a1,a2,o1,o2⟩:=o;cases z;obtain⟨m1,m2,m3,m4⟩:=xF as dr Vk A2 r r' o2 g2;exact⟨⟨ND v,r'.map ND,A1,A2,U,a1,a2,⟨U,o1⟩,m1⟩,congrArg (v::·) m2,congrArg (·+1) m3,congrArg (·+1) m4⟩
 | .rd f::as,Lz,Vk,A,uv,vs,o,ar=>by
  obtain⟨d,dr,v,r,rfl,rfl,g1,g2⟩:=ar;obtain⟨m1,m2,m3,m4⟩:=xF as Lz dr A uv r o g2;have e:tK (qD (.rd f::as)) Lz (d::dr)=d::tK (qD as) Lz dr:=by cases Lz<;>rfl
  rw[e];exact⟨⟨ND v,r.map ND,nil,A,U,λ_ z=>z.elim,λx=>⟨.inr,λz=>z.elim False.elim id⟩,⟨λ_ z=>z,v,U,g1⟩,m1⟩,m2,congrArg (·+1) m3,congrArg (·+1) m4⟩
 | .nw f::as,Lz,Vk,A,uv,vs,o,ar=>by
  obtain⟨d,dr,v,r,rfl,rfl,g1,g2⟩:=ar;obtain⟨m1,m2,m3,m4⟩:=xF as Lz dr A uv r o g2;have e:tK (qD (.nw f::as)) Lz (d::dr)=d::tK (qD as) Lz dr:=by cases Lz<;>rfl
  rw[e];exact⟨⟨ND v,r.map ND,nil,A,U,λ_ z=>z.elim,λx=>⟨.inr,λz=>z.elim False.elim id⟩,⟨λ_ z=>z,v,U,g1⟩,m1⟩,m2,congrArg (·+1) m3,congrArg (·+1) m4⟩
end
def Vo(as:List Ap)(F:List D→Option (D×List D)):GM:=λenv=>(chP as (rE env)).bind λps=>(wZ ps env).bind λce=>(rdP as (rE env) (rE ce.2)).bind λVk=>(F (tK (qD as) ce.1 Vk)).map λrd=>(rd.1,Dm ps rd.2 env)
section
variable{K:aF}{X:Cx}{e:AB}{es:List AB}{tA:TA}{as:List Ap}{pos pf:Pos}
theorem aDB{x:Str}{k n:Nat}{mask:List Bool}{F:List D→Option (D×List D)}(C:qL X.prog X.w X.K X.mg X.base x k n (spG K mask F))(hm:qD as=mask)(hr:jR k X.A)(hg:Gl X x)(ha:XAP K X (e::es) tA as)(hdb:(x==("__debug__" : Str))=NH:=by decide)
  (he:AD (e::es) X.env=(NH,AO e X.env)::AD es X.env:=by rfl) (hpl:(AY pos (AD es X.env)).any (·.1)=NH:=by rfl):XM K X (.Call (.Name x pf) (e::es) [] pos) (Uj (spG K mask F) [] E0 tA) (Vo as F):=⟨ha.hk,aAs C hr hg ha.pa hdb he hpl,λB σ H env d env' Q r q k=>by
 subst hm;obtain⟨ps,q0,q⟩:=aY q;obtain⟨⟨Lz,e0⟩,q1,q⟩:=aY q;obtain⟨Vk,q2,q⟩:=aY q;obtain⟨⟨r1,ds'⟩,q3,q4⟩:=lN q;cases q4;have rr:=r.r;obtain⟨A,a,b⟩:=r;obtain⟨A0,A1,CC,uv,t1,t1b,t1c,t2,t3,t4,t5,t6⟩:=Vn _ _ _ _ _ a q1;have cl:=jB a;have c1:∀x,A1 x→lO H x:=λx z=>cl x ((t2 x).mpr (.inl (.inr z)));have c0:∀x,A0 x∨CC x→lO H x:=λx z=>cl x ((t2 x).mpr (z.elim (λz=>.inl (.inl z)) .inr));refine ha.ev A1 σ H (rE env) (rE e0) Vk ps uv _ c1 rr (aH0 t3 t1 (λx z=>(t2 x).mpr (.inl (.inr z))) c1) q0 t5 q2 λvs H2 s2 ar=>?_;show spG K (qD as) F (vs++[]) H2 Q E0;rw[F9];have o2:dX K H2 Lz A1 uv:=cG.mpr ((cG.mp t4).mono λ_ _ _ _ z=>z.same s2);obtain⟨m1,m2,m3,m4⟩:=xF as Lz Vk A1 uv vs o2 ar;refine⟨A1,_,r1,ds',m3,m4,m1,q3,λw H3 A' A2 p1 p2 ap sm=>k w H3 ?_⟩;rw[m2]at p1;have hC:∀y,A0 y∨CC y→¬A' y∧¬A2 y∧H3 y=H y:=λy hy=>by obtain⟨⟨u,eu⟩,_⟩:=c0 y hy;obtain⟨n1,n2⟩:=bA.mp (sm y u (bA.mpr ⟨λz=>hy.elim (λw=>t1 y w z) (t1c y z),s2 y u eu⟩));exact⟨λz=>n1 (.inl z),λz=>n1 (.inr z),n2.trans eu.symm⟩
 have tk:vP K H H3:=(Oj λx q=>(c1 x q).2).trans ((bU s2 λx q=>.inl q:aU (out H A1) (out H2 A1)).trans (sm.trans (kW _ _))).tk;have g:aU (out H A) (out H3 (fK (fK (fK A0 A') CC) A2)):=λy u ey=>by
  obtain⟨e1,e2⟩:=bA.mp ey;obtain⟨n1,n2⟩:=bA.mp (sm y u (bA.mpr ⟨λz=>e1 ((t2 y).mpr (.inl (.inr z))),s2 y u e2⟩));refine bA.mpr ⟨λz=>?_,n2⟩;rcases z with ((z | z) | z) | z
  ·exact e1 ((t2 y).mpr (.inl (.inl z)))
  ·exact n1 (.inl z)
  ·exact e1 ((t2 y).mpr (.inr z))
  ·exact n1 (.inr z)
 have f0:eU (fZ K H3 (out H3 (fK (fK (fK A0 A') CC) A2))) e0 A0 σ:=t3.mono λs D z hb qq=>by
  cases s with
  | no=>exact qq
  | fro d=>obtain⟨q1,v,q2,q3⟩:=qq;exact⟨q1,v,q2,g.rv _ _ q3⟩
  | inn v d=>exact⟨qq.1,Ow.frame tk _ _ _ qq.2 λx zx=>(hC x (.inl (hb x zx))).2.2⟩
  | own d=>obtain⟨v,q1,q2⟩:=qq;exact⟨v,q1,Ow.frame tk _ _ _ q2 λx zx=>(hC x (.inl (hb x zx))).2.2⟩
 have s3:=t6 H3 _ ds' A0 A' tk (λa z=>(hC a (.inr z)).2.2) f0 p1 (λy z1 z2=>(hC y (.inl z1)).1 z2) t1b λy z1 z2=>(hC y (.inr z2)).1 z1;exact⟨_,eU.snoc s3 ⟨w,U,p2⟩ λy z1 z2=>z1.elim (λz=>z.elim (λz=>(hC y (.inl z)).2.1 z2) λz=>ap y z z2) λz=>(hC y (.inr z)).2.1 z2,b.trans g⟩⟩
end
def Eh(i:Nat)(π:FP)(g:FE)(gm:GM):GS:=λenv=>match gm env with
 | some (d,env')=>(match env'[i]?,π (rE env'),g (rE env')with
  | some (.own d0),ND p,ND (.int k)=>(match eO p d0 with
   | some (.lst ds)=>(match Up ds.length k with
    | some j=>.next (env'.set i (.own (dR p d0 (.lst (ds.set j d)))))
    | none=>.bad)
   | _=>.bad)
  | _,_,_=>.bad)
 | none=>.bad
section
variable{K:aF}{X:Cx}{a b e:AB}{ta tb te:TE}{g:FE}{gm:GM}{i:Nat}{π:FP}{pos pos':Pos}
theorem aBm(h:EvP K ta i π)(hx:Iz K tb g)(he:EvM K te gm):qm K (uD te (Xd ta tb Fw)) (Eh i π g gm):=λB E σ H env r p=>by
 unfold Eh at p;split at p
 ·rename_i d env' q0;refine he B σ H env d env' _ r q0 λy H1 r1=>?_;obtain⟨H0,r0,s0,n⟩:=r1.aGh;split at p
  ·rename_i d0 pp k q1 q2 q3;split at p
   ·rename_i ds q4;split at p
    ·rename_i j q5;obtain⟨v0,a,xs,Bs,k1,k2,k3,k4,k5,k6⟩:=r0.IK q1 q4;refine h σ H1 (rE env') v0 pp _ _ (r0.r.same s0) k1 q2 (tG s0 k2) λH2 s2=>hx σ H2 H2 (rE env') _ _ (Zn.self K H2) (r0.r.same (s0.trans s2)) q3 λy' H3 Z3 s3 t3 z3 ry=>?_;unfold Rv at ry;have Pb:=s0.trans (s2.trans s3);obtain⟨N,o,fr⟩:=n.same (s2.trans s3);have hlen:=(dX.rv _ _ _ k5).length;refine⟨a,xs,k,j,U,ry,Pb _ _ k3,by rw[hlen];exact q5,p _ ?_⟩;obtain⟨y0,A1,C,f1,f2,f3,f4,f5⟩:=(cG.mp (k5.same Pb)).focus (B6 (aAS q5));have ap:Apart N C:=λx q1 q2=>Pn (H1:=H0) k5 fr x ((f3 x).mpr (.inr q2)) q1;exact k6 H3 (ds.set j d) (xs.set j y) (fK N C) Pb (cG.mpr (f5 (Ow K H3) (λ_ _ _ _ qq=>qq) d y N ap o)) λb z=>z.elim (λz=>.inr (fr b z)) λz=>.inl ((f3 b).mpr (.inr z))
    ·exact p.elim
   ·exact p.elim
  ·exact p.elim
 ·exact p.elim
theorem aBn(h:XP K X a ta i π)(hx:XR K X b tb g)(he:XM K X e te gm)(hp:PE X a ta→PE X b tb→PE X e te→PS X (.Assign [.Subscript a b pos'] e pos) (uD te (Xd ta tb Fw))):YS K X (.Assign [.Subscript a b pos'] e pos) (uD te (Xd ta tb Fw)) (Eh i π g gm):=⟨hp h.pe hx.pe he.pe,(aBm h.ev hx.ev he.ev).ds⟩
end
end L2


namespace L2
open PySem PySem.Spec PySem.Calls PyProof.Rows PyProof.V
def WL:D→Bool
 | .lst ds=>decide (ds.length<100000)
 | _=>NH
def Bp(i:Nat)(f:FE):GS:=λenv=>match f (rE env)with
 | some (.lst xs)=>if xs.all WL=NG∧i<env.length then .next (env.set i .no)else .bad
 | _=>.bad
section
variable{K:aF}{te:TE}{f:FE}{i:Nat}{c:Int}
theorem uw(h:Sg K te f):DS K (Xf (aAJ K te) (iR i) (nD (Nu K "list" nT (qN i) (fY (tC (.int c)) nG)))) (Bp i f):=λB E σ H env r p=>by
  unfold Bp at p;split at p
  · rename_i xs q
    split at p
    · rename_i hc
      refine .inl (h σ H (rE env) _ _ r.r q λv H1 s n=>?_);have hlen:=r.len;obtain⟨A,a,bb⟩:=r;obtain⟨N,o,fr⟩:=n;have cl:=jB a;unfold Ow at o;obtain⟨pa,vs,Bs,rfl,o2,o3,o4,o5⟩:=o;have hl:=(dX.rv _ _ _ o5).length;refine⟨pa,U,⟨vs,pK.of o2⟩,?_⟩;refine Mj Ob (λk σ2 H2=>∃cu,dX K H2 cu Bs vs∧(∀d∈cu.drop k,WL d=NG)∧(∀y,¬Bs y→H2 y=H1 y)∧vP K H1 H2∧(σ2=σ∨∃w,σ2=σ.set i (ND w))) ⟨xs,o5,λd hd=>M3.mp hc.1 d (by simpa using hd),λ_ _=>rfl,λp xs q=>q,.inl U⟩ (λk σ2 H2 _ ⟨cu,_,_,e,_⟩=>pK.of ((e pa o3).trans o2)) ?_ ?_
      · rintro k x σ2 H2 hx ⟨cu,ow,sh,e,tk,hσ⟩
        have hl2:=(dX.rv _ _ _ ow).length;have hk:k<cu.length:=by obtain⟨h1,_⟩:=D1.mp hx;omega
        obtain⟨y0,A1,C,f1,f2,f3,f4,f5⟩:=(cG.mp ow).focus (B6 hk);rw[hx]at f1;cases f1;have shk:=sh cu[k] (by rw[L6 hk];exact D4);generalize hd:cu[k]=dk at *;cases dk with
        | lst es=>
          have f4':=f4;unfold Ow at f4';obtain⟨a',ys,Bs2,rfl,g2,g3,g4,g5⟩:=f4';have hly:=(dX.rv _ _ _ g5).length;have shk:es.length<100000:=of_decide_eq_true shk;have hi:i<σ2.length:=by
            rcases hσ with rfl | ⟨w,rfl⟩
            · omega
            · rw[J5];omega
          have ha1:A1 a':=(g4 a').mpr (.inl U);have tk2:vP K H2 (upd H2 a' (.lst (ys++[.int c]))):=tE (sJ g2);have ne:∀y,y≠a'→upd H2 a' (.lst (ys++[.int c])) y=H2 y:=λy hy=>by unfold upd;rw[if_neg hy]
          refine⟨_,G6 hi,.inl ⟨U,ys,pK.of g2⟩,⟨a',ys,.int c,U,U,g2,Ot (by omega),?_⟩⟩;refine⟨cu.set k (.lst (es++[.int c])),?_,λd hd=>?_,λy hy=>(ne y λz=>hy ((f3 y).mpr (.inl (z▸ha1)))).trans (e y hy),tk.trans tk2,?_⟩
          · have oe:dX K (upd H2 a' (.lst (ys++[.int c]))) (es++[.int c]) Bs2 (ys++[.int c]):=by
              have o1:eU (Ow K (upd H2 a' (.lst (ys++[.int c])))) es Bs2 ys:=(cG.mp g5).mono λd' D' z hb qq=>Ow.frame tk2 _ _ _ qq λy hy=>ne y λz=>g3 (z▸hb y hy);have o2:Ow K (upd H2 a' (.lst (ys++[.int c]))) (.int c) nil (.int c):=by unfold Ow;exact⟨λ_ z=>z,U⟩
              exact cG.mpr ((eU.snoc o1 o2 λ_ _ z=>z).fp λx=>⟨λz=>z.elim id False.elim,.inl⟩)
            have on:Ow K (upd H2 a' (.lst (ys++[.int c]))) (.lst (es++[.int c])) A1 (.ref a'):=by unfold Ow;exact⟨a',ys++[.int c],Bs2,U,by unfold upd;rw[if_pos rfl],g3,g4,oe⟩
            have s2:=f5 (Ow K (upd H2 a' (.lst (ys++[.int c])))) (λd' D' z hb qq=>Ow.frame tk2 _ _ _ qq λy hy=>ne y λz=>f2 a' ha1 (z▸hb y hy)) (.lst (es++[.int c])) (.ref a') A1 f2 on;rw[set_same hx]at s2;exact cG.mpr (s2.fp λx=>(f3 x).symm)
          · rw[List.drop_set_of_lt (M0 k)]at hd
            exact sh d (by rw[L6 hk];exact C8 _ hd)
          · rcases hσ with rfl | ⟨w,rfl⟩
            · exact .inr ⟨_,U⟩
            · exact .inr ⟨_,by rw[R4]⟩
        | _=>cases shk
      · rintro σ2 H2 ⟨cu,ow,sh,e,tk,hσ⟩
        have old:∀y u,H y=ND u→H2 y=ND u:=λy u hy=>by
          have nb:¬Bs y:=λz=>by have:=fr y ((o4 y).mpr (.inr z));rw[hy]at this;cases this
          rw[e y nb];exact s y u hy
        obtain⟨y,A1,C,h1,h2,h3,h4,k⟩:=a.focus (B6 hc.2);have g:aU (out H A) (out H2 (fK nil C)):=λx u ex=>by obtain⟨e1,e2⟩:=bA.mp ex;exact bA.mpr ⟨λz=>e1 ((h3 x).mpr (.inr (z.elim False.elim id))),old x u e2⟩
        have key:∀y',Rel K B (env.set i .no) (σ.set i y') H2:=λy'=>⟨fK nil C,k (fZ K H2 (out H2 (fK nil C))) (λsd D z hb qq=>by
          have fm:∀x,D x→H2 x=H x:=λx zx=>by obtain⟨⟨u,eu⟩,_⟩:=cl x ((h3 x).mpr (.inr (hb x zx)));rw[old x u eu,eu]
          have tk':vP K H H2:=s.tk.trans tk;cases sd with
          | no=>exact qq
          | fro d=>obtain⟨q1,v,q2,q3⟩:=qq;exact⟨q1,v,q2,g.rv _ _ q3⟩
          | inn v d=>exact⟨qq.1,Ow.frame tk' _ _ _ qq.2 fm⟩
          | own d=>obtain⟨v,q1,q2⟩:=qq;exact⟨v,q1,Ow.frame tk' _ _ _ q2 fm⟩) .no y' nil (λ_ z=>z.elim) (λ_ z=>z),bb.trans g⟩
        refine p σ2 H2 ?_;rcases hσ with rfl | ⟨w,rfl⟩
        · have:=key y
          rw[set_same h1]at this;exact this
        · exact key _
    · exact p.elim
  · exact p.elim
theorem ux{X:Cx}{tg e o ce:AB}{st:AH}{pos:Pos}(hp:EC (AG X.prog X.w) X.A X.env X.xe)(UW:X.calm=NG)(h:XN K X e te f)(hg:PG X tg (iR i))(ho:PE X o (qN i))(hc:PE X ce (tC (.int c)))
  (hb:PE X o (qN i)→PE X ce (tC (.int c))→PS X st (nD (Nu K "list" nT (qN i) (fY (tC (.int c)) nG)))) (hs:∀x,B4 e X.env x=pure x:=by intro _;rfl):YS K X (.For tg e [st] [] pos) (Xf (aAJ K te) (iR i) (nD (Nu K "list" nT (qN i) (fY (tC (.int c)) nG)))) (Bp i f):=
 ⟨Xg hp UW (lR (tg:=tg) h.r).pi hg (ZL (hb ho hc)) hs,uw h.ev⟩
end
end L2


namespace L2
open PySem PySem.Spec PySem.Calls PyProof.Rows PyProof.V HT
def Bq(ns:List Int):Nat:=(EA (λi=>ns.getD i 0) ns.length).length
def aEJ(K:aF):V→Hp→VK→Prop:=λv H Q=>∃(p:A7)(ns:List Int),v=.ref p∧pK K H p (ns.map V.int)∧ns.length<64∧Q (.int (Bq ns)) H
def Vp(d:D):Option D:=match d with
 | .lst ds=>(intsOf ds).bind λns=>if ns.length<64 then ND (.int (Bq ns))else none
 | _=>none
section
variable{X:Cx}{K:aF}{e:AB}{t:TE}{f:FE}{x y:Str}{p p2 pos pos2:Pos}
theorem aGj(hc:X.calm=NG)(pins:List (A7×Obj))(s:A8)(σ:St)(H:Hp)(v:V)(u:A6)(Q:VK)(I:Inv X pins σ H s)(rv:RelV v u)(h:aEJ X.K v H Q) :
  AF (AG X.prog X.w) X.A (call (.type "set") [u]) (λu' s'=>AF (AG X.prog X.w) X.A (call (.builtin "len") [u']) (EP X pins σ Q) X.xe s') X.xe s:=by
 obtain⟨p,ns,rfl,hq,h64,q⟩:=h;cases rv;obtain⟨its,r,pl,hz⟩:=I.list hq;have hlen:=r.length;rw[B7]at hlen;refine aEA (its:=its.toArray) (ns:=ns) (I.ok.hd hc) pl.isList (by simpa using intsAre_of r) (by rw[C5];unfold CA;omega) λh1 tk1 S1 kp1=>?_;have I1:Inv X pins σ H {s with heap:=h1,toks:=tk1}:=I.kept (t':=tk1) kp1;have ez:its.toArray.size=ns.length:=by simp[hlen]
 rw[ez]at S1;have hfl:=EO (λi=>ns.getD i 0) ns.length;obtain⟨o,es,ep,t,ho,hex,hd,hel,hm,hz',hf,hn,hl⟩:=S1;refine call_len_set ho hex hd hf (by omega) ⟨.int (Bq ns),H,I1.tok _,⟨_,by rw[hn];rfl⟩,q⟩
theorem aDC(h:XR K X e t f)(hg:Gl X x)(hm:X.mg x=none)(hv:AU x=ND (.builtin "len")) (hg2:Gl X y) (hm2:X.mg y=none) (hv2:AU y=ND (.type "set")) (hc:X.calm=NG:=by rfl) (hn:x ≠ "__name__" := by decide) (hdb:(x==("__debug__" : Str))=NH:=by decide) (hn2:y ≠ "__name__" := by decide) (Yo:(y==("__debug__" : Str))=NH:=by decide)
  (he:AD [e] X.env=[(NH,AO e X.env)]:=by rfl) (he2:AD [.Call (.Name y p2) [e] [] pos2] X.env=[(NH,AO (.Call (.Name y p2) [e] [] pos2) X.env)]:=by rfl) :
  XN K X (.Call (.Name x p) [.Call (.Name y p2) [e] [] pos2] [] pos) (tUn (aEJ K) t) (pY Vp f):=⟨h.hk,gj (by have:=h.hk;subst this;exact aGj hc) h.pe hg hm hv hg2 hm2 hv2 hn hdb hn2 Yo he he2,λσ H e d Q re q k=>by
 obtain⟨d0,q1,q2⟩:=aY q;unfold Vp at q2;split at q2
 ·obtain⟨ns,q3,q4⟩:=aY q2;split at q4
  ·rename_i hl;cases q4;refine h.ev σ H H e _ _ (Zn.self K H) re q1 λv H1 Z1 s1 t1 z1 rv=>?_;obtain⟨p,rfl,r2⟩:=vU q3 (z1.sm.rv _ _ rv);exact⟨p,ns,U,r2,hl,k _ _ s1 (.jK U (by unfold Rv;rfl))⟩
  ·cases q4
 ·cases q2⟩
end
theorem Dn{ns:List Int}(h:ns.Nodup):∀i,i≤ns.length→(EA (λi=>ns.getD i 0) i).length=i
 | 0,_=>rfl
 | i+1,hi=>by
  have ih:=Dn h i (by omega);rw[ET];unfold step_dedup;split
  ·rename_i c;rw[LL,Q6]at c;obtain⟨x,hx,q⟩:=c;obtain⟨j,hj,rfl⟩:=G4.mp hx;have hj:=F5.mp hj;have q:=beq_iff_eq.mp q;rw[B9,B9,B6 (show j<ns.length by omega),B6 (show i<ns.length by omega)]at q;exact absurd q (I0.mp h j i (by omega) (by omega) hj)
  ·rw[C7,ih];rfl
theorem Qj{ns:List Int}(h:ns.Nodup):Bq ns=ns.length:=Dn h _ (C6 _)
end L2


namespace L2
open PySem PySem.Spec PyProof.Rows
abbrev aH(ns:List Int):D:=.lst (ns.map D.int)
theorem Jq{i:Nat}{g:GS}(I:Nat→EN→Prop):∀(xs:List D)(env:EN)(n:Nat),I n env→(∀k x env,xs[k]?=ND x→I (n+k) env→i<env.length∧∃env',g (env.set i (.fro x))=.next env'∧I (n+k+1) env')→∃env',Dy i g xs env=.next env'∧I (n+xs.length) env'
 | [],env,n,h,_=>⟨env,by unfold Dy;rfl,h⟩
 | x::xs,env,n,h,st=>by
  obtain⟨h1,env',h2,h3⟩:=st 0 x env U h;obtain⟨fH,a1,a2⟩:=Jq I xs env' (n+1) h3 λk y e hk hi=>by have:=st (k+1) y e (by simpa using hk) (by rw[show n+(k+1)=n+1+k by omega];exact hi);rw[show n+(k+1)+1=n+1+k+1 by omega]at this;exact this
  refine⟨fH,?_,?_⟩
  ·unfold Dy;rw[if_pos h1,h2];exact a1
  ·rw[E9,show n+(xs.length+1)=n+1+xs.length by omega];exact a2
theorem fW{g1 g2:GS}{env env':EN}(h:g1 env=.next env'):aX g1 g2 env=g2 env':=by unfold aX;rw[h]
theorem Qk{g1 g2:GS}{env:EN}{d:D}(h:g1 env=.ret d):aX g1 g2 env=.ret d:=by unfold aX;rw[h]
theorem vW{f:FT}{g1 g2:GS}{env:EN}(h:f (rE env)=ND NG):qM f g1 g2 env=g1 env:=by unfold qM;rw[h]
theorem mK{f:FT}{g1 g2:GS}{env:EN}(h:f (rE env)=ND NH):qM f g1 g2 env=g2 env:=by unfold qM;rw[h]
theorem xG{i:Nat}{f:FE}{env:EN}{d:D}(h:f (rE env)=ND d)(hi:i<env.length):dG i f env=.next (env.set i (.own d)):=by unfold dG;rw[h];dsimp only;rw[if_pos hi]
theorem gC{f:FE}{env:EN}{d:D}(h:f (rE env)=ND d):fO f env=.ret d:=by unfold fO;rw[h]
theorem aBo{i:Nat}{fi:FA}{g:GS}{env:EN}{xs:List D}(h:fi (rE env)=ND xs):Dk i fi g env=Dy i g xs env:=by unfold Dk;rw[h]
theorem iz{js:List Nat}{i:Nat}{fi:FA}{g:GS}{env Dz:EN}{xs:List D}(h0:zA js env=Dz)(h:fi (zE Dz)=ND xs):Th js i fi g env=Dy i g xs Dz:=by unfold Th;rw[h0,h]
theorem nO{n m:Nat}{g:GS}{ds:List D}{d:D}(hl:ds.length=m)(h:g (ds.map SD.fro++E4 (n-m) SD.no)=.ret d):pN n m g ds=ND d:=by unfold pN;rw[if_pos hl,h]
theorem aL{φ:D→D→Option D}{f g:FE}{e:DE}{a b d:D}(h1:f e=ND a)(h2:g e=ND b)(h:φ a b=ND d):f2 φ f g e=ND d:=by unfold f2;rw[h1,h2];exact h
theorem dU{φ:List D→Option D}{fs:FA}{e:DE}{ds:List D}{d:D}(h1:fs e=ND ds)(h:φ ds=ND d):fL φ fs e=ND d:=by unfold fL;rw[h1];exact h
theorem aB{f:FE}{fs:FA}{e:DE}{a:D}{r:List D}(h1:f e=ND a)(h2:fs e=ND r):aA f fs e=ND (a::r):=by unfold aA;rw[h1,h2];rfl
theorem bR{n:Nat}{F:List D→Option D}{fs:FA}{e:DE}{ds:List D}{d:D}(h1:fs e=ND ds)(hl:ds.length=n)(h:F ds=ND d):dD n F fs e=ND d:=by unfold dD;rw[h1];dsimp only[C4];rw[if_pos hl];exact h
theorem bZ{f:FE}{e:DE}{b:Bool}(h:f e=ND (.bl b)):fB f e=ND b:=by unfold fB;rw[h];rfl
theorem rT{f:FT}{e:DE}{b:Bool}(h:f e=ND b):Cv f e=ND (!b):=by unfold Cv;rw[h];rfl
theorem KY{f g:FT}{e:DE}(h:f e=ND NH):UG f g e=g e:=by unfold UG;rw[h];rfl
theorem aBp{f g:FT}{e:DE}(h:f e=ND NG):Cu f g e=g e:=by unfold Cu;rw[h];rfl
theorem WM{f g:FT}{e:DE}(h:f e=ND NH):Cu f g e=ND NH:=by unfold Cu;rw[h];rfl
theorem bH{f:FE}{e:DE}{d:D}(h:f e=ND d)(i:d.jK=NG):cO f e=ND d:=Uv.mpr ⟨h,i⟩
theorem bY(i j:Int):dJ (.int i) (.int j)=ND (.int (i+j)):=rfl
theorem jT(i j:Int):zG (.int i) (.int j)=ND (.int (i-j)):=by unfold zG Om;exact if_pos True.intro
theorem gG{i j:Int}(h:Su i j):sW (.int i) (.int j)=ND (.int (i*j)):=by unfold sW Om;exact if_pos h
theorem eE{i j:Int}(h:0<j)(h2:j<1073741824):sX (.int i) (.int j)=ND (.int (i/j)):=by unfold sX Om;exact if_pos (show lg i j from⟨h,h2⟩)
theorem bG{i j:Int}(h:0<j):eV (.int i) (.int j)=ND (.int (i%j)):=by unfold eV Om;exact if_pos h
theorem nP{i j:Int}(h:lq i j):zH (.int i) (.int j)=ND (.int (i ^ j.toNat)):=by unfold zH Om;exact if_pos h
theorem xH(i j:Int):xu (.int i) (.int j)=ND (.bl (decide (i<j))):=by unfold xu Om;exact if_pos True.intro
theorem Yx(i j:Int):dGt (.int i) (.int j)=ND (.bl (decide (j<i))):=by unfold dGt Om;exact if_pos True.intro
theorem Yy(i j:Int):dLe (.int i) (.int j)=ND (.bl (decide (i≤j))):=by unfold dLe Om;exact if_pos True.intro
theorem jb(i j:Int):decide (V.int i=V.int j)=decide (i=j):=by
 by_cases c:i=j
 ·subst c;simp
 ·rw[decide_eq_false c,decide_eq_false (λz=>c (by cases z;rfl))]
theorem pA(i j:Int):Il (.int i) (.int j)=ND (.bl (decide (i=j))):=by unfold Il toV;dsimp only;rw[if_pos (by rfl),jb]
theorem xJ(i j:Int):Gd (.int i) (.int j)=ND (.bl (!decide (i=j))):=by unfold Gd toV;dsimp only;rw[if_pos (by rfl),jb]
theorem WN{α:Type}{xs:List α}{i:Int}{x:α}(h0:0≤i)(h:xs[i.toNat]?=ND x):QZ xs i=ND x:=by
 have h1:i.toNat<xs.length:=by obtain⟨h1,_⟩:=D1.mp h;exact h1
 unfold QZ Up;rw[if_pos h0,if_pos (by omega)];exact h
theorem aDD{α:Type}{xs:List α}{x:α}(h:xs.getLast?=ND x):QZ xs (-1)=ND x:=by
 have hl:0<xs.length:=by
  cases xs with
  | nil=>simp at h
  | cons=>simp
 unfold QZ Up;rw[if_neg (by omega),if_pos (by omega)];show xs[((-1:Int)+(xs.length:Int)).toNat]?=ND x;rw[W6]at h;rw[show ((-1:Int)+(xs.length:Int)).toNat=xs.length-1 by omega];exact h
theorem nZ{ds:List D}{i:Int}{d:D}(h0:0≤i)(h:ds[i.toNat]?=ND d):dI (.lst ds) (.int i)=ND d:=WN h0 h
theorem uO{ds:List D}{i:Int}{d:D}(h0:0≤i)(h:ds[i.toNat]?=ND d):dI (.tup ds) (.int i)=ND d:=WN h0 h
theorem gW{ns:List Int}{i:Int}(h0:0≤i)(h:i<ns.length):dI (aH ns) (.int i)=ND (.int (ns.getD i.toNat 0)):=WN h0 (by
 rw[B8,B9,B6 (show i.toNat<ns.length by omega)];rfl)
theorem Gq(ds:List D):jP [.lst ds]=ND (.int ds.length):=rfl
theorem lB(ns:List Int):jP [aH ns]=ND (.int ns.length):=by show ND (D.int ((ns.map D.int).length:Nat))=_;rw[B7]
theorem Vq{c:D→Option Bool}{el:D→Option D}{φ:D→D}:∀{xs:List D},(∀x∈xs,c x=ND NG)→(∀x∈xs,el x=ND (φ x))→oY c el xs=ND (xs.map φ)
 | [],_,_=>by unfold oY;rfl
 | x::xs,hc,he=>by unfold oY;rw[hc x D4,he x D4,Vq (xs:=xs) (λy hy=>hc y (C8 _ hy)) λy hy=>he y (C8 _ hy)];rfl
theorem Gr{c:D→Option Bool}{el:D→Option D}{p:D→Bool}{φ:D→D}:∀{xs:List D},(∀x∈xs,c x=ND (p x))→(∀x∈xs,p x=NG→el x=ND (φ x))→oY c el xs=ND ((xs.filter p).map φ)
 | [],_,_=>by unfold oY;rfl
 | x::xs,hc,he=>by
  have ih:=Gr (xs:=xs) (p:=p) (φ:=φ) (λy hy=>hc y (C8 _ hy)) λy hy=>he y (C8 _ hy);unfold oY;rw[hc x D4,C4,j8];cases q:p x with
  | true=>rw[if_pos U,if_pos U,he x D4 q,ih];rfl
  | false=>rw[if_neg (by decide),if_neg (by decide)];exact ih
theorem Ag{fi:FA}{fr:List Nat}{fc:FT}{fe:FE}{e:DE}{xs ys:List D}(h1:fi e=ND xs)(hl:xs.length≤100000)(h:oY (λx=>fc (ND x::rH e fr)) (λx=>fe (ND x::rH e fr)) xs=ND ys):gF fi fr fc fe e=ND (.lst ys):=by unfold gF;rw[h1,C4,if_pos hl,h];rfl
theorem Ei(lo:Int)(n:Nat):(iY lo n).length=n:=by unfold iY;rw[B7,D8]
theorem Ql{lo:Int}{n k:Nat}{x:D}(h:(iY lo n)[k]?=ND x):k<n∧x=.int (lo+k):=by
 unfold iY at h;rw[B8]at h;cases q:(D2 n)[k]? with
 | none=>rw[q]at h;cases h
 | some j=>rw[q]at h;obtain⟨h1,h2⟩:=D1.mp q;rw[D8]at h1;rw[List.getElem_range]at h2;subst h2;exact⟨h1,(F4 h).symm⟩
theorem Ej{lo:Int}{n:Nat}{x:D}(h:x∈iY lo n):∃k:Nat,k<n∧x=.int (lo+k):=by obtain⟨k,hk,e⟩:=J6 h;obtain⟨a1,a2⟩:=Ql (k:=k) (x:=x) (by rw[B6 hk,e]);exact⟨k,a1,a2⟩
theorem KZ{fs:FA}{e:DE}{n:Int}(h:fs e=ND [.int n])(h1:-100000≤n)(h2:n≤100000):tD fs e=ND (iY 0 n.toNat):=by unfold tD;rw[h];dsimp only[C4];rw[if_pos (show lim n=NG from decide_eq_true ⟨h1,h2⟩)]
theorem LC{fs:FA}{e:DE}{i j:Int}(h:fs e=ND [.int i,.int j])(h1:-100000≤i)(h2:i≤100000)(h3:-100000≤j)(h4:j≤100000):Pg fs e=ND (iY i (j-i).toNat):=by unfold Pg;rw[h];dsimp only[C4];rw[if_pos ⟨show lim i=NG from decide_eq_true ⟨h1,h2⟩,show lim j=NG from decide_eq_true ⟨h3,h4⟩⟩]
theorem Ek{i j:Int}(h1:-18446744073709551616<i)(h2:i<18446744073709551616):Su i j:=.inl ⟨h1,h2⟩
theorem aH8{i j:Int}(h1:-18446744073709551616<j)(h2:j<18446744073709551616):Su i j:=.inr ⟨h1,h2⟩
theorem aGk{i:Nat}{f:FE}{env:EN}{ds:List D}{d:D}(h1:env[i]?=ND (.own (.lst ds)))(h2:f (rE env)=ND d)(hl:ds.length<100000):Eb i cW f env=.next (env.set i (.own (.lst (ds++[d])))):=by unfold Eb cW;rw[h1,h2];dsimp only[eO];rw[if_pos hl];rfl
end L2


namespace L2
open PySem PySem.Spec PyProof.Rows
section
variable{i j:Nat}{f:FE}{c:FT}{g1 g2 g:GS}{env env':EN}{d:D}{r:SR}{ds:List D}
theorem aBq(h:f (rE env)=ND d)(hi:i<env.length)(k:g (env.set i (.own d))=r):aX (dG i f) g env=r:=(fW (xG h hi)).trans k
theorem aEK{b:Bool}(h:c (rE env)=ND b)(k1:b=NG→aX g1 g env=r)(k2:b=NH→aX g2 g env=r):aX (qM c g1 g2) g env=r:=by
 cases b with
 | true=>have k:=k1 rfl;unfold aX at k ⊢;rw[vW h];exact k
 | false=>have k:=k2 rfl;unfold aX at k ⊢;rw[mK h];exact k
theorem aGl{b:Bool}(h:c (rE env)=ND b)(hb:b=NH)(k:aX g2 g env=r):aX (qM c g1 g2) g env=r:=aEK h (λz=>by rw[hb]at z;cases z) λ_=>k
theorem aGm{b:Bool}(h:c (rE env)=ND b)(hb:b=NG)(k:aX g1 g env=r):aX (qM c g1 g2) g env=r:=aEK h (λ_=>k) (λz=>by rw[hb]at z;cases z)
theorem aH9(k:g env=r):aX fG g env=r:=k
theorem aIa(h:f (rE env)=ND d)(k:SR.ret d=r):aX (fO f) g env=r:=(Qk (gC h)).trans k
theorem aIb(h:g1 env=.next env')(k:g env'=r):aX g1 g env=r:=(fW h).trans k
theorem uy(h:env[i]?=ND (.own d)):Dj i env=.ret d:=by unfold Dj;rw[h]
theorem oE{fs:FA}{e:DE}(h:fs e=ND ds)(hl:ds.length≤100000):vQ fs e=ND (.tup ds):=by unfold vQ cap;rw[h];dsimp only[C4];rw[if_pos hl]
theorem fQ{fs:FA}{e:DE}(h:fs e=ND ds)(hl:ds.length≤100000):kE fs e=ND (.lst ds):=by unfold kE cap;rw[h];dsimp only[C4];rw[if_pos hl]
theorem pZ{e:DE}{z:Int}(h:f e=ND (.int z)):zK f e=ND (.int (-z)):=by unfold zK;rw[h];rfl
theorem Yz{e:DE}{T:String}{d':D}(h:f e=ND d)(k:JB T d=ND d'):VF T f e=ND d':=by unfold VF;rw[h];exact k
theorem aBr{e:DE}{b:Bool}(h:f e=ND (.bl b)):HQ f e=ND (.bl (!b)):=by unfold HQ;rw[bZ h];rfl
theorem jc{e:DE}{f':FE}(h:f e=ND (.bl NG))(k:f' e=ND d):Uz f f' e=ND d:=by unfold Uz;rw[bZ h];exact k
theorem Nb{e:DE}{c':FT}{a b:Bool}(h:c e=ND a)(k:c' e=ND b):Cu c c' e=ND (a&&b):=by
 unfold Cu;rw[h];cases a with
 | true=>exact k
 | false=>rfl
theorem iV{e:DE}(h:f e=ND (.lst ds)):lM f e=ND ds:=by unfold lM;rw[h];rfl
theorem aBs{e:DE}(h:f e=ND (.tup ds)):lM f e=ND ds:=by unfold lM;rw[h];rfl
theorem Vr{a b:List D}(h:D.gY (a++b)=NG)(hl:a.length+b.length≤100000):dJ (.lst a) (.lst b)=ND (.lst (a++b)):=by show (if D.gY (a++b)=NG∧a.length+b.length≤100000 then ND (D.lst (a++b))else none)=_;rw[if_pos ⟨h,hl⟩]
theorem sO(d:D)(ds:List D):D.gY (d::ds)=(d.jK&&D.gY ds):=by rw[D.gY]
theorem LK{a b:List D}:D.gY (a++b)=(D.gY a&&D.gY b):=by
 induction a with
 | nil=>rw[Y1,D.gY];rfl
 | cons x a ih=>rw[P0,sO,sO,ih,Bool.and_assoc]
theorem Qm{ds:List D}(h:∀d∈ds,d.jK=NG):D.gY ds=NG:=by
 induction ds with
 | nil=>unfold D.gY;rfl
 | cons d ds ih=>unfold D.gY;rw[h d D4,ih λe he=>h e (C8 _ he)];rfl
theorem lU(ns:List Int):(dTup ns).jK=NG:=by unfold dTup D.jK;exact cV ns
theorem oR(h:D.gY ds=NG):dList [.lst ds]=ND (.lst ds):=by show (if D.gY ds=NG then ND (D.lst ds)else none)=_;rw[if_pos h]
theorem xK(ns:List Int):pL (ns.map D.int)=ND (ns.map DV.int):=by
 induction ns with
 | nil=>unfold pL;rfl
 | cons n ns ih=>rw[D3];unfold pL jO;rw[C4,ih];rfl
theorem LQ(ns ms:List Int):Il (aH ns) (aH ms)=ND (.bl (decide (ns=ms))):=by
 unfold Il toV;dsimp only;unfold jO;rw[xK,xK];dsimp only[G1];rw[if_pos (by unfold DV.depth;rw[wU];decide)];congr 2;rw[M8,vN,decide_eq_true_iff];constructor
 ·intro z;injection z with z;exact GR.mp z
 ·intro z;rw[z]
end
end L2
namespace L2
theorem cI{i:Nat}{e:DE}{d:D}(h:e[i]?=ND (ND d)):aD i e=ND d:=by unfold aD;rw[h];rfl
theorem aIc{e:DE}{d:D}:fC d e=ND d:=rfl
theorem aBt{e:DE}:aK e=ND []:=rfl
end L2
namespace L2
theorem aBu{i:Nat}{fi:FA}{gb:GS}{env:EN}{n:Nat}(I:Nat→EN→Prop)(h:fi (rE env)=ND (iY 0 n))(h0:I 0 env)
  (st:∀(k:Nat) env,k<n→I k env→i<env.length∧∃env',gb (env.set i (.fro (.int k)))=.next env'∧I (k+1) env'):∃env',Dk i fi gb env=.next env'∧I n env':=by
 obtain⟨env',h1,h2⟩:=Jq (i:=i) (g:=gb) I (iY 0 n) env 0 h0 λk x e hx hi=>by rw[Q4]at hi ⊢;obtain⟨hk,rfl⟩:=Ql hx;rw[f7];exact st k e hk hi
 rw[Q4,Ei]at h2;exact⟨env',(aBo h).trans h1,h2⟩
theorem Vs{α β:Type}(φ:α→β):∀(l:List α)(k:Nat),(l.map φ).eraseIdx k=(l.eraseIdx k).map φ
 | [],k=>by simp
 | a::l,0=>by simp
 | a::l,k+1=>by rw[D3,M6,M6,D3,Vs φ l k]
theorem Za{i j:Nat}{f:FE}{env:EN}{ns ms:List Int}{k:Int}(h1:env[i]?=ND (.own (aH ns)))(h2:env[j]?=ND (.own (aH ms)))(h3:f (rE env)=ND (.int k))(hij:i≠j)(hn:ns.length<1000)(hm:ms.length<1000)(k0:0≤k)(k1:k<ms.length) :
  Bj i j f env=.next ((env.set j (.own (aH (ms.eraseIdx k.toNat)))).set i (.own (aH (ns++[ms.getD k.toNat 0])))):=by
 have hk:k.toNat<ms.length:=by omega
 unfold Bj;rw[h1,h2,h3];dsimp only;rw[if_pos ⟨hij,by rw[B7];omega,k0,by rw[B7];exact k1,by rw[B7];omega⟩];have e:(ms.map D.int)[k.toNat]?=ND (.int (ms.getD k.toNat 0)):=by rw[B8,B9,B6 hk];rfl
 rw[e];dsimp only;rw[if_pos (show D.jK (.int (ms.getD k.toNat 0))=NG from rfl)];have e1:(ms.map D.int).eraseIdx k.toNat=(ms.eraseIdx k.toNat).map D.int:=by rw[Vs]
 have e2:ns.map D.int++[D.int (ms.getD k.toNat 0)]=(ns++[ms.getD k.toNat 0]).map D.int:=by rw[G0];rfl
 rw[e1,e2]
theorem El(ns:List Int)(n:Int):D.lst (ns.map D.int++[.int n])=aH (ns++[n]):=by unfold aH;rw[G0];rfl
end L2


namespace L2
open PySem PySem.Spec PyProof.Rows
def Qs(Pr:SR→Prop)(r:SR):Prop:=Pr r
section
variable{i j:Nat}{f:FE}{c:FT}{g1 g2 g gb:GS}{env env':EN}{d:D}{ds:List D}{Pr:SR→Prop}
theorem cN(h:f (rE env)=ND d)(hi:i<env.length)(k:Qs Pr (g (env.set i (.own d)))):Qs Pr (aX (dG i f) g env):=by rw[fW (xG h hi)];exact k
theorem aGn(h:f (rE env)=ND d)(hi:i<env.length)(k:Pr (.next (env.set i (.own d)))):Qs Pr (dG i f env):=by rw[xG h hi];exact k
theorem Tp(h:g1 env=.next env')(k:Qs Pr (g env')):Qs Pr (aX g1 g env):=by rw[fW h];exact k
theorem vG(k:Qs Pr (g env)):Qs Pr (aX fG g env):=k
theorem aBv(k:Pr (.next env)):Qs Pr (fG env):=k
theorem Gs{b:Bool}(h:c (rE env)=ND b)(k1:b=NG→Qs Pr (aX g1 g env))(k2:b=NH→Qs Pr (aX g2 g env)):Qs Pr (aX (qM c g1 g2) g env):=by
 cases b with
 | true=>have k:=k1 rfl;unfold aX at k ⊢;rw[vW h];exact k
 | false=>have k:=k2 rfl;unfold aX at k ⊢;rw[mK h];exact k
theorem aBw{b:Bool}(h:c (rE env)=ND b)(k1:b=NG→Qs Pr (g1 env))(k2:b=NH→Qs Pr (g2 env)):Qs Pr (qM c g1 g2 env):=by
 cases b with
 | true=>rw[vW h];exact k1 U
 | false=>rw[mK h];exact k2 U
theorem pB{b:Bool}(h:c (rE env)=ND b)(hb:b=NH)(k:Qs Pr (aX g2 g env)):Qs Pr (aX (qM c g1 g2) g env):=Gs h (λz=>by rw[hb]at z;cases z) λ_=>k
theorem aIe{b:Bool}(h:c (rE env)=ND b)(hb:b=NG)(k:Qs Pr (aX g1 g env)):Qs Pr (aX (qM c g1 g2) g env):=Gs h (λ_=>k) (λz=>by rw[hb]at z;cases z)
theorem Vt(h:f (rE env)=ND d)(k:Pr (.ret d)):Qs Pr (aX (fO f) g env):=by rw[Qk (gC h)];exact k
theorem pC(h:f (rE env)=ND d)(k:Pr (.ret d)):Qs Pr (fO f env):=by rw[gC h];exact k
theorem aBx(h:env[i]?=ND (.own d))(k:Pr (.ret d)):Qs Pr (Dj i env):=by rw[uy h];exact k
theorem Zb{fi:FA}{n:Nat}(I:Nat→EN→Prop)(h:fi (rE env)=ND (iY 0 n))(h0:I 0 env)
  (st:∀(k:Nat) env,k<n→I k env→i<env.length∧Qs (λr=>∃env',r=.next env'∧I (k+1) env') (gb (env.set i (.fro (.int k))))) (k:∀env',I n env'→Qs Pr (g env')):Qs Pr (aX (Dk i fi gb) g env):=by
 obtain⟨env',h1,h2⟩:=aBu (gb:=gb) I h h0 λk env hk hi=>⟨(st k env hk hi).1,let ⟨e,a,b⟩:=(st k env hk hi).2;⟨e,a,b⟩⟩
 rw[fW h1];exact k env' h2
theorem aBy{js:List Nat}{fi:FA}{Dz:EN}{xs:List D}(I:Nat→EN→Prop)(hf:zA js env=Dz)(h:fi (zE Dz)=ND xs)(h0:I 0 Dz)
  (st:∀(k:Nat) x env,xs[k]?=ND x→I k env→i<env.length∧Qs (λr=>∃env',r=.next env'∧I (k+1) env') (gb (env.set i (.fro x)))) (k:∀env',I xs.length env'→Qs Pr (g env')):Qs Pr (aX (Th js i fi gb) g env):=by
 obtain⟨env',h1,h2⟩:=Jq (i:=i) (g:=gb) I xs Dz 0 h0 λk x e hx hi=>by rw[Q4]at hi ⊢;exact⟨(st k x e hx hi).1,let ⟨e,a,b⟩:=(st k x e hx hi).2;⟨e,a,b⟩⟩
 rw[Q4]at h2;rw[fW ((iz hf h).trans h1)];exact k env' h2
theorem aIf{is:List Nat}(h:f (rE env)=ND (.tup ds))(hl:is.length=ds.length)(hi:is.all (λi=>decide (i<env.length))=NG)(k:Qs Pr (g (uN env is ds))):Qs Pr (aX (wW is f) g env):=by
 have:wW is f env=.next (uN env is ds):=by unfold wW;rw[h];dsimp only;rw[if_pos ⟨hl,hi⟩]
 rw[fW this];exact k
theorem qU{n m:Nat}{Pd:D→Prop}(hl:ds.length=m)(h:Qs (λr=>∃d,r=.ret d∧Pd d) (g (ds.map SD.fro++E4 (n-m) SD.no))):∃d,pN n m g ds=ND d∧Pd d:=by obtain⟨d,h1,h2⟩:=h;exact⟨d,nO hl h1,h2⟩
theorem Gu{fs:FA}{e:DE}{n:Nat}(h:fs e=ND [.int (n:Int)])(hn:n≤100000):tD fs e=ND (iY 0 n):=by rw[KZ h (by omega) (by omega),D7]
end
end L2
namespace L2
theorem Em{fi:FA}{fr:List Nat}{fe:FE}{e:DE}{n:Nat}{φ:Nat→D}(h1:fi e=ND (iY 0 n))(hn:n≤1000)(he:∀k:Nat,k<n→fe (ND (.int k)::rH e fr)=ND (φ k)):gF fi fr jN fe e=ND (.lst ((D2 n).map φ)):=by
 refine Ag h1 (by rw[Ei];omega) ?_;refine(Vq (c:=λx=>jN (ND x::rH e fr)) (φ:=λx=>match x with | .int i=>φ i.toNat | d=>d) (λ_ _=>rfl) ?_).trans ?_
 rotate_left
 ·congr 1;unfold iY;rw[K5];apply L4;intro k _;show φ ((0:Int)+(k:Int)).toNat=φ k;rw[f7,D7]
 ·intro x hx;obtain⟨k,hk,rfl⟩:=Ej hx;rw[f7];show _=ND (φ ((k:Int)).toNat);rw[D7];exact he k hk
theorem Br{fi:FA}{fr:List Nat}{fe:FE}{e:DE}{α:Type}{xs:List α}{ψ φ:α→D}(h1:fi e=ND (xs.map ψ))(hn:xs.length≤1000)(he:∀x∈xs,fe (ND (ψ x)::rH e fr)=ND (φ x)):gF fi fr jN fe e=ND (.lst (xs.map φ)):=by
 refine Ag h1 (by rw[B7];omega) ?_;clear h1 hn
 induction xs with
 | nil=>rw[J2,J2];unfold oY;rfl
 | cons x xs ih=>rw[D3];unfold oY;show (ND NG).bind _=_;rw[C4,if_pos U,he x D4,C4,ih λy hy=>he y (C8 _ hy)];rfl
theorem Qn{α:Type} [Inhabited α]:∀(l:List α)(k:Nat)(d:α),k<l.length→(l.getD k d::l.eraseIdx k).Perm l
 | [],k,d,h=>absurd h (by simp)
 | a::l,0,d,_=>by simp
 | a::l,k+1,d,h=>by rw[M6,U3];exact(m9 _ _ _).trans ((Qn l k d (by simpa using h)).cons a)
theorem mL{α:Type}{l:List α}{k:Nat}{x d:α}(h:l[k]?=ND x):l.getD k d=x:=by rw[B9,h];rfl
theorem tL{α:Type}{l:List α}{k:Nat}{d:α}(h:k<l.length):l[k]?=ND (l.getD k d):=by rw[B9,B6 h];rfl
theorem aGo{b:Bool}{f:FE}{l h:FO}{e:DE}{ds:List D}{lo hi:Option Int}(h1:f e=ND (.lst ds))(h2:l e=ND lo)(h3:h e=ND hi)(h4:b=NH∨D.gY (Cw ds lo hi)=NG):xx b f l h e=ND (.lst (Cw ds lo hi)):=by unfold xx;rw[h1,h2,h3];dsimp only[C4];rw[if_pos h4]
theorem xM(ns ms:List Int)(h:ns.length+ms.length≤100000):dJ (aH ns) (aH ms)=ND (aH (ns++ms)):=by have:=Vr (a:=ns.map D.int) (b:=ms.map D.int) (by rw[LK,cV,cV];rfl) (by rw[B7,B7];exact h);rw[←G0]at this;exact this
end L2


namespace L2
open PySem PySem.Spec PyProof.Rows
section
variable{i j:Nat}{f:FE}{c:FT}{g1 g2 g gb:GS}{env env':EN}{d:D}{ds:List D}{Pr:SR→Prop}
theorem aDE{x:D}(h:ds.getLast?=ND x):dI (.lst ds) (.int (-1))=ND x:=aDD h
theorem Vu{fc:FT}(I:Nat→EN→Prop)(hs:∀n env,I n env→(fc (rE env)=ND NH)∨(fc (rE env)=ND NG∧0<n∧∃env',gb env=.next env'∧I (n-1) env')):∀(fuel n:Nat)(env:EN),n<fuel→I n env→∃env' n',qT fc gb fuel env=.next env'∧I n' env'∧fc (rE env')=ND NH
 | 0,n,env,h,_=>absurd h (by omega)
 | fuel+1,n,env,h,hi=>by
  rcases hs n env hi with q | ⟨q,hn,env',h1,h2⟩
  ·exact⟨env,n,by unfold qT;rw[q],hi,q⟩
  ·obtain⟨e2,n2,a1,a2,a3⟩:=Vu I hs fuel (n-1) env' (by omega) h2;refine⟨e2,n2,?_,a2,a3⟩;unfold qT;rw[q,h1];exact a1
end
end L2
namespace L2
theorem jd{l:List Int}{b:Int}:(F2 b:Key)∈l.map (F2:Int→Key)↔b∈l:=by
 rw[G4];constructor
 ·rintro⟨a,h1,h2⟩;cases h2;exact h1
 ·intro h;exact⟨b,h,U⟩
theorem Ah{l:List Int}{b:Int}(h:b∉l):posK (l.map (F2:Int→Key)) (F2 b)=none:=Bg.mpr λz=>h (jd.mp z)
theorem aDF{i:Nat}{f f':FE}{env:EN}{ks:List Key}{ds:List D}{kd d:D}{k:Key}(h1:env[i]?=ND (.own (.dk ks ds)))(h2:f (rE env)=ND kd)(h3:f' (rE env)=ND d)(h4:Tf kd=ND k)(h5:posK ks k=none)(im:d.jK=NG)(hl:ks.length<100000):rJ i cW f f' env=.next (env.set i (.own (.dk (ks++[k]) (ds++[d])))):=by
 have e1:lF ks k=ks++[k]:=by unfold lF;rw[h5];rfl
 have e2:putD ks ds k d=ds++[d]:=by unfold putD;rw[h5];rfl
 unfold rJ cW;rw[h1,h2,h3];dsimp only[eO];rw[h4];dsimp only;rw[if_pos ⟨im,hl⟩,e1,e2];rfl
theorem Vv(l:List Int):D.lst ((l.map (F2:Int→Key)).map kD)=aH l:=by unfold aH;rw[K5];rfl
theorem aDG{fc:FT}{gb g:GS}{env:EN}{Pr:SR→Prop}{fuel n:Nat}(I:Nat→EN→Prop)(h0:I n env)(hn:n<fuel)(hs:∀n env,I n env→(fc (rE env)=ND NH)∨(fc (rE env)=ND NG∧0<n∧∃env',gb env=.next env'∧I (n-1) env'))
  (k:∀env' n',I n' env'→fc (rE env')=ND NH→Qs Pr (g env')):Qs Pr (aX (qT fc gb fuel) g env):=by
 obtain⟨env',n',a1,a2,a3⟩:=Vu I hs fuel n env hn h0;rw[fW a1];exact k env' n' a2 a3
end L2
namespace L2
theorem uz(ns:List Int):HF (ns.map D.int)=ND (ns.map V.int):=by
 induction ns with
 | nil=>unfold HF;rfl
 | cons n ns ih=>rw[D3];unfold HF toV;rw[C4,ih];rfl
theorem Gv(neg:Bool)(i:Int)(ns:List Int):dIn neg (.int i) (aH ns)=ND (.bl (if neg then !decide (i∈ns)else decide (i∈ns))):=by unfold dIn;show (ND (V.int i)).bind _=_;rw[C4];show (ND (ns.map D.int)).bind _=_;rw[C4,uz,C4,if_pos ⟨U,pq ns⟩,aC4]
theorem xN{ns:List Int}(h:ns.length<64):uL [aH ns]=ND (aH (sortI ns)):=by show (intsOf (ns.map D.int)).bind _=_;rw[kI,C4,if_pos h]
end L2


namespace L2
open PySem PySem.Spec PyProof.Rows
def Sh(ks:List Int):D:=.dk (ks.map F2) (ks.map λ_=>.bl NG)
theorem aBz(i:Int)(ks:List Int):(posK (ks.map (F2:Int→Key)) (F2 i)).isSome=decide (i∈ks):=by
 by_cases c:i∈ks
 ·rw[decide_eq_true c];cases q:posK (ks.map (F2:Int→Key)) (F2 i)with
  | some j=>rfl
  | none=>exact absurd (jd.mpr c) (Bg.mp q)
 ·rw[decide_eq_false c,Ah c];rfl
theorem Zc(neg:Bool)(i:Int)(ks:List Int):Ge neg (.int i) (Sh ks)=ND (.bl (if neg then !decide (i∈ks)else decide (i∈ks))):=by show ND (D.bl (if neg then !(posK (ks.map (F2:Int→Key)) (F2 i)).isSome else(posK (ks.map (F2:Int→Key)) (F2 i)).isSome))=_;rw[aBz]
def WQ(ks:List Int)(k:Int):List Int:=if k∈ks then ks else ks++[k]
theorem Vw(k:Key):∀ks:List Int,Q1 (λ(k':Key) (d':D)=>if k'=k then D.bl NG else d') (ks.map F2) (ks.map λ_=>D.bl NG)=ks.map λ_=>D.bl NG
 | []=>rfl
 | a::ks=>by
  rw[D3,D3,J1,Vw k ks]
  split<;>rfl
theorem aIg{i:Nat}{f f':FE}{env:EN}{ks:List Int}{k:Int}(h1:env[i]?=ND (.own (Sh ks)))(h2:f (rE env)=ND (.int k))(h3:f' (rE env)=ND (.bl NG))(hl:ks.length<1000):rJ i cW f f' env=.next (env.set i (.own (Sh (WQ ks k)))):=by
 unfold rJ cW;rw[h1,h2,h3];dsimp only[eO,Sh];show (if D.jK (.bl NG)=NG∧(ks.map (F2:Int→Key)).length<100000 then _ else _)=_;rw[if_pos ⟨U,by rw[B7];omega⟩];have e1:lF (ks.map (F2:Int→Key)) (F2 k)=(WQ ks k).map F2:=by
  unfold lF WQ;rw[aBz];by_cases c:k∈ks
  ·simp[c]
  ·simp[c]
 have e2:putD (ks.map (F2:Int→Key)) (ks.map λ_=>D.bl NG) (F2 k) (.bl NG)=(WQ ks k).map λ_=>D.bl NG:=by
  unfold putD WQ;rw[aBz];by_cases c:k∈ks
  ·rw[decide_eq_true c,if_pos U,if_pos c,Vw]
  ·rw[decide_eq_false c,if_neg (by decide),if_neg c,G0];rfl
 rw[e1,e2];rfl
theorem Bu{fi:FA}{fr:List Nat}{fc:FT}{fe:FE}{e:DE}{ms:List Int}(p:Int→Bool)(φ:Int→D)(h1:fi e=ND (ms.map D.int))(hn:ms.length≤1000)(hc:∀m∈ms,fc (ND (.int m)::rH e fr)=ND (p m))(he:∀m∈ms,p m=NG→fe (ND (.int m)::rH e fr)=ND (φ m)) :
  gF fi fr fc fe e=ND (.lst ((ms.filter p).map φ)):=by
 refine Ag h1 (by rw[B7];omega) ?_;clear h1 hn
 induction ms with
 | nil=>rw[J2];unfold oY;rfl
 | cons m ms ih=>
  have ih:=ih (λy hy=>hc y (C8 _ hy)) λy hy=>he y (C8 _ hy);rw[D3];unfold oY;rw[hc m D4,C4,j8];cases q:p m with
  | true=>rw[if_pos U,if_pos U,he m D4 q,C4,ih];rfl
  | false=>rw[if_neg (by decide),if_neg (by decide)];exact ih
theorem tO{fi:FA}{fr:List Nat}{fc:FT}{fe:FE}{e:DE}{ms:List Int}(p:Int→Bool)(φ:Int→Int)(h1:fi e=ND (ms.map D.int))(hn:ms.length≤1000)(hc:∀m∈ms,fc (ND (.int m)::rH e fr)=ND (p m))(he:∀m∈ms,p m=NG→fe (ND (.int m)::rH e fr)=ND (.int (φ m))) :
  gF fi fr fc fe e=ND (aH ((ms.filter p).map φ)):=by
 rw[Bu p (λm=>.int (φ m)) h1 hn hc he];unfold aH;rw[K5];rfl
theorem dB{φ:D→Option D}{f:FE}{e:DE}{a d:D}(h1:f e=ND a)(h:φ a=ND d):pY φ f e=ND d:=by unfold pY;rw[h1];exact h
theorem WR{ns:List Int}(h:ns.length<64):gq (aH ns)=ND (aH (fj ns)):=by show (intsOf (ns.map D.int)).bind _=_;rw[kI,C4,if_pos h]
theorem LR(ns:List Int):Pa [aH ns]=ND (dTup ns):=by unfold Pa;dsimp only;rw[show zJ (aH ns)=ND (ns.map D.int)from by unfold aH zJ;rfl,C4,if_pos (cV _)];rfl
theorem WT{ns:List Int}(h:0<ns.length):bh [aH ns]=ND (.int (UJ ns)):=by show (intsOf (ns.map D.int)).bind _=_;rw[kI,C4,if_pos h]
theorem MF{α β:Type}(φ:α→β)(l:List α)(lo hi:Option Int):Cw (l.map φ) lo hi=(Cw l lo hi).map φ:=by unfold Cw;rw[B7,←S7,←S6]
theorem MJ{b:Bool}{f:FE}{l h:FO}{e:DE}{ns:List Int}{lo hi:Option Int}(h1:f e=ND (aH ns))(h2:l e=ND lo)(h3:h e=ND hi):xx b f l h e=ND (aH (Cw ns lo hi)):=by rw[aGo h1 h2 h3 (.inr (by rw[MF];exact cV _)),MF]
theorem aGp{α:Type}(l:List α)(c:Nat):Cw l none (ND (c:Int))=l.take c:=by
 unfold Cw;show (l.drop 0).take (HT.Nt l.length l.length (ND (c:Int))-0)=_;rw[Oi,n9,f9];rcases J8 c l.length with z | z
 ·rw[show min c l.length=c by omega]
 ·rw[show min c l.length=l.length by omega,S0 (C6 _),S0 z]
theorem aBA{α:Type}(l:List α)(a b:Nat):Cw l (ND (a:Int)) (ND (b:Int))=(l.drop a).take (b-a):=by
 unfold Cw;rw[Oi,Oi];refine K6 λk=>?_;rw[g6,V0,g6,V0];rcases J8 a l.length with z | z
 ·rw[show min a l.length=a by omega];by_cases c:k<min b l.length-a
  ·rw[if_pos c,if_pos (by omega)]
  ·rw[if_neg c];by_cases c2:k<b-a
   ·rw[if_pos c2,E8 (by omega)]
   ·rw[if_neg c2]
 ·rw[show min a l.length=l.length by omega,E8 (show l.length≤l.length+k by omega),E8 (show l.length≤a+k by omega)]
  split<;>split<;>rfl
structure vX where
 eX:Int
 place:Int
 thing:List Int
 needs:List Int
 deriving Inhabited
def DK(c:vX):D:=.tup [.int c.eX,.int c.place,dTup c.thing,dTup c.needs]
def xO(cs:List vX):D:=.lst (cs.map DK)
theorem aGq(c:vX):(DK c).jK=NG:=by unfold DK D.jK;rw[sO,sO,sO,sO,lU,lU];rfl
abbrev at_(cs:List vX)(k:Nat):vX:=cs.getD k default
theorem Zd{cs:List vX}{k:Nat}(h:k<cs.length):dI (xO cs) (.int k)=ND (DK (at_ cs k)):=nZ (by omega) (by
 rw[D7,B8,tL (d:=default) h]
 rfl)
theorem je(c:vX):dI (DK c) (.int 0)=ND (.int c.eX):=uO (by decide) U
theorem MK(c:vX):dI (DK c) (.int 1)=ND (.int c.place):=uO (by decide) U
theorem Qo(c:vX):dI (DK c) (.int 2)=ND (dTup c.thing):=uO (by decide) U
theorem MN(c:vX):dI (DK c) (.int 3)=ND (dTup c.needs):=uO (by decide) U
theorem Ze(cs:List vX):jP [xO cs]=ND (.int cs.length):=by show ND (D.int ((cs.map DK).length:Nat))=_;rw[B7]
def Good(cs:List vX):Prop:=cs.length≤124∧∀k,k<cs.length→(∀m∈(at_ cs k).needs,0≤m∧m<k)∧(at_ cs k).needs.Pairwise (·<·)∧(at_ cs k).needs.length≤9
def chV(c:vX):DV:=.tup [.int c.eX,.int c.place,.tup (c.thing.map DV.int),.tup (c.needs.map DV.int)]
theorem MP(ns ms:List Int):Gd (aH ns) (aH ms)=ND (.bl (!decide (ns=ms))):=by
 have e:∀l:List Int,jO (aH l)=ND (.lst (l.map DV.int)):=λl=>by unfold aH jO;rw[xK];rfl
 unfold Gd;rw[e,e];unfold toV;dsimp only;rw[if_pos (by rw[wU];decide)];congr 3;rw[M8,vN,decide_eq_true_iff];constructor
 ·intro z;injection z with z;exact GR.mp z
 ·intro z;rw[z]
end L2
namespace L2
theorem Jr{f:FE}{e:DE}{i:Int}(h:f e=ND (.int i)):qR f e=ND (ND i):=by unfold qR;rw[h];rfl
theorem aBB(ks:List Int):Oz [Sh ks]=ND (aH ks):=by show ND (D.lst ((ks.map (F2:Int→Key)).map kD))=_;rw[Vv]
theorem tQ{cs:List vX}{c:vX}{k:Nat}(h:k<cs.length):at_ (cs++[c]) k=at_ cs k:=by unfold at_;rw[B9,B9,G9 h]
theorem xP(cs:List vX)(c:vX):at_ (cs++[c]) cs.length=c:=by unfold at_;rw[B9,N1 (C6 _)];simp
theorem vd(cs:List vX)(c:vX):D.lst (cs.map DK++[DK c])=xO (cs++[c]):=by unfold xO;rw[G0];rfl
theorem vf{f:FE}{e:DE}{ns:List Int}(h:f e=ND (dTup ns)):lM f e=ND (ns.map D.int):=aBs h
end L2
namespace L2
theorem Vx(i j:Int):HX [.int i,.int j]=ND (.int (if j > i then j else i)):=rfl
end L2


namespace L2
open PySem PySem.Spec PyProof.Rows
theorem jf{e:DE}{f f':FE}{a b:Bool}(h:f e=ND (.bl a))(k:f' e=ND (.bl b)):Tg f f' e=ND (.bl (a||b)):=by
 unfold Tg;rw[bZ h];cases a with
 | true=>rfl
 | false=>exact k
theorem MT{α:Type}(p:α→Bool)(l:List α):aAE [.lst (l.map λx=>D.bl (p x))]=ND (.bl (l.all p)):=by show (Di (l.map λx=>D.bl (p x))).map _=_;rw[Vc];show ND (D.bl ((l.map p).all id))=_;rw[List.all_map];rfl
end L2


namespace L2
open PySem PySem.Spec PyProof.Rows
theorem pO:∀(n:Nat)(l:List Int),l.Nodup→(∀x∈l,0≤x∧x<(n:Int))→l.length≤n
 | 0,l,_,h=>by
  cases l with
  | nil=>exact C6 _
  | cons a l=>have:=h a D4;omega
 | n+1,l,hn,h=>by
  by_cases c:(n:Int)∈l
  ·have e:=X2 c;have:=pO n (l.erase (n:Int)) (hn.erase _) λx hx=>by obtain⟨h1,h2⟩:=(hn.mem_erase_iff).mp hx;have:=h x h2;omega
   omega
  ·have:=pO n l hn λx hx=>by have:=h x hx;have ne:x≠(n:Int):=λz=>c (by rw[←z];exact hx);omega
   omega
section
variable{i j:Nat}{f f':FE}{c:FT}{g1 g2 g gb:GS}{env env':EN}{d d0 d' r:D}{ds:List D}{Pr:SR→Prop}{v:V}{π:FP}{p:List Step}
theorem lC{n m:Nat}(hl:ds.length=m)(h:g (ds.map SD.fro++E4 (n-m) SD.no)=.ret d):mV n m g ds=ND d:=by unfold mV;rw[if_pos hl,h]
theorem En{n m:Nat}(hl:ds.length=m)(h:g (ds.map SD.fro++E4 (n-m) SD.no)=.next env'):mV n m g ds=ND .non:=by unfold mV;rw[if_pos hl,h]
theorem jg{n m:Nat}{Pd:D→Prop}(hl:ds.length=m)(h:Qs (λr=>∃d,r=.ret d∧Pd d) (g (ds.map SD.fro++E4 (n-m) SD.no))):∃d,mV n m g ds=ND d∧Pd d:=by obtain⟨d,h1,h2⟩:=h;exact⟨d,lC hl h1,h2⟩
theorem pD{n m:Nat}{es:List D}(hl:es.length+1=m)(h:∀v,Qs (JN r d' v) (g (uf n m d es v))):nM n m g (d::es)=ND (r,d'):=aA8 hl h
theorem jh(h1:env[i]?=ND (.inn v d))(h2:g1 (env.set i (.own d))=.next env')(h3:env'[i]?=ND (.own d')):jL i g1 env=.next (env'.set i (.inn v d')):=by unfold jL;rw[h1];dsimp only;rw[h2];dsimp only;rw[h3]
theorem pF(h1:env[i]?=ND (.inn v d))(h2:g1 (env.set i (.own d))=.next env')(h3:env'[i]?=ND (.own d'))(k:Qs Pr (g (env'.set i (.inn v d')))):Qs Pr (aX (jL i g1) g env):=by rw[fW (jh h1 h2 h3)];exact k
theorem WW(h1:env[i]?=ND (.inn v d))(h2:g1 (env.set i (.own d))=.next env')(h3:env'[i]?=ND (.own d'))(k:Pr (.next (env'.set i (.inn v d')))):Qs Pr (jL i g1 env):=by rw[jh h1 h2 h3];exact k
theorem Gw(h:f (rE env)=ND d):yU f env=.next env:=by unfold yU;rw[h]
theorem WX(h:f (rE env)=ND d)(k:Qs Pr (g env)):Qs Pr (aX (yU f) g env):=by rw[fW (Gw h)];exact k
theorem Qp(h1:env[i]?=ND (.own d0))(h2:π (rE env)=ND p)(h3:eO p d0=ND (.lst ds))(h4:f (rE env)=ND d)(hl:ds.length<100000):Eb i π f env=.next (env.set i (.own (dR p d0 (.lst (ds++[d]))))):=by unfold Eb;rw[h1,h2,h4];dsimp only;rw[h3];dsimp only;rw[if_pos hl]
theorem Zf{k:Int}(h1:env[i]?=ND (.own d0))(h2:π (rE env)=ND p)(h3:eO p d0=ND (.lst ds))(h4:f (rE env)=ND (.int k))(h5:f' (rE env)=ND d)(k0:0≤k)(k1:k<ds.length):uM i π f f' env=.next (env.set i (.own (dR p d0 (.lst (ds.set k.toNat d))))):=by
 unfold uM;rw[h1,h2,h4,h5];dsimp only;rw[h3];dsimp only;have:Up ds.length k=ND k.toNat:=by unfold Up;rw[if_pos k0,if_pos k1]
 rw[this]
theorem Nf{ks:List Key}{k:Key}{kd:D}(h1:env[i]?=ND (.own d0))(h2:π (rE env)=ND p)(h3:eO p d0=ND (.dk ks ds))(h4:f (rE env)=ND kd)(h5:Tf kd=ND k)(h6:f' (rE env)=ND d)(im:d.jK=NG)(hl:ks.length<100000):rJ i π f f' env=.next (env.set i (.own (dR p d0 (.dk (lF ks k) (putD ks ds k d))))):=by unfold rJ;rw[h1,h2,h4,h6];dsimp only;rw[h3,h5];dsimp only;rw[if_pos ⟨im,hl⟩]
theorem aDH{ks:List (List Key)}{k:List Key}{fk:FK}(h1:env[i]?=ND (.own d0))(h2:π (rE env)=ND p)(h3:eO p d0=ND (.dt ks ds))(h4:fk (rE env)=ND k)(h6:f' (rE env)=ND d)(im:d.jK=NG)(hl:ks.length<100000):Vj i π fk f' env=.next (env.set i (.own (dR p d0 (.dt (lF ks k) (putD ks ds k d))))):=by unfold Vj;rw[h1,h2,h4,h6];dsimp only;rw[h3];dsimp only;rw[if_pos ⟨im,hl⟩]
theorem aGr{C:A7}{nm:List Str}{x:Str}(h1:env[i]?=ND (.own d0))(h2:π (rE env)=ND p)(h3:eO p d0=ND (.ins C nm ds))(h4:f (rE env)=ND d)(hl:nm.length<900):vV C i π x f env=.next (env.set i (.own (dR p d0 (.ins C (Vg nm ds x d).1 (Vg nm ds x d).2)))):=by unfold vV;rw[h1,h2,h4];dsimp only;rw[h3];dsimp only;rw[if_pos ⟨U,hl⟩]
theorem bL{C:A7}{m:Str}{n:Nat}{F:List D→Option D}{fo:FE}{fs:FA}{ud es:List D}{e:DE}{nm:List Str}(h1:fo e=ND (.ins C nm ds))(hm:m∉nm)(h2:fs e=ND es)(hl:es.length+ud.length+1=n)(h3:F (.ins C nm ds::(es++ud))=ND r):bK C m n F fo fs ud e=ND r:=by unfold bK;rw[h1];dsimp only[C4];rw[if_pos ⟨U,hm⟩,h2];dsimp only[C4];rw[if_pos hl];exact h3
theorem lA{C:A7}{m:Str}{F:List D→Option (D×D)}{fs:FA2}{es:List D}{nm:List Str}{back:D→SD}(h1:env[i]?.bind SD.hold=ND (d0,back))(h2:π (rE env)=ND p)(h3:eO p d0=ND (.ins C nm ds))(hm:m∉nm)(h4:fs (rE env) (rE (env.set i .no))=ND es)(h5:F (.ins C nm ds::es)=ND (r,d')):pM C m i π F fs env=ND (r,env.set i (back (dR p d0 d'))):=by unfold pM;rw[h1,h2,h4];dsimp only;rw[h3];dsimp only;rw[if_pos ⟨U,hm⟩,h5];rfl
theorem Qq{C:A7}{F:List D→Option (D×D)}{fs:FA}{e:DE}{es:List D}(h1:fs e=ND es)(h2:F (.ins C [] []::es)=ND (.non,d')):Vi C F fs e=ND d':=by unfold Vi;rw[h1];dsimp only[C4];rw[h2]
theorem gR{fs:FA2}{eF eZ:DE}{es:List D}(h1:f eZ=ND d)(h2:fs eF eZ=ND es):Cz f fs eF eZ=ND (d::es):=by unfold Cz;rw[h1,h2];rfl
theorem Ai{fs:FA2}{eF eZ:DE}{es:List D}(h1:f eF=ND d)(h2:fs eF eZ=ND es):gr f fs eF eZ=ND (d::es):=by unfold gr;rw[h1,h2];rfl
theorem Zg{gm:GM}(h:gm env=ND (d,env'))(hi:i<env'.length)(k:Qs Pr (g (env'.set i (.own d)))):Qs Pr (aX (Gj i gm) g env):=by
 have:Gj i gm env=.next (env'.set i (.own d)):=by unfold Gj;rw[h];dsimp only;rw[if_pos hi]
 rw[fW this];exact k
theorem Vy{gm:GM}(h:gm env=ND (d,env')):vD gm env=.next env':=by unfold vD;rw[h]
theorem Ng{gm:GM}(h:gm env=ND (d,env'))(k:Qs Pr (g env')):Qs Pr (aX (vD gm) g env):=by rw[fW (Vy h)];exact k
theorem Gx{gm:GM}(h:gm env=ND (d,env'))(k:Pr (.rete d env')):Qs Pr (Ae gm env):=by
 have:Ae gm env=.rete d env':=by unfold Ae;rw[h]
 rw[this];exact k
theorem Nh(h:env[i]?=ND (.own d))(k:Pr (.rete d (env.set i .no))):Qs Pr (wY i env):=by
 have:wY i env=.rete d (env.set i .no):=by unfold wY;rw[h]
 rw[this];exact k
theorem aBC(h:f (rE env)=ND d):gmN f env=ND (d,env):=by unfold gmN;rw[h];rfl
theorem Zh{f1 f2 f3:FE}{e:DE}{a b c:Int}(h1:f1 e=ND (.int a))(h2:f2 e=ND (.int b))(h3:f3 e=ND (.int c)):ug dLe xu f1 f2 f3 e=ND (decide (a≤b)&&decide (b<c)):=by
 unfold ug;rw[h1,h2,h3];dsimp only[C4];rw[Yy,C4];by_cases q:a≤b
 ·rw[decide_eq_true q];dsimp only;rw[xH,C4];simp
 ·rw[decide_eq_false q];simp
theorem Vz{all:List D}(I:Nat→EN→Prop)(hI:∀k env,I k env→env[j]?=ND (.inn v (.lst all))):∀(xs:List D)(n:Nat)(env:EN),I n env→(∀k x env,xs[k]?=ND x→I (n+k) env→i<env.length∧∃fH,g (env.set i (.fro x))=.next fH∧I (n+k+1) fH)→∃fH,zL j i g v all xs env=.next fH∧I (n+xs.length) fH
 | [],n,env,h,_=>⟨env,by unfold zL;rw[if_pos (hI _ _ h)],h⟩
 | x::xs,n,env,h,st=>by
  obtain⟨h1,fH,h2,h3⟩:=st 0 x env U h;obtain⟨e3,a1,a2⟩:=Vz I hI xs (n+1) fH h3 λk y e hk hi=>by have:=st (k+1) y e (by simpa using hk) (by rw[show n+(k+1)=n+1+k by omega];exact hi);rw[show n+(k+1)+1=n+1+k+1 by omega]at this;exact this
  refine⟨e3,?_,?_⟩
  ·unfold zL;rw[if_pos ⟨h1,hI _ _ h⟩,h2];exact a1
  ·rw[E9,show n+(xs.length+1)=n+1+xs.length by omega];exact a2
def lv(ns:List Int)(o:SD):Nat→SD
 | 0=>o
 | k+1=>.fro (.int (ns.getD k 0))
theorem WY{ns:List Int}(env':EN)(h:env[j]?=ND (.own (aH ns)))(h1:env'[j]?=ND (.own (aH ns)))(I:V→Nat→EN→Prop)(h0:∀v,I v 0 (env.set j (.inn v (aH ns))))(hI:∀v k env,I v k env→env[j]?=ND (.inn v (aH ns)))(st:∀v k x env,ns[k]?=ND x→I v k env→i<env.length∧∃fH,gb (env.set i (.fro (.int x)))=.next fH∧I v (k+1) fH)(fin:∀v fH,I v ns.length fH→fH=env'.set j (.inn v (aH ns)))(k:Qs Pr (g env')):Qs Pr (aX (Dl j i gb) g env):=by
 have:Dl j i gb env=.next env':=aBa h h1 λv=>by
  obtain⟨e2,a1,a2⟩:=Vz (i:=i) (g:=gb) (I v) (hI v) (ns.map D.int) 0 _ (h0 v) λk x e hx hi=>by
   rw[Q4]at hi ⊢;rw[B8]at hx;cases q:ns[k]? with
   | none=>rw[q]at hx;cases hx
   | some y=>rw[q]at hx;cases hx;exact st v k y e q hi
  rw[Q4,B7]at a2;rw[a1,fin v e2 a2]
 rw[fW this];exact k
theorem Bv(neg:Bool)(a:D):zM neg a .non=ND (.bl (if neg then !a.JX else a.JX)):=rfl
theorem aEL{f g:FE}{e:DE}(h:c e=ND NG)(h2:f e=ND d):fIf c f g e=ND d:=by unfold fIf;rw[h];exact h2
theorem aEM{f g:FE}{e:DE}(h:c e=ND NH)(h2:g e=ND d):fIf c f g e=ND d:=by unfold fIf;rw[h];exact h2
end
end L2


local macro_rules | `(tactic| walk_at "fs")=>`(tactic| exact⟨rfl,rfl,rfl,by decide +kernel,rfl,by decide +kernel,by decide +kernel⟩)
namespace Rs
open PySem L2
def top(i:Nat):AH:=PySem.Challenge.pw_ripestone_k30_order_and_free.main.body.getD i (.Pass ⟨0,0,0,0⟩)
def jQ:List Str:=["panes", "asked", "newest", "held", "unsettled"]
def dF:List Str:=["bench", "spots", "string", "loose", "lasts", "comings", "goings"]
abbrev Qt:AH:=top 33
noncomputable def NB:GS:=aX (qM (fB (f2 xu (aD 1) (fL jP (aA (aD 0) aK)))) (fO (cO (f2 dI (aD 0) (aD 1)))) fG)
 (fO (fC (.int 0)))
noncomputable def lV:List D→Option D:=pN 2 2 (NB)
abbrev Js:AH:=top 37
noncomputable def Wa:GS:=aX (dG 1 (dD 2 lV (aA (aD 0) (aA (fC (.int 0)) aK))))
 (aX (qM (fB (f2 Il (f2 eV (f2 sX (aD 1) (fC (.int 30))) (fC (.int 8))) (fC (.int 1)))) (fO (vQ (aA (f2 dJ (fC (.int 1)) (f2 eV (aD 1) (fC (.int 8)))) (aA (f2 dJ (fC (.int 1)) (f2 eV (f2 sX (aD 1) (fC (.int 240))) (fC (.int 8)))) aK)))) fG)
 (fO (vQ (aA (f2 dJ (fC (.int 1)) (f2 eV (aD 1) (fC (.int 5)))) (aA (f2 dJ (fC (.int 1)) (f2 eV (f2 sX (aD 1) (fC (.int 5))) (fC (.int 6)))) aK)))))
noncomputable def vY:List D→Option D:=pN 2 1 (Wa)
abbrev Jt:AH:=top 36
noncomputable def Wc:GS:=aX (dG 2 (f2 eV (f2 sW (f2 dJ (f2 eV (aD 0) (fC (.int 2147483629))) (fC (.int 1))) (f2 dJ (fC (.int 48271)) (f2 sW (f2 sW (fC (.int 2)) (aD 1)) (aD 1)))) (fC (.int 2147483629))))
 (fO (f2 eV (f2 sW (aD 2) (aD 2)) (fC (.int 2147483587))))
noncomputable def lD:List D→Option D:=pN 3 2 (Wc)
abbrev Eo:AH:=top 38
noncomputable def Qu:GS:=aX (dG 4 (dD 2 lD (aA (aD 0) (aA (f2 sW (fC (.int 5)) (aD 1)) aK))))
 (aX (dG 5 (cO (f2 dI (kE (aA (fC (.int 0)) (aA (fC (.int 1)) (aA (fC (.int 2)) (aA (f2 sW (dD 2 lD (aA (aD 0) (aA (f2 dJ (f2 sW (fC (.int 5)) (aD 1)) (fC (.int 1))) aK))) (f2 zH (fC (.int 10)) (fC (.int 40)))) (aA (zK (fC (.int 1))) aK)))))) (f2 eV (aD 4) (fC (.int 5))))))
 (aX (dG 6 (fC (.int 0)))
 (aX (qM (fB (f2 Il (f2 eV (f2 sX (aD 4) (fC (.int 5))) (fC (.int 2))) (fC (.int 1)))) (dG 6 (f2 dJ (fC (.int 1)) (f2 eV (f2 sX (aD 4) (fC (.int 10))) (fC (.int 9))))) fG)
 (aX (qM (fB (f2 Il (aD 6) (fC (.int 0)))) (dG 5 (fL aDz (aA (aD 5) aK))) fG)
 (fO (vQ (aA (cO (aD 2)) (aA (cO (aD 3)) (aA (cO (f2 dI (kE (aA (zK (fC (.int 1))) (aA (fC (.int 0)) (aA (fC (.int 5)) (aA (aD 4) aK))))) (f2 eV (f2 sX (aD 4) (fC (.int 90))) (fC (.int 4))))) (aA (cO (aD 5)) (aA (cO (aD 6)) aK)))))))))))
noncomputable def pP:List D→Option D:=pN 7 4 (Qu)
abbrev vZ:AH:=top 39
noncomputable def Wd:GS:=aX (wW [1,2] (dD 1 vY (aA (aD 0) aK)))
 (aX (dG 3 (fL rR (aA (fC (.int 1)) (aA (f2 sW (aD 1) (aD 2)) aK))))
 (aX (dG 4 (kE (aA (fC (.int 0)) aK)))
 (aX (Dk 5 (tD (aA (f2 eV (dD 2 lV (aA (aD 0) (aA (fC (.int 1)) aK))) (f2 sW (aD 1) (aD 2))) aK)) (Bj 4 3 (f2 eV (dD 2 lD (aA (dD 2 lV (aA (aD 0) (aA (fC (.int 1)) aK))) (aA (aD 5) aK))) (fL jP (aA (aD 3) aK)))))
 (aX (dG 6 (gF (tD (aA (aD 1) aK)) [2] jN (gF (tD (aA (aD 1) aK)) [] jN (vQ (aA (fC (.int 0)) (aA (fC (.int 0)) (aA (zK (fC (.int 1))) (aA (zK (fC (.int 1))) (aA (fC (.int 0)) aK)))))))))
 (aX (dG 7 (dD 2 lV (aA (aD 0) (aA (fC (.int 2)) aK))))
 (aX (Th [3] 8 (lM (aD 3)) (uM 6 (Tj cW (f2 eV (aD 8) (aD 1))) (f2 sX (aD 8) (aD 1)) (dD 4 pP (aA (aD 7) (aA (aD 8) (aA (f2 eV (aD 7) (f2 zH (fC (.int 10)) (fC (.int 9)))) (aA (f2 eV (f2 sW (aD 8) (aD 8)) (f2 sW (aD 1) (aD 2))) aK)))))))
 (aX (dG 9 (f2 eV (aD 7) (f2 zH (fC (.int 10)) (fC (.int 58)))))
 (aX (Dk 5 (tD (aA (fL jP (aA (aD 4) aK)) aK)) (aX (dG 8 (cO (f2 dI (aD 4) (aD 5))))
 (aX (uM 6 (Tj cW (f2 eV (aD 8) (aD 1))) (f2 sX (aD 8) (aD 1)) (dD 4 pP (aA (aD 7) (aA (f2 dJ (aD 5) (fC (.int 100))) (aA (aD 9) (aA (f2 dI (f2 dJ (aD 4) (kE (aA (fC (.int 0)) aK))) (f2 dJ (aD 5) (fC (.int 1)))) aK))))))
 (dG 9 (f2 dJ (f2 dJ (aD 9) (fC (.int 1))) (f2 sW (f2 eV (dD 2 lD (aA (aD 7) (aA (f2 dJ (aD 5) (fC (.int 7))) aK))) (fC (.int 3))) (f2 dI (kE (aA (fC (.int 1)) (aA (f2 zH (fC (.int 10)) (fC (.int 40))) aK))) (f2 eV (aD 7) (fC (.int 2))))))))))
 (aX (Dk 10 (tD (aA (aD 1) aK)) (Eb 6 (Tj cW (aD 10)) (vQ (aA (f2 eV (dD 2 lD (aA (aD 7) (aA (f2 dJ (aD 10) (fC (.int 70))) aK))) (fC (.int 10))) aK))))
 (Dj 6))))))))))
noncomputable def wA:List D→Option D:=pN 11 1 (Wd)
abbrev tR:AH:=inClass (top 13) 0
noncomputable def Qv(κ:Nat→A7):GS:=aX (jL 0 (vV (κ 0) 0 cW "panes" (gF (lM (aD 1)) [] jN (fL dList (aA (aD 0) aK)))))
 (aX (jL 0 (vV (κ 0) 0 cW "asked" (kE aK)))
 (aX (jL 0 (vV (κ 0) 0 cW "newest" (fC (.dt [] []))))
 (aX (jL 0 (vV (κ 0) 0 cW "held" (fC (.dk [] []))))
 (jL 0 (vV (κ 0) 0 cW "unsettled" (gF (lM (aD 1)) [] jN (kE aK)))))))
noncomputable def tU(κ:Nat→A7):List D→Option (D×D):=nM 2 2 (Qv κ)
abbrev Qw:AH:=top 21
noncomputable def NK:GS:=fO (cO (f2 dI (f2 dI (aD 0) (f2 dI (aD 1) (fC (.int 0)))) (f2 dI (aD 1) (fC (.int 1)))))
noncomputable def Al:List D→Option D:=pN 2 2 (NK)
abbrev Zi:AH:=top 20
noncomputable def ji:GS:=fO (vQ (aA (f2 eV (aD 1) (fL jP (aA (aD 0) aK))) (aA (f2 sX (aD 1) (fL jP (aA (aD 0) aK))) aK)))
noncomputable def xQ:List D→Option D:=pN 2 2 (ji)
abbrev Ju:AH:=top 22
noncomputable def We:GS:=fO (dD 2 Al (aA (aD 0) (aA (dD 2 xQ (aA (aD 0) (aA (aD 1) aK))) aK)))
noncomputable def mO:List D→Option D:=pN 2 2 (We)
abbrev Jv:AH:=top 26
noncomputable def Wf:GS:=aX (dG 1 (fC (.dk [] [])))
 (aX (dG 2 (cO (f2 dI (dD 2 mO (aA (aD 0) (aA (fC (.int (0))) aK))) (fC (.int (1))))))
 (aX (qT (Cu (fB (f2 Gd (aD 2) (fC (.int (0))))) (fB (f2 (Ge NG) (aD 2) (aD 1)))) (aX (rJ 1 cW (aD 2) (fC (.bl NG)))
 (dG 2 (cO (f2 dI (dD 2 mO (aA (aD 0) (aA (aD 2) aK))) (fC (.int (1))))))) 400)
 (fO (fL Oz (aA (aD 1) aK)))))
noncomputable def pQ:List D→Option D:=pN 3 1 (Wf)
abbrev Ep:AH:=top 25
noncomputable def Er:GS:=fO (f2 sW (fL jP (aA (aD 0) aK)) (f2 zG (fL jP (aA (f2 dI (aD 0) (fC (.int 0))) aK)) (fC (.int 1))))
noncomputable def oM:List D→Option D:=pN 1 1 (Er)
abbrev uP:AH:=top 27
noncomputable def Lh:GS:=aX (dG 1 (dD 1 pQ (aA (aD 0) aK)))
 (fO (gF (Pg (aA (f2 dJ (fC (.int (0))) (fC (.int 1))) (aA (dD 1 oM (aA (aD 0) aK)) aK))) [1] (fB (f2 (dIn NG) (aD 0) (aD 1))) (cO (aD 0))))
noncomputable def qF:List D→Option D:=pN 2 1 (Lh)
abbrev uQ:AH:=inClass (top 30) 0
noncomputable def Am(κ:Nat→A7):GS:=aX (jL 0 (vV (κ 1) 0 cW "bench" (Vi (κ 0) (tU κ) (aA (aD 1) aK))))
 (aX (jL 0 (vV (κ 1) 0 cW "spots" (gF (tD (aA (dD 1 oM (aA (aD 1) aK)) aK)) [1] jN (dD 2 xQ (aA (aD 1) (aA (aD 0) aK))))))
 (aX (jL 0 (vV (κ 1) 0 cW "string" (dD 1 pQ (aA (aD 1) aK))))
 (aX (jL 0 (vV (κ 1) 0 cW "loose" (dD 1 qF (aA (aD 1) aK))))
 (aX (jL 0 (vV (κ 1) 0 cW "lasts" (fC (.dk [] []))))
 (aX (jL 0 (vV (κ 1) 0 cW "comings" (fC (.dk [] []))))
 (jL 0 (vV (κ 1) 0 cW "goings" (fC (.dk [] [])))))))))
noncomputable def qG(κ:Nat→A7):List D→Option (D×D):=nM 2 2 (Am κ)
abbrev Es:AH:=top 32
noncomputable def Qx:GS:=aX (dG 1 (f2 eV (f2 sW (f2 dJ (f2 eV (aD 0) (fC (.int 2147483629))) (fC (.int 1))) (fC (.int 48271))) (fC (.int 2147483629))))
 (fO (f2 dJ (f2 eV (f2 sW (aD 1) (aD 1)) (fC (.int 2147483587))) (f2 sW (f2 eV (aD 0) (f2 zH (fC (.int 10)) (fC (.int 50)))) (fC (.int 2147483587)))))
noncomputable def lW:List D→Option D:=pN 2 1 (Qx)
abbrev qW:AH:=inClass (top 13) 1
noncomputable def yV(κ:Nat→A7):GS:=qM (Cv (ug dLe xu (fC (.int 0)) (aD 1) (fL jP (aA (pY (eQ (κ 0) "panes") (aD 0)) aK)))) aA4 fG
noncomputable def jC(κ:Nat→A7):List D→Option D:=mV 2 2 (yV κ)
abbrev xR:AH:=top 6
noncomputable def Qy:GS:=aX (dG 3 (fC (.dk [] [])))
 (aX (Th [] 4 (lM (aD 2)) (qM (fB (fL aAE (aA (gF (lM (f2 dI (f2 dI (aD 0) (aD 4)) (fC (.int (3))))) [1,3] jN (Tg (f2 (Ge NH) (aD 0) (aD 1)) (f2 (Ge NH) (aD 0) (aD 2)))) aK))) (rJ 3 cW (aD 4) (fC (.bl NG))) fG))
 (fO (fL Oz (aA (aD 3) aK))))
noncomputable def tV:List D→Option D:=pN 5 3 (Qy)
abbrev xT:AH:=inClass (top 13) 6
noncomputable def Gy(κ:Nat→A7):GS:=aX (dG 2 (cO (f2 dI (pY (eQ (κ 0) "asked") (aD 0)) (aD 1))))
 (aX (jL 0 (uM 0 (Tj (Ac (κ 0) "panes" cW) (f2 dI (aD 2) (fC (.int (0))))) (f2 dI (aD 2) (fC (.int (1)))) (cO (f2 dI (aD 2) (fC (.int (2)))))))
 (jL 0 (rJ 0 (Ac (κ 0) "held" cW) (aD 1) (fC (.bl NG)))))
noncomputable def rW(κ:Nat→A7):List D→Option (D×D):=nM 3 2 (Gy κ)
abbrev uR:AH:=inClass (top 13) 7
noncomputable def Li(κ:Nat→A7):GS:=aX (yU (bK (κ 0) "check_pane" 2 (jC κ) (aD 0) (aA (aD 1) aK) []))
 (aX (dG 3 (dD 3 tV (aA (pY (eQ (κ 0) "asked") (aD 0)) (aA (pY (eQ (κ 0) "held") (aD 0)) (aA (f2 dI (pY (eQ (κ 0) "unsettled") (aD 0)) (aD 1)) aK)))))
 (aX (qM (fB (f2 (zM NG) (aD 2) (fC .non))) (dG 3 (xx NG (aD 3) (UT) (qR (fL HX (aA (aD 2) (aA (fC (.int 0)) aK)))))) fG)
 (aX (Dl 3 4 (vD (pM (κ 0) "strike" 0 cW (rW κ) (λeF eZ=>((Cz (aD 4) mX) eF eZ).map (·++[])))))
 (aX (jL 0 (uM 0 (Ac (κ 0) "unsettled" cW) (aD 1) (gF (lM (f2 dI (pY (eQ (κ 0) "unsettled") (aD 0)) (aD 1))) [0] (fB (f2 (Ge NG) (aD 0) (pY (eQ (κ 0) "held") (aD 1)))) (cO (aD 0)))))
 (wY 3)))))
noncomputable def uT(κ:Nat→A7):List D→Option (D×D):=nM 5 3 (Li κ)
abbrev qX:AH:=inClass (top 30) 9
noncomputable def Ma(κ:Nat→A7):GS:=fO (cO (f2 dI (f2 dJ (kE (aA (fC (.int (0))) aK)) (pY (eQ (κ 1) "string") (aD 0))) (aD 1)))
noncomputable def jD(κ:Nat→A7):List D→Option D:=mV 2 2 (Ma κ)
abbrev pR:AH:=inClass (top 13) 2
noncomputable def wB(κ:Nat→A7):GS:=aX (yU (bK (κ 0) "check_pane" 2 (jC κ) (aD 0) (aA (aD 1) aK) []))
 (qM (Cv (ug dLe xu (fC (.int 0)) (aD 2) (fL jP (aA (f2 dI (pY (eQ (κ 0) "panes") (aD 0)) (aD 1)) aK)))) aA4 fG)
noncomputable def iJ(κ:Nat→A7):List D→Option D:=mV 3 3 (wB κ)
abbrev Et:AH:=inClass (top 13) 5
noncomputable def Qz(κ:Nat→A7):GS:=aX (yU (bK (κ 0) "check_place" 3 (iJ κ) (aD 0) (aA (aD 1) (aA (aD 2) aK)) []))
 (aX (qM (fB (Tn NH (Jl (aA (aD 1) (aA (aD 2) aK))) (pY (eQ (κ 0) "newest") (aD 0)))) (fO (cO (f2 dI (f2 dI (pY (eQ (κ 0) "asked") (aD 0)) (Qe (pY (eQ (κ 0) "newest") (aD 0)) (Jl (aA (aD 1) (aA (aD 2) aK))))) (fC (.int (2)))))) fG)
 (fO (cO (f2 dI (f2 dI (pY (eQ (κ 0) "panes") (aD 0)) (aD 1)) (aD 2)))))
noncomputable def tW(κ:Nat→A7):List D→Option D:=mV 3 3 (Qz κ)
abbrev qY:AH:=inClass (top 30) 1
noncomputable def yW(κ:Nat→A7):GS:=aX (dG 2 (cO (f2 dI (pY (eQ (κ 1) "spots") (aD 0)) (aD 1))))
 (fO (bK (κ 0) "seen" 3 (tW κ) (pY (eQ (κ 1) "bench") (aD 0)) (aA (f2 dI (aD 2) (fC (.int 0))) (aA (f2 dI (aD 2) (fC (.int 1))) aK)) []))
noncomputable def aW(κ:Nat→A7):List D→Option D:=mV 3 2 (yW κ)
abbrev pG:AH:=inClass (top 13) 3
noncomputable def uU(κ:Nat→A7):GS:=qM (Cv (ug dLe xu (fC (.int 0)) (aD 1) (fL jP (aA (pY (eQ (κ 0) "asked") (aD 0)) aK)))) aA4 fG
noncomputable def gO(κ:Nat→A7):List D→Option D:=mV 2 2 (uU κ)
abbrev Jw:AH:=inClass (top 13) 4
noncomputable def Wg(κ:Nat→A7):GS:=aX (yU (bK (κ 0) "check_place" 3 (iJ κ) (aD 0) (aA (aD 1) (aA (aD 2) aK)) []))
 (aX (dG 5 (fIf (fB (f2 (zM NH) (aD 4) (fC .non))) (kE aK) (fL dList (aA (aD 4) aK))))
 (aX (Dl 5 6 (yU (bK (κ 0) "check_change" 2 (gO κ) (aD 0) (aA (aD 6) aK) [])))
 (aX (qM (fB (Tn NH (Jl (aA (aD 1) (aA (aD 2) aK))) (pY (eQ (κ 0) "newest") (aD 0)))) (Eb 5 cW (Qe (pY (eQ (κ 0) "newest") (aD 0)) (Jl (aA (aD 1) (aA (aD 2) aK))))) fG)
 (aX (dG 7 (fL jP (aA (pY (eQ (κ 0) "asked") (aD 0)) aK)))
 (aX (jL 0 (Eb 0 (Ac (κ 0) "asked" cW) (vQ (aA (cO (aD 1)) (aA (cO (aD 2)) (aA (cO (aD 3)) (aA (fL Pa (aA (pY gq (aD 5)) aK)) aK)))))))
 (aX (jL 0 (Vj 0 (Ac (κ 0) "newest" cW) (Jl (aA (aD 1) (aA (aD 2) aK))) (aD 7)))
 (aX (jL 0 (Eb 0 (Tj (Ac (κ 0) "unsettled" cW) (aD 1)) (cO (aD 7))))
 (wY 7))))))))
noncomputable def Bw(κ:Nat→A7):List D→Option (D×D):=nM 8 5 (Wg κ)
abbrev Zj:AH:=top 29
noncomputable def aGs:GS:=fO (gF (lM (aD 0)) [] (fB (f2 (zM NG) (aD 0) (fC .non))) (cO (aD 0)))
noncomputable def Zk:List D→Option D:=pN 1 1 (aGs)
abbrev xU:AH:=inClass (top 30) 10
noncomputable def Gz(κ:Nat→A7):GS:=aX (dG 4 (cO (f2 dI (pY (eQ (κ 1) "spots") (aD 0)) (aD 1))))
 (aX (Gj 5 (pM (κ 0) "put" 0 (Ac (κ 1) "bench" cW) (Bw κ) (λeF eZ=>((Cz (f2 dI (aD 4) (fC (.int 0))) (Cz (f2 dI (aD 4) (fC (.int 1))) (Cz (aD 2) (Cz (dD 1 Zk (aA (aD 3) aK)) mX)))) eF eZ).map (·++[]))))
 (aX (jL 0 (rJ 0 (Ac (κ 1) "lasts" cW) (aD 1) (aD 5)))
 (wY 5)))
noncomputable def mQ(κ:Nat→A7):List D→Option (D×D):=nM 6 4 (Gz κ)
abbrev qZ:AH:=inClass (top 30) 5
noncomputable def Mf(κ:Nat→A7):GS:=fO (f2 Qh (pY (eQ (κ 1) "comings") (aD 0)) (aD 1))
noncomputable def oF(κ:Nat→A7):List D→Option D:=mV 2 2 (Mf κ)
abbrev pU:AH:=inClass (top 30) 11
noncomputable def wC(κ:Nat→A7):GS:=Ae (pM (κ 1) "write" 0 cW (mQ κ) (λeF eZ=>((Cz (aD 1) (Cz (aD 2) (gr (f2 dJ (kE (aA (bK (κ 1) "coming_in" 2 (oF κ) (aD 0) (aA (aD 1) aK) []) aK)) (aD 3)) mX))) eF eZ).map (·++[])))
noncomputable def fX(κ:Nat→A7):List D→Option (D×D):=nM 4 4 (wC κ)
abbrev An:AH:=inClass (top 30) 12
noncomputable def Lj(κ:Nat→A7):GS:=aX (dG 4 (bK (κ 1) "record_of" 2 (aW κ) (aD 0) (aA (aD 1) aK) []))
 (Ae (pM (κ 1) "write_tied" 0 cW (fX κ) (λeF eZ=>((Cz (aD 1) (Cz (vQ (aA (cO (f2 dI (aD 4) (fC (.int (0))))) (aA (cO (aD 2)) (aA (cO (f2 dI (aD 4) (fC (.int (2))))) (aA (cO (f2 dI (aD 4) (fC (.int (3))))) (aA (cO (f2 dI (aD 4) (fC (.int (4))))) aK)))))) (Cz (aD 3) mX))) eF eZ).map (·++[]))))
noncomputable def lX(κ:Nat→A7):List D→Option (D×D):=nM 5 4 (Lj κ)
abbrev mY:AH:=inClass (top 30) 8
noncomputable def rK(κ:Nat→A7):GS:=aX (dG 2 (fIf (fB (f2 (zM NH) (aD 1) (fC .non))) (kE aK) (fL dList (aA (aD 1) aK))))
 (aX (Dl 2 3 (yU (bK (κ 0) "check_change" 2 (gO κ) (pY (eQ (κ 1) "bench") (aD 0)) (aA (aD 3) aK) [])))
 (Dj 2))
noncomputable def cA(κ:Nat→A7):List D→Option D:=mV 4 2 (rK κ)
abbrev pH:AH:=inClass (top 30) 7
noncomputable def Hf(κ:Nat→A7):GS:=fO (f2 Qh (pY (eQ (κ 1) "lasts") (aD 0)) (aD 1))
noncomputable def lK(κ:Nat→A7):List D→Option D:=mV 2 2 (Hf κ)
abbrev xV:AH:=inClass (top 30) 15
noncomputable def Hg(κ:Nat→A7):GS:=aX (dG 3 (bK (κ 1) "box_ahead" 2 (jD κ) (aD 0) (aA (f2 Qg (pY (eQ (κ 1) "string") (aD 0)) (aD 1)) aK) []))
 (aX (dG 4 (f2 dJ (kE (aA (bK (κ 1) "last_change" 2 (lK κ) (aD 0) (aA (aD 1) aK) []) aK)) (bK (κ 1) "further_needs" 2 (cA κ) (aD 0) (aA (aD 2) aK) [])))
 (aX (Gj 5 (pM (κ 1) "link" 0 cW (lX κ) (λeF eZ=>((Cz (aD 3) (gr (cO (f2 dI (bK (κ 1) "record_of" 2 (aW κ) (aD 0) (aA (aD 1) aK) []) (fC (.int (1))))) (Cz (aD 4) mX))) eF eZ).map (·++[]))))
 (aX (jL 0 (KJ 0 (Ac (κ 1) "string" cW) (aD 1)))
 (aX (jL 0 (Eb 0 (Ac (κ 1) "loose" cW) (cO (aD 1))))
 (aX (jL 0 (rJ 0 (Ac (κ 1) "goings" cW) (aD 1) (aD 5)))
 (wY 5))))))
noncomputable def rY(κ:Nat→A7):List D→Option (D×D):=nM 6 3 (Hg κ)
abbrev xW:AH:=inClass (top 30) 4
noncomputable def Hh(κ:Nat→A7):GS:=aX (Th [] 2 (lM (pY (eQ (κ 1) "string") (aD 0))) (qM (fB (f2 Il (f2 dI (bK (κ 1) "record_of" 2 (aW κ) (aD 0) (aA (aD 2) aK) []) (fC (.int (0)))) (aD 1))) (Dj 2) fG))
 (fO (fC .non))
noncomputable def cB(κ:Nat→A7):List D→Option D:=mV 3 2 (Hh κ)
abbrev tX:AH:=inClass (top 30) 14
noncomputable def Ao(κ:Nat→A7):GS:=aX (dG 6 (bK (κ 1) "record_of" 2 (aW κ) (aD 0) (aA (aD 1) aK) []))
 (Ae (pM (κ 1) "write_tied" 0 cW (fX κ) (λeF eZ=>((Cz (aD 1) (Cz (vQ (aA (cO (f2 dI (aD 6) (fC (.int (0))))) (aA (cO (f2 dI (aD 6) (fC (.int (1))))) (aA (cO (aD 2)) (aA (cO (aD 3)) (aA (cO (aD 4)) aK)))))) (gr (bK (κ 1) "further_needs" 2 (cA κ) (aD 0) (aA (aD 5) aK) []) mX))) eF eZ).map (·++[]))))
noncomputable def pI(κ:Nat→A7):List D→Option (D×D):=nM 7 6 (Ao κ)
abbrev uV:AH:=inClass (top 13) 8
noncomputable def NP(κ:Nat→A7):GS:=fO (gF (lM (pY (eQ (κ 0) "panes") (aD 0))) [] jN (fL dList (aA (aD 0) aK)))
noncomputable def qH(κ:Nat→A7):List D→Option D:=mV 1 1 (NP κ)
abbrev Aq:AH:=inClass (top 30) 3
noncomputable def NQ(κ:Nat→A7):GS:=fO (fL uL (aA (pY (eQ (κ 1) "loose") (aD 0)) aK))
noncomputable def eG(κ:Nat→A7):List D→Option D:=mV 1 1 (NQ κ)
abbrev Zm:AH:=top 41
noncomputable def jj:GS:=aX (qM (fB (f2 Il (aD 0) (kE aK))) (fO (f2 eV (aD 2) (f2 zH (fC (.int 10)) (fC (.int 58))))) fG)
 (aX (qM (fB (f2 Il (aD 1) (fC (.int 0)))) (fO (f2 zG (f2 zG (f2 dI (aD 0) (fC (.int 0))) (fC (.int 1))) (f2 eV (aD 2) (f2 zH (fC (.int 10)) (fC (.int 50)))))) fG)
 (aX (qM (Cu (fB (f2 xu (aD 1) (fL jP (aA (aD 0) aK)))) (fB (f2 dGt (f2 zG (f2 dI (aD 0) (aD 1)) (f2 dI (aD 0) (f2 zG (aD 1) (fC (.int 1))))) (fC (.int 1))))) (fO (f2 dJ (f2 dJ (f2 dI (aD 0) (f2 zG (aD 1) (fC (.int 1)))) (fC (.int 1))) (f2 eV (aD 2) (f2 zG (f2 zG (f2 dI (aD 0) (aD 1)) (f2 dI (aD 0) (f2 zG (aD 1) (fC (.int 1))))) (fC (.int 1)))))) fG)
 (fO (f2 dJ (f2 dJ (f2 dI (aD 0) (zK (fC (.int 1)))) (fC (.int 1))) (f2 eV (aD 2) (f2 zH (fC (.int 10)) (fC (.int 50))))))))
noncomputable def Hi:List D→Option D:=pN 3 3 (jj)
abbrev rA:AH:=inClass (top 30) 6
noncomputable def Mg(κ:Nat→A7):GS:=fO (f2 Qh (pY (eQ (κ 1) "goings") (aD 0)) (aD 1))
noncomputable def oG(κ:Nat→A7):List D→Option D:=mV 2 2 (Mg κ)
abbrev sE:AH:=inClass (top 30) 13
noncomputable def Hj(κ:Nat→A7):GS:=aX (qM (fB (f2 Il (fL jP (aA (pY (eQ (κ 1) "loose") (aD 0)) aK)) (fC (.int 0)))) aA4 fG)
 (aX (dG 6 (bK (κ 1) "further_needs" 2 (cA κ) (aD 0) (aA (aD 5) aK) []))
 (aX (dG 7 (fL jP (aA (gF (lM (pY (eQ (κ 1) "string") (aD 0))) [0,1] (fB (f2 xu (f2 dI (bK (κ 1) "record_of" 2 (aW κ) (aD 1) (aA (aD 0) aK) []) (fC (.int (0)))) (aD 2))) (cO (aD 0))) aK)))
 (aX (dG 8 (bK (κ 1) "box_ahead" 2 (jD κ) (aD 0) (aA (aD 7) aK) []))
 (aX (dG 9 (fL bh (aA (pY (eQ (κ 1) "loose") (aD 0)) aK)))
 (aX (Gj 10 (pM (κ 1) "write" 0 cW (mQ κ) (λeF eZ=>((Cz (aD 9) (gr (vQ (aA (cO (aD 1)) (aA (cO (f2 dI (bK (κ 1) "record_of" 2 (aW κ) (aD 0) (aA (aD 8) aK) []) (fC (.int (1))))) (aA (cO (aD 2)) (aA (cO (aD 3)) (aA (cO (aD 4)) aK)))))) (gr (kE (aA (bK (κ 1) "going_out" 2 (oG κ) (aD 0) (aA (aD 9) aK) []) aK)) mX))) eF eZ).map (·++[]))))
 (aX (Gj 11 (pM (κ 1) "link" 0 cW (lX κ) (λeF eZ=>((Cz (aD 8) (Cz (aD 9) (Cz (f2 dJ (kE (aA (aD 10) aK)) (aD 6)) mX))) eF eZ).map (·++[]))))
 (aX (jL 0 (uq 0 (Ac (κ 1) "string" cW) (aD 7) (aD 9)))
 (aX (jL 0 (KJ 0 (Ac (κ 1) "loose" cW) (aD 9)))
 (aX (jL 0 (rJ 0 (Ac (κ 1) "comings" cW) (aD 9) (aD 11)))
 (Ae (gmN (vQ (aA (cO (aD 9)) (aA (cO (aD 11)) aK))))))))))))))
noncomputable def sG(κ:Nat→A7):List D→Option (D×D):=nM 12 6 (Hj κ)
abbrev Ra:AH:=top 42
noncomputable def lY(κ:Nat→A7):GS:=aX (dG 3 (f2 sX (aD 2) (fC (.int 4))))
 (aX (qM (fB (f2 Il (f2 eV (aD 2) (fC (.int 4))) (fC (.int 0)))) (vD (pM (κ 0) "carve" 0 (Ac (κ 1) "bench" cW) (uT κ) (λeF eZ=>((gr (f2 eV (aD 3) (fL jP (aA (bK (κ 0) "stone" 1 (qH κ) (pY (eQ (κ 1) "bench") (aD 0)) aK []) aK))) (Cz (f2 eV (f2 sX (aD 3) (fC (.int 8))) (fC (.int 5))) mX)) eF eZ).map (·++[])))) (qM (Cu (fB (f2 Il (f2 eV (aD 2) (fC (.int 4))) (fC (.int 1)))) (fB (f2 Gd (aD 1) (kE aK)))) (aX (dG 4 (cO (f2 dI (aD 1) (f2 eV (aD 3) (fL jP (aA (aD 1) aK))))))
 (aX (vD (pM (κ 1) "leave" 0 cW (rY κ) (λeF eZ=>((gr (bK (κ 1) "box_of" 2 (cB κ) (aD 0) (aA (aD 4) aK) []) mX) eF eZ).map (·++[.non]))))
 (jL 1 (KJ 1 cW (aD 4))))) (qM (Cu (fB (f2 Il (f2 eV (aD 2) (fC (.int 4))) (fC (.int 2)))) (fB (f2 Gd (aD 1) (kE aK)))) (vD (pM (κ 1) "rewrite" 0 cW (pI κ) (λeF eZ=>((gr (bK (κ 1) "box_of" 2 (cB κ) (aD 0) (aA (f2 dI (aD 1) (f2 eV (aD 3) (fL jP (aA (aD 1) aK)))) aK) []) (Cz (zK (fC (.int 1))) (Cz (f2 eV (aD 3) (fC (.int 9))) (Cz (fC (.int 0)) mX)))) eF eZ).map (·++[.non])))) (qM (fB (f2 Gd (bK (κ 1) "free" 1 (eG κ) (aD 0) aK []) (kE aK))) (aX (dG 4 (dD 3 Hi (aA (aD 1) (aA (f2 eV (aD 3) (f2 dJ (fL jP (aA (aD 1) aK)) (fC (.int 1)))) (aA (f2 sX (aD 3) (fC (.int 5))) aK)))))
 (aX (vD (pM (κ 1) "enter" 0 cW (sG κ) (λeF eZ=>((Cz (aD 4) (Cz (zK (fC (.int 1))) (Cz (f2 eV (aD 3) (f2 zH (fC (.int 10)) (fC (.int 50)))) (Cz (fC (.int 0)) mX)))) eF eZ).map (·++[.non]))))
 (jL 1 (Eb 1 cW (cO (aD 4)))))) fG))))
 (Ae (gmN (fL uL (aA (aD 1) aK)))))
noncomputable def wD(κ:Nat→A7):List D→Option (D×List D):=Qf 5 [NG,NG,NH] (lY κ)
abbrev xX:AH:=inClass (top 30) 2
noncomputable def Zo(κ:Nat→A7):GS:=fO (fL dList (aA (pY (eQ (κ 1) "string") (aD 0)) aK))
noncomputable def cC(κ:Nat→A7):List D→Option D:=mV 1 1 (Zo κ)
abbrev Jx:AH:=top 34
noncomputable def vg:GS:=fO (Uz (VF "int" (aD 0)) (HQ (VF "bool" (aD 0))))
noncomputable def oU:List D→Option D:=pN 1 1 (vg)
abbrev uW:AH:=top 35
noncomputable def NT:GS:=fO (Uz (VF "list" (aD 0)) (fL aAE (aA (gF (lM (aD 0)) [] jN (dD 1 oU (aA (aD 0) aK))) aK)))
noncomputable def lZ:List D→Option D:=pN 1 1 (NT)
abbrev Hl:AH:=top 40
noncomputable def NZ(κ:Nat→A7):GS:=aX (dG 2 (bK (κ 1) "order" 1 (cC κ) (aD 0) aK []))
 (fO (gF (Pg (aA (fC (.int 1)) (aA (aD 1) aK))) [2] (fB (f2 (dIn NG) (aD 0) (aD 1))) (cO (aD 0))))
noncomputable def wF(κ:Nat→A7):List D→Option D:=pN 3 2 (NZ κ)
abbrev xY:AH:=top 43
noncomputable def Rb(κ:Nat→A7):GS:=aX (dG 4 (bK (κ 1) "order" 1 (cC κ) (aD 0) aK []))
 (aX (dG 5 (bK (κ 1) "free" 1 (eG κ) (aD 0) aK []))
 (aX (Bp 6 (kE (aA (bK (κ 1) "order" 1 (cC κ) (aD 0) aK []) (aA (bK (κ 1) "free" 1 (eG κ) (aD 0) aK []) aK))))
 (aX (qM (UG (fB (f2 Gd (bK (κ 1) "order" 1 (cC κ) (aD 0) aK []) (aD 4))) (fB (f2 Gd (bK (κ 1) "free" 1 (eG κ) (aD 0) aK []) (aD 5)))) (fO (fC (.bl NH))) fG)
 (aX (qM (UG (Cv (fB (dD 1 lZ (aA (aD 4) aK)))) (UG (Cv (fB (dD 1 lZ (aA (aD 5) aK)))) (fB (f2 Gd (pY Vp (aD 4)) (fL jP (aA (aD 4) aK)))))) (fO (fC (.bl NH))) fG)
 (aX (qM (UG (fB (f2 Gd (aD 5) (dD 2 (wF κ) (aA (aD 0) (aA (aD 2) aK))))) (fB (f2 Gd (fL uL (aA (f2 dJ (aD 4) (aD 5)) aK)) (fL rR (aA (fC (.int 1)) (aA (aD 2) aK)))))) (fO (fC (.bl NH))) fG)
 (aX (qM (fB (f2 Gd (gF (lM (aD 4)) [0] jN (cO (f2 dI (bK (κ 1) "record_of" 2 (aW κ) (aD 1) (aA (aD 0) aK) []) (fC (.int 0))))) (aD 1))) (fO (fC (.bl NH))) fG)
 (aX (qM (fB (f2 Gd (aD 5) (kE aK))) (aX (dG 7 (cO (f2 dI (bK (κ 1) "record_of" 2 (aW κ) (aD 0) (aA (f2 dI (aD 5) (f2 eV (aD 3) (fL jP (aA (aD 5) aK)))) aK) []) (fC (.int 0)))))
 (qM (Cu (fB (f2 (dIn NG) (aD 7) (aD 1))) (fB (f2 (zM NG) (bK (κ 1) "box_of" 2 (cB κ) (aD 0) (aA (aD 7) aK) []) (fC .non)))) (fO (fC (.bl NH))) fG)) fG)
 (aX (qM (fB (f2 Il (aD 1) (kE aK))) (fO (f2 (zM NH) (bK (κ 1) "box_of" 2 (cB κ) (aD 0) (aA (f2 eV (aD 3) (f2 zH (fC (.int 10)) (fC (.int 58)))) aK) []) (fC .non))) fG)
 (aX (dG 8 (f2 eV (aD 3) (fL jP (aA (aD 1) aK))))
 (aX (dG 9 (bK (κ 1) "box_of" 2 (cB κ) (aD 0) (aA (f2 dI (aD 1) (aD 8)) aK) []))
 (aX (qM (UG (Cv (fB (dD 1 oU (aA (aD 9) aK)))) (fB (f2 Gd (aD 9) (f2 dI (aD 4) (aD 8))))) (fO (fC (.bl NH))) fG)
 (fO (Tg (f2 (dIn NH) (f2 dJ (f2 dI (aD 1) (aD 8)) (fC (.int 1))) (aD 1)) (f2 (zM NH) (bK (κ 1) "box_of" 2 (cB κ) (aD 0) (aA (f2 dJ (f2 dI (aD 1) (aD 8)) (fC (.int 1))) aK) []) (fC .non)))))))))))))))
noncomputable def oO(κ:Nat→A7):List D→Option D:=pN 10 4 (Rb κ)
abbrev vh:AH:=top 44
noncomputable def aIh(κ:Nat→A7):GS:=aX (dG 1 (dD 1 wA (aA (aD 0) aK)))
 (aX (dG 2 (f2 sW (fL jP (aA (aD 1) aK)) (f2 zG (fL jP (aA (f2 dI (aD 1) (fC (.int 0))) aK)) (fC (.int 1)))))
 (aX (dG 3 (kE (aA (Vi (κ 1) (qG κ) (aA (aD 1) aK)) (aA (Vi (κ 1) (qG κ) (aA (aD 1) aK)) aK))))
 (aX (dG 4 (gF (lM (bK (κ 1) "order" 1 (cC κ) (f2 dI (aD 3) (fC (.int 0))) aK [])) [3] jN (cO (f2 dI (bK (κ 1) "record_of" 2 (aW κ) (f2 dI (aD 1) (fC (.int 0))) (aA (aD 0) aK) []) (fC (.int 0))))))
 (aX (dG 5 (kE (aA (fL dList (aA (aD 4) aK)) (aA (fL dList (aA (aD 4) aK)) aK))))
 (aX (uM 1 (Tj cW (fC (.int 0))) (fC (.int 0)) (vQ (aA (fC (.int 0)) (aA (fC (.int 0)) (aA (zK (fC (.int 1))) (aA (zK (fC (.int 1))) (aA (fC (.int 0)) aK)))))))
 (aX (dG 6 (kE aK))
 (aX (dG 7 (kE aK))
 (aX (Th [] 8 (lM (gF (lM (xx NH (aD 0) (qR (fC (.int 3))) (qR (fC (.int 63))))) [] jN (dD 1 lW (aA (aD 0) aK)))) (aX (dG 9 (f2 eV (aD 8) (fC (.int 2))))
 (aX (Eh 5 cW (aD 9) (Vo (.ch 3 (Tj cW (aD 9))::.ch 5 (Tj cW (aD 9))::.rd (f2 sX (aD 8) (fC (.int 2)))::[]) (wD κ)))
 (aX (qM (Cv (fB (dD 4 (oO κ) (aA (f2 dI (aD 3) (aD 9)) (aA (f2 dI (aD 5) (aD 9)) (aA (aD 2) (aA (f2 sX (aD 8) (fC (.int 3))) aK))))))) (fO (fC (.bl NH))) fG)
 (aX (qM (Cv (fB (dD 4 (oO κ) (aA (f2 dI (aD 3) (f2 zG (fC (.int 1)) (aD 9))) (aA (f2 dI (aD 5) (f2 zG (fC (.int 1)) (aD 9))) (aA (aD 2) (aA (f2 sX (aD 8) (fC (.int 5))) aK))))))) (fO (fC (.bl NH))) fG)
 (qM (fB (f2 xu (fL jP (aA (aD 6) aK)) (fC (.int 6)))) (aX (dG 10 (kE (aA (bK (κ 1) "order" 1 (cC κ) (f2 dI (aD 3) (aD 9)) aK []) (aA (bK (κ 1) "free" 1 (eG κ) (f2 dI (aD 3) (aD 9)) aK []) aK))))
 (aX (Jo [6,10] 6 (KC (λ_ eZ=>(aD 6) eZ) (λ_ eZ=>(aD 10) eZ)))
 (Jo [7] 7 (KC (λ_ eZ=>(aD 7) eZ) (λ_ eZ=>(gF (lM (aD 10)) [] jN (fL dList (aA (aD 0) aK))) eZ))))) fG))))))
 (fO (f2 Il (aD 6) (aD 7)))))))))))
noncomputable def aGt(κ:Nat→A7):List D→Option D:=pN 11 1 (aIh κ)
section
variable{P:AI}{w:AL}{K:aF}{mg:Str→Option A6}{base:AM}
theorem vm:bB ["script", "k"] ["script", "k"] (aM Qt):=by walk_at "fs"
theorem XC(R:Raw K mg "_law_cell" Qt) (gU:mg "len" = none):qL P w K mg base "_law_cell" 1 2 (iD K 2 lV):=by
 refine R.wX vm (λ_ _ _ _ _ _ us hl=>match us,hl with | [_,_],_=>rfl) (λ_ _ _ _ _ _ _ hr=>?_);have dC:=hr.units;have hu:=cY hr;exact⟨_,aO (iT (cT Np sV (aJ (pv 1)) (XN.r (iI iB (iC U) U gU F0 (aG (aJ (pv 0)) aQ))) (cR _)) (aV (bV (XR.n (bN (aJ (pv 0)) (aJ (pv 1)) (λ_ _=>rfl))))) fM)
  (aV (bV aN))⟩
theorem Rc:bB ["script", "head"] ["script"] (aM Js):=by walk_at "fs"
theorem OD(R:Raw K mg "_law_sizes" Js) (qI:qL P w K mg base "_law_cell" 1 2 (iD K 2 lV)):qL P w K mg base "_law_sizes" 2 1 (iD K 1 vY):=by
 refine R.wX Rc (λ_ _ _ _ _ _ us hl=>match us,hl with | [_],_=>rfl) (λ_ _ _ _ _ _ _ hr=>?_);have dC:=hr.units;have hu:=cY hr;exact⟨_,aO (bM (i:=1) (cZ qI (hr.mono (by decide)) U (aG (aJ (pv 0)) (aG (XN.r (aN)) aQ))) (λh=>bI Rc.nd U (by first | exact D6 U | exact D5 U) h))
  (aO (iT (cT (or_eq dC U) yP (XN.r (bT (XN.r (oJ (aJ (pv 1)) (XN.r (aN)))) (XN.r (aN)))) (XN.r (aN)) (cR _)) (aV (bV (qQ (bF (cL (XN.r (aN)) (XN.r (bT (aJ (pv 1)) (XN.r (aN))))) (bF (cL (XN.r (aN)) (XN.r (bT (XN.r (oJ (aJ (pv 1)) (XN.r (aN)))) (XN.r (aN))))) gZ))))) fM)
  (aV (bV (qQ (bF (cL (XN.r (aN)) (XN.r (bT (aJ (pv 1)) (XN.r (aN))))) (bF (cL (XN.r (aN)) (XN.r (bT (XN.r (oJ (aJ (pv 1)) (XN.r (aN)))) (XN.r (aN))))) gZ))))))⟩
theorem Rg:bB ["cell", "k", "number"] ["cell", "k"] (aM Jt):=by walk_at "fs"
theorem OJ(R:Raw K mg "_law_mixed" Jt):qL P w K mg base "_law_mixed" 1 2 (iD K 2 lD):=by
 refine R.wX Rg (λ_ _ _ _ _ _ us hl=>match us,hl with | [_,_],_=>rfl) (λ_ _ _ _ _ _ _ hr=>?_);have dC:=hr.units;have hu:=cY hr;exact⟨_,aO (bM (i:=2) (bT (XN.r (lQ (XN.r (cL (XN.r (bT (aJ (pv 0)) (XN.r (aN)))) (XN.r (aN)))) (XN.r (cL (XN.r (aN)) (XN.r (lQ (XN.r (lQ (XN.r (aN)) (aJ (pv 1)))) (aJ (pv 1)))))))) (XN.r (aN))) (λh=>bI Rg.nd U (by first | exact D6 U | exact D5 U) h))
  (aV (bV (bT (XN.r (lQ (aJ (pv 2)) (aJ (pv 2)))) (XN.r (aN)))))⟩
theorem oV:bB ["cell", "k", "key", "following", "pick", "now", "age"] ["cell", "k", "key", "following"] (aM Eo):=by walk_at "fs"
theorem Zq(R:Raw K mg "_law_record" Eo) (mR:qL P w K mg base "_law_mixed" 1 2 (iD K 2 lD)) (aGu:mg "abs" = none):qL P w K mg base "_law_record" 2 4 (iD K 4 pP):=by
 refine R.wX oV (λ_ _ _ _ _ _ us hl=>match us,hl with | [_,_,_,_],_=>rfl) (λ_ _ _ _ _ _ _ hr=>?_);have dC:=hr.units;have hu:=cY hr;exact⟨_,aO (bM (i:=4) (cZ mR (hr.mono (by decide)) U (aG (aJ (pv 0)) (aG (XN.r (lQ (XN.r (aN)) (aJ (pv 1)))) aQ))) (λh=>bI oV.nd U (by first | exact D6 U | exact D5 U) h))
  (aO (bM (i:=5) (XR.n (bN (oX (aG (XN.r (aN)) (aG (XN.r (aN)) (aG (XN.r (aN)) (aG (XN.r (lQ (XN.r (cZ mR (hr.mono (by decide)) U (aG (aJ (pv 0)) (aG (XN.r (cL (XN.r (lQ (XN.r (aN)) (aJ (pv 1)))) (XN.r (aN)))) aQ)))) (XN.r (vA (XN.r (aN)) (XN.r (aN)))))) (aG (XN.r (rP (XN.r (aN)))) aQ)))))) (XN.r (bT (aJ (pv 4)) (XN.r (aN)))) (λ_ _=>rfl))) (λh=>bI oV.nd U (by first | exact D6 U | exact D5 U) h))
  (aO (bM (i:=6) aN (λh=>bI oV.nd U (by first | exact D6 U | exact D5 U) h))
  (aO (iT (cT (or_eq dC U) yP (XN.r (bT (XN.r (oJ (aJ (pv 4)) (XN.r (aN)))) (XN.r (aN)))) (XN.r (aN)) (cR _)) (aV (bM (i:=6) (cL (XN.r (aN)) (XN.r (bT (XN.r (oJ (aJ (pv 4)) (XN.r (aN)))) (XN.r (aN))))) (λh=>bI oV.nd U (by first | exact D6 U | exact D5 U) h))) fM)
  (aO (iT (cT (or_eq dC U) yP (aJ (pv 6)) (XN.r (aN)) (cR _)) (aV (bM (i:=5) (iI aGe aGf U aGu PyProof.Rows.boot_abs (aG (aJ (pv 5)) aQ)) (λh=>bI oV.nd U (by first | exact D6 U | exact D5 U) h))) fM)
  (aV (bV (qQ (bF (XR.n (aJ (pv 2))) (bF (XR.n (aJ (pv 3))) (bF (XR.n (bN (oX (aG (XN.r (rP (XN.r (aN)))) (aG (XN.r (aN)) (aG (XN.r (aN)) (aG (aJ (pv 4)) aQ))))) (XN.r (bT (XN.r (oJ (aJ (pv 4)) (XN.r (aN)))) (XN.r (aN)))) (λ_ _=>rfl))) (bF (XR.n (aJ (pv 5))) (bF (XR.n (aJ (pv 6))) gZ))))))))))))⟩
theorem fJ:bB ["script", "panes", "rows", "spare", "boxes", "k", "stone", "cell", "box", "key", "pane"] ["script"] (aM vZ):=by walk_at "fs"
theorem PB(R:Raw K mg "_law_built" vZ) (Jy:qL P w K mg base "_law_sizes" 2 1 (iD K 1 vY)) (qI:qL P w K mg base "_law_cell" 1 2 (iD K 2 lV)) (mR:qL P w K mg base "_law_mixed" 1 2 (iD K 2 lD)) (xZ:qL P w K mg base "_law_record" 2 4 (iD K 4 pP)) (gH:mg "list" = none) (jU:mg "range" = none) (gU:mg "len" = none):qL P w K mg base "_law_built" 3 1 (iD K 1 wA):=by
 refine R.wX fJ (λ_ _ _ _ _ _ us hl=>match us,hl with | [_],_=>rfl) (λ_ _ _ _ _ _ _ hr=>?_);have dC:=hr.units;have hu:=cY hr;exact⟨_,aO (qu (is:=[1,2]) (n:=2) (cZ Jy (hr.mono (by decide)) U (aG (aJ (pv 0)) aQ)) (λh=>Dt h (aFd U (FJ (lJ (i:=1) fJ.nd U (by first | exact D6 U | exact D5 U)) (FJ (lJ (i:=2) fJ.nd U (by first | exact D6 U | exact D5 U)) (aCx))))))
  (aO (bM (i:=3) (Vm (aG (XN.r (aN)) (aG (XN.r (lQ (aJ (pv 1)) (aJ (pv 2)))) aQ)) U gH F7 U jU X6) (λh=>bI fJ.nd U (by first | exact D6 U | exact D5 U) h))
  (aO (bM (i:=4) (qP (bF aN gZ)) (λh=>bI fJ.nd U (by first | exact D6 U | exact D5 U) h))
  (aO (Ym AZ U (Ji U jU (aG (XN.r (bT (XN.r (cZ qI (hr.mono (by decide)) U (aG (aJ (pv 0)) (aG (XN.r (aN)) aQ)))) (XN.r (lQ (aJ (pv 1)) (aJ (pv 2)))))) aQ)) (lJ (i:=5) fJ.nd U (by first | exact D6 U | exact D5 U)) (aV (qw (i:=4) (j:=3) (XN.r (bT (XN.r (cZ mR (hr.mono (by decide)) U (aG (XN.r (cZ qI (hr.mono (by decide)) U (aG (aJ (pv 0)) (aG (XN.r (aN)) aQ)))) (aG (aJ (pv 5)) aQ)))) (XN.r (iI iB (iC U) U gU F0 (aG (aJ (pv 3)) aQ))))) (λh=>lH (uG F1 K1 K2 mJ (pv 4) (fD (uG F1 PySem.F.slot_list_pop PySem.F.type_list_pop aAg (pv 3) (fD h jY)) jY))))))
  (aO (di (i:=6) ["pane", "rows"] [2] U (.at (aM vZ) ["script", "panes", "rows", "spare", "boxes", "k", "stone", "cell", "box", "key", "pane"] (by decide +kernel)) fJ.nd U (by first | exact D6 U | exact D5 U) (Jg U jU (aG (aJ (pv 1)) aQ)) (jH (by decide +kernel) U U) (λ_ _ _ _ _=>nU) (λ_ _ _ _ _=>kJ ["place"] [] U (kO.of (by show aj (vM _ (aM vZ)) _ ["pane", "rows"] _ _ _=NG;decide +kernel)) (Jg U jU (aG (aJ (pv 1)) aQ)) (jH (by decide +kernel) U U) (λ_ _ _ _ _=>nU) (λ_ _ _ _ _=>qQ (bF aN (bF aN (bF (rP (XN.r (aN))) (bF (rP (XN.r (aN))) (bF aN gZ))))))))
  (aO (bM (i:=7) (cZ qI (hr.mono (by decide)) U (aG (aJ (pv 0)) (aG (XN.r (aN)) aQ))) (λh=>bI fJ.nd U (by first | exact D6 U | exact D5 U) h))
  (aO (Yj [3] AZ U (lR (aJ (pv 3))) (lJ (i:=8) fJ.nd U (by first | exact D6 U | exact D5 U)) (aV (Yk (Lf (iG (pv 6)) (XN.r (bT (aJ (pv 8)) (aJ (pv 1)))) (λ_ _=>rfl)) (XN.r (oJ (aJ (pv 8)) (aJ (pv 1)))) (cZ xZ (hr.mono (by decide)) U (aG (aJ (pv 7)) (aG (aJ (pv 8)) (aG (XN.r (bT (aJ (pv 7)) (XN.r (vA (XN.r (aN)) (XN.r (aN)))))) (aG (XN.r (bT (XN.r (lQ (aJ (pv 8)) (aJ (pv 8)))) (XN.r (lQ (aJ (pv 1)) (aJ (pv 2)))))) aQ))))) (λa b c=>Dt c (Io a b set_list)))))
  (aO (bM (i:=9) (bT (aJ (pv 7)) (XN.r (vA (XN.r (aN)) (XN.r (aN))))) (λh=>bI fJ.nd U (by first | exact D6 U | exact D5 U) h))
  (aO (Ym AZ U (Ji U jU (aG (XN.r (iI iB (iC U) U gU F0 (aG (aJ (pv 4)) aQ))) aQ)) (lJ (i:=5) fJ.nd U (by first | exact D6 U | exact D5 U)) (aO (bM (i:=8) (XR.n (bN (aJ (pv 4)) (aJ (pv 5)) (λ_ _=>rfl))) (λh=>bI fJ.nd U (by first | exact D6 U | exact D5 U) h))
  (aO (Yk (Lf (iG (pv 6)) (XN.r (bT (aJ (pv 8)) (aJ (pv 1)))) (λ_ _=>rfl)) (XN.r (oJ (aJ (pv 8)) (aJ (pv 1)))) (cZ xZ (hr.mono (by decide)) U (aG (aJ (pv 7)) (aG (XN.r (cL (aJ (pv 5)) (XN.r (aN)))) (aG (aJ (pv 9)) (aG (bN (XN.r (cL (aJ (pv 4)) (oX (aG (XN.r (aN)) aQ)))) (XN.r (cL (aJ (pv 5)) (XN.r (aN)))) (λ_ _=>rfl)) aQ))))) (λa b c=>Dt c (Io a b set_list)))
  (aV (bM (i:=9) (cL (XN.r (cL (aJ (pv 9)) (XN.r (aN)))) (XN.r (lQ (XN.r (bT (XN.r (cZ mR (hr.mono (by decide)) U (aG (aJ (pv 7)) (aG (XN.r (cL (aJ (pv 5)) (XN.r (aN)))) aQ)))) (XN.r (aN)))) (bN (oX (aG (XN.r (aN)) (aG (XN.r (vA (XN.r (aN)) (XN.r (aN)))) aQ))) (XN.r (bT (aJ (pv 7)) (XN.r (aN)))) (λ_ _=>rfl))))) (λh=>bI fJ.nd U (by first | exact D6 U | exact D5 U) h))))))
  (aO (Ym AZ U (Ji U jU (aG (aJ (pv 1)) aQ)) (lJ (i:=10) fJ.nd U (by first | exact D6 U | exact D5 U)) (aV (aAR (Lf (iG (pv 6)) (aJ (pv 10)) (λ_ _=>rfl)) (qQ (bF (bT (XN.r (cZ mR (hr.mono (by decide)) U (aG (aJ (pv 7)) (aG (XN.r (cL (aJ (pv 10)) (XN.r (aN)))) aQ)))) (XN.r (aN))) gZ)) (λa b=>lH (uG F1 K1 K2 mJ a (fD b jY))))))
  (aV (Yi (pv 6))))))))))))⟩
theorem PJ:bB ["self", "stone"] ["self", "stone"] (aM tR):=by walk_at "fs"
theorem Zr{κ:Nat→A7}(R:JM K mg "Bench" (κ 0) "Bench.__init__" tR) (bD:iZ K (κ 0) jQ) (gH:mg "list" = none):ue P w K mg base "Bench" (κ 0) 1 2 (spS K 2 (tU κ)):=by
 refine R.aHV PJ (λ_ _ _ _ _ _ us hl=>match us,hl with | [_,_],_=>rfl) (λ_ _ _ _ _ _ _ hr=>?_);have dC:=hr.units;have hu:=cY hr;exact⟨_,aO (nY bD (by decide +kernel) (iG (pv 0)) (kJ ["pane"] [] U (.at (aM tR) ["self", "stone"] (by decide +kernel)) (lR (aJ (pv 1))) (jH (by decide +kernel) U U) (λ_ _ _ _ _=>nU) (λ_ _ _ _ _=>Ab uI (uJ U) U gH F7 (aG (aJ (pv 0)) aQ))))
  (aO (nY bD (by decide +kernel) (iG (pv 0)) (qP gZ))
  (aO (nY bD (by decide +kernel) (iG (pv 0)) (aBb))
  (aO (nY bD (by decide +kernel) (iG (pv 0)) (Bh))
  (aV (nY bD (by decide +kernel) (iG (pv 0)) (kJ ["pane"] [] U (.at (aM tR) ["self", "stone"] (by decide +kernel)) (lR (aJ (pv 1))) (jH (by decide +kernel) U U) (λ_ _ _ _ _=>nU) (λ_ _ _ _ _=>qP gZ)))))))⟩
theorem vo:bB ["stone", "spot"] ["stone", "spot"] (aM Qw):=by walk_at "fs"
theorem XD(R:Raw K mg "thing_at" Qw):qL P w K mg base "thing_at" 1 2 (iD K 2 Al):=by refine R.wX vo (λ_ _ _ _ _ _ us hl=>match us,hl with | [_,_],_=>rfl) (λ_ _ _ _ _ _ _ hr=>?_);have dC:=hr.units;have hu:=cY hr;exact⟨_,aV (bV (XR.n (bN (bN (aJ (pv 0)) (bN (aJ (pv 1)) (XN.r (aN)) (λ_ _=>rfl)) (λ_ _=>rfl)) (bN (aJ (pv 1)) (XN.r (aN)) (λ_ _=>rfl)) (λ_ _=>rfl))))⟩
theorem aBD:bB ["stone", "box"] ["stone", "box"] (aM Zi):=by walk_at "fs"
theorem vp(R:Raw K mg "spot_of" Zi) (gU:mg "len" = none):qL P w K mg base "spot_of" 1 2 (iD K 2 xQ):=by refine R.wX aBD (λ_ _ _ _ _ _ us hl=>match us,hl with | [_,_],_=>rfl) (λ_ _ _ _ _ _ _ hr=>?_);have dC:=hr.units;have hu:=cY hr;exact⟨_,aV (bV (qQ (bF (bT (aJ (pv 1)) (XN.r (iI iB (iC U) U gU F0 (aG (aJ (pv 0)) aQ)))) (bF (oJ (aJ (pv 1)) (XN.r (iI iB (iC U) U gU F0 (aG (aJ (pv 0)) aQ)))) gZ))))⟩
theorem XF:bB ["stone", "box"] ["stone", "box"] (aM Ju):=by walk_at "fs"
theorem PK(R:Raw K mg "record_at" Ju) (By:qL P w K mg base "spot_of" 1 2 (iD K 2 xQ)) (Rh:qL P w K mg base "thing_at" 1 2 (iD K 2 Al)):qL P w K mg base "record_at" 2 2 (iD K 2 mO):=by refine R.wX XF (λ_ _ _ _ _ _ us hl=>match us,hl with | [_,_],_=>rfl) (λ_ _ _ _ _ _ _ hr=>?_);have dC:=hr.units;have hu:=cY hr;exact⟨_,aV (bV (cZ Rh (hr.mono (by decide)) U (aG (aJ (pv 0)) (aG (XN.r (cZ By (hr.mono (by decide)) U (aG (aJ (pv 0)) (aG (aJ (pv 1)) aQ)))) aQ))))⟩
theorem yC:bB ["stone", "found", "box"] ["stone"] (aM Jv):=by walk_at "fs"
theorem PL(R:Raw K mg "string_of" Jv) (Ca:qL P w K mg base "record_at" 2 2 (iD K 2 mO)) (gH:mg "list" = none) (Dp:iU mg "HEAD" (0)) (wG:iU mg "NEXT" (1)):qL P w K mg base "string_of" 3 1 (iD K 1 pQ):=by
 refine R.wX yC (λ_ _ _ _ _ _ us hl=>match us,hl with | [_],_=>rfl) (λ_ _ _ _ _ _ _ hr=>?_);have dC:=hr.units;have hu:=cY hr;exact⟨_,aO (bM (i:=1) (Bh) (λh=>bI yC.nd U (by first | exact D6 U | exact D5 U) h))
  (aO (bM (i:=2) (XR.n (bN (XN.r (cZ Ca (hr.mono (by decide)) U (aG (aJ (pv 0)) (aG (XN.r (nH Dp U)) aQ)))) (XN.r (nH wG U)) (λ_ _=>rfl))) (λh=>bI yC.nd U (by first | exact D6 U | exact D5 U) h))
  (aO (aAN 400 AZ (XW.xt (Ox (cT (yR dC U) yQ (aJ (pv 2)) (XN.r (nH Dp U)) (cR _)) (Gf (Uy hu (aJ (pv 2)) (aJ (pv 1)))))) (aO (dh (iG (pv 1)) (aJ (pv 2)) (XN.r (zY)) (λa b c=>wR hu a b c U))
  (aV (bM (i:=2) (XR.n (bN (XN.r (cZ Ca (hr.mono (by decide)) U (aG (aJ (pv 0)) (aG (aJ (pv 2)) aQ)))) (XN.r (nH wG U)) (λ_ _=>rfl))) (λh=>bI yC.nd U (by first | exact D6 U | exact D5 U) h)))))
  (aV (bV (Ab HS (zU U) U gH F7 (aG (aJ (pv 1)) aQ))))))⟩
theorem PN:bB ["stone"] ["stone"] (aM Ep):=by walk_at "fs"
theorem Zt(R:Raw K mg "many_boxes" Ep) (gU:mg "len" = none):qL P w K mg base "many_boxes" 1 1 (iD K 1 oM):=by refine R.wX PN (λ_ _ _ _ _ _ us hl=>match us,hl with | [_],_=>rfl) (λ_ _ _ _ _ _ _ hr=>?_);have dC:=hr.units;have hu:=cY hr;exact⟨_,aV (bV (lQ (XN.r (iI iB (iC U) U gU F0 (aG (aJ (pv 0)) aQ))) (XN.r (qO (XN.r (iI iB (iC U) U gU F0 (aG (bN (aJ (pv 0)) (XN.r (aN)) (λ_ _=>rfl)) aQ))) (XN.r (aN))))))⟩
theorem Ho:bB ["stone", "tied"] ["stone"] (aM uP):=by walk_at "fs"
theorem Tq(R:Raw K mg "loose_boxes" uP) (sS:qL P w K mg base "string_of" 3 1 (iD K 1 pQ)) (pW:qL P w K mg base "many_boxes" 1 1 (iD K 1 oM)) (jU:mg "range" = none) (Dp:iU mg "HEAD" (0)):qL P w K mg base "loose_boxes" 4 1 (iD K 1 qF):=by
 refine R.wX Ho (λ_ _ _ _ _ _ us hl=>match us,hl with | [_],_=>rfl) (λ_ _ _ _ _ _ _ hr=>?_);have dC:=hr.units;have hu:=cY hr;exact⟨_,aO (bM (i:=1) (cZ sS (hr.mono (by decide)) U (aG (aJ (pv 0)) aQ)) (λh=>bI Ho.nd U (by first | exact D6 U | exact D5 U) h))
  (aV (bV (kJ ["box", "tied"] [1] U (.at (aM uP) ["stone", "tied"] (by decide +kernel)) (aEv (λh=>Uh U jU h) (aG (XN.r (cL (XN.r (nH Dp U)) (XN.r (aN)))) (aG (XN.r (cZ pW (hr.mono (by decide)) U (aG (aJ (pv 0)) aQ))) aQ))) (jH (by decide +kernel) U U) (λ_ _ _ _ _=>Gg (cT (Ov U) (bc NG) (aJ (pv 0)) (aJ (pv 1)) (by with_unfolding_all rfl))) (λ_ _ _ _ _=>XR.n (aJ (pv 0))))))⟩
theorem Zu:bB ["self", "stone"] ["self", "stone"] (aM uQ):=by walk_at "fs"
theorem Tr{κ:Nat→A7}(R:JM K mg "Weaver" (κ 1) "Weaver.__init__" uQ) (bD:iZ K (κ 0) jQ) (aP:iZ K (κ 1) dF) (Eu:ue P w K mg base "Bench" (κ 0) 1 2 (spS K 2 (tU κ))) (pW:qL P w K mg base "many_boxes" 1 1 (iD K 1 oM)) (By:qL P w K mg base "spot_of" 1 2 (iD K 2 xQ)) (sS:qL P w K mg base "string_of" 3 1 (iD K 1 pQ)) (Av:qL P w K mg base "loose_boxes" 4 1 (iD K 1 qF)) (jU:mg "range" = none):ue P w K mg base "Weaver" (κ 1) 5 2 (spS K 2 (qG κ)):=by
 refine R.aHV Zu (λ_ _ _ _ _ _ us hl=>match us,hl with | [_,_],_=>rfl) (λ_ _ _ _ _ _ _ hr=>?_);have dC:=hr.units;have hu:=cY hr;exact⟨_,aO (nY aP (by decide +kernel) (iG (pv 0)) (Yq Eu fV (hr.mono (by decide)) U (aG (aJ (pv 1)) aQ)))
  (aO (nY aP (by decide +kernel) (iG (pv 0)) (kJ ["box", "stone"] [1] U (.at (aM uQ) ["self", "stone"] (by decide +kernel)) (Jg U jU (aG (XN.r (cZ pW (hr.mono (by decide)) U (aG (aJ (pv 1)) aQ))) aQ)) (jH (by decide +kernel) U U) (λ_ _ _ _ _=>nU) (λ_ _ _ _ _=>cZ By (hr.mono (by decide)) U (aG (aJ (pv 1)) (aG (aJ (pv 0)) aQ)))))
  (aO (nY aP (by decide +kernel) (iG (pv 0)) (cZ sS (hr.mono (by decide)) U (aG (aJ (pv 1)) aQ)))
  (aO (nY aP (by decide +kernel) (iG (pv 0)) (cZ Av (hr.mono (by decide)) U (aG (aJ (pv 1)) aQ)))
  (aO (nY aP (by decide +kernel) (iG (pv 0)) (Bh))
  (aO (nY aP (by decide +kernel) (iG (pv 0)) (Bh))
  (aV (nY aP (by decide +kernel) (iG (pv 0)) (Bh))))))))⟩
theorem Lk:bB ["cell", "number"] ["cell"] (aM Es):=by walk_at "fs"
theorem Zv(R:Raw K mg "_law_spread" Es):qL P w K mg base "_law_spread" 1 1 (iD K 1 lW):=by
 refine R.wX Lk (λ_ _ _ _ _ _ us hl=>match us,hl with | [_],_=>rfl) (λ_ _ _ _ _ _ _ hr=>?_);have dC:=hr.units;have hu:=cY hr;exact⟨_,aO (bM (i:=1) (bT (XN.r (lQ (XN.r (cL (XN.r (bT (aJ (pv 0)) (XN.r (aN)))) (XN.r (aN)))) (XN.r (aN)))) (XN.r (aN))) (λh=>bI Lk.nd U (by first | exact D6 U | exact D5 U) h))
  (aV (bV (cL (XN.r (bT (XN.r (lQ (aJ (pv 1)) (aJ (pv 1)))) (XN.r (aN)))) (XN.r (lQ (XN.r (bT (aJ (pv 0)) (XN.r (vA (XN.r (aN)) (XN.r (aN)))))) (XN.r (aN)))))))⟩
theorem Jz:bB ["self", "pane"] ["self", "pane"] (aM qW):=by walk_at "fs"
theorem Hq{κ:Nat→A7}(R:gB K (κ 0) "check_pane" "Bench.check_pane" qW NH) (bD:iZ K (κ 0) jQ) (gU:mg "len" = none):cU P w K mg base (κ 0) "check_pane" 1 2 NH (iD K 2 (jC κ)):=by refine R.Gn Jz (λ_ _ _ _ _ _ us hl=>match us,hl with | [_,_],_=>rfl) (λ_ _ _ _ _ _ _ hr=>?_);have dC:=hr.units;have hu:=cY hr;exact⟨_,aV (iT (Aa (Qc zc Np sV sV (XN.r (aN)) (aJ (pv 1)) (XN.r (iI iB (iC U) U gU F0 (aG (dH bD (aJ (pv 0)) (by decide +kernel) U) aQ))))) (aV (Yp)) fM)⟩
theorem Aw:bB ["changes", "held", "numbers", "found", "number"] ["changes", "held", "numbers"] (aM xR):=by walk_at "fs"
theorem Zw(R:Raw K mg "ripe_among" xR) (vq:mg "all" = none) (gH:mg "list" = none) (XH:iU mg "NEEDS" (3)):qL P w K mg base "ripe_among" 1 3 (iD K 3 tV):=by
 refine R.wX Aw (λ_ _ _ _ _ _ us hl=>match us,hl with | [_,_,_],_=>rfl) (λ_ _ _ _ _ _ _ hr=>?_);have dC:=hr.units;have hu:=cY hr;exact⟨_,aO (bM (i:=3) (Bh) (λh=>bI Aw.nd U (by first | exact D6 U | exact D5 U) h))
  (aO (Yj [] AZ U (lR (aJ (pv 2))) (lJ (i:=4) Aw.nd U (by first | exact D6 U | exact D5 U)) (aV (iT (Ja (XN.r (iI aAF (aAG U) U vq a7 (aG (XN.r (kJ ["need", "held", "found"] [1,3] U (.at (aM xR) ["changes", "held", "numbers", "found", "number"] (by decide +kernel)) (lR (bN (bN (aJ (pv 0)) (aJ (pv 4)) (λ_ _=>rfl)) (XN.r (nH XH U)) (λ_ _=>rfl))) (jH (by decide +kernel) U U) (λ_ _ _ _ _=>nU) (λ_ _ _ _ _=>aEo (XN.r (aAx hu (aJ (pv 0)) (aJ (pv 1)))) (Mt (aAx hu (aJ (pv 0)) (aJ (pv 2))))))) aQ)))) (aV (dh (iG (pv 3)) (aJ (pv 4)) (XN.r (zY)) (λa b c=>wR hu a b c U))) fM)))
  (aV (bV (Ab HS (zU U) U gH F7 (aG (aJ (pv 3)) aQ)))))⟩
theorem Dq:bB ["self", "number", "change"] ["self", "number"] (aM xT):=by walk_at "fs"
theorem Ri{κ:Nat→A7}(R:gB K (κ 0) "strike" "Bench.strike" xT NH) (bD:iZ K (κ 0) jQ) (aBE:iU mg "PANE" (0)) (XQ:iU mg "PLACE" (1)) (Ka:iU mg "THING" (2)):cU P w K mg base (κ 0) "strike" 1 2 NH (spS K 2 (rW κ)):=by
 refine R.Yr Dq (λ_ _ _ _ _ _ us hl=>match us,hl with | [_,_],_=>rfl) (λ_ _ _ _ _ _ _ hr=>?_);have dC:=hr.units;have hu:=cY hr;exact⟨_,aO (bM (i:=2) (XR.n (bN (dH bD (aJ (pv 0)) (by decide +kernel) U) (aJ (pv 1)) (λ_ _=>rfl))) (λh=>bI Dq.nd U (by first | exact D6 U | exact D5 U) h))
  (aO (JW (Lf (oK bD (iG (pv 0)) (by decide +kernel) U) (bN (aJ (pv 2)) (XN.r (nH aBE U)) (λ_ _=>rfl)) (λ_ _=>rfl)) (bN (aJ (pv 2)) (XN.r (nH XQ U)) (λ_ _=>rfl)) (XR.n (bN (aJ (pv 2)) (XN.r (nH Ka U)) (λ_ _=>rfl))) (λa b c=>Dt c (Io a b set_list)))
  (aV (Gp (oK bD (iG (pv 0)) (by decide +kernel) U) (aJ (pv 1)) (XN.r (zY)) (λa b c=>wR hu a b c U))))⟩
theorem sH:bB ["self", "pane", "most", "taken", "number"] ["self", "pane", "most"] (aM uR):=by walk_at "fs"
theorem Tt{κ:Nat→A7}(R:gB K (κ 0) "carve" "Bench.carve" uR NG) (bD:iZ K (κ 0) jQ) (jE:cU P w K mg base (κ 0) "check_pane" 1 2 NH (iD K 2 (jC κ))) (Ew:qL P w K mg base "ripe_among" 1 3 (iD K 3 tV)) (yD:cU P w K mg base (κ 0) "strike" 1 2 NH (spS K 2 (rW κ))) (aGv:mg "max" = none):cU P w K mg base (κ 0) "carve" 2 3 NG (spS K 3 (uT κ)):=by
 refine R.Yr sH (λT _ _ _ _ _ _ us=>⟨λhl=>match us,hl with | [_,_,_],_=>⟨_,U,U⟩,λhl=>match us,hl with | [_,_],_=>⟨_,U,U⟩⟩) (λ_ _ _ _ _ _ _ hr=>?_);have dC:=hr.units;have hu:=cY hr;exact⟨_,aO (Bm (XN.r (cM jE bD (hr.mono (by decide)) (aJ (pv 0)) (aG (aJ (pv 1)) aQ))))
  (aO (bM (i:=3) (cZ Ew (hr.mono (by decide)) U (aG (dH bD (aJ (pv 0)) (by decide +kernel) U) (aG (dH bD (aJ (pv 0)) (by decide +kernel) U) (aG (bN (dH bD (aJ (pv 0)) (by decide +kernel) U) (aJ (pv 1)) (λ_ _=>rfl)) aQ)))) (λh=>bI sH.nd U (by first | exact D6 U | exact D5 U) h))
  (aO (iT (cT Xi Jm (aJ (pv 2)) (XN.r (zZ)) (cR _)) (aV (bM (i:=3) (aAI (aJ (pv 3)) (aDf) (Yg (XN.r (iI aDc (lr U) U aGv PyProof.Rows.boot_max (aG (aJ (pv 2)) (aG (XN.r (aN)) aQ)))))) (λh=>bI sH.nd U (by first | exact D6 U | exact D5 U) h))) fM)
  (aO (Ys AZ U (pv 3) (lJ (i:=4) sH.nd U (by first | exact D6 U | exact D5 U)) (aV (Ad (rQ yD bD fV (hr.mono (by decide)) (iG (pv 0)) (jW (aJ (pv 4)) nW)))))
  (aO (JW (oK bD (iG (pv 0)) (by decide +kernel) U) (aJ (pv 1)) (kJ ["number", "self"] [0] U (.at (aM uR) ["self", "pane", "most", "taken", "number"] (by decide +kernel)) (lR (bN (dH bD (aJ (pv 0)) (by decide +kernel) U) (aJ (pv 1)) (λ_ _=>rfl))) (jH (by decide +kernel) U U) (λ_ _ _ _ _=>Gg (Uy hu (aJ (pv 0)) (dH bD (aJ (pv 1)) (by decide +kernel) U))) (λ_ _ _ _ _=>XR.n (aJ (pv 0)))) (λa b c=>Dt c (Io a b set_list)))
  (aV (Gm (pv 3)))))))⟩
theorem Kc:bB ["self", "place"] ["self", "place"] (aM qX):=by walk_at "fs"
theorem Hr{κ:Nat→A7}(R:gB K (κ 1) "box_ahead" "Weaver.box_ahead" qX NH) (aP:iZ K (κ 1) dF) (Dp:iU mg "HEAD" (0)):cU P w K mg base (κ 1) "box_ahead" 1 2 NH (iD K 2 (jD κ)):=by refine R.Gn Kc (λ_ _ _ _ _ _ us hl=>match us,hl with | [_,_],_=>rfl) (λ_ _ _ _ _ _ _ hr=>?_);have dC:=hr.units;have hu:=cY hr;exact⟨_,aV (bV (XR.n (bN (XN.r (cL (oX (aG (XN.r (nH Dp U)) aQ)) (dH aP (aJ (pv 0)) (by decide +kernel) U))) (aJ (pv 1)) (λ_ _=>rfl))))⟩
theorem Hs:bB ["self", "pane", "place"] ["self", "pane", "place"] (aM pR):=by walk_at "fs"
theorem Ey{κ:Nat→A7}(R:gB K (κ 0) "check_place" "Bench.check_place" pR NH) (bD:iZ K (κ 0) jQ) (jE:cU P w K mg base (κ 0) "check_pane" 1 2 NH (iD K 2 (jC κ))) (gU:mg "len" = none):cU P w K mg base (κ 0) "check_place" 2 3 NH (iD K 3 (iJ κ)):=by
 refine R.Gn Hs (λ_ _ _ _ _ _ us hl=>match us,hl with | [_,_,_],_=>rfl) (λ_ _ _ _ _ _ _ hr=>?_);have dC:=hr.units;have hu:=cY hr;exact⟨_,aO (Bm (XN.r (cM jE bD (hr.mono (by decide)) (aJ (pv 0)) (aG (aJ (pv 1)) aQ))))
  (aV (iT (Aa (Qc zc Np sV sV (XN.r (aN)) (aJ (pv 2)) (XN.r (iI iB (iC U) U gU F0 (aG (bN (dH bD (aJ (pv 0)) (by decide +kernel) U) (aJ (pv 1)) (λ_ _=>rfl)) aQ))))) (aV (Yp)) fM))⟩
theorem PQ:bB ["self", "pane", "place"] ["self", "pane", "place"] (aM Et):=by walk_at "fs"
theorem Zx{κ:Nat→A7}(R:gB K (κ 0) "seen" "Bench.seen" Et NH) (bD:iZ K (κ 0) jQ) (iK:cU P w K mg base (κ 0) "check_place" 2 3 NH (iD K 3 (iJ κ))) (Ka:iU mg "THING" (2)):cU P w K mg base (κ 0) "seen" 3 3 NH (iD K 3 (tW κ)):=by
 refine R.Gn PQ (λ_ _ _ _ _ _ us hl=>match us,hl with | [_,_,_],_=>rfl) (λ_ _ _ _ _ _ _ hr=>?_);have dC:=hr.units;have hu:=cY hr;exact⟨_,aO (Bm (XN.r (cM iK bD (hr.mono (by decide)) (aJ (pv 0)) (aG (aJ (pv 1)) (aG (aJ (pv 2)) aQ)))))
  (aO (iT (il hu (Qd (aG (aJ (pv 1)) (aG (aJ (pv 2)) aQ))) (dH bD (aJ (pv 0)) (by decide +kernel) U)) (aV (bV (XR.n (bN (bN (dH bD (aJ (pv 0)) (by decide +kernel) U) (XN.r (JT hu (dH bD (aJ (pv 0)) (by decide +kernel) U) (Qd (aG (aJ (pv 1)) (aG (aJ (pv 2)) aQ))) (λ_ _=>rfl))) (λ_ _=>rfl)) (XN.r (nH Ka U)) (λ_ _=>rfl))))) fM)
  (aV (bV (XR.n (bN (bN (dH bD (aJ (pv 0)) (by decide +kernel) U) (aJ (pv 1)) (λ_ _=>rfl)) (aJ (pv 2)) (λ_ _=>rfl))))))⟩
theorem wH:bB ["self", "box", "spot"] ["self", "box"] (aM qY):=by walk_at "fs"
theorem Ht{κ:Nat→A7}(R:gB K (κ 1) "record_of" "Weaver.record_of" qY NH) (aP:iZ K (κ 1) dF) (bD:iZ K (κ 0) jQ) (Ez:cU P w K mg base (κ 0) "seen" 3 3 NH (iD K 3 (tW κ))):cU P w K mg base (κ 1) "record_of" 4 2 NH (iD K 2 (aW κ)):=by
 refine R.Gn wH (λ_ _ _ _ _ _ us hl=>match us,hl with | [_,_],_=>rfl) (λ_ _ _ _ _ _ _ hr=>?_);have dC:=hr.units;have hu:=cY hr;exact⟨_,aO (bM (i:=2) (XR.n (bN (dH aP (aJ (pv 0)) (by decide +kernel) U) (aJ (pv 1)) (λ_ _=>rfl))) (λh=>bI wH.nd U (by first | exact D6 U | exact D5 U) h))
  (aV (bV (cM Ez bD (hr.mono (by decide)) (dH aP (aJ (pv 0)) (by decide +kernel) U) (aG (bN (aJ (pv 2)) (XN.r (aN)) (λ_ _=>rfl)) (aG (bN (aJ (pv 2)) (XN.r (aN)) (λ_ _=>rfl)) aQ)))))⟩
theorem Fb:bB ["self", "number"] ["self", "number"] (aM pG):=by walk_at "fs"
theorem Dc{κ:Nat→A7}(R:gB K (κ 0) "check_change" "Bench.check_change" pG NH) (bD:iZ K (κ 0) jQ) (gU:mg "len" = none):cU P w K mg base (κ 0) "check_change" 1 2 NH (iD K 2 (gO κ)):=by refine R.Gn Fb (λ_ _ _ _ _ _ us hl=>match us,hl with | [_,_],_=>rfl) (λ_ _ _ _ _ _ _ hr=>?_);have dC:=hr.units;have hu:=cY hr;exact⟨_,aV (iT (Aa (Qc zc Np sV sV (XN.r (aN)) (aJ (pv 1)) (XN.r (iI iB (iC U) U gU F0 (aG (dH bD (aJ (pv 0)) (by decide +kernel) U) aQ))))) (aV (Yp)) fM)⟩
theorem yE:bB ["self", "pane", "place", "thing", "needs", "needed", "need", "number"] ["self", "pane", "place", "thing", "needs"] (aM Jw):=by walk_at "fs"
theorem PX{κ:Nat→A7}(R:gB K (κ 0) "put" "Bench.put" Jw NG) (bD:iZ K (κ 0) jQ) (iK:cU P w K mg base (κ 0) "check_place" 2 3 NH (iD K 3 (iJ κ))) (gP:cU P w K mg base (κ 0) "check_change" 1 2 NH (iD K 2 (gO κ))) (gH:mg "list" = none) (gU:mg "len" = none) (oH:mg "sorted" = none) (vy:mg "set" = none) (XS:mg "tuple" = none):cU P w K mg base (κ 0) "put" 3 5 NG (spS K 5 (Bw κ)):=by
 refine R.Yr yE (λT _ _ _ _ _ _ us=>⟨λhl=>match us,hl with | [_,_,_,_,_],_=>⟨_,U,U⟩,λhl=>match us,hl with | [_,_,_,_],_=>⟨_,U,U⟩⟩) (λ_ _ _ _ _ _ _ hr=>?_);have dC:=hr.units;have hu:=cY hr;exact⟨_,aO (Bm (XN.r (cM iK bD (hr.mono (by decide)) (aJ (pv 0)) (aG (aJ (pv 1)) (aG (aJ (pv 2)) aQ)))))
  (aO (bM (i:=5) (aEq (cT Xh Yt (aJ (pv 4)) (XN.r (zZ)) (cR _)) (qP gZ) (Ab uI (uJ U) U gH F7 (aG (aJ (pv 4)) aQ))) (λh=>bI yE.nd U (by first | exact D6 U | exact D5 U) h))
  (aO (Ys AZ U (pv 5) (lJ (i:=6) yE.nd U (by first | exact D6 U | exact D5 U)) (aV (Bm (XN.r (cM gP bD (hr.mono (by decide)) (aJ (pv 0)) (aG (aJ (pv 6)) aQ))))))
  (aO (iT (il hu (Qd (aG (aJ (pv 1)) (aG (aJ (pv 2)) aQ))) (dH bD (aJ (pv 0)) (by decide +kernel) U)) (aV (aAR (iG (pv 5)) (JT hu (dH bD (aJ (pv 0)) (by decide +kernel) U) (Qd (aG (aJ (pv 1)) (aG (aJ (pv 2)) aQ))) (λ_ _=>rfl)) (λa b=>lH (uG F1 K1 K2 mJ a (fD b jY))))) fM)
  (aO (bM (i:=7) (iI iB (iC U) U gU F0 (aG (dH bD (aJ (pv 0)) (by decide +kernel) U) aQ)) (λh=>bI yE.nd U (by first | exact D6 U | exact D5 U) h))
  (aO (Mw (oK bD (iG (pv 0)) (by decide +kernel) U) (qQ (bF (XR.n (aJ (pv 1))) (bF (XR.n (aJ (pv 2))) (bF (XR.n (aJ (pv 3))) (bF (Ab aAC (aAD U) U XS PyProof.Rows.boot_tuple (aG (XN.r (aDp (aJ (pv 5)) U oH P1 U vy a8)) aQ)) gZ))))) (λa b=>lH (uG F1 K1 K2 mJ a (fD b jY))))
  (aO (aBc (oK bD (iG (pv 0)) (by decide +kernel) U) (Qd (aG (aJ (pv 1)) (aG (aJ (pv 2)) aQ))) (aJ (pv 7)) (λa b c=>wR hu a b c U))
  (aO (Mw (Lf (oK bD (iG (pv 0)) (by decide +kernel) U) (aJ (pv 1)) (λ_ _=>rfl)) (XR.n (aJ (pv 7))) (λa b=>lH (uG F1 K1 K2 mJ a (fD b jY))))
  (aV (Gm (pv 7))))))))))⟩
theorem aDI:bB ["numbers"] ["numbers"] (aM Zj):=by walk_at "fs"
theorem aBF(R:Raw K mg "known" Zj):qL P w K mg base "known" 1 1 (iD K 1 Zk):=by refine R.wX aDI (λ_ _ _ _ _ _ us hl=>match us,hl with | [_],_=>rfl) (λ_ _ _ _ _ _ _ hr=>?_);have dC:=hr.units;have hu:=cY hr;exact⟨_,aV (bV (kJ ["number"] [] U (.at (aM Zj) ["numbers"] (by decide +kernel)) (lR (aJ (pv 0))) (jH (by decide +kernel) U U) (λ_ _ _ _ _=>Gg (cT Xi Jm (aJ (pv 0)) (XN.r (zZ)) (cR _))) (λ_ _ _ _ _=>XR.n (aJ (pv 0)))))⟩
theorem vH:bB ["self", "box", "record", "needed", "spot", "number"] ["self", "box", "record", "needed"] (aM xU):=by walk_at "fs"
theorem Rj{κ:Nat→A7}(R:gB K (κ 1) "write" "Weaver.write" xU NH) (aP:iZ K (κ 1) dF) (bD:iZ K (κ 0) jQ) (Kd:cU P w K mg base (κ 0) "put" 3 5 NG (spS K 5 (Bw κ))) (XX:qL P w K mg base "known" 1 1 (iD K 1 Zk)):cU P w K mg base (κ 1) "write" 4 4 NH (spS K 4 (mQ κ)):=by
 refine R.Yr vH (λ_ _ _ _ _ _ us hl=>match us,hl with | [_,_,_,_],_=>rfl) (λ_ _ _ _ _ _ _ hr=>?_);have dC:=hr.units;have hu:=cY hr;exact⟨_,aO (bM (i:=4) (XR.n (bN (dH aP (aJ (pv 0)) (by decide +kernel) U) (aJ (pv 1)) (λ_ _=>rfl))) (λh=>bI vH.nd U (by first | exact D6 U | exact D5 U) h))
  (aO (Mv (i:=5) (rQ Kd bD fV (hr.mono (by decide)) (oK aP (iG (pv 0)) (by decide +kernel) U) (jW (bN (aJ (pv 4)) (XN.r (aN)) (λ_ _=>rfl)) (jW (bN (aJ (pv 4)) (XN.r (aN)) (λ_ _=>rfl)) (jW (aJ (pv 2)) (jW (XN.r (cZ XX (hr.mono (by decide)) U (aG (aJ (pv 3)) aQ))) nW))))) (λh=>bI vH.nd U (by first | exact D6 U | exact D5 U) h))
  (aO (Gp (oK aP (iG (pv 0)) (by decide +kernel) U) (aJ (pv 1)) (aJ (pv 5)) (λa b c=>wR hu a b c U))
  (aV (Gm (pv 5)))))⟩
theorem Ke:bB ["self", "box"] ["self", "box"] (aM qZ):=by walk_at "fs"
theorem Hu{κ:Nat→A7}(R:gB K (κ 1) "coming_in" "Weaver.coming_in" qZ NH) (aP:iZ K (κ 1) dF):cU P w K mg base (κ 1) "coming_in" 1 2 NH (iD K 2 (oF κ)):=by refine R.Gn Ke (λ_ _ _ _ _ _ us hl=>match us,hl with | [_,_],_=>rfl) (λ_ _ _ _ _ _ _ hr=>?_);have dC:=hr.units;have hu:=cY hr;exact⟨_,aV (bV (Qi hu (dH aP (aJ (pv 0)) (by decide +kernel) U) (aJ (pv 1)) ⟨U,U,U,U⟩))⟩
theorem Hv:bB ["self", "box", "record", "needed"] ["self", "box", "record", "needed"] (aM pU):=by walk_at "fs"
theorem Fd{κ:Nat→A7}(R:gB K (κ 1) "write_tied" "Weaver.write_tied" pU NH) (aP:iZ K (κ 1) dF) (mU:cU P w K mg base (κ 1) "write" 4 4 NH (spS K 4 (mQ κ))) (rB:cU P w K mg base (κ 1) "coming_in" 1 2 NH (iD K 2 (oF κ))):cU P w K mg base (κ 1) "write_tied" 5 4 NH (spS K 4 (fX κ)):=by refine R.Yr Hv (λ_ _ _ _ _ _ us hl=>match us,hl with | [_,_,_,_],_=>rfl) (λ_ _ _ _ _ _ _ hr=>?_);have dC:=hr.units;have hu:=cY hr;exact⟨_,aV (Gk (rQ mU aP fV (hr.mono (by decide)) (iG (pv 0)) (jW (aJ (pv 1)) (jW (aJ (pv 2)) (Lg (cL (oX (aG (XN.r (cM rB aP (hr.mono (by decide)) (aJ (pv 0)) (aG (aJ (pv 1)) aQ))) aQ)) (aJ (pv 3))) nW)))))⟩
theorem Hw:bB ["self", "box", "following", "needed", "record"] ["self", "box", "following", "needed"] (aM An):=by walk_at "fs"
theorem Tu{κ:Nat→A7}(R:gB K (κ 1) "link" "Weaver.link" An NH) (aP:iZ K (κ 1) dF) (aZ:cU P w K mg base (κ 1) "record_of" 4 2 NH (iD K 2 (aW κ))) (iM:cU P w K mg base (κ 1) "write_tied" 5 4 NH (spS K 4 (fX κ))) (Mh:iU mg "KEY" (0)) (aGw:iU mg "WAS" (2)) (aGx:iU mg "NOW" (3)) (aGy:iU mg "AGE" (4)):cU P w K mg base (κ 1) "link" 6 4 NH (spS K 4 (lX κ)):=by
 refine R.Yr Hw (λ_ _ _ _ _ _ us hl=>match us,hl with | [_,_,_,_],_=>rfl) (λ_ _ _ _ _ _ _ hr=>?_);have dC:=hr.units;have hu:=cY hr;exact⟨_,aO (bM (i:=4) (cM aZ aP (hr.mono (by decide)) (aJ (pv 0)) (aG (aJ (pv 1)) aQ)) (λh=>bI Hw.nd U (by first | exact D6 U | exact D5 U) h))
  (aV (Gk (rQ iM aP fV (hr.mono (by decide)) (iG (pv 0)) (jW (aJ (pv 1)) (jW (XN.r (qQ (bF (XR.n (bN (aJ (pv 4)) (XN.r (nH Mh U)) (λ_ _=>rfl))) (bF (XR.n (aJ (pv 2))) (bF (XR.n (bN (aJ (pv 4)) (XN.r (nH aGw U)) (λ_ _=>rfl))) (bF (XR.n (bN (aJ (pv 4)) (XN.r (nH aGx U)) (λ_ _=>rfl))) (bF (XR.n (bN (aJ (pv 4)) (XN.r (nH aGy U)) (λ_ _=>rfl))) gZ))))))) (jW (aJ (pv 3)) nW))))))⟩
theorem mC:bB ["self", "needs", "further", "need"] ["self", "needs"] (aM mY):=by walk_at "fs"
theorem zN{κ:Nat→A7}(R:gB K (κ 1) "further_needs" "Weaver.further_needs" mY NH) (bD:iZ K (κ 0) jQ) (aP:iZ K (κ 1) dF) (gP:cU P w K mg base (κ 0) "check_change" 1 2 NH (iD K 2 (gO κ))) (gH:mg "list" = none):cU P w K mg base (κ 1) "further_needs" 2 2 NH (iD K 2 (cA κ)):=by
 refine R.Gn mC (λ_ _ _ _ _ _ us hl=>match us,hl with | [_,_],_=>rfl) (λ_ _ _ _ _ _ _ hr=>?_);have dC:=hr.units;have hu:=cY hr;exact⟨_,aO (bM (i:=2) (aEq (cT Xh Yt (aJ (pv 1)) (XN.r (zZ)) (cR _)) (qP gZ) (Ab uI (uJ U) U gH F7 (aG (aJ (pv 1)) aQ))) (λh=>bI mC.nd U (by first | exact D6 U | exact D5 U) h))
  (aO (Ys AZ U (pv 2) (lJ (i:=3) mC.nd U (by first | exact D6 U | exact D5 U)) (aV (Bm (XN.r (cM gP bD (hr.mono (by decide)) (dH aP (aJ (pv 0)) (by decide +kernel) U) (aG (aJ (pv 3)) aQ))))))
  (aV (Yi (pv 2))))⟩
theorem Fe:bB ["self", "box"] ["self", "box"] (aM pH):=by walk_at "fs"
theorem Dd{κ:Nat→A7}(R:gB K (κ 1) "last_change" "Weaver.last_change" pH NH) (aP:iZ K (κ 1) dF):cU P w K mg base (κ 1) "last_change" 1 2 NH (iD K 2 (lK κ)):=by refine R.Gn Fe (λ_ _ _ _ _ _ us hl=>match us,hl with | [_,_],_=>rfl) (λ_ _ _ _ _ _ _ hr=>?_);have dC:=hr.units;have hu:=cY hr;exact⟨_,aV (bV (Qi hu (dH aP (aJ (pv 0)) (by decide +kernel) U) (aJ (pv 1)) ⟨U,U,U,U⟩))⟩
theorem qC:bB ["self", "box", "needs", "ahead", "needed", "going"] ["self", "box", "needs"] (aM xV):=by walk_at "fs"
theorem Rk{κ:Nat→A7}(R:gB K (κ 1) "leave" "Weaver.leave" xV NG) (aP:iZ K (κ 1) dF) (jF:cU P w K mg base (κ 1) "box_ahead" 1 2 NH (iD K 2 (jD κ))) (pJ:cU P w K mg base (κ 1) "last_change" 1 2 NH (iD K 2 (lK κ))) (cD:cU P w K mg base (κ 1) "further_needs" 2 2 NH (iD K 2 (cA κ))) (oW:cU P w K mg base (κ 1) "link" 6 4 NH (spS K 4 (lX κ))) (aZ:cU P w K mg base (κ 1) "record_of" 4 2 NH (iD K 2 (aW κ))) (wG:iU mg "NEXT" (1)):cU P w K mg base (κ 1) "leave" 7 3 NG (spS K 3 (rY κ)):=by
 refine R.Yr qC (λT _ _ _ _ _ _ us=>⟨λhl=>match us,hl with | [_,_,_],_=>⟨_,U,U⟩,λhl=>match us,hl with | [_,_],_=>⟨_,U,U⟩⟩) (λ_ _ _ _ _ _ _ hr=>?_);have dC:=hr.units;have hu:=cY hr;exact⟨_,aO (bM (i:=3) (cM jF aP (hr.mono (by decide)) (aJ (pv 0)) (aG (XN.r (aBj (dH aP (aJ (pv 0)) (by decide +kernel) U) (aJ (pv 1)) (λa b=>uG F1 PySem.F.slot_list_index PySem.F.type_list_index aBi a (fD b jY)))) aQ)) (λh=>bI qC.nd U (by first | exact D6 U | exact D5 U) h))
  (aO (bM (i:=4) (cL (oX (aG (XN.r (cM pJ aP (hr.mono (by decide)) (aJ (pv 0)) (aG (aJ (pv 1)) aQ))) aQ)) (XN.r (cM cD aP (hr.mono (by decide)) (aJ (pv 0)) (aG (aJ (pv 2)) aQ)))) (λh=>bI qC.nd U (by first | exact D6 U | exact D5 U) h))
  (aO (Mv (i:=5) (rQ oW aP fV (hr.mono (by decide)) (iG (pv 0)) (jW (aJ (pv 3)) (Lg (XR.n (bN (XN.r (cM aZ aP (hr.mono (by decide)) (aJ (pv 0)) (aG (aJ (pv 1)) aQ))) (XN.r (nH wG U)) (λ_ _=>rfl))) (jW (aJ (pv 4)) nW)))) (λh=>bI qC.nd U (by first | exact D6 U | exact D5 U) h))
  (aO (Yv (oK aP (iG (pv 0)) (by decide +kernel) U) (aJ (pv 1)) (λa b=>lH (uG F1 R5 R6 Jp a (fD b jY))))
  (aO (Mw (oK aP (iG (pv 0)) (by decide +kernel) U) (XR.n (aJ (pv 1))) (λa b=>lH (uG F1 K1 K2 mJ a (fD b jY))))
  (aO (Gp (oK aP (iG (pv 0)) (by decide +kernel) U) (aJ (pv 1)) (aJ (pv 5)) (λa b c=>wR hu a b c U))
  (aV (Gm (pv 5))))))))⟩
theorem Dr:bB ["self", "key", "box"] ["self", "key"] (aM xW):=by walk_at "fs"
theorem Rm{κ:Nat→A7}(R:gB K (κ 1) "box_of" "Weaver.box_of" xW NH) (aP:iZ K (κ 1) dF) (aZ:cU P w K mg base (κ 1) "record_of" 4 2 NH (iD K 2 (aW κ))) (Mh:iU mg "KEY" (0)):cU P w K mg base (κ 1) "box_of" 5 2 NH (iD K 2 (cB κ)):=by
 refine R.Gn Dr (λ_ _ _ _ _ _ us hl=>match us,hl with | [_,_],_=>rfl) (λ_ _ _ _ _ _ _ hr=>?_);have dC:=hr.units;have hu:=cY hr;exact⟨_,aO (Yj [] AZ U (lR (dH aP (aJ (pv 0)) (by decide +kernel) U)) (lJ (i:=2) Dr.nd U (by first | exact D6 U | exact D5 U)) (aV (iT (cT (or_eq dC U) yP (bN (XN.r (cM aZ aP (hr.mono (by decide)) (aJ (pv 0)) (aG (aJ (pv 2)) aQ))) (XN.r (nH Mh U)) (λ_ _=>rfl)) (aJ (pv 1)) (cR _)) (aV (Yi (pv 2))) fM)))
  (aV (bV (zZ)))⟩
theorem yX:bB ["self", "box", "was", "now", "age", "needs", "record"] ["self", "box", "was", "now", "age", "needs"] (aM tX):=by walk_at "fs"
theorem Kf{κ:Nat→A7}(R:gB K (κ 1) "rewrite" "Weaver.rewrite" tX NG) (aP:iZ K (κ 1) dF) (aZ:cU P w K mg base (κ 1) "record_of" 4 2 NH (iD K 2 (aW κ))) (iM:cU P w K mg base (κ 1) "write_tied" 5 4 NH (spS K 4 (fX κ))) (cD:cU P w K mg base (κ 1) "further_needs" 2 2 NH (iD K 2 (cA κ))) (Mh:iU mg "KEY" (0)) (wG:iU mg "NEXT" (1)):cU P w K mg base (κ 1) "rewrite" 6 6 NG (spS K 6 (pI κ)):=by
 refine R.Yr yX (λT _ _ _ _ _ _ us=>⟨λhl=>match us,hl with | [_,_,_,_,_,_],_=>⟨_,U,U⟩,λhl=>match us,hl with | [_,_,_,_,_],_=>⟨_,U,U⟩⟩) (λ_ _ _ _ _ _ _ hr=>?_);have dC:=hr.units;have hu:=cY hr;exact⟨_,aO (bM (i:=6) (cM aZ aP (hr.mono (by decide)) (aJ (pv 0)) (aG (aJ (pv 1)) aQ)) (λh=>bI yX.nd U (by first | exact D6 U | exact D5 U) h))
  (aV (Gk (rQ iM aP fV (hr.mono (by decide)) (iG (pv 0)) (jW (aJ (pv 1)) (jW (XN.r (qQ (bF (XR.n (bN (aJ (pv 6)) (XN.r (nH Mh U)) (λ_ _=>rfl))) (bF (XR.n (bN (aJ (pv 6)) (XN.r (nH wG U)) (λ_ _=>rfl))) (bF (XR.n (aJ (pv 2))) (bF (XR.n (aJ (pv 3))) (bF (XR.n (aJ (pv 4))) gZ))))))) (Lg (cM cD aP (hr.mono (by decide)) (aJ (pv 0)) (aG (aJ (pv 5)) aQ)) nW))))))⟩
theorem Zy:bB ["self"] ["self"] (aM uV):=by walk_at "fs"
theorem Tv{κ:Nat→A7}(R:gB K (κ 0) "stone" "Bench.stone" uV NH) (bD:iZ K (κ 0) jQ) (gH:mg "list" = none):cU P w K mg base (κ 0) "stone" 1 1 NH (iD K 1 (qH κ)):=by refine R.Gn Zy (λ_ _ _ _ _ _ us hl=>match us,hl with | [_],_=>rfl) (λ_ _ _ _ _ _ _ hr=>?_);have dC:=hr.units;have hu:=cY hr;exact⟨_,aV (bV (kJ ["pane"] [] U (.at (aM uV) ["self"] (by decide +kernel)) (lR (dH bD (aJ (pv 0)) (by decide +kernel) U)) (jH (by decide +kernel) U U) (λ_ _ _ _ _=>nU) (λ_ _ _ _ _=>Ab uI (uJ U) U gH F7 (aG (aJ (pv 0)) aQ))))⟩
theorem Zz:bB ["self"] ["self"] (aM Aq):=by walk_at "fs"
theorem Tw{κ:Nat→A7}(R:gB K (κ 1) "free" "Weaver.free" Aq NH) (aP:iZ K (κ 1) dF) (oH:mg "sorted" = none):cU P w K mg base (κ 1) "free" 1 1 NH (iD K 1 (eG κ)):=by refine R.Gn Zz (λ_ _ _ _ _ _ us hl=>match us,hl with | [_],_=>rfl) (λ_ _ _ _ _ _ _ hr=>?_);have dC:=hr.units;have hu:=cY hr;exact⟨_,aV (bV (iI Jd (Je U) U oH P1 (aG (dH aP (aJ (pv 0)) (by decide +kernel) U) aQ)))⟩
theorem aBG:bB ["keys", "at", "cell"] ["keys", "at", "cell"] (aM Zm):=by walk_at "fs"
theorem vz(R:Raw K mg "_law_key" Zm) (gU:mg "len" = none):qL P w K mg base "_law_key" 1 3 (iD K 3 Hi):=by
 refine R.wX aBG (λ_ _ _ _ _ _ us hl=>match us,hl with | [_,_,_],_=>rfl) (λ_ _ _ _ _ _ _ hr=>?_);have dC:=hr.units;have hu:=cY hr;exact⟨_,aO (iT (cT (or_eq dC U) yP (aJ (pv 0)) (oX aQ) (cR _)) (aV (bV (bT (aJ (pv 2)) (XN.r (vA (XN.r (aN)) (XN.r (aN))))))) fM)
  (aO (iT (cT (or_eq dC U) yP (aJ (pv 1)) (XN.r (aN)) (cR _)) (aV (bV (qO (XN.r (qO (bN (aJ (pv 0)) (XN.r (aN)) (λ_ _=>rfl)) (XN.r (aN)))) (XN.r (bT (aJ (pv 2)) (XN.r (vA (XN.r (aN)) (XN.r (aN))))))))) fM)
  (aO (iT (XW.xt (Ox (cT Np sV (aJ (pv 1)) (XN.r (iI iB (iC U) U gU F0 (aG (aJ (pv 0)) aQ))) (cR _)) (Gf (cT aHp sV (XN.r (qO (bN (aJ (pv 0)) (aJ (pv 1)) (λ_ _=>rfl)) (bN (aJ (pv 0)) (XN.r (qO (aJ (pv 1)) (XN.r (aN)))) (λ_ _=>rfl)))) (XN.r (aN)) (cR _))))) (aV (bV (cL (XN.r (cL (bN (aJ (pv 0)) (XN.r (qO (aJ (pv 1)) (XN.r (aN)))) (λ_ _=>rfl)) (XN.r (aN)))) (XN.r (bT (aJ (pv 2)) (XN.r (qO (XN.r (qO (bN (aJ (pv 0)) (aJ (pv 1)) (λ_ _=>rfl)) (bN (aJ (pv 0)) (XN.r (qO (aJ (pv 1)) (XN.r (aN)))) (λ_ _=>rfl)))) (XN.r (aN))))))))) fM)
  (aV (bV (cL (XN.r (cL (bN (aJ (pv 0)) (XN.r (rP (XN.r (aN)))) (λ_ _=>rfl)) (XN.r (aN)))) (XN.r (bT (aJ (pv 2)) (XN.r (vA (XN.r (aN)) (XN.r (aN)))))))))))⟩
theorem Kg:bB ["self", "box"] ["self", "box"] (aM rA):=by walk_at "fs"
theorem Hx{κ:Nat→A7}(R:gB K (κ 1) "going_out" "Weaver.going_out" rA NH) (aP:iZ K (κ 1) dF):cU P w K mg base (κ 1) "going_out" 1 2 NH (iD K 2 (oG κ)):=by refine R.Gn Kg (λ_ _ _ _ _ _ us hl=>match us,hl with | [_,_],_=>rfl) (λ_ _ _ _ _ _ _ hr=>?_);have dC:=hr.units;have hu:=cY hr;exact⟨_,aV (bV (Qi hu (dH aP (aJ (pv 0)) (by decide +kernel) U) (aJ (pv 1)) ⟨U,U,U,U⟩))⟩
theorem jM:bB ["self", "key", "was", "now", "age", "needs", "further", "place", "ahead", "box", "filled", "coming"] ["self", "key", "was", "now", "age", "needs"] (aM sE):=by walk_at "fs"
theorem Rn{κ:Nat→A7}(R:gB K (κ 1) "enter" "Weaver.enter" sE NG) (aP:iZ K (κ 1) dF) (cD:cU P w K mg base (κ 1) "further_needs" 2 2 NH (iD K 2 (cA κ))) (aZ:cU P w K mg base (κ 1) "record_of" 4 2 NH (iD K 2 (aW κ))) (jF:cU P w K mg base (κ 1) "box_ahead" 1 2 NH (iD K 2 (jD κ))) (mU:cU P w K mg base (κ 1) "write" 4 4 NH (spS K 4 (mQ κ))) (rC:cU P w K mg base (κ 1) "going_out" 1 2 NH (iD K 2 (oG κ))) (oW:cU P w K mg base (κ 1) "link" 6 4 NH (spS K 4 (lX κ))) (gU:mg "len" = none) (aGz:mg "min" = none) (Mh:iU mg "KEY" (0)) (wG:iU mg "NEXT" (1)):cU P w K mg base (κ 1) "enter" 7 6 NG (spS K 6 (sG κ)):=by
 refine R.Yr jM (λT _ _ _ _ _ _ us=>⟨λhl=>match us,hl with | [_,_,_,_,_,_],_=>⟨_,U,U⟩,λhl=>match us,hl with | [_,_,_,_,_],_=>⟨_,U,U⟩⟩) (λ_ _ _ _ _ _ _ hr=>?_);have dC:=hr.units;have hu:=cY hr;exact⟨_,aO (iT (cT (or_eq dC U) yP (XN.r (iI iB (iC U) U gU F0 (aG (dH aP (aJ (pv 0)) (by decide +kernel) U) aQ))) (XN.r (aN)) (cR _)) (aV (Yp)) fM)
  (aO (bM (i:=6) (cM cD aP (hr.mono (by decide)) (aJ (pv 0)) (aG (aJ (pv 5)) aQ)) (λh=>bI jM.nd U (by first | exact D6 U | exact D5 U) h))
  (aO (bM (i:=7) (iI iB (iC U) U gU F0 (aG (XN.r (kJ ["box", "self", "key"] [0,1] U (.at (aM sE) ["self", "key", "was", "now", "age", "needs", "further", "place", "ahead", "box", "filled", "coming"] (by decide +kernel)) (lR (dH aP (aJ (pv 0)) (by decide +kernel) U)) (jH (by decide +kernel) U U) (λ_ _ _ _ _=>Gg (cT Np sV (bN (XN.r (cM aZ aP (hr.mono (by decide)) (aJ (pv 1)) (aG (aJ (pv 0)) aQ))) (XN.r (nH Mh U)) (λ_ _=>rfl)) (aJ (pv 2)) (cR _))) (λ_ _ _ _ _=>XR.n (aJ (pv 0))))) aQ)) (λh=>bI jM.nd U (by first | exact D6 U | exact D5 U) h))
  (aO (bM (i:=8) (cM jF aP (hr.mono (by decide)) (aJ (pv 0)) (aG (aJ (pv 7)) aQ)) (λh=>bI jM.nd U (by first | exact D6 U | exact D5 U) h))
  (aO (bM (i:=9) (iI aDd (aDe U) U aGz PyProof.Rows.boot_min (aG (dH aP (aJ (pv 0)) (by decide +kernel) U) aQ)) (λh=>bI jM.nd U (by first | exact D6 U | exact D5 U) h))
  (aO (Mv (i:=10) (rQ mU aP fV (hr.mono (by decide)) (iG (pv 0)) (jW (aJ (pv 9)) (Lg (qQ (bF (XR.n (aJ (pv 1))) (bF (XR.n (bN (XN.r (cM aZ aP (hr.mono (by decide)) (aJ (pv 0)) (aG (aJ (pv 8)) aQ))) (XN.r (nH wG U)) (λ_ _=>rfl))) (bF (XR.n (aJ (pv 2))) (bF (XR.n (aJ (pv 3))) (bF (XR.n (aJ (pv 4))) gZ)))))) (Lg (qP (bF (cM rC aP (hr.mono (by decide)) (aJ (pv 0)) (aG (aJ (pv 9)) aQ)) gZ)) nW)))) (λh=>bI jM.nd U (by first | exact D6 U | exact D5 U) h))
  (aO (Mv (i:=11) (rQ oW aP fV (hr.mono (by decide)) (iG (pv 0)) (jW (aJ (pv 8)) (jW (aJ (pv 9)) (jW (XN.r (cL (oX (aG (aJ (pv 10)) aQ)) (aJ (pv 6)))) nW)))) (λh=>bI jM.nd U (by first | exact D6 U | exact D5 U) h))
  (aO (aDy (oK aP (iG (pv 0)) (by decide +kernel) U) (aJ (pv 7)) (aJ (pv 9)) (λa b c=>lH (uG F1 PySem.F.slot_list_insert PySem.F.type_list_insert uo a (fD b (fD c jY)))))
  (aO (Yv (oK aP (iG (pv 0)) (by decide +kernel) U) (aJ (pv 9)) (λa b=>lH (uG F1 R5 R6 Jp a (fD b jY))))
  (aO (Gp (oK aP (iG (pv 0)) (by decide +kernel) U) (aJ (pv 9)) (aJ (pv 11)) (λa b c=>wR hu a b c U))
  (aV (Gk (ir (qQ (bF (XR.n (aJ (pv 9))) (bF (XR.n (aJ (pv 11))) gZ)))))))))))))))⟩
theorem Cd:bB ["weaver", "keys", "cell", "rest", "key"] ["weaver", "keys", "cell"] (aM Ra):=by walk_at "fs"
theorem YC{κ:Nat→A7}(R:Raw K mg "_law_done" Ra) (bD:iZ K (κ 0) jQ) (aP:iZ K (κ 1) dF) (Ax:cU P w K mg base (κ 0) "carve" 2 3 NG (spS K 3 (uT κ))) (Ay:cU P w K mg base (κ 0) "stone" 1 1 NH (iD K 1 (qH κ))) (yF:cU P w K mg base (κ 1) "leave" 7 3 NG (spS K 3 (rY κ))) (gD:cU P w K mg base (κ 1) "box_of" 5 2 NH (iD K 2 (cB κ))) (tY:cU P w K mg base (κ 1) "rewrite" 6 6 NG (spS K 6 (pI κ))) (gJ:cU P w K mg base (κ 1) "free" 1 1 NH (iD K 1 (eG κ))) (BJ:qL P w K mg base "_law_key" 1 3 (iD K 3 Hi)) (yG:cU P w K mg base (κ 1) "enter" 7 6 NG (spS K 6 (sG κ))) (gU:mg "len" = none) (oH:mg "sorted" = none):qL P w K mg base "_law_done" 8 3 (spG K [NG,NG,NH] (wD κ)):=by
 refine R.aJy (mask:=[NG,NG,NH]) Cd (λ_ _ _ _ _ _ us hl=>match us,hl with | [_,_,_],_=>rfl) U (λ_ _ _ _ _ _ _ hr=>?_);have dC:=hr.units;have hu:=cY hr;exact⟨_,aO (bM (i:=3) (oJ (aJ (pv 2)) (XN.r (aN))) (λh=>bI Cd.nd U (by first | exact D6 U | exact D5 U) h))
  (aO (iT (cT (or_eq dC U) yP (XN.r (bT (aJ (pv 2)) (XN.r (aN)))) (XN.r (aN)) (cR _)) (aV (Ad (rQ Ax bD fV (hr.mono (by decide)) (oK aP (iG (pv 0)) (by decide +kernel) U) (Lg (bT (aJ (pv 3)) (XN.r (iI iB (iC U) U gU F0 (aG (XN.r (kZ Ay bD (hr.mono (by decide)) (dH aP (aJ (pv 0)) (by decide +kernel) U))) aQ)))) (jW (XN.r (bT (XN.r (oJ (aJ (pv 3)) (XN.r (aN)))) (XN.r (aN)))) nW))))) (aV (iT (XW.xt (Ox (cT (or_eq dC U) yP (XN.r (bT (aJ (pv 2)) (XN.r (aN)))) (XN.r (aN)) (cR _)) (Gf (cT (yR dC U) yQ (aJ (pv 1)) (oX aQ) (cR _))))) (aO (bM (i:=4) (XR.n (bN (aJ (pv 1)) (XN.r (bT (aJ (pv 3)) (XN.r (iI iB (iC U) U gU F0 (aG (aJ (pv 1)) aQ))))) (λ_ _=>rfl))) (λh=>bI Cd.nd U (by first | exact D6 U | exact D5 U) h))
  (aO (Ad (Qa yF aP fV (hr.mono (by decide)) (iG (pv 0)) (Lg (cM gD aP (hr.mono (by decide)) (aJ (pv 0)) (aG (aJ (pv 4)) aQ)) nW)))
  (aV (Yv (iG (pv 1)) (aJ (pv 4)) (λa b=>lH (uG F1 R5 R6 Jp a (fD b jY))))))) (aV (iT (XW.xt (Ox (cT (or_eq dC U) yP (XN.r (bT (aJ (pv 2)) (XN.r (aN)))) (XN.r (aN)) (cR _)) (Gf (cT (yR dC U) yQ (aJ (pv 1)) (oX aQ) (cR _))))) (aV (Ad (Qa tY aP fV (hr.mono (by decide)) (iG (pv 0)) (Lg (cM gD aP (hr.mono (by decide)) (aJ (pv 0)) (aG (bN (aJ (pv 1)) (XN.r (bT (aJ (pv 3)) (XN.r (iI iB (iC U) U gU F0 (aG (aJ (pv 1)) aQ))))) (λ_ _=>rfl)) aQ)) (jW (XN.r (rP (XN.r (aN)))) (jW (XN.r (bT (aJ (pv 3)) (XN.r (aN)))) (jW (XN.r (aN)) nW))))))) (aV (iT (cT (yR dC U) yQ (XN.r (kZ gJ aP (hr.mono (by decide)) (aJ (pv 0)))) (oX aQ) (cR _)) (aO (bM (i:=4) (cZ BJ (hr.mono (by decide)) U (aG (aJ (pv 1)) (aG (XN.r (bT (aJ (pv 3)) (XN.r (cL (XN.r (iI iB (iC U) U gU F0 (aG (aJ (pv 1)) aQ))) (XN.r (aN)))))) (aG (XN.r (oJ (aJ (pv 3)) (XN.r (aN)))) aQ)))) (λh=>bI Cd.nd U (by first | exact D6 U | exact D5 U) h))
  (aO (Ad (Qa yG aP fV (hr.mono (by decide)) (iG (pv 0)) (jW (aJ (pv 4)) (jW (XN.r (rP (XN.r (aN)))) (jW (XN.r (bT (aJ (pv 3)) (XN.r (vA (XN.r (aN)) (XN.r (aN)))))) (jW (XN.r (aN)) nW))))))
  (aV (Mw (iG (pv 1)) (XR.n (aJ (pv 4))) (λa b=>lH (uG F1 K1 K2 mJ a (fD b jY))))))) fM)))))))
  (aV (Gk (ir (iI Jd (Je U) U oH P1 (aG (aJ (pv 1)) aQ))))))⟩
theorem Tz:bB ["self"] ["self"] (aM xX):=by walk_at "fs"
theorem Ro{κ:Nat→A7}(R:gB K (κ 1) "order" "Weaver.order" xX NH) (aP:iZ K (κ 1) dF) (gH:mg "list" = none):cU P w K mg base (κ 1) "order" 1 1 NH (iD K 1 (cC κ)):=by refine R.Gn Tz (λ_ _ _ _ _ _ us hl=>match us,hl with | [_],_=>rfl) (λ_ _ _ _ _ _ _ hr=>?_);have dC:=hr.units;have hu:=cY hr;exact⟨_,aV (bV (Ab uI (uJ U) U gH F7 (aG (dH aP (aJ (pv 0)) (by decide +kernel) U) aQ)))⟩
theorem YD:bB ["thing"] ["thing"] (aM Jx):=by walk_at "fs"
theorem QB(R:Raw K mg "_law_whole" Jx) (mD:mg "isinstance" = none) (aBH:mg "bool" = none) (aGA:mg "int" = none):qL P w K mg base "_law_whole" 1 1 (iD K 1 oU):=by refine R.wX YD (λ_ _ _ _ _ _ us hl=>match us,hl with | [_],_=>rfl) (λ_ _ _ _ _ _ _ hr=>?_);have dC:=hr.units;have hu:=cY hr;exact⟨_,aV (bV (aAy (XN.r (VG (aJ (pv 0)) (Xb (v:=.ty "int") U aGA PyProof.Rows.boot_int U) U mD)) (Mt (aFR (XN.r (VG (aJ (pv 0)) (Xb (v:=.ty "bool") U aBH PyProof.Rows.boot_bool U) U mD))))))⟩
theorem BK:bB ["thing"] ["thing"] (aM uW):=by walk_at "fs"
theorem Ua(R:Raw K mg "_law_numbers" uW) (sU:qL P w K mg base "_law_whole" 1 1 (iD K 1 oU)) (vq:mg "all" = none) (mD:mg "isinstance" = none) (gH:mg "list" = none):qL P w K mg base "_law_numbers" 2 1 (iD K 1 lZ):=by refine R.wX BK (λ_ _ _ _ _ _ us hl=>match us,hl with | [_],_=>rfl) (λ_ _ _ _ _ _ _ hr=>?_);have dC:=hr.units;have hu:=cY hr;exact⟨_,aV (bV (aAy (XN.r (VG (aJ (pv 0)) (Xb (v:=.ty "list") U gH F7 U) U mD)) (Mt (iI aAF (aAG U) U vq a7 (aG (XN.r (kJ ["one"] [] U (.at (aM uW) ["thing"] (by decide +kernel)) (lR (aJ (pv 0))) (jH (by decide +kernel) U U) (λ_ _ _ _ _=>nU) (λ_ _ _ _ _=>cZ sU (hr.mono (by decide)) U (aG (aJ (pv 0)) aQ)))) aQ)))))⟩
theorem Wh:bB ["weaver", "many", "order"] ["weaver", "many"] (aM Hl):=by walk_at "fs"
theorem YF{κ:Nat→A7}(R:Raw K mg "_law_free" Hl) (aP:iZ K (κ 1) dF) (dW:cU P w K mg base (κ 1) "order" 1 1 NH (iD K 1 (cC κ))) (jU:mg "range" = none):qL P w K mg base "_law_free" 2 2 (iD K 2 (wF κ)):=by
 refine R.wX Wh (λ_ _ _ _ _ _ us hl=>match us,hl with | [_,_],_=>rfl) (λ_ _ _ _ _ _ _ hr=>?_);have dC:=hr.units;have hu:=cY hr;exact⟨_,aO (bM (i:=2) (kZ dW aP (hr.mono (by decide)) (aJ (pv 0))) (λh=>bI Wh.nd U (by first | exact D6 U | exact D5 U) h))
  (aV (bV (kJ ["box", "order"] [2] U (.at (aM Hl) ["weaver", "many", "order"] (by decide +kernel)) (aEv (λh=>Uh U jU h) (aG (XN.r (aN)) (aG (aJ (pv 1)) aQ))) (jH (by decide +kernel) U U) (λ_ _ _ _ _=>Gg (cT (Ov U) (bc NG) (aJ (pv 0)) (aJ (pv 1)) (by with_unfolding_all rfl))) (λ_ _ _ _ _=>XR.n (aJ (pv 0))))))⟩
theorem mF:bB ["weaver", "keys", "many", "cell", "order", "free", "told", "gone", "at", "found"] ["weaver", "keys", "many", "cell"] (aM xY):=by walk_at "fs"
theorem BL{κ:Nat→A7}(R:Raw K mg "_law_looked" xY) (aP:iZ K (κ 1) dF) (dW:cU P w K mg base (κ 1) "order" 1 1 NH (iD K 1 (cC κ))) (gJ:cU P w K mg base (κ 1) "free" 1 1 NH (iD K 1 (eG κ))) (uX:qL P w K mg base "_law_numbers" 2 1 (iD K 1 lZ)) (Rp:qL P w K mg base "_law_free" 2 2 (iD K 2 (wF κ))) (aZ:cU P w K mg base (κ 1) "record_of" 4 2 NH (iD K 2 (aW κ))) (gD:cU P w K mg base (κ 1) "box_of" 5 2 NH (iD K 2 (cB κ))) (sU:qL P w K mg base "_law_whole" 1 1 (iD K 1 oU)) (gU:mg "len" = none) (vy:mg "set" = none) (oH:mg "sorted" = none) (gH:mg "list" = none) (jU:mg "range" = none):qL P w K mg base "_law_looked" 6 4 (iD K 4 (oO κ)):=by
 refine R.wX mF (λ_ _ _ _ _ _ us hl=>match us,hl with | [_,_,_,_],_=>rfl) (λ_ _ _ _ _ _ _ hr=>?_);have dC:=hr.units;have hu:=cY hr;exact⟨_,aO (bM (i:=4) (kZ dW aP (hr.mono (by decide)) (aJ (pv 0))) (λh=>bI mF.nd U (by first | exact D6 U | exact D5 U) h))
  (aO (bM (i:=5) (kZ gJ aP (hr.mono (by decide)) (aJ (pv 0))) (λh=>bI mF.nd U (by first | exact D6 U | exact D5 U) h))
  (aO (ux AZ U (qP (bF (kZ dW aP (hr.mono (by decide)) (aJ (pv 0))) (bF (kZ gJ aP (hr.mono (by decide)) (aJ (pv 0))) gZ))) (lJ (i:=6) mF.nd U (by first | exact D6 U | exact D5 U)) (pv 6) yh (λa b=>lH (uG F1 K1 K2 mJ a (fD b jY))))
  (aO (iT (XW.xt (HN (cT (yR dC U) yQ (XN.r (kZ dW aP (hr.mono (by decide)) (aJ (pv 0)))) (aJ (pv 4)) (cR _)) (Ye (cT (yR dC U) yQ (XN.r (kZ gJ aP (hr.mono (by decide)) (aJ (pv 0)))) (aJ (pv 5)) (cR _))))) (aV (bV (zY))) fM)
  (aO (iT (XW.xt (HN (Aa (Ja (XN.r (cZ uX (hr.mono (by decide)) U (aG (aJ (pv 4)) aQ))))) (HN (Aa (Ja (XN.r (cZ uX (hr.mono (by decide)) U (aG (aJ (pv 5)) aQ))))) (Ye (cT (yR dC U) yQ (XN.r (aDC (aJ (pv 4)) U gU F0 U vy a8)) (XN.r (iI iB (iC U) U gU F0 (aG (aJ (pv 4)) aQ))) (cR _)))))) (aV (bV (zY))) fM)
  (aO (iT (XW.xt (HN (cT (yR dC U) yQ (aJ (pv 5)) (XN.r (cZ Rp (hr.mono (by decide)) U (aG (aJ (pv 0)) (aG (aJ (pv 2)) aQ)))) (cR _)) (Ye (cT (yR dC U) yQ (XN.r (iI Jd (Je U) U oH P1 (aG (XN.r (cL (aJ (pv 4)) (aJ (pv 5)))) aQ))) (XN.r (Vm (aG (XN.r (aN)) (aG (aJ (pv 2)) aQ)) U gH F7 U jU X6)) (cR _))))) (aV (bV (zY))) fM)
  (aO (iT (cT (yR dC U) yQ (XN.r (kJ ["box", "weaver"] [0] U (.at (aM xY) ["weaver", "keys", "many", "cell", "order", "free", "told", "gone", "at", "found"] (by decide +kernel)) (lR (aJ (pv 4))) (jH (by decide +kernel) U U) (λ_ _ _ _ _=>nU) (λ_ _ _ _ _=>XR.n (bN (XN.r (cM aZ aP (hr.mono (by decide)) (aJ (pv 1)) (aG (aJ (pv 0)) aQ))) (XN.r (aN)) (λ_ _=>rfl))))) (aJ (pv 1)) (cR _)) (aV (bV (zY))) fM)
  (aO (iT (cT (yR dC U) yQ (aJ (pv 5)) (oX aQ) (cR _)) (aO (bM (i:=7) (XR.n (bN (XN.r (cM aZ aP (hr.mono (by decide)) (aJ (pv 0)) (aG (bN (aJ (pv 5)) (XN.r (bT (aJ (pv 3)) (XN.r (iI iB (iC U) U gU F0 (aG (aJ (pv 5)) aQ))))) (λ_ _=>rfl)) aQ))) (XN.r (aN)) (λ_ _=>rfl))) (λh=>bI mF.nd U (by first | exact D6 U | exact D5 U) h))
  (aV (iT (XW.xt (Ox (cT (Ov U) (bc NG) (aJ (pv 7)) (aJ (pv 1)) (by with_unfolding_all rfl)) (Gf (cT Xi Jm (XN.r (cM gD aP (hr.mono (by decide)) (aJ (pv 0)) (aG (aJ (pv 7)) aQ))) (XN.r (zZ)) (cR _))))) (aV (bV (zY))) fM))) fM)
  (aO (iT (cT (or_eq dC U) yP (aJ (pv 1)) (oX aQ) (cR _)) (aV (bV (Yd Xh Yt (XN.r (cM gD aP (hr.mono (by decide)) (aJ (pv 0)) (aG (XN.r (bT (aJ (pv 3)) (XN.r (vA (XN.r (aN)) (XN.r (aN)))))) aQ))) (XN.r (zZ)) (cR _)))) fM)
  (aO (bM (i:=8) (bT (aJ (pv 3)) (XN.r (iI iB (iC U) U gU F0 (aG (aJ (pv 1)) aQ)))) (λh=>bI mF.nd U (by first | exact D6 U | exact D5 U) h))
  (aO (bM (i:=9) (cM gD aP (hr.mono (by decide)) (aJ (pv 0)) (aG (bN (aJ (pv 1)) (aJ (pv 8)) (λ_ _=>rfl)) aQ)) (λh=>bI mF.nd U (by first | exact D6 U | exact D5 U) h))
  (aO (iT (XW.xt (HN (Aa (Ja (XN.r (cZ sU (hr.mono (by decide)) U (aG (aJ (pv 9)) aQ))))) (Ye (cT (yR dC U) yQ (aJ (pv 9)) (bN (aJ (pv 4)) (aJ (pv 8)) (λ_ _=>rfl)) (cR _))))) (aV (bV (zY))) fM)
  (aV (bV (aEo (XN.r (Yd (aHE U) (bc NH) (XN.r (cL (bN (aJ (pv 1)) (aJ (pv 8)) (λ_ _=>rfl)) (XN.r (aN)))) (aJ (pv 1)) (by with_unfolding_all rfl))) (Mt (Yd Xh Yt (XN.r (cM gD aP (hr.mono (by decide)) (aJ (pv 0)) (aG (XN.r (cL (bN (aJ (pv 1)) (aJ (pv 8)) (λ_ _=>rfl)) (XN.r (aN)))) aQ))) (XN.r (zZ)) (cR _)))))))))))))))))⟩
theorem wI:bB ["script", "stone", "many", "weavers", "keys", "rows", "held", "kept", "cell", "which", "told"] ["script"] (aM vh):=by walk_at "fs"
theorem aGB{κ:Nat→A7}{f:A7}{fd:BG}(F:Fun K "law" "law" vh f fd) (aP:iZ K (κ 1) dF) (Kh:qL P w K mg base "_law_built" 3 1 (iD K 1 wA)) (uY:ue P w K mg base "Weaver" (κ 1) 5 2 (spS K 2 (qG κ))) (dW:cU P w K mg base (κ 1) "order" 1 1 NH (iD K 1 (cC κ))) (aZ:cU P w K mg base (κ 1) "record_of" 4 2 NH (iD K 2 (aW κ))) (Ff:qL P w K mg base "_law_spread" 1 1 (iD K 1 lW)) (Rq:qL P w K mg base "_law_done" 8 3 (spG K [NG,NG,NH] (wD κ))) (yH:qL P w K mg base "_law_looked" 6 4 (iD K 4 (oO κ))) (gJ:cU P w K mg base (κ 1) "free" 1 1 NH (iD K 1 (eG κ))) (gU:mg "len" = none) (gH:mg "list" = none) (aF7:∀ns:List Int,ns.length≤63→(∀k∈ns,Small k)→aGt κ [.lst (ns.map D.int)]=ND (.bl NG)):zF P w K mg base CZ 9 f fd ["script"] (spB K):=by
 refine F.okB wI (λcdv A outer s H E hr=>?_) aF7;have dC:=hr.units;have hu:=cY hr;exact⟨_,aO (bM (i:=1) (cZ Kh (hr.mono (by decide)) U (aG (aJ (pv 0)) aQ)) (λh=>bI wI.nd U (by first | exact D6 U | exact D5 U) h))
  (aO (bM (i:=2) (lQ (XN.r (iI iB (iC U) U gU F0 (aG (aJ (pv 1)) aQ))) (XN.r (qO (XN.r (iI iB (iC U) U gU F0 (aG (bN (aJ (pv 1)) (XN.r (aN)) (λ_ _=>rfl)) aQ))) (XN.r (aN))))) (λh=>bI wI.nd U (by first | exact D6 U | exact D5 U) h))
  (aO (bM (i:=3) (qP (bF (Yq uY fV (hr.mono (by decide)) U (aG (aJ (pv 1)) aQ)) (bF (Yq uY fV (hr.mono (by decide)) U (aG (aJ (pv 1)) aQ)) gZ))) (λh=>bI wI.nd U (by first | exact D6 U | exact D5 U) h))
  (aO (di (i:=4) ["box", "weavers"] [3] U (.at (aM vh) ["script", "stone", "many", "weavers", "keys", "rows", "held", "kept", "cell", "which", "told"] (by decide +kernel)) wI.nd U (by first | exact D6 U | exact D5 U) (lR (XN.r (kZ dW aP (hr.mono (by decide)) (bN (aJ (pv 3)) (XN.r (aN)) (λ_ _=>rfl))))) (jH (by decide +kernel) U U) (λ_ _ _ _ _=>nU) (λ_ _ _ _ _=>XR.n (bN (XN.r (cM aZ aP (hr.mono (by decide)) (bN (aJ (pv 1)) (XN.r (aN)) (λ_ _=>rfl)) (aG (aJ (pv 0)) aQ))) (XN.r (aN)) (λ_ _=>rfl))))
  (aO (bM (i:=5) (qP (bF (Ab uI (uJ U) U gH F7 (aG (aJ (pv 4)) aQ)) (bF (Ab uI (uJ U) U gH F7 (aG (aJ (pv 4)) aQ)) gZ))) (λh=>bI wI.nd U (by first | exact D6 U | exact D5 U) h))
  (aO (Yk (Lf (iG (pv 1)) (XN.r (aN)) (λ_ _=>rfl)) (XN.r (aN)) (qQ (bF aN (bF aN (bF (rP (XN.r (aN))) (bF (rP (XN.r (aN))) (bF aN gZ)))))) (λa b c=>Dt c (Io a b set_list)))
  (aO (bM (i:=6) (qP gZ) (λh=>bI wI.nd U (by first | exact D6 U | exact D5 U) h))
  (aO (bM (i:=7) (qP gZ) (λh=>bI wI.nd U (by first | exact D6 U | exact D5 U) h))
  (aO (Yj [] AZ U (lR (XN.r (kJ ["one"] [] U (.at (aM vh) ["script", "stone", "many", "weavers", "keys", "rows", "held", "kept", "cell", "which", "told"] (by decide +kernel)) (lR (aAH (aJ (pv 0)) (Yg (XN.r (aN))) (Yg (XN.r (aN))))) (jH (by decide +kernel) U U) (λ_ _ _ _ _=>nU) (λ_ _ _ _ _=>cZ Ff (hr.mono (by decide)) U (aG (aJ (pv 0)) aQ))))) (lJ (i:=8) wI.nd U (by first | exact D6 U | exact D5 U)) (aO (bM (i:=9) (bT (aJ (pv 8)) (XN.r (aN))) (λh=>bI wI.nd U (by first | exact D6 U | exact D5 U) h))
  (aO (aBn (iG (pv 5)) (aJ (pv 9)) (aDB Rq U (hr.mono (by decide)) U (aBl (Lf (iG (pv 3)) (aJ (pv 9)) (λ_ _=>rfl)) (aBl (Lf (iG (pv 5)) (aJ (pv 9)) (λ_ _=>rfl)) (aH6 (XN.r (oJ (aJ (pv 8)) (XN.r (aN)))) (aDA))))) (λa b c=>Dt c (Io a b set_list)))
  (aO (iT (Aa (Ja (XN.r (cZ yH (hr.mono (by decide)) U (aG (bN (aJ (pv 3)) (aJ (pv 9)) (λ_ _=>rfl)) (aG (bN (aJ (pv 5)) (aJ (pv 9)) (λ_ _=>rfl)) (aG (aJ (pv 2)) (aG (XN.r (oJ (aJ (pv 8)) (XN.r (aN)))) aQ)))))))) (aV (bV (zY))) fM)
  (aO (iT (Aa (Ja (XN.r (cZ yH (hr.mono (by decide)) U (aG (bN (aJ (pv 3)) (XN.r (qO (XN.r (aN)) (aJ (pv 9)))) (λ_ _=>rfl)) (aG (bN (aJ (pv 5)) (XN.r (qO (XN.r (aN)) (aJ (pv 9)))) (λ_ _=>rfl)) (aG (aJ (pv 2)) (aG (XN.r (oJ (aJ (pv 8)) (XN.r (aN)))) aQ)))))))) (aV (bV (zY))) fM)
  (aV (iT (cT Np sV (XN.r (iI iB (iC U) U gU F0 (aG (aJ (pv 6)) aQ))) (XN.r (aN)) (cR _)) (aO (bM (i:=10) (qP (bF (kZ dW aP (hr.mono (by decide)) (bN (aJ (pv 3)) (aJ (pv 9)) (λ_ _=>rfl))) (bF (kZ gJ aP (hr.mono (by decide)) (bN (aJ (pv 3)) (aJ (pv 9)) (λ_ _=>rfl))) gZ))) (λh=>bI wI.nd U (by first | exact D6 U | exact D5 U) h))
  (aO (KD (js:=[6,10]) (i:=6) (aBd (aDx (aJ (pv 6))) (aDx (aJ (pv 10)))) (λh=>bI wI.nd U (by first | exact D6 U | exact D5 U) h))
  (aV (KD (js:=[7]) (i:=7) (aBd (aDx (aJ (pv 7))) (aDx (XN.r (kJ ["one"] [] U (.at (aM vh) ["script", "stone", "many", "weavers", "keys", "rows", "held", "kept", "cell", "which", "told"] (by decide +kernel)) (lR (aJ (pv 10))) (jH (by decide +kernel) U U) (λ_ _ _ _ _=>nU) (λ_ _ _ _ _=>Ab uI (uJ U) U gH F7 (aG (aJ (pv 0)) aQ)))))) (λh=>bI wI.nd U (by first | exact D6 U | exact D5 U) h))))) fM)))))))
  (aV (bV (Yd (or_eq dC U) yP (aJ (pv 6)) (aJ (pv 7)) (cR _))))))))))))⟩
end
end Rs

namespace Rs
open PySem L2
local macro_rules | `(tactic| walk_at "lt")=>`(tactic| exact Nat.le_of_ble_eq_true rfl)
local macro_rules | `(tactic| walk_at "sc")=>`(tactic| first | omega | with_reducible assumption | exact P7 (by decide) | exact Ek (by omega) (by omega) | exact aH8 (by omega) (by omega))
local macro_rules | `(tactic| walk_at "op")=>`(tactic| first | with_reducible assumption | with_reducible exact bY _ _ | with_reducible exact jT _ _ | with_reducible exact pA _ _ | with_reducible exact xJ _ _ | with_reducible exact xH _ _ | with_reducible exact Yx _ _ | with_reducible exact dGe_int _ _ | with_reducible exact Yy _ _ | with_reducible exact lB _ | with_reducible exact Gq _ | with_reducible exact dLen_tup _ | ((with_reducible apply gG);walk_at "sc") | ((with_reducible apply bG);walk_at "sc") | ((with_reducible apply eE);(walk_at "sc");walk_at "sc") | ((with_reducible apply nP);exact⟨by decide,by decide,by omega⟩) | ((with_reducible apply gW);(walk_at "sc");walk_at "sc"))
local macro_rules | `(tactic| walk_at "ea")=>`(tactic| first | with_reducible exact aBt | ((with_reducible apply aB);(walk_at "ev");walk_at "ea"))
local macro_rules | `(tactic| walk_at "ev")=>`(tactic| first | ((with_reducible apply cI);exact rfl) | with_reducible exact aIc | with_reducible assumption | ((with_reducible apply aL);(walk_at "ev");(walk_at "ev");walk_at "op") | ((with_reducible apply dU);(walk_at "ea");walk_at "op") | ((with_reducible apply bR);(walk_at "ea");exact rfl;with_reducible assumption) | ((with_reducible apply bH);(walk_at "ev");exact rfl) | ((with_reducible apply pZ);walk_at "ev") | ((with_reducible apply oE);(walk_at "ea");walk_at "lt") | ((with_reducible apply fQ);(walk_at "ea");walk_at "lt"))
local macro_rules | `(tactic| walk_at "et")=>`(tactic| first | ((with_reducible apply rT);walk_at "et") | ((with_reducible apply fOr_ok);(walk_at "et");walk_at "et") | ((with_reducible apply Nb);(walk_at "et");walk_at "et") | ((with_reducible apply bZ);walk_at "ev"))
local macro_rules | `(tactic| walk_at "set")=>`(tactic| (apply aBq;(walk_at "ev");(walk_at "lt")))
local macro_rules | `(tactic| walk_at "q")=>`(tactic| (apply cN;(walk_at "ev");(walk_at "lt")))
local macro_rules | `(tactic| walk_at "op")=>`(tactic| first | with_reducible assumption | with_reducible exact bY _ _ | with_reducible exact jT _ _ | with_reducible exact pA _ _ | with_reducible exact xJ _ _ | with_reducible exact xH _ _ | with_reducible exact Yx _ _ | with_reducible exact dGe_int _ _ | with_reducible exact Yy _ _ | with_reducible exact lB _ | with_reducible exact Ze _ | with_reducible exact Zc _ _ _ | with_reducible exact dMin2_int _ _ | with_reducible exact Vx _ _ | with_reducible exact dIntB_bl _ | with_reducible exact je _ | with_reducible exact MK _ | with_reducible exact Qo _ | with_reducible exact MN _ | ((with_reducible apply Zd);omega) | with_reducible exact Gq _ | with_reducible exact dLen_tup _ | ((with_reducible apply gG);walk_at "sc") | ((with_reducible apply dMulB_int);(walk_at "sc");walk_at "sc") | ((with_reducible apply bG);walk_at "sc") | ((with_reducible apply eE);(walk_at "sc");walk_at "sc") | ((with_reducible apply nP);exact⟨by decide,by decide,by omega⟩) | ((with_reducible apply gW);(walk_at "sc");walk_at "sc"))
theorem QC(n:Int):oU [.int n]=ND (.bl NG):=nO U (gC (jc (Yz U U) (aBr (b:=NH) (Yz U U))))
def mW(cs:List vX)(l:List Int)(eX:Int):List Int:=((D2 cs.length).filter λk=>decide ((at_ cs k).eX=eX)&&!decide ((k:Int)∈l)).map λk=>((k:Nat):Int)
theorem Az{cs:List vX}{l:List Int}{eX:Int}{x:Int}:x∈mW cs l eX↔0≤x∧x<cs.length∧(at_ cs x.toNat).eX=eX∧x∉l:=by
 unfold mW;rw[G4];constructor
 ·rintro⟨k,hk,rfl⟩
  obtain⟨h1,h2⟩:=N7.mp hk;rw[F5]at h1;rw[J7,decide_eq_true_iff]at h2;rw[D7];exact⟨by omega,by omega,h2.1,by simpa using h2.2⟩
 ·rintro⟨h0,h1,h2,h3⟩
  refine⟨x.toNat,N7.mpr ⟨F5.mpr (by omega),?_⟩,by omega⟩;rw[J7,decide_eq_true_iff,show ((x.toNat:Nat):Int)=x by omega];exact⟨h2,by simpa using h3⟩
theorem BP(cs:List vX)(l:List Int)(eX:Int):(mW cs l eX).Pairwise (·<·):=by unfold mW;rw[O3];exact(R9.sublist R0).imp λh=>by omega
theorem QD(cs:List vX)(l:List Int)(eX:Int):(mW cs l eX).length≤cs.length:=by unfold mW;rw[B7];exact G2 (List.length_filter_le _ _) (by rw[D8];exact C6 _)
def Nums(cs:List vX)(ks:List Int):Prop:=ks.Nodup∧∀x∈ks,0≤x∧x<(cs.length:Int)
theorem Nums.len{cs:List vX}{ks:List Int}(h:Nums cs ks):ks.length≤cs.length:=pO _ _ h.1 h.2
structure Bn where
 bO:List (List (List Int))
 asked:List vX
 held:List Int
 nk:List (Int×Int)
 nv:List Int
def uE(p:Int×Int):List Key:=[.inl p.1,.inl p.2]
theorem Hy{a b:Int×Int}(h:uE a=uE b):a=b:=by unfold uE at h;injection h with h1 h2;injection h2 with h2 _;injection h1 with h1;injection h2 with h2;exact j7 h1 h2
def fU(p:List (List Int)):D:=.lst (p.map dTup)
def mZ(ps:List (List (List Int))):D:=.lst (ps.map fU)
def uF(n:Nat)(cs:List vX)(l:List Int):List D:=(D2 n).map λp=>aH (mW cs l ((p:Nat):Int))
def BR:List Str:=["panes", "asked", "newest", "held", "unsettled"]
def dY(C:A7)(a b c d e:D):D:=.ins C BR [a,b,c,d,e]
def jV(C:A7)(b:Bn)(e:List D):D:=dY C (mZ b.bO) (xO b.asked) (.dt (b.nk.map uE) (b.nv.map D.int)) (Sh b.held) (.lst e)
def dZ(C:A7)(b:Bn):D:=jV C b (uF b.bO.length b.asked b.held)
theorem Kl:posK BR "panes" = ND 0:=by decide +kernel
theorem Km:posK BR "asked" = ND 1:=by decide +kernel
theorem Fg:posK BR "newest" = ND 2:=by decide +kernel
theorem Rr:posK BR "held" = ND 3:=by decide +kernel
theorem BV:posK BR "unsettled" = ND 4:=by decide +kernel
section
variable{C:A7}{a b c d e x:D}
theorem Ce:eQ C "panes" (dY C a b c d e)=ND a:=by unfold eQ dY;dsimp only;rw[if_pos U,Kl];rfl
theorem wJ:eQ C "asked" (dY C a b c d e)=ND b:=by unfold eQ dY;dsimp only;rw[if_pos U,Km];rfl
theorem Fi:eQ C "newest" (dY C a b c d e)=ND c:=by unfold eQ dY;dsimp only;rw[if_pos U,Fg];rfl
theorem QF:eQ C "held" (dY C a b c d e)=ND d:=by unfold eQ dY;dsimp only;rw[if_pos U,Rr];rfl
theorem jk:eQ C "unsettled" (dY C a b c d e)=ND e:=by unfold eQ dY;dsimp only;rw[if_pos U,BV];rfl
theorem tZ{s:L2.Step}{d x:D}{j:Nat}(h1:Cy s d=ND j)(h2:(kids d)[j]?=ND x):eO [s] d=ND x:=by unfold eO;rw[h1,C4,h2];rfl
theorem qJ{s:L2.Step}{d x y:D}{j:Nat}(h1:Cy s d=ND j)(h2:(kids d)[j]?=ND y):dR [s] d x=Gh d ((kids d).set j x):=by show (match Cy s d with | some j=>_ | none=>_)=_;rw[h1];show (match (kids d)[j]? with | some c=>_ | none=>_)=_;rw[h2];rfl
theorem Wi{s:L2.Step}{p:List L2.Step}{d y:D}(h:eO [s] d=ND y):eO (s::p) d=eO p y:=by show ((Cy s d).bind λj=>((kids d)[j]?).bind (eO p))=eO p y;unfold eO at h;obtain⟨j,h1,h2⟩:=aY h;obtain⟨z,h3,h4⟩:=aY h2;unfold eO at h4;cases h4;rw[h1,C4,h3,C4]
theorem Wj{s:L2.Step}{p:List L2.Step}{d y x:D}(h:eO [s] d=ND y):dR (s::p) d x=dR [s] d (dR p y x):=by unfold eO at h;obtain⟨j,h1,h2⟩:=aY h;obtain⟨z,h3,h4⟩:=aY h2;unfold eO at h4;cases h4;rw[qJ h1 h3];show (match Cy s d with | some j=>_ | none=>_)=_;rw[h1];show (match (kids d)[j]? with | some c=>_ | none=>_)=_;rw[h3]
theorem vI{f:Str}{j:Nat}(h:posK BR f=ND j):Cy (.fld C f) (dY C a b c d e)=ND j:=by show (if C=C then posK BR f else none)=ND j;rw[if_pos rfl];exact h
theorem Wk:eO [.fld C "panes"] (dY C a b c d e)=ND a:=tZ (vI Kl) U
theorem wg:eO [.fld C "asked"] (dY C a b c d e)=ND b:=tZ (vI Km) U
theorem YG:eO [.fld C "newest"] (dY C a b c d e)=ND c:=tZ (vI Fg) U
theorem aBI:eO [.fld C "held"] (dY C a b c d e)=ND d:=tZ (vI Rr) U
theorem BW:eO [.fld C "unsettled"] (dY C a b c d e)=ND e:=tZ (vI BV) U
theorem wj:dR [.fld C "panes"] (dY C a b c d e) x=dY C x b c d e:=qJ (vI Kl) (y:=a) U
theorem wk:dR [.fld C "asked"] (dY C a b c d e) x=dY C a x c d e:=qJ (vI Km) (y:=b) U
theorem YH:dR [.fld C "newest"] (dY C a b c d e) x=dY C a b x d e:=qJ (vI Fg) (y:=c) U
theorem aBJ:dR [.fld C "held"] (dY C a b c d e) x=dY C a b c x e:=qJ (vI Rr) (y:=d) U
theorem jl:dR [.fld C "unsettled"] (dY C a b c d e) x=dY C a b c d x:=qJ (vI BV) (y:=e) U
theorem Ko{xs:List D}{k:Nat}(h:xs[k]?=ND x):eO [.ix k] (.lst xs)=ND x:=tZ (s:=.ix k) (d:=.lst xs) (j:=k) U h
theorem Rt{xs:List D}{k:Nat}{y:D}(h:xs[k]?=ND y):dR [.ix k] (.lst xs) x=.lst (xs.set k x):=qJ (s:=.ix k) (d:=.lst xs) (j:=k) U h
end
theorem BX{π:FP}{g:FE}{e:DE}{p:List L2.Step}{k:Int}(h1:π e=ND p)(h2:g e=ND (.int k))(h3:0≤k):Tj π g e=ND (p++[.ix k.toNat]):=by unfold Tj;rw[h1,C4,h2,C4];dsimp only;rw[if_pos h3]
theorem uA{env:EN}{i:Nat}{d0 d:D}{ds:List D}{π:FP}{p:List L2.Step}{f:FE}{C:A7}{nm:List Str}{x:Str}(h1:env[i]?=ND (.own d0))(h2:π (rE env)=ND p)(h3:eO p d0=ND (.ins C nm ds))(h4:f (rE env)=ND d)(hl:nm.length<900)(hx:posK nm x=none):vV C i π x f env=.next (env.set i (.own (dR p d0 (.ins C (nm++[x]) (ds++[d]))))):=by rw[aGr h1 h2 h3 h4 hl];unfold Vg;rw[hx]
def lastAt(cs:List vX)(p q:Int):Option Int:=((D2 cs.length).filter λk=>decide ((at_ cs k).eX=p∧(at_ cs k).place=q)).getLast?.map λk=>((k:Nat):Int)
theorem Ba(cs:List vX)(c:vX)(p q:Int):lastAt (cs++[c]) p q=if c.eX=p∧c.place=q then ND (cs.length:Int)else lastAt cs p q:=by
 unfold lastAt;have e:(D2 cs.length).filter (λk=>decide ((at_ (cs++[c]) k).eX=p∧(at_ (cs++[c]) k).place=q))=(D2 cs.length).filter λk=>decide ((at_ cs k).eX=p∧(at_ cs k).place=q):=i9 λk hk=>by rw[tQ (F5.mp hk)]
 rw[C7,show cs.length+[c].length=cs.length+1 from rfl,l6,V3,e];by_cases h:c.eX=p∧c.place=q
 ·rw[if_pos h,X7 (by rw[xP];exact decide_eq_true h),Y4,List.getLast?_concat];rfl
 ·rw[if_neg h,X8 (by rw[xP];simpa using h),Y4,F9]
theorem Cg{cs:List vX}{p q k:Int}(h:lastAt cs p q=ND k):0≤k∧k<(cs.length:Int)∧(at_ cs k.toNat).eX=p∧(at_ cs k.toNat).place=q:=by unfold lastAt at h;obtain⟨j,h1,rfl⟩:=lN h;have hm:=List.mem_of_getLast? h1;obtain⟨m1,m2⟩:=N7.mp hm;have:=F5.mp m1;have m2:=of_decide_eq_true m2;rw[D7];exact⟨by omega,by omega,m2⟩
theorem wK{α β:Type} [DecidableEq α] [DecidableEq β] {φ:α→β} (hi:∀a b,φ a=φ b→a=b) (k:α):∀ks:List α,posK (ks.map φ) (φ k)=posK ks k
 | []=>rfl
 | a::ks=>by
  rw[D3];unfold posK;rw[wK hi k ks];by_cases c:a=k
  ·rw[if_pos c,if_pos (by rw[c])]
  ·rw[if_neg c,if_neg λz=>c (hi _ _ z)]
theorem QG{α β:Type} [DecidableEq α] [DecidableEq β] {φ:α→β} (hi:∀a b,φ a=φ b→a=b) (k:α) (ks:List α):lF (ks.map φ) (φ k)=(lF ks k).map φ:=by
 unfold lF;rw[wK hi];split
 ·rfl
 ·rw[G0];rfl
theorem QH{α β γ δ:Type} [DecidableEq α] [DecidableEq β] {φ:α→β} (hi:∀a b,φ a=φ b→a=b) (ψ:γ→δ) (k:α) (ks:List α) (ds:List γ) (d:γ):putD (ks.map φ) (ds.map ψ) (φ k) (ψ d)=(putD ks ds k d).map ψ:=by
 unfold putD;rw[wK hi];split
 ·rw[List.zipWith_map,List.map_zipWith];congr 1
  funext a b
  by_cases c:a=k
  ·rw[if_pos c,if_pos (by rw[c])]
  ·rw[if_neg c,if_neg λz=>c (hi _ _ z)]
 ·rw[G0];rfl
theorem aGC{α β:Type} [DecidableEq α] {ks:List α} {ds:List β} {k k':α} {d:β} {j:Nat} (h:posK ks k'=ND j) (hl:ks.length=ds.length):(Q1 (λa b=>if a=k then d else b) ks ds)[j]?=if k'=k then ND d else ds[j]?:=by
 obtain⟨h1,h2⟩:=rN h;rw[List.getElem?_zipWith,h2,B6 (by omega)];show ND (if k'=k then d else ds[j])=_
 split<;>rfl
theorem yI{α β:Type} [DecidableEq α] {k k':α} {d:β}:∀{ks:List α} {ds:List β},ks.length=ds.length→((posK (lF ks k) k').bind λj=>(putD ks ds k d)[j]?)=if k'=k then ND d else(posK ks k').bind λj=>ds[j]?
 | [],ds,h=>by
  cases ds with
  | cons=>simp at h
  | nil=>
   show ((posK [k] k').bind λj=>[d][j]?)=_;unfold posK;by_cases c:k=k'
   ·rw[if_pos c,if_pos c.symm];rfl
   ·rw[if_neg c,if_neg λz=>c z.symm];rfl
 | a::ks,[],h=>by simp at h
 | a::ks,x::ds,h=>by
  have h':ks.length=ds.length:=by simpa using h
  by_cases c:a=k
  ·have e0:posK (a::ks) k=ND 0:=by unfold posK;rw[if_pos c]
   unfold lF putD;rw[e0];simp only[d8,if_true];cases q:posK (a::ks) k' with
   | none=>
    have:k'≠k:=λz=>by rw[z,e0]at q;cases q
    rw[if_neg this];rfl
   | some j=>rw[C4,aGC q h];rfl
  ·have e1:lF (a::ks) k=a::lF ks k:=by
    have e0:posK (a::ks) k=(posK ks k).map (·+1):=by show (if a=k then ND 0 else(posK ks k).map (·+1))=_;rw[if_neg c]
    unfold lF;rw[e0];cases posK ks k<;>rfl
   have e2:putD (a::ks) (x::ds) k d=x::putD ks ds k d:=by
    have e0:posK (a::ks) k=(posK ks k).map (·+1):=by show (if a=k then ND 0 else(posK ks k).map (·+1))=_;rw[if_neg c]
    unfold putD;rw[e0];cases posK ks k with
    | none=>rfl
    | some j=>show (if a=k then d else x)::_=_;rw[if_neg c];rfl
   rw[e1,e2];have ih:=yI (k:=k) (k':=k') (d:=d) h';show ((if a=k' then ND 0 else(posK (lF ks k) k').map (·+1)).bind _)=if k'=k then ND d else((if a=k' then ND 0 else(posK ks k').map (·+1)).bind _);by_cases c2:a=k'
   ·rw[if_pos c2,if_pos c2,if_neg (by rw[←c2];exact c)];rfl
   ·rw[if_neg c2,if_neg c2];have m:∀{γ:Type}(o:Option Nat)(y:γ)(l:List γ),((o.map (·+1)).bind λj=>(y::l)[j]?)=o.bind λj=>l[j]?:=λo y l=>by cases o<;>rfl
    rw[m,m,ih]
structure Fj(b:Bn):Prop where
 good:Good b.asked
 nums:Nums b.asked b.held
 jm:∀k,k<b.asked.length→0≤(at_ b.asked k).eX∧(at_ b.asked k).eX<(b.bO.length:Int)∧0≤(L2.at_ b.asked k).place∧(L2.at_ b.asked k).place<((b.bO.getD (L2.at_ b.asked k).eX.toNat []).length:Int)
 nl:b.nk.length=b.nv.length
 nw:∀p q:Int,((posK b.nk (p,q)).bind λj=>b.nv[j]?)=lastAt b.asked p q
 few:b.bO.length≤8
 nkl:b.nk.length≤b.asked.length
theorem Wl{ps:List (List (List Int))}{p:Int}(h0:0≤p)(h1:p<(ps.length:Int)):dI (mZ ps) (.int p)=ND (fU (ps.getD p.toNat [])):=nZ h0 (by
 rw[B8,tL (d:=[]) (show p.toNat<ps.length by omega)]
 rfl)
theorem Cj(ps:List (List (List Int))):jP [mZ ps]=ND (.int ps.length):=by show ND (D.int ((ps.map fU).length:Nat))=_;rw[B7]
theorem Hz(ps:List (List Int)):jP [fU ps]=ND (.int ps.length):=by show ND (D.int ((ps.map dTup).length:Nat))=_;rw[B7]
variable(κ:Nat→A7)
theorem Ib{b:Bn}{e:List D}{p:Int}(h0:0≤p)(h1:p<(b.bO.length:Int)):jC κ [jV (κ 0) b e,.int p]=ND .non:=by
 refine En (env':=[.fro (jV (κ 0) b e),.fro (.int p)]) U ?_;unfold yV;rw[mK]
 ·rfl
 refine(rT (Zh U U (dU (aB (dB U Ce) U) (Cj _)))).trans ?_;rw[decide_eq_true h0,decide_eq_true h1];rfl
theorem Ds{b:Bn}{e:List D}{p q:Int}(h0:0≤p)(h1:p<(b.bO.length:Int))(h2:0≤q)(h3:q<((b.bO.getD p.toNat []).length:Int)):iJ κ [jV (κ 0) b e,.int p,.int q]=ND .non:=by
 refine En (env':=[.fro (jV (κ 0) b e),.fro (.int p),.fro (.int q)]) U ?_;unfold wB;refine(fW (env':=[.fro (jV (κ 0) b e),.fro (.int p),.fro (.int q)]) (Gw (d:=.non) ?_)).trans ?_
 ·exact bL (nm:=BR) U (by decide +kernel) U U (Ib κ h0 h1)
 rw[mK]
 ·rfl
 refine(rT (Zh U U (dU (aB (aL (dB U Ce) U (Wl h0 h1)) U) (Hz _)))).trans ?_;rw[decide_eq_true h2,decide_eq_true h3];rfl
theorem Bb{b:Bn}{e:List D}{p:Int}(h0:0≤p)(h1:p<(b.asked.length:Int)):gO κ [jV (κ 0) b e,.int p]=ND .non:=by
 refine En (env':=[.fro (jV (κ 0) b e),.fro (.int p)]) U ?_;unfold uU;rw[mK]
 ·rfl
 refine(rT (Zh U U (dU (aB (dB U wJ) U) (Ze _)))).trans ?_;rw[decide_eq_true h0,decide_eq_true h1];rfl
def mG(b:Bn)(p q:Int)(th ns:List Int):vX:=⟨p,q,th,fj (ns++(lastAt b.asked p q).toList)⟩
def Bn.put(b:Bn)(p q:Int)(th ns:List Int):Bn:={b with asked:=b.asked++[mG b p q th ns],nk:=lF b.nk (p,q),nv:=putD b.nk b.nv (p,q) (b.asked.length:Int)}
theorem Wm{cs:List vX}{l:List Int}{c:vX}{p:Int}(h:(cs.length:Int)∉l):mW (cs++[c]) l p=if c.eX=p then mW cs l p++[(cs.length:Int)]else mW cs l p:=by
 unfold mW;have e:(D2 cs.length).filter (λk=>decide ((at_ (cs++[c]) k).eX=p)&&!decide ((k:Int)∈l))=(D2 cs.length).filter λk=>decide ((at_ cs k).eX=p)&&!decide ((k:Int)∈l):=i9 λk hk=>by rw[tQ (F5.mp hk)]
 rw[C7,show cs.length+[c].length=cs.length+1 from rfl,l6,V3,e,G0];by_cases q:c.eX=p
 ·rw[if_pos q,X7 (by rw[xP,decide_eq_true q,decide_eq_false h];rfl)];rfl
 ·rw[if_neg q,X8 (by rw[xP,decide_eq_false q];simp),Y4,J2,F9]
theorem aDJ{n:Nat}{cs:List vX}{l:List Int}{c:vX}(h:(cs.length:Int)∉l)(h0:0≤c.eX)(h1:c.eX<(n:Int)):(uF n cs l).set c.eX.toNat (aH (mW cs l c.eX++[(cs.length:Int)]))=uF n (cs++[c]) l:=by
 unfold uF;apply K6;intro k;rw[F8,B7,D8,B8,B8];by_cases e:c.eX.toNat=k
 ·rw[if_pos e,if_pos (by omega),G5 (by omega),G1,Wm h,if_pos (show c.eX=((k:Nat):Int) by omega),show ((k:Nat):Int)=c.eX by omega]
 ·rw[if_neg e];by_cases hk:k<n
  ·rw[G5 hk,G1,G1,Wm h,if_neg (by omega)]
  ·rw[E8 (by rw[D8];omega)];rfl
theorem BZ{n:Nat}{cs:List vX}{l:List Int}{p:Int}(h0:0≤p)(h1:p<(n:Int)):(uF n cs l)[p.toNat]?=ND (aH (mW cs l p)):=by unfold uF;rw[B8,G5 (by omega),G1,show ((p.toNat:Nat):Int)=p by omega]
theorem Fj.put{b:Bn}(h:Fj b){p q:Int}{th ns:List Int}(h60:b.asked.length<124)(h0:0≤p)(h1:p<(b.bO.length:Int))(h2:0≤q)(h3:q<((b.bO.getD p.toNat []).length:Int))(hn:∀m∈ns,0≤m∧m<(b.asked.length:Int))(hl:ns.length≤8):Fj (b.put p q th ns):=by
  have aIi:∀m∈(mG b p q th ns).needs,0≤m∧m<(b.asked.length:Int):=λm hm=>by
    have hm:=(Yn _ _).mp hm;rcases G7.mp hm with z | z
    · exact hn m z
    · cases e:lastAt b.asked p q with
      | none=>rw[e]at z;cases z
      | some k=>rw[e]at z;rw[E3.mp z];have:=Cg e;exact⟨this.1,this.2.1⟩
  have hlen:(b.put p q th ns).asked.length=b.asked.length+1:=by unfold Bn.put;rw[C7];rfl
  have hcase:∀k,k<(b.put p q th ns).asked.length→(k<b.asked.length∧at_ (b.put p q th ns).asked k=at_ b.asked k)∨(k=b.asked.length∧at_ (b.put p q th ns).asked k=mG b p q th ns):=λk hk=>by
    rw[hlen]at hk;rcases J8 k b.asked.length with z | z
    · exact .inl ⟨z,tQ z⟩
    · have e:k=b.asked.length:=by omega
      subst e;exact .inr ⟨U,xP _ _⟩
  refine⟨⟨by rw[hlen];omega,λk hk=>?_⟩,⟨h.nums.1,λx hx=>?_⟩,λk hk=>?_,?_,λp' q'=>?_,h.few,?_⟩
  · rcases hcase k hk with ⟨a,e⟩ | ⟨a,e⟩
    · rw[e];exact h.good.2 k a
    · rw[e,a]
      refine⟨aIi,VR _,?_⟩;have:=gf (ns++(lastAt b.asked p q).toList);show (fj (ns++(lastAt b.asked p q).toList)).length≤9;rw[C7]at this;have:(lastAt b.asked p q).toList.length≤1:=by cases lastAt b.asked p q<;>simp
      omega
  · have:=h.nums.2 x hx
    rw[hlen];omega
  · rcases hcase k hk with ⟨a,e⟩ | ⟨a,e⟩
    · have:=h.jm k a
      rw[e];exact this
    · rw[e]
      exact⟨h0,h1,h2,h3⟩
  · exact vR h.nl
  · show ((posK (lF b.nk (p,q)) (p',q')).bind λj=>(putD b.nk b.nv (p,q) (b.asked.length:Int))[j]?)=lastAt (b.asked++[mG b p q th ns]) p' q'
    rw[yI h.nl,Ba,h.nw];by_cases c:(p',q')=(p,q)
    · have c1:p'=p:=congrArg Prod.fst c
      have c2:q'=q:=congrArg Prod.snd c;rw[if_pos c,if_pos ⟨c1.symm,c2.symm⟩]
    · rw[if_neg c,if_neg λz=>c (j7 z.1.symm z.2.symm)]
  · have:=h.nkl
    rw[hlen];show (lF b.nk (p,q)).length≤_;unfold lF;split
    · omega
    · rw[C7];simp;omega
theorem aBK{b:Bn}(h:Fj b)(p q:Int):posK (b.nk.map uE) (uE (p,q))=posK b.nk (p,q):=wK (λ_ _=>Hy) _ _
theorem aGD{b:Bn}(h:Fj b){p q:Int}{th ns:List Int}{nd:D}(h0:0≤p)(h1:p<(b.bO.length:Int))(h2:0≤q)(h3:q<((b.bO.getD p.toNat []).length:Int))(hn:∀m∈ns,0≤m∧m<(b.asked.length:Int))(hl:ns.length≤50)(hnd:(nd=.non∧ns=[])∨nd=aH ns):Bw κ [dZ (κ 0) b,.int p,.int q,dTup th,nd]=ND (.int b.asked.length,dZ (κ 0) (b.put p q th ns)):=by
  refine pD U λv=>?_;unfold Wg;refine WX (d:=.non) (bL U (show ("check_place" : Str)∉BR by decide +kernel) U U (Ds κ h0 h1 h2 h3)) ?_;have h60:=h.good.1;refine cN (d:=aH ns) ?_ (by exact Nat.le_of_ble_eq_true U) ?_
  · rcases hnd with ⟨rfl,rfl⟩ | rfl
    · exact aEL (bZ (aL U U (Bv NH .non))) U
    · exact aEM (bZ (aL U U (Bv NH (aH ns)))) (dU (aB U U) (oR (cV ns)))
  refine WY (ns:=ns) [.inn v (dZ (κ 0) b),.fro (.int p),.fro (.int q),.fro (dTup th),.fro nd,.own (aH ns),lv ns .no ns.length,.no] U U (λv2 k env=>env=[.inn v (dZ (κ 0) b),.fro (.int p),.fro (.int q),.fro (dTup th),.fro nd,.inn v2 (aH ns),lv ns .no k,.no]) (λv2=>rfl) (λv2 k env e=>by rw[e];rfl) ?_ (λv2 env e=>by rw[e];rfl) ?_
  · rintro v2 k x env hx rfl
    refine⟨by walk_at "lt", _,Gw (d:=.non) (bL U (show ("check_change" : Str)∉BR by decide +kernel) U U (Bb κ (hn x (D9 hx)).1 (hn x (D9 hx)).2)),?_⟩;have e:lv ns .no (k+1)=.fro (.int x):=by show SD.fro (.int (ns.getD k 0))=_;rw[mL hx]
    rw[e];rfl
  have hkey:∀vv7:SD,Jl (aA (aD 1) (aA (aD 2) aK)) (rE [.inn v (dZ (κ 0) b),.fro (.int p),.fro (.int q),.fro (dTup th),.fro nd,.own (aH ns),lv ns .no ns.length,vv7])=ND (uE (p,q)):=λ_=>rfl;have hin:fB (Tn NH (Jl (aA (aD 1) (aA (aD 2) aK))) (pY (eQ (κ 0) "newest") (aD 0))) (rE [.inn v (dZ (κ 0) b),.fro (.int p),.fro (.int q),.fro (dTup th),.fro nd,.own (aH ns),lv ns .no ns.length,.no])=ND (posK b.nk (p,q)).isSome:=by refine bZ ?_;unfold Tn;rw[hkey,C4];rw[show pY (eQ (κ 0) "newest") (aD 0) (rE [.inn v (dZ (κ 0) b),.fro (.int p),.fro (.int q),.fro (dTup th),.fro nd,.own (aH ns),lv ns .no ns.length,.no])=ND (.dt (b.nk.map uE) (b.nv.map D.int))from dB U Fi,C4];dsimp only;rw[aBK h];rfl
  have hif:qM (fB (Tn NH (Jl (aA (aD 1) (aA (aD 2) aK))) (pY (eQ (κ 0) "newest") (aD 0)))) (Eb 5 cW (Qe (pY (eQ (κ 0) "newest") (aD 0)) (Jl (aA (aD 1) (aA (aD 2) aK))))) fG [.inn v (dZ (κ 0) b),.fro (.int p),.fro (.int q),.fro (dTup th),.fro nd,.own (aH ns),lv ns .no ns.length,.no]=.next [.inn v (dZ (κ 0) b),.fro (.int p),.fro (.int q),.fro (dTup th),.fro nd,.own (aH (ns++(lastAt b.asked p q).toList)),lv ns .no ns.length,.no]:=by
    have hw:=h.nw p q;cases e:posK b.nk (p,q)with
    | none=>rw[e]at hin hw;rw[mK hin,←hw];show SR.next _=SR.next _;rw[show ((none:Option Nat).bind λj=>b.nv[j]?)=none from rfl];show SR.next _=SR.next [_,_,_,_,_,.own (aH (ns++[])),_,_];rw[F9]
    | some j=>
      rw[e]at hin hw;obtain⟨j1,j2⟩:=rN e;have hj:j<b.nv.length:=by rw[←h.nl];exact j1
      rw[vW hin,←hw,C4,B6 hj];refine(aGk (ds:=ns.map D.int) (d:=.int b.nv[j]) U ?_ (by rw[B7];omega)).trans ?_
      · unfold Qe
        rw[show pY (eQ (κ 0) "newest") (aD 0) (rE [.inn v (dZ (κ 0) b),.fro (.int p),.fro (.int q),.fro (dTup th),.fro nd,.own (aH ns),lv ns .no ns.length,.no])=ND (.dt (b.nk.map uE) (b.nv.map D.int))from dB U Fi,C4,hkey,C4];dsimp only;rw[aBK h,e,C4,B8,B6 hj];rfl
      · rw[El]
        rfl
  refine Tp hif ?_;have h4:(ns++(lastAt b.asked p q).toList).length≤51:=by
    rw[C7];have:(lastAt b.asked p q).toList.length≤1:=by cases lastAt b.asked p q<;>simp
    omega
  refine cN (d:=.int b.asked.length) (dU (aB (dB U wJ) U) (Ze _)) (by exact Nat.le_of_ble_eq_true U) ?_;refine pF (d:=dZ (κ 0) b) U (Qp (d0:=dZ (κ 0) b) (ds:=b.asked.map DK) (d:=DK (mG b p q th ns)) U U wg ?_ (by rw[B7];omega)) U ?_
  · exact oE (aB (bH U U) (aB (bH U U) (aB (bH U (lU th)) (aB (dU (aB (dB U (WR (by omega))) U) (LR _)) U)))) (by exact Nat.le_of_ble_eq_true U)
  rw[show dR ([]++[L2.Step.fld (κ 0) "asked"]) (dZ (κ 0) b) (.lst (b.asked.map DK++[DK (mG b p q th ns)]))=dY (κ 0) (mZ b.bO) (xO (b.asked++[mG b p q th ns])) (.dt (b.nk.map uE) (b.nv.map D.int)) (Sh b.held) (.lst (uF b.bO.length b.asked b.held))from by rw[vd];exact wk];refine pF U (aDH (d:=.int b.asked.length) (k:=uE (p,q)) U U YG U U U (by
    have:=h.nl;rw[B7];have:=h.nkl
    omega)) U ?_
  rw[show dR ([]++[L2.Step.fld (κ 0) "newest"]) (dY (κ 0) (mZ b.bO) (xO (b.asked++[mG b p q th ns])) (.dt (b.nk.map uE) (b.nv.map D.int)) (Sh b.held) (.lst (uF b.bO.length b.asked b.held))) (.dt (lF (b.nk.map uE) (uE (p,q))) (putD (b.nk.map uE) (b.nv.map D.int) (uE (p,q)) (.int b.asked.length)))=dY (κ 0) (mZ b.bO) (xO (b.asked++[mG b p q th ns])) (.dt ((lF b.nk (p,q)).map uE) ((putD b.nk b.nv (p,q) (b.asked.length:Int)).map D.int)) (Sh b.held) (.lst (uF b.bO.length b.asked b.held))from by
    rw[QG (λ_ _=>Hy),QH (λ_ _=>Hy) D.int];exact YH]
  refine pF U (Qp (p:=[L2.Step.fld (κ 0) "unsettled", .ix p.toNat]) (ds:=(mW b.asked b.held p).map D.int) (d:=.int b.asked.length) U ?_ ((Wi BW).trans (Ko (BZ h0 h1))) (bH U U) ?_) U ?_
  · show (if 0≤p then _ else _)=_
    rw[if_pos h0];rfl
  · rw[B7]
    have:=QD b.asked b.held p;omega
  refine Nh U ⟨_,.inl U,?_⟩;show ND (SD.inn v (dR [L2.Step.fld (κ 0) "unsettled", .ix p.toNat] _ _))=ND (SD.inn v _);rw[Wj BW,Rt (BZ h0 h1),jl];have hnot:(b.asked.length:Int)∉b.held:=λz=>by have:=h.nums.2 _ z;omega
  have e:=aDJ (n:=b.bO.length) (c:=mG b p q th ns) hnot h0 h1;rw[←El]at e;rw[show p.toNat=(mG b p q th ns).eX.toNat from rfl,show mW b.asked b.held p=mW b.asked b.held (mG b p q th ns).eX from rfl,e];rfl
theorem aDK{uB:List (List (List Int))}(hl:uB.length≤8):tU κ [.ins (κ 0) [] [],mZ uB]=ND (.non,dZ (κ 0) ⟨uB,[],[],[],[]⟩):=by
 refine pD U λv=>?_;unfold Qv;have h1:gF (lM (aD 1)) [] jN (fL dList (aA (aD 0) aK)) (rE ([.inn v (.ins (κ 0) [] []),.fro (mZ uB)].set 0 (.own (.ins (κ 0) [] []))))=ND (mZ uB):=Br (xs:=uB) (ψ:=fU) (φ:=fU) (iV U) (by omega) λx _=>dU (aB U U) (oR (Qm λd hd=>by
  obtain⟨t,_,rfl⟩:=G4.mp hd;exact lU t))
 refine pF U (uA (p:=[]) (nm:=[]) U U U h1 (by decide) U) U ?_;refine pF U (uA (p:=[]) (nm:=["panes"]) (d:=xO []) U U U U (by decide) (by decide +kernel)) U ?_;refine pF U (uA (p:=[]) (nm:=["panes", "asked"]) (d:=.dt [] []) U U U U (by decide) (by decide +kernel)) U ?_;refine pF U (uA (p:=[]) (nm:=["panes", "asked", "newest"]) (d:=Sh []) U U U U (by decide) (by decide +kernel)) U ?_;refine WW U (uA (p:=[]) (nm:=["panes", "asked", "newest", "held"]) (d:=.lst (uB.map λ_=>aH [])) U U U (Br (xs:=uB) (ψ:=fU) (φ:=λ_=>aH []) (iV U) (by omega) λx _=>rfl) (by decide) (by decide +kernel)) U ⟨_,.inr ⟨U,U⟩,?_⟩;have e:(uB.map λ_=>aH [])=uF uB.length [] []:=by
  unfold uF;apply K6;intro k;rw[B8,B8];by_cases hk:k<uB.length
  ·rw[B6 hk,G5 hk];rfl
  ·rw[E8 (by omega),E8 (by rw[D8];omega)];rfl
 unfold dZ jV;dsimp only;rw[←e];rfl
theorem Fj.init{uB:List (List (List Int))}(hl:uB.length≤8):Fj ⟨uB,[],[],[],[]⟩:=⟨⟨N4 _,λk hk=>absurd hk (L7 _)⟩,⟨Z6,λx hx=>by cases hx⟩,λk hk=>absurd hk (L7 _),U,λp q=>rfl,hl,C6 _⟩
def val(ps:List (List (List Int)))(p q:Nat):List Int:=(ps.getD p []).getD q []
def topOf(cs:List vX)(d:List Int):Option Int→List Int
 | some k=>(at_ cs k.toNat).thing
 | none=>d
theorem jn{b:Bn}(p q:Int):posK (b.nk.map uE) (uE (p,q))=posK b.nk (p,q):=wK (λ_ _=>Hy) _ _
def face(b:Bn)(p q:Int):List Int:=topOf b.asked (val b.bO p.toNat q.toNat) (lastAt b.asked p q)
theorem aBL{ps:List (List Int)}{q:Int}(h0:0≤q)(h1:q<(ps.length:Int)):dI (fU ps) (.int q)=ND (dTup (ps.getD q.toNat [])):=nZ h0 (by
 rw[B8,tL (d:=[]) (show q.toNat<ps.length by omega)]
 rfl)
theorem aDL{b:Bn}(h:Fj b){p q:Int}(h0:0≤p)(h1:p<(b.bO.length:Int))(h2:0≤q)(h3:q<((b.bO.getD p.toNat []).length:Int)):tW κ [dZ (κ 0) b,.int p,.int q]=ND (dTup (face b p q)):=by
 suffices hh:∃d,tW κ [dZ (κ 0) b,.int p,.int q]=ND d∧d=dTup (face b p q) by obtain⟨d,e1,rfl⟩:=hh;exact e1
 refine jg U ?_;unfold Qz;refine WX (d:=.non) (bL U (show ("check_place" : Str)∉BR by decide +kernel) U U (Ds κ h0 h1 h2 h3)) ?_;have hkey:Jl (aA (aD 1) (aA (aD 2) aK)) (rE [.fro (dZ (κ 0) b),.fro (.int p),.fro (.int q)])=ND (uE (p,q)):=rfl;have hnw:pY (eQ (κ 0) "newest") (aD 0) (rE [.fro (dZ (κ 0) b),.fro (.int p),.fro (.int q)])=ND (.dt (b.nk.map uE) (b.nv.map D.int)):=dB U Fi;have hin:fB (Tn NH (Jl (aA (aD 1) (aA (aD 2) aK))) (pY (eQ (κ 0) "newest") (aD 0))) (rE [.fro (dZ (κ 0) b),.fro (.int p),.fro (.int q)])=ND (posK b.nk (p,q)).isSome:=by refine bZ ?_;unfold Tn;rw[hkey,C4,hnw,C4];dsimp only;rw[jn];rfl
 have hw:=h.nw p q;unfold face;cases e:posK b.nk (p,q)with
 | some j=>
  rw[e]at hin hw;obtain⟨j1,j2⟩:=rN e;have hj:j<b.nv.length:=by rw[←h.nl];exact j1
  rw[C4,B6 hj]at hw;have hl:=Cg hw.symm;rw[←hw];refine aIe hin U ?_;have hg:Qe (pY (eQ (κ 0) "newest") (aD 0)) (Jl (aA (aD 1) (aA (aD 2) aK))) (rE [.fro (dZ (κ 0) b),.fro (.int p),.fro (.int q)])=ND (.int b.nv[j]):=by unfold Qe;rw[hnw,C4,hkey,C4];dsimp only;rw[jn,e,C4,B8,B6 hj];rfl
  have hc:dI (xO b.asked) (.int b.nv[j])=ND (DK (at_ b.asked b.nv[j].toNat)):=by have:=Zd (cs:=b.asked) (k:=b.nv[j].toNat) (by omega);rw[show ((b.nv[j].toNat:Nat):Int)=b.nv[j] by omega]at this;exact this
  exact Vt (bH (aL (aL (dB U wJ) hg hc) U (Qo _)) (lU _)) ⟨_,U,U⟩
 | none=>rw[e]at hin hw;rw[←hw];refine pB hin U ?_;apply vG;exact pC (bH (aL (aL (dB U Ce) U (Wl h0 h1)) U (aBL h2 h3)) (lU _)) ⟨_,U,U⟩
def aIj(cs:List vX)(l:List Int)(eX:Int)(r:List Int):Prop:=r.Pairwise (·<·)∧r.length≤cs.length∧∀x,x∈r↔(0≤x∧x<cs.length∧(at_ cs x.toNat).eX=eX∧x∉l)∧∀m∈(at_ cs x.toNat).needs,m∈l∨m∈r
theorem aBM{cs:List vX}{ks nums:List Int}(hg:Good cs)(hu:nums.Pairwise (·<·))(hn:∀x∈nums,0≤x∧x<cs.length)(hl:nums.length≤124):∃r,tV [xO cs,Sh ks,aH nums]=ND (aH r)∧r.Pairwise (·<·)∧r.length≤nums.length∧∀x,x∈r↔x∈nums∧∀m∈(at_ cs x.toNat).needs,m∈ks∨m∈r:=by
  suffices h:∃d,tV [xO cs,Sh ks,aH nums]=ND d∧∃r,d=aH r∧r.Pairwise (·<·)∧r.length≤nums.length∧∀x,x∈r↔x∈nums∧∀m∈(at_ cs x.toNat).needs,m∈ks∨m∈r by obtain⟨d,h1,r,rfl,h2⟩:=h;exact⟨r,h1,h2⟩
  refine qU U ?_;unfold Qy;refine cN (d:=Sh []) U (by exact Nat.le_of_ble_eq_true U) ?_;refine aBy (xs:=nums.map D.int) (λn env=>∃(r:List Int)(v:SD),env=[.fro (xO cs),.fro (Sh ks),.fro (aH nums),.own (Sh r),v]∧r.Pairwise (·<·)∧r.length≤n∧∀x,x∈r↔x∈nums.take n∧∀m∈(at_ cs x.toNat).needs,m∈ks∨m∈r) U (iV U) ⟨[],_,U,.nil,C6 _,λx=>by simp⟩ ?_ ?_
  · rintro n x env hx ⟨r,v,rfl,h1,h2,h3⟩
    refine⟨by walk_at "lt", ?_⟩;rw[B8]at hx;cases qq:nums[n]? with
    | none=>rw[qq]at hx;cases hx
    | some y=>
      rw[qq]at hx;cases hx;have hnl:=(D1.mp qq).1;have hy:=hn y (D9 qq);obtain⟨k,rfl⟩:∃k:Nat,y=k:=⟨y.toNat,by omega⟩
      have hk:k<cs.length:=by omega
      obtain⟨g1,g2,g3⟩:=hg.2 k hk;have hc:=Zd (cs:=cs) hk;have htk:nums.take (n+1)=nums.take n++[(k:Int)]:=by rw[W3,qq];rfl
      have lt:∀z∈nums.take n,z<(k:Int):=λz hz=>by have hu':=hu.sublist (O0 (n+1) nums);rw[htk]at hu';exact(K9.mp hu').2.2 z hz k (by simp)
      have rlt:∀z∈r,z<(k:Int):=λz hz=>lt z ((h3 z).mp hz).1;have Ln:=Bu (fi:=lM (f2 dI (f2 dI (aD 0) (aD 4)) (fC (.int 3)))) (fr:=[1,3]) (fc:=jN) (fe:=Tg (f2 (Ge NH) (aD 0) (aD 1)) (f2 (Ge NH) (aD 0) (aD 2))) (e:=rE [.fro (xO cs),.fro (Sh ks),.fro (aH nums),.own (Sh r),.fro (.int (k:Int))]) (ms:=(at_ cs k).needs) (λ_=>NG) (λm=>.bl (decide (m∈ks)||decide (m∈r)))
        (vf (aL (aL U U hc) U (MN _))) (by omega) (λm hm=>rfl) λm hm _=>jf (aL U U (Zc NH m ks)) (aL U U (Zc NH m r))
      rw[N0.mpr λ_ _=>rfl]at Ln;have hall:=MT (λm:Int=>decide (m∈ks)||decide (m∈r)) (at_ cs k).needs;apply aBw (b:=(at_ cs k).needs.all λm=>decide (m∈ks)||decide (m∈r))
      · exact bZ (dU (aB Ln U) hall)
      · intro hb
        have hb:∀m∈(at_ cs k).needs,m∈ks∨m∈r:=λm hm=>by simpa using M3.mp hb m hm
        have hnr:(k:Int)∉r:=λz=>by have:=rlt _ z;omega
        have e:WQ r k=r++[(k:Int)]:=by unfold WQ;rw[if_neg hnr]
        have hp:=aIg (i:=3) (f:=aD 4) (f':=fC (.bl NG)) (env:=[.fro (xO cs),.fro (Sh ks),.fro (aH nums),.own (Sh r),.fro (.int (k:Int))]) (ks:=r) (k:=k) U U U (by omega);rw[e]at hp;refine⟨_,hp,r++[(k:Int)],_,U,?_,by rw[C7];simp;omega,λz=>?_⟩
        · refine K9.mpr ⟨h1,by simp,λz hz w hw=>?_⟩
          rw[E3.mp hw];exact rlt z hz
        · rw[htk,G7,G7]
          constructor
          · rintro(z1 | z1)
            · obtain⟨a1,a2⟩:=(h3 z).mp z1
              exact⟨.inl a1,λm hm=>(a2 m hm).imp id λq=>N8 _ q⟩
            · rw[E3.mp z1,D7]
              exact⟨.inr (by simp),λm hm=>(hb m hm).imp id λq=>N8 _ q⟩
          · rintro⟨z1,z2⟩
            rcases z1 with z1 | z1
            · refine .inl ((h3 z).mpr ⟨z1,λm hm=>(z2 m hm).imp id λq=>?_⟩)
              rcases G7.mp q with q | q
              · exact q
              · exfalso
                have a:=lt z z1;have zr:=hn z (M5 z1);have b:=(hg.2 z.toNat (by omega)).1 m hm;rw[E3.mp q]at b;omega
            · exact .inr z1
      · intro hb
        have hb:¬∀m∈(at_ cs k).needs,m∈ks∨m∈r:=λz=>by
          have:((at_ cs k).needs.all λm=>decide (m∈ks)||decide (m∈r))=NG:=M3.mpr λm hm=>by simpa using z m hm
          rw[this]at hb;cases hb
        apply aBv;refine⟨_,U,r,_,U,h1,by omega,λz=>?_⟩;rw[htk,G7];constructor
        · intro z1
          obtain⟨a1,a2⟩:=(h3 z).mp z1;exact⟨.inl a1,a2⟩
        · rintro⟨z1,z2⟩
          rcases z1 with z1 | z1
          · exact(h3 z).mpr ⟨z1,z2⟩
          · rw[E3.mp z1,D7]at z2
            exact absurd z2 hb
  · rintro env ⟨r,v,rfl,h1,h2,h3⟩
    rw[B7]at h2 h3;rw[T0]at h3;exact pC (dU (aB U U) (aBB r)) ⟨_,U,r,U,h1,h2,h3⟩
def Bn.strike(b:Bn)(k:Int):Bn:={b with bO:=b.bO.set (at_ b.asked k.toNat).eX.toNat ((b.bO.getD (at_ b.asked k.toNat).eX.toNat []).set (at_ b.asked k.toNat).place.toNat (at_ b.asked k.toNat).thing),held:=b.held++[k]}
def Bn.cP(b:Bn)(ks:List Int):Bn:=ks.foldl Bn.strike b
theorem nQ(ks:List Int):∀b:Bn,(b.cP ks).asked=b.asked:=by
 induction ks with
 | nil=>intro b;rfl
 | cons k ks ih=>intro b;exact(ih (b.strike k)).trans U
theorem yJ(ks:List Int):∀b:Bn,(b.cP ks).held=b.held++ks:=by
 induction ks with
 | nil=>intro b;exact(F9 _).symm
 | cons k ks ih=>intro b;exact(ih (b.strike k)).trans (by show (b.held++[k])++ks=_;rw[P8];rfl)
theorem YJ(ks:List Int):∀b:Bn,(b.cP ks).nk=b.nk∧(b.cP ks).nv=b.nv:=by
 induction ks with
 | nil=>intro b;exact⟨U,U⟩
 | cons k ks ih=>intro b;exact ih (b.strike k)
theorem CG(b:Bn)(k:Int):(b.strike k).bO.length=b.bO.length∧∀p:Nat,((b.strike k).bO.getD p []).length=(b.bO.getD p []).length:=by
 unfold Bn.strike;refine⟨by rw[J5],λp=>?_⟩;dsimp only;simp only[B9,F8];split
 ·rename_i c;split
  ·rename_i l;rw[S9,J5,c]
  ·rename_i l;rw[E8 (show b.bO.length≤p by omega)]
 ·rfl
theorem nR(ks:List Int):∀b:Bn,(b.cP ks).bO.length=b.bO.length∧∀p:Nat,((b.cP ks).bO.getD p []).length=(b.bO.getD p []).length:=by
 induction ks with
 | nil=>intro b;exact⟨U,λ_=>rfl⟩
 | cons k ks ih=>intro b;have a:=ih (b.strike k);have c:=CG b k;exact⟨a.1.trans c.1,λp=>(a.2 p).trans (c.2 p)⟩
theorem CJ(b:Bn)(ks:List Int)(k:Int):b.cP (ks++[k])=(b.cP ks).strike k:=by unfold Bn.cP;rw[i4];rfl
theorem Fj.cP{b:Bn}(h:Fj b){r:List Int}(hu:r.Nodup)(hm:∀x∈r,0≤x∧x<(b.asked.length:Int))(hn:∀x∈r,x∉b.held):Fj (b.cP r):=by
 have e1:=nQ r b;have e2:=yJ r b;have e3:=YJ r b;have e4:=nR r b;refine⟨by rw[e1];exact h.good,?_,λk hk=>?_,?_,λp q=>?_,by rw[e4.1];exact h.few,?_⟩
 ·rw[e1,e2];refine⟨O1.mpr ⟨h.nums.1,hu,λa ha c hc z=>hn c hc (z▸ha)⟩,λx hx=>?_⟩;rcases G7.mp hx with z | z
  ·exact h.nums.2 x z
  ·exact hm x z
 ·rw[e1]at hk ⊢;rw[e4.1,e4.2];exact h.jm k hk
 ·rw[e3.1,e3.2];exact h.nl
 ·rw[e3.1,e3.2,e1];exact h.nw p q
 ·rw[e3.1,e1];exact h.nkl
theorem YK(ps:List (List (List Int)))(k:Nat)(p:List (List Int)):D.lst ((ps.map fU).set k (fU p))=mZ (ps.set k p):=by unfold mZ;rw[R7]
theorem wu(ps:List (List Int))(k:Nat)(t:List Int):D.lst ((ps.map dTup).set k (dTup t))=fU (ps.set k t):=by unfold fU;rw[R7]
theorem aDM{ks:List Int}{k:Int}(h:k∉ks):D.dk (lF (ks.map (F2:Int→Key)) (F2 k)) (putD (ks.map (F2:Int→Key)) (ks.map λ_=>D.bl NG) (F2 k) (.bl NG))=Sh (ks++[k]):=by unfold lF putD Sh;rw[Ah h];simp only[Option.isSome_none,U9,if_false,G0];rfl
theorem wy{b:Bn}{e:List D}{k:Int}(h0:0≤k)(h1:k<(b.asked.length:Int))(hl:b.held.length≤1000)(hs:0≤(at_ b.asked k.toNat).eX∧(at_ b.asked k.toNat).eX<(b.bO.length:Int)∧0≤(at_ b.asked k.toNat).place∧(at_ b.asked k.toNat).place<((b.bO.getD (at_ b.asked k.toNat).eX.toNat []).length:Int))(hn:k∉b.held):rW κ [jV (κ 0) b e,.int k]=ND (.non,jV (κ 0) (b.strike k) e):=by
 refine pD U λv=>?_;unfold Gy;have hc:dI (xO b.asked) (.int k)=ND (DK (at_ b.asked k.toNat)):=by have:=Zd (cs:=b.asked) (k:=k.toNat) (by omega);rw[show ((k.toNat:Nat):Int)=k by omega]at this;exact this
 refine cN (d:=DK (at_ b.asked k.toNat)) (bH (aL (dB U wJ) U hc) (aGq _)) (by exact Nat.le_of_ble_eq_true U) ?_;unfold Bn.strike;generalize at_ b.asked k.toNat=c at *;have hp:(b.bO.map fU)[c.eX.toNat]?=ND (fU (b.bO.getD c.eX.toNat [])):=by rw[B8,tL (d:=[]) (show c.eX.toNat<b.bO.length by omega)];rfl
 refine pF U (Zf (p:=[L2.Step.fld (κ 0) "panes", .ix c.eX.toNat]) (k:=c.place) (ds:=(b.bO.getD c.eX.toNat []).map dTup) (d:=dTup c.thing) U ?_ ((Wi Wk).trans (Ko hp)) (aL U U (MK c)) (bH (aL U U (Qo c)) (lU _)) hs.2.2.1 (by rw[B7];exact hs.2.2.2)) U ?_
 ·exact BX (p:=[L2.Step.fld (κ 0) "panes"]) U (aL U U (je c)) hs.1
 rw[wu];rw[show dR [L2.Step.fld (κ 0) "panes", .ix c.eX.toNat] (jV (κ 0) b e) (fU ((b.bO.getD c.eX.toNat []).set c.place.toNat c.thing))=dY (κ 0) (mZ (b.bO.set c.eX.toNat ((b.bO.getD c.eX.toNat []).set c.place.toNat c.thing))) (xO b.asked) (.dt (b.nk.map uE) (b.nv.map D.int)) (Sh b.held) (.lst e)from by
  unfold jV;rw[Wj Wk];unfold mZ;rw[Rt hp,wj,YK]
  rfl]
 refine WW U (Nf (d:=.bl NG) (k:=F2 k) (kd:=.int k) U U aBI U U U U (by rw[B7];omega)) U ⟨_,.inr ⟨U,U⟩,?_⟩;show ND (SD.inn v (dR [L2.Step.fld (κ 0) "held"] _ _))=ND (SD.inn v _);rw[aBJ,aDM hn];rfl
theorem aBN{b:Bn}(h:Fj b){p:Int}{most:D}(h0:0≤p)(h1:p<(b.bO.length:Int))(hmo:most=.non∨∃m:Int,most=.int m):∃r,aIj b.asked b.held p r∧∀taken,(most=.non→taken=r)→(∀m:Int,most=.int m→taken=r.take m.toNat)→uT κ [dZ (κ 0) b,.int p,most]=ND (aH taken,dZ (κ 0) (b.cP taken)):=by
 have h60:=h.good.1;have hk:=h.nums.len;have hnl:=QD b.asked b.held p;obtain⟨r,hr,r1,r2,r3⟩:=aBM (ks:=b.held) h.good (BP b.asked b.held p) (λx hx=>by have:=Az.mp hx;exact⟨this.1,this.2.1⟩) (by omega);have hR:aIj b.asked b.held p r:=⟨r1,by omega,λx=>by rw[r3,Az]⟩
 refine⟨r,hR,λtaken t1 t2=>?_⟩;have hsub:∃n,taken=r.take n:=by
  rcases hmo with z | ⟨m,z⟩
  ·exact⟨r.length,by rw[t1 z,T0]⟩
  ·exact⟨_,t2 m z⟩
 have htm:∀x∈taken,x∈r:=λx hx=>by obtain⟨n,rfl⟩:=hsub;exact M5 hx
 have htu:taken.Pairwise (·<·):=by obtain⟨n,rfl⟩:=hsub;exact r1.sublist (O0 _ _)
 have htl:taken.length≤124:=by obtain⟨n,rfl⟩:=hsub;rw[J0];omega
 have htr:∀x∈taken,0≤x∧x<(b.asked.length:Int)∧(at_ b.asked x.toNat).eX=p∧x∉b.held:=λx hx=>((hR.2.2 x).mp (htm x hx)).1;refine pD U λv=>?_;unfold Li;refine WX (d:=.non) (bL U (show ("check_pane" : Str)∉BR by decide +kernel) U U (Ib κ h0 h1)) ?_;refine cN (d:=aH r) (bR (aB (dB U wJ) (aB (dB U QF) (aB (aL (dB U jk) U (nZ h0 (BZ h0 h1))) U))) U hr) (by exact Nat.le_of_ble_eq_true U) ?_;have hif:qM (fB (f2 (zM NG) (aD 2) (fC .non))) (dG 3 (xx NG (aD 3) (UT) (qR (fL HX (aA (aD 2) (aA (fC (.int 0)) aK)))))) fG [.inn v (dZ (κ 0) b),.fro (.int p),.fro most,.own (aH r),.no]=.next [.inn v (dZ (κ 0) b),.fro (.int p),.fro most,.own (aH taken),.no]:=by
  rcases hmo with rfl | ⟨m,rfl⟩
  ·rw[mK (bZ (aL U U (Bv NG .non))),t1 rfl];rfl
  ·rw[vW (bZ (aL U U (Bv NG (.int m))))];refine xG (d:=aH taken) ((MJ U U (Jr (dU (aB U (aB U U)) (Vx _ _)))).trans ?_) (by exact Nat.le_of_ble_eq_true U);rw[t2 m U,show (if(0:Int) > m then(0:Int)else m)=((m.toNat:Nat):Int) by split<;>omega,aGp]
 refine Tp hif ?_;refine WY (ns:=taken) [.inn v (jV (κ 0) (b.cP taken) (uF b.bO.length b.asked b.held)),.fro (.int p),.fro most,.own (aH taken),lv taken .no taken.length] U U (λv2 k env=>env=[.inn v (jV (κ 0) (b.cP (taken.take k)) (uF b.bO.length b.asked b.held)),.fro (.int p),.fro most,.inn v2 (aH taken),lv taken .no k]) (λv2=>rfl) (λv2 k env e=>by rw[e];rfl) ?_ (λv2 env e=>by rw[e,T0];rfl) ?_
 ·rintro v2 k x env hx rfl;refine⟨by walk_at "lt", ?_⟩;have hxm:=htr x (D9 hx);have e1:=nQ (taken.take k) b;have e2:=yJ (taken.take k) b;have e4:=nR (taken.take k) b;have hnx:taken.take (k+1)=taken.take k++[x]:=by rw[W3,hx];rfl
  have hst:=wy κ (b:=b.cP (taken.take k)) (e:=uF b.bO.length b.asked b.held) (k:=x) hxm.1 (by rw[e1];exact hxm.2.1) (by rw[e2,C7,J0];omega) (by rw[e1,e4.1,e4.2];exact h.jm x.toNat (by omega)) (by
   rw[e2,G7]
   rintro(z | z)
   ·exact hxm.2.2.2 z
   ·have hu:=htu.sublist (O0 (k+1) taken);rw[hnx]at hu;have:=(K9.mp hu).2.2 x z x (by simp)
    omega)
  refine⟨_,Vy (lA (d0:=jV (κ 0) (b.cP (taken.take k)) (uF b.bO.length b.asked b.held)) (p:=[]) (nm:=BR) U U U (by decide +kernel) U hst),?_⟩;have e:lv taken .no (k+1)=.fro (.int x):=by show SD.fro (.int (taken.getD k 0))=_;rw[mL hx]
  rw[e,hnx,CJ];rfl
 have e1:=nQ taken b;have e2:=yJ taken b;have e4:=nR taken b;have Ln:=tO (fi:=lM (f2 dI (pY (eQ (κ 0) "unsettled") (aD 0)) (aD 1))) (fr:=[0]) (fc:=fB (f2 (Ge NG) (aD 0) (pY (eQ (κ 0) "held") (aD 1)))) (fe:=cO (aD 0)) (e:=rE ([.inn v (jV (κ 0) (b.cP taken) (uF b.bO.length b.asked b.held)),.fro (.int p),.fro most,.own (aH taken),lv taken .no taken.length].set 0 (.own (jV (κ 0) (b.cP taken) (uF b.bO.length b.asked b.held))))) (ms:=mW b.asked b.held p) (λm=>!decide (m∈(b.cP taken).held)) id
  (iV (aL (dB U jk) U (nZ h0 (BZ h0 h1)))) (by omega) (λm hm=>bZ (aL U (dB U QF) (Zc NG m _))) λm hm _=>bH U U
 rw[List.map_id]at Ln;have hun:∀q:Int,mW b.asked (b.held++taken) q=(mW b.asked b.held q).filter λm=>!decide (m∈b.held++taken):=λq=>by
  refine uZ (BP _ _ _) ((BP _ _ _).sublist R0) λx=>?_;rw[Az,N7,Az];constructor
  ·rintro⟨a1,a2,a3,a4⟩
   exact⟨⟨a1,a2,a3,λz=>a4 (N8 _ z)⟩,by rw[decide_eq_false a4];rfl⟩
  ·rintro⟨⟨a1,a2,a3,a4⟩,a5⟩
   exact⟨a1,a2,a3,by simpa using a5⟩
 have hoth:∀q:Int,q≠p→mW b.asked (b.held++taken) q=mW b.asked b.held q:=λq hq=>by
  rw[hun];refine N0.mpr λx hx=>?_;have hx:=Az.mp hx;have:x∉b.held++taken:=λz=>by
   rcases G7.mp z with z | z
   ·exact hx.2.2.2 z
   ·exact hq (hx.2.2.1.symm.trans (htr x z).2.2.1)
  rw[decide_eq_false this];rfl
 rw[e2,←hun]at Ln;refine pF U (Zf (p:=[L2.Step.fld (κ 0) "unsettled"]) (k:=p) (ds:=uF b.bO.length b.asked b.held) U U BW U Ln h0 (by unfold uF;rw[B7,D8];exact h1)) U ?_;refine Nh U ⟨_,.inl U,?_⟩;show ND (SD.inn v (dR [L2.Step.fld (κ 0) "unsettled"] (jV (κ 0) (b.cP taken) _) _))=ND (SD.inn v _);unfold dZ jV;rw[jl,e1,e2,e4.1];have hl:(uF b.bO.length b.asked b.held).set p.toNat (aH (mW b.asked (b.held++taken) p))=uF b.bO.length b.asked (b.held++taken):=by
  unfold uF;apply K6;intro k;rw[F8,B7,D8,B8,B8];by_cases e:p.toNat=k
  ·rw[if_pos e,if_pos (by omega),G5 (by omega),G1,show ((k:Nat):Int)=p by omega]
  ·rw[if_neg e];by_cases hk:k<b.bO.length
   ·rw[G5 hk,G1,G1,hoth _ (by omega)]
   ·rw[E8 (by rw[D8];omega)];rfl
 rw[hl]
theorem YL{b:Bn}{k:Int}{p q:Nat}(h:¬((at_ b.asked k.toNat).eX.toNat=p∧(at_ b.asked k.toNat).place.toNat=q)):val (b.strike k).bO p q=val b.bO p q:=by
 unfold val Bn.strike;generalize at_ b.asked k.toNat=c at *;dsimp only;simp only[B9,F8];by_cases e:c.eX.toNat=p
 ·subst e;rw[if_pos rfl];by_cases l:c.eX.toNat<b.bO.length
  ·rw[if_pos l];simp only[S9,F8];rw[if_neg λz=>h ⟨U,z⟩]
  ·rw[if_neg l,E8 (show b.bO.length≤c.eX.toNat by omega)]
 ·rw[if_neg e]
theorem Lp{p q:Nat}:∀(ks:List Int)(b:Bn),(∀k∈ks,¬((at_ b.asked k.toNat).eX.toNat=p∧(at_ b.asked k.toNat).place.toNat=q))→val (b.cP ks).bO p q=val b.bO p q
 | [],b,_=>rfl
 | k::ks,b,h=>(Lp ks (b.strike k) λj hj=>h j (C8 _ hj)).trans (YL (h k D4))
theorem QJ{cs:List vX}{p q:Int}(h:lastAt cs p q=none){k:Nat}(hk:k<cs.length):¬((at_ cs k).eX=p∧(at_ cs k).place=q):=λz=>by unfold lastAt at h;rw[Y8,List.getLast?_eq_none_iff,Y9]at h;exact h k (F5.mpr hk) (decide_eq_true z)
theorem CK{b:Bn}(h:Fj b){r:List Int}{p q:Int}(hp:0≤p)(hq:0≤q)(hm:∀x∈r,0≤x∧x<(b.asked.length:Int)):face (b.cP r) p q=face b p q:=by
 unfold face;rw[nQ];cases e:lastAt b.asked p q with
 | some k=>rfl
 | none=>exact Lp r b λk hk z=>by have:=hm k hk;have hs:=h.jm k.toNat (by omega);exact QJ e (show k.toNat<b.asked.length by omega) ⟨by omega,by omega⟩
structure Mp where
 k:List Int
 v:List Int
def Mp.get(m:Mp)(x:Int):Option Int:=(posK m.k x).bind λj=>m.v[j]?
def Mp.put(m:Mp)(x y:Int):Mp:=⟨lF m.k x,putD m.k m.v x y⟩
def Sq(m:Mp):D:=.dk (m.k.map F2) (m.v.map D.int)
def Kq:Option Int→D
 | some y=>.int y
 | none=>.non
theorem CN(a b:Int)(h:(F2 a:Key)=F2 b):a=b:=by injection h
theorem YM{m:Mp}(h:m.k.length=m.v.length)(x:Int):Qh (Sq m) (.int x)=ND (Kq (m.get x)):=by
 unfold Qh Sq Mp.get;dsimp only;rw[show Tf (.int x)=ND (.inl x)from rfl,C4,wK CN];cases e:posK m.k x with
 | none=>rfl
 | some j=>have:=(rN e).1;dsimp only;rw[B8,C4,B6 (show j<m.v.length by omega)];rfl
theorem Mp.yI{m:Mp}(h:m.k.length=m.v.length)(x y z:Int):(m.put x y).get z=if z=x then ND y else m.get z:=Rs.yI h
theorem YQ(m:Mp)(x y:Int):D.dk (lF (m.k.map (F2:Int→Key)) (.inl x)) (putD (m.k.map (F2:Int→Key)) (m.v.map D.int) (.inl x) (.int y))=Sq (m.put x y):=by unfold Sq Mp.put;rw[QG CN,QH CN D.int]
theorem aBO{α:Type} [DecidableEq α] (ks:List α) (k:α):(lF ks k).length≤ks.length+1:=by
 unfold lF;split
 ·omega
 ·rw[C7];simp
def Mp.Ok(m:Mp)(n:Nat):Prop:=m.k.length=m.v.length∧m.k.length≤n
theorem Mp.Ok.put{m:Mp}{n:Nat}(h:m.Ok n)(x y:Int):(m.put x y).Ok (n+1):=⟨vR h.1,G2 (aBO _ _) (W9 h.2)⟩
theorem Mp.Ok.mono{m:Mp}{n k:Nat}(h:m.Ok n)(l:n≤k):m.Ok k:=⟨h.1,G2 h.2 l⟩
section
variable{C:A7}{nm:List Str}{ks:List Key}{ds:List D}{x:Str}{j:Nat}{d y:D}
theorem nA(h:posK nm x=ND j)(hd:ds[j]?=ND d):eQ C x (.ins C nm ds)=ND d:=by unfold eQ;dsimp only;rw[if_pos U,h];exact hd
theorem aBP(h:posK nm x=ND j):Cy (.fld C x) (.ins C nm ds)=ND j:=by show (if C=C then posK nm x else none)=ND j;rw[if_pos rfl];exact h
theorem yK(h:posK nm x=ND j)(hd:ds[j]?=ND d):eO [.fld C x] (.ins C nm ds)=ND d:=tZ (aBP h) hd
theorem yL(h:posK nm x=ND j)(hd:ds[j]?=ND d):dR [.fld C x] (.ins C nm ds) y=.ins C nm (ds.set j y):=qJ (aBP h) hd
end
def sI:List Str:=["bench", "spots", "string", "loose", "lasts", "comings", "goings"]
theorem w0:posK sI "bench" = ND 0:=by decide +kernel
theorem w1:posK sI "spots" = ND 1:=by decide +kernel
theorem w2:posK sI "string" = ND 2:=by decide +kernel
theorem w3:posK sI "loose" = ND 3:=by decide +kernel
theorem w4:posK sI "lasts" = ND 4:=by decide +kernel
theorem w5:posK sI "comings" = ND 5:=by decide +kernel
theorem w6:posK sI "goings" = ND 6:=by decide +kernel
def bks:List Key:=[.inr "recs", .inr "order", .inr "ins", .inr "outs", .inr "lasts", .inr "due", .inr "panes"]
structure Wb where
 b:Bn
 rs:List (List Int)
 od:List Int
 lo:List Int
 la:Mp
 co:Mp
 go:Mp
abbrev Wb.P(s:Wb):Nat:=s.b.bO.length
abbrev Wb.n(s:Wb):Nat:=s.b.asked.length
abbrev Wb.R(s:Wb)(x:Int):List Int:=s.rs.getD x.toNat []
def Wb.key(s:Wb)(x:Int):Int:=(s.R x).getD 0 0
def wz(P n:Nat):D:=.lst ((D2 n).map λk=>dTup [((k%P:Nat):Int),((k/P:Nat):Int)])
def aIk(rs:List (List Int)):D:=.lst (rs.map dTup)
def gA(κ:Nat→A7)(s:Wb):D:=.ins (κ 1) sI [dZ (κ 0) s.b,wz s.P s.rs.length,aH s.od,aH s.lo,Sq s.la,Sq s.co,Sq s.go]
def bkD(s:Wb):D:=.dk bks [aIk s.rs,aH s.od,Sq s.co,Sq s.go,Sq s.la,xO s.b.asked,.int s.P]
structure lG(s:Wb):Prop where
 bn:Fj s.b
 p1:0<s.P
 len:∀k,k<s.rs.length→k/s.P<(s.b.bO.getD (k%s.P) []).length
 few:s.rs.length≤64
 pos:0<s.rs.length
 rcd:∀k,k<s.rs.length→s.rs.getD k []=face s.b ((k%s.P:Nat):Int) ((k/s.P:Nat):Int)∧(s.rs.getD k []).length=5
 las:∀k:Nat,k<s.rs.length→s.la.get k=lastAt s.b.asked ((k%s.P:Nat):Int) ((k/s.P:Nat):Int)
 lao:s.la.Ok s.n
 coo:s.co.Ok s.n
 goo:s.go.Ok s.n
 coi:∀x y,s.co.get x=ND y→0≤y∧y<(s.n:Int)
 goi:∀x y,s.go.get x=ND y→0≤y∧y<(s.n:Int)
 DN:s.od.Nodup
 Kr:∀x∈s.od,1≤x∧x<(s.rs.length:Int)
 lon:s.lo.Nodup
 yc:∀x,x∈s.lo↔1≤x∧x<(s.rs.length:Int)∧x∉s.od
 key:s.od.Pairwise λx y=>s.key x<s.key y
 th:∀k,k<s.n→(at_ s.b.asked k).thing.length=5
theorem lG.spot{s:Wb}(h:lG s){x:Int}(h0:0≤x)(h1:x<(s.rs.length:Int)):0≤((x.toNat%s.P:Nat):Int)∧((x.toNat%s.P:Nat):Int)<(s.P:Int)∧0≤((x.toNat/s.P:Nat):Int)∧((x.toNat/s.P:Nat):Int)<((s.b.bO.getD ((x.toNat%s.P:Nat):Int).toNat []).length:Int):=by have h2:=h.len x.toNat (by omega);have h3:=T9 x.toNat h.p1;rw[D7];exact⟨P6 _,Int.ofNat_lt.mpr h3,P6 _,Int.ofNat_lt.mpr h2⟩
theorem aBQ{P n:Nat}{x:Int}(h0:0≤x)(h1:x<(n:Int)):dI (wz P n) (.int x)=ND (dTup [((x.toNat%P:Nat):Int),((x.toNat/P:Nat):Int)]):=nZ h0 (by
 rw[B8,G5 (by omega)]
 rfl)
variable(κ:Nat→A7)
theorem jX{s:Wb}(h:lG s){x:Int}(h0:0≤x)(h1:x<(s.rs.length:Int)):aW κ [gA κ s,.int x]=ND (dTup (s.R x)):=by refine lC U ?_;unfold yW;obtain⟨a,b,c,d⟩:=h.spot h0 h1;refine aBq (d:=dTup [((x.toNat%s.P:Nat):Int),((x.toNat/s.P:Nat):Int)]) (bH (aL (dB U (nA w1 U)) U (aBQ h0 h1)) (lU _)) (by exact Nat.le_of_ble_eq_true U) ?_;rw[Wb.R,(h.rcd x.toNat (by omega)).1];exact gC (bL (nm:=BR) (dB U (nA w0 U)) (by decide +kernel) (aB (aL U U U) (aB (aL U U U) U)) U (aDL κ h.bn a b c d))
theorem QK{s:Wb}(h:lG s)(x:Int):oF κ [gA κ s,.int x]=ND (Kq (s.co.get x)):=lC U (gC (aL (dB U (nA w5 U)) U (YM h.coo.1 x)))
theorem QL{s:Wb}(h:lG s)(x:Int):oG κ [gA κ s,.int x]=ND (Kq (s.go.get x)):=lC U (gC (aL (dB U (nA w6 U)) U (YM h.goo.1 x)))
def mH(os:List (Option Int)):D:=.lst (os.map Kq)
def Ss(os:List (Option Int)):List Int:=os.filterMap id
theorem YT{fi:FA}{fr:List Nat}{e:DE}(os:List (Option Int))(h:fi e=ND (os.map Kq))(hl:os.length≤1000):gF fi fr (fB (f2 (zM NG) (aD 0) (fC .non))) (cO (aD 0)) e=ND (aH (Ss os)):=by
 refine Ag h (by rw[B7];omega) ?_;clear h hl
 induction os with
 | nil=>rfl
 | cons o os ih=>
  rw[D3];unfold oY;cases o with
  | none=>exact ih
  | some y=>show ((oY _ _ (os.map Kq)).map (D.int y::·))=_;rw[ih];rfl
theorem aBR(os:List (Option Int))(hl:os.length≤1000):Zk [mH os]=ND (aH (Ss os)):=nO U (gC (YT os (iV U) hl))
def Wb.wr(s:Wb)(x:Int)(r ns:List Int):Wb:={s with b:=s.b.put ((x.toNat%s.P:Nat):Int) ((x.toNat/s.P:Nat):Int) r ns,rs:=s.rs.set x.toNat r,la:=s.la.put x s.n}
theorem aBS(s:Wb)(x:Int)(r ns:List Int):(s.wr x r ns).n=s.n+1:=by show (s.b.asked++[_]).length=_;rw[C7];rfl
theorem vJ(s:Wb)(x:Int)(r ns:List Int):(s.wr x r ns).rs.length=s.rs.length:=J5
theorem qK{α:Type}(l:List α)(i j:Nat)(x d:α)(h:i<l.length):(l.set i x).getD j d=if i=j then x else l.getD j d:=by
 rw[B9,F8,B9];by_cases c:i=j
 ·rw[if_pos c,if_pos h,if_pos c];rfl
 ·rw[if_neg c,if_neg c]
theorem CP{s:Wb}{x y:Int}{r ns:List Int}(h0:0≤x)(h1:x<(s.rs.length:Int))(hy:0≤y):(s.wr x r ns).R y=if y=x then r else s.R y:=by
 show (s.rs.set x.toNat r).getD y.toNat []=_;rw[qK _ _ _ _ _ (by omega)];by_cases c:y=x
 ·rw[if_pos c,if_pos (by rw[c])]
 ·rw[if_neg c,if_neg (by omega)]
theorem aBT{b:Bn}{p q p' q':Int}{th ns:List Int}:face (b.put p q th ns) p' q'=if p=p'∧q=q' then th else face b p' q':=by
 unfold face;show topOf (b.asked++[mG b p q th ns]) _ (lastAt (b.asked++[mG b p q th ns]) p' q')=_;rw[Ba];show topOf _ _ (if p=p'∧q=q' then _ else _)=_;by_cases c:p=p'∧q=q'
 ·rw[if_pos c,if_pos c];show (at_ (b.asked++[mG b p q th ns]) (b.asked.length:Int).toNat).thing=th;rw[D7,xP];rfl
 ·rw[if_neg c,if_neg c];cases e:lastAt b.asked p' q' with
  | none=>rfl
  | some k=>have:=Cg e;show (at_ _ k.toNat).thing=(at_ _ k.toNat).thing;rw[tQ (by omega)]
theorem QM{P a b:Nat}(h1:((a%P:Nat):Int)=((b%P:Nat):Int))(h2:((a/P:Nat):Int)=((b/P:Nat):Int)):a=b:=by have e1:=p4 h1;have e2:=p4 h2;have a1:=l7 a P;have a2:=l7 b P;rw[←a1,←a2,e1,e2]
theorem lG.wr{s:Wb}(h:lG s){x:Int}{r ns:List Int}(h0:0≤x)(h1:x<(s.rs.length:Int))(hr:r.length=5)(hn:∀m∈ns,0≤m∧m<(s.n:Int))(hl:ns.length≤8)(hm:s.n<124)(hk:x∈s.od→r.getD 0 0=s.key x):lG (s.wr x r ns):=by
 obtain⟨a,b,c,d⟩:=h.spot h0 h1;have hlen:=vJ s x r ns;have hnn:=aBS s x r ns;have hxe:((x.toNat:Nat):Int)=x:=by omega
 refine⟨h.bn.put hm a b c d hn hl,h.p1,?_,?_,?_,?_,?_,?_,?_,?_,?_,?_,h.DN,?_,h.lon,?_,?_,?_⟩
 ·rw[hlen];exact h.len
 ·rw[hlen];exact h.few
 ·rw[hlen];exact h.pos
 ·intro k hk';rw[hlen]at hk';show (s.rs.set x.toNat r).getD k []=face (s.b.put _ _ r ns) _ _∧((s.rs.set x.toNat r).getD k []).length=5;rw[qK _ _ _ _ _ (by omega),aBT];by_cases e:x.toNat=k
  ·subst e;rw[if_pos U,if_pos ⟨U,U⟩];exact⟨U,hr⟩
  ·rw[if_neg e,if_neg λz=>e (QM z.1 z.2)];exact h.rcd k hk'
 ·intro k hk';rw[hlen]at hk';show (s.la.put x s.n).get k=lastAt (s.b.asked++[mG _ _ _ _ _]) _ _;rw[Mp.yI h.lao.1,Ba];by_cases e:x.toNat=k
  ·subst e;rw[if_pos hxe,if_pos ⟨U,U⟩]
  ·rw[if_neg (by omega),if_neg λz=>e (QM z.1 z.2)];exact h.las k hk'
 ·rw[hnn];exact h.lao.put _ _
 ·rw[hnn];exact h.coo.mono (by omega)
 ·rw[hnn];exact h.goo.mono (by omega)
 ·intro z y e;have:=h.coi z y e;rw[hnn];omega
 ·intro z y e;have:=h.goi z y e;rw[hnn];omega
 ·intro z hz;rw[hlen];exact h.Kr z hz
 ·intro z;rw[hlen];exact h.yc z
 ·have kk:∀y∈s.od,(s.wr x r ns).key y=s.key y:=λy hy=>by
   show ((s.wr x r ns).R y).getD 0 0=_;rw[CP h0 h1 (by have:=h.Kr y hy;omega)];by_cases e:y=x
   ·subst e;rw[if_pos rfl];exact hk hy
   ·rw[if_neg e];rfl
  exact h.key.imp_of_mem λ{y z} hy hz q=>by rw[kk y hy,kk z hz];exact q
 ·intro k hk';rw[hnn]at hk';show (at_ (s.b.asked++[mG _ _ _ _ _]) k).thing.length=5;rcases J8 k s.n with z | z
  ·rw[tQ z];exact h.th k z
  ·have e:k=s.b.asked.length:=Nat.le_antisymm (Nat.lt_succ_iff.mp hk') z;rw[e,xP];exact hr
theorem lG.aIo{s:Wb}(h:lG s):s.n≤124:=h.bn.good.1
theorem mapA{o:Option (List D)}{es:List D}(h:o=ND es):o.map (·++[])=ND es:=by rw[h];show ND (es++[])=_;rw[F9]
theorem QQ{s:Wb}(h:lG s){x:Int}{r:List Int}{os:List (Option Int)}(h0:0≤x)(h1:x<(s.rs.length:Int))(hn:∀m∈Ss os,0≤m∧m<(s.n:Int))(hl:os.length≤9):mQ κ [gA κ s,.int x,dTup r,mH os]=ND (.int s.n,gA κ (s.wr x r (Ss os))):=by
 refine pD U λv=>?_;unfold Gz;obtain⟨a,b,c,d⟩:=h.spot h0 h1;have hkl:(Ss os).length≤9:=G2 (List.length_filterMap_le _ _) hl;refine cN (d:=dTup [((x.toNat%s.P:Nat):Int),((x.toNat/s.P:Nat):Int)]) (bH (aL (dB U (nA w1 U)) U (aBQ h0 h1)) (lU _)) (by exact Nat.le_of_ble_eq_true U) ?_;refine Zg (d:=.int s.n) (env':=[.inn v (.ins (κ 1) sI [dZ (κ 0) (s.b.put ((x.toNat%s.P:Nat):Int) ((x.toNat/s.P:Nat):Int) r (Ss os)),wz s.P s.rs.length,aH s.od,aH s.lo,Sq s.la,Sq s.co,Sq s.go]),.fro (.int x),.fro (dTup r),.fro (mH os),.own (dTup [((x.toNat%s.P:Nat):Int),((x.toNat/s.P:Nat):Int)]),.no])
  ((lA (p:=[L2.Step.fld (κ 1) "bench"]) (nm:=BR) (es:=[.int ((x.toNat%s.P:Nat):Int),.int ((x.toNat/s.P:Nat):Int),dTup r,aH (Ss os)]) U U (yK w0 U) (by decide +kernel) (mapA (gR (aL U U U) (gR (aL U U U) (gR U (gR (bR (aB U U) U (aBR os (by omega))) U))))) (aGD κ h.bn a b c d hn (by omega) (.inr U))).trans (by
   rw[yL w0 rfl]
   rfl)) (by exact Nat.le_of_ble_eq_true U) ?_
 refine pF U (Nf (p:=[L2.Step.fld (κ 1) "lasts"]) (k:=.inl x) (kd:=.int x) (d:=.int s.n) U U (yK w4 U) U U U U (by rw[B7];have:=h.lao.2;have:=h.aIo;omega)) U ?_;refine Nh U ⟨_,.inl U,?_⟩;show ND (SD.inn v (dR [L2.Step.fld (κ 1) "lasts"] _ _))=ND (SD.inn v _);rw[yL w4 U,YQ];unfold gA;rw[vJ];rfl
theorem aDN(o:Option Int):(Kq o).jK=NG:=by cases o<;>rfl
theorem Wn(os:List (Option Int)):D.gY (os.map Kq)=NG:=Qm λd hd=>by obtain⟨o,_,rfl⟩:=G4.mp hd;exact aDN o
theorem Ru(a b:List (Option Int))(h:a.length+b.length≤1000):dJ (mH a) (mH b)=ND (mH (a++b)):=by unfold mH;rw[G0];exact Vr (by rw[LK,Wn,Wn];rfl) (by rw[B7,B7];omega)
theorem Ks(ns:List Int):aH ns=mH (ns.map ND):=by unfold aH mH;rw[K5];rfl
theorem Bc(ns:List Int):Ss (ns.map ND)=ns:=by unfold Ss;rw[List.filterMap_map];exact List.filterMap_some
theorem Ie(o:Option Int)(os:List (Option Int)):Ss (o::os)=o.toList++Ss os:=by cases o<;>rfl
def Wb.ns(s:Wb)(x:Int)(ns:List Int):List Int:=(s.co.get x).toList++ns
theorem lG.aDO{s:Wb}(h:lG s){x:Int}{ns:List Int}(hn:∀m∈ns,0≤m∧m<(s.n:Int)):∀m∈s.ns x ns,0≤m∧m<(s.n:Int):=λm hm=>by
 rcases G7.mp hm with z | z
 ·cases e:s.co.get x with
  | none=>rw[e]at z;cases z
  | some y=>rw[e]at z;rw[E3.mp z];exact h.coi x y e
 ·exact hn m z
theorem wL{α:Type}(o:Option α):o.toList.length≤1:=by cases o<;>simp
theorem QR{s:Wb}(h:lG s){x:Int}{r:List Int}{os:List (Option Int)}(h0:0≤x)(h1:x<(s.rs.length:Int))(hn:∀m∈Ss os,0≤m∧m<(s.n:Int))(hl:os.length≤7):fX κ [gA κ s,.int x,dTup r,mH os]=ND (.int s.n,gA κ (s.wr x r (s.ns x (Ss os)))):=by
 refine pD U λv=>?_;unfold wC;have e:s.ns x (Ss os)=Ss (s.co.get x::os):=by rw[Ie];rfl
 rw[e];refine Gx (d:=.int s.n) (env':=[.inn v (gA κ (s.wr x r (Ss (s.co.get x::os)))),.fro (.int x),.fro (dTup r),.fro (mH os)]) (lA (p:=[]) (nm:=sI) (es:=[.int x,dTup r,mH (s.co.get x::os)]) U U U (by decide +kernel) (mapA (gR U (gR U (Ai (aL (a:=mH [s.co.get x]) (b:=mH os) (fQ (aB (bL (nm:=sI) U (by decide +kernel) U U (QK κ h x)) U) (by exact Nat.le_of_ble_eq_true U)) U (Ru _ _ (by simp;omega))) U)))) (QQ κ h h0 h1 (by rw[←e];exact h.aDO hn) (by simp;omega))) ⟨_,.inl U,U⟩
theorem aDP{s:Wb}(h:lG s){x:Int}{r ns:List Int}(h0:0≤x)(h1:x<(s.rs.length:Int))(hn:∀m∈ns,0≤m∧m<(s.n:Int))(hl:ns.length≤7):fX κ [gA κ s,.int x,dTup r,aH ns]=ND (.int s.n,gA κ (s.wr x r (s.ns x ns))):=by have:=QR κ h (r:=r) (os:=ns.map ND) h0 h1 (by rw[Bc];exact hn) (by rw[B7];exact hl);rw[Bc,←Ks]at this;exact this
def lnk(r:List Int)(y:Int):List Int:=[r.getD 0 0,y,r.getD 2 0,r.getD 3 0,r.getD 4 0]
theorem rG{r:List Int}{k:Nat}(h:k<r.length):dI (dTup r) (.int k)=ND (.int (r.getD k 0)):=uO (P6 _) (by
 rw[B8,D7,tL (d:=0) h]
 rfl)
theorem lG.five{s:Wb}(h:lG s){x:Int}(h0:0≤x)(h1:x<(s.rs.length:Int)):(s.R x).length=5:=(h.rcd x.toNat (by omega)).2
theorem QS{s:Wb}(h:lG s){x y:Int}{os:List (Option Int)}(h0:0≤x)(h1:x<(s.rs.length:Int))(hn:∀m∈Ss os,0≤m∧m<(s.n:Int))(hl:os.length≤7):lX κ [gA κ s,.int x,.int y,mH os]=ND (.int s.n,gA κ (s.wr x (lnk (s.R x) y) (s.ns x (Ss os)))):=by refine pD U λv=>?_;unfold Lj;have h5:=h.five h0 h1;refine cN (d:=dTup (s.R x)) (bL (nm:=sI) U (by decide +kernel) U U (jX κ h h0 h1)) (by exact Nat.le_of_ble_eq_true U) ?_;refine Gx (d:=.int s.n) (env':=[.inn v (gA κ (s.wr x (lnk (s.R x) y) (s.ns x (Ss os)))),.fro (.int x),.fro (.int y),.fro (mH os),.own (dTup (s.R x))]) (lA (p:=[]) (nm:=sI) (es:=[.int x,dTup (lnk (s.R x) y),mH os]) U U U (by decide +kernel) (mapA (gR U (gR (oE (aB (bH (aL U U (rG (k:=0) (by omega))) U) (aB (bH U U) (aB (bH (aL U U (rG (k:=2) (by omega))) U) (aB (bH (aL U U (rG (k:=3) (by omega))) U) (aB (bH (aL U U (rG (k:=4) (by omega))) U) U))))) (by exact Nat.le_of_ble_eq_true U)) (gR U U)))) (QR κ h h0 h1 hn hl)) ⟨_,.inl U,U⟩
theorem aDR{s:Wb}(h:lG s){x y:Int}{ns:List Int}(h0:0≤x)(h1:x<(s.rs.length:Int))(hn:∀m∈ns,0≤m∧m<(s.n:Int))(hl:ns.length≤7):lX κ [gA κ s,.int x,.int y,aH ns]=ND (.int s.n,gA κ (s.wr x (lnk (s.R x) y) (s.ns x ns))):=by have:=QS κ h (y:=y) (os:=ns.map ND) h0 h1 (by rw[Bc];exact hn) (by rw[B7];exact hl);rw[Bc,←Ks]at this;exact this
theorem Fq{s:Wb}{ns:List Int}{nd:D}(hn:∀m∈ns,0≤m∧m<(s.n:Int))(hnd:(nd=.non∧ns=[])∨nd=aH ns):cA κ [gA κ s,nd]=ND (aH ns):=by
  suffices hh:∃d,cA κ [gA κ s,nd]=ND d∧d=aH ns by obtain⟨d,e1,rfl⟩:=hh;exact e1
  refine jg U ?_;unfold rK;refine cN (d:=aH ns) ?_ (by exact Nat.le_of_ble_eq_true U) ?_
  · rcases hnd with ⟨rfl,rfl⟩ | rfl
    · exact aEL (bZ (aL U U (Bv NH .non))) U
    · exact aEM (bZ (aL U U (Bv NH (aH ns)))) (dU (aB U U) (oR (cV ns)))
  refine WY (ns:=ns) [.fro (gA κ s),.fro nd,.own (aH ns),lv ns .no ns.length] U U (λv2 k env=>env=[.fro (gA κ s),.fro nd,.inn v2 (aH ns),lv ns .no k]) (λv2=>rfl) (λv2 k env e=>by rw[e];rfl) ?_ (λv2 env e=>by rw[e];rfl) ?_
  · rintro v2 k x env hx rfl
    refine⟨by walk_at "lt", _,Gw (d:=.non) (bL (nm:=BR) (dB U (nA w0 U)) (by decide +kernel) U U (Bb κ (hn x (D9 hx)).1 (hn x (D9 hx)).2)),?_⟩;have e:lv ns .no (k+1)=.fro (.int x):=by show SD.fro (.int (ns.getD k 0))=_;rw[mL hx]
    rw[e];rfl
  exact aBx U ⟨_,U,U⟩
def Wb.ahead(s:Wb)(at_:Int):Int:=(0::s.od).getD at_.toNat 0
theorem aJI(od:List Int)(h:od.length≤1000):dJ (aH [0]) (aH od)=ND (aH (0::od)):=xM [0] od (by simp;omega)
theorem lG.aIp{s:Wb}(h:lG s):s.od.length≤64:=by
 have:=pO s.rs.length s.od h.DN λx hx=>by have:=h.Kr x hx;omega
 have:=h.few;omega
theorem lG.aGH{s:Wb}(h:lG s):s.lo.length<64:=by
 have hh:=pO s.rs.length (0::s.lo) (L5.mpr ⟨λz=>by have:=(h.yc 0).mp z;omega,h.lon⟩) λx hx=>by
  rcases C9.mp hx with z | z
  ·have:=h.pos;omega
  ·have:=(h.yc x).mp z;omega
 rw[E9]at hh;have:=h.few;omega
theorem Lq{s:Wb}(h:lG s){k:Int}(h0:0≤k)(h1:k≤(s.od.length:Int)):jD κ [gA κ s,.int k]=ND (.int (s.ahead k)):=by have:=h.aIp;exact lC U (gC (bH (aL (aL (fQ (aB U U) (by exact Nat.le_of_ble_eq_true U)) (dB U (nA w2 U)) (aJI _ (by omega))) U (gW h0 (by simp;omega))) U))
theorem lG.ahead{s:Wb}(h:lG s){k:Int}(h0:0≤k)(h1:k≤(s.od.length:Int)):(s.ahead k=0∨s.ahead k∈s.od)∧0≤s.ahead k∧s.ahead k<(s.rs.length:Int):=by
 have hm:s.ahead k∈(0::s.od):=by unfold Wb.ahead;rw[B9,B6 (show k.toNat<(0::s.od).length by simp;omega)];exact O9 _
 rcases C9.mp hm with z | z
 ·rw[z];have:=h.pos;exact⟨.inl U,by omega,by omega⟩
 ·have:=h.Kr _ z;exact⟨.inr z,by omega,by omega⟩
theorem YW{s:Wb}(h:lG s){x a b c:Int}{ns:List Int}{nd:D}(h0:0≤x)(h1:x<(s.rs.length:Int))(hn:∀m∈ns,0≤m∧m<(s.n:Int))(hl:ns.length≤7)(hnd:(nd=.non∧ns=[])∨nd=aH ns):pI κ [gA κ s,.int x,.int a,.int b,.int c,nd]=ND (.int s.n,gA κ (s.wr x [(s.R x).getD 0 0,(s.R x).getD 1 0,a,b,c] (s.ns x ns))):=by refine pD U λv=>?_;unfold Ao;have h5:=h.five h0 h1;refine cN (d:=dTup (s.R x)) (bL (nm:=sI) U (by decide +kernel) U U (jX κ h h0 h1)) (by exact Nat.le_of_ble_eq_true U) ?_;refine Gx (d:=.int s.n) (env':=[.inn v (gA κ (s.wr x [(s.R x).getD 0 0,(s.R x).getD 1 0,a,b,c] (s.ns x ns))),.fro (.int x),.fro (.int a),.fro (.int b),.fro (.int c),.fro nd,.own (dTup (s.R x))]) (lA (p:=[]) (nm:=sI) (es:=[.int x,dTup [(s.R x).getD 0 0,(s.R x).getD 1 0,a,b,c],aH ns]) U U U (by decide +kernel) (mapA (gR U (gR (oE (aB (bH (aL U U (rG (k:=0) (by omega))) U) (aB (bH (aL U U (rG (k:=1) (by omega))) U) (aB (bH U U) (aB (bH U U) (aB (bH U U) U))))) (by exact Nat.le_of_ble_eq_true U)) (Ai (bL (nm:=sI) U (by decide +kernel) U U (Fq κ hn hnd)) U)))) (aDP κ h h0 h1 hn hl)) ⟨_,.inl U,U⟩
def Wb.new(s:Wb):Int:=UJ s.lo
def Wb.e1(s:Wb)(k key was now nC:Int):Wb:=s.wr s.new [key,(s.R (s.ahead k)).getD 1 0,was,now,nC] (s.go.get s.new).toList
def Wb.e2(s:Wb)(k key was now nC:Int)(fu:List Int):Wb:=(s.e1 k key was now nC).wr (s.ahead k) (lnk ((s.e1 k key was now nC).R (s.ahead k)) s.new) ((s.e1 k key was now nC).ns (s.ahead k) ((s.n:Int)::fu))
def Wb.ent(s:Wb)(k key was now nC:Int)(fu:List Int):Wb:={s.e2 k key was now nC fu with od:=s.od.take k.toNat++s.new::s.od.drop k.toNat,lo:=s.lo.eraseIdx (s.lo.idxOf s.new),co:=s.co.put s.new (s.n+1:Nat)}
theorem lG.new{s:Wb}(h:lG s)(hl:0<s.lo.length):s.new∈s.lo∧1≤s.new∧s.new<(s.rs.length:Int)∧s.new∉s.od∧0≤s.new:=by have:=(Dw hl).1;have hm:=(h.yc _).mp this;exact⟨this,hm.1,hm.2.1,hm.2.2,Int.le_trans (by decide) hm.1⟩
theorem lG.aIq{s:Wb}(h:lG s)(x:Int):∀m∈(s.go.get x).toList,0≤m∧m<(s.n:Int):=λm hm=>by
 cases e:s.go.get x with
 | none=>rw[e]at hm;cases hm
 | some y=>rw[e]at hm;rw[E3.mp hm];exact h.goi x y e
theorem lG.e1{s:Wb}(h:lG s)(hl:0<s.lo.length)(hm:s.n<124)(k key was now nC:Int):lG (s.e1 k key was now nC):=by obtain⟨a,b,c,d,e⟩:=h.new hl;exact h.wr e c U (h.aIq _) (G2 (wL _) (by decide)) hm λz=>absurd z d
theorem aDS(s:Wb)(k key was now nC:Int):(s.e1 k key was now nC).n=s.n+1:=aBS _ _ _ _
theorem lG.e2{s:Wb}(h:lG s)(hl:0<s.lo.length)(hm:s.n<123){k key was now nC:Int}{fu:List Int}(h0:0≤k)(h1:k≤(s.od.length:Int))(hn:∀m∈fu,0≤m∧m<(s.n:Int))(hf:fu.length≤5):lG (s.e2 k key was now nC fu)∧(∀m∈(s.n:Int)::fu,0≤m∧m<((s.e1 k key was now nC).n:Int))∧s.ahead k<((s.e1 k key was now nC).rs.length:Int):=by
 have w:=h.e1 hl (by omega) k key was now nC;obtain⟨a,b,c⟩:=h.ahead h0 h1;have hn2:∀m∈(s.n:Int)::fu,0≤m∧m<((s.e1 k key was now nC).n:Int):=λm hm=>by
  rw[aDS];rcases C9.mp hm with z | z
  ·omega
  ·have:=hn m z;omega
 have hc:s.ahead k<((s.e1 k key was now nC).rs.length:Int):=by show _<((s.wr _ _ _).rs.length:Int);rw[vJ];exact c
 refine⟨w.wr b hc U (w.aDO hn2) ?_ (by rw[aDS];omega) λz=>rfl,hn2,hc⟩;unfold Wb.ns;rw[C7];have:=wL ((s.e1 k key was now nC).co.get (s.ahead k));simp;omega
theorem aEO(s:Wb)(k key was now nC:Int)(fu:List Int):(s.ent k key was now nC fu).n=s.n+2:=by show (s.e2 k key was now nC fu).n=_;unfold Wb.e2;rw[aBS,aDS]
theorem jo(s:Wb)(k key was now nC:Int)(fu:List Int):(s.ent k key was now nC fu).rs.length=s.rs.length:=by show (s.e2 k key was now nC fu).rs.length=_;unfold Wb.e2;rw[vJ];exact vJ _ _ _ _
theorem Wo{l:List Int}{x y:Int}(hn:l.Nodup):y∈l.eraseIdx (l.idxOf x)↔y∈l∧y≠x:=by rw[←List.erase_eq_eraseIdx_of_idxOf U,hn.mem_erase_iff];exact and_comm
def Wb.Fits(s:Wb)(k key:Int):Prop:=(∀x∈s.od.take k.toNat,s.key x<key)∧∀x∈s.od.drop k.toNat,key<s.key x
theorem lG.ent{s:Wb}(h:lG s)(hl:0<s.lo.length)(hm:s.n<123){k key was now nC:Int}{fu:List Int}(h0:0≤k)(h1:k≤(s.od.length:Int))(hn:∀m∈fu,0≤m∧m<(s.n:Int))(hf:fu.length≤5)(hk:s.Fits k key):lG (s.ent k key was now nC fu):=by
  obtain⟨w,_,_⟩:=h.e2 hl hm (key:=key) (was:=was) (now:=now) (nC:=nC) h0 h1 hn hf;obtain⟨a1,a2,a3,a4,a5⟩:=h.new hl;have hA:=h.ahead h0 h1;have hod:∀x,x∈s.od.take k.toNat++s.new::s.od.drop k.toNat↔x=s.new∨x∈s.od:=λx=>by
    conv=>rhs;rw[←N2 k.toNat s.od]
    simp only[G7,C9];constructor
    · rintro(z | z | z)
      · exact .inr (.inl z)
      · exact .inl z
      · exact .inr (.inr z)
    · rintro(z | z | z)
      · exact .inr (.inl z)
      · exact .inl z
      · exact .inr (.inr z)
  have hlen:=jo s k key was now nC fu;have hnn:=aEO s k key was now nC fu;have kk:∀x,x=s.new∨x∈s.od→(s.ent k key was now nC fu).key x=if x=s.new then key else s.key x:=λx hx=>by
    have x0:0≤x:=by
      rcases hx with z | z
      · omega
      · have:=h.Kr x z;omega
    show ((s.e2 k key was now nC fu).R x).getD 0 0=_;have e1r:∀y,0≤y→(s.e1 k key was now nC).R y=if y=s.new then [key,(s.R (s.ahead k)).getD 1 0,was,now,nC]else s.R y:=λy hy=>CP a5 a3 hy;have ne:s.ahead k≠s.new:=λz=>by
      rcases hA.1 with y | y
      · omega
      · exact a4 (z▸y)
    unfold Wb.e2;rw[CP hA.2.1 (by show _<((s.wr _ _ _).rs.length:Int);rw[vJ];exact hA.2.2) x0];by_cases c:x=s.ahead k
    · rw[if_pos c,if_neg (by rw[c];exact ne),e1r _ hA.2.1,if_neg ne,c]
      rfl
    · rw[if_neg c,e1r x x0]
      by_cases c2:x=s.new
      · rw[if_pos c2,if_pos c2];rfl
      · rw[if_neg c2,if_neg c2];rfl
  refine⟨w.bn,w.p1,w.len,w.few,w.pos,w.rcd,w.las,w.lao,?_,?_,?_,?_,?_,?_,?_,?_,?_,w.th⟩
  · rw[hnn];exact(h.coo.put _ _).mono (by omega)
  · rw[hnn];exact h.goo.mono (by omega)
  · intro x y e
    have e:(s.co.put s.new (s.n+1:Nat)).get x=ND y:=e;rw[Mp.yI h.coo.1]at e;rw[hnn];split at e
    · cases e
      omega
    · have:=h.coi x y e
      omega
  · intro x y e
    have:=h.goi x y e;rw[hnn];omega
  · refine O1.mpr ⟨h.DN.sublist (O0 _ _),L5.mpr ⟨λz=>a4 (Q7 z),h.DN.sublist (i6 _ _)⟩,λx hx y hy=>?_⟩
    rcases C9.mp hy with z | z
    · rintro rfl
      exact a4 (z▸M5 hx)
    · have:=h.DN
      rw[←N2 k.toNat s.od]at this;exact(O1.mp this).2.2 x hx y z
  · intro x hx
    rw[hlen]
    rcases(hod x).mp hx with z | z
    · omega
    · exact h.Kr x z
  · exact h.lon.sublist (T2 _ _)
  · intro x
    show x∈s.lo.eraseIdx (s.lo.idxOf s.new)↔_;rw[hlen,Wo h.lon,h.yc x];show _↔1≤x∧x<(s.rs.length:Int)∧x∉s.od.take k.toNat++s.new::s.od.drop k.toNat;rw[hod x,not_or];constructor
    · rintro⟨⟨z1,z2,z3⟩,z4⟩
      exact⟨z1,z2,z4,z3⟩
    · rintro⟨z1,z2,z4,z3⟩
      exact⟨⟨z1,z2,z3⟩,z4⟩
  · have hp:=h.key
    rw[←N2 k.toNat s.od]at hp;obtain⟨p1,p2,p3⟩:=K9.mp hp;have nt:∀x∈s.od.take k.toNat,x≠s.new:=λx hx z=>a4 (z▸M5 hx);have nd:∀x∈s.od.drop k.toNat,x≠s.new:=λx hx z=>a4 (z▸Q7 hx);have kt:∀x∈s.od.take k.toNat,(s.ent k key was now nC fu).key x=s.key x:=λx hx=>by rw[kk x (.inr (M5 hx)),if_neg (nt x hx)]
    have kd:∀x∈s.od.drop k.toNat,(s.ent k key was now nC fu).key x=s.key x:=λx hx=>by rw[kk x (.inr (Q7 hx)),if_neg (nd x hx)]
    have kn:(s.ent k key was now nC fu).key s.new=key:=by rw[kk _ (.inl U),if_pos rfl]
    show (s.od.take k.toNat++s.new::s.od.drop k.toNat).Pairwise _;refine K9.mpr ⟨p1.imp_of_mem λ{x y} hx hy q=>by rw[kt x hx,kt y hy];exact q,J3.mpr ⟨λy hy=>by rw[kn,kd y hy];exact hk.2 y hy,p2.imp_of_mem λ{x y} hx hy q=>by rw[kd x hx,kd y hy];exact q⟩,λx hx y hy=>?_⟩;rw[kt x hx];rcases C9.mp hy with z | z
    · rw[z,kn]
      exact hk.1 x hx
    · rw[kd y z]
      exact p3 x hx y z
theorem aDT{s:Wb}{k key:Int}(h0:0≤k)(h1:k≤(s.od.length:Int))(hk:s.Fits k key):(((s.od.filter λx=>decide (s.key x<key)).length:Nat):Int)=k:=by
 conv=>lhs;rw[←N2 k.toNat s.od]
 rw[V3,N0.mpr λx hx=>decide_eq_true (hk.1 x hx),Y9.mpr λx hx=>by have:=hk.2 x hx;simp;omega,F9,J0];omega
theorem aGI{env:EN}{i:Nat}{π:FP}{f g:FE}{d0:D}{p:List L2.Step}{ns:List Int}{k y:Int}(h1:env[i]?=ND (.own d0))(h2:π (rE env)=ND p)(h3:eO p d0=ND (aH ns))(h4:f (rE env)=ND (.int k))(h5:g (rE env)=ND (.int y))(k0:0≤k)(k1:k≤(ns.length:Int))(hl:ns.length<1000):uq i π f g env=.next (env.set i (.own (dR p d0 (aH (ns.take k.toNat++y::ns.drop k.toNat))))):=by unfold uq;rw[h1,h2,h4,h5];dsimp only;rw[h3];unfold aH;dsimp only;rw[kI];dsimp only;rw[if_pos ⟨k0,by omega,hl⟩]
theorem YX{env:EN}{i:Nat}{π:FP}{g:FE}{d0:D}{p:List L2.Step}{ns:List Int}{y:Int}(h1:env[i]?=ND (.own d0))(h2:π (rE env)=ND p)(h3:eO p d0=ND (aH ns))(h5:g (rE env)=ND (.int y))(hy:y∈ns):KJ i π g env=.next (env.set i (.own (dR p d0 (aH (ns.eraseIdx (ns.idxOf y)))))):=by unfold KJ;rw[h1,h2,h5];dsimp only;rw[h3];unfold aH;dsimp only;rw[kI];dsimp only;rw[if_pos hy]
theorem aBU{s:Wb}(h:lG s)(hl:0<s.lo.length)(hm:s.n<123){k key was now nC:Int}{fu:List Int}{nd:D}(h0:0≤k)(h1:k≤(s.od.length:Int))(hn:∀m∈fu,0≤m∧m<(s.n:Int))(hf:fu.length≤5)(hk:s.Fits k key)(hnd:(nd=.non∧fu=[])∨nd=aH fu) :
  sG κ [gA κ s,.int key,.int was,.int now,.int nC,nd]=ND (.tup [.int s.new,.int (s.n+1:Nat)],gA κ (s.ent k key was now nC fu)):=by
 refine pD U λv=>?_;unfold Hj;obtain⟨a1,a2,a3,a4,a5⟩:=h.new hl;obtain⟨b1,b2,b3⟩:=h.ahead h0 h1;obtain⟨W2,hn2,hc⟩:=h.e2 hl hm (key:=key) (was:=was) (now:=now) (nC:=nC) h0 h1 hn hf;have W1:=h.e1 hl (by omega) k key was now nC;have h5:=h.five b2 b3;have ho:=h.aIp;refine pB (bZ (aL (dU (aB (dB U (nA w3 U)) U) (lB _)) U (pA _ _))) (decide_eq_false (by omega)) (vG ?_);refine cN (d:=aH fu) (bL (nm:=sI) U (by decide +kernel) U U (Fq κ hn hnd)) (by exact Nat.le_of_ble_eq_true U) ?_;have Ln:=Bu (fi:=lM (pY (eQ (κ 1) "string") (aD 0))) (fr:=[0,1]) (fc:=fB (f2 xu (f2 dI (bK (κ 1) "record_of" 2 (aW κ) (aD 1) (aA (aD 0) aK) []) (fC (.int (0)))) (aD 2))) (fe:=cO (aD 0)) (e:=rE [.inn v (gA κ s),.fro (.int key),.fro (.int was),.fro (.int now),.fro (.int nC),.fro nd,.own (aH fu),.no,.no,.no,.no,.no]) (ms:=s.od) (λx=>decide (s.key x<key)) (λx=>.int x) (iV (dB U (nA w2 U))) (by omega) (λx hx=>by
  have:=h.Kr x hx;exact bZ (aL (aL (bL (nm:=sI) U (by decide +kernel) U U (jX κ h (by omega) this.2)) U (rG (k:=0) (by rw[h.five (by omega) this.2];decide))) U (xH _ _))) λx hx _=>bH U U
 refine cN (d:=.int k) ((dU (aB Ln U) (Gq _)).trans (by rw[B7,aDT h0 h1 hk])) (by exact Nat.le_of_ble_eq_true U) ?_;refine cN (d:=.int (s.ahead k)) (bL (nm:=sI) U (by decide +kernel) U U (Lq κ h h0 h1)) (by exact Nat.le_of_ble_eq_true U) ?_;refine cN (d:=.int s.new) (dU (aB (dB U (nA w3 U)) U) (WT hl)) (by exact Nat.le_of_ble_eq_true U) ?_;refine Zg (d:=.int s.n) (env':=[.inn v (gA κ (s.e1 k key was now nC)),.fro (.int key),.fro (.int was),.fro (.int now),.fro (.int nC),.fro nd,.own (aH fu),.own (.int k),.own (.int (s.ahead k)),.own (.int s.new),.no,.no])
  (lA (p:=[]) (nm:=sI) (es:=[.int s.new,dTup [key,(s.R (s.ahead k)).getD 1 0,was,now,nC],mH [s.go.get s.new]]) U U U (by decide +kernel) (mapA (gR U (Ai (oE (aB (bH U U) (aB (bH (aL (bL (nm:=sI) U (by decide +kernel) U U (jX κ h b2 b3)) U (rG (k:=1) (by omega))) U) (aB (bH U U) (aB (bH U U) (aB (bH U U) U))))) (by exact Nat.le_of_ble_eq_true U)) (Ai (fQ (aB (bL (nm:=sI) U (by decide +kernel) U U (QL κ h s.new)) U) (by exact Nat.le_of_ble_eq_true U)) U)))) ((QQ κ h a5 a3 (by rw[Ie];exact λm hm=>h.aIq _ m (by simpa[Ss]using hm)) (by simp)).trans (by rw[Ie,show Ss []=[]from rfl,F9];rfl))) (by exact Nat.le_of_ble_eq_true U) ?_
 refine Zg (d:=.int (s.n+1:Nat)) (env':=[.inn v (gA κ (s.e2 k key was now nC fu)),.fro (.int key),.fro (.int was),.fro (.int now),.fro (.int nC),.fro nd,.own (aH fu),.own (.int k),.own (.int (s.ahead k)),.own (.int s.new),.own (.int s.n),.no])
  (lA (p:=[]) (nm:=sI) (es:=[.int (s.ahead k),.int s.new,aH ((s.n:Int)::fu)]) U U U (by decide +kernel) (mapA (gR U (gR U (gR (aL (fQ (aB U U) (by exact Nat.le_of_ble_eq_true U)) U (xM [(s.n:Int)] fu (by simp;omega))) U)))) ((aDR κ W1 b2 hc hn2 (by simp;omega)).trans (by rw[aDS];rfl))) (by exact Nat.le_of_ble_eq_true U) ?_
 refine pF U (aGI (p:=[L2.Step.fld (κ 1) "string"]) (ns:=s.od) U U (yK w2 U) U U h0 h1 (by omega)) U ?_;rw[show dR [L2.Step.fld (κ 1) "string"] (gA κ (s.e2 k key was now nC fu)) (aH (s.od.take k.toNat++s.new::s.od.drop k.toNat))=.ins (κ 1) sI _ from yL w2 rfl];refine pF U (YX (p:=[L2.Step.fld (κ 1) "loose"]) (ns:=s.lo) U U (yK w3 U) U a1) U ?_;rw[yL w3 rfl];refine pF U (Nf (p:=[L2.Step.fld (κ 1) "comings"]) (k:=.inl s.new) (kd:=.int s.new) (d:=.int (s.n+1:Nat)) U U (yK w5 U) U U U U (by rw[B7];have:=W2.coo.2;have:=W2.aIo;omega)) U ?_;rw[yL w5 U,YQ];exact Gx (aBC (oE (aB (bH U U) (aB (bH U U) U)) (by exact Nat.le_of_ble_eq_true U))) ⟨_,.inl U,U⟩
theorem uC(a b c:GS)(env:EN):aX (aX a b) c env=aX a (aX b c) env:=by unfold aX;cases a env<;>rfl
theorem aGJ{e:DE}{f f':FE}(h:f e=ND (.bl NG)):Tg f f' e=ND (.bl NG):=by unfold Tg;rw[bZ h];rfl
theorem Rw(ns:List Int)(h:ns.length≤1000):lZ [aH ns]=ND (.bl NG):=by have hc:=Bu (fi:=lM (aD 0)) (fr:=[]) (fc:=jN) (fe:=dD 1 oU (aA (aD 0) aK)) (e:=rE [.fro (aH ns)]) (ms:=ns) (λ_=>NG) (λ_=>.bl NG) (iV U) h (λm hm=>rfl) λm hm _=>bR (aB U U) U (QC m);rw[N0.mpr λ_ _=>rfl]at hc;exact nO U (gC (jc (Yz U U) ((dU (aB hc U) (MT (λ_:Int=>NG) _)).trans (by rw[M3.mpr λ_ _=>rfl]))))
theorem Ig(s:Wb):cC κ [gA κ s]=ND (aH s.od):=lC U (gC (dU (aB (dB U (nA w2 U)) U) (oR (cV _))))
theorem Ih{s:Wb}(h:lG s):eG κ [gA κ s]=ND (aH (sortI s.lo)):=lC U (gC (dU (aB (dB U (nA w3 U)) U) (xN h.aGH)))
theorem Ub{s:Wb}(h:lG s)(x:Int):lK κ [gA κ s,.int x]=ND (Kq (s.la.get x)):=lC U (gC (aL (dB U (nA w4 U)) U (YM h.lao.1 x)))
def Wb.cv(s:Wb)(r:List Int):Wb:={s with b:=s.b.cP r}
theorem lG.cv{s:Wb}(h:lG s){r:List Int}(hu:r.Nodup)(hm:∀x∈r,0≤x∧x<(s.n:Int))(hn:∀x∈r,x∉s.b.held):lG (s.cv r)∧bkD (s.cv r)=bkD s∧(s.cv r).n=s.n∧(s.cv r).P=s.P:=by
 have e1:=nQ r s.b;obtain⟨e2,e3⟩:=nR r s.b;have en:(s.cv r).n=s.n:=congrArg j4 e1;have eP:(s.cv r).P=s.P:=e2;refine⟨⟨h.bn.cP hu hm hn,by rw[eP];exact h.p1,λk hk=>?_,h.few,h.pos,λk hk=>?_,λk hk=>?_,by rw[en];exact h.lao,by rw[en];exact h.coo,by rw[en];exact h.goo,by rw[en];exact h.coi,by rw[en];exact h.goi,h.DN,h.Kr,h.lon,h.yc,h.key,λk hk=>?_⟩,?_,en,eP⟩
 ·rw[eP];show _<((s.b.cP r).bO.getD _ []).length;rw[e3];exact h.len k hk
 ·rw[eP];show s.rs.getD k []=face (s.b.cP r) _ _∧_;rw[CK h.bn (P6 _) (P6 _) hm];exact h.rcd k hk
 ·rw[eP];show s.la.get k=lastAt (s.b.cP r).asked _ _;rw[e1];exact h.las k hk
 ·show (at_ (s.b.cP r).asked k).thing.length=5;rw[e1];exact h.th k (by rw[←en];exact hk)
 ·unfold bkD;rw[eP];show D.dk bks [_,_,_,_,_,xO (s.b.cP r).asked,_]=_;rw[e1];rfl
def Wb.o1(s:Wb)(k x:Int)(fu:List Int):Wb:=s.wr (s.ahead k) (lnk (s.R (s.ahead k)) ((s.R x).getD 1 0)) (s.ns (s.ahead k) ((s.la.get x).toList++fu))
def Wb.out(s:Wb)(k x:Int)(fu:List Int):Wb:={s.o1 k x fu with od:=s.od.eraseIdx k.toNat,lo:=s.lo++[x],go:=s.go.put x s.n}
theorem ZC{l:List Int}{x:Int}:∀{k:Nat},l.Nodup→l[k]?=ND x→l.idxOf x=k:=by
 induction l with
 | nil=>intro k _ h;cases h
 | cons a l ih=>
  intro k hn h;have hn':=L5.mp hn;cases k with
  | zero=>cases h;exact b6
  | succ k=>have h:l[k]?=ND x:=h;have ne:a≠x:=λz=>hn'.1 (z▸D9 h);rw[Y3,show (a==x)=NH from beq_false_of_ne ne,←ih hn'.2 h];rfl
theorem lG.aJJ{s:Wb}(h:lG s){x:Int}(h0:0≤x)(h1:x<(s.rs.length:Int)):∀m∈(s.la.get x).toList,0≤m∧m<(s.n:Int):=λm hm=>by
 have e:=h.las x.toNat (by omega);rw[U4 h0]at e;rw[e]at hm;cases z:lastAt s.b.asked ((x.toNat%s.P:Nat):Int) ((x.toNat/s.P:Nat):Int)with
 | none=>rw[z]at hm;cases hm
 | some y=>rw[z]at hm;rw[E3.mp hm];have:=Cg z;exact⟨this.1,this.2.1⟩
theorem lG.o1{s:Wb}(h:lG s)(hm:s.n<124){k x:Int}{fu:List Int}(h0:0≤k)(h1:k≤(s.od.length:Int))(x0:0≤x)(x1:x<(s.rs.length:Int))(hn:∀m∈fu,0≤m∧m<(s.n:Int))(hf:fu.length≤5):lG (s.o1 k x fu)∧∀m∈(s.la.get x).toList++fu,0≤m∧m<(s.n:Int):=by
 obtain⟨b1,b2,b3⟩:=h.ahead h0 h1;have hn2:∀m∈(s.la.get x).toList++fu,0≤m∧m<(s.n:Int):=λm hm=>by
  rcases G7.mp hm with z | z
  ·exact h.aJJ x0 x1 m z
  ·exact hn m z
 refine⟨h.wr b2 b3 U (h.aDO hn2) ?_ hm λ_=>rfl,hn2⟩;unfold Wb.ns;rw[C7,C7];have:=wL (s.co.get (s.ahead k));have:=wL (s.la.get x);omega
theorem aEP(s:Wb)(k x:Int)(fu:List Int):(s.out k x fu).n=s.n+1:=by show (s.o1 k x fu).n=_;unfold Wb.o1;exact aBS _ _ _ _
theorem jq(s:Wb)(k x:Int)(fu:List Int):(s.out k x fu).rs.length=s.rs.length:=by show (s.o1 k x fu).rs.length=_;unfold Wb.o1;exact vJ _ _ _ _
theorem lG.out{s:Wb}(h:lG s)(hm:s.n<124){k x:Int}{fu:List Int}(h0:0≤k)(h1:k<(s.od.length:Int))(hx:s.od[k.toNat]?=ND x)(hn:∀m∈fu,0≤m∧m<(s.n:Int))(hf:fu.length≤5):lG (s.out k x fu):=by
  have xm:x∈s.od:=D9 hx;have xr:=h.Kr x xm;obtain⟨w,_⟩:=h.o1 hm h0 (L0 h1) (x:=x) (by omega) xr.2 hn hf;have hi:=ZC h.DN hx;have hlen:=jq s k x fu;have hnn:=aEP s k x fu;refine⟨w.bn,w.p1,w.len,w.few,w.pos,w.rcd,w.las,w.lao,?_,?_,?_,?_,h.DN.sublist (T2 _ _),?_,?_,?_,w.key.sublist (T2 _ _),w.th⟩
  · rw[hnn];exact h.coo.mono (by omega)
  · rw[hnn];exact h.goo.put _ _
  · intro z y e
    have:=h.coi z y e;rw[hnn];omega
  · intro z y e
    have e:(s.go.put x s.n).get z=ND y:=e;rw[Mp.yI h.goo.1]at e;rw[hnn];split at e
    · cases e
      omega
    · have:=h.goi z y e
      omega
  · intro z hz
    rw[hlen];exact h.Kr z (X3 hz)
  · refine O1.mpr ⟨h.lon,by simp,λy hy z hz q=>?_⟩
    rw[E3.mp hz]at q;exact((h.yc y).mp hy).2.2 (q▸xm)
  · intro y
    show y∈s.lo++[x]↔_;rw[hlen];show _↔1≤y∧y<(s.rs.length:Int)∧y∉s.od.eraseIdx k.toNat;rw[←hi,Wo h.DN,G7,E3,h.yc y];constructor
    · rintro(⟨z1,z2,z3⟩ | rfl)
      · exact⟨z1,z2,λq=>z3 q.1⟩
      · exact⟨xr.1,xr.2,λq=>q.2 U⟩
    · rintro⟨z1,z2,z3⟩
      by_cases e:y=x
      · exact .inr e
      · exact .inl ⟨z1,z2,λq=>z3 ⟨q,e⟩⟩
theorem aBV{s:Wb}(h:lG s)(hm:s.n<124){k x:Int}{fu:List Int}{nd:D}(h0:0≤k)(h1:k<(s.od.length:Int))(hx:s.od[k.toNat]?=ND x)(hn:∀m∈fu,0≤m∧m<(s.n:Int))(hf:fu.length≤5)(hnd:(nd=.non∧fu=[])∨nd=aH fu):rY κ [gA κ s,.int x,nd]=ND (.int s.n,gA κ (s.out k x fu)):=by
 refine pD U λv=>?_;unfold Hg;obtain⟨b1,b2,b3⟩:=h.ahead h0 (L0 h1);have xm:x∈s.od:=D9 hx;have xr:=h.Kr x xm;have hi:=ZC h.DN hx;have h5:=h.five (x:=x) (by omega) xr.2;obtain⟨W,hn2⟩:=h.o1 hm h0 (L0 h1) (x:=x) (by omega) xr.2 hn hf;have ek:Ss (s.la.get x::fu.map ND)=(s.la.get x).toList++fu:=by rw[Ie,Bc]
 have hix:Qg (aH s.od) (.int x)=ND (.int k):=by unfold Qg aH;dsimp only;rw[kI,C4,if_pos xm,hi,U4 h0]
 have aIr:=Fq κ (s:=s) hn hnd;rw[Ks]at aIr;refine cN (d:=.int (s.ahead k)) (bL (nm:=sI) U (by decide +kernel) (aB (aL (dB U (nA w2 U)) U hix) U) U (Lq κ h h0 (L0 h1))) (by exact Nat.le_of_ble_eq_true U) ?_;refine cN (d:=mH (s.la.get x::fu.map ND)) (aL (a:=mH [s.la.get x]) (b:=mH (fu.map ND)) (fQ (aB (bL (nm:=sI) U (by decide +kernel) U U (Ub κ h x)) U) (by exact Nat.le_of_ble_eq_true U)) (bL (nm:=sI) U (by decide +kernel) U U aIr) (Ru _ _ (by simp;omega))) (by exact Nat.le_of_ble_eq_true U) ?_;refine Zg (d:=.int s.n) (env':=[.inn v (gA κ (s.o1 k x fu)),.fro (.int x),.fro nd,.own (.int (s.ahead k)),.own (mH (s.la.get x::fu.map ND)),.no]) (lA (p:=[]) (nm:=sI) (es:=[.int (s.ahead k),.int ((s.R x).getD 1 0),mH (s.la.get x::fu.map ND)]) U U U (by decide +kernel) (mapA (gR U (Ai (bH (aL (bL (nm:=sI) U (by decide +kernel) U U (jX κ h (by omega) xr.2)) U (rG (k:=1) (by omega))) U) (gR U U)))) ((QS κ h b2 b3 (by rw[ek];exact hn2) (by simp;omega)).trans (by rw[ek];rfl))) (by exact Nat.le_of_ble_eq_true U) ?_;refine pF U (YX (p:=[L2.Step.fld (κ 1) "string"]) (ns:=s.od) U U (yK w2 U) U xm) U ?_;rw[hi,show dR [L2.Step.fld (κ 1) "string"] (gA κ (s.o1 k x fu)) (aH (s.od.eraseIdx k.toNat))=.ins (κ 1) sI _ from yL w2 rfl];refine pF U (Qp (p:=[L2.Step.fld (κ 1) "loose"]) (ds:=s.lo.map D.int) (d:=.int x) U U (yK w3 U) (bH U U) (by rw[B7];have:=h.aGH;omega)) U ?_;rw[yL w3 U,El];refine pF U (Nf (p:=[L2.Step.fld (κ 1) "goings"]) (k:=.inl x) (kd:=.int x) (d:=.int s.n) U U (yK w6 U) U U U U (by rw[B7];exact U8 (show s.go.k.length≤s.n from h.goo.2) (by omega))) U ?_;rw[yL w6 U,YQ];exact Nh U ⟨_,.inl U,U⟩
section
variable{env env' e1 e2:EN}{b:Bool}{d d2 r:D}{f:FE}{ft:FT}{g1 g2:GS}{gb gc:GB}{gm:GM}{eF eZ:DE}{z y:FE2}{fs:FA2}{es xs ys:List D}{js:List Nat}{i:Nat}{φ:D→D→Option D}
theorem Ii(h1:z eF eZ=ND (.lst xs))(h2:y eF eZ=ND (.lst ys))(hl:xs.length+ys.length≤100000):KC z y eF eZ=ND (.lst (xs++ys)):=by unfold KC;rw[h1,C4,h2,C4];exact if_pos hl
theorem Cp(h:z (rE (zA js env)) (zE (zA js env))=ND d)(hi:i<(zA js env).length):Jo js i z env=.next ((zA js env).set i (.fro d)):=by unfold Jo;rw[h];dsimp only;rw[if_pos hi]
end
section
variable{env env' e1 e2 e0:EN}{b:Bool}{d r:D}{gb:GB}{gm gn:GM}{as:List Ar}{F:List D→Option (D×List D)}{Lz Vk ds':List D}{f:FE}{ds:List D}
end
theorem aBW{ds:List D}{xs:List DV}(h:pL ds=ND xs)(hd:(DV.lst xs).depth≤32):Il (.lst ds) (.lst ds)=ND (.bl NG):=by
 have e:jO (.lst ds)=ND (.lst xs):=by unfold jO;rw[h];rfl
 unfold Il toV;dsimp only;rw[e];dsimp only;rw[if_pos hd,vO]
theorem Rx(ns:List Int)(k:Nat):lV [aH ns,.int k]=ND (.int (ns.getD k 0)):=by
 refine nO U ?_;unfold NB;by_cases c:k<ns.length
 ·have hx:=gW (ns:=ns) (i:=k) (by omega) (by omega);rw[D7]at hx;apply aGm
  ·walk_at "et"
  ·exact decide_eq_true (by omega)
  exact aIa (bH (aL U U hx) U) U
 ·apply aGl
  ·walk_at "et"
  ·exact decide_eq_false (by omega)
  apply aH9;rw[B9,E8 (by omega)];exact gC U
theorem xf(c:Int):∃s:Int,0≤s∧lW [.int c]=ND (.int s):=by
 suffices h:∃d,lW [.int c]=ND d∧∃s:Int,0≤s∧d=.int s by obtain⟨d,h1,s,h0,rfl⟩:=h;exact⟨s,h0,h1⟩
 refine qU U ?_;unfold Qx;have a0:=E6 c (show (2147483629:Int)≠0 by decide);have a1:=E7 c (show (0:Int)<2147483629 by decide)
 walk_at "q"
 have n0:=E6 ((c%2147483629+1)*48271) (show (2147483629:Int)≠0 by decide);have n1:=E7 ((c%2147483629+1)*48271) (show (0:Int)<2147483629 by decide);generalize (c%2147483629+1)*48271%2147483629=n at *;have e50:zH (.int 10) (.int 50)=ND (.int (10 ^ 50)):=nP ⟨by decide,by decide,by decide⟩;have m0:=E6 c (show (10 ^ 50:Int)≠0 by decide);have q0:=E6 (n*n) (show (2147483587:Int)≠0 by decide);refine pC (aL (aL (aL U U (gG (Ek (by omega) (by omega)))) U (bG (by decide))) (aL (aL U (aL U U e50) (bG (by decide))) U (gG (aH8 (by decide) (by decide)))) (bY _ _)) ⟨_,U,_,?_,U⟩;have:=o0 m0 (show (0:Int)≤2147483587 by decide);omega
abbrev bW(s:List (List (List Int))):D:=mZ s
theorem Ij{s:List (List (List Int))}{k:Nat}{p:List (List Int)}(h:s[k]?=ND p):dI (bW s) (.int k)=ND (fU p):=by unfold bW;exact nZ (by omega) (by rw[D7,B8,h];rfl)
theorem aJK{p:List (List Int)}{k:Nat}{t:List Int}(h:p[k]?=ND t):dI (fU p) (.int k)=ND (dTup t):=by unfold fU;exact nZ (by omega) (by rw[D7,B8,h];rfl)
theorem Ku(s:List (List (List Int))):jP [bW s]=ND (.int s.length):=Cj s
def bJ(P R:Nat)(cQ:List (List Int))(bC:List Int):List (List (List Int)):=(D2 P).map λp=>((D2 R).map λr=>cQ.getD (p+P*r) [])++[[bC.getD p 0]]
theorem aBX{P R p r:Nat}(hp:p<P)(hr:r<R):p+P*r<P*R:=by have h1:P*(r+1)≤P*R:=Nat.mul_le_mul_left P hr;rw[Nat.mul_succ]at h1;omega
theorem getD_mem{l:List Int}{k:Nat}(h:k<l.length):l.getD k 0∈l:=by rw[B9,B6 h];exact O9 h
theorem Bd{l:List Int}(h:l.Nodup){i j:Nat}(hi:i<l.length)(hj:j<l.length)(hij:i≠j):l.getD i 0≠l.getD j 0:=by
 rw[B9,B9,B6 hi,B6 hj];show l[i]≠l[j];have hpw:=I0.mp h;rcases J8 i j with q | q
 ·exact hpw i j hi hj q
 ·exact λe=>hpw j i hj hi (by omega) e.symm
theorem jr{s:List (List (List Int))}{b:Int}(h:0<s.length)(h2:s.length≤1000):xQ [bW s,.int b]=ND (dTup [b%s.length,b/s.length]):=by
 refine nO U ?_;unfold ji;have hlen:=Ku s;apply gC;show _=ND (D.tup [.int (b%s.length),.int (b/s.length)])
 walk_at "ev"
theorem aBY{s:List (List (List Int))}{p:List (List Int)}{t:List Int}{i j:Nat}(h1:s[i]?=ND p)(h2:p[j]?=ND t):Al [bW s,dTup [(i:Int),(j:Int)]]=ND (dTup t):=by refine nO U ?_;unfold NK;apply gC;exact bH (aL (aL U (aL U U (uO (by decide) U)) (Ij h1)) (aL U U (uO (by decide) U)) (aJK h2)) (lU _)
theorem aBZ{s:List (List (List Int))}{b:Nat}{p:List (List Int)}{t:List Int}(h:0<s.length)(h2:s.length≤1000)(h1:s[b%s.length]?=ND p)(h3:p[b/s.length]?=ND t):mO [bW s,.int b]=ND (dTup t):=by
 refine nO U ?_;unfold We;have hs:=jr (b:=(b:Int)) h h2;have ht:Al [bW s,dTup [(b:Int)%s.length,(b:Int)/s.length]]=ND (dTup t):=aBY (i:=b%s.length) (j:=b/s.length) h1 h3;apply gC
 walk_at "ev"
theorem zW(P R:Nat)(cQ:List (List Int))(bC:List Int):(bJ P R cQ bC).length=P:=by unfold bJ;rw[B7,D8]
theorem Ni{P R:Nat}{cQ:List (List Int)}{bC:List Int}{p:Nat}(h:p<P):(bJ P R cQ bC)[p]?=ND (((D2 R).map λr=>cQ.getD (p+P*r) [])++[[bC.getD p 0]]):=by unfold bJ;rw[B8,G5 h];rfl
theorem CQ{P R:Nat}{cQ:List (List Int)}{bC:List Int}{q:List (List Int)}(h:q∈bJ P R cQ bC):q.length=R+1:=by unfold bJ at h;obtain⟨p,_,rfl⟩:=G4.mp h;rw[C7,B7,D8];rfl
theorem aB0{P R:Nat}{cQ:List (List Int)}{bC:List Int}{p r:Nat}(hr:r<R):(((D2 R).map λr=>cQ.getD (p+P*r) [])++[[bC.getD p 0]])[r]?=ND (cQ.getD (p+P*r) []):=by rw[G9 (by rw[B7,D8];exact hr),B8,G5 hr];rfl
theorem aB1{P R:Nat}{cQ:List (List Int)}{bC:List Int}{b:Nat}(hP:0<P)(hb:b<P*R):∃q,(bJ P R cQ bC)[b%P]?=ND q∧q[b/P]?=ND (cQ.getD b []):=by have h1:b%P<P:=T9 _ hP;have h2:b/P<R:=U0 hb;refine⟨_,Ni h1,?_⟩;rw[aB0 h2,l8]
def Chain(cQ:List (List Int))(ord:List Int):Prop:=∀k,k≤ord.length→∃key was now nC:Int,cQ[(([0]++ord).getD k 0).toNat]?=ND [key,(ord++[0]).getD k 0,was,now,nC]
theorem aB2{P R:Nat}{cQ:List (List Int)}{bC:List Int}{x:Int}{t:List Int}(hP:0<P)(hP8:P≤8)(h0:0≤x)(h1:x<(P*R:Nat))(ht:cQ[x.toNat]?=ND t):mO [bW (bJ P R cQ bC),.int x]=ND (dTup t):=by obtain⟨q,q1,q2⟩:=aB1 (cQ:=cQ) (bC:=bC) (b:=x.toNat) hP (show x.toNat<P*R by omega);have hl:=zW P R cQ bC;have:=aBZ (s:=bJ P R cQ bC) (b:=x.toNat) (by omega) (by omega) (by rw[hl];exact q1) (by rw[hl];exact q2);rw[U4 h0,mL ht]at this;exact this
theorem Wq{P R:Nat}{cQ:List (List Int)}{bC ord:List Int}(hP:0<P)(hP8:P≤8)(hR:0<R)(hc:Chain cQ ord)(hb:∀x∈ord,1≤x∧x<(P*R:Nat))(hn:ord.Nodup)(hl:ord.length≤64):pQ [bW (bJ P R cQ bC)]=ND (aH ord):=by
 suffices h:∃d,pQ [bW (bJ P R cQ bC)]=ND d∧d=aH ord by obtain⟨d,h1,rfl⟩:=h;exact h1
 have hm:0<P*R:=Z0 hP hR;generalize hbd:P*R=m at *;have nx:∀k,k≤ord.length→∃t:List Int,mO [bW (bJ P R cQ bC),.int (([0]++ord).getD k 0)]=ND (dTup t)∧dI (dTup t) (.int 1)=ND (.int ((ord++[0]).getD k 0)):=λk hk=>by
  obtain⟨key,was,now,nC,h1⟩:=hc k hk;have hx:([0]++ord).getD k 0∈[0]++ord:=getD_mem (by rw[C7];simp;omega);have hx2:0≤([0]++ord).getD k 0∧([0]++ord).getD k 0<((P*R:Nat):Int):=by
   rw[hbd];rcases G7.mp hx with q | q
   ·have:=E3.mp q;omega
   ·have:=hb _ q;omega
  exact⟨_,aB2 hP hP8 hx2.1 hx2.2 h1,uO (by decide) U⟩
 refine qU U ?_;unfold Wf
 walk_at "q"
 obtain⟨t0,ht0,hx0⟩:=nx 0 (N4 _);have aLC:mO [bW (bJ P R cQ bC),.int 0]=ND (dTup t0):=ht0
 walk_at "q"
 refine aDG (n:=ord.length) (λn env=>n≤ord.length∧env=[.fro (bW (bJ P R cQ bC)),.own (.dk ((ord.take (ord.length-n)).map F2) ((ord.take (ord.length-n)).map λ_=>D.bl NG)),.own (.int ((ord++[0]).getD (ord.length-n) 0))]) ⟨C6 _,by rw[g7];rfl⟩ (by omega) ?_ ?_
 ·rintro n env ⟨hnl,rfl⟩;by_cases c:n=0
  ·left;subst c;have e:(ord++[0]).getD (ord.length-0) 0=0:=by rw[f9,B9,N1 (C6 _),g7];rfl
   rw[e];refine WM (bZ ((aL U U (xJ 0 0)).trans ?_));rw[decide_eq_true rfl];rfl
  ·right;generalize hk:ord.length-n=k;have hkl:k<ord.length:=by omega
   have e:(ord++[0]).getD k 0=ord.getD k 0:=by rw[B9,B9,G9 hkl]
   have hx:=hb _ (getD_mem hkl);have hnew:ord.getD k 0∉ord.take k:=by intro z;obtain⟨j,hj,ej⟩:=J6 z;rw[J0]at hj;rw[W4]at ej;have:=Bd hn (i:=j) (j:=k) (by omega) hkl (by omega);rw[B9,B6 (show j<ord.length by omega)]at this;exact this ej
   rw[e];obtain⟨t,ht,hxt⟩:=nx (k+1) hkl;have ht':mO [bW (bJ P R cQ bC),.int (ord.getD k 0)]=ND (dTup t):=ht;refine⟨?_,by omega,_,aIb (aDF (k:=F2 (ord.getD k 0)) U U U U (Ah hnew) U (by rw[B7,J0];omega)) (xG (bH (aL (bR (aB U (aB U U)) U ht') U hxt) U) (by exact Nat.le_of_ble_eq_true U)),by omega,?_⟩
   ·refine(aBp (bZ (b:=NG) ((aL U U (xJ _ _)).trans ?_))).trans (bZ (aL U U ?_))
    ·rw[decide_eq_false (by omega)];rfl
    ·show (ND _:Option D)=_;rw[Ah hnew];rfl
   ·have e2:ord.length-(n-1)=k+1:=by omega
    have e3:ord.take (k+1)=ord.take k++[ord.getD k 0]:=by rw[W3,tL (d:=0) hkl];rfl
    rw[e2,e3,G0,G0];rfl
 ·rintro env n ⟨hnl,rfl⟩ hf;by_cases c:n=0
  ·subst c;rw[f9,T0];apply pC (dU (aB U U) U);exact⟨_,U,Vv ord⟩
  ·exfalso;generalize hk:ord.length-n=k at hf;have hkl:k<ord.length:=by omega
   have e:(ord++[0]).getD k 0=ord.getD k 0:=by rw[B9,B9,G9 hkl]
   have hx:=hb _ (getD_mem hkl);have hnew:ord.getD k 0∉ord.take k:=by intro z;obtain⟨j,hj,ej⟩:=J6 z;rw[J0]at hj;rw[W4]at ej;have:=Bd hn (i:=j) (j:=k) (by omega) hkl (by omega);rw[B9,B6 (show j<ord.length by omega)]at this;exact this ej
   rw[e]at hf;have:(Cu (fB (f2 Gd (aD 2) (fC (.int (0))))) (fB (f2 (Ge NG) (aD 2) (aD 1)))) (rE [.fro (bW (bJ P R cQ bC)),.own (.dk ((ord.take k).map F2) ((ord.take k).map λ_=>D.bl NG)),.own (.int (ord.getD k 0))])=ND NG:=by
    refine(aBp (bZ (b:=NG) ((aL U U (xJ _ _)).trans ?_))).trans (bZ (aL U U ?_))
    ·rw[decide_eq_false (by omega)];rfl
    ·show (ND _:Option D)=_;rw[Ah hnew];rfl
   rw[this]at hf;cases hf
def gK(m:Nat):List Int:=(D2 (m-1)).map λi:Nat=>(1:Int)+(i:Int)
theorem aB3{P R:Nat}{cQ:List (List Int)}{bC ord:List Int}(hP:0<P)(hP8:P≤8)(hR:0<R)(hR8:R≤8)(hc:Chain cQ ord)(hb:∀x∈ord,1≤x∧x<(P*R:Nat))(hn:ord.Nodup)(hl:ord.length≤64) :
    qF [bW (bJ P R cQ bC)]=ND (aH ((gK (P*R)).filter λi=>!decide (i∈ord))):=by
  have aDU:P*R≤8*8:=U6 hP8 hR8;have hm0:0<P*R:=Z0 hP hR;have hstr:=Wq (bC:=bC) hP hP8 hR hc hb hn hl;have QT:oM [bW (bJ P R cQ bC)]=ND (.int ((P*R:Nat):Int)):=by
    refine nO U ?_;unfold Er;apply gC;have hls:=Ku (bJ P R cQ bC);rw[zW]at hls;have h0:(bJ P R cQ bC)[0]?=ND _:=Ni (p:=0) hP;have hix:dI (bW (bJ P R cQ bC)) (.int 0)=ND (fU _):=Ij (k:=0) h0;have hlp:=Hz (((D2 R).map λr=>cQ.getD (0+P*r) [])++[[bC.getD 0 0]]);rw[CQ (D9 h0)]at hlp;rw[U1];have e:(R:Int)=((R+1:Nat):Int)-1:=by omega
    rw[e];exact aL (dU (aB U U) hls) (aL (dU (aB (aL U U hix) U) hlp) U (jT _ _)) (gG (Ek (by omega) (by omega)))
  suffices h:∃d,qF [bW (bJ P R cQ bC)]=ND d∧d=aH ((gK (P*R)).filter λi=>!decide (i∈ord)) by obtain⟨d,h1,rfl⟩:=h;exact h1
  refine qU U ?_;unfold Lh
  walk_at "q"
  generalize P*R=m at *;have e:iY (0+1) ((m:Int)-(0+1)).toNat=(gK m).map D.int:=by unfold iY gK;rw[K5,show ((m:Int)-(0+1)).toNat=m-1 by omega];rfl
  refine pC (d:=aH ((gK m).filter λi=>!decide (i∈ord))) ?_ ⟨_,U,U⟩;refine(Ag (ys:=((iY (0+1) ((m:Int)-(0+1)).toNat).filter λd=>match d with | .int i=>!decide (i∈ord) | _=>NH).map id) (LC (i:=0+1) (j:=m) (aB (aL U U (bY _ _)) (aB (bR (aB U U) U QT) U)) (by decide) (by decide) (by omega) (by omega)) (by rw[Ei];omega) ?_).trans ?_
  · refine Gr (p:=λd=>match d with | .int i=>!decide (i∈ord) | _=>NH) (φ:=id) ?_ ?_
    · intro x hx
      obtain⟨k,hk,rfl⟩:=Ej hx;exact bZ (aL U U (Gv NG _ ord))
    · intro x hx _
      obtain⟨k,hk,rfl⟩:=Ej hx;exact bH U U
  · rw[List.map_id,e,List.filter_map]
    rfl
theorem ZD{i a b:Nat}{f f' g:FE}{env:EN}{s:List (List (List Int))}{q:List (List Int)}{t:List Int}(h1:env[i]?=ND (.own (bW s)))(h2:g (rE env)=ND (.int (a:Int)))(h3:f (rE env)=ND (.int (b:Int)))(h4:f' (rE env)=ND (dTup t))(h5:s[a]?=ND q)(h6:b<q.length) :
  uM i (Tj cW g) f f' env=.next (env.set i (.own (bW (s.set a (q.set b t))))):=by
 have hk:(s.map fU)[a]?=ND (fU q):=by rw[B8,h5];rfl
 have hp:Tj cW g (rE env)=ND [.ix a]:=by unfold Tj cW;rw[C4,h2,C4];dsimp only;rw[if_pos (by omega),D7];rfl
 have hget:eO [.ix a] (bW s)=ND (.lst (q.map dTup)):=by show ((s.map fU)[a]?).bind (eO [])=_;rw[hk];rfl
 have aJL:∀d:List D,dR [.ix a] (bW s) (.lst d)=.lst ((s.map fU).set a (.lst d)):=λd=>by show (match (s.map fU)[a]? with | some c=>_ | none=>_)=_;rw[hk];rfl
 have hix:Up (q.map dTup).length (b:Int)=ND b:=by unfold Up;rw[if_pos (by omega),if_pos (by rw[B7];omega),D7]
 unfold uM;rw[h1,hp,h3,h4];dsimp only;rw[hget];dsimp only;rw[hix];dsimp only;rw[aJL,←R7];show SR.next (env.set i (.own (.lst ((s.map fU).set a (fU (q.set b t))))))=_;rw[←R7];rfl
theorem aB4(ns:List Int):∃P R:Nat,vY [aH ns]=ND (.tup [.int P,.int R])∧1≤P∧P≤8∧1≤R∧R≤8:=by
 suffices hh:∃d,vY [aH ns]=ND d∧∃P R:Nat,d=.tup [.int P,.int R]∧1≤P∧P≤8∧1≤R∧R≤8 by obtain⟨d,e,P,R,rfl,q⟩:=hh;exact⟨P,R,e,q⟩
 refine qU U ?_;unfold Wa;have hcell:=Rx ns 0;generalize ns.getD 0 0=c at hcell;have aGK:lV [aH ns,.int 0]=ND (.int c):=hcell;refine cN (d:=.int c) (bR (aB U (aB U U)) U aGK) (by exact Nat.le_of_ble_eq_true U) ?_;have nn:∀{a m:Int},0<m→m≤8→∃P:Nat,1+a%m=(P:Int)∧1≤P∧P≤8:=λ{a m} h h2=>by have h0:=E6 a (show m≠0 by omega);have h1:=E7 a h;exact⟨(1+a%m).toNat,by omega,by omega,by omega⟩
 refine Gs (bZ (aL (aL (aL U U (eE (by decide) (by decide))) U (bG (by decide))) U (pA _ _))) (λ_=>?_) λ_=>vG ?_
 ·obtain⟨P,e1,p1,p2⟩:=nn (a:=c) (m:=8) (by decide) (by decide);obtain⟨R,e2,r1,r2⟩:=nn (a:=c/240) (m:=8) (by decide) (by decide);exact Vt ((oE (aB (aL U (aL U U (bG (by decide))) (bY _ _)) (aB (aL U (aL (aL U U (eE (by decide) (by decide))) U (bG (by decide))) (bY _ _)) U)) (by exact Nat.le_of_ble_eq_true U)).trans (by rw[e1,e2])) ⟨_,U,P,R,U,p1,p2,r1,r2⟩
 ·obtain⟨P,e1,p1,p2⟩:=nn (a:=c) (m:=5) (by decide) (by decide);obtain⟨R,e2,r1,r2⟩:=nn (a:=c/5) (m:=6) (by decide) (by decide);exact pC ((oE (aB (aL U (aL U U (bG (by decide))) (bY _ _)) (aB (aL U (aL (aL U U (eE (by decide) (by decide))) U (bG (by decide))) (bY _ _)) U)) (by exact Nat.le_of_ble_eq_true U)).trans (by rw[e1,e2])) ⟨_,U,P,R,U,p1,p2,r1,r2⟩
theorem Be(c:Int){k:Int}(h0:0≤k)(h1:k≤100000):∃m:Int,lD [.int c,.int k]=ND (.int m)∧0≤m∧m<2147483587:=by
 suffices hh:∃d,lD [.int c,.int k]=ND d∧∃m:Int,d=.int m∧0≤m∧m<2147483587 by obtain⟨d,e,m,rfl,q⟩:=hh;exact⟨m,e,q⟩
 refine qU U ?_;unfold Wc;have a0:=E6 c (show (2147483629:Int)≠0 by decide);have a1:=E7 c (show (0:Int)<2147483629 by decide);refine cN (aL (aL (aL (aL U U (bG (by decide))) U (bY _ _)) (aL U (aL (aL U U (gG (Ek (by decide) (by decide)))) U (gG (Ek (by omega) (by omega)))) (bY _ _)) (gG (Ek (by omega) (by omega)))) U (bG (by decide))) (by exact Nat.le_of_ble_eq_true U) ?_;generalize hn:(c%2147483629+1)*(48271+2*k*k)%2147483629=n;have n0:0≤n:=by rw[←hn];exact E6 _ (by decide)
 have n1:n<2147483629:=by rw[←hn];exact E7 _ (by decide)
 exact pC (aL (aL U U (gG (Ek (by omega) (by omega)))) U (bG (by decide))) ⟨_,U,_,U,E6 _ (by decide),E7 _ (by decide)⟩
theorem Ry(c:Int){k:Int}(key f:Int)(h0:0≤k)(h1:k≤1000):∃a b e:Int,pP [.int c,.int k,.int key,.int f]=ND (dTup [key,f,a,b,e]):=by
 suffices hh:∃d,pP [.int c,.int k,.int key,.int f]=ND d∧∃a b e:Int,d=dTup [key,f,a,b,e] by obtain⟨d,q,a,b,e,rfl⟩:=hh;exact⟨a,b,e,q⟩
 refine qU U ?_;unfold Qu;obtain⟨p,hp,p0,p1⟩:=Be c (k:=5*k) (by omega) (by omega);obtain⟨m,hm,m0,m1⟩:=Be c (k:=5*k+1) (by omega) (by omega);have pick:∀(l:List Int)(k:Int),0≤k→k<(l.length:Int)→∃y,dI (aH l) (.int k)=ND (.int y):=λl k a b=>⟨_,gW a b⟩
 obtain⟨now,aJM⟩:=pick [0,1,2,m*10 ^ (40:Int).toNat,-1] (p%5) (E6 _ (by decide)) (E7 _ (by decide));obtain⟨was,aJN⟩:=pick [-1,0,5,p] (p/90%4) (E6 _ (by decide)) (E7 _ (by decide));refine cN (d:=.int p) (bR (aB U (aB (aL U U (gG (Ek (by decide) (by decide)))) U)) U hp) (by exact Nat.le_of_ble_eq_true U) ?_;refine cN (d:=.int now) (bH (aL (fQ (aB U (aB U (aB U (aB (aL (bR (aB U (aB (aL (aL U U (gG (Ek (by decide) (by decide)))) U (bY _ _)) U)) U hm) (aL U U (nP ⟨by decide,by decide,by decide⟩)) (gG (Ek (by omega) (by omega)))) (aB (pZ U) U))))) (by exact Nat.le_of_ble_eq_true U)) (aL U U (bG (by decide))) aJM) U) (by exact Nat.le_of_ble_eq_true U) ?_;refine cN (d:=.int 0) U (by exact Nat.le_of_ble_eq_true U) ?_;have fin:∀nC:Int,Qs (λr=>∃d,r=.ret d∧∃a b e:Int,d=dTup [key,f,a,b,e]) (aX (qM (fB (f2 Il (aD 6) (fC (.int 0)))) (dG 5 (fL aDz (aA (aD 5) aK))) fG) (fO (vQ (aA (cO (aD 2)) (aA (cO (aD 3)) (aA (cO (f2 dI (kE (aA (zK (fC (.int 1))) (aA (fC (.int 0)) (aA (fC (.int 5)) (aA (aD 4) aK))))) (f2 eV (f2 sX (aD 4) (fC (.int 90))) (fC (.int 4))))) (aA (cO (aD 5)) (aA (cO (aD 6)) aK))))))) [.fro (.int c),.fro (.int k),.fro (.int key),.fro (.int f),.own (.int p),.own (.int now),.own (.int nC)]):=λnC=>by have last:∀b:Int,Qs (λr=>∃d,r=.ret d∧∃a b e:Int,d=dTup [key,f,a,b,e]) (fO (vQ (aA (cO (aD 2)) (aA (cO (aD 3)) (aA (cO (f2 dI (kE (aA (zK (fC (.int 1))) (aA (fC (.int 0)) (aA (fC (.int 5)) (aA (aD 4) aK))))) (f2 eV (f2 sX (aD 4) (fC (.int 90))) (fC (.int 4))))) (aA (cO (aD 5)) (aA (cO (aD 6)) aK)))))) [.fro (.int c),.fro (.int k),.fro (.int key),.fro (.int f),.own (.int p),.own (.int b),.own (.int nC)]):=λb=>pC (oE (aB (bH U U) (aB (bH U U) (aB (bH (aL (fQ (aB (pZ U) (aB U (aB U (aB U U)))) (by exact Nat.le_of_ble_eq_true U)) (aL (aL U U (eE (by decide) (by decide))) U (bG (by decide))) aJN) U) (aB (bH U U) (aB (bH U U) U))))) (by exact Nat.le_of_ble_eq_true U)) ⟨_,U,_,_,_,U⟩;refine Gs (bZ (aL U U (pA _ _))) (λ_=>?_) λ_=>vG (last now);exact Tp (xG (d:=.int (if now<0 then -now else now)) (dU (aB U U) U) (by exact Nat.le_of_ble_eq_true U)) (last _)
 refine Gs (bZ (aL (aL (aL U U (eE (by decide) (by decide))) U (bG (by decide))) U (pA _ _))) (λ_=>?_) λ_=>vG (fin 0);exact Tp (xG (aL U (aL (aL U U (eE (by decide) (by decide))) U (bG (by decide))) (bY _ _)) (by exact Nat.le_of_ble_eq_true U)) (fin _)
def De(P R:Nat)(rs:List (List Int)):List (List (List Int)):=(D2 P).map λp=>(D2 R).map λr=>rs.getD (p+P*r) []
theorem Kv{P R:Nat}{rs:List (List Int)}{p:Nat}(h:p<P):(De P R rs)[p]?=ND ((D2 R).map λr=>rs.getD (p+P*r) []):=by unfold De;rw[B8,G5 h];rfl
theorem aB5{P x:Nat}{p r:Nat}(hp:p<P)(h:p+P*r=x):x%P=p∧x/P=r:=by subst h;exact⟨by rw[Nat.add_mul_mod_self_left,Nat.mod_eq_of_lt hp],by rw[Nat.add_mul_div_left _ _ (by omega),Nat.div_eq_of_lt hp,Q4]⟩
theorem aB6{P R x:Nat}{rs:List (List Int)}{t:List Int}(hP:0<P)(h:x<P*R)(hl:rs.length=P*R):(De P R rs).set (x%P) (((D2 R).map λr=>rs.getD (x%P+P*r) []).set (x/P) t)=De P R (rs.set x t):=by
 have a:=T9 x hP;have b:x/P<R:=U0 h;apply K6;intro p;rw[F8,show (De P R rs).length=P by unfold De;rw[B7,D8]];by_cases hp:p<P
 ·rw[Kv hp,Kv hp];by_cases e:x%P=p
  ·rw[if_pos e,if_pos a];congr 1;apply K6;intro r;rw[F8,B7,D8,B8,B8];by_cases hr:r<R
   ·rw[G5 hr,G1,G1,qK _ _ _ _ _ (by omega)];by_cases e2:x/P=r
    ·rw[if_pos e2,if_pos b,if_pos (by rw[←e,←e2];exact(l8 x P).symm)]
    ·rw[if_neg e2,if_neg λz=>e2 (aB5 hp z.symm).2,e]
   ·rw[E8 (by rw[D8];omega)];rw[if_neg (by omega)];rfl
  ·rw[if_neg e];congr 1;apply L4;intro r hr;have:=aBX hp (F5.mp hr);rw[qK _ _ _ _ _ (by omega),if_neg λz=>e (aB5 hp z.symm).1]
 ·rw[if_neg (by omega)];unfold De;rw[B8,B8,E8 (by rw[D8];omega)];rfl
theorem QV{i P R x:Nat}{f f' g:FE}{env:EN}{rs:List (List Int)}{t:List Int}(hP:0<P)(h:x<P*R)(hl:rs.length=P*R)(h1:env[i]?=ND (.own (bW (De P R rs))))(h2:g (rE env)=ND (.int ((x:Int)%(P:Int))))(h3:f (rE env)=ND (.int ((x:Int)/(P:Int))))(h4:f' (rE env)=ND (dTup t)) :
  uM i (Tj cW g) f f' env=.next (env.set i (.own (bW (De P R (rs.set x t))))):=by
 rw[←j9]at h2;rw[←k7]at h3;rw[ZD (a:=x%P) (b:=x/P) h1 h2 h3 h4 (Kv (T9 x hP)) (by rw[B7,D8];exact U0 h),aB6 hP h hl]
structure Built(P R:Nat)(rs:List (List Int))(od:List Int):Prop where
 p1:1≤P
 p8:P≤8
 r1:1≤R
 r8:R≤8
 len:rs.length=P*R
 five:∀k,k<P*R→(rs.getD k []).length=5
 DN:od.Nodup
 Kr:∀x∈od,1≤x∧x<(P*R:Nat)
 chain:Chain rs od
 key:od.Pairwise λx y=>(rs.getD x.toNat []).getD 0 0<(rs.getD y.toNat []).getD 0 0
theorem aB7{ns:List Int}:∃(P R:Nat)(rs:List (List Int))(bC od:List Int),wA [aH ns]=ND (bW (bJ P R rs bC))∧Built P R rs od:=by
 suffices hh:∃d,wA [aH ns]=ND d∧∃(P R:Nat)(rs:List (List Int))(bC od:List Int),d=bW (bJ P R rs bC)∧Built P R rs od by obtain⟨d,e,P,R,rs,bC,od,rfl,q⟩:=hh;exact⟨P,R,rs,bC,od,e,q⟩
 refine qU U ?_;unfold Wd;obtain⟨P,R,hsz,p1,p8,r1,r8⟩:=aB4 ns;have hm0:0<P*R:=Z0 p1 r1;have aDU:P*R≤8*8:=U6 p8 r8;have hPR:((P:Int)*(R:Int))=((P*R:Nat):Int):=(U1 P R).symm;generalize hM:P*R=M at *;have hP0:(0:Int)<P:=by omega
 have hP9:(P:Int)<1073741824:=by omega
 have hmul:∀{env:EN},(rE env)[1]?=ND (ND (.int (P:Int)))→(rE env)[2]?=ND (ND (.int (R:Int)))→f2 sW (aD 1) (aD 2) (rE env)=ND (.int (M:Int)):=λh1 h2=>(aL (cI h1) (cI h2) (gG (Ek (by omega) (by omega)))).trans (by rw[hPR]);refine aIf (ds:=[.int P,.int R]) (bR (aB U U) U hsz) U U ?_;have hsp:fL rR (aA (fC (.int 1)) (aA (f2 sW (aD 1) (aD 2)) aK)) (rE (uN ([aH ns].map SD.fro++E4 (11-1) SD.no) [1,2] [.int P,.int R]))=ND (aH (gK M)):=by refine(dU (aB U (aB (hmul U U) U)) (show rR [.int 1,.int (M:Int)]=ND _ from if_pos ⟨by decide,by decide,by omega,by omega⟩)).trans ?_;unfold aH gK;rw[K5,show ((M:Int)-1).toNat=M-1 by omega];rfl
 refine cN hsp (by exact Nat.le_of_ble_eq_true U) ?_;refine cN (d:=aH [0]) U (by exact Nat.le_of_ble_eq_true U) ?_;have hc1:lV [aH ns,.int 1]=ND (.int (ns.getD 1 0)):=Rx ns 1;have hc2:lV [aH ns,.int 2]=ND (.int (ns.getD 2 0)):=Rx ns 2;generalize ns.getD 1 0=c1 at hc1;generalize ns.getD 2 0=c at hc2;have b0:=E6 c1 (show (M:Int)≠0 by omega);have b1:=E7 c1 (show 0<(M:Int) by omega);refine Zb (n:=(c1%(M:Int)).toNat) (λk env=>∃(sp bs:List Int)(v:SD),env=[.fro (aH ns),.own (.int P),.own (.int R),.own (aH sp),.own (aH (0::bs)),v,.no,.no,.no,.no,.no]∧bs.length=k∧(bs++sp).Perm (gK M)) (KZ (aB (aL (bR (aB U (aB U U)) U hc1) (hmul U U) (bG (by omega))) U) (by omega) (by omega)) ⟨gK M,[],_,U,U,Q3 _⟩ ?_ ?_
 ·rintro k env hk ⟨sp,bs,v,rfl,hb,hp⟩;refine⟨by walk_at "lt", ?_⟩;have hlen:=hp.length_eq;rw[C7,hb,show (gK M).length=M-1 by unfold gK;rw[B7,D8]]at hlen;obtain⟨m,hm,_,_⟩:=Be c1 (k:=(k:Int)) (by omega) (by omega);have i0:=E6 m (show (sp.length:Int)≠0 by omega);have i1:=E7 m (show 0<(sp.length:Int) by omega);refine⟨_,Za (ns:=0::bs) (ms:=sp) (k:=m%(sp.length:Int)) U U (aL (bR (aB (bR (aB U (aB U U)) U hc1) (aB U U)) U hm) (dU (aB U U) (lB _)) (bG (by omega))) (by decide) (by simp;omega) (by omega) i0 i1,sp.eraseIdx (m%(sp.length:Int)).toNat,bs++[sp.getD (m%(sp.length:Int)).toNat 0],_,U,by rw[C7,hb];rfl,?_⟩;rw[P8];exact(Z7 bs (Qn sp _ 0 (by omega))).trans hp
 rintro env ⟨sp,bs,v5,rfl,hb,hp⟩;have hnd:(bs++sp).Nodup:=hp.nodup_iff.mpr (by
  unfold gK;refine j0 _ (λa b (h:a≠b)=>by omega) k8)
 have hmem:∀x,x∈bs++sp→1≤x∧x<(M:Int):=λx hx=>by have:=hp.mem_iff.mp hx;unfold gK at this;obtain⟨i,hi,rfl⟩:=G4.mp this;have:=F5.mp hi;omega
 have hbn:=(O1.mp hnd).1;have hbm:∀x∈bs,1≤x∧x<(M:Int):=λx hx=>hmem x (N8 _ hx);have hsm:∀x∈sp,1≤x∧x<(M:Int):=λx hx=>hmem x (G3 _ hx);have aLG:sp.length≤M:=by have:=hp.length_eq;rw[C7,show (gK M).length=M-1 by unfold gK;rw[B7,D8]]at this;omega
 have hbl:bs.length<M:=by omega
 generalize aGL:E4 M ([0,0,-1,-1,0]:List Int)=rs0;have hl0:rs0.length=M:=by rw[←aGL,P9]
 have aIs:gF (tD (aA (aD 1) aK)) [2] jN (gF (tD (aA (aD 1) aK)) [] jN (vQ (aA (fC (.int 0)) (aA (fC (.int 0)) (aA (zK (fC (.int 1))) (aA (zK (fC (.int 1))) (aA (fC (.int 0)) aK))))))) (rE [.fro (aH ns),.own (.int P),.own (.int R),.own (aH sp),.own (aH (0::bs)),v5,.no,.no,.no,.no,.no])=ND (bW (De P R rs0)):=by
  refine(Em (n:=P) (φ:=λp=>fU ((D2 R).map λr=>rs0.getD (p+P*r) [])) (Gu (aB U U) (by omega)) (by omega) λp hp=>?_).trans ?_
  ·refine(Em (n:=R) (φ:=λr=>dTup (rs0.getD (p+P*r) [])) (Gu (aB U U) (by omega)) (by omega) λr hr=>?_).trans ?_
   ·have:=aBX hp hr;rw[←aGL,B9,P4,if_pos (by omega)];exact oE (aB U (aB U (aB (pZ U) (aB (pZ U) (aB U U))))) (by exact Nat.le_of_ble_eq_true U)
   ·unfold fU;rw[K5];rfl
  ·show _=ND (D.lst ((De P R rs0).map fU));unfold De;rw[K5];rfl
 refine cN aIs (by exact Nat.le_of_ble_eq_true U) ?_;refine cN (d:=.int c) (bR (aB U (aB U U)) U hc2) (by exact Nat.le_of_ble_eq_true U) ?_;have p9:(0:Int)<10 ^ (9:Int).toNat:=P7 (by decide);have p58:(0:Int)<10 ^ (58:Int).toNat:=P7 (by decide);have hpw:∀n:Int,0≤n→n<100→zH (.int 10) (.int n)=ND (.int (10 ^ n.toNat)):=λn a b=>nP ⟨a,by omega,by omega⟩;have f5:∀{l:List (List Int)} {x:Nat} {t:List Int},l.length=M→x<M→t.length=5→(∀k,k<M→(l.getD k []).length=5)→∀k,k<M→((l.set x t).getD k []).length=5:=λ{l x t} h1 h2 h3 h4 k hk=>by
  rw[qK _ _ _ _ _ (by omega)];split
  ·exact h3
  ·exact h4 k hk
 refine aBy (xs:=sp.map D.int) (λk env=>∃(rs:List (List Int))(v:SD),env=[.fro (aH ns),.own (.int P),.own (.int R),.fro (aH sp),.own (aH (0::bs)),v5,.own (bW (De P R rs)),.own (.int c),v,.no,.no]∧rs.length=M∧∀k,k<M→(rs.getD k []).length=5) U (iV U) ⟨rs0,_,U,hl0,λk hk=>by rw[←aGL,B9,P4,if_pos hk];rfl⟩ ?_ ?_
 ·rintro k x env hx ⟨rs,v,rfl,hl,h5⟩;refine⟨by walk_at "lt", ?_⟩;rw[B8]at hx;obtain⟨y,hy,rfl⟩:=lN hx;have ym:=hsm y (D9 hy);obtain⟨a,b,e,hrec⟩:=Ry c (k:=y) (c%10 ^ (9:Int).toNat) (y*y%(M:Int)) (by omega) (by omega);have ye:((y.toNat:Nat):Int)=y:=by omega
  refine⟨_,QV (x:=y.toNat) (t:=[c%10 ^ (9:Int).toNat,y*y%(M:Int),a,b,e]) p1 (by rw[hM];omega) (by rw[hM];exact hl) U (by rw[ye];exact aL U U (bG hP0)) (by rw[ye];exact aL U U (eE hP0 hP9)) (bR (aB U (aB U (aB (aL U (aL U U (hpw 9 (by decide) (by decide))) (bG p9)) (aB (aL (aL U U (gG (Ek (by omega) (by omega)))) (hmul U U) (bG (by omega))) U)))) U hrec),_,_,U,by rw[J5];exact hl,f5 hl (by omega) U h5⟩
 rintro env ⟨rs1,v8,rfl,hl1,h51⟩;refine cN (d:=.int (c%10 ^ (58:Int).toNat)) (aL U (aL U U (hpw 58 (by decide) (by decide))) (bG p58)) (by exact Nat.le_of_ble_eq_true U) ?_;have hb0:∀i,i<bs.length+1→0≤(0::bs).getD i 0∧(0::bs).getD i 0<(M:Int):=λi hi=>by
  have:=getD_mem (l:=0::bs) (k:=i) (by simp;omega);rcases C9.mp this with z | z
  ·rw[z];omega
  ·have:=hbm _ z;omega
 have aGM:(0::bs).Nodup:=L5.mpr ⟨λz=>by have:=hbm 0 z;omega,hbn⟩;refine Zb (n:=bs.length+1) (λk env=>∃(rs:List (List Int))(key:Int)(v5 v8:SD),env=[.fro (aH ns),.own (.int P),.own (.int R),.fro (aH sp),.own (aH (0::bs)),v5,.own (bW (De P R rs)),.own (.int c),v8,.own (.int key),.no]∧rs.length=M∧(∀k,k<M→(rs.getD k []).length=5) ∧
   (∀i,i<k→∃y was now nC:Int,rs[((0::bs).getD i 0).toNat]?=ND [y,(bs++[0]).getD i 0,was,now,nC]∧y<key)∧(∀i j,i<j→j<k→(rs.getD ((0::bs).getD i 0).toNat []).getD 0 0<(rs.getD ((0::bs).getD j 0).toNat []).getD 0 0)) (Gu (aB ((dU (aB U U) (lB _)).trans U) U) (by omega)) ⟨rs1,_,_,_,U,hl1,h51,λi hi=>absurd hi (L7 _),λi j _ hj=>absurd hj (L7 _)⟩ ?_ ?_
 ·rintro k env hk ⟨rs,key,w5,w8,rfl,hl,h5,hch,hke⟩;refine⟨by walk_at "lt", ?_⟩;obtain⟨x0,x1⟩:=hb0 k hk;generalize hx:(0::bs).getD k 0=x at *;have xe:((x.toNat:Nat):Int)=x:=by omega
  have ix:dI (aH (0::bs)) (.int (k:Int))=ND (.int x):=(gW (by omega) (by simp;omega)).trans (by rw[D7,hx]);have ixn:dI (aH ((0::bs)++[0])) (.int ((k:Int)+1))=ND (.int ((bs++[0]).getD k 0)):=(gW (by omega) (by simp;omega)).trans (by rw[show ((k:Int)+1).toNat=k+1 by omega];rfl);obtain⟨a,b,e,hrec⟩:=Ry c (k:=(k:Int)+100) key ((bs++[0]).getD k 0) (by omega) (by omega);obtain⟨m,hm,m0,m1⟩:=Be c (k:=(k:Int)+7) (by omega) (by omega);refine cN (d:=.int x) (bH (aL U U ix) U) (by exact Nat.le_of_ble_eq_true U) ?_;refine Tp (QV (x:=x.toNat) (t:=[key,(bs++[0]).getD k 0,a,b,e]) p1 (by rw[hM];omega) (by rw[hM];exact hl) U (by rw[xe];exact aL U U (bG hP0)) (by rw[xe];exact aL U U (eE hP0 hP9)) (bR (aB U (aB (aL U U (bY _ _)) (aB U (aB (aL (aL U (fQ (aB U U) (by exact Nat.le_of_ble_eq_true U)) (xM (0::bs) [0] (by simp;omega))) (aL U U (bY _ _)) ixn) U)))) U hrec)) ?_;have c20:=E6 c (show (2:Int)≠0 by decide);have c21:=E7 c (show (0:Int)<2 by decide);have pos:∃z:Int,0≤z∧dI (aH [1,10 ^ (40:Int).toNat]) (.int (c%2))=ND (.int z):=by
   rcases(show c%2=0∨c%2=1 by omega)with z | z
   ·exact⟨1,by decide,by rw[z];rfl⟩
   ·exact⟨10 ^ (40:Int).toNat,L0 (P7 (by decide)),by rw[z];rfl⟩
  obtain⟨z,z0,hz⟩:=pos;have mm:=E6 m (show (3:Int)≠0 by decide);have mm1:=E7 m (show (0:Int)<3 by decide);have hst:0≤m%3*z:=o0 mm z0;refine aGn (d:=.int (key+1+m%3*z)) (aL (aL U U (bY _ _)) (aL (aL (bR (aB U (aB (aL U U (bY _ _)) U)) U hm) U (bG (by decide))) (aL (fQ (aB U (aB (aL U U (hpw 40 (by decide) (by decide))) U)) (by exact Nat.le_of_ble_eq_true U)) (aL U U (bG (by decide))) hz) (gG (Ek (by omega) (by omega)))) (bY _ _)) (by exact Nat.le_of_ble_eq_true U) ⟨_,U,_,_,_,_,U,by rw[J5];exact hl,f5 hl (by omega) U h5,?_,?_⟩
  ·intro i hi;rcases J8 i k with q | q
   ·obtain⟨y,was,now,nC,h1,h2⟩:=hch i q;have hi0:=hb0 i (by omega);have ne:(0::bs).getD i 0≠x:=by rw[←hx];exact Bd aGM (by simp;omega) (by simp;omega) (by omega)
    exact⟨y,was,now,nC,by rw[T5 (by omega)];exact h1,by omega⟩
   ·have:i=k:=by omega
    subst this;rw[hx];exact⟨key,a,b,e,by rw[G6 (by omega)],by omega⟩
  ·intro i j hij hj;have hi0:=hb0 i (by omega);have nei:(0::bs).getD i 0≠x:=by rw[←hx];exact Bd aGM (by simp;omega) (by simp;omega) (by omega)
   rw[qK _ _ _ _ _ (by omega),if_neg (by omega)];rcases J8 j k with q | q
   ·have hj0:=hb0 j (by omega);have nej:(0::bs).getD j 0≠x:=by rw[←hx];exact Bd aGM (by simp;omega) (by simp;omega) (by omega)
    rw[qK _ _ _ _ _ (by omega),if_neg (by omega)];exact hke i j hij q
   ·have:j=k:=by omega
    subst this;rw[hx,qK _ _ _ _ _ (by omega),if_pos rfl];obtain⟨y,was,now,nC,h1,h2⟩:=hch i hij;rw[mL h1];exact h2
 rintro env ⟨rs,key,w5,w8,rfl,hl,h5,hch,hke⟩;refine Zb (n:=P) (λk env=>∃(se:List Int)(v:SD),env=[.fro (aH ns),.own (.int P),.own (.int R),.fro (aH sp),.own (aH (0::bs)),w5,.own (bW ((D2 P).map λp=>((D2 R).map λr=>rs.getD (p+P*r) [])++(if p<k then [[se.getD p 0]]else []))),.own (.int c),w8,.own (.int key),v]∧se.length=k) (Gu (aB U U) (by omega)) ⟨[],_,by
   have:(D2 P).map (λp=>((D2 R).map λr=>rs.getD (p+P*r) [])++(if p<0 then [[([]:List Int).getD p 0]]else []))=De P R rs:=by unfold De;apply L4;intro p _;rw[if_neg (L7 _),F9]
   rw[this],U⟩ ?_ ?_
 ·rintro k env hk ⟨se,v,rfl,hse⟩;refine⟨by walk_at "lt", ?_⟩;obtain⟨m,hm,_,_⟩:=Be c (k:=(k:Int)+70) (by omega) (by omega);generalize hS:((D2 P).map λp=>((D2 R).map λr=>rs.getD (p+P*r) [])++(if p<k then [[se.getD p 0]]else []))=S;have hk2:S[k]?=ND ((D2 R).map λr=>rs.getD (k+P*r) []):=by rw[←hS,B8,G5 hk,G1,if_neg (K7 _),F9]
  have hgp:eO [.ix k] (bW S)=ND (.lst (((D2 R).map λr=>rs.getD (k+P*r) []).map dTup)):=Ko (by rw[B8,hk2];rfl);refine⟨_,Qp (p:=[.ix k]) (d:=dTup [m%10]) U (by
   show Tj cW (aD 10) _=_;rw[BX (k:=(k:Int)) U U (by omega),D7]
   rfl) hgp (oE (aB (aL (bR (aB U (aB (aL U U (bY _ _)) U)) U hm) U (bG (by decide))) U) (by exact Nat.le_of_ble_eq_true U)) (by rw[B7,B7,D8];omega),se++[m%10],.fro (.int k),?_,by rw[C7,hse];rfl⟩
  rw[show dR [.ix k] (bW S) (.lst (((D2 R).map λr=>rs.getD (k+P*r) []).map dTup++[dTup [m%10]]))=bW ((D2 P).map λp=>((D2 R).map λr=>rs.getD (p+P*r) [])++(if p<k+1 then [[(se++[m%10]).getD p 0]]else []))from ?_]
  ·rfl
  refine(Rt (y:=fU _) (by rw[B8,hk2];rfl)).trans ?_;refine congrArg D.lst (?_:(S.map fU).set k _=_);apply K6;intro p;rw[F8,B7,←hS,B7,D8,B8,B8,B8,B8];by_cases hp:p<P
  ·rw[G5 hp];by_cases e:k=p
   ·subst e;rw[if_pos U,if_pos hp,G1,G1,if_pos (by omega),B9,N1 (by omega),hse,g7];unfold fU;rw[G0];rfl
   ·rw[if_neg e,G1,G1,G1,G1];by_cases q:p<k
    ·rw[if_pos q,if_pos (by omega),B9,B9,G9 (by omega)]
    ·rw[if_neg q,if_neg (by omega)]
  ·rw[if_neg (by omega),E8 (by rw[D8];omega)];rfl
 rintro env ⟨se,v,rfl,hse⟩;refine aBx U ⟨_,U,P,R,rs,se,bs,?_,⟨p1,p8,r1,r8,by rw[hM];exact hl,by rw[hM];exact h5,hbn,by rw[hM];exact hbm,?_,?_⟩⟩
 ·refine congrArg mZ ?_;unfold bJ;apply L4;intro p hp;rw[if_pos (F5.mp hp)]
 ·intro k hk;obtain⟨y,was,now,nC,h1,_⟩:=hch k (by omega);exact⟨y,was,now,nC,h1⟩
 ·rw[I0];intro i j hi hj hij;have:=hke (i+1) (j+1) (by omega) (by omega);have ei:(0::bs).getD (i+1) 0=bs[i]:=by rw[U3,B9,B6 hi];rfl
  have ej:(0::bs).getD (j+1) 0=bs[j]:=by rw[U3,B9,B6 hj];rfl
  rw[ei,ej]at this;exact this
theorem aDV{P R:Nat}{cQ:List (List Int)}{bC:List Int}(hP:0<P)(hP8:P≤8):oM [bW (bJ P R cQ bC)]=ND (.int ((P*R:Nat):Int)):=by
 refine nO U ?_;unfold Er;apply gC;have hls:=Ku (bJ P R cQ bC);rw[zW]at hls;have h0:(bJ P R cQ bC)[0]?=ND _:=Ni (p:=0) hP;have hix:dI (bW (bJ P R cQ bC)) (.int 0)=ND (fU _):=Ij (k:=0) h0;have hlp:=Hz (((D2 R).map λr=>cQ.getD (0+P*r) [])++[[bC.getD 0 0]]);rw[CQ (D9 h0)]at hlp;rw[U1];have e:(R:Int)=((R+1:Nat):Int)-1:=by omega
 rw[e];exact aL (dU (aB U U) hls) (aL (dU (aB (aL U U hix) U) hlp) U (jT _ _)) (gG (Ek (by omega) (by omega)))
def Wb.first(P R:Nat)(rs:List (List Int))(bC od:List Int):Wb:=⟨⟨bJ P R rs bC,[],[],[],[]⟩,rs,od,(gK (P*R)).filter λi=>!decide (i∈od),⟨[],[]⟩,⟨[],[]⟩,⟨[],[]⟩⟩
section
variable{P R:Nat}{rs:List (List Int)}{bC od:List Int}
theorem Built.ok(h:Built P R rs od):lG (Wb.first P R rs bC od):=by
 have aDU:P*R≤8*8:=U6 h.p8 h.r8;have hm0:0<P*R:=Z0 h.p1 h.r1;have hpl:(Wb.first P R rs bC od).P=P:=zW _ _ _ _;have box:∀k,k<P*R→∃q,(bJ P R rs bC)[k%P]?=ND q∧q[k/P]?=ND (rs.getD k []):=λk hk=>aB1 h.p1 hk;have hb:∀k,k<rs.length→k<P*R:=λk hk=>by rw[←h.len];exact hk
 refine⟨Fj.init (by rw[zW];exact h.p8),by rw[hpl];exact h.p1,?_,?_,?_,?_,?_,⟨U,C6 _⟩,⟨U,C6 _⟩,⟨U,C6 _⟩,nofun,nofun,h.DN,?_,?_,?_,h.key,λk hk=>absurd hk (L7 _)⟩
 ·intro k hk;rw[hpl];obtain⟨q,q1,q2⟩:=box k (hb k hk);show k/P<((bJ P R rs bC).getD (k%P) []).length;rw[mL q1];exact(D1.mp q2).1
 ·show rs.length≤64;rw[h.len];exact aDU
 ·show 0<rs.length;rw[h.len];exact hm0
 ·intro k hk;rw[hpl];obtain⟨q,q1,q2⟩:=box k (hb k hk);refine⟨?_,h.five k (hb k hk)⟩;show rs.getD k []=((bJ P R rs bC).getD ((k%P:Nat):Int).toNat []).getD ((k/P:Nat):Int).toNat [];rw[D7,D7,mL q1,mL q2]
 ·intro k hk;rfl
 ·intro x hx;show 1≤x∧x<(rs.length:Int);rw[h.len];exact h.Kr x hx
 ·refine List.Nodup.sublist R0 ?_;unfold gK;exact j0 _ (λa b (h:a≠b)=>by omega) k8
 ·intro x;show x∈(gK (P*R)).filter _↔1≤x∧x<(rs.length:Int)∧x∉od;rw[h.len,N7];unfold gK;rw[G4];constructor
  ·rintro⟨⟨i,hi,rfl⟩,z⟩
   have:=F5.mp hi;exact⟨by omega,by omega,by simpa using z⟩
  ·rintro⟨z1,z2,z3⟩
   exact⟨⟨(x-1).toNat,F5.mpr (by omega),by omega⟩,by simpa using z3⟩
theorem Wr{Pr:SR→Prop}{v:V}{C:A7}{nm:List Str}{ds:List D}{x:Str}{f:FE}{g:GS}{d:D}{rest:EN}(h:f (rE (.own (.ins C nm ds)::rest))=ND d)(hx:posK nm x=none)(hl:nm.length<900)(k:Qs Pr (g (.inn v (.ins C (nm++[x]) (ds++[d]))::rest))):Qs Pr (aX (jL 0 (vV C 0 cW x f)) g (.inn v (.ins C nm ds)::rest)):=pF U (uA (p:=[]) U U U h hl hx) U k
theorem aGN{Pr:SR→Prop}{v:V}{C:A7}{nm:List Str}{ds:List D}{x:Str}{f:FE}{d:D}{rest:EN}(h:f (rE (.own (.ins C nm ds)::rest))=ND d)(hx:posK nm x=none)(hl:nm.length<900)(k:Pr (.next (.inn v (.ins C (nm++[x]) (ds++[d]))::rest))):Qs Pr (jL 0 (vV C 0 cW x f) (.inn v (.ins C nm ds)::rest)):=WW U (uA (p:=[]) U U U h hl hx) U k
variable(κ:Nat→A7)
theorem aB8(h:Built P R rs od):qG κ [.ins (κ 1) [] [],bW (bJ P R rs bC)]=ND (.non,gA κ (Wb.first P R rs bC od)):=by
 refine pD U λv=>?_;have aDU:P*R≤8*8:=U6 h.p8 h.r8;have h64:od.length≤64:=by
  have:=pO (P*R) od h.DN λx hx=>by have:=h.Kr x hx;omega
  omega
 have hl:=zW P R rs bC;have QT:=aDV (R:=R) (cQ:=rs) (bC:=bC) h.p1 h.p8;have hbn:tU κ [.ins (κ 0) [] [],bW (bJ P R rs bC)]=_:=aDK κ (uB:=bJ P R rs bC) (by rw[hl];exact h.p8);have hstr:=Wq (bC:=bC) h.p1 h.p8 h.r1 h.chain h.Kr h.DN h64;have hlo:=aB3 (bC:=bC) h.p1 h.p8 h.r1 h.r8 h.chain h.Kr h.DN h64;have hso:∀k:Nat,xQ [bW (bJ P R rs bC),.int (k:Int)]=ND (dTup [((k%P:Nat):Int),((k/P:Nat):Int)]):=λk=>(jr (by rw[hl];exact h.p1) (by rw[hl];have:=h.p8;omega)).trans (by rw[hl,j9,k7]);have hwv:gA κ (Wb.first P R rs bC od)=.ins (κ 1) sI [dZ (κ 0) ⟨bJ P R rs bC,[],[],[],[]⟩,wz P (P*R),aH od,aH ((gK (P*R)).filter λi=>!decide (i∈od)),Sq ⟨[],[]⟩,Sq ⟨[],[]⟩,Sq ⟨[],[]⟩]:=by unfold gA Wb.P Wb.first;dsimp only;rw[hl,h.len]
 rw[hwv];clear hwv;generalize bW (bJ P R rs bC)=st at *;generalize dZ (κ 0) ⟨bJ P R rs bC,[],[],[],[]⟩=bd at *;generalize ((gK (P*R)).filter λi=>!decide (i∈od))=lo at *
 suffices hh:Qs (JN .non (.ins (κ 1) sI [bd,wz P (P*R),aH od,aH lo,Sq ⟨[],[]⟩,Sq ⟨[],[]⟩,Sq ⟨[],[]⟩]) v) (Am κ [.inn v (.ins (κ 1) [] []),.fro st])from hh
 unfold Am;refine Wr (d:=bd) (Qq (aB U U) hbn) U (by decide) ?_;refine Wr (d:=wz P (P*R)) (Em (n:=P*R) (Gu (aB (bR (aB U U) U QT) U) (by omega)) (by omega) λk hk=>bR (aB U (aB U U)) U (hso k)) (by decide +kernel) (by decide) ?_;refine Wr (d:=aH od) (bR (aB U U) U hstr) (by decide +kernel) (by decide) ?_;refine Wr (d:=aH lo) (bR (aB U U) U hlo) (by decide +kernel) (by decide) ?_;refine Wr (d:=Sq ⟨[],[]⟩) U (by decide +kernel) (by decide) ?_;refine Wr (d:=Sq ⟨[],[]⟩) U (by decide +kernel) (by decide) ?_;exact aGN (d:=Sq ⟨[],[]⟩) U (by decide +kernel) (by decide) ⟨_,.inr ⟨U,U⟩,U⟩
end
theorem xg{b:Bn}(h:b.bO.length≤8):qH κ [dZ (κ 0) b]=ND (mZ b.bO):=lC U (gC (Br (xs:=b.bO) (ψ:=fU) (φ:=fU) (iV (dB U Ce)) (by omega) λx _=>dU (aB U U) (oR (Qm λd hd=>by
  obtain⟨t,_,rfl⟩:=G4.mp hd;exact lU t))))
theorem Nj(l:List Int):Gd (aH l) (.lst [])=ND (.bl (!decide (l=[]))):=MP l []
theorem Rz{s:Wb}(h:lG s)(K:Int):cB κ [gA κ s,.int K]=ND (Kq (s.od.find? λx=>decide (s.key x=K))):=by
 have hlp:∀(l:List Int)(v2:SD),(∀x∈l,x∈s.od)→∃v',Dy 2 (qM (fB (f2 Il (f2 dI (bK (κ 1) "record_of" 2 (aW κ) (aD 0) (aA (aD 2) aK) []) (fC (.int (0)))) (aD 1))) (Dj 2) fG) (l.map D.int) [.fro (gA κ s),.fro (.int K),v2]=match l.find? λx=>decide (s.key x=K)with
   | some x=>.ret (.int x)
   | none=>.next [.fro (gA κ s),.fro (.int K),v']:=by
  intro l
  induction l with
  | nil=>exact λv2 _=>⟨v2,U⟩
  | cons a l ih=>
   intro v2 hm;have ha:=h.Kr a (hm a (D4 ..));have e:fB (f2 Il (f2 dI (bK (κ 1) "record_of" 2 (aW κ) (aD 0) (aA (aD 2) aK) []) (fC (.int (0)))) (aD 1)) (rE [.fro (gA κ s),.fro (.int K),.fro (.int a)])=ND (decide (s.key a=K)):=bZ (aL (aL (bL (nm:=sI) U (by decide +kernel) U U (jX κ h (by omega) ha.2)) U (rG (k:=0) (by rw[h.five (by omega) ha.2];decide))) U (pA _ _));rw[D3,N9];unfold Dy;rw[if_pos (by exact Nat.le_of_ble_eq_true U),show [SD.fro (gA κ s),.fro (.int K),v2].set 2 (.fro (.int a))=[.fro (gA κ s),.fro (.int K),.fro (.int a)]from rfl];by_cases q:s.key a=K
   ·rw[decide_eq_true q]at e ⊢;rw[vW e];exact⟨v2,U⟩
   ·rw[decide_eq_false q]at e ⊢;rw[mK e];exact ih _ λx hx=>hm x (C8 _ hx)
 refine lC U ?_;unfold Hh;obtain⟨v',hv⟩:=hlp s.od .no λx hx=>hx;have hf:=(iz (js:=[]) (i:=2) (fi:=lM (pY (eQ (κ 1) "string") (aD 0))) (g:=qM (fB (f2 Il (f2 dI (bK (κ 1) "record_of" 2 (aW κ) (aD 0) (aA (aD 2) aK) []) (fC (.int (0)))) (aD 1))) (Dj 2) fG) (env:=[.fro (gA κ s),.fro (.int K),.no]) U (iV (dB U (nA w2 U)))).trans hv;cases q:s.od.find? λx=>decide (s.key x=K)with
 | some x=>rw[q]at hf;exact Qk hf
 | none=>rw[q]at hf;exact(fW hf).trans (gC U)
theorem Ws{s:Wb}{at_ c:Int}(ho:0<s.od.length)(hlk:(s.od.map s.key).length=s.od.length)(Sd:∀i j,i<j→j<s.od.length→(s.od.map s.key).getD i 0<(s.od.map s.key).getD j 0)(QW:∀{j:Nat} {x:Int},x∈s.od.take j→∃i,i<j∧i<s.od.length∧s.key x=(s.od.map s.key).getD i 0)(Wt:∀{j:Nat} {x:Int},x∈s.od.drop j→∃i,j≤i∧i<s.od.length∧s.key x=(s.od.map s.key).getD i 0)(p50:(0:Int)<10 ^ (50:Int).toNat) :
  Qs (λr=>∃d,r=.ret d∧∃key k:Int,d=.int key∧0≤k∧k≤(s.od.length:Int)∧s.Fits k key) (fO (f2 dJ (f2 dJ (f2 dI (aD 0) (zK (fC (.int 1)))) (fC (.int 1))) (f2 eV (aD 2) (f2 zH (fC (.int 10)) (fC (.int 50))))) [.fro (aH (s.od.map s.key)),.fro (.int at_),.fro (.int c)]):=by
 have m0:=E6 c (show (10 ^ (50:Int).toNat:Int)≠0 by omega);have aIu:dI (aH (s.od.map s.key)) (.int (-1))=ND (.int ((s.od.map s.key).getD (s.od.length-1) 0)):=by refine aDE ?_;rw[List.getLast?_map,W6,hlk,tL (d:=0) (by omega)];rfl
 refine pC (aL (aL (aL U (pZ U) aIu) U (bY _ _)) (aL U (aL U U (nP ⟨by decide,by decide,by decide⟩)) (bG p50)) (bY _ _)) ⟨_,U,_,(s.od.length:Int),U,by omega,Y7 _,λx hx=>?_,λx hx=>?_⟩
 ·obtain⟨i,i1,i2,e⟩:=QW hx;rw[e];rcases J8 i (s.od.length-1)with z | z
  ·have:=Sd i (s.od.length-1) z (by omega);omega
  ·rw[show i=s.od.length-1 by omega];omega
 ·obtain⟨i,i1,i2,e⟩:=Wt hx;omega
theorem aDW{s:Wb}(h:lG s){at_ c:Int}(a0:0≤at_)(a1:at_≤(s.od.length:Int)):∃key k:Int,Hi [aH (s.od.map s.key),.int at_,.int c]=ND (.int key)∧0≤k∧k≤(s.od.length:Int)∧s.Fits k key:=by
 suffices hh:∃d,Hi [aH (s.od.map s.key),.int at_,.int c]=ND d∧∃key k:Int,d=.int key∧0≤k∧k≤(s.od.length:Int)∧s.Fits k key by obtain⟨d,e,key,k,rfl,q⟩:=hh;exact⟨key,k,e,q⟩
 have p58:(0:Int)<10 ^ (58:Int).toNat:=P7 (by decide);have p50:(0:Int)<10 ^ (50:Int).toNat:=P7 (by decide);have hlk:(s.od.map s.key).length=s.od.length:=B7 _;have hkp:(s.od.map s.key).Pairwise (·<·):=O3.mpr h.key;have aIv:∀j,j<s.od.length→∀x,s.od[j]?=ND x→(s.od.map s.key).getD j 0=s.key x:=λj _ x hx=>by rw[B9,B8,hx];rfl
 have Sd:∀i j,i<j→j<s.od.length→(s.od.map s.key).getD i 0<(s.od.map s.key).getD j 0:=λi j hij hj=>by have:=I0.mp hkp i j (by omega) (by omega) hij;rw[B9,B6 (by omega),B9,B6 (by omega)];exact this
 have QW:∀{j:Nat} {x:Int},x∈s.od.take j→∃i,i<j∧i<s.od.length∧s.key x=(s.od.map s.key).getD i 0:=λ{j x} hx=>by obtain⟨i,hi,e⟩:=J6 hx;rw[J0]at hi;rw[W4]at e;exact⟨i,by omega,by omega,(aIv i (by omega) x (by rw[B6 (by omega),e])).symm⟩
 have Wt:∀{j:Nat} {x:Int},x∈s.od.drop j→∃i,j≤i∧i<s.od.length∧s.key x=(s.od.map s.key).getD i 0:=λ{j x} hx=>by obtain⟨i,hi,e⟩:=J6 hx;rw[O8]at hi;rw[List.getElem_drop]at e;exact⟨j+i,by omega,by omega,(aIv (j+i) (by omega) x (by rw[B6 (by omega),e])).symm⟩
 refine qU U ?_;unfold jj;refine Gs (bZ (aL U (fQ U (by decide)) (LQ _ []))) (λhb=>?_) (λhb=>vG ?_)
 ·have hb:=List.map_eq_nil_iff.mp (of_decide_eq_true hb);refine Vt (aL U (aL U U (nP ⟨by decide,by decide,by decide⟩)) (bG p58)) ⟨_,U,_,0,U,by decide,by omega,λx hx=>?_,λx hx=>?_⟩
  ·rw[hb]at hx;cases hx
  ·rw[hb]at hx;cases hx
 have ho:0<s.od.length:=P2.mpr λz=>of_decide_eq_false hb (by rw[z];rfl);refine Gs (bZ (aL U U (pA _ _))) (λhb=>?_) (λhb=>vG ?_)
 ·have m0:=E6 c (show (10 ^ (50:Int).toNat:Int)≠0 by omega);refine Vt (aL (aL (aL U U (gW (by decide) (by omega))) U (jT _ _)) (aL U (aL U U (nP ⟨by decide,by decide,by decide⟩)) (bG p50)) (jT _ _)) ⟨_,U,_,0,U,by decide,by omega,λx hx=>(by cases hx),λx hx=>?_⟩;obtain⟨i,i1,i2,e⟩:=Wt (j:=0) hx;rw[e];show (s.od.map s.key).getD 0 0-1-_<_;rcases V1 i with z | z
  ·rw[z];omega
  ·have:=Sd 0 i z i2;omega
 have a0':0<at_:=by have:=of_decide_eq_false hb;omega
 have hlen:fL jP (aA (aD 0) aK) (rE [.fro (aH (s.od.map s.key)),.fro (.int at_),.fro (.int c)])=ND (.int s.od.length):=(dU (aB U U) (lB _)).trans (by rw[hlk]);by_cases q1:at_<(s.od.length:Int)
 ·have ex:f2 zG (f2 dI (aD 0) (aD 1)) (f2 dI (aD 0) (f2 zG (aD 1) (fC (.int 1)))) (rE [.fro (aH (s.od.map s.key)),.fro (.int at_),.fro (.int c)])=ND (.int ((s.od.map s.key).getD at_.toNat 0-(s.od.map s.key).getD (at_-1).toNat 0)):=aL (aL U U (gW a0 (by omega))) (aL U (aL U U (jT _ _)) (gW (by omega) (by omega))) (jT _ _);refine Gs (Nb (bZ (aL U hlen (xH _ _))) (bZ (aL ex U (Yx _ _)))) (λhb=>?_) (λhb=>vG ?_)
  ·rw[J7]at hb;have hgap:=of_decide_eq_true hb.2;generalize hA:(s.od.map s.key).getD at_.toNat 0=A at *;generalize hB:(s.od.map s.key).getD (at_-1).toNat 0=B at *;have m0:=E6 c (show A-B-1≠0 by omega);have m1:=E7 c (show 0<A-B-1 by omega);refine Vt (aL (aL (aL U (aL U U (jT _ _)) ((gW (by omega) (by omega)).trans (by rw[hB]))) U (bY _ _)) (aL U (aL ex U (jT _ _)) (bG (by omega))) (bY _ _)) ⟨_,U,_,at_,U,a0,a1,λx hx=>?_,λx hx=>?_⟩
   ·obtain⟨i,i1,i2,e⟩:=QW hx;rw[e];rcases J8 i (at_-1).toNat with z | z
    ·have:=Sd i (at_-1).toNat z (by omega);rw[hB]at this;omega
    ·rw[show i=(at_-1).toNat by omega,hB];omega
   ·obtain⟨i,i1,i2,e⟩:=Wt hx;rw[e];rcases J8 at_.toNat i with z | z
    ·have:=Sd at_.toNat i z i2;rw[hA]at this;omega
    ·rw[show i=at_.toNat by omega,hA];omega
  ·exact Ws ho hlk Sd QW Wt p50
 ·refine pB (b:=NH) ((WM ((bZ (aL U hlen (xH _ _))).trans (congrArg ND (decide_eq_false q1))))) U (vG ?_);exact Ws ho hlk Sd QW Wt p50
theorem aB9{l:List Int}{x:Int}{k:Nat}(hp:l.Pairwise (·<·))(h1:∀y∈l.take k,y<x)(h2:∀y∈l.drop k,x<y)(hk:k≤l.length):sortI (l++[x])=l.take k++x::l.drop k∧(l.take k++x::l.drop k).idxOf x=k∧x∈l.take k++x::l.drop k:=by
 refine⟨(rO ⟨?_,?_⟩).symm,?_,G3 _ D4⟩
 ·refine List.perm_middle.trans ?_;rw[N2];exact(List.perm_append_singleton x l).symm
 ·have hp':=hp;rw[←N2 k l]at hp';obtain⟨p1,p2,p3⟩:=K9.mp hp';refine K9.mpr ⟨p1.imp L0,J3.mpr ⟨λy hy=>L0 (h2 y hy),p2.imp L0⟩,λa ha b hb=>?_⟩;rcases C9.mp hb with z | z
  ·rw[z];exact L0 (h1 a ha)
  ·exact L0 (p3 a ha b z)
 ·have hn:x∉l.take k:=λz=>Int.lt_irrefl _ (h1 x z);rw[List.idxOf_append,if_neg hn,b6,J0];omega
theorem aDX{s:Wb}{k key was now:Int}(w:lG s)(hlo:0<s.lo.length)(hm:s.n<123)(h0:0≤k)(h1:k≤(s.od.length:Int)):(s.ent k key was now 0 []).key s.new=key:=by
 obtain⟨b1,b2,b3,b4,b5⟩:=w.new hlo;obtain⟨p1,p2,p3⟩:=w.ahead h0 h1;have pb:s.new≠s.ahead k:=λz=>by
  rcases p1 with y | y
  ·omega
  ·exact b4 (z▸y)
 have e1l:(s.e1 k key was now 0).rs.length=s.rs.length:=vJ _ _ _ _;show (((s.e1 k key was now 0).wr (s.ahead k) (lnk ((s.e1 k key was now 0).R (s.ahead k)) s.new) ((s.e1 k key was now 0).ns (s.ahead k) [(s.n:Int)])).R s.new).getD 0 0=_;rw[CP p2 (by rw[e1l];exact p3) b5,if_neg pb];show ((s.wr s.new [key,(s.R (s.ahead k)).getD 1 0,was,now,0] (s.go.get s.new).toList).R s.new).getD 0 0=_;rw[CP b5 b3 b5,if_pos rfl];rfl
theorem find_key{s:Wb}(h:lG s){k:Nat}{x:Int}(hx:s.od[k]?=ND x):s.od.find? (λy=>decide (s.key y=s.key x))=ND x:=by
 have xm:x∈s.od:=D9 hx;cases e:s.od.find? (λy=>decide (s.key y=s.key x))with
 | none=>exact absurd (decide_eq_true U) (g8.mp e x xm)
 | some y=>
  have ym:=List.mem_of_find?_eq_some e;have ey:=List.find?_some e;have ey:s.key y=s.key x:=of_decide_eq_true ey;obtain⟨i,hi,rfl⟩:=J6 ym;obtain⟨j,hj,rfl⟩:=J6 xm;rcases i8 i j with z | z | z
  ·have:=I0.mp h.key i j hi hj z;omega
  ·subst z;rfl
  ·have:=I0.mp h.key j i hj hi z;omega
theorem Nk{s:Wb}(h:lG s):sortI (s.od.map s.key)=s.od.map s.key:=(rO ⟨Q3 _,(O3.mpr h.key).imp λz=>L0 z⟩).symm
theorem aCa{s:Wb}(w:lG s){k x:Int}(h0:0≤k)(h1:k<(s.od.length:Int)):(s.out k x []).od.map (s.out k x []).key=(s.od.map s.key).eraseIdx k.toNat:=by
 obtain⟨p1,p2,p3⟩:=w.ahead h0 (L0 h1);rw[show (s.od.map s.key).eraseIdx k.toNat=(s.od.eraseIdx k.toNat).map s.key by rw[T4,T4,G0,S6,S7]];show (s.od.eraseIdx k.toNat).map _=_;apply L4;intro y hy;have ym:=w.Kr y (X3 hy);show ((s.out k x []).R y).getD 0 0=(s.R y).getD 0 0;rw[show (s.out k x []).R y=if y=s.ahead k then lnk (s.R (s.ahead k)) ((s.R x).getD 1 0)else s.R y from CP (ns:=s.ns (s.ahead k) ((s.la.get x).toList++[])) p2 p3 (by omega)];split
 ·rename_i e;rw[e];rfl
 ·rfl
theorem aCb{s:Wb}{k key was now:Int}(w:lG s)(hlo:0<s.lo.length)(hm:s.n<123)(h0:0≤k)(h1:k≤(s.od.length:Int)):(s.ent k key was now 0 []).od.map (s.ent k key was now 0 []).key=(s.od.map s.key).take k.toNat++key::(s.od.map s.key).drop k.toNat:=by
 obtain⟨b1,b2,b3,b4,b5⟩:=w.new hlo;obtain⟨p1,p2,p3⟩:=w.ahead h0 h1;have e1l:(s.e1 k key was now 0).rs.length=s.rs.length:=vJ _ _ _ _;have old:∀y∈s.od,(s.ent k key was now 0 []).key y=s.key y:=λy hy=>by
  have ym:=w.Kr y hy;have yn:y≠s.new:=λz=>b4 (z▸hy);show (((s.e1 k key was now 0).wr (s.ahead k) (lnk ((s.e1 k key was now 0).R (s.ahead k)) s.new) ((s.e1 k key was now 0).ns (s.ahead k) [(s.n:Int)])).R y).getD 0 0=(s.R y).getD 0 0;have eR:∀z,0≤z→z≠s.new→(s.e1 k key was now 0).R z=s.R z:=λz z0 zn=>(CP (ns:=(s.go.get s.new).toList) b5 b3 z0).trans (if_neg zn);rw[CP p2 (by rw[e1l];exact p3) (by omega)];split
  ·rename_i e;rw[←e,eR y (by omega) yn];rfl
  ·rw[eR y (by omega) yn]
 show (s.od.take k.toNat++s.new::s.od.drop k.toNat).map _=_;rw[G0,D3,aDX w hlo hm h0 h1,←S6,←S7];congr 1
 ·exact L4 λy hy=>old y (M5 hy)
 ·congr 1;exact L4 λy hy=>old y (Q7 hy)
theorem lG.aDY{s:Wb}(h:lG s):s.od.length≤63:=by
 have:=pO s.rs.length (0::s.od) (L5.mpr ⟨λz=>by have:=h.Kr 0 z;omega,h.DN⟩) λx hx=>by
  rcases C9.mp hx with z | z
  ·have:=h.pos;omega
  ·have:=h.Kr x z;omega
 simp only[E9]at this;have:=h.few;omega
theorem aGP{s:Wb}(h:lG s)(hm:s.n<123)(c:Int):∃s' kd,lG s'∧s'.n≤s.n+2∧s'.P=s.P∧s'.rs.length=s.rs.length∧wD κ [gA κ s,aH (s.od.map s.key),.int c]=ND (aH (s'.od.map s'.key),[gA κ s',kd]):=by
 have o63:=h.aDY;have hlk:(s.od.map s.key).length=s.od.length:=B7 ..;have nil:∀m∈([]:List Int),0≤m∧m<(s.n:Int):=λm hm=>by cases hm
 have tail:∀(s':Wb)(l:List Int)(v0 v1 v2:V)(v4:SD),lG s'→sortI l=s'.od.map s'.key→Qs (Ly [NG,NG,NH] (aH (s'.od.map s'.key)) [gA κ s',aH l] [v0,v1,v2]) (Ae (gmN (fL uL (aA (aD 1) aK))) [.inn v0 (gA κ s'),.inn v1 (aH l),.fro (.int c),.own (.int (c/4)),v4]):=λs' l v0 v1 v2 v4 h' e=>by
  have hl:l.length<64:=by have e1:=(jJ l).1.length_eq;have:=h'.aDY;rw[e,B7]at e1;omega
  refine Gx (aBC (dU (aB U U) (xN hl))) ?_;rw[e];exact⟨_,.inl U,_,_,U,U,_,_,U,U,U⟩
 have cond:∀(j:Int) {env:EN},(rE env)[2]?=ND (ND (.int c))→(rE env)[1]?=ND (ND (aH (s.od.map s.key)))→(Cu (fB (f2 Il (f2 eV (aD 2) (fC (.int 4))) (fC (.int j)))) (fB (f2 Gd (aD 1) (kE aK)))) (rE env)=ND (decide (c%4=j)&&!decide (s.od.map s.key=[])):=λj {env} e2 e3=>Nb (bZ (aL (aL (cI e2) U (bG (by decide))) U (pA _ _))) (bZ (aL (cI e3) (fQ U (by decide)) (Nj _)));have hlen:∀{env:EN},(rE env)[1]?=ND (ND (aH (s.od.map s.key)))→fL jP (aA (aD 1) aK) (rE env)=ND (.int s.od.length):=λe=>dU (aB (cI e) U) ((lB _).trans (by rw[hlk]));by_cases q0:c%4=0
 ·have hP:=h.p1;have p0:=E6 (c/4) (show (s.P:Int)≠0 by omega);have p1:=E7 (c/4) (show 0<(s.P:Int) by omega);obtain⟨r,hR,hcv⟩:=aBN κ h.bn (p:=c/4%(s.P:Int)) (most:=.int (c/4/8%5)) p0 p1 (.inr ⟨_,U⟩);have hcv:=hcv (r.take (c/4/8%5).toNat) (λz=>by cases z) λm z=>by cases z;rfl
  generalize (c/4/8%5).toNat=t at hcv;have hnd:(r.take t).Nodup:=(hR.1.sublist (O0 _ _)).imp λq=>g9 q;have hrm:∀x∈r.take t,(0≤x∧x<(s.n:Int))∧x∉s.b.held:=λx hx=>by have:=((hR.2.2 x).mp (M5 hx)).1;exact⟨⟨this.1,this.2.1⟩,this.2.2.2⟩
  obtain⟨h',_,e2,e3⟩:=h.cv hnd (λx hx=>(hrm x hx).1) λx hx=>(hrm x hx).2;have e8:s.b.bO.length≤8:=h.bn.few;refine⟨s.cv (r.take t),aH (s.od.map s.key),h',by have:(s.cv (r.take t)).n=s.n:=e2;omega,e3,U,Af U λvs hv=>?_⟩
  match vs,hv with
  | [v0,v1,v2],_=>
   suffices hh:Qs (Ly [NG,NG,NH] (aH ((s.cv (r.take t)).od.map (s.cv (r.take t)).key)) [gA κ (s.cv (r.take t)),aH (s.od.map s.key)] [v0,v1,v2]) (lY κ [.inn v0 (gA κ s),.inn v1 (aH (s.od.map s.key)),.fro (.int c),.no,.no])from hh
   unfold lY;refine cN (d:=.int (c/4)) (aL U U (eE (by decide) (by decide))) (by exact Nat.le_of_ble_eq_true U) ?_;refine Gs (b:=decide (c%4=0)) (bZ (aL (aL U U (bG (by decide))) U (pA _ _))) (λ_=>?_) λz=>by rw[decide_eq_true q0]at z;cases z
   have hfa:gr (f2 eV (aD 3) (fL jP (aA (bK (κ 0) "stone" 1 (qH κ) (pY (eQ (κ 1) "bench") (aD 0)) aK []) aK))) (Cz (f2 eV (f2 sX (aD 3) (fC (.int 8))) (fC (.int 5))) mX) (rE [.inn v0 (gA κ s),.inn v1 (aH (s.od.map s.key)),.fro (.int c),.own (.int (c/4)),.no]) (rE [.no,.inn v1 (aH (s.od.map s.key)),.fro (.int c),.own (.int (c/4)),.no])=ND [.int (c/4%(s.P:Int)),.int (c/4/8%5)]:=Ai (aL U (dU (aB (bL (nm:=BR) (dB U (nA w0 U)) (by decide +kernel) U U (xg κ e8)) U) (Cj _)) (bG (by have:s.b.bO.length=s.P:=rfl;omega))) (gR (aL (aL U U (eE (by decide) (by decide))) U (bG (by decide))) U);refine Ng (d:=aH (r.take t)) (env':=[.inn v0 (gA κ (s.cv (r.take t))),.inn v1 (aH (s.od.map s.key)),.fro (.int c),.own (.int (c/4)),.no]) ((lA (p:=[L2.Step.fld (κ 1) "bench"]) (nm:=BR) (es:=[.int (c/4%(s.P:Int)),.int (c/4/8%5)]) U U (yK w0 U) (by decide +kernel) ((congrArg (a9 λx=>x++[]) hfa).trans U) hcv).trans (by
     rw[yL w0 rfl];unfold gA;rw[show (s.cv (r.take t)).P=s.P from(nR (r.take t) s.b).1]
     rfl)) ?_
   exact tail (s.cv (r.take t)) (s.od.map s.key) v0 v1 v2 _ h' (Nk h)
 have c0:decide (c%4=0)=NH:=decide_eq_false q0;have start:∀{Pr:SR→Prop} {g:GS} {env:EN},(rE env)[2]?=ND (ND (.int c))→∀{g1 g2:GS},Qs Pr (aX g2 g env)→Qs Pr (aX (qM (fB (f2 Il (f2 eV (aD 2) (fC (.int 4))) (fC (.int 0)))) g1 g2) g env):=λ{Pr g env} e2 {g1 g2} k=>pB (b:=decide (c%4=0)) (bZ (aL (aL (cI e2) U (bG (by decide))) U (pA _ _))) c0 k;by_cases q1:(decide (c%4=1)&&!decide (s.od.map s.key=[]))=NG
 ·have q1':=q1;rw[J7]at q1';have ho:0<s.od.length:=by rw[←hlk];exact P2.mpr λz=>by rw[decide_eq_true z]at q1';cases q1'.2
  have x0:=E6 (c/4) (show (s.od.length:Int)≠0 by omega);have x1:=E7 (c/4) (show 0<(s.od.length:Int) by omega);generalize hat:c/4%(s.od.length:Int)=at_ at *;obtain⟨x,hx⟩:∃x,s.od[at_.toNat]?=ND x:=⟨_,B6 (show at_.toNat<s.od.length by omega)⟩
  have hxk:(s.od.map s.key)[at_.toNat]?=ND (s.key x):=by rw[B8,hx];rfl
  have h':=h.out (by omega) x0 x1 hx nil (by decide);have hlv:=aBV κ h (by omega) x0 x1 hx nil (by decide) (nd:=.non) (.inl ⟨U,U⟩);have hbx:=Rz κ h (s.key x);rw[find_key h hx]at hbx;have hn':=aEP s at_ x [];have hr':=jq s at_ x [];have eP:(s.out at_ x []).P=s.P:=rfl;have hks:=aCa h (x:=x) x0 x1;generalize s.out at_ x []=s' at *;have hix:dI (aH (s.od.map s.key)) (.int at_)=ND (.int (s.key x)):=(gW x0 (by rw[hlk];exact x1)).trans (by rw[mL hxk]);have km:s.key x∈s.od.map s.key:=D9 hxk;have hidx:(s.od.map s.key).idxOf (s.key x)=at_.toNat:=ZC ((O3.mpr h.key).imp λz=>g9 z) hxk;refine⟨s',aH ((s.od.map s.key).eraseIdx at_.toNat),h',by omega,eP,hr',Af U λvs hv=>?_⟩
  match vs,hv with
  | [v0,v1,v2],_=>
   suffices hh:Qs (Ly [NG,NG,NH] (aH (s'.od.map s'.key)) [gA κ s',aH ((s.od.map s.key).eraseIdx at_.toNat)] [v0,v1,v2]) (lY κ [.inn v0 (gA κ s),.inn v1 (aH (s.od.map s.key)),.fro (.int c),.no,.no])from hh
   unfold lY;refine cN (d:=.int (c/4)) (aL U U (eE (by decide) (by decide))) (by exact Nat.le_of_ble_eq_true U) ?_;refine start U ?_;refine Gs (cond 1 U U) (λ_=>?_) λz=>by rw[q1]at z;cases z
   rw[uC];refine cN (d:=.int (s.key x)) (bH (aL U ((aL U (hlen U) (bG (by omega))).trans (by rw[hat])) hix) U) (by exact Nat.le_of_ble_eq_true U) ?_;rw[uC];have hfa:gr (bK (κ 1) "box_of" 2 (cB κ) (aD 0) (aA (aD 4) aK) []) mX (rE [.inn v0 (gA κ s),.inn v1 (aH (s.od.map s.key)),.fro (.int c),.own (.int (c/4)),.own (.int (s.key x))]) (rE [.no,.inn v1 (aH (s.od.map s.key)),.fro (.int c),.own (.int (c/4)),.own (.int (s.key x))])=ND [.int x]:=Ai (bL (nm:=sI) U (by decide +kernel) U U hbx) U;refine Ng (d:=.int s.n) (env':=[.inn v0 (gA κ s'),.inn v1 (aH (s.od.map s.key)),.fro (.int c),.own (.int (c/4)),.own (.int (s.key x))]) (lA (p:=[]) (nm:=sI) (es:=[.int x,.non]) U U U (by decide +kernel) ((congrArg (a9 λx=>x++[D.non]) hfa).trans U) hlv) ?_;refine pF U (YX (p:=[]) (ns:=s.od.map s.key) U U U U km) U ?_;have e:sortI ((s.od.map s.key).eraseIdx at_.toNat)=s'.od.map s'.key:=by rw[←hks];exact Nk h'
   have tl:=tail s' ((s.od.map s.key).eraseIdx at_.toNat) v0 v1 v2 (.own (.int (s.key x))) h' e;rw[←hidx]at tl ⊢;exact tl
 have q1:=W0.mpr q1;by_cases q2:(decide (c%4=2)&&!decide (s.od.map s.key=[]))=NG
 ·have q2':=q2;rw[J7]at q2';have ho:0<s.od.length:=by rw[←hlk];exact P2.mpr λz=>by rw[decide_eq_true z]at q2';cases q2'.2
  have x0:=E6 (c/4) (show (s.od.length:Int)≠0 by omega);have x1:=E7 (c/4) (show 0<(s.od.length:Int) by omega);generalize hat:c/4%(s.od.length:Int)=at_ at *;obtain⟨x,hx⟩:∃x,s.od[at_.toNat]?=ND x:=⟨_,B6 (show at_.toNat<s.od.length by omega)⟩
  have hxk:(s.od.map s.key)[at_.toNat]?=ND (s.key x):=by rw[B8,hx];rfl
  have xr:=h.Kr x (D9 hx);have hns:(s.ns x []).length≤8:=by unfold Wb.ns;rw[F9];have:=wL (s.co.get x);omega
  have hre:=YW κ h (x:=x) (a:=-1) (b:=c/4%9) (c:=0) (ns:=[]) (nd:=.non) (by omega) xr.2 nil (by decide) (.inl ⟨U,U⟩);have h':=h.wr (x:=x) (r:=[(s.R x).getD 0 0,(s.R x).getD 1 0,-1,c/4%9,0]) (ns:=s.ns x []) (by omega) xr.2 U (h.aDO nil) hns (by omega) λ_=>rfl;have hn':=aBS s x [(s.R x).getD 0 0,(s.R x).getD 1 0,-1,c/4%9,0] (s.ns x []);have hr':=vJ s x [(s.R x).getD 0 0,(s.R x).getD 1 0,-1,c/4%9,0] (s.ns x []);have eP:(s.wr x [(s.R x).getD 0 0,(s.R x).getD 1 0,-1,c/4%9,0] (s.ns x [])).P=s.P:=rfl;have hks:(s.wr x [(s.R x).getD 0 0,(s.R x).getD 1 0,-1,c/4%9,0] (s.ns x [])).od.map (s.wr x [(s.R x).getD 0 0,(s.R x).getD 1 0,-1,c/4%9,0] (s.ns x [])).key=s.od.map s.key:=by
   apply L4;intro y hy;have ym:=h.Kr y hy;show ((s.wr x [(s.R x).getD 0 0,(s.R x).getD 1 0,-1,c/4%9,0] (s.ns x [])).R y).getD 0 0=(s.R y).getD 0 0;rw[CP (by omega) xr.2 (by omega)];split
   ·rename_i e;rw[e];rfl
   ·rfl
  have hbx:=Rz κ h (s.key x);rw[find_key h hx]at hbx;generalize s.wr x [(s.R x).getD 0 0,(s.R x).getD 1 0,-1,c/4%9,0] (s.ns x [])=s' at *;have hix:dI (aH (s.od.map s.key)) (.int at_)=ND (.int (s.key x)):=(gW x0 (by rw[hlk];exact x1)).trans (by rw[mL hxk]);refine⟨s',aH (s.od.map s.key),h',by omega,eP,hr',Af U λvs hv=>?_⟩
  match vs,hv with
  | [v0,v1,v2],_=>
   suffices hh:Qs (Ly [NG,NG,NH] (aH (s'.od.map s'.key)) [gA κ s',aH (s.od.map s.key)] [v0,v1,v2]) (lY κ [.inn v0 (gA κ s),.inn v1 (aH (s.od.map s.key)),.fro (.int c),.no,.no])from hh
   unfold lY;refine cN (d:=.int (c/4)) (aL U U (eE (by decide) (by decide))) (by exact Nat.le_of_ble_eq_true U) ?_;refine start U ?_;refine pB (cond 1 U U) q1 ?_;refine Gs (cond 2 U U) (λ_=>?_) λz=>by rw[q2]at z;cases z
   have hfa:gr (bK (κ 1) "box_of" 2 (cB κ) (aD 0) (aA (f2 dI (aD 1) (f2 eV (aD 3) (fL jP (aA (aD 1) aK)))) aK) []) (Cz (zK (fC (.int 1))) (Cz (f2 eV (aD 3) (fC (.int 9))) (Cz (fC (.int 0)) mX))) (rE [.inn v0 (gA κ s),.inn v1 (aH (s.od.map s.key)),.fro (.int c),.own (.int (c/4)),.no]) (rE [.no,.inn v1 (aH (s.od.map s.key)),.fro (.int c),.own (.int (c/4)),.no])=ND [.int x,.int (-1),.int (c/4%9),.int 0]:=Ai (bL (nm:=sI) U (by decide +kernel) (aB (aL U ((aL U (hlen U) (bG (by omega))).trans (by rw[hat])) hix) U) U hbx) (gR (pZ U) (gR (aL U U (bG (by decide))) (gR U U)));refine Ng (d:=.int s.n) (env':=[.inn v0 (gA κ s'),.inn v1 (aH (s.od.map s.key)),.fro (.int c),.own (.int (c/4)),.no]) (lA (p:=[]) (nm:=sI) (es:=[.int x,.int (-1),.int (c/4%9),.int 0,.non]) U U U (by decide +kernel) ((congrArg (a9 λx=>x++[D.non]) hfa).trans U) hre) ?_;exact tail s' (s.od.map s.key) v0 v1 v2 _ h' (by rw[hks];exact Nk h)
 have q2:=W0.mpr q2;have hsl:(sortI s.lo).length=s.lo.length:=(jJ s.lo).1.length_eq;by_cases q3:sortI s.lo=[]
 ·refine⟨s,aH (s.od.map s.key),h,by omega,U,U,Af U λvs hv=>?_⟩
  match vs,hv with
  | [v0,v1,v2],_=>
   suffices hh:Qs (Ly [NG,NG,NH] (aH (s.od.map s.key)) [gA κ s,aH (s.od.map s.key)] [v0,v1,v2]) (lY κ [.inn v0 (gA κ s),.inn v1 (aH (s.od.map s.key)),.fro (.int c),.no,.no])from hh
   unfold lY;refine cN (d:=.int (c/4)) (aL U U (eE (by decide) (by decide))) (by exact Nat.le_of_ble_eq_true U) ?_;refine start U ?_;refine pB (cond 1 U U) q1 ?_;refine pB (cond 2 U U) q2 ?_;refine pB (b:=!decide (sortI s.lo=[])) (bZ (aL (bL (nm:=sI) U (by decide +kernel) U U (Ih κ h)) (fQ U (by decide)) (Nj _))) (by rw[decide_eq_true q3];rfl) (vG ?_);exact tail s (s.od.map s.key) v0 v1 v2 _ h (Nk h)
 have hlo:0<s.lo.length:=by rw[←hsl];exact P2.mpr q3
 have a0:=E6 (c/4) (show ((s.od.length:Int)+1)≠0 by omega);have a1:=E7 (c/4) (show 0<((s.od.length:Int)+1) by omega);obtain⟨key,k,hk,g0,g1,fit⟩:=aDW h (at_:=c/4%((s.od.length:Int)+1)) (c:=c/4/5) a0 (by omega);have p50:(0:Int)<10 ^ (50:Int).toNat:=P7 (by decide);have h':=h.ent hlo hm (was:=-1) (now:=c/4%10 ^ (50:Int).toNat) (nC:=0) g0 g1 nil (by decide) fit;have hn':=aEO s k key (-1) (c/4%10 ^ (50:Int).toNat) 0 [];have hr':=jo s k key (-1) (c/4%10 ^ (50:Int).toNat) 0 [];have hen:=aBU κ h hlo hm (was:=-1) (now:=c/4%10 ^ (50:Int).toNat) (nC:=0) g0 g1 nil (by decide) fit (.inl ⟨U,U⟩);have eP:(s.ent k key (-1) (c/4%10 ^ (50:Int).toNat) 0 []).P=s.P:=rfl;have hks:=aCb (was:=-1) (now:=c/4%10 ^ (50:Int).toNat) (key:=key) h hlo hm g0 g1;generalize s.ent k key (-1) (c/4%10 ^ (50:Int).toNat) 0 []=s' at *;obtain⟨so1,so2,so3⟩:=aB9 (l:=s.od.map s.key) (x:=key) (k:=k.toNat) (O3.mpr h.key) (λy hy=>by
  rw[←S6]at hy;obtain⟨x,hx,rfl⟩:=G4.mp hy;exact fit.1 x hx) (λy hy=>by
  rw[←S7]at hy;obtain⟨x,hx,rfl⟩:=G4.mp hy;exact fit.2 x hx) (by rw[B7];omega)
 refine⟨s',aH (s.od.map s.key++[key]),h',by omega,eP,hr',Af U λvs hv=>?_⟩
 match vs,hv with
 | [v0,v1,v2],_=>
  suffices hh:Qs (Ly [NG,NG,NH] (aH (s'.od.map s'.key)) [gA κ s',aH (s.od.map s.key++[key])] [v0,v1,v2]) (lY κ [.inn v0 (gA κ s),.inn v1 (aH (s.od.map s.key)),.fro (.int c),.no,.no])from hh
  unfold lY;refine cN (d:=.int (c/4)) (aL U U (eE (by decide) (by decide))) (by exact Nat.le_of_ble_eq_true U) ?_;refine start U ?_;refine pB (cond 1 U U) q1 ?_;refine pB (cond 2 U U) q2 ?_;refine Gs (b:=!decide (sortI s.lo=[])) (bZ (aL (bL (nm:=sI) U (by decide +kernel) U U (Ih κ h)) (fQ U (by decide)) (Nj _))) (λ_=>?_) λz=>by rw[decide_eq_false q3]at z;cases z
  rw[uC];refine cN (d:=.int key) (bR (aB U (aB (aL U (aL (hlen U) U (bY _ _)) (bG (by omega))) (aB (aL U U (eE (by decide) (by decide))) U))) U hk) (by exact Nat.le_of_ble_eq_true U) ?_;rw[uC];refine Ng (d:=dTup [s.new,((s.n+1:Nat):Int)]) (env':=[.inn v0 (gA κ s'),.inn v1 (aH (s.od.map s.key)),.fro (.int c),.own (.int (c/4)),.own (.int key)]) (lA (p:=[]) (nm:=sI) (es:=[.int key,.int (-1),.int (c/4%10 ^ (50:Int).toNat),.int 0,.non]) U U U (by decide +kernel) (by
    rw[gR (d:=.int key) U (gR (d:=.int (-1)) (pZ U) (gR (d:=.int (c/4%10 ^ (50:Int).toNat)) (aL U (aL U U (nP ⟨by decide,by decide,by decide⟩)) (bG p50)) (gR (d:=.int 0) U U)))]
    rfl) hen) ?_
  refine pF U (Qp (p:=[]) (ds:=(s.od.map s.key).map D.int) (d:=.int key) U U U (bH U U) (by rw[B7,hlk];omega)) U ?_;have e:sortI (s.od.map s.key++[key])=s'.od.map s'.key:=by rw[so1,hks]
  have tl:=tail s' (s.od.map s.key++[key]) v0 v1 v2 (.own (.int key)) h' e;rw[show aH (s.od.map s.key++[key])=D.lst ((s.od.map s.key).map D.int++[.int key])from by unfold aH;rw[G0];rfl]at tl ⊢;exact tl
theorem aCc{as:List Ap}{F:List D→Option (D×List D)}{env e0:EN}{ps:List (Nat×List L2.Step)}{Lz Vk ds':List D}{r:D}(h0:chP as (rE env)=ND ps)(h1:wZ ps env=ND (Lz,e0))(h2:rdP as (rE env) (rE e0)=ND Vk)(h3:F (tK (qD as) Lz Vk)=ND (r,ds')):Vo as F env=ND (r,Dm ps ds' env):=by unfold Vo;rw[h0,C4,h1,C4,h2,C4,h3];rfl
theorem xj{i j:Nat}{π:FP}{g:FE}{gm:GM}{env env':EN}{p:List L2.Step}{d d0:D}{ds:List D}{k:Int}(h:gm env=ND (d,env'))(h1:env'[i]?=ND (.own d0))(h2:π (rE env')=ND p)(h3:g (rE env')=ND (.int k))(h4:eO p d0=ND (.lst ds))(h5:Up ds.length k=ND j):Eh i π g gm env=.next (env'.set i (.own (dR p d0 (.lst (ds.set j d))))):=by unfold Eh;rw[h];dsimp only;rw[h1,h2,h3];dsimp only;rw[h4];dsimp only;rw[h5]
theorem ZF{i:Nat}{f:FE}{env:EN}{xs:List D}(h:f (rE env)=ND (.lst xs))(h1:xs.all WL=NG)(h2:i<env.length):Bp i f env=.next (env.set i .no):=by unfold Bp;rw[h];dsimp only;rw[if_pos ⟨h1,h2⟩]
theorem aCd{ns:List Int}(h:ns.length<64)(hn:ns.Nodup):Vp (aH ns)=ND (.int ns.length):=by unfold Vp aH;dsimp only;rw[kI,C4,if_pos h,Qj hn]
theorem QX(m:Nat):(gK m).Pairwise (·<·):=by unfold gK;rw[O3];exact R9.imp λh=>by omega
theorem Wu{m:Nat}{x:Int}:x∈gK m↔1≤x∧x<(m:Int):=by
 unfold gK;rw[G4];constructor
 ·rintro⟨i,hi,rfl⟩
  have:=F5.mp hi;omega
 ·intro h;exact⟨(x-1).toNat,F5.mpr (by omega),by omega⟩
theorem jt{l m:List Int}(hl:l.Nodup)(hm:m.Pairwise (·<·))(e:∀x,x∈m↔x∈l):m=sortI l:=rO ⟨(List.perm_ext_iff_of_nodup (hm.imp λz=>g9 z) hl).mpr e,hm.imp λz=>L0 z⟩
theorem aDZ{s:Wb}(h:lG s):(gK s.rs.length).filter (λi=>!decide (i∈s.od))=sortI s.lo:=by refine jt h.lon ((QX _).sublist R0) λx=>?_;rw[N7,Wu,h.yc];simp only[Bool.not_eq_true',decide_eq_false_iff_not];exact⟨λz=>⟨z.1.1,z.1.2,z.2⟩,λz=>⟨⟨z.1,z.2.1⟩,z.2.2⟩⟩
theorem aGQ{s:Wb}(h:lG s):sortI (s.od++sortI s.lo)=gK s.rs.length:=by
  have hp:=(jJ s.lo).1;refine(jt (l:=s.od++sortI s.lo) ?_ (QX _) λx=>?_).symm
  · refine O1.mpr ⟨h.DN,hp.nodup_iff.mpr h.lon,λa ha b hb z=>?_⟩
    exact((h.yc b).mp (hp.mem_iff.mp hb)).2.2 (z▸ha)
  · rw[Wu,G7,hp.mem_iff,h.yc]
    constructor
    · intro z
      by_cases c:x∈s.od
      · exact .inl c
      · exact .inr ⟨z.1,z.2,c⟩
    · rintro(z | z)
      · exact h.Kr x z
      · exact⟨z.1,z.2.1⟩
theorem aD0{s:Wb}(h:lG s):wF κ [gA κ s,.int s.rs.length]=ND (aH (sortI s.lo)):=by
 suffices hh:∃d,wF κ [gA κ s,.int s.rs.length]=ND d∧d=aH (sortI s.lo) by obtain⟨d,h1,rfl⟩:=hh;exact h1
 have hf:=h.few;have hp:=h.pos;refine qU U ?_;unfold NZ;refine cN (d:=aH s.od) (bL (nm:=sI) U (by decide +kernel) U U (Ig κ s)) (by exact Nat.le_of_ble_eq_true U) ?_;have e:iY 1 ((s.rs.length:Int)-1).toNat=(gK s.rs.length).map D.int:=by unfold iY gK;rw[K5,show ((s.rs.length:Int)-1).toNat=s.rs.length-1 by omega];rfl
 have hr:=LC (i:=1) (j:=s.rs.length) (fs:=aA (fC (.int 1)) (aA (aD 1) aK)) (e:=rE [.fro (gA κ s),.fro (.int s.rs.length),.own (aH s.od)]) (aB U (aB U U)) (by decide) (by decide) (by omega) (by omega);rw[e]at hr;have hc:=tO (fi:=Pg (aA (fC (.int 1)) (aA (aD 1) aK))) (fr:=[2]) (fc:=fB (f2 (dIn NG) (aD 0) (aD 1))) (fe:=cO (aD 0)) (e:=rE [.fro (gA κ s),.fro (.int s.rs.length),.own (aH s.od)]) (ms:=gK s.rs.length) (λx=>!decide (x∈s.od)) (λx=>x) hr (by unfold gK;rw[B7,D8];omega) (λx _=>bZ (aL U U (Gv NG x s.od))) λx _ _=>bH U U;rw[List.map_id',aDZ h]at hc;exact pC hc ⟨_,U,U⟩
theorem neT(l:List Int):Gd (aH l) (aH l)=ND (.bl NH):=by rw[MP,decide_eq_true rfl];rfl
theorem gone_none{s:Wb}{K:Int}(h:K∉s.od.map s.key):s.od.find? (λx=>decide (s.key x=K))=none:=g8.mpr λx hx z=>h (G4.mpr ⟨x,hx,of_decide_eq_true z⟩)
theorem xn{m:Nat}(h:m≤1000)(h1:0<m):rR [.int 1,.int m]=ND (aH (gK m)):=by unfold rR;dsimp only;rw[if_pos ⟨by decide,by decide,by omega,by omega⟩];unfold aH gK;rw[K5,show ((m:Int)-1).toNat=m-1 by omega];rfl
theorem aCe{s:Wb}(h:lG s)(c:Int):oO κ [gA κ s,aH (s.od.map s.key),.int s.rs.length,.int c]=ND (.bl NG):=by
 suffices hh:∃d,oO κ [gA κ s,aH (s.od.map s.key),.int s.rs.length,.int c]=ND d∧d=.bl NG by obtain⟨d,h1,rfl⟩:=hh;exact h1
 have hf:=h.few;have hp:=h.pos;have o63:=h.aDY;have l64:=h.aGH;have p58:(0:Int)<10 ^ (58:Int).toNat:=P7 (by decide);have hlk:(s.od.map s.key).length=s.od.length:=B7 ..;have hlo:(sortI s.lo).length=s.lo.length:=(jJ s.lo).1.length_eq;have hord:∀{e:DE},e[0]?=ND (ND (gA κ s))→bK (κ 1) "order" 1 (cC κ) (aD 0) aK [] e=ND (aH s.od):=λe0=>bL (nm:=sI) (cI e0) (by decide +kernel) U U (Ig κ s);have aGR:∀{e:DE},e[0]?=ND (ND (gA κ s))→bK (κ 1) "free" 1 (eG κ) (aD 0) aK [] e=ND (aH (sortI s.lo)):=λe0=>bL (nm:=sI) (cI e0) (by decide +kernel) U U (Ih κ h);have hrec:∀{e:DE} {i:Nat} {g:FE} {x:Int},e[i]?=ND (ND (gA κ s))→g e=ND (.int x)→0≤x→x<(s.rs.length:Int)→cO (f2 dI (bK (κ 1) "record_of" 2 (aW κ) (aD i) (aA g aK) []) (fC (.int 0))) e=ND (.int (s.key x)):=λe0 hg x0 x1=>bH (aL (bL (nm:=sI) (cI e0) (by decide +kernel) (aB hg U) U (jX κ h x0 x1)) U (rG (k:=0) (by rw[h.five x0 x1];decide))) U;have aD1:∀{e:DE} {g:FE} {K:Int},e[0]?=ND (ND (gA κ s))→g e=ND (.int K)→bK (κ 1) "box_of" 2 (cB κ) (aD 0) (aA g aK) [] e=ND (Kq (s.od.find? λx=>decide (s.key x=K))):=λe0 hg=>bL (nm:=sI) (cI e0) (by decide +kernel) (aB hg U) U (Rz κ h _);have t1:∀{e:DE},e[0]?=ND (ND (gA κ s))→e[4]?=ND (ND (aH s.od))→e[5]?=ND (ND (aH (sortI s.lo)))→UG (fB (f2 Gd (bK (κ 1) "order" 1 (cC κ) (aD 0) aK []) (aD 4))) (fB (f2 Gd (bK (κ 1) "free" 1 (eG κ) (aD 0) aK []) (aD 5))) e=ND NH:=λe0 e4 e5=>(KY (bZ (b:=NH) (aL (hord e0) (cI e4) (neT _)))).trans (bZ (aL (aGR e0) (cI e5) (neT _)));have t2:∀{e:DE},e[4]?=ND (ND (aH s.od))→e[5]?=ND (ND (aH (sortI s.lo)))→UG (Cv (fB (dD 1 lZ (aA (aD 4) aK)))) (UG (Cv (fB (dD 1 lZ (aA (aD 5) aK)))) (fB (f2 Gd (pY Vp (aD 4)) (fL jP (aA (aD 4) aK))))) e=ND NH:=λe4 e5=>(KY (rT (b:=NG) (bZ (bR (aB (cI e4) U) U (Rw _ (by omega)))))).trans ((KY (rT (b:=NG) (bZ (bR (aB (cI e5) U) U (Rw _ (by omega)))))).trans (bZ (aL (dB (cI e4) (aCd (by omega) h.DN)) (dU (aB (cI e4) U) (lB _)) ((xJ _ _).trans (by rw[decide_eq_true rfl];rfl)))));have hal:=aGQ h;have hall:s.od.length+(sortI s.lo).length<64:=by have e1:=(jJ (s.od++sortI s.lo)).1.length_eq;rw[hal,C7]at e1;unfold gK at e1;rw[B7,D8]at e1;omega
 have t3:∀{e:DE},e[0]?=ND (ND (gA κ s))→e[2]?=ND (ND (.int s.rs.length))→e[4]?=ND (ND (aH s.od))→e[5]?=ND (ND (aH (sortI s.lo)))→UG (fB (f2 Gd (aD 5) (dD 2 (wF κ) (aA (aD 0) (aA (aD 2) aK))))) (fB (f2 Gd (fL uL (aA (f2 dJ (aD 4) (aD 5)) aK)) (fL rR (aA (fC (.int 1)) (aA (aD 2) aK))))) e=ND NH:=λe0 e2 e4 e5=>(KY (bZ (b:=NH) (aL (cI e5) (bR (aB (cI e0) (aB (cI e2) U)) U (aD0 κ h)) (neT _)))).trans (bZ (aL (a:=aH (gK s.rs.length)) (dU (aB (aL (cI e4) (cI e5) (xM _ _ (by omega))) U) ((xN (by rw[C7];exact hall)).trans (by rw[hal]))) (dU (aB U (aB (cI e2) U)) (xn (by omega) hp)) (neT _)));have t4:fB (f2 Gd (gF (lM (aD 4)) [0] jN (cO (f2 dI (bK (κ 1) "record_of" 2 (aW κ) (aD 1) (aA (aD 0) aK) []) (fC (.int 0))))) (aD 1)) (rE [.fro (gA κ s),.fro (aH (s.od.map s.key)),.fro (.int s.rs.length),.fro (.int c),.own (aH s.od),.own (aH (sortI s.lo)),.no,.no,.no,.no])=ND NH:=by have hc:=tO (fi:=lM (aD 4)) (fr:=[0]) (fc:=jN) (fe:=cO (f2 dI (bK (κ 1) "record_of" 2 (aW κ) (aD 1) (aA (aD 0) aK) []) (fC (.int 0)))) (e:=rE [.fro (gA κ s),.fro (aH (s.od.map s.key)),.fro (.int s.rs.length),.fro (.int c),.own (aH s.od),.own (aH (sortI s.lo)),.no,.no,.no,.no]) (ms:=s.od) (λ_=>NG) s.key (iV U) (by omega) (λ_ _=>rfl) λx hx _=>hrec U U (by have:=h.Kr x hx;omega) (h.Kr x hx).2;rw[N0.mpr λ_ _=>rfl]at hc;exact bZ (aL hc U (neT _))
 have aCf:∀v7:SD,Qs (λr=>∃d,r=.ret d∧d=.bl NG) ((aX (qM (fB (f2 Il (aD 1) (kE aK))) (fO (f2 (zM NH) (bK (κ 1) "box_of" 2 (cB κ) (aD 0) (aA (f2 eV (aD 3) (f2 zH (fC (.int 10)) (fC (.int 58)))) aK) []) (fC .non))) fG)
 (aX (dG 8 (f2 eV (aD 3) (fL jP (aA (aD 1) aK))))
 (aX (dG 9 (bK (κ 1) "box_of" 2 (cB κ) (aD 0) (aA (f2 dI (aD 1) (aD 8)) aK) []))
 (aX (qM (UG (Cv (fB (dD 1 oU (aA (aD 9) aK)))) (fB (f2 Gd (aD 9) (f2 dI (aD 4) (aD 8))))) (fO (fC (.bl NH))) fG)
 (fO (Tg (f2 (dIn NH) (f2 dJ (f2 dI (aD 1) (aD 8)) (fC (.int 1))) (aD 1)) (f2 (zM NH) (bK (κ 1) "box_of" 2 (cB κ) (aD 0) (aA (f2 dJ (f2 dI (aD 1) (aD 8)) (fC (.int 1))) aK) []) (fC .non)))))))) [.fro (gA κ s),.fro (aH (s.od.map s.key)),.fro (.int s.rs.length),.fro (.int c),.own (aH s.od),.own (aH (sortI s.lo)),.no,v7,.no,.no]):=λv7=>by
  refine Gs (bZ (aL U (fQ U (by decide)) (LQ _ []))) (λhb=>?_) (λhb=>vG ?_)
  ·have hb:=of_decide_eq_true hb;have hn:s.od.find? (λx=>decide (s.key x=c%10 ^ (58:Int).toNat))=none:=gone_none (by rw[hb];exact List.not_mem_nil);have hx:=aD1 (e:=rE [.fro (gA κ s),.fro (aH (s.od.map s.key)),.fro (.int s.rs.length),.fro (.int c),.own (aH s.od),.own (aH (sortI s.lo)),.no,v7,.no,.no]) (g:=f2 eV (aD 3) (f2 zH (fC (.int 10)) (fC (.int 58)))) U (aL U (aL U U (nP ⟨by decide,by decide,by decide⟩)) (bG p58));rw[hn]at hx;exact Vt (aL hx U U) ⟨_,U,U⟩
  ·have ho:0<s.od.length:=by rw[←hlk];exact P2.mpr (of_decide_eq_false hb)
   have x0:=E6 c (show (s.od.length:Int)≠0 by omega);have x1:=E7 c (show 0<(s.od.length:Int) by omega);refine cN (d:=.int (c%(s.od.length:Int))) (aL U (dU (aB U U) ((lB _).trans (by rw[hlk]))) (bG (by omega))) (by exact Nat.le_of_ble_eq_true U) ?_;generalize c%(s.od.length:Int)=at_ at *;obtain⟨x,hx⟩:∃x,s.od[at_.toNat]?=ND x:=⟨_,B6 (show at_.toNat<s.od.length by omega)⟩
   have hix:dI (aH (s.od.map s.key)) (.int at_)=ND (.int (s.key x)):=(gW x0 (by rw[hlk];exact x1)).trans (by rw[mL (show (s.od.map s.key)[at_.toNat]?=ND (s.key x) by rw[B8,hx];rfl)]);have hxo:dI (aH s.od) (.int at_)=ND (.int x):=(gW x0 x1).trans (by rw[mL hx]);have hb:=aD1 (e:=rE [.fro (gA κ s),.fro (aH (s.od.map s.key)),.fro (.int s.rs.length),.fro (.int c),.own (aH s.od),.own (aH (sortI s.lo)),.no,v7,.own (.int at_),.no]) (g:=f2 dI (aD 1) (aD 8)) U (aL U U hix);rw[find_key h hx]at hb;refine cN (d:=.int x) hb (by exact Nat.le_of_ble_eq_true U) ?_;refine pB (b:=NH) ((KY (rT (b:=NG) (bZ (bR (aB U U) U (QC x))))).trans (bZ (aL U (aL U U hxo) ((xJ _ _).trans (by rw[decide_eq_true rfl];rfl))))) U (vG ?_);have hk1:f2 dJ (f2 dI (aD 1) (aD 8)) (fC (.int 1)) (rE [.fro (gA κ s),.fro (aH (s.od.map s.key)),.fro (.int s.rs.length),.fro (.int c),.own (aH s.od),.own (aH (sortI s.lo)),.no,v7,.own (.int at_),.own (.int x)])=ND (.int (s.key x+1)):=aL (aL U U hix) U (bY _ _);have hb1:=aD1 (e:=rE [.fro (gA κ s),.fro (aH (s.od.map s.key)),.fro (.int s.rs.length),.fro (.int c),.own (aH s.od),.own (aH (sortI s.lo)),.no,v7,.own (.int at_),.own (.int x)]) U hk1;have hin:=aL hk1 U (Gv NH (s.key x+1) (s.od.map s.key)) (g:=aD 1);by_cases q:s.key x+1∈s.od.map s.key
   ·rw[if_neg E2,decide_eq_true q]at hin;exact pC (aGJ hin) ⟨_,U,U⟩
   ·rw[if_neg E2,decide_eq_false q]at hin;rw[gone_none q]at hb1;exact pC (jf hin (aL hb1 U (show zM NH (Kq none) .non=ND (.bl NG)from rfl))) ⟨_,U,U⟩
 refine qU U ?_;unfold Rb;refine cN (d:=aH s.od) (hord U) (by exact Nat.le_of_ble_eq_true U) ?_;refine cN (d:=aH (sortI s.lo)) (aGR U) (by exact Nat.le_of_ble_eq_true U) ?_;refine Tp (ZF (xs:=[aH s.od,aH (sortI s.lo)]) (fQ (aB (hord U) (aB (aGR U) U)) (by show 2≤_;decide)) ?_ (by exact Nat.le_of_ble_eq_true U)) ?_
 ·show (decide ((s.od.map D.int).length<100000)&&(decide (((sortI s.lo).map D.int).length<100000)&&NG))=NG;rw[B7,B7,decide_eq_true (show s.od.length<100000 by omega),decide_eq_true (show (sortI s.lo).length<100000 by omega)];rfl
 refine pB (b:=NH) (t1 U U U) U (vG ?_);refine pB (b:=NH) (t2 U U) U (vG ?_);refine pB (b:=NH) (t3 U U U U) U (vG ?_);refine pB (b:=NH) t4 U (vG ?_);refine Gs (bZ (aL U (fQ U (by decide)) (Nj (sortI s.lo)))) (λhb=>?_) (λhb=>vG (aCf _));have hl0:0<(sortI s.lo).length:=by
  rcases V1 (sortI s.lo).length with z | z
  ·rw[List.length_eq_zero_iff.mp z]at hb;cases hb
  ·exact z
 have x0:=E6 c (show ((sortI s.lo).length:Int)≠0 by omega);have x1:=E7 c (show 0<((sortI s.lo).length:Int) by omega);obtain⟨y,hy⟩:∃y,(sortI s.lo)[(c%((sortI s.lo).length:Int)).toNat]?=ND y:=⟨_,B6 (show (c%((sortI s.lo).length:Int)).toNat<(sortI s.lo).length by omega)⟩
 have hyl:=(h.yc y).mp ((jJ s.lo).1.mem_iff.mp (D9 hy));rw[uC];refine cN (d:=.int (s.key y)) (hrec U (aL U (aL U (dU (aB U U) (lB _)) (bG (by omega))) ((gW x0 x1).trans (by rw[mL hy]))) (by omega) hyl.2.1) (by exact Nat.le_of_ble_eq_true U) ?_;have hin:=aL (e:=rE [.fro (gA κ s),.fro (aH (s.od.map s.key)),.fro (.int s.rs.length),.fro (.int c),.own (aH s.od),.own (aH (sortI s.lo)),.no,.own (.int (s.key y)),.no,.no]) (f:=aD 7) (g:=aD 1) U U (Gv NG (s.key y) (s.od.map s.key));have hb1:=aD1 (e:=rE [.fro (gA κ s),.fro (aH (s.od.map s.key)),.fro (.int s.rs.length),.fro (.int c),.own (aH s.od),.own (aH (sortI s.lo)),.no,.own (.int (s.key y)),.no,.no]) (g:=aD 7) (K:=s.key y) U U;by_cases q:s.key y∈s.od.map s.key
 ·rw[if_pos U,decide_eq_true q]at hin;exact pB (b:=NH) (WM (bZ hin)) U (vG (aCf _))
 ·rw[if_pos U,decide_eq_false q]at hin;rw[gone_none q]at hb1;exact pB (b:=NH) (Nb (bZ hin) (bZ (aL hb1 U (show zM NG (Kq none) .non=ND (.bl NH)from rfl)))) U (vG (aCf _))
theorem Wv:∀hs:List (List Int),pL (hs.map aH)=ND (hs.map λl=>.lst (l.map DV.int))
 | []=>by rw[J2];unfold pL;rfl
 | l::hs=>by
  have e:jO (aH l)=ND (.lst (l.map DV.int)):=by unfold aH jO;rw[xK];rfl
  rw[D3];unfold pL;rw[e,C4,Wv hs];rfl
theorem Ww:∀hs:List (List Int),gQ (hs.map λl=>DV.lst (l.map DV.int))≤1
 | []=>by rw[J2];unfold gQ;decide
 | l::hs=>by
  rw[D3];unfold gQ;have:=Ww hs;have e:(DV.lst (l.map DV.int)).depth=1:=by unfold DV.depth;rw[wU]
  omega
theorem ju(hs:List (List Int)):Il (.lst (hs.map aH)) (.lst (hs.map aH))=ND (.bl NG):=aBW (Wv hs) (by unfold DV.depth;have:=Ww hs;omega)
theorem aEQ{i:Nat}{π:FP}{as:List Ap}{e:DE}{p:List L2.Step}{r:List (Nat×List L2.Step)}(h:π e=ND p)(k:chP as e=ND r):chP (.ch i π::as) e=ND ((i,p)::r):=by show (π e).bind _=_;rw[h,C4,k];rfl
theorem aER{i:Nat}{π:FP}{as:List Ap}{eF eZ:DE}{r:List D}(k:rdP as eF eZ=ND r):rdP (.ch i π::as) eF eZ=ND r:=k
theorem aIw{f:FE}{as:List Ap}{eF eZ:DE}{d:D}{r:List D}(h:f eZ=ND d)(k:rdP as eF eZ=ND r):rdP (.rd f::as) eF eZ=ND (d::r):=by show (f eZ).bind _=_;rw[h,C4,k];rfl
theorem jw{j:Nat}{p:List L2.Step}{js:List (Nat×List L2.Step)}{env e0:EN}{d0 d:D}{f:D→SD}{ds:List D}(h:env[j]?.bind SD.hold=ND (d0,f))(h1:eO p d0=ND d)(k:wZ js (env.set j .no)=ND (ds,e0)):wZ ((j,p)::js) env=ND (d::ds,e0):=by show (env[j]?.bind SD.hold).bind _=_;rw[h,C4];show (eO p d0).bind _=_;rw[h1,C4,k];rfl
theorem aES{Pr:SR→Prop}{g1:GS}{env env':EN}(h:g1 env=.next env')(k:Pr (.next env')):Qs Pr (g1 env):=by unfold Qs;rw[h];exact k
theorem aD2{n:Nat}{k:Int}(h0:0≤k)(h1:k<(n:Int)):Up n k=ND k.toNat:=by unfold Up;rw[if_pos h0,if_pos h1]
def kD(s:Wb):D:=aH (s.od.map s.key)
noncomputable def aJQ(P R:Nat)(ns:List Int)(n:Nat)(env:EN):Prop:=∃(S:List Wb)(hs:List (List Int))(v1 v4 v6 v7 v8 v9 v10:SD),env=[.fro (aH ns),v1,.own (.int ((P*R:Nat):Int)),.own (.lst (S.map (gA κ))),v4,.own (.lst (S.map kD)),v6,v7,v8,v9,v10]∧S.length=2∧(∀s∈S,lG s∧s.n≤2*n∧s.rs.length=P*R)∧hs.length≤2*n∧((v6=.own (.lst (hs.map aH))∧v7=.own (.lst (hs.map aH)))∨(v6=.fro (.lst (hs.map aH))∧v7=.fro (.lst (hs.map aH))))
theorem aCg(ns:List Int)(hl:ns.length≤63)(hs:∀k∈ns,Small k):aGt κ [.lst (ns.map D.int)]=ND (.bl NG):=by
 suffices hh:∃d,aGt κ [.lst (ns.map D.int)]=ND d∧d=.bl NG by obtain⟨d,e,rfl⟩:=hh;exact e
 refine qU U ?_;unfold aIh;obtain⟨P,R,rs,bC,od,hb,B⟩:=aB7 (ns:=ns);have hlm:=zW P R rs bC;have h8:=B.p8;have h1:=B.p1;have r1:=B.r1;have r8:=B.r8;have hln:jP [bW (bJ P R rs bC)]=ND (.int P):=(Cj _).trans (by rw[hlm]);have w0':lG (Wb.first P R rs bC od):=B.ok;have hR0:(Wb.first P R rs bC od).rs.length=P*R:=B.len;have hin:=aB8 κ (bC:=bC) B;have p0:=Ni (P:=P) (R:=R) (cQ:=rs) (bC:=bC) (p:=0) h1;have hlp:=Hz (((D2 R).map λr=>rs.getD (0+P*r) [])++[[bC.getD 0 0]]);have hpl:=CQ (D9 p0);rw[hpl]at hlp;have ix0:dI (bW (bJ P R rs bC)) (.int 0)=ND (fU (((D2 R).map λr=>rs.getD (0+P*r) [])++[[bC.getD 0 0]])):=Ij (k:=0) p0;have gp0:eO [.ix 0] (bW (bJ P R rs bC))=ND (fU (((D2 R).map λr=>rs.getD (0+P*r) [])++[[bC.getD 0 0]])):=Ko (by rw[B8,p0];rfl);have o63:=w0'.aDY;have hod:(Wb.first P R rs bC od).od=od:=rfl;have hn0:(Wb.first P R rs bC od).n=0:=rfl;generalize hpD:((D2 R).map λr=>rs.getD (0+P*r) [])++[[bC.getD 0 0]]=pn at *;generalize bW (bJ P R rs bC)=sd at *;generalize Wb.first P R rs bC od=s0 at *;refine cN (d:=sd) (bR (aB U U) U hb) (by exact Nat.le_of_ble_eq_true U) ?_;have QT:∀{e:DE},e[1]?=ND (ND sd)→f2 sW (fL jP (aA (aD 1) aK)) (f2 zG (fL jP (aA (f2 dI (aD 1) (fC (.int 0))) aK)) (fC (.int 1))) e=ND (.int ((P*R:Nat):Int)):=λ{e} e1=>by rw[U1,show (R:Int)=((R+1:Nat):Int)-1 by omega];exact aL (dU (aB (cI e1) U) hln) (aL (dU (aB (aL (cI e1) U ix0) U) hlp) U (jT _ _)) (gG (Ek (by omega) (by omega)))
 refine cN (d:=.int ((P*R:Nat):Int)) (QT U) (by exact Nat.le_of_ble_eq_true U) ?_;refine cN (d:=.lst ([s0,s0].map (gA κ))) (fQ (aB (Qq (aB U U) hin) (aB (Qq (aB U U) hin) U)) (by show 2≤_;decide)) (by exact Nat.le_of_ble_eq_true U) ?_;have hkeys:gF (lM (bK (κ 1) "order" 1 (cC κ) (f2 dI (aD 3) (fC (.int 0))) aK [])) [3] jN (cO (f2 dI (bK (κ 1) "record_of" 2 (aW κ) (f2 dI (aD 1) (fC (.int 0))) (aA (aD 0) aK) []) (fC (.int 0)))) (rE [.fro (aH ns),.own sd,.own (.int ((P*R:Nat):Int)),.own (.lst ([s0,s0].map (gA κ))),.no,.no,.no,.no,.no,.no,.no])=ND (aH (s0.od.map s0.key)):=by
  have hc:=tO (fi:=lM (bK (κ 1) "order" 1 (cC κ) (f2 dI (aD 3) (fC (.int 0))) aK [])) (fr:=[3]) (fc:=jN) (fe:=cO (f2 dI (bK (κ 1) "record_of" 2 (aW κ) (f2 dI (aD 1) (fC (.int 0))) (aA (aD 0) aK) []) (fC (.int 0)))) (e:=rE [.fro (aH ns),.own sd,.own (.int ((P*R:Nat):Int)),.own (.lst ([s0,s0].map (gA κ))),.no,.no,.no,.no,.no,.no,.no]) (ms:=s0.od) (λ_=>NG) s0.key (iV (bL (nm:=sI) (aL U U (nZ (by decide) U)) (by decide +kernel) U U (Ig κ s0))) (by omega) (λ_ _=>rfl) λx hx _=>by have hx:=w0'.Kr x hx;exact bH (aL (bL (nm:=sI) (aL U U (nZ (by decide) U)) (by decide +kernel) (aB U U) U (jX κ w0' (by omega) hx.2)) U (rG (k:=0) (by rw[w0'.five (by omega) hx.2];decide))) U
  rw[N0.mpr λ_ _=>rfl]at hc;exact hc
 refine cN (d:=aH (s0.od.map s0.key)) hkeys (by exact Nat.le_of_ble_eq_true U) ?_;refine cN (d:=.lst ([s0,s0].map kD)) (fQ (aB (dU (aB U U) (oR (cV _))) (aB (dU (aB U U) (oR (cV _))) U)) (by show 2≤_;decide)) (by exact Nat.le_of_ble_eq_true U) ?_;refine Tp (Zf (p:=[.ix 0]) (d0:=sd) (k:=0) (ds:=pn.map dTup) U U gp0 U (oE (aB U (aB U (aB (pZ U) (aB (pZ U) (aB U U))))) (by show 5≤_;decide)) (by decide) (by rw[B7,hpl];omega)) ?_;generalize dR [L2.Step.ix 0] sd _=sd';refine cN (d:=.lst []) (fQ U (by decide)) (by exact Nat.le_of_ble_eq_true U) ?_;refine cN (d:=.lst []) (fQ U (by decide)) (by exact Nat.le_of_ble_eq_true U) ?_;obtain⟨cells,hcells,c1⟩:∃cells:List Int,gF (lM (xx NH (aD 0) (qR (fC (.int 3))) (qR (fC (.int 63))))) [] jN (dD 1 lW (aA (aD 0) aK)) (zE [.fro (aH ns),.own sd',.own (.int ((P*R:Nat):Int)),.own (.lst ([s0,s0].map (gA κ))),.own (aH (s0.od.map s0.key)),.own (.lst ([s0,s0].map kD)),.own (.lst []),.own (.lst []),.no,.no,.no])=ND (aH cells)∧cells.length≤60:=by have hsp:∀c:Int,∃s:Int,0≤s∧lW [.int c]=ND (.int s):=xf;refine⟨((ns.drop 3).take 60).map λc=>(hsp c).choose,?_,by rw[B7,J0,O8];omega⟩;have:=tO (fi:=lM (xx NH (aD 0) (qR (fC (.int 3))) (qR (fC (.int 63))))) (fr:=[]) (fc:=jN) (fe:=dD 1 lW (aA (aD 0) aK)) (e:=zE [.fro (aH ns),.own sd',.own (.int ((P*R:Nat):Int)),.own (.lst ([s0,s0].map (gA κ))),.own (aH (s0.od.map s0.key)),.own (.lst ([s0,s0].map kD)),.own (.lst []),.own (.lst []),.no,.no,.no]) (ms:=(ns.drop 3).take 60) (λ_=>NG) (λc=>(hsp c).choose) (iV ((MJ U (Jr U) (Jr U)).trans (by rw[show (3:Int)=((3:Nat):Int)from rfl,show (63:Int)=((63:Nat):Int)from rfl,aBA]))) (by rw[J0];omega) (λm hm=>rfl) λm hm _=>bR (aB U U) U (hsp m).choose_spec.2;rw[N0.mpr λ_ _=>rfl]at this;exact this
 refine aBy (xs:=cells.map D.int) (aJQ κ P R ns) U (iV hcells) ⟨[s0,s0],[],_,_,_,_,_,_,_,U,U,λs hs=>?_,C6 _,.inl ⟨U,U⟩⟩ ?_ ?_
 ·have e:s=s0:=by
   rcases C9.mp hs with z | z
   ·exact z
   ·exact E3.mp z
  rw[e];exact⟨w0',by omega,hR0⟩
 ·rintro n x env hx ⟨S,hs,v1,v4,v6,v7,v8,v9,v10,rfl,hS2,hS,hhl,hv⟩;refine⟨by walk_at "lt", ?_⟩;rw[B8]at hx;obtain⟨c,hc,rfl⟩:=lN hx;have hnc:=(D1.mp hc).1;have x0:=E6 c (show (2:Int)≠0 by decide);have x1:=E7 c (show (0:Int)<2 by decide);refine cN (d:=.int (c%2)) (aL U U (bG (by decide))) (by exact Nat.le_of_ble_eq_true U) ?_;generalize c%2=w at *;obtain⟨s,hs0⟩:∃s,S[w.toNat]?=ND s:=⟨_,B6 (show w.toNat<S.length by omega)⟩
  obtain⟨h,hn,hr⟩:=hS s (D9 hs0);obtain⟨s',kd,h',hn',hP',hr',hstep⟩:=aGP κ h (by omega) (c/2);have hr':=hr'.trans hr;have g3:(S.map (gA κ))[w.toNat]?=ND (gA κ s):=by rw[B8,hs0];rfl
  have g5:(S.map kD)[w.toNat]?=ND (kD s):=by rw[B8,hs0];rfl
  have hg:Vo (.ch 3 (Tj cW (aD 9))::.ch 5 (Tj cW (aD 9))::.rd (f2 sX (aD 8) (fC (.int 2)))::[]) (wD κ) [.fro (aH ns),v1,.own (.int ((P*R:Nat):Int)),.own (.lst (S.map (gA κ))),v4,.own (.lst (S.map kD)),v6,v7,.fro (.int c),.own (.int w),v10]=ND (kD s',[.fro (aH ns),v1,.own (.int ((P*R:Nat):Int)),.own (.lst ((S.map (gA κ)).set w.toNat (gA κ s'))),v4,.own (.lst ((S.map kD).set w.toNat kd)),v6,v7,.fro (.int c),.own (.int w),v10]):=by
   refine(aCc (ps:=[(3,[.ix w.toNat]),(5,[.ix w.toNat])]) (Lz:=[gA κ s,kD s]) (Vk:=[.int (c/2)]) (e0:=[.fro (aH ns),v1,.own (.int ((P*R:Nat):Int)),.no,v4,.no,v6,v7,.fro (.int c),.own (.int w),v10]) (aEQ (BX (p:=[]) (k:=w) U U x0) (aEQ (BX (p:=[]) (k:=w) U U x0) U)) (jw U (Ko g3) (jw U (Ko g5) U)) ?_ hstep).trans ?_
   ·exact aER (aER (aIw (aL (a:=.int c) (b:=.int 2) U U (eE (by decide) (by decide))) U))
   ·show ND (kD s',[SD.fro (aH ns),v1,.own (.int ((P*R:Nat):Int)),.own (dR [.ix w.toNat] (.lst (S.map (gA κ))) (gA κ s')),v4,.own (dR [.ix w.toNat] (.lst (S.map kD)) kd),v6,v7,.fro (.int c),.own (.int w),v10])=_;rw[Rt g3,Rt g5]
  have hsl:=xj (i:=5) (π:=cW) (g:=aD 9) (p:=[]) (k:=w) (ds:=(S.map kD).set w.toNat kd) (j:=w.toNat) hg U U U U (aD2 x0 (by rw[J5,B7];omega));have hsl:Eh 5 cW (aD 9) (Vo (.ch 3 (Tj cW (aD 9))::.ch 5 (Tj cW (aD 9))::.rd (f2 sX (aD 8) (fC (.int 2)))::[]) (wD κ)) [.fro (aH ns),v1,.own (.int ((P*R:Nat):Int)),.own (.lst (S.map (gA κ))),v4,.own (.lst (S.map kD)),v6,v7,.fro (.int c),.own (.int w),v10]=.next [.fro (aH ns),v1,.own (.int ((P*R:Nat):Int)),.own (.lst ((S.set w.toNat s').map (gA κ))),v4,.own (.lst ((S.set w.toNat s').map kD)),v6,v7,.fro (.int c),.own (.int w),v10]:=by rw[hsl,R7,R7,R4];rfl
  refine Tp hsl ?_;have hT:∀s∈S.set w.toNat s',lG s∧s.n≤2*(n+1)∧s.rs.length=P*R:=λt ht=>by
   rcases List.mem_or_eq_of_mem_set ht with z | z
   ·obtain⟨a,b,d⟩:=hS t z;exact⟨a,by omega,d⟩
   ·rw[z];exact⟨h',by omega,hr'⟩
  have hT2:(S.set w.toNat s').length=2:=by rw[J5];exact hS2
  have hTw:(S.set w.toNat s')[w.toNat]?=ND s':=by rw[F8,if_pos U,if_pos (by omega)]
  generalize S.set w.toNat s'=T at *;have i3:∀{k:Int} {t:Wb},0≤k→T[k.toNat]?=ND t→dI (.lst (T.map (gA κ))) (.int k)=ND (gA κ t):=λk0 e=>nZ k0 (by rw[B8,e];rfl);have i5:∀{k:Int} {t:Wb},0≤k→T[k.toNat]?=ND t→dI (.lst (T.map kD)) (.int k)=ND (kD t):=λk0 e=>nZ k0 (by rw[B8,e];rfl);have lk:∀{t:Wb} {k:Nat} (cc:Int),T[k]?=ND t→oO κ [gA κ t,kD t,.int ((P*R:Nat):Int),.int cc]=ND (.bl NG):=λ{t k} cc e=>by obtain⟨a,_,b⟩:=hT t (D9 e);rw[←b];exact aCe κ a cc
  refine pB (b:=NH) (rT (b:=NG) (bZ (bR (aB (aL U U (i3 x0 hTw)) (aB (aL U U (i5 x0 hTw)) (aB U (aB (aL U U (eE (by decide) (by decide))) U)))) U (lk (c/3) hTw)))) U (vG ?_);obtain⟨t,ht⟩:∃t,T[(1-w).toNat]?=ND t:=⟨_,B6 (show (1-w).toNat<T.length by omega)⟩
  have y0:0≤1-w:=by omega
  refine pB (b:=NH) (rT (b:=NG) (bZ (bR (aB (aL U (aL U U (jT _ _)) (i3 y0 ht)) (aB (aL U (aL U U (jT _ _)) (i5 y0 ht)) (aB U (aB (aL U U (eE (by decide) (by decide))) U)))) U (lk (c/5) ht)))) U (vG ?_);have hl6:∀{e:DE},e[6]?=ND (ND (.lst (hs.map aH)))→fB (f2 xu (fL jP (aA (aD 6) aK)) (fC (.int 6))) e=ND (decide ((hs.length:Int)<6)):=λe6=>bZ (aL (dU (aB (cI e6) U) ((Gq _).trans (by rw[B7]))) U (xH _ _));have told:∀{e:DE},e[3]?=ND (ND (.lst (T.map (gA κ))))→e[9]?=ND (ND (.int w))→kE (aA (bK (κ 1) "order" 1 (cC κ) (f2 dI (aD 3) (aD 9)) aK []) (aA (bK (κ 1) "free" 1 (eG κ) (f2 dI (aD 3) (aD 9)) aK []) aK)) e=ND (.lst ([s'.od,sortI s'.lo].map aH)):=λe3 e9=>fQ (aB (bL (nm:=sI) (aL (cI e3) (cI e9) (i3 x0 hTw)) (by decide +kernel) U U (Ig κ s')) (aB (bL (nm:=sI) (aL (cI e3) (cI e9) (i3 x0 hTw)) (by decide +kernel) U U (Ih κ h')) U)) (by show 2≤_;decide);have cmp:∀{e:DE},e[10]?=ND (ND (.lst ([s'.od,sortI s'.lo].map aH)))→gF (lM (aD 10)) [] jN (fL dList (aA (aD 0) aK)) e=ND (.lst ([s'.od,sortI s'.lo].map aH)):=λe10=>Br (ψ:=aH) (φ:=aH) (iV (cI e10)) (by show 2≤_;decide) λl _=>dU (aB U U) (oR (cV _));have cat:hs.map aH++[s'.od,sortI s'.lo].map aH=(hs++[s'.od,sortI s'.lo]).map aH:=G0.symm;have hlen:(hs++[s'.od,sortI s'.lo]).length≤2*(n+1):=by rw[C7];show hs.length+2≤_;omega
  have aD3:(hs.map aH).length+([s'.od,sortI s'.lo].map aH).length≤100000:=by rw[B7];show hs.length+2≤_;omega
  generalize [s'.od,sortI s'.lo].map aH=td at *;rcases hv with ⟨rfl,rfl⟩ | ⟨rfl,rfl⟩
  ·refine aBw (hl6 U) (λ_=>?_) λ_=>aBv ⟨_,U,T,hs,_,_,_,_,_,_,_,U,hT2,hT,by omega,.inl ⟨U,U⟩⟩;refine cN (d:=.lst td) (told U U) (by exact Nat.le_of_ble_eq_true U) ?_;refine Tp ((Cp (Ii (xs:=hs.map aH) (ys:=td) U U aD3) (by exact Nat.le_of_ble_eq_true U)).trans U) ?_;refine aES ((Cp (Ii (xs:=hs.map aH) (ys:=td) U (cmp U) aD3) (by exact Nat.le_of_ble_eq_true U)).trans U) ?_;rw[cat];exact⟨_,U,T,hs++[s'.od,sortI s'.lo],_,_,_,_,_,_,_,U,hT2,hT,hlen,.inr ⟨U,U⟩⟩
  ·refine aBw (hl6 U) (λ_=>?_) λ_=>aBv ⟨_,U,T,hs,_,_,_,_,_,_,_,U,hT2,hT,by omega,.inr ⟨U,U⟩⟩;refine cN (d:=.lst td) (told U U) (by exact Nat.le_of_ble_eq_true U) ?_;refine Tp ((Cp (Ii (xs:=hs.map aH) (ys:=td) U U aD3) (by exact Nat.le_of_ble_eq_true U)).trans U) ?_;refine aES ((Cp (Ii (xs:=hs.map aH) (ys:=td) U (cmp U) aD3) (by exact Nat.le_of_ble_eq_true U)).trans U) ?_;rw[cat];exact⟨_,U,T,hs++[s'.od,sortI s'.lo],_,_,_,_,_,_,_,U,hT2,hT,hlen,.inr ⟨U,U⟩⟩
 ·rintro env ⟨S,hs,v1,v4,v6,v7,v8,v9,v10,rfl,_,_,_,hv⟩;rcases hv with ⟨rfl,rfl⟩ | ⟨rfl,rfl⟩
  ·exact pC (aL U U (ju hs)) ⟨_,U,U⟩
  ·exact pC (aL U U (ju hs)) ⟨_,U,U⟩
end Rs

def PySem.W.Fast.tw4746671214306363185:Unit:=()
def PySem.W.Fast.tw11051121763964359709:Unit:=()
def PySem.W.Fast.tw16482016765961628873:Unit:=()
def PySem.W.Fast.tw673524236758844203:Unit:=()
def PySem.W.Fast.tw15654316433216342072:Unit:=()
def PySem.W.Fast.tw5265688614720142769:Unit:=()
def PySem.W.Fast.tw13886972779565161044:Unit:=()
def PySem.W.Fast.tw6512350869097414162:Unit:=()
def PySem.W.Fast.tw16172700997439675229:Unit:=()
def PySem.W.Fast.tw13708179489906045642:Unit:=()
def PySem.W.Fast.tw10620661209571621151:Unit:=()
def PySem.W.Fast.tw4143757743254387281:Unit:=()
def PySem.W.Fast.tw14034780940319923196:Unit:=()
def PySem.W.Fast.tw3600409563396180912:Unit:=()
def PySem.W.Fast.tw1293320354057449341:Unit:=()
def PySem.W.Fast.tw7423144777467631128:Unit:=()
def PySem.W.Fast.tw6365979595776068077:Unit:=()
def PySem.W.Fast.tw16453573953747579694:Unit:=()
def PySem.W.Fast.tw14597413685524358122:Unit:=()
def PySem.W.Fast.tw16807853510923566486:Unit:=()
def PySem.W.Fast.tw3094166564869601118:Unit:=()
def PySem.W.Fast.tw5853225116259112931:Unit:=()
def PySem.W.Fast.tw2613607600666057597:Unit:=()
def PySem.W.Fast.tw13087275374984396378:Unit:=()
def PySem.W.Fast.tw7492594398827932384:Unit:=()
def PySem.W.Fast.tw2465458192793803777:Unit:=()
def PySem.W.Fast.tw5122860032938552224:Unit:=()
def PySem.W.Fast.tw8899545344133184776:Unit:=()
def PySem.W.Fast.tw7388494096687219880:Unit:=()
def PySem.W.Fast.tw13178237793141681191:Unit:=()
def PySem.W.Fast.tw12332211822731111452:Unit:=()
def PySem.W.Fast.tw630480371488853601:Unit:=()
def PySem.W.Fast.tw9851257012704940073:Unit:=()
def PySem.W.Fast.tw17126702118882896696:Unit:=()
def PySem.W.Fast.tw9374910973162386437:Unit:=()
def PySem.W.Fast.tw6756064135959701741:Unit:=()
def PySem.W.Fast.tw7576702303215858060:Unit:=()
def PySem.W.Fast.tw12377876081664240092:Unit:=()
def PySem.W.Fast.tw15787757320377833651:Unit:=()
def PySem.W.Fast.tw9761226628836507512:Unit:=()
def PySem.W.Fast.tw6670995811858306502:Unit:=()
def PySem.W.Fast.tw3493895878159374002:Unit:=()
def PySem.W.Fast.tw16874184593595713675:Unit:=()
def PySem.W.Fast.tw14257683126087748947:Unit:=()
def PySem.W.Fast.tw14801902008560881128:Unit:=()
def PySem.W.Fast.tw9391810894089809923:Unit:=()
def PySem.W.Fast.tw11759240436278018751:Unit:=()
def PySem.W.Fast.tw13877038823891969083:Unit:=()
def PySem.W.Fast.tw17840769562569282678:Unit:=()
def PySem.W.Fast.tw18420512691829184749:Unit:=()
def PySem.W.Fast.tw4658730717594419465:Unit:=()
def PySem.W.Fast.tw10262508090952859878:Unit:=()
def PySem.W.Fast.tw6779761137046844440:Unit:=()
def PySem.W.Fast.tw16624967216186510586:Unit:=()
def PySem.W.Fast.tw13328394884615637492:Unit:=()
def PySem.W.Fast.tw812569722180533994:Unit:=()
def PySem.W.Fast.tw1462329038217064748:Unit:=()
def PySem.W.Fast.tw448378185848616321:Unit:=()
def PySem.W.Fast.tw9909651944094686107:Unit:=()
def PySem.W.Fast.tw1821750654706872129:Unit:=()
def PySem.W.Fast.tw12915659771688521125:Unit:=()
def PySem.W.Fast.tw7559947616953901075:Unit:=()
def PySem.W.Fast.tw15519586546299550543:Unit:=()
def PySem.W.Fast.tw1411743140266440917:Unit:=()
def PySem.W.Fast.tw11884862234007748865:Unit:=()
def PySem.W.Fast.tw12409934025078706564:Unit:=()
namespace Rs
open PySem L2
theorem CT{K:aF}{f:A7}{oc:A6}{od:Option A7}{fd:BG}{sl:Array (Option A6)}(l:K.lookup f=ND ⟨oc,od,.func fd,sl⟩):J9 K (.ref f)=NG:=by unfold J9;dsimp only;rw[l]
theorem CV{K:aF}{f:A7}{od:Option A7}{fd:BG}{sl:Array (Option A6)}(l:K.lookup f=ND ⟨.type "function", od,.func fd,sl⟩):O7 K (.ref f)=NG:=by
 unfold O7 l9;dsimp only;rw[l];show (ND (BY "function")==ND (BY "function"))=NG
 decide +kernel
theorem aJS{K:aF}{h:AM}{mg:Str→Option A6}{x:Str}{st:AH}{f:A7}{oc:A6}{od an:Option A7}{osl:Array (Option A6)}{kV doc pm cdv ct:A6}(X:K.In h)(G:h.Ns AV mg)(a:R1 K AV x=ND (ND (.ref f)))(l:K.lookup f=ND ⟨oc,od,.func (F6 x x (fP st) (cH st) (aM st) .none kV doc pm an cdv ct),osl⟩)(c:K4 K cdv x=NG):Raw K mg x st:=aFG X G a l c (CT l)
theorem rM{K:aF}{C f:A7}{nm q:Str}{st:AH}{kV dc pm cd ct:A6}{od an:Option A7}{sl:Array (Option A6)}(a:F3 K (.ref C) nm=ND (ND (.ref f)))(l:K.lookup f=ND ⟨.type "function", od,.func (F6 nm q (fP st) (cH st) (aM st) .none kV dc pm an cd ct),sl⟩) (c:K4 K cd q=NG):gB K C nm q st NH:=aDr a (CV l) l c (CT l)
theorem rD{K:aF}{C f T:A7}{nm q:Str}{st:AH}{kV dc pm cd ct ot:A6}{od an dt:Option A7}{sl s2:Array (Option A6)}{nt:Nat}(a:F3 K (.ref C) nm=ND (ND (.ref f)))(l:K.lookup f=ND ⟨.type "function", od,.func (F6 nm q (fP st) (cH st) (aM st) (.ref T) kV dc pm an cd ct),sl⟩) (c:K4 K cd q=NG) (t:K.lookup T=ND ⟨ot,dt,.seq #[.none] nt,s2⟩):gB K C nm q st NG:=aA9 a (CV l) l c (CT l) t
theorem rI{K:aF}{h:AM}{mg:Str→Option A6}(X:K.In h)(G:h.Ns AV mg){C f:A7}{cn q:Str}{st:AH}{kV dc pm cd ct:A6}{od an:Option A7}{sl:Array (Option A6)}(x:R1 K AV cn=ND (ND (.ref C)))(a:F3 K (.ref C) "__init__" = ND (ND (.ref f))) (l:K.lookup f=ND ⟨.type "function", od,.func (F6 "__init__" q (fP st) (cH st) (aM st) .none kV dc pm an cd ct),sl⟩) (c:K4 K cd q=NG) (m:T6 K C=NG) (k:J9 K (.ref C)=NG):JM K mg cn C q st:=aDs X G x a (CV l) l c m k
theorem cX{K:aF}{h:AM}{C:A7}{P:A7→Prop}{cn:Str}(X:K.In h)(a:R1 K AV cn=ND (ND (.ref C)))(p:P C):∃C,P C:=⟨C,p⟩
theorem cF{K:aF}{C:A7}{fn:List Str}(a:Q5 K C MH=NG)(b:R8 K C=NG)(c:V6 K C=NG)(d:F3 K (.ref C) "__setattr__" = ND (ND (.builtin "object.__setattr__"))) (e:∀x∈fn,F3 K (.ref C) x=ND none):iZ K C fn:=⟨⟨a,b,c,d⟩,e⟩
theorem walk{l:l5}{q:AI}{loose:List Str}{XP:(Str→Option A6)→AM→Prop}{YP:AL→AM→Prop}{d:DefRec}{K:Kx→aF}(hn:l.most=ND 63)(hdf:d.params.defaults=[])(hdn:d.name = "law")
  (hY:∀(w:AL)(h:AM),YP w h→(K w.params).In h)
  (F:∀(w:AL)(mg:Str→Option A6)(h:AM),(K w.params).In h→h.Ns AV mg→(∃C:A7,iZ (K w.params) C jQ∧JM (K w.params) mg "Bench" C "Bench.__init__" tR∧gB (K w.params) C "check_pane" "Bench.check_pane" qW NH∧gB (K w.params) C "strike" "Bench.strike" xT NH∧gB (K w.params) C "carve" "Bench.carve" uR NG∧gB (K w.params) C "check_place" "Bench.check_place" pR NH∧gB (K w.params) C "seen" "Bench.seen" Et NH∧gB (K w.params) C "check_change" "Bench.check_change" pG NH∧gB (K w.params) C "put" "Bench.put" Jw NG∧gB (K w.params) C "stone" "Bench.stone" uV NH)∧(∃C:A7,iZ (K w.params) C dF∧JM (K w.params) mg "Weaver" C "Weaver.__init__" uQ∧gB (K w.params) C "box_ahead" "Weaver.box_ahead" qX NH∧gB (K w.params) C "record_of" "Weaver.record_of" qY NH∧gB (K w.params) C "write" "Weaver.write" xU NH∧gB (K w.params) C "coming_in" "Weaver.coming_in" qZ NH∧gB (K w.params) C "write_tied" "Weaver.write_tied" pU NH∧gB (K w.params) C "link" "Weaver.link" An NH∧gB (K w.params) C "further_needs" "Weaver.further_needs" mY NH∧gB (K w.params) C "last_change" "Weaver.last_change" pH NH∧gB (K w.params) C "leave" "Weaver.leave" xV NG∧gB (K w.params) C "box_of" "Weaver.box_of" xW NH∧gB (K w.params) C "rewrite" "Weaver.rewrite" tX NG∧gB (K w.params) C "free" "Weaver.free" Aq NH∧gB (K w.params) C "going_out" "Weaver.going_out" rA NH∧gB (K w.params) C "enter" "Weaver.enter" sE NG∧gB (K w.params) C "order" "Weaver.order" xX NH)∧Raw (K w.params) mg "_law_cell" Qt∧Raw (K w.params) mg "_law_sizes" Js∧Raw (K w.params) mg "_law_mixed" Jt∧Raw (K w.params) mg "_law_record" Eo∧Raw (K w.params) mg "_law_built" vZ∧Raw (K w.params) mg "thing_at" Qw∧Raw (K w.params) mg "spot_of" Zi∧Raw (K w.params) mg "record_at" Ju∧Raw (K w.params) mg "string_of" Jv∧Raw (K w.params) mg "many_boxes" Ep∧Raw (K w.params) mg "loose_boxes" uP∧Raw (K w.params) mg "_law_spread" Es∧Raw (K w.params) mg "ripe_among" xR∧Raw (K w.params) mg "known" Zj∧Raw (K w.params) mg "_law_key" Zm∧Raw (K w.params) mg "_law_done" Ra∧Raw (K w.params) mg "_law_whole" Jx∧Raw (K w.params) mg "_law_numbers" uW∧Raw (K w.params) mg "_law_free" Hl∧Raw (K w.params) mg "_law_looked" xY∧Raw (K w.params) mg "law" vh∧mg "len" = none∧mg "abs" = none∧mg "list" = none∧mg "range" = none∧mg "all" = none∧mg "max" = none∧mg "sorted" = none∧mg "set" = none∧mg "tuple" = none∧mg "min" = none∧mg "isinstance" = none∧mg "bool" = none∧mg "int" = none∧iU mg "HEAD" (0)∧iU mg "NEXT" (1)∧iU mg "NEEDS" (3)∧iU mg "PANE" (0)∧iU mg "PLACE" (1)∧iU mg "THING" (2)∧iU mg "KEY" (0)∧iU mg "WAS" (2)∧iU mg "NOW" (3)∧iU mg "AGE" (4)) :
  o9 q loose XP YP l.row.toRowW d [] (λf vs=>l4 f vs):=by
 refine L2.su (n:=63) (k:=9) (x := "script") (CX:=λ_=>CZ) (sp:=λw=>spB (K w.params)) hn (by decide) hdf ⟨U,by decide,by decide⟩ hY ?_ (λ_ _ a ns hl hb _ hS=>⟨a,ns,U,hS,hl,hb,λ_=>rfl⟩) λ_ _ _ _ _ z=>z;intro w mg fa h KX G hmg;obtain⟨⟨C0,bD,RBenchInit,RBenchCheckPane,RBenchStrike,RBenchCarve,RBenchCheckPlace,RBenchSeen,RBenchCheckChange,RBenchPut,RBenchStone⟩,⟨C1,aP,RWeaverInit,RWeaverBoxAhead,RWeaverRecordOf,RWeaverWrite,RWeaverComingIn,RWeaverWriteTied,RWeaverLink,RWeaverFurtherNeeds,RWeaverLastChange,RWeaverLeave,RWeaverBoxOf,RWeaverRewrite,RWeaverFree,RWeaverGoingOut,RWeaverEnter,RWeaverOrder⟩,RLawCell,RLawSizes,RLawMixed,RLawRecord,RLawBuilt,RThingAt,RSpotOf,RRecordAt,RStringOf,RManyBoxes,RLooseBoxes,RLawSpread,RRipeAmong,RKnown,RLawKey,RLawDone,RLawWhole,RLawNumbers,RLawFree,RLawLooked,RLaw,gU,aGu,gH,jU,vq,aGv,oH,vy,XS,aGz,mD,aBH,aGA,Dp,wG,XH,aBE,XQ,Ka,Mh,aGw,aGx,aGy⟩:=F w mg h KX G;obtain⟨κ,e0,e1⟩:∃κ:Nat→A7,κ 0=C0∧κ 1=C1:=⟨(λn=>match n with | 0=>C0 | _=>C1),U,U⟩
 subst e0 e1;obtain⟨f,fd,FL,m⟩:=RLaw.ex;rw[hdn]at hmg;have e:=hmg.symm.trans m;cases e;refine⟨fd,VH FL (λ_ _ _ _ _ _ u=>rfl),λbase _ _=>?_⟩;have qI:=XC (P:=l.prog) (w:=w) (mg:=mg) (base:=base) RLawCell  gU;have Jy:=OD (P:=l.prog) (w:=w) (mg:=mg) (base:=base) RLawSizes qI;have mR:=OJ (P:=l.prog) (w:=w) (mg:=mg) (base:=base) RLawMixed;have xZ:=Zq (P:=l.prog) (w:=w) (mg:=mg) (base:=base) RLawRecord mR  aGu;have Kh:=PB (P:=l.prog) (w:=w) (mg:=mg) (base:=base) RLawBuilt Jy qI mR xZ  gH jU gU;have Eu:=Zr (P:=l.prog) (w:=w) (mg:=mg) (base:=base) RBenchInit bD  gH;have Rh:=XD (P:=l.prog) (w:=w) (mg:=mg) (base:=base) RThingAt;have By:=vp (P:=l.prog) (w:=w) (mg:=mg) (base:=base) RSpotOf  gU;have Ca:=PK (P:=l.prog) (w:=w) (mg:=mg) (base:=base) RRecordAt By Rh;have sS:=PL (P:=l.prog) (w:=w) (mg:=mg) (base:=base) RStringOf Ca  gH Dp wG;have pW:=Zt (P:=l.prog) (w:=w) (mg:=mg) (base:=base) RManyBoxes  gU;have Av:=Tq (P:=l.prog) (w:=w) (mg:=mg) (base:=base) RLooseBoxes sS pW  jU Dp;have uY:=Tr (P:=l.prog) (w:=w) (mg:=mg) (base:=base) RWeaverInit bD aP Eu pW By sS Av  jU;have Ff:=Zv (P:=l.prog) (w:=w) (mg:=mg) (base:=base) RLawSpread;have jE:=Hq (P:=l.prog) (w:=w) (mg:=mg) (base:=base) RBenchCheckPane bD  gU;have Ew:=Zw (P:=l.prog) (w:=w) (mg:=mg) (base:=base) RRipeAmong  vq gH XH;have yD:=Ri (P:=l.prog) (w:=w) (mg:=mg) (base:=base) RBenchStrike bD  aBE XQ Ka;have Ax:=Tt (P:=l.prog) (w:=w) (mg:=mg) (base:=base) RBenchCarve bD jE Ew yD  aGv;have jF:=Hr (P:=l.prog) (w:=w) (mg:=mg) (base:=base) RWeaverBoxAhead aP  Dp;have iK:=Ey (P:=l.prog) (w:=w) (mg:=mg) (base:=base) RBenchCheckPlace bD jE  gU;have Ez:=Zx (P:=l.prog) (w:=w) (mg:=mg) (base:=base) RBenchSeen bD iK  Ka;have aZ:=Ht (P:=l.prog) (w:=w) (mg:=mg) (base:=base) RWeaverRecordOf aP bD Ez;have gP:=Dc (P:=l.prog) (w:=w) (mg:=mg) (base:=base) RBenchCheckChange bD  gU;have Kd:=PX (P:=l.prog) (w:=w) (mg:=mg) (base:=base) RBenchPut bD iK gP  gH gU oH vy XS;have XX:=aBF (P:=l.prog) (w:=w) (mg:=mg) (base:=base) RKnown;have mU:=Rj (P:=l.prog) (w:=w) (mg:=mg) (base:=base) RWeaverWrite aP bD Kd XX;have rB:=Hu (P:=l.prog) (w:=w) (mg:=mg) (base:=base) RWeaverComingIn aP;have iM:=Fd (P:=l.prog) (w:=w) (mg:=mg) (base:=base) RWeaverWriteTied aP mU rB;have oW:=Tu (P:=l.prog) (w:=w) (mg:=mg) (base:=base) RWeaverLink aP aZ iM  Mh aGw aGx aGy;have cD:=zN (P:=l.prog) (w:=w) (mg:=mg) (base:=base) RWeaverFurtherNeeds bD aP gP  gH;have pJ:=Dd (P:=l.prog) (w:=w) (mg:=mg) (base:=base) RWeaverLastChange aP;have yF:=Rk (P:=l.prog) (w:=w) (mg:=mg) (base:=base) RWeaverLeave aP jF pJ cD oW aZ  wG;have gD:=Rm (P:=l.prog) (w:=w) (mg:=mg) (base:=base) RWeaverBoxOf aP aZ  Mh;have tY:=Kf (P:=l.prog) (w:=w) (mg:=mg) (base:=base) RWeaverRewrite aP aZ iM cD  Mh wG;have Ay:=Tv (P:=l.prog) (w:=w) (mg:=mg) (base:=base) RBenchStone bD  gH;have gJ:=Tw (P:=l.prog) (w:=w) (mg:=mg) (base:=base) RWeaverFree aP  oH;have BJ:=vz (P:=l.prog) (w:=w) (mg:=mg) (base:=base) RLawKey  gU;have rC:=Hx (P:=l.prog) (w:=w) (mg:=mg) (base:=base) RWeaverGoingOut aP;have yG:=Rn (P:=l.prog) (w:=w) (mg:=mg) (base:=base) RWeaverEnter aP cD aZ jF mU rC oW  gU aGz Mh wG;have Rq:=YC (P:=l.prog) (w:=w) (mg:=mg) (base:=base) RLawDone bD aP Ax Ay yF gD tY gJ BJ yG  gU oH;have dW:=Ro (P:=l.prog) (w:=w) (mg:=mg) (base:=base) RWeaverOrder aP  gH;have sU:=QB (P:=l.prog) (w:=w) (mg:=mg) (base:=base) RLawWhole  mD aBH aGA;have uX:=Ua (P:=l.prog) (w:=w) (mg:=mg) (base:=base) RLawNumbers sU  vq mD gH;have Rp:=YF (P:=l.prog) (w:=w) (mg:=mg) (base:=base) RLawFree aP dW  jU;have yH:=BL (P:=l.prog) (w:=w) (mg:=mg) (base:=base) RLawLooked aP dW gJ uX Rp aZ gD sU  gU vy oH gH jU;exact aGB FL aP Kh uY dW aZ Ff Rq yH gJ  gU gH (aCg κ)
end Rs
open PySem PySem.W PyProof.Rows
set_option maxRecDepth 100000 in
set_option maxHeartbeats 0 in
theorem PySem.Challenge.cw_ripestone_k30_order_and_free_holds : PySem.Challenge.rw_ripestone_k30_order_and_free.Holds := by
 w_on;o_law;k_head;(case hw=>w_witness2)
 k_fill
 refine Rs.walk (l:=PySem.Challenge.rw_ripestone_k30_order_and_free) U U U (λw h Y=>PySem.W.kIn_of Y) ?F
 case F=>
  intro w mg h KX G;refine⟨?_,?_,?_,?_,?_,?_,?_,?_,?_,?_,?_,?_,?_,?_,?_,?_,?_,?_,?_,?_,?_,?_,?_,G8 KX G ?_,G8 KX G ?_,G8 KX G ?_,G8 KX G ?_,G8 KX G ?_,G8 KX G ?_,G8 KX G ?_,G8 KX G ?_,G8 KX G ?_,G8 KX G ?_,G8 KX G ?_,G8 KX G ?_,G8 KX G ?_,?_,?_,?_,?_,?_,?_,?_,?_,?_,?_⟩
  ·refine' Rs.cX (cn := "Bench") KX ?xa0 ?zz0
   (case xa0=>k_is)
   refine⟨?_,?_,?_,?_,?_,?_,?_,?_,?_,?_⟩
   ·refine' Rs.cF ?fa0 ?fb0 ?fc0 ?fd0 ?fe0
    (case fa0=>k_is);(case fb0=>k_is);(case fc0=>k_is);(case fd0=>k_is)
    dsimp only[Rs.jQ]
    repeat' (first | refine b7.mpr ⟨?_,?_⟩ | exact c7 _ | k_is)
   ·refine' Rs.rI KX G ?ix0 ?ia0 ?il0 ?ic0 ?im0 ?ik0
    (case ix0=>k_is);(case ia0=>k_is);(case il0=>k_is);(case ic0=>k_is);(case im0=>k_is);(case ik0=>k_is)
   ·refine' Rs.rM ?a ?l ?c
    (case a=>k_is);(case l=>k_is);(case c=>k_is)
   ·refine' Rs.rM ?a ?l ?c
    (case a=>k_is);(case l=>k_is);(case c=>k_is)
   ·refine' Rs.rD ?a ?l ?c ?t
    (case a=>k_is);(case l=>k_is);(case c=>k_is);(case t=>k_is)
   ·refine' Rs.rM ?a ?l ?c
    (case a=>k_is);(case l=>k_is);(case c=>k_is)
   ·refine' Rs.rM ?a ?l ?c
    (case a=>k_is);(case l=>k_is);(case c=>k_is)
   ·refine' Rs.rM ?a ?l ?c
    (case a=>k_is);(case l=>k_is);(case c=>k_is)
   ·refine' Rs.rD ?a ?l ?c ?t
    (case a=>k_is);(case l=>k_is);(case c=>k_is);(case t=>k_is)
   ·refine' Rs.rM ?a ?l ?c
    (case a=>k_is);(case l=>k_is);(case c=>k_is)
  ·refine' Rs.cX (cn := "Weaver") KX ?xa1 ?zz1
   (case xa1=>k_is)
   refine⟨?_,?_,?_,?_,?_,?_,?_,?_,?_,?_,?_,?_,?_,?_,?_,?_,?_⟩
   ·refine' Rs.cF ?fa1 ?fb1 ?fc1 ?fd1 ?fe1
    (case fa1=>k_is);(case fb1=>k_is);(case fc1=>k_is);(case fd1=>k_is)
    dsimp only[Rs.dF]
    repeat' (first | refine b7.mpr ⟨?_,?_⟩ | exact c7 _ | k_is)
   ·refine' Rs.rI KX G ?ix1 ?ia1 ?il1 ?ic1 ?im1 ?ik1
    (case ix1=>k_is);(case ia1=>k_is);(case il1=>k_is);(case ic1=>k_is);(case im1=>k_is);(case ik1=>k_is)
   ·refine' Rs.rM ?a ?l ?c
    (case a=>k_is);(case l=>k_is);(case c=>k_is)
   ·refine' Rs.rM ?a ?l ?c
    (case a=>k_is);(case l=>k_is);(case c=>k_is)
   ·refine' Rs.rM ?a ?l ?c
    (case a=>k_is);(case l=>k_is);(case c=>k_is)
   ·refine' Rs.rM ?a ?l ?c
    (case a=>k_is);(case l=>k_is);(case c=>k_is)
   ·refine' Rs.rM ?a ?l ?c
    (case a=>k_is);(case l=>k_is);(case c=>k_is)
   ·refine' Rs.rM ?a ?l ?c
    (case a=>k_is);(case l=>k_is);(case c=>k_is)
   ·refine' Rs.rM ?a ?l ?c
    (case a=>k_is);(case l=>k_is);(case c=>k_is)
   ·refine' Rs.rM ?a ?l ?c
    (case a=>k_is);(case l=>k_is);(case c=>k_is)
   ·refine' Rs.rD ?a ?l ?c ?t
    (case a=>k_is);(case l=>k_is);(case c=>k_is);(case t=>k_is)
   ·refine' Rs.rM ?a ?l ?c
    (case a=>k_is);(case l=>k_is);(case c=>k_is)
   ·refine' Rs.rD ?a ?l ?c ?t
    (case a=>k_is);(case l=>k_is);(case c=>k_is);(case t=>k_is)
   ·refine' Rs.rM ?a ?l ?c
    (case a=>k_is);(case l=>k_is);(case c=>k_is)
   ·refine' Rs.rM ?a ?l ?c
    (case a=>k_is);(case l=>k_is);(case c=>k_is)
   ·refine' Rs.rD ?a ?l ?c ?t
    (case a=>k_is);(case l=>k_is);(case c=>k_is);(case t=>k_is)
   ·refine' Rs.rM ?a ?l ?c
    (case a=>k_is);(case l=>k_is);(case c=>k_is)
  iterate 21
   ·refine' Rs.aJS KX G ?a ?l ?c
    (case a=>k_is);(case l=>k_is);(case c=>k_is)
  iterate 13
   ·k_is
  ·refine' L2.nJ KX G ?a
   (case a=>k_is)
  ·refine' L2.nJ KX G ?a
   (case a=>k_is)
  ·refine' L2.nJ KX G ?a
   (case a=>k_is)
  ·refine' L2.nJ KX G ?a
   (case a=>k_is)
  ·refine' L2.nJ KX G ?a
   (case a=>k_is)
  ·refine' L2.nJ KX G ?a
   (case a=>k_is)
  ·refine' L2.nJ KX G ?a
   (case a=>k_is)
  ·refine' L2.nJ KX G ?a
   (case a=>k_is)
  ·refine' L2.nJ KX G ?a
   (case a=>k_is)
  ·refine' L2.nJ KX G ?a
   (case a=>k_is)
#print axioms PySem.Challenge.cw_ripestone_k30_order_and_free_holds
