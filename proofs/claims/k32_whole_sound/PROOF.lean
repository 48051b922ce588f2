import PyProof.Rows.All
import Wide.All
import OpenK.AllK
import Wide.FinOn
import Lean
import PyProof.EqAt
import PyProof.EqKinds
import PyProof.TupleCall
import PySem.Challenge.RW_ripestone_k32_whole_sound
macro"~"t:term:tactic=>`(tactic|exact $t)
macro"&"t:term:tactic=>`(tactic|refine $t)
macro"A6":term=>`(by omega)
macro"A7":term=>`(by decide +kernel)
macro"A8":term=>`(by decide)
macro"A9":term=>`(by exact Nat.le_of_ble_eq_true rfl)
macro"B4"i:(ppSpace colGt ident)+ l:(Lean.Parser.Tactic.location)?:tactic=>`(tactic|unfold $i* $[$l]?)
macro"B3"p:Lean.Parser.Tactic.rcasesPatMed":="t:term:tactic=>`(tactic|obtain $p := $t)
macro"B3"p:Lean.Parser.Tactic.rcasesPatMed":"y:term":="t:term:tactic=>`(tactic|obtain $p : $y := $t)
open Lean.Parser.Command in
macro"B5"n:declId s:declSig v:declVal:command=>`(command|theorem $n $s $v)
open Array renaming length_toList→L3,getElem?_toList→M8,getElem?_eq_getElem→O4,getD→Q3,getElem_toList→W8,toList_push→o8,toList→AA
open Bool renaming false_ne_true→E8,and_eq_true→J2,eq_iff_iff→M7,false_eq_true→X9,eq_false_iff→Y7,and_false→i5,or_eq_true→u7,false_and→x9,or_false→z6
open Int renaming toNat_natCast→C7,emod_nonneg→F2,emod_lt_of_pos→G0,le_of_lt→M3,natCast_nonneg→O3,pow_pos→Q5,toNat_of_nonneg→T7,natCast_mul→U1,zero_add→a8,natCast_emod→b8,natCast_ediv→b9,le_refl→g6,mul_nonneg→j5
open Int.ofNat renaming inj→z9
open List renaming getElem?_eq_getElem→B6,getD_eq_getElem?_getD→B7,length_map→B8,mem_cons→B9,getElem?_map→C5,mem_cons_of_mem→C6,mem_cons_self→C8,length_append→D1,mem_singleton→D2,size_toArray→D3,getElem?_eq_some_iff→D4,range→D5,mem_of_getElem?→D6,getElem?_eq_none→D9,length_range→E1,map_cons→E2,length_cons→E3,mem_append_right→E5,replicate→E9,append_nil→F0,nodup_cons→F1,mem_append_left→F5,pairwise_cons→F6,mem_range→F7,mem_append→F8,getElem?_append_left→F9,getElem_of_mem→G6,length_take→G7,getElem?_set→G8,getElem?_range→I0,mem_map→J4,length_set→J5,map_append→J6,getElem?_append_right→J7,pairwise_iff_getElem→J8,getElem?_set_self→K0,zipWith_cons_cons→K1,mem_filter→K3,ext_getElem?→K5,pairwise_append→K6,map_nil→K9,getElem_mem→L0,mem_of_mem_take→L7,drop_eq_getElem_cons→L8,take_append_drop→M0,map_map→M4,take_sublist→M6,eq_nil_of_length_eq_zero→N1,all_eq_true→N3,not_mem_nil→N5,eraseIdx_cons_succ→N7,filter_nil→N9,length_drop→O1,getElem?_replicate→O7,filter_cons_of_pos→O8,filter_cons_of_neg→O9,take_length→P1,take_of_length_le→P2,filter_append→P6,length_replicate→P7,find?_cons→P8,append_assoc→P9,nodup_append→Q1,take_add_one→Q2,erase_cons_tail→Q4,any_eq_true→Q9,cons_append→R1,filter_sublist→R3,filter_eq_self→R4,getElem?_cons_succ→R5,zip_cons_cons→R7,zipWith→R9,zipWith_nil_left→S0,drop_length→S8,getLast?_concat→S9,lookup→T1,filterMap_cons→T3,replicate_succ→T4,map_congr_left→T5,getD_cons_succ→T6,length_pos_iff→T8,length_zip→T9,getLast?_eq_getElem?→U0,getElem?_drop→U3,getElem?_take→U6,foldl_append→V1,pairwise_map→V2,filter_congr→V3,getElem_take→V4,pairwise_lt_range→V5,any_cons→V6,lookup_cons→V7,eraseIdx_sublist→W0,eraseIdxIfInBounds_toArray→W3,erase_eq_eraseIdx_of_idxOf→W4,getElem?_set_ne→W5,idxOf_cons→W9,mem_of_getLast?→X0,map_set→X1,mem_of_mem_drop→X2,idxOf_cons_self→X3,mem_of_mem_tail→X5,idxOf_lt_length_of_mem→Y0,length_eraseIdx_of_lt→Y1,getLast?_map→Y8,ext_getElem→Z7,length_erase_of_mem→Z8,set_set→Z9,getElem_map→a7,of_mem_zip→d8,nil_append→d9,range_succ→e9,length→f7,drop_eq_nil_of_le→g8,filter_eq_nil_iff→g9,length_singleton→i3,nodup_nil→i4,drop_zero→i9,reverse_reverse→j6,forall_mem_cons→j8,map_take→k7,map_drop→k8,take_succ_cons→l3,forall_mem_nil→l4,mem_filterMap→l6,getElem_idxOf→n8,erase_sublist→n9,reverse_cons→o6,drop_sublist→o7,getElem_drop→p6,getElem_zip→t7,filter_cons→t8,nodup_range→u4,filter_map→x6,foldl_cons→x8,all_cons→z7
open List.Pairwise renaming nil→o9,map→p5
open List.Perm renaming refl→U8,append_left→i6,swap→y8
open List.cons renaming inj→k9
open Nat renaming le_refl→C9,lt_of_lt_of_le→E7,ne_of_lt→F3,le_trans→G1,lt_or_ge→G4,not_lt_zero→J9,zero_le→L5,lt_irrefl→L9,lt_succ_self→N2,zero_add→N6,lt_succ_of_lt→N8,le_of_ble_eq_true→O2,le_succ→O5,le_of_lt→P4,mul_le_mul→Q6,ne_of_gt→Q7,lt_of_le_of_lt→R6,mod_lt→R8,sub_self→S5,succ_le_succ→S7,div_lt_of_lt_mul→T0,mul_pos→T2,le_add_right→V8,mod_add_div→X4,add_mul_mod_self_left→Z5,sub_zero→a9,add_mul_div_left→j7,le_of_eq→l7,min_self→m7,eq_zero_or_pos→m8,pos_of_ne_zero→m9,mod_eq_of_lt→t9,div_eq_of_lt→u3,div_add_mod→w9,le_antisymm→x4,lt_succ_iff→x5
open Nat.succ renaming inj→AB
open Option renaming bind_some→C4,map_some→J3,getD_some→P0,isSome_iff_exists→U2,isSome_map→Y6,map_eq_none_iff→g7,isSome_some→l9,getD_none→r6,map_map→y9,none→AD
open Option.some renaming inj→E6
open Or renaming inr→D7,inl→D8
open Prod renaming ext→r9
open PyProof.Rows renaming boot_list→K2,callWith_type1→L4,boot_all→M9,boot_sorted→U7,callWith_builtin1→W7,boot_tuple→c8,boot_int→j4
open PyProof.Rows.F renaming plain_set_update_loop→P5,entry_set_update_loop→U5
open PySem renaming boot_len→E4,mem_of_lookup→O0,Within→l5,call→u8
open PySem.F renaming plainAttrs_list→F4,slot_list_append→J0,type_list_append→J1,called_set→N4,slot_dict_get→V9,plain_extend_loop→Y9,slot_list_remove→b6,type_list_remove→b7,args_dict_get_2→c6,plain_list_iadd→c7,slot_list_index→c9,type_list_index→d6,entry_dict_get→f9,plain_set_new→i7,slot_set_iter→i8
open PySem.W renaming findIn→G3,fnOf→G5,mg_none_of→G9,kitOne→K4,keepIn→K7,kia_one→K8,codeIn→L6,emptyDict→M5,instObj→O6,isFn→Q8,plainGet→S6,nsIn→U4,hasDictIn→U9,makesIn→W6,plainGet_of→X6,lookIn→X7,callWith_K→X8,methodObj→Y2,plainOver→Y3,specialIn→Y4,kitx_list→Y5,takerIn→d7,cellsFrom_some→f6,methodCall_KW→h9,mg_of→j9,kitx_tuple→l8,kitx_dict→o0,handedIn→p7,hideAll→u5,takesIn→u6,OpenLaw→u9,typeIn→y4,kitCls→y6,mroIn→z5,WalkO→z8
open Sum renaming inl→G2,inr→Z6
theorem U.{u}{α:Sort u}{a:α}:a=a:=rfl
macro"NW":term=>`(by first | exact Or.inl rfl | exact Or.inr rfl)
open Bool renaming true→NU,false→NV
open Option renaming some→NR
open PyProof.Rows renaming envOfC→CH,AllBare→Da,IntsAre→EL,firstMet→Fa,subscriptTail_builtinR→GH,subscriptTail→HL,firstMet_succ→HM,seqObj→IE,firstMet_length_le→II,Subscript_→JI,firstMet_zero→LF
open PySem renaming Value→AE,Addr→AF,Shared→AG,wpAny_bind→AH,starEach→AJ,Expr→AK,wpAny→AL,model→AM,Stmt→AO,Program→AQ,World→AS,eval→AU,Around→AV,compareOp→AY,bootBuiltins→AZ,mainGlobals→As,backTo→Au,wpAny_mono→BA,wpAny_truthy_bool→BC,foldedSetIterable→BD,wpAny_Call_Name_kw→BF,cLine→BG,Scope→BQ,FuncData→BU,wpAny_call_entry→CA,sysModules→CB,wpAny_passesOwn→CC,wpAny_holding→CD,wpAny_newObj_type→CI,wpAny_setState_of→CL,keywordEach→CU,wpAny_askSetting→CY,wpAny_setEntries_of→Cb,wpAny_callSpecial?_slot→Ch,codeAny→Cn,attributeBase→Co,tupleKind_room_in1→DA,scanBound→DB,codeAny_builtin→DC,wpAny_ite_split→DD,wpAny_pyIter_list→DF,holding→DI,codeAny_mono→DJ,wpAny_setField→DL,swapsWith→DO,pyNext→DU,sliceBounds→Dx,wpAny_of_eq→EA,Builtin→EB,PassesOwn→EC,binaryOp→ED,getMethod→EE,backToKw→EF,CmpOp→EH,plainId_quiet→EI,bindArgs→EJ,standAt→EK,wpAny_execs_nil→EM,assignEach→EO,letOwnedTupleGo→ER,rawInt→ES,relayAll→ET,wpAny_fieldsOf→EU,tupleKind→EV,assign→EW,wpAny_attempt→Ee,fits_of_scanBound→FD,call_meets→FG,Keyword→FH,valueAt→FI,callerA→FM,setNext→FR,Result→FU,callWith→FV,NameKind→FX,wpAny_comprehension_free→FY,wpAny_isInstance→Fk,atKey→Fs,sizeLine_eq→Fu,seqIndex_of→GA,subscripted→GG,wpAny_isTrue_Compare1→GL,BindsTo→GN,getItem→GO,relabel→GU,builtinLookup_eq_fast→GV,isSubtype_type→GW,bindL→GY,bindC→Go,setsByText→HE,wpAny_standAt→HI,ExceptHandler→HP,isTrue→HZ,pyIter→He,lastMarks→IA,seqIndex_neg→ID,pickOrder→IH,wpAny_assign_Name→IL,wpAny_storeSet_of→IM,wpAny_pyIter_slot→IP,wpAny_setEpoch_of→IQ,GenState→IT,wpAny_execs_cons→IU,wpAny_Dict_empty→IX,wpAny_pyIter_zip→IY,builtinsNs→IZ,Drawn→Ic,Model→Iq,wpAny_Name→Iy,wpAny_load→JA,wpAny_call→JE,wpAny_specialOf→JJ,intKind_is→JU,wpAny_rule→JY,codeAny_of_tree→Jn,typeLookup_type→KA,wpAny_updateSeq→KB,wpAny_Compare1→KE,recursionLimit→KF,fitsIndex_both→KG,ElemsOf→KI,wpAny_runValue→KM,entryFor_alias→KO,firstArgMember→KP,isSubtype_stop→KS,wpAny_seqItems→KU,cellsFrom→KW,seqIndex?→Ki,drawOrder→Kj,rangeSize_one→Kn,intBits_le_64→Kt,evalPart_none→Kx,call_list_seq→LA,signature?_of→LH,call_range_2→LL,call_meetsIn→LM,Params→LN,compEnvC→LO,setAddHashed→LS,entryFor→LU,argsOk→LV,wpAny_typeOf→LY
open PySem.Around renaming under_plainId→CS,under→IB
open PySem.AutoSeq1 renaming list_insert_list_int_val_1→IJ
open PySem.Builtin.Frozenset renaming updateFrom→KL,newClass→LD,addrOf→LW,sizeOf→LX,slot0→Ll
open PySem.Builtin.Int renaming intBits→Cf
open PySem.Builtin.List renaming listExtendWith→DT,listLengthHint→EX,listSameRef→Fm
open PySem.Builtin.Range renaming rangeSize→LZ
open PySem.Calls renaming spliced_cons→BY,spliced_nil→CF,Name_function_global→EZ,callWith_builtin→GI,evalArgs_plain→HA
open PySem.Code renaming isFrame→IC,frames→Lv
open PySem.DictEntry renaming refKey→Mo
open PySem.Heap renaming get?_push_of_some→AI,lt_size→AN,get?_push_size→AR,size_push→BE,get?_update_self→BN,get?_update_other→BT,SameBut→Bi
open PySem.Heap.DictOf renaming new→NG
open PySem.Heap.IsSliceOf renaming new→MX
open PySem.Heap.Ns1 renaming of_empty→Mc
open PySem.Heap.SameBut renaming update→BI,refl→Mn
open PySem.IsRange renaming new→Lu
open PySem.Manifest renaming sig_set_iterator→LJ,owners→NI
open PySem.MeetsSeq renaming list_pop_at→MG,list_remove→MI,EqGives→ND
open PySem.MeetsSeq.EqGives renaming int→MH
open PySem.NameKind renaming free→BH,cell→NM
open PySem.Obj renaming data_mapFields→BO,isFreed_of_fields→DM,mapSeq→EG,cls_mapFields→FF,putSet→JO,mapFields→LI
open PySem.Paired renaming length→HG,snoc→MA
open PySem.PassesOwn renaming never→Ap
open PySem.SeqAt renaming EqAt→MB
open PySem.SeqAt.EqAt renaming int_str→HU,str_int→HV,none_bool→MC,bool_none→MD,bool_bool→ME,none_int→ML,none_str→MM,bool_int→MO,bool_str→MQ,int_none→MR,int_bool→MS,str_none→MU,str_bool→MV,int_int→MY,str_str→MZ,same→NF
open PySem.SetTable renaming below→AX,grown→Bz,has→IF,slot→LB,toList_insertAt→LP,fits_plain_off→Lc,orStandIn→Mb,freeSlot→Md,insertAt→Me,standIn→NA,advance→NC,relaid→NH,fresh→NJ,Probe→NL,laid→NN,fits→NO
open PySem.SetTable.below renaming go→DH
open PySem.SetTable.probe renaming go→FC
open PySem.Shared renaming TypeIs→LG
open PySem.Str renaming ofString→Fh,empty→MW
open PySem.Value renaming ref→AW,none→BM,bool→CM,type→CO,int→Ct,isInt_shape→FB,str→Fn,float→IS,isStrOf→Kk,isInt→Lm,bytes→Lo
open PySem.Walks renaming list→HC
open PySem.pickOrder renaming go→IG
set_option hygiene false
macro"NS":term=>`(XN.r (aM))
macro"NX":term=>`(aH (pv 0))
macro"NY":term=>`(s.ahead k)
macro"Na":term=>`(aH (pv 1))
macro"Nc":term=>`(λ_ _=>rfl)
macro"Nd":term=>`(List Int)
macro"Nl":term=>`(AM X.prog X.w)
macro"Nn":term=>`(hr.mono A8)
macro"Nw":term=>`(fC (.int 0))
macro"OA":term=>`(fC (.int 1))
macro"OB":term=>`(.jH U (by B4 Rv;rfl))
macro"OC":term=>`(aW.refl _)
macro"OE":term=>`(ns.map D.int)
macro"OF":term=>`(aU P R rs aQ)
macro"OG":term=>`(K w.params)
macro"OH":term=>`(x==("__debug__" : Str))
macro"OI":term=>`(jF X scope N cl fp s H C)
macro"OK":term=>`(aB (aD 0) aL)
macro"OL":term=>`(XN.r (dD dJ (dM U) U dZ E4 (aF NX aP)))
macro"OM":term=>`(aH (pv 2))
macro"ON":term=>`(AM prog w)
macro"OO":term=>`(wO (aB (cL (aD 2)) (aB (cL (aD 3)) (aB (cL (f2 cW (mR (aB (yM OA) (aB Nw (aB (fC (.int 5)) (aB (aD 4) aL))))) (f2 gH (f2 rR (aD 4) (fC (.int 90))) (fC (.int 4))))) (aB (cL (aD 5)) (aB (cL (aD 6)) aL))))))
macro"OP":term=>`(.ListComp elt [⟨tg,iter,ifs,0⟩] scope pos)
macro"OQ":term=>`(.int ((P*R:Nat):Int))
macro"OR":term=>`(List Nd)
macro"OS":term=>`(s1.trans s2)
macro"OT":term=>`(λa b=>kY (qY F4 J0 J1 jN a (cZ b jE)))
macro"OU":term=>`(dI I q (by simp))
macro"OV":term=>`(aB (aD 1) aL)
macro"OW":term=>`(Zn.self K H)
macro"OX":term=>`(.Assign [.Subscript a b pos'] e pos)
macro"OY":term=>`(iT (pv 0))
macro"OZ":term=>`(aB (aD 1) (aB (aD 2) aL))
abbrev aG:=PySem.W.Frag
B5 aZ{α:Type u_1}{b:α}{β:Type u_2}{x:Option β}{f:β→Option α}(h:x.bind f=NR b):∃a,x=NR a∧f a=NR b:=Option.bind_eq_some_iff.mp h
B5 kJ{α:Type u_1}{b:α}{β:Type u_2}{x:Option β}{f:β→α}(h:x.map f=NR b):∃a,x=NR a∧f a=b:=Option.map_eq_some_iff.mp h

set_option Elab.async false
set_option linter.all false
set_option maxRecDepth 100000
namespace L2
open PySem PySem.Spec PyProof.Rows
abbrev Key:=Sum Int Str
def Wu:Key→AE→Bool
 | .inl k,v=>Lm k v
 | .inr x,v=>Kk x v
def aLl(w:AS):Key→Int
 | .inl k=>hashInt k
 | .inr x=>hashStr w x
B5 iK:∀{k:Key} {v:AE},Wu k v=NU→(∃i t,k=G2 i∧v=Ct i t)∨(∃x t,k=Z6 x∧v=Fn x t)
 | .inl i,v,h=>by B3⟨t,e⟩:=FB (k:=i) (v:=v) h;~.inl ⟨i,t,U,e⟩
 | .inr x,v,h=>by B3⟨t,e⟩:=Value.isStrOf_shape (x:=x) (v:=v) h;~.inr ⟨x,t,U,e⟩
B5 aAa(i:Int)(t:Tok):Wu (.inl i) (.int i t)=NU:=by simp[Wu,Lm]
B5 aAb(x:Str)(t:Tok):Wu (.inr x) (.str x t)=NU:=by simp[Wu,Kk]
B5 aGY(a b:Int):decide ((G2 a:Key)=G2 b)=(a==b):=by
 by_cases e:a=b
 ·subst e;simp
 ·have h:¬(G2 a:Key)=G2 b:=λq=>e (Sum.inl.inj q);rw[decide_eq_false h];~(beq_eq_false_iff_ne.mpr e).symm
B5 aGZ(a b:Str):decide ((Z6 a:Key)=Z6 b)=decide (a=b):=by
 by_cases e:a=b
 ·subst e;simp
 ·have h:¬(Z6 a:Key)=Z6 b:=λq=>e (Sum.inr.inj q);rw[decide_eq_false h,decide_eq_false e]
B5 aG0(a:Int)(b:Str):decide ((G2 a:Key)=Z6 b)=NV:=decide_eq_false (λq=>nomatch q)
B5 aG1(a:Str)(b:Int):decide ((Z6 a:Key)=G2 b)=NV:=decide_eq_false (λq=>nomatch q)
def jB(prog:AQ)(w:AS):PySem.KeyKind prog w Key where
  is:=Wu
  hash:=aLl w
  inj:=λv a b ha hb=>by
    rcases iK ha with ⟨i,t,rfl,rfl⟩ | ⟨x,t,rfl,rfl⟩
    · rcases iK hb with ⟨j,u,rfl,e⟩ | ⟨y,u,rfl,e⟩
      · injection e with e1 _;rw[e1]
      · ~nomatch e
    · rcases iK hb with ⟨j,u,rfl,e⟩ | ⟨y,u,rfl,e⟩
      · ~nomatch e
      · injection e with e1 _;rw[e1]
  byValue:=λk v h=>by rcases iK h with ⟨i,t,rfl,rfl⟩ | ⟨x,t,rfl,rfl⟩<;>rfl
  pyHash:=λhv h=>by
    rcases iK hv with ⟨i,t,rfl,rfl⟩ | ⟨x,t,rfl,rfl⟩
    · ~wpAny_pyHash_int h
    · ~wpAny_pyHash_str h
  eqBool:=λhu hv h=>by
    rcases iK hu with ⟨i,t,rfl,rfl⟩ | ⟨x,t,rfl,rfl⟩
    · rcases iK hv with ⟨j,u,rfl,rfl⟩ | ⟨y,u,rfl,rfl⟩
      · rw[aGY]at h;~wpAny_eqBool_int h
      · rw[aG0]at h;~HU i t y u _ _ _ _ h
    · rcases iK hv with ⟨j,u,rfl,rfl⟩ | ⟨y,u,rfl,rfl⟩
      · rw[aG1]at h;~HV x t j u _ _ _ _ h
      · rw[aGZ]at h;~wpAny_eqBool_str h
  «strs»:=λk x t v h=>by
    rcases iK h with ⟨i,u,rfl,e⟩ | ⟨y,u,rfl,e⟩
    · ~nomatch e
    · injection e with e1 _
      subst e1;cases v<;>rfl
B5 MT(prog:AQ)(w:AS)(i:Int)(t:Tok):(jB prog w).is (.inl i) (.int i t)=NU:=aAa i t
B5 NB(prog:AQ)(w:AS)(x:Str)(t:Tok):(jB prog w).is (.inr x) (.str x t)=NU:=aAb x t
end L2
namespace L2
open PySem PySem.Spec PyProof.Rows
inductive V where
  | non | bl (b:Bool) | int (i:Int) | str (x:Str) | byt (b:Array UInt8) | flt (b:UInt64) | ref (a:AF) | ty (n:String)
  deriving DecidableEq
def RelV:V→AE→Prop
 | .non,u=>u=BM
 | .bl b,u=>u=CM b
 | .int i,u=>∃t,u=Ct i t
 | .str x,u=>∃t,u=Fn x t
 | .byt b,u=>∃t,u=Lo b t
 | .flt b,u=>∃t,u=IS b t
 | .ref a,u=>u=AW a
 | .ty n,u=>u=CO n
abbrev Vals:List V→List AE→Prop:=Paired RelV
B5 Vals.length{xs:List V}{us:List AE}(r:Vals xs us):xs.length=us.length:=HG r
B5 Vals.get:∀{xs:List V} {us:List AE} {i:Nat} {x:V},Vals xs us→xs[i]?=NR x→∃u,us[i]?=NR u∧RelV x u
 | _,_,_,_,.nil,e=>by simp at e
 | _,_,0,_,.cons r _,e=>by simp at e;subst e;~⟨_,rfl,r⟩
 | _,_,i+1,x,.cons _ t,e=>by B3⟨u,h1,h2⟩:=Vals.get (i:=i) (x:=x) t (by simpa using e);~⟨u,by simpa using h1,h2⟩
B5 Vals.set{x:V}{u:AE}(r:RelV x u):∀{xs:List V} {us:List AE} (i:Nat),Vals xs us→Vals (xs.set i x) (us.set i u)
 | _,_,_,.nil=>.nil
 | _,_,0,.cons _ t=>.cons r t
 | _,_,i+1,.cons q t=>.cons q (Vals.set r i t)
B5 Vals.append:∀{xs ys:List V} {us ws:List AE},Vals xs us→Vals ys ws→Vals (xs++ys) (us++ws)
 | _,_,_,_,.nil,s=>s
 | _,_,_,_,.cons r t,s=>.cons r (Vals.append t s)
B5 Vals.take:∀{xs:List V} {us:List AE} (n:Nat),Vals xs us→Vals (xs.take n) (us.take n)
 | _,_,0,_=>.nil
 | _,_,_+1,.nil=>.nil
 | _,_,n+1,.cons r t=>.cons r (Vals.take n t)
B5 Vals.drop:∀{xs:List V} {us:List AE} (n:Nat),Vals xs us→Vals (xs.drop n) (us.drop n)
 | _,_,0,r=>r
 | _,_,_+1,.nil=>.nil
 | _,_,n+1,.cons _ t=>Vals.drop n t
def zZ:Option V→Option AE→Prop
 | some v,NR u=>RelV v u
 | none,none=>True
 | _,_=>False
def KV{κ:Type}:List (κ×V)→List (κ×AE)→Prop:=Paired λ(p:κ×V) (q:κ×AE)=>p.1=q.1∧RelV p.2 q.2
def kV:Key→V
 | .inl i=>.int i
 | .inr x=>.str x
inductive HO where
  | lst (xs:List V)
  | tup (xs:List V)
  | dK (kvs:List (Key×V)) | dT (kvs:List (List Key×V))
  | set (S:Int→Bool) (n:Nat)
  | ins (C dx:AF) (fs:List (Str×V))
  | own (x:AF)
  | xd (fs:List (Str×V))
  | met (f x:AF)
  | rng (lo hi:Int)
  | Al (o:Obj) (u:HO)
  | tbl (ps:Array AE)
  | ext (φ:Heap→Prop)
abbrev Hp:=AF→Option HO
def upd(H:Hp)(a:AF)(o:HO):Hp:=λb=>if b=a then NR o else H b
B5 cA{H:Hp}{a:AF}{o:HO}:upd H a o a=NR o:=by B4 upd;rw[if_pos rfl]
B5 bQ{H:Hp}{a b:AF}{o:HO}(h:b≠a):upd H a o b=H b:=by B4 upd;rw[if_neg h]
B5 aJk{H:Hp}{a b:AF}{o u:HO}(h:H a=NR o)(h':H b=NR u)(d:o≠u):a≠b:=by intro e;subst e;rw[h]at h';~d (E6 h')
B5 iI{H:Hp}{a b:AF}{o:HO}(h:H a=NR o)(h':H b=none):a≠b:=by intro e;subst e;rw[h]at h';cases h'
section
variable(P:AQ)(w:AS)
def jU(H:Hp)(h:Heap)(a:AF):HO→Prop
 | .lst xs=>xs.length≤sizeLine∧∃(its:List AE)(n:Nat),Vals xs its∧h.get? a=NR {cls:=.type "list", data:=.seq its.toArray n}
 | .tup xs=>xs.length≤sizeLine∧∃its:List AE,Vals xs its∧IsTup h a its.toArray
 | .dK kvs=>kvs.length≤sizeLine∧(a==CB)=NV∧∃vs,KV kvs vs∧h.DictOf (jB P w) a vs
 | .dT kvs=>kvs.length≤sizeLine∧(a==CB)=NV∧∃xs:List (List Key×AF×AE),
   Paired (λ(p:List Key×V) (q:List Key×AF×AE)=>p.1=q.1∧H q.2.1=NR (.tup (p.1.map kV))∧RelV p.2 q.2.2) kvs xs ∧
   ∃o es ep,h.get? a=NR o∧o.ExactDict∧o.data=.dict es ep∧es.toList=xs.map (entryOfKey (EV (jB P w)))∧(xs.map (·.1)).Nodup
 | .set S n=>h.SetOf (intKind P w) a S n
 | .ins C dx fs=>H dx=NR (.own a)∧fs.length≤1000∧dx≠a∧h.get? a=NR (O6 C dx) ∧
   ∃mA,h.Ns1 dx mA∧(∀f,zZ (fs.lookup f) (mA f))∧l5 mA (fs.map (·.1))
 | .own _=>∃o,h.get? a=NR o
 | .xd fs=>∃mA,h.Ns1 a mA∧∀f,zZ (fs.lookup f) (mA f)
 | .rng lo hi=>∃t u v,h.get? a=NR {cls:=.type "range", data:=.fields #[.int lo t,.int hi u,.int 1 v]}
 | .Al o u=>h.get? a=NR o∧jU H h a u
 | .tbl ps=>h.get? a=NR {cls:=.none,data:=.fields ps}
 | .met f x=>h.get? a=NR (Y2 (.ref f) (.ref x))
 | .ext φ=>φ h∧(∃o,h.get? a=NR o)∧∀h1 h2:Heap,φ h1→(∀o,h1.get? a=NR o→h2.get? a=NR o)→φ h2
def Ew(H:Hp)(h:Heap):Prop:=∀a o,H a=NR o→jU P w H h a o
end
section
variable{P:AQ}{w:AS}{H H':Hp}{h h':Heap}{a:AF}{o:HO}
B5 jU.lt(x:jU P w H h a o):a<h.objs.size:=by
 cases o with
 | lst xs=>B3⟨_,_,_,_,e⟩:=x;~AN e
 | tup xs=>B3⟨_,_,_,p⟩:=x;~p.lt
 | dK kvs=>B3⟨_,_,_,_,o,_,_,e,_⟩:=x;~AN e
 | dT kvs=>B3⟨_,_,_,_,o,_,_,e,_⟩:=x;~AN e
 | set S n=>B3⟨o,_,_,_,e,_⟩:=x;~AN e
 | ins C dx fs=>B3⟨_,_,_,e,_⟩:=x;~AN e
 | own y=>B3⟨_,e⟩:=x;~AN e
 | xd fs=>B3⟨_,⟨_,_,_,e,_⟩,_⟩:=x;~AN e
 | rng lo hi=>B3⟨_,_,_,e⟩:=x;~AN e
 | Al ob u=>B3⟨e,_⟩:=x;~AN e
 | tbl ps=>~AN (show h.get? a=NR _ from x)
 | met f y=>~AN (show h.get? a=NR _ from x)
 | ext φ=>B3⟨_,⟨_,e⟩,_⟩:=x;~AN e
B5 Paired.aG2{α β:Type}{F G:α→β→Prop}:∀{l₁:List α} {l₂:List β},Paired F l₁ l₂→(∀a b,F a b→G a b)→Paired G l₁ l₂
 | _,_,.nil,_=>.nil
 | _,_,.cons r t,f=>.cons (f _ _ r) (Paired.aG2 t f)
B5 jU.stay(x:jU P w H h a o)(k:∀b u,(b=a∨H b=NR (.own a))→h.get? b=NR u→h'.get? b=NR u)
  (ho:∀b,H b=NR (.own a)→H' b=NR (.own a)) (ht:∀b xs,H b=NR (.tup xs)→H' b=NR (.tup xs)):jU P w H' h' a o:=by
 induction o with
 | lst xs=>B3⟨z,its,n,r,e⟩:=x;~⟨z,its,n,r,k _ _ (.inl U) e⟩
 | tup xs=>B3⟨z,its,r,ob,e,c⟩:=x;~⟨z,its,r,ob,k _ _ (.inl U) e,c⟩
 | dK kvs=>B3⟨z,y,vs,r,ob,es,ep,e,c⟩:=x;~⟨z,y,vs,r,ob,es,ep,k _ _ (.inl U) e,c⟩
 | dT kvs=>B3⟨z,y,xs,r,ob,es,ep,e,c⟩:=x;~⟨z,y,xs,Paired.aG2 r λp q z=>⟨z.1,ht _ _ z.2.1,z.2.2⟩,ob,es,ep,k _ _ (.inl U) e,c⟩
 | set S n=>B3⟨ob,es,ep,t,e,c⟩:=x;~⟨ob,es,ep,t,k _ _ (.inl U) e,c⟩
 | ins C dx fs=>B3⟨d,z,ne,e,mA,⟨od,es,ep,e2,c⟩,r⟩:=x;~⟨ho _ d,z,ne,k _ _ (.inl U) e,mA,⟨od,es,ep,k _ _ (.inr d) e2,c⟩,r⟩
 | own y=>B3⟨ob,e⟩:=x;~⟨ob,k _ _ (.inl U) e⟩
 | xd fs=>B3⟨mA,⟨od,es,ep,e,c⟩,r⟩:=x;~⟨mA,⟨od,es,ep,k _ _ (.inl U) e,c⟩,r⟩
 | rng lo hi=>B3⟨t,u,v,e⟩:=x;~⟨t,u,v,k _ _ (.inl U) e⟩
 | Al ob u ih=>B3⟨e,q⟩:=x;~⟨k _ _ (.inl U) e,ih q⟩
 | tbl ps=>have e:h.get? a=NR {cls:=.none,data:=.fields ps}:=x;show h'.get? a=NR {cls:=.none,data:=.fields ps};~k a _ (.inl U) e
 | met f y=>have e:h.get? a=NR (Y2 (.ref f) (.ref y)):=x;show h'.get? a=NR (Y2 (.ref f) (.ref y));~k a _ (.inl U) e
 | ext φ=>B3⟨p,⟨o,e⟩,st⟩:=x;~⟨st _ _ p λo q=>k _ _ (.inl U) q,⟨o,k _ _ (.inl U) e⟩,st⟩
B5 Ew.lt(x:Ew P w H h)(e:H a=NR o):a<h.objs.size:=(x a o e).lt
B5 Ew.fresh(x:Ew P w H h)(e:h.objs.size≤a):H a=none:=by
 cases q:H a with
 | none=>rfl
 | some u=>~absurd (E7 (x.lt q) e) (L9 _)
B5 Ew.kept(x:Ew P w H h)(k:∀b u,h.get? b=NR u→h'.get? b=NR u):Ew P w H h':=λa o e=>
 (x a o e).stay (λb u _ q=>k b u q) (λ_ q=>q) λ_ _ q=>q
B5 Ew.laid(x:Ew P w H h)(k:∀b u,h.get? b=NR u→h'.get? b=NR u)(hp:h.objs.size≤a)(new:jU P w (upd H a o) h' a o):Ew P w (upd H a o) h':=λb u e=>by
 have hn:=x.fresh hp;by_cases hb:b=a
 ·subst hb;rw[cA]at e;cases e;~new
 ·rw[bQ hb]at e;~(x b u e).stay (λc v _ q=>k c v q) (λc q=>by rw[bQ (iI q hn)];~q) λc xs q=>by rw[bQ (iI q hn)];~q
end
def Rd(H:Hp)(a:AF)(u:HO):Prop:=H a=NR u∨∃o,H a=NR (.Al o u)
B5 Rd.ok{P:AQ}{w:AS}{H:Hp}{h:Heap}{a:AF}{u:HO}(r:Rd H a u)(x:Ew P w H h):jU P w H h a u:=by
 rcases r with r | ⟨o,r⟩
 ·~x a u r
 ·B3⟨_,q⟩:=x a _ r;~q
def Mut:Option HO→Prop
 | some (.lst _)=>True
 | some (.dK _)=>True
 | some (.dT _)=>True
 | some (.set _ _)=>True
 | some (.ins _ _ _)=>True
 | some (.ext _)=>True
 | _=>False
section
variable{P:AQ}{w:AS}{H:Hp}{h h':Heap}{x e:AF}{o':HO}
B5 Ew.write(ok:Ew P w H h)(mu:Mut (H x))(he:e=x∨H e=NR (.own x))(k:∀b u,b≠e→h.get? b=NR u→h'.get? b=NR u)(heo:∃u,h'.get? e=NR u)
  (new:jU P w (upd H x o') h' x o'):Ew P w (upd H x o') h':=λb u q=>by
 have aJm:∀c y,H c=NR (.own y)→c≠x:=λc y r z=>by subst z;rw[r]at mu;~mu
 have aLm:∀c xs,H c=NR (.tup xs)→c≠x:=λc xs r z=>by subst z;rw[r]at mu;~mu
 by_cases hb:b=x
 ·subst hb;rw[cA]at q;cases q;~new
 ·rw[bQ hb]at q;by_cases hbe:b=e
  ·have q':H b=NR (.own x):=by
    rcases he with z | z
    ·~absurd (hbe.trans z) hb
    ·rw[hbe];~z
   rw[q]at q';cases q';B3⟨v,hv⟩:=heo;~⟨v,by rw[hbe];~hv⟩
  ·&(ok b u q).stay (λc v hc r=>k c v ?_ r) (λc r=>by rw[bQ (aJm c b r)];~r) λc xs r=>by rw[bQ (aLm c xs r)];~r
   rcases hc with rfl | hc
   ·~hbe
   ·rintro rfl;rcases he with z | z
    ·~aJm c b hc z
    ·rw[hc]at z;cases z;~hb U
end
structure Un(fs ex:List AF)(H H':Hp)(h h':Heap):Prop where
 keep:∀b o,h.get? b=NR o→H b=none→b∉fs→b∉ex→h'.get? b=NR o
 slot:∀b o,h.get? b=NR o→H b=none→b∈fs→b∉ex→∃sl,h'.get? b=NR {o with slots:=sl}
 free:∀b o,h.get? b=NR o→H b=none→b∉ex→H' b=none
 there:∀b o,h.get? b=NR o→b∉ex→∃o',h'.get? b=NR o'
 tups:∀b xs,H b=NR (.tup xs)→H' b=NR (.tup xs)
 Zu:∀b o u,H b=NR (.Al o u)→H' b=NR (.Al o u)
 NK:∀b ps,H b=NR (.tbl ps)→∃more,H' b=NR (.tbl (ps++more))
section
variable{fs fs' ex ex':List AF}{H H1 H2:Hp}{h h1 h2 h':Heap}{a x e:AF}{o:HO}
B5 Un.any(u:Un fs ex H H1 h h1){b:AF}{ob:Obj}(q:h.get? b=NR ob)(n:H b=none)(hx:b∉ex):∃sl,h1.get? b=NR {ob with slots:=sl}:=by
 by_cases hb:b∈fs
 ·~u.slot b ob q n hb hx
 ·~⟨ob.slots,u.keep b ob q n hb hx⟩
B5 Un.kept(k:∀b u,h.get? b=NR u→h'.get? b=NR u):Un fs ex H H h h':=
 ⟨λb ob q _ _ _=>k b ob q,λb ob q _ _ _=>⟨ob.slots,k b ob q⟩,λ_ _ _ n _=>n,λb ob q _=>⟨ob,k b ob q⟩,λ_ _ q=>q,λ_ _ _ q=>q,λ_ ps q=>⟨#[],by rw[q];simp⟩⟩
B5 Un.refl:Un fs ex H H h h:=Un.kept λ_ _ q=>q
B5 Un.laid(k:∀b u,h.get? b=NR u→h'.get? b=NR u)(hp:h.objs.size≤a)(hn:H a=none):Un fs ex H (upd H a o) h h' where
 keep:=λb u q _ _ _=>k b u q
 slot:=λb u q _ _ _=>⟨u.slots,k b u q⟩
 free:=λb u q n _=>by rw[bQ (F3 (E7 (AN q) hp))];~n
 there:=λb u q _=>⟨u,k b u q⟩
 tups:=λb xs q=>by rw[bQ (iI q hn)];~q
 Zu:=λb u xs q=>by rw[bQ (iI q hn)];~q
 NK:=λb ps q=>⟨#[],by rw[bQ (iI q hn),q];simp⟩
B5 Un.write(mu:Mut (H x))(he:e=x∨H e=NR (.own x))(k:∀b u,b≠e→h.get? b=NR u→h'.get? b=NR u)(heo:∃u,h'.get? e=NR u):Un fs ex H (upd H x o) h h':=by
 have hx:∀b,H b=none→b≠x:=λb n z=>by subst z;rw[n]at mu;~mu
 have hb:∀b,H b=none→b≠e:=λb n z=>by
  subst z;rcases he with r | r
  ·~hx b n r
  ·rw[n]at r;cases r
 have hm:∀b u,H b=NR u→¬Mut (NR u)→b≠x:=λb u q nm z=>by subst z;rw[q]at mu;~nm mu
 &⟨λb u q n _ _=>k b u (hb b n) q,λb u q n _ _=>⟨u.slots,k b u (hb b n) q⟩,λb u q n _=>by rw[bQ (hx b n)];~n,λb u q _=>?_,
  λb xs q=>by rw[bQ (hm b _ q λz=>z)];~q,λb u xs q=>by rw[bQ (hm b _ q λz=>z)];~q,λb ps q=>⟨#[],by rw[bQ (hm b _ q λz=>z),q];simp⟩⟩
 by_cases hbe:b=e
 ·subst hbe;~heo
 ·~⟨u,k b u hbe q⟩
end
def trk(h:Heap)(H:Hp):List AF:=(D5 h.objs.size).filter λa=>(H a).isSome
def Zv(h:Heap)(H:Hp):Heap:=u5 h (trk h H)
B5 aAc(h:Heap)(H:Hp):(Zv h H).objs.size=h.objs.size:=PySem.W.hideAll_size _ _
B5 aBz{h:Heap}{H:Hp}{b:AF}{o:Obj}(e:h.get? b=NR o)(n:H b=none):(Zv h H).get? b=NR o:=
 PySem.W.hideAll_get _ e λhm=>by have q:(H b).isSome=NU:=(K3.mp hm).2;rw[n]at q;simp at q
B5 aEg{h:Heap}{H:Hp}{b:AF}{o:Obj}(e:(Zv h H).get? b=NR o):h.get? b=NR o∧H b=none:=by
 have e':h.get? b=NR o:=PySem.W.of_hideAll (trk h H) e;&⟨e',?_⟩;cases q:H b with
 | none=>rfl
 | some x=>have hm:b∈trk h H:=K3.mpr ⟨F7.mpr (AN e'),by simp[q]⟩;have z:(Zv h H).get? b=none:=PySem.W.hideAll_none (trk h H) hm;rw[z]at e;cases e
def aEh(g h:Heap)(L:AF):List (AF×Obj):=(D5 h.objs.size).filterMap λa=>if a=L∨(g.get? a).isSome=NU then none else(h.get? a).map λo=>(a,o)
def rest(g h:Heap)(L d:AF):List (AF×Obj):=(aEh g h L).filter λp=>decide (p.1≠d)
end L2
namespace L2
open PySem PySem.Spec PyProof.Rows
structure Mod(K:aG)(mg:Str→Option AE)(base:Heap):Prop where
 kin:K.In base
 glob:base.Ns As mg
 blt:∃mb,base.Ns IZ mb∧∀x:Str,x ≠ "__name__" → mb x=AZ x
 nolimit:base.NoLimit
structure Cx where
 prog:AQ
 w:AS
 K:aG
 mg:Str→Option AE
 base:Heap
 A:AV
 N:List Str
 s₀:AG
 H₀:Hp
 env:Env
 outer:List Env
 stack:List Env
 ex:List AF
 fn:Str→Bool
 calm:Bool
 pn:List (AF×Obj)
 xe:AE→AG→Prop
def frs(l:List Env):List AF:=l.filterMap (·.frame)
abbrev Cx.fs(X:Cx):List AF:=frs X.outer
def Ey(sc:BQ)(x:Str):Prop:=sc.names.lookup x=NR .local∨sc.names.lookup x=NR .cell∨sc.names.lookup x=NR .free
def Loc(sc:BQ)(x:Str):Prop:=sc.names.lookup x=NR .local∨sc.names.lookup x=NR .cell
def Look(env:Env)(h:Heap)(m:Str→Option AE)(x:Str)(u:AE):Prop:=
 (env.kindOf x=NR .local∧m x=NR u)∨((env.kindOf x=NR .cell∨env.kindOf x=NR .free)∧∃c,env.cells.lookup x=NR c∧h.IsCell c (NR u))
structure Cx.Ok(X:Cx):Prop where
 mod:Mod X.K X.mg X.base
 kind:X.env.scope.kind=.function
 glob:X.env.globals=As
 blt:X.env.builtins=IZ
 above:X.s₀.heap.objs.size≤X.env.locals
 inj:∀x y c,X.env.cells.lookup x=NR c→X.env.cells.lookup y=NR c→x=y
 has:∀x,(X.env.kindOf x=NR .cell∨X.env.kindOf x=NR .free)→∃c,X.env.cells.lookup x=NR c
 cab:∀x c,X.fn x=NU→X.env.cells.lookup x=NR c→X.s₀.heap.objs.size≤c
 hd:X.calm=NU→X.A.handled=none
 frames:X.A.frames=NR X.stack
 stk:X.stack=X.outer∨(X.stack=X.env::X.outer∧X.env.frame=NR X.env.locals)
 exf:∀b∈X.ex,b≠X.env.locals∧∀x c,X.env.cells.lookup x=NR c→c≠b
 bs:∀b o,X.base.get? b=NR o→X.s₀.heap.get? b=NR o∧X.H₀ b=none
 bsz:X.base.objs.size≤X.s₀.heap.objs.size
 aBA:∀b o,X.base.get? b=NR o→b∉X.ex
 aEk:∀b∈X.ex,b∉X.fs
 Oj:X.s₀.heap.FunFrames X.base X.outer
 frf:∀b∈X.fs,X.H₀ b=none
structure Inv(X:Cx)(pins:List (AF×Obj))(σ:List (Option V))(H:Hp)(s:AG):Prop where
 ok:X.Ok
 os:s.os=X.s₀.os
 bare:Da s.gens
 base:Un X.fs X.ex X.H₀ H X.s₀.heap s.heap
 loc:∃m,s.heap.Ns X.env.locals m∧∀(i:Nat)(x:Str)(v:V),X.N[i]?=NR x→σ[i]?=NR (NR v)→Ey X.env.scope x→∃u,RelV v u∧Look X.env s.heap m x u
 cell:∀x c,X.env.cells.lookup x=NR c→∃v,s.heap.IsCell c v
 free:H X.env.locals=none
 zR:∀x c,X.env.cells.lookup x=NR c→H c=none
 pin:∀p∈X.pn++pins,s.heap.get? p.1=NR p.2∧H p.1=none∧p.1≠X.env.locals∧p.1∉X.fs∧∀v,p.2.data≠.cell v
 hok:Ew X.prog X.w H s.heap
 len:σ.length=X.N.length
section
variable{X:Cx}{pins:List (AF×Obj)}{σ:List (Option V)}{H H':Hp}{s:AG}{h':Heap}
B5 Cx.Ok.aLn(ok:X.Ok){b:AF}{o:Obj}(e:X.base.get? b=NR o):b∉X.fs:=λhb=>by have:=(ok.Oj.mem hb).1;rw[e]at this;cases this
B5 Inv.bs(I:Inv X pins σ H s):∀b o,X.base.get? b=NR o→s.heap.get? b=NR o∧H b=none:=λb o e=>
 ⟨I.base.keep b o (I.ok.bs b o e).1 (I.ok.bs b o e).2 (I.ok.aLn e) (I.ok.aBA b o e),I.base.free b o (I.ok.bs b o e).1 (I.ok.bs b o e).2 (I.ok.aBA b o e)⟩
B5 Inv.bk(I:Inv X pins σ H s):∀b o,X.base.get? b=NR o→s.heap.get? b=NR o:=λb o e=>(I.bs b o e).1
B5 Inv.mod(I:Inv X pins σ H s):Mod X.K X.mg X.base:=I.ok.mod
B5 Inv.Kr(I:Inv X pins σ H s):X.K.In s.heap:=I.ok.mod.kin.keeps I.bk
B5 Inv.lt(I:Inv X pins σ H s):X.env.locals<s.heap.objs.size:=let ⟨_,hn,_⟩:=I.loc;hn.lt
B5 Inv.sz(I:Inv X pins σ H s):X.s₀.heap.objs.size≤s.heap.objs.size:=G1 I.ok.above (P4 I.lt)
B5 Inv.aLo(I:Inv X pins σ H s){a:AF}(h:s.heap.objs.size≤a):a∉X.fs:=λhb=>by B3⟨_,o,ho,_⟩:=I.ok.Oj.mem hb;~absurd (E7 (AN ho) (G1 I.sz h)) (L9 _)
B5 Inv.cne(I:Inv X pins σ H s):∀x c,X.env.cells.lookup x=NR c→c≠X.env.locals:=λx c e z=>by B3⟨v,o,ho,hd⟩:=I.cell x c e;B3⟨m,⟨o',es,ep,ho',hd',_⟩,_⟩:=I.loc;rw[z,ho']at ho;cases ho;rw[hd']at hd;cases hd
B5 Inv.Oj(I:Inv X pins σ H s):s.heap.FunFrames X.base X.outer:=by
 have all:∀(l:List Env),(∀b∈frs l,b∈X.fs)→X.s₀.heap.FunFrames X.base l→s.heap.FunFrames X.base l:=by
  intro l
  induction l with
  | nil=>intro _ _;trivial
  | cons env r ih=>intro hs hl;B3⟨hk,⟨L,o,hf,hn,ho,hd⟩,hr⟩:=hl;have hL:L∈X.fs:=hs L (by B4 frs;rw[T3,hf];~C8);B3⟨sl,e⟩:=I.base.slot L o ho (I.ok.frf L hL) hL λz=>I.ok.aEk L z hL;~⟨hk,⟨L,_,hf,hn,e,hd⟩,ih (λb hb=>hs b (by B4 frs;rw[T3,hf];~C6 _ hb)) hr⟩
 ~all X.outer (λ_ hb=>hb) I.ok.Oj
B5 Inv.stack(I:Inv X pins σ H s):s.heap.FunFrames X.base X.stack:=by
 rcases I.ok.stk with e | ⟨e,hf⟩
 ·rw[e];~I.Oj
 ·rw[e];B3⟨m,hn,_⟩:=I.loc;&.cons (by rw[I.ok.kind];decide) hf hn ?_ I.Oj;~Heap.get?_none_of_le (G1 I.ok.bsz I.ok.above)
B5 Inv.Zw(I:Inv X pins σ H s):∀b∈frs X.stack,b∈X.env.locals::X.fs:=λb hb=>by
 rcases I.ok.stk with e | ⟨e,hf⟩
 ·rw[e]at hb;~C6 _ hb
 ·rw[e]at hb;B4 frs at hb;rw[T3,hf]at hb;~hb
B5 Inv.sr(I:Inv X pins σ H s):∀b∈frs X.stack,H b=none:=λb hb=>by
 rcases B9.mp (I.Zw b hb)with e | hb
 ·rw[e];~I.free
 ·B3⟨_,o,ho,_⟩:=I.ok.Oj.mem hb;~I.base.free b o ho (I.ok.frf b hb) λz=>I.ok.aEk b z hb
B5 Inv.step{g':Array IT}{t':Nat}{d':Ic}{ch:List AF}(I:Inv X pins σ H s)
  (hch:∀b∈ch,(b∈X.ex∨X.s₀.heap.objs.size≤b)∧b≠X.env.locals∧(∀x c,X.env.cells.lookup x=NR c→c≠b)∧∀p∈X.pn++pins,p.1≠b)
  (keep:∀b o,b≠X.env.locals→b∉X.fs→b∉ch→s.heap.get? b=NR o→H b=none→h'.get? b=NR o)
  (slot:∀b o,b≠X.env.locals→b∈X.fs→b∉ch→s.heap.get? b=NR o→H b=none→∃sl,h'.get? b=NR {o with slots:=sl}) (free:∀b o,b∉ch→s.heap.get? b=NR o→H b=none→H' b=none)
  (there:∀b o,b∉ch→s.heap.get? b=NR o→∃o',h'.get? b=NR o')
  (tups:∀b xs,H b=NR (.tup xs)→H' b=NR (.tup xs)) (Zu:∀b o u,H b=NR (.Al o u)→H' b=NR (.Al o u)) (NK:∀b ps,H b=NR (.tbl ps)→∃more,H' b=NR (.tbl (ps++more)))
  (ns:∀m,s.heap.Ns X.env.locals m→h'.Ns X.env.locals m) (hok:Ew X.prog X.w H' h') (hg:Da g') :
  Inv X pins σ H' {s with heap:=h',gens:=g',drawn:=d',toks:=t'}:=by
 have neL:∀b o,X.s₀.heap.get? b=NR o→b≠X.env.locals:=λb o e=>F3 (E7 (AN e) I.ok.above);have neC:∀b o,X.s₀.heap.get? b=NR o→b∉X.ex→b∉ch:=λb o e hx hb=>by
  rcases(hch b hb).1 with z | z
  ·~hx z
  ·~absurd (E7 (AN e) z) (L9 _)
 have cellK:∀x c,X.env.cells.lookup x=NR c→∀v,s.heap.IsCell c v→h'.IsCell c v:=λx c e v ⟨o,ho,hd⟩=>by
  have nch:c∉ch:=λz=>(hch c z).2.2.1 x c e U;by_cases hc:c∈X.fs
  ·B3⟨sl,q⟩:=slot c o (I.cne x c e) hc nch ho (I.zR x c e);~⟨_,q,hd⟩
  ·~⟨o,keep c o (I.cne x c e) hc nch ho (I.zR x c e),hd⟩
 &⟨I.ok,I.os,hg,⟨λb o e n hb hx=>?_,λb o e n hb hx=>?_,λb o e n hx=>?_,λb o e hx=>?_,λb xs e=>tups b xs (I.base.tups b xs e),λb o xs e=>Zu b o xs (I.base.Zu b o xs e),λb ps e=>?_⟩,?_,λx c e=>?_,?_,λx c e=>?_,λp hp=>?_,hok,I.len⟩
 ·~keep b o (neL b o e) hb (neC b o e hx) (I.base.keep b o e n hb hx) (I.base.free b o e n hx)
 ·B3⟨sl,e1⟩:=I.base.slot b o e n hb hx;B3⟨sl',e2⟩:=slot b _ (neL b o e) hb (neC b o e hx) e1 (I.base.free b o e n hx);~⟨sl',e2⟩
 ·B3⟨o',e1⟩:=I.base.there b o e hx;~free b o' (neC b o e hx) e1 (I.base.free b o e n hx)
 ·B3⟨o',e1⟩:=I.base.there b o e hx;~there b o' (neC b o e hx) e1
 ·B3⟨m1,e1⟩:=I.base.NK b ps e;B3⟨m2,e2⟩:=NK b _ e1;~⟨m1++m2,by rw[e2,Array.append_assoc]⟩
 ·B3⟨m,hn,hl⟩:=I.loc;&⟨m,ns m hn,λi x v e1 e2 e3=>?_⟩;B3⟨u,r,l⟩:=hl i x v e1 e2 e3;&⟨u,r,?_⟩;rcases l with l | ⟨k,c,e,z⟩
  ·~.inl l
  ·~.inr ⟨k,c,e,cellK x c e _ z⟩
 ·B3⟨v,z⟩:=I.cell x c e;~⟨v,cellK x c e v z⟩
 ·B3⟨m,⟨o,_,_,ho,_⟩,_⟩:=I.loc;~free _ o (λz=>(hch _ z).2.1 U) ho I.free
 ·B3⟨v,o,ho,hd⟩:=I.cell x c e;~free c o (λz=>(hch c z).2.2.1 x c e U) ho (I.zR x c e)
 ·B3⟨e,n,ne,nf,d⟩:=I.pin p hp;have nch:p.1∉ch:=λz=>(hch p.1 z).2.2.2 p hp U;~⟨keep p.1 p.2 ne nf nch e n,free p.1 p.2 nch e n,ne,nf,d⟩
B5 Inv.un{t':Nat}(I:Inv X pins σ H s)(u:Un X.fs [] H H' s.heap h')(hok:Ew X.prog X.w H' h'):Inv X pins σ H' {s with heap:=h',toks:=t'}:=by
 B3⟨m,⟨o,es,ep,ho,r⟩,_⟩:=id I.loc;B3⟨sl,hL⟩:=u.any ho I.free (by simp);~I.step (g':=s.gens) (d':=s.drawn) (ch:=[]) (λ_ z=>nomatch z) (λb o _ hb _ e n=>u.keep b o e n hb (by simp)) (λb o _ hb _ e n=>u.slot b o e n hb (by simp)) (λb o _ e n=>u.free b o e n (by simp)) (λb o _ e=>u.there b o e (by simp)) u.tups u.Zu u.NK (λm' hm=>by
  B3⟨o',es',ep',ho',r'⟩:=hm;rw[ho]at ho';cases ho';~⟨_,es',ep',hL,r'⟩) hok I.bare
B5 Inv.call{g':Array IT}{t':Nat}{d':Ic}{ch:List AF}(I:Inv X pins σ H s)(u:Un (frs X.stack) ch H H' s.heap h')(hok:Ew X.prog X.w H' h')(hg:Da g')
  (hch:∀b∈ch,(b∈X.ex∨X.s₀.heap.objs.size≤b)∧b≠X.env.locals∧(∀x c,X.env.cells.lookup x=NR c→c≠b)∧∀p∈X.pn++pins,p.1≠b) :
  Inv X pins σ H' {s with heap:=h',gens:=g',drawn:=d',toks:=t'}:=by
 B3⟨m,⟨o,es,ep,ho,r⟩,_⟩:=id I.loc;B3⟨sl,hL⟩:=u.any ho I.free λz=>(hch _ z).2.1 U;~I.step (ch:=ch) hch (λb o hL hb hc e n=>u.keep b o e n (λz=>(B9.mp (I.Zw b z)).elim hL hb) hc) (λb o _ _ hc e n=>u.any e n hc) (λb o hc e n=>u.free b o e n hc) (λb o hc e=>u.there b o e hc) u.tups u.Zu u.NK (λm' hm=>by
  B3⟨o',es',ep',ho',r'⟩:=hm;rw[ho]at ho';cases ho';~⟨_,es',ep',hL,r'⟩) hok hg
B5 Inv.turned{t':Nat}{it:AF}(I:Inv X pins σ H s)(k:∀b o,b≠it→s.heap.get? b=NR o→h'.get? b=NR o)(hn:H it=none)(hL:it≠X.env.locals)
  (h1:it∈X.ex∨X.s₀.heap.objs.size≤it) (h2:∀x c,X.env.cells.lookup x=NR c→c≠it) (h3:∀p∈X.pn++pins,p.1≠it):Inv X pins σ H {s with heap:=h',toks:=t'}:=by
 have nit:∀b u,H b=NR u→b≠it:=λb u e z=>by rw[z,hn]at e;cases e
 &I.step (g':=s.gens) (d':=s.drawn) (ch:=[it]) (λb hb=>?_) (λb o _ _ hc e _=>k b o (λz=>hc (by simp[z])) e) (λb o _ _ hc e _=>⟨o.slots,k b o (λz=>hc (by simp[z])) e⟩) (λ_ _ _ _ n=>n)
  (λb o hc e=>⟨o,k b o (λz=>hc (by simp[z])) e⟩) (λ_ _ e=>e) (λ_ _ _ e=>e) (λb ps e=>⟨#[],by rw[e];simp⟩) (λm hm=>?_) (λb u e=>?_) I.bare
 ·have e:b=it:=by simpa using hb
  subst e;~⟨h1,hL,h2,h3⟩
 ·B3⟨o,es,ep,ho,r⟩:=hm;~⟨o,es,ep,k _ o (Ne.symm hL) ho,r⟩
 ·&(I.hok b u e).stay (λc v hc q=>k c v ?_ q) (λ_ q=>q) λ_ _ q=>q;rcases hc with z | z
  ·rw[z];~nit b u e
  ·~nit c _ z
B5 Inv.tok(I:Inv X pins σ H s)(t:Nat):Inv X pins σ H {s with toks:=t}:=I.un (h':=s.heap) (t':=t) Un.refl I.hok
B5 Inv.kept{t':Nat}(I:Inv X pins σ H s)(k:∀b u,s.heap.get? b=NR u→h'.get? b=NR u):Inv X pins σ H {s with heap:=h',toks:=t'}:=I.un (Un.kept k) (I.hok.kept k)
B5 Inv.laid{a:AF}{o:HO}{t':Nat}(I:Inv X pins σ H s)(k:∀b u,s.heap.get? b=NR u→h'.get? b=NR u)(hp:s.heap.objs.size≤a)(new:jU X.prog X.w (upd H a o) h' a o) :
  Inv X pins σ (upd H a o) {s with heap:=h',toks:=t'}:=I.un (Un.laid k hp (I.hok.fresh hp)) (I.hok.laid k hp new)
B5 Inv.write{x e:AF}{o:HO}{t':Nat}(I:Inv X pins σ H s)(mu:Mut (H x))(he:e=x∨H e=NR (.own x))(k:∀b u,b≠e→s.heap.get? b=NR u→h'.get? b=NR u)(heo:∃u,h'.get? e=NR u)
  (new:jU X.prog X.w (upd H x o) h' x o):Inv X pins σ (upd H x o) {s with heap:=h',toks:=t'}:=I.un (Un.write mu he k heo) (I.hok.write mu he k heo new)
B5 Inv.weak{σ':List (Option V)}(I:Inv X pins σ H s)(hl:σ'.length=σ.length)(w:∀(i:Nat) v,σ'[i]?=NR (NR v)→σ[i]?=NR (NR v)):Inv X pins σ' H s:=
 ⟨I.ok,I.os,I.bare,I.base,let ⟨m,hn,hl'⟩:=I.loc;⟨m,hn,λi x v e1 e2 e3=>hl' i x v e1 (w i v e2) e3⟩,I.cell,I.free,I.zR,I.pin,I.hok,hl.trans I.len⟩
B5 Inv.su{aBB:List (AF×Obj)}(I:Inv X pins σ H s)(h:∀p∈aBB,s.heap.get? p.1=NR p.2∧H p.1=none∧p.1≠X.env.locals∧p.1∉X.fs∧∀v,p.2.data≠.cell v):Inv X aBB σ H s:=
 ⟨I.ok,I.os,I.bare,I.base,I.loc,I.cell,I.free,I.zR,λp hp=>(F8.mp hp).elim (λz=>I.pin p (F5 _ z)) (h p),I.hok,I.len⟩
B5 NP{N:List Str}(hN:N.Nodup){i j:Nat}{x:Str}(a:N[i]?=NR x)(b:N[j]?=NR x):i=j:=by B3⟨h1,e1⟩:=D4.mp a;B3⟨h2,e2⟩:=D4.mp b;~(List.getElem_inj hN).mp (e1.trans e2.symm)
B5 Wv{M:Iq}{A:AV}{E:AE→AG→Prop}{i:Nat}{x:Str}{v:V}{u:AE}{Q:Unit→AG→Prop}(I:Inv X pins σ H s)(hN:X.N.Nodup)(hi:X.N[i]?=NR x)(hx:Loc X.env.scope x)(r:RelV v u)
  (h:∀s',Inv X pins (σ.set i (NR v)) H s'→(∃a,Bi a s.heap s'.heap∧(a=X.env.locals∨X.env.cells.lookup x=NR a))→Q () s') (hf:X.fn x=NU∨X.env.scope.names.lookup x=NR .local:=by first | ~.inl U | ~.inr U | assumption):AL M A (storeName X.env x u) Q E s:=by
 B3⟨m,hn,hl⟩:=id I.loc;have hcls:(X.env.scope.kind==.class||(X.env.scope.kind==.module&&X.env.locals != X.env.globals))=NV:=by rw[I.ok.kind];rfl
 have hiσ:i<σ.length:=by rw[I.len];~(D4.mp hi).1
 have cne:=I.cne;have tracked:∀{a:AF} {h':Heap},(∃o,s.heap.get? a=NR o∧H a=none)→Bi a s.heap h'→Ew X.prog X.w H h':=λ{a h'} ha hs b ob e=>by
  B3⟨_,_,hfree⟩:=ha;&(I.hok b ob e).stay (λc w' hc q=>(hs.2 c ?_).trans q) (λ_ q=>q) λ_ _ q=>q;rintro rfl;rcases hc with rfl | hc
  ·rw[hfree]at e;cases e
  ·rw[hfree]at hc;cases hc
 rcases hx with hk | hk
 ·&wpAny_storeName_local hk hn (λh' hn' hs=>?_) hcls;B3⟨oL,_,_,hoL,_⟩:=id hn;&h _ ⟨I.ok,I.os,I.bare,⟨λb o e n hb hx=>?_,λb o e n hb hx=>?_,I.base.free,λb o e hx=>?_,I.base.tups,I.base.Zu,I.base.NK⟩,⟨_,hn',λj y v' e1 e2 e3=>?_⟩,λy c e=>?_,I.free,I.zR,λp hp=>?_,tracked ⟨oL,hoL,I.free⟩ hs,by simpa using I.len⟩ ⟨_,hs,.inl U⟩
  ·~(hs.2 b (F3 (E7 (AN e) I.ok.above))).trans (I.base.keep b o e n hb hx)
  ·B3⟨sl,e1⟩:=I.base.slot b o e n hb hx;~⟨sl,(hs.2 b (F3 (E7 (AN e) I.ok.above))).trans e1⟩
  ·B3⟨o',e1⟩:=I.base.there b o e hx;~⟨o',(hs.2 b (F3 (E7 (AN e) I.ok.above))).trans e1⟩
  ·by_cases hj:j=i
   ·subst hj;rw[hi]at e1;cases e1;rw[K0 hiσ]at e2;cases e2;~⟨u,r,.inl ⟨hk,by simp⟩⟩
   ·rw[W5 (Ne.symm hj)]at e2;B3⟨u',r',q⟩:=hl j y v' e1 e2 e3;&⟨u',r',?_⟩;rcases q with ⟨k,e⟩ | ⟨k,c,e,z⟩
    ·&.inl ⟨k,?_⟩;have:y≠x:=λe=>hj (NP hN e1 (e▸hi));simp[this,e]
    ·~.inr ⟨k,c,e,z.sameBut hs (cne y c e)⟩
  ·B3⟨w',z⟩:=I.cell y c e;~⟨w',z.sameBut hs (cne y c e)⟩
  ·B3⟨e,n,ne,nf,d⟩:=I.pin p hp;~⟨(hs.2 p.1 ne).trans e,n,ne,nf,d⟩
 ·have hfn:X.fn x=NU:=by
   rcases hf with z | z
   ·~z
   ·rw[z]at hk;cases hk
  B3⟨c,hc⟩:=I.ok.has x (.inl hk);B3⟨w',z⟩:=I.cell x c hc;&wpAny_storeName_cell I.ok.kind hk hc z (λh' hc' hs=>?_);B3⟨oc,hoc,aLp⟩:=id z;&h {s with heap:=h'} ⟨I.ok,I.os,I.bare,⟨λb o e n hb hx=>?_,λb o e n hb hx=>?_,I.base.free,λb o e hx=>?_,I.base.tups,I.base.Zu,I.base.NK⟩,⟨m,hn.sameBut hs (Ne.symm (cne x c hc)),λj y v' e1 e2 e3=>?_⟩,λy c' e=>?_,I.free,I.zR,λp hp=>?_,tracked ⟨oc,hoc,I.zR x c hc⟩ hs,by simpa using I.len⟩ ⟨c,hs,.inr hc⟩
  ·~(hs.2 b (F3 (E7 (AN e) (I.ok.cab x c hfn hc)))).trans (I.base.keep b o e n hb hx)
  ·B3⟨sl,e1⟩:=I.base.slot b o e n hb hx;~⟨sl,(hs.2 b (F3 (E7 (AN e) (I.ok.cab x c hfn hc)))).trans e1⟩
  ·B3⟨o',e1⟩:=I.base.there b o e hx;~⟨o',(hs.2 b (F3 (E7 (AN e) (I.ok.cab x c hfn hc)))).trans e1⟩
  ·by_cases hj:j=i
   ·subst hj;rw[hi]at e1;cases e1;rw[K0 hiσ]at e2;cases e2;~⟨u,r,.inr ⟨.inl hk,c,hc,hc'⟩⟩
   ·rw[W5 (Ne.symm hj)]at e2;B3⟨u',r',q⟩:=hl j y v' e1 e2 e3;&⟨u',r',?_⟩;rcases q with q | ⟨k,c',e,z'⟩
    ·~.inl q
    ·&.inr ⟨k,c',e,z'.sameBut hs ?_⟩;rintro rfl;~hj (NP hN e1 (I.ok.inj _ _ _ e hc▸hi))
  ·by_cases hcc:c'=c
   ·subst hcc;~⟨_,hc'⟩
   ·B3⟨w2,z2⟩:=I.cell y c' e;~⟨w2,z2.sameBut hs hcc⟩
  ·B3⟨e,n,ne,nf,d⟩:=I.pin p hp;&⟨(hs.2 p.1 ?_).trans e,n,ne,nf,d⟩;intro q;rw[q,hoc]at e;have q':oc=p.2:=E6 e;~d w' (by rw[←q'];~aLp)
B5 NQ{M:Iq}{A:AV}{E:AE→AG→Prop}{i:Nat}{x:Str}{v:V}{u:AE}{Q:Unit→AG→Prop}(I:Inv X pins σ H s)(hN:X.N.Nodup)(hi:X.N[i]?=NR x)(hx:Loc X.env.scope x)(r:RelV v u)
  (h:∀s',Inv X pins (σ.set i (NR v)) H s'→Q () s') (hf:X.fn x=NU∨X.env.scope.names.lookup x=NR .local:=by first | ~.inl U | ~.inr U | assumption):AL M A (storeName X.env x u) Q E s:=
 Wv I hN hi hx r (λs' I' _=>h s' I') hf
B5 Inv.call'{s':AG}{ch:List AF}(I:Inv X pins σ H s)(ho:s'.os=s.os)(u:Un (frs X.stack) ch H H' s.heap s'.heap)(hok:Ew X.prog X.w H' s'.heap)(hg:Da s'.gens)
  (hch:∀b∈ch,(b∈X.ex∨X.s₀.heap.objs.size≤b)∧b≠X.env.locals∧(∀x c,X.env.cells.lookup x=NR c→c≠b)∧∀p∈X.pn++pins,p.1≠b):Inv X pins σ H' s':=by
 B3⟨h',g',d',t',o'⟩:=s';have e:o'=s.os:=ho;subst e;~I.call (g':=g') (t':=t') (d':=d') u hok hg hch
end
abbrev XK:=AE→Option AF→Hp→Prop
abbrev St:=List (Option V)
abbrev VK:=V→Hp→Prop
abbrev TE:=St→Hp→VK→Prop
abbrev TT:=St→Hp→(Bool→Hp→Prop)→Prop
abbrev TA:=St→Hp→(List V→Hp→Prop)→Prop
structure Ends where
 nx:St→Hp→Prop
 rt:VK
 bk:St→Hp→Prop:=λ_ _=>False
 ct:St→Hp→Prop:=λ_ _=>False
abbrev TS:=Ends→St→Hp→Prop
def EP(X:Cx)(pins:List (AF×Obj))(σ:St)(Q:VK)(u:AE)(s':AG):Prop:=∃v H',Inv X pins σ H' s'∧RelV v u∧Q v H'
def TP(X:Cx)(pins:List (AF×Obj))(σ:St)(Q:Bool→Hp→Prop)(b:Bool)(s':AG):Prop:=∃H',Inv X pins σ H' s'∧Q b H'
def AP(X:Cx)(pins:List (AF×Obj))(σ:St)(Q:List V→Hp→Prop)(us:List AE)(s':AG):Prop:=∃vs H',Inv X pins σ H' s'∧Vals vs us∧Q vs H'
def SP(X:Cx)(pins:List (AF×Obj))(D:Ends)(f:Flow)(s':AG):Prop:=
 match f with
 | .next=>∃σ' H',Inv X pins σ' H' s'∧D.nx σ' H'
 | .brk=>∃σ' H',Inv X pins σ' H' s'∧D.bk σ' H'
 | .cont=>∃σ' H',Inv X pins σ' H' s'∧D.ct σ' H'
 | .ret u=>∃v σ' H',Inv X pins σ' H' s'∧RelV v u∧D.rt v H'
def PE(X:Cx)(e:AK)(t:TE):Prop:=
 ∀(pins:List (AF×Obj))(s:AG)(σ:St)(H:Hp)(Q:VK),Inv X pins σ H s→t σ H Q→AL Nl X.A (AU e X.env) (EP X pins σ Q) X.xe s
def PT(X:Cx)(e:AK)(t:TT):Prop:=
 ∀(pins:List (AF×Obj))(s:AG)(σ:St)(H:Hp)(Q:Bool→Hp→Prop),Inv X pins σ H s→t σ H Q→AL Nl X.A (HZ e X.env (AU e X.env)) (TP X pins σ Q) X.xe s
def PW(X:Cx)(e:AK)(t:TT):Prop:=
 ∀(whole:Sem AE)(pins:List (AF×Obj))(s:AG)(σ:St)(H:Hp)(Q:Bool→Hp→Prop),Inv X pins σ H s→t σ H Q→AL Nl X.A (HZ e X.env whole) (TP X pins σ Q) X.xe s
B5 PW.pt{X:Cx}{e:AK}{t:TT}(h:PW X e t):PT X e t:=h _
def PA(X:Cx)(es:List AK)(t:TA):Prop:=
 ∀(pos:Pos)(pins:List (AF×Obj))(s:AG)(σ:St)(H:Hp)(Q:List V→Hp→Prop),Inv X pins σ H s→t σ H Q→AL Nl X.A (spliced (Au pos (AJ es X.env))) (AP X pins σ Q) X.xe s
def PS(X:Cx)(st:AO)(t:TS):Prop:=
 ∀(pins:List (AF×Obj))(s:AG)(σ:St)(H:Hp)(D:Ends),Inv X pins σ H s→t D σ H→AL Nl X.A (exec st X.env) (SP X pins D) X.xe s
def NT(X:Cx)(st:List AO)(t:TS):Prop:=
 ∀(pins:List (AF×Obj))(s:AG)(σ:St)(H:Hp)(D:Ends),Inv X pins σ H s→t D σ H→AL Nl X.A (execs st X.env) (SP X pins D) X.xe s
B5 iY{α:Type}{t:Sem α}{Q Q':α→AG→Prop}{M:Iq}{A:AV}{E:AE→AG→Prop}{s:AG}(h:AL M A t Q E s)(hQ:∀a s,Q a s→Q' a s):AL M A t Q' E s:=BA h hQ λ_ _ x=>x
end L2
namespace L2
open PySem PySem.Spec PyProof.Rows
section
variable{X:Cx}
def qM(i:Nat):TE:=λσ H Q=>∃v,σ[i]?=NR (NR v)∧Q v H
def tC(v:V):TE:=λ_ H Q=>Q v H
B5 aG4{i:Nat}{x:Str}{pos:Pos}(hN:X.N[i]?=NR x)(hv:Ey X.env.scope x)(hd:OH=NV:=by decide) (hcd:(x==("__classdict__" : Str))=NV:=by decide):PE X (.Name x pos) (qM i):=by
  intro pins s σ H Q I h;B3⟨v,e,h⟩:=h;B3⟨m,hn,hl⟩:=I.loc;B3⟨u,r,l⟩:=hl i x v hN e hv;have fin:EP X pins σ Q u s:=⟨v,H,I,r,h⟩
  rcases l with ⟨hk,hm⟩ | ⟨hk,c,hc,hcell⟩
  · ~Iy (wpAny_loadName_local I.ok.kind hk hn hm fin) hd
  · rcases hk with hk | hk
    · ~Iy (wpAny_loadName_cell I.ok.kind hk hc hcell fin) hd
    · ~Iy (wpAny_loadName_free I.ok.kind hk hc hcell fin hcd) hd
B5 aG5{i j pos}:PE X (.Constant (.int i) j pos) (tC (.int i)):=λ_ _ _ H _ I h=>wpAny_Constant_int ⟨.int i,H,I.tok _,⟨_,U⟩,h⟩
B5 aJp{b j pos}:PE X (.Constant (.bool b) j pos) (tC (.bl b)):=λ_ _ _ H _ I h=>Constant_bool ⟨.bl b,H,I,U,h⟩
B5 aG6{j pos}:PE X (.Constant .none j pos) (tC .non):=λ_ _ _ H _ I h=>Constant_none ⟨.non,H,I,U,h⟩
B5 aG7{x j pos}:PE X (.Constant (.str x) j pos) (tC (.str x)):=λ_ _ _ H _ I h=>Calls.Constant_str ⟨.str x,H,I.tok _,⟨_,U⟩,h⟩
def Gl(X:Cx)(x:Str):Prop:=X.env.kindOf x=NR .globalImplicit
B5 Zx{E:AE→AG→Prop}{pins:List (AF×Obj)}{s:AG}{σ:St}{H:Hp}{x:Str}{u:AE}{pos:Pos}{Q:AE→AG→Prop}(I:Inv X pins σ H s)(hg:Gl X x)(hm:X.mg x=NR u)(h:Q u s)
  (hd:OH=NV:=by decide):AL Nl X.A (AU (.Name x pos) X.env) Q E s:=
 EZ I.ok.kind hg (Calls.loadGlobal_global (by rw[I.ok.glob];~I.mod.glob.keeps I.bk) hm h) hd
B5 vZ{E:AE→AG→Prop}{pins:List (AF×Obj)}{s:AG}{σ:St}{H:Hp}{x:Str}{u:AE}{pos:Pos}{Q:AE→AG→Prop}(I:Inv X pins σ H s)(hg:Gl X x)(hm:X.mg x=none)(hv:AZ x=NR u)(h:Q u s)
  (hn:x ≠ "__name__" := by decide) (hd:OH=NV:=by decide):AL Nl X.A (AU (.Name x pos) X.env) Q E s:=by
 B3⟨mb,h1,h2⟩:=I.mod.blt;~EZ I.ok.kind hg (Calls.loadGlobal_builtin (by rw[I.ok.glob];~I.mod.glob.keeps I.bk) hm (by rw[I.ok.blt];~h1.keeps I.bk) ((h2 x hn).trans hv) h) hd
B5 aEm{x:Str}{v:V}{u:AE}{pos:Pos}(hg:Gl X x)(hm:X.mg x=NR u)(r:RelV v u)(hd:OH=NV:=by decide):PE X (.Name x pos) (tC v):=
 λ_ _ _ H _ I h=>Zx I hg hm ⟨v,H,I,r,h⟩ hd
B5 Df{x:Str}{v:V}{u:AE}{pos:Pos}(hg:Gl X x)(hm:X.mg x=none)(hv:AZ x=NR u)(r:RelV v u)(hn:x ≠ "__name__" := by decide) (hd:OH=NV:=by decide):PE X (.Name x pos) (tC v):=
 λ_ _ _ H _ I h=>vZ I hg hm hv ⟨v,H,I,r,h⟩ hn hd
variable{a b:AK}{ta tb:TE}{pos:Pos}
def PC(X:Cx)(op:EH)(a b:AK)(t:TE):Prop:=
 ∀(pins:List (AF×Obj))(s:AG)(σ:St)(H:Hp)(Q:VK),Inv X pins σ H s→t σ H Q →
  AL Nl X.A (AU a X.env) (λv s₁=>AL Nl X.A (AU b X.env) (λu s₂=>AL Nl X.A (AY op v u) (EP X pins σ Q) X.xe s₂) X.xe s₁) X.xe s
def tB(t:TE):TT:=λσ H Q=>t σ H λx H1=>∃c,x=.bl c∧Q c H1
B5 au{op:EH}{t:TE}(h:PC X op a b t)(h1:behindInMarks op b=NV:=by first | ~nobehind _ A8 A8 | rfl):PE X (.Compare a [op] [b] pos) t:=λpins s σ H Q I hw=>KE (h pins s σ H Q I hw) h1
B5 aG8{op:EH}{t:TE}(h:PC X op a b t)(h1:behindInMarks op b=NV:=by first | ~nobehind _ A8 A8 | rfl):PT X (.Compare a [op] [b] pos) (tB t):=by intro pins s σ H Q I hw;&GL (iY (h pins s σ H _ I hw) λv s1 h1=>iY h1 λu s2 h2=>iY h2 λc s3 ⟨x,H1,I1,r1,q1⟩=>?_) h1;B3⟨d,rfl,q⟩:=q1;cases r1;~BC ⟨H1,I1,q⟩
B5 aG9{e:AK}{t:TE}(h:PE X e t)(he:∀whole,HZ e X.env whole=(do let v ←whole;EK e.pos;DI [v] (truthy v)):=by intro _;rfl):PT X e (tB t):=by intro pins s σ H Q I hw;&isTrue_plain (iY (h pins s σ H _ I hw) λv s1 ⟨x,H1,I1,r1,q1⟩=>?_) (he _);B3⟨d,rfl,q⟩:=q1;cases r1;~BC ⟨H1,I1,q⟩
variable{tA tB':TT}{rest:List AK}
def aHa(t u:TT):TT:=λσ H Q=>t σ H λc H1=>if c=NU then u σ H1 Q else Q NV H1
def tOr(t u:TT):TT:=λσ H Q=>t σ H λc H1=>if c=NU then Q NU H1 else u σ H1 Q
def aHb(t:TT):TT:=λσ H Q=>t σ H λc H1=>Q (!c) H1
B5 aEn(ha:PT X a tA):PW X (.BoolOp .And [a] pos) tA:=by
 intro wh pins s σ H Q I h;&isTrue_and (iY (ha pins s σ H Q I h) λc s1 e=>?_);cases c with
 | true=>~isTrue_and_nil e
 | false=>~e
B5 aHc(ha:PT X a tA):PW X (.BoolOp .Or [a] pos) tA:=by
 intro wh pins s σ H Q I h;&isTrue_or (iY (ha pins s σ H Q I h) λc s1 e=>?_);cases c with
 | false=>~isTrue_or_nil e
 | true=>~e
B5 aHd(ha:PT X a tA)(hb:PW X (.BoolOp .And (b::rest) pos) tB'):PW X (.BoolOp .And (a::b::rest) pos) (aHa tA tB'):=by
 intro wh pins s σ H Q I h;&isTrue_and (iY (ha pins s σ H _ I h) λc s1 ⟨H1,I1,q1⟩=>?_);cases c with
 | true=>~hb wh pins s1 σ H1 Q I1 q1
 | false=>~⟨H1,I1,q1⟩
B5 aJq(ha:PT X a tA)(hb:PW X (.BoolOp .Or (b::rest) pos) tB'):PW X (.BoolOp .Or (a::b::rest) pos) (tOr tA tB'):=by
 intro wh pins s σ H Q I h;&isTrue_or (iY (ha pins s σ H _ I h) λc s1 ⟨H1,I1,q1⟩=>?_);cases c with
 | true=>~⟨H1,I1,q1⟩
 | false=>~hb wh pins s1 σ H1 Q I1 q1
B5 aHe(ha:PT X a tA):PT X (.UnaryOp .Not a pos) (aHb tA):=by intro pins s σ H Q I h;~isTrue_not (ha pins s σ H (λc H1=>Q (!c) H1) I h)
def aGc(ta tb:TE):TE:=λσ H Q=>ta σ H λx H1=>∃c,x=.bl c∧if c=NU then tb σ H1 Q else Q (.bl NV) H1
def aJr(ta tb:TE):TE:=λσ H Q=>ta σ H λx H1=>∃c,x=.bl c∧if c=NU then Q (.bl NU) H1 else tb σ H1 Q
def aGd(ta:TE):TE:=λσ H Q=>ta σ H λx H1=>∃c,x=.bl c∧Q (.bl (!c)) H1
B5 aHf{op}{t:TE}(h:PE X a t):PE X (.BoolOp op [a] pos) t:=λpins s σ H Q I hw=>BoolOp_one (h pins s σ H Q I hw)
B5 aHg(ha:PE X a ta)(hb:PE X (.BoolOp .And (b::rest) pos) tb):PE X (.BoolOp .And (a::b::rest) pos) (aGc ta tb):=by
 intro pins s σ H Q I h;&BoolOp_and (iY (ha pins s σ H _ I h) λv s1 ⟨x,H1,I1,r1,q1⟩=>?_);B3⟨c,rfl,q1⟩:=q1;cases r1;&BC ?_;cases c with
 | true=>~hb pins s1 σ H1 Q I1 q1
 | false=>~⟨.bl NV,H1,I1,U,q1⟩
B5 aJs(ha:PE X a ta)(hb:PE X (.BoolOp .Or (b::rest) pos) tb):PE X (.BoolOp .Or (a::b::rest) pos) (aJr ta tb):=by
 intro pins s σ H Q I h;&BoolOp_or (iY (ha pins s σ H _ I h) λv s1 ⟨x,H1,I1,r1,q1⟩=>?_);B3⟨c,rfl,q1⟩:=q1;cases r1;&BC ?_;cases c with
 | false=>~hb pins s1 σ H1 Q I1 q1
 | true=>~⟨.bl NU,H1,I1,U,q1⟩
B5 aHh(ha:PE X a ta):PE X (.UnaryOp .Not a pos) (aGd ta):=by intro pins s σ H Q I h;&UnaryOp_ (iY (ha pins s σ H _ I h) λv s1 ⟨x,H1,I1,r1,q1⟩=>?_);B3⟨c,rfl,q1⟩:=q1;cases r1;~not_of (BC ⟨.bl (!c),H1,I1,U,q1⟩)
def tIf(t:TT)(ta tb:TE):TE:=λσ H Q=>t σ H λc H1=>if c=NU then ta σ H1 Q else tb σ H1 Q
B5 aBC{c:AK}(hc:PT X c tA)(ha:PE X a ta)(hb:PE X b tb):PE X (.IfExp c a b pos) (tIf tA ta tb):=by
 intro pins s σ H Q I h;&wpAny_IfExp (iY (hc pins s σ H _ I h) λd s1 ⟨H1,I1,q1⟩=>?_);cases d with
 | true=>~ha pins s1 σ H1 Q I1 q1
 | false=>~hb pins s1 σ H1 Q I1 q1
end
end L2
namespace L2
open PySem PySem.Spec PyProof.Rows
def oU(K:aG)(H:Hp)(a:AF)(xs:List V):Prop:=
 Rd H a (.lst xs) ∨
  ∃(o:Obj)(its:Array AE)(n:Nat),K.lookup a=NR o∧o.cls=.type "list" ∧ o.dict=none∧o.data=.seq its n∧its.size≤sizeLine∧Vals xs its.toList
def xW(K:aG)(H:Hp)(a:AF)(xs:List V):Prop:=
 Rd H a (.tup xs) ∨
  ∃(o:Obj)(its:Array AE)(n:Nat),K.lookup a=NR o∧o.cls=.type "tuple" ∧ o.data=.seq its n∧its.size≤sizeLine∧Vals xs its.toList
def aLr:AE→Option V
 | .none=>NR .non
 | .bool b=>NR (.bl b)
 | .int i _=>NR (.int i)
 | .str x _=>NR (.str x)
 | .bytes b _=>NR (.byt b)
 | .float b _=>NR (.flt b)
 | .ref a=>NR (.ref a)
 | .type n=>NR (.ty n)
 | _=>none
B5 RelV.abs{x:V}{u:AE}(r:RelV x u):aLr u=NR x:=by
 cases x with
 | non=>cases r;rfl
 | bl _=>cases r;rfl
 | int _=>B3⟨t,rfl⟩:=r;rfl
 | str _=>B3⟨t,rfl⟩:=r;rfl
 | byt _=>B3⟨t,rfl⟩:=r;rfl
 | flt _=>B3⟨t,rfl⟩:=r;rfl
 | ref _=>cases r;rfl
 | ty _=>cases r;rfl
B5 RelV.inj{x y:V}{u:AE}(r:RelV x u)(q:RelV y u):x=y:=E6 (r.abs.symm.trans q.abs)
B5 Vals.inj:∀{xs ys:List V} {us:List AE},Vals xs us→Vals ys us→xs=ys
 | _,_,_,.nil,.nil=>rfl
 | _,_,_,.cons r t,.cons r' t'=>by rw[r.inj r',Vals.inj t t']
section
variable{X:Cx}{pins:List (AF×Obj)}{σ:St}{H:Hp}{s:AG}{a:AF}{xs ys:List V}
B5 oU.of{K:aG}(h:H a=NR (.lst xs)):oU K H a xs:=.inl (.inl h)
B5 xW.of{K:aG}(h:H a=NR (.tup xs)):xW K H a xs:=.inl (.inl h)
B5 Inv.list(I:Inv X pins σ H s)(h:oU X.K H a xs):∃its:List AE,Vals xs its∧PlainL s.heap a its.toArray∧xs.length≤sizeLine:=by
 rcases h with h | ⟨o,its,n,hk,hc,hd,hs,hz,r⟩
 ·B3⟨z,its,n,r,e⟩:=h.ok I.hok;~⟨its,r,⟨_,n,e,U,U,U⟩,z⟩
 ·&⟨its.toList,r,⟨o,n,I.Kr a o hk,hc,hd,by simpa using hs⟩,?_⟩;have e:=r.length;simp only[L3]at e;omega
B5 Inv.tuple(I:Inv X pins σ H s)(h:xW X.K H a xs):∃its:List AE,Vals xs its∧IsTup s.heap a its.toArray∧xs.length≤sizeLine:=by
 rcases h with h | ⟨o,its,n,hk,hc,hs,hz,r⟩
 ·B3⟨z,its,r,p⟩:=h.ok I.hok;~⟨its,r,p,z⟩
 ·&⟨its.toList,r,⟨o,I.Kr a o hk,hc,n,by simpa using hs⟩,?_⟩;have e:=r.length;simp only[L3]at e;omega
B5 Inv.Ho(I:Inv X pins σ H s)(h:oU X.K H a xs)(h':oU X.K H a ys):xs=ys:=by
 B3⟨its,r,⟨o,n,e,_,_,d⟩,_⟩:=I.list h;B3⟨its',r',⟨o',n',e',_,_,d'⟩,_⟩:=I.list h';rw[e]at e';cases e';rw[d]at d';injection d' with d1 _;have:its=its':=by simpa using congrArg AA d1
 subst this;~r.inj r'
B5 Inv.Ww(I:Inv X pins σ H s)(h:xW X.K H a xs)(h':xW X.K H a ys):xs=ys:=by
 B3⟨its,r,⟨o,e,_,n,d⟩,_⟩:=I.tuple h;B3⟨its',r',⟨o',e',_,n',d'⟩,_⟩:=I.tuple h';rw[e]at e';cases e';rw[d]at d';injection d' with d1 _;have:its=its':=by simpa using congrArg AA d1
 subst this;~r.inj r'
end
abbrev Cx.wish(X:Cx)(E:AE→AG→Prop):Cx:={X with xe:=E}
abbrev Cx.sy(X:Cx):Cx:=X.wish λ_ _=>False
B5 Cx.Ok.wish{X:Cx}(ok:X.Ok)(E:AE→AG→Prop):(X.wish E).Ok:=
 ⟨ok.mod,ok.kind,ok.glob,ok.blt,ok.above,ok.inj,ok.has,ok.cab,ok.hd,ok.frames,ok.stk,ok.exf,ok.bs,ok.bsz,ok.aBA,ok.aEk,ok.Oj,ok.frf⟩
B5 Cx.Ok.Am{X:Cx}{E:AE→AG→Prop}(ok:(X.wish E).Ok):X.Ok:=
 ⟨ok.mod,ok.kind,ok.glob,ok.blt,ok.above,ok.inj,ok.has,ok.cab,ok.hd,ok.frames,ok.stk,ok.exf,ok.bs,ok.bsz,ok.aBA,ok.aEk,ok.Oj,ok.frf⟩
section
variable{X:Cx}{pins:List (AF×Obj)}{σ:St}{H:Hp}{s:AG}{E:AE→AG→Prop}
B5 Inv.wish(I:Inv X pins σ H s)(E:AE→AG→Prop):Inv (X.wish E) pins σ H s:=⟨I.ok.wish E,I.os,I.bare,I.base,I.loc,I.cell,I.free,I.zR,I.pin,I.hok,I.len⟩
B5 Inv.Am(I:Inv (X.wish E) pins σ H s):Inv X pins σ H s:=⟨I.ok.Am,I.os,I.bare,I.base,I.loc,I.cell,I.free,I.zR,I.pin,I.hok,I.len⟩
B5 SP.Am{D:Ends}{f:Flow}{s':AG}(h:SP (X.wish E) pins D f s'):SP X pins D f s':=by
 cases f with
 | next=>B3⟨σ',H',I,q⟩:=h;~⟨σ',H',I.Am,q⟩
 | brk=>B3⟨σ',H',I,q⟩:=h;~⟨σ',H',I.Am,q⟩
 | cont=>B3⟨σ',H',I,q⟩:=h;~⟨σ',H',I.Am,q⟩
 | ret u=>B3⟨v,σ',H',I,r,q⟩:=h;~⟨v,σ',H',I.Am,r,q⟩
B5 NT.sy{st:List AO}{t:TS}(h:NT X.sy st t):NT X st t:=λpins s σ H D I hw=>
 BA (h pins s σ H D (I.wish _) hw) (λ_ _ q=>q.Am) λ_ _ z=>False.elim z
end
section
variable{X:Cx}{st:AO}{rest:List AO}{t u:TS}{e:AK}{te:TE}{pos:Pos}
def aGe:TS:=λD σ H=>D.nx σ H
def aHi(t u:TS):TS:=λD σ H=>t {D with nx:=u D} σ H
B5 aEo:NT X [] aGe:=λ_ _ σ H _ I h=>EM ⟨σ,H,I,h⟩
B5 aBD(h1:PS X st t)(h2:NT X rest u):NT X (st::rest) (aHi t u):=by
 intro pins s σ H D I h;&IU (iY (h1 pins s σ H {D with nx:=u D} I h) λf s1 q=>?_);cases f with
 | next=>B3⟨σ',H',I',q⟩:=q;~h2 pins s1 σ' H' D I' q
 | ret v=>~q
 | brk=>~q
 | cont=>~q
B5 aEp(h1:PS X st t):NT X [st] t:=by
 intro pins s σ H D I h;&IU (iY (h1 pins s σ H D I h) λf s1 q=>?_);cases f with
 | next=>~EM q
 | ret v=>~q
 | brk=>~q
 | cont=>~q
B5 Inv.quiet{pins:List (AF×Obj)}{σ:St}{H:Hp}{s:AG}(I:Inv X pins σ H s):interactive X.env=NV:=by simp[interactive,I.ok.kind]
def oV(te:TE):TS:=λD σ H=>te σ H λ_ H1=>D.nx σ H1
B5 kY(he:PE X e te)(hs:DO e none pos.line X.env=pure NV:=by rfl):PS X (.Expr e pos) (oV te):=by intro pins s σ H D I h;~wpAny_Expr_any (iY (he pins s σ H _ I h) λv s1 ⟨x,H1,I1,r1,q1⟩=>⟨σ,H1,I1,q1⟩) I.quiet hs
def aBE(te:TE):TS:=λD σ H=>te σ H D.rt
B5 Zy(he:PE X e te):PS X (.Return (NR e) pos) (aBE te):=by intro pins s σ H D I h;~wpAny_Return_some (iY (he pins s σ H _ I h) λv s1 ⟨x,H1,I1,r1,q1⟩=>⟨x,σ,H1,I1,r1,q1⟩)
def aJt(c:TT)(t u:TS):TS:=λD σ H=>c σ H λb H1=>if b=NU then t D σ H1 else u D σ H1
B5 aJu{c:AK}{a b:List AO}{tc:TT}(hc:PT X c tc)(ha:NT X a t)(hb:NT X b u):PS X (.If c a b pos) (aJt tc t u):=by
 intro pins s σ H D I h;&wpAny_If (iY (hc pins s σ H _ I h) λd s1 ⟨H1,I1,q1⟩=>?_);cases d with
 | true=>~ha pins s1 σ H1 D I1 q1
 | false=>~hb pins s1 σ H1 D I1 q1
def aBF:TS:=λ_ _ _=>False
B5 aBG:PS X st aBF:=λ_ _ _ _ _ _ h=>h.elim
end
abbrev TG:=V→St→Hp→(St→Hp→Prop)→Prop
abbrev TGs:=List V→St→Hp→(St→Hp→Prop)→Prop
def PG(X:Cx)(target:AK)(t:TG):Prop:=
 ∀(pins:List (AF×Obj))(s:AG)(σ:St)(H:Hp)(v:V)(u:AE)(Q:St→Hp→Prop),Inv X pins σ H s→RelV v u→t v σ H Q →
  AL Nl X.A (EW target X.env u) (λ_ s'=>∃σ' H',Inv X pins σ' H' s'∧Q σ' H') X.xe s
def PGs(X:Cx)(ts:List AK)(t:TGs):Prop:=
 ∀(pins:List (AF×Obj))(s:AG)(σ:St)(H:Hp)(vs:List V)(us:List AE)(Q:St→Hp→Prop),Inv X pins σ H s→Vals vs us→t vs σ H Q →
  AL Nl X.A (assignInOrder ((EO ts X.env).map (·.2)) us) (λ_ s'=>∃σ' H',Inv X pins σ' H' s'∧Q σ' H') X.xe s
abbrev aHj:=V→V→V→Hp→(Hp→Prop)→Prop
def aJv(X:Cx)(t:aHj):Prop:=
 ∀(pins:List (AF×Obj))(s:AG)(σ:St)(H:Hp)(o i v:V)(ov iv u:AE)(Q:Hp→Prop),Inv X pins σ H s→RelV o ov→RelV i iv→RelV v u→t o i v H Q →
  AL Nl X.A (setItem ov iv u) (λ_ s'=>∃H',Inv X pins σ H' s'∧Q H') X.xe s
section
variable{X:Cx}{pos:Pos}
def iZ(i:Nat):TG:=λv σ H Q=>Q (σ.set i (NR v)) H
B5 fJ{i:Nat}{x:Str}(hN:X.N.Nodup)(hi:X.N[i]?=NR x)(hx:Loc X.env.scope x)(hf:X.fn x=NU∨X.env.scope.names.lookup x=NR .local:=by first | ~.inl U | ~.inr U | assumption):PG X (.Name x pos) (iZ i):=by intro pins s σ H v u Q I r h;~IL (NQ I hN hi hx r (λs' I'=>⟨_,H,I',h⟩) hf)
def aHk:TGs:=λvs σ H Q=>vs=[]∧Q σ H
def tu(t:TG)(u:TGs):TGs:=λvs σ H Q=>∃v r,vs=v::r∧t v σ H λσ' H'=>u r σ' H' Q
B5 Pa:PGs X [] aHk:=by intro pins s σ H vs us Q I r h;B3⟨e,h⟩:=h;subst e;cases r;~assignInOrder_nil ⟨σ,H,I,h⟩
B5 oW{e:AK}{es:List AK}{t:TG}{u:TGs}(h1:PG X e t)(h2:PGs X es u)
  (hs:(EO (e::es) X.env).map (·.2)=EW e X.env::(EO es X.env).map (·.2):=by rfl):PGs X (e::es) (tu t u):=by
 intro pins s σ H vs us Q I r h;B3⟨v,vr,e1,h⟩:=h;subst e1;cases r with
 | cons r rr=>rw[hs];&assignInOrder_cons (iY (h1 pins s σ H _ _ _ I r h) λ_ s1 ⟨σ1,H1,I1,q1⟩=>?_);~h2 pins s1 σ1 H1 _ _ Q I1 rr q1
def Vr(K:aG)(n:Nat)(t:TGs):TG:=λv σ H Q=>∃a xs,v=.ref a∧xW K H a xs∧xs.length=n∧t xs σ H Q
B5 Zz{es:List AK}{k:Nat}{t:TGs}{n:Nat}(hc:X.calm=NU)(h:PGs X es t)
  (hn:(EO es X.env).length=n:=by rfl) (hst:(EO es X.env).findIdx? (·.1)=none:=by rfl):PG X (.Tuple es k pos) (Vr X.K n t):=by
 intro pins s σ H v u Q I r hw;B3⟨a,xs,e1,hq,hl,hw⟩:=hw;subst e1;cases r;B3⟨its,rv,ht,hz⟩:=I.tuple hq;&assign_Tuple_tuple (I.ok.hd hc) ht (by simp[hn,←hl,rv.length]) hst λh' hx=>?_;have I1:Inv X pins σ H {s with heap:=h'}:=I.kept (t':=s.toks) λb o e=>hx b o (F3 (AN e)) e;~h pins _ σ H xs _ Q I1 (by simpa using rv) hw
def aAd(to ti:TE)(t:aHj):TG:=λv σ H Q=>to σ H λo H1=>ti σ H1 λi H2=>t o i v H2 λH3=>Q σ H3
B5 BJ{o i:AK}{to ti:TE}{t:aHj}(ho:PE X o to)(hi:PE X i ti)(hs:aJv X t)
  (ha:∀v,EW (.Subscript o i pos) X.env v=(do
   let ov ←DI [v] (AU o X.env)
   let iv ←DI [v,ov] (AU i X.env)
   EK pos
   DI [v,ov,iv] (setItem ov iv v)
   release [v,ov,iv] []):=by intro _;rfl):PG X (.Subscript o i pos) (aAd to ti t):=by
 intro pins s σ H v u Q I r h;rw[ha];&AH (CD (iY (ho pins s σ H _ I h) λov s1 ⟨x,H1,I1,r1,q1⟩=>?_));&AH (CD (iY (hi pins s1 σ H1 _ I1 q1) λiv s2 ⟨y,H2,I2,r2,q2⟩=>?_));&AH (HI (AH (CD (iY (hs pins s2 σ H2 x y v ov iv u _ I2 r1 r2 r q2) λ_ s3 ⟨H3,I3,q3⟩=>?_))));~wpAny_release ⟨σ,H3,I3,q3⟩
def xX(te:TE)(g:TG):TS:=λD σ H=>te σ H λx H1=>g x σ H1 D.nx
B5 Ks{tg e:AK}{te:TE}{g:TG}(he:PE X e te)(hg:PG X tg g)(hs:swapsWithSole [tg] e pos.line X.env=pure NV:=by rfl)(hw:swappedStores [tg] e X.env=pure none:=by rfl)
  (h1:(EO [tg] X.env).map (·.2)=[EW tg X.env]:=by rfl):PS X (.Assign [tg] e pos) (xX te g):=by
 intro pins s σ H D I h;&wpAny_Assign_stores (iY (he pins s σ H _ I h) λv s1 ⟨x,H1,I1,r1,q1⟩=>?_) hs hw;rw[h1];~iY (hg pins s1 σ H1 x v _ I1 r1 q1) λ_ s2 q=>q
B5 bL{i:Nat}{x:Str}{e:AK}{te:TE}{pos':Pos}(hN:X.N.Nodup)(hi:X.N[i]?=NR x)(hx:Loc X.env.scope x)(he:PE X e te)(hs:DO e (NR (.Name x pos')) pos.line X.env=pure NV:=by rfl)(hf:X.fn x=NU∨X.env.scope.names.lookup x=NR .local:=by first | ~.inl U | ~.inr U | assumption) :
  PS X (.Assign [.Name x pos'] e pos) (xX te (iZ i)):=by
 intro pins s σ H D I h;&wpAny_Assign_Name (iY (he pins s σ H _ I h) λv s1 ⟨y,H1,I1,r1,q1⟩=>?_) hs;~NQ I1 hN hi hx r1 (λs2 I2=>⟨_,H1,I2,q1⟩) hf
end
section
variable{X:Cx}{pos:Pos}
def az(c:TT)(tb:TS):TS:=λD σ H=>∃W:Nat→St→Hp→Prop,(∃m,W m σ H)∧∀m σ H,W m σ H →
 c σ H λb H1=>if b=NU then ∃N:St→Hp→Prop,(∀σ' H',N σ' H'→∃m',m'<m∧W m' σ' H')∧tb {D with nx:=N,ct:=N,bk:=D.nx} σ H1 else D.nx σ H1
B5 aBH{c:AK}{body:List AO}{tc:TT}{tb:TS}(hp:EC Nl X.A X.env X.xe)(hc:PT X c tc)(hb:NT X body tb):PS X (.While c body [] pos) (az tc tb):=by
 intro pins s σ H D I h;B3⟨W,⟨m0,w0⟩,turn⟩:=h;&wpAny_While (codeAny_whileLoop (λn s'=>∃σ' H',Inv X pins σ' H' s'∧W n σ' H') ?_ m0 ⟨σ,H,I,w0⟩);rintro n s1 ⟨σ1,H1,I1,w1⟩;&CC hp (iY (hc pins s1 σ1 H1 _ I1 (turn n σ1 H1 w1)) λb s2 ⟨H2,I2,q2⟩=>?_);cases b with
 | true=>
  B3⟨N,hN,q2⟩:=q2;rw[if_pos rfl];&CC hp (iY (hb pins s2 σ1 H2 _ I2 q2) λf s3 q3=>?_);cases f with
  | next=>B3⟨σ3,H3,I3,n3⟩:=q3;B3⟨m',hm,w3⟩:=hN σ3 H3 n3;~⟨m',hm,σ3,H3,I3,w3⟩
  | cont=>B3⟨σ3,H3,I3,n3⟩:=q3;B3⟨m',hm,w3⟩:=hN σ3 H3 n3;~⟨m',hm,σ3,H3,I3,w3⟩
  | brk=>~q3
  | ret v=>~q3
 | false=>rw[if_neg E8];~EM ⟨σ1,H2,I2,q2⟩
end
structure It where
 go:Nat→Hp→Prop
 yld:Nat→Hp→V→Hp→Prop
 stop:Nat→Hp→Prop
def Hq(X:Cx)(pins:List (AF×Obj))(H:Hp)(b:AF):Prop:=
 H b=none∧b≠X.env.locals∧b∉X.fs∧(b∈X.ex∨X.s₀.heap.objs.size≤b)∧(∀x c,X.env.cells.lookup x=NR c→c≠b)∧∀p∈X.pn++pins,p.1≠b
B5 Inv.aEq{X:Cx}{pins:List (AF×Obj)}{σ:St}{H H':Hp}{s:AG}{b:AF}(I:Inv X pins σ H s)(hb:s.heap.objs.size≤b)(hn:H' b=none):Hq X pins H' b:=by
 &⟨hn,Q7 (E7 I.lt hb),I.aLo hb,.inr (G1 I.sz hb),λx c e z=>?_,λp hp z=>?_⟩
 ·B3⟨v,q⟩:=I.cell x c e;~absurd (E7 q.lt (by rw[z];~hb)) (L9 _)
 ·~absurd (E7 (AN (I.pin p hp).1) (by rw[z];~hb)) (L9 _)
structure Turn(P:AQ)(w:AS)(K:aG)(tg:AK)(J:It)(fp:List AF)(it:AF)(tn:Nat→Heap→Prop):Prop where
 mem:it∈fp
 obj:∀i h,tn i h→∀b∈fp,∃o,h.get? b=NR o∧∀v,o.data≠.cell v
 keep:∀i h h',tn i h→(∀b∈fp,∀o,h.get? b=NR o→h'.get? b=NR o)→tn i h'
 item:∀(X:Cx),X.prog=P→X.w=w→X.K=K→X.calm=NU→∀(i:Nat)(pins:List (AF×Obj))(s:AG)(σ:St)(H:Hp)(E:AE→AG→Prop),Inv X pins σ H s→(∀b∈fp,Hq X pins H b)→tn i s.heap→J.go i H →
  AL (AM P w) X.A (DU (.ref it)) (λr s1=>∃u,r=NR u ∧
   AL (AM P w) X.A (ER tg (.ref it) u) (λ_ s2=>∃x H',Inv X pins σ H' s2∧RelV x u∧J.yld i H x H'∧tn (i+1) s2.heap∧∀b∈fp,H' b=none) E s1) E s
 done:∀(X:Cx),X.prog=P→X.w=w→X.K=K→X.calm=NU→∀(i:Nat)(pins:List (AF×Obj))(s:AG)(σ:St)(H:Hp)(E:AE→AG→Prop),Inv X pins σ H s→(∀b∈fp,Hq X pins H b)→tn i s.heap→J.stop i H →
  AL (AM P w) X.A (DU (.ref it)) (λr s1=>r=none∧Inv X pins σ H s1) E s
 self:∀(A:AV)(i:Nat)(s:AG)(Q:AE→AG→Prop)(E:AE→AG→Prop),tn i s.heap→Q (.ref it) s→AL (AM P w) A (He (.ref it)) Q E s
abbrev TI:=St→Hp→(It→Hp→Prop)→Prop
def PIE(X:Cx)(pins:List (AF×Obj))(σ:St)(tg:AK)(R:It→Hp→Prop)(itv:AE)(s2:AG):Prop:=
 ∃(it:AF)(fp:List AF)(tn:Nat→Heap→Prop)(J:It)(H':Hp),itv=.ref it∧Inv X pins σ H' s2∧Turn X.prog X.w X.K tg J fp it tn∧tn 0 s2.heap∧(∀b∈fp,Hq X pins H' b)∧R J H'
def PI(X:Cx)(tg iter:AK)(wi:TI):Prop:=
 ∀(pins:List (AF×Obj))(s:AG)(σ:St)(H:Hp)(R:It→Hp→Prop),Inv X pins σ H s→wi σ H R →
  AL Nl X.A (AU iter X.env) (λv s1=>AL Nl X.A (He v) (PIE X pins σ tg R) X.xe s1) X.xe s
B5 aBI{M:Iq}{A:AV}{E:AE→AG→Prop}{s:AG}{tg:AK}{it:AF}{u:AE}{o:Obj}{n:String}{vs:Array AE}{Q:Unit→AG→Prop}(ho:s.heap.get? it=NR o)(hc:o.cls=.type n)(hd:o.data=.fields vs)
    (hn:["enumerate", "zip", "dict_itemiterator", "dict_reverseitemiterator", "odict_iterator", "itertools.zip_longest", "itertools.pairwise"].contains n=NV) (hQ:Q () s):AL M A (ER tg (.ref it) u) Q E s:=by
  B4 ER;cases tg<;>first
    | ~wpAny_pure hQ
    | (cases u<;>first
        | ~wpAny_pure hQ
        | (&AH (JA ho ?_)
           rw[hc,hd];show AL M A (if(["enumerate", "zip", "dict_itemiterator", "dict_reverseitemiterator", "odict_iterator", "itertools.zip_longest", "itertools.pairwise"].contains n&&vs[0]?==NR (ES _))=NU then _ else _) Q E s;rw[if_neg (by intro h;rw[hn,x9]at h;cases h)];~wpAny_pure hQ))
def Itl(K:aG)(a:AF):It:=
 ⟨λi H=>∃xs x,oU K H a xs∧xs[i]?=NR x,λi H x H'=>H'=H∧∀xs,oU K H a xs→xs[i]?=NR x,λi H=>∃xs,oU K H a xs∧xs.length≤i⟩
def Itt(K:aG)(a:AF):It:=
 ⟨λi H=>∃xs x,xW K H a xs∧xs[i]?=NR x,λi H x H'=>H'=H∧∀xs,xW K H a xs→xs[i]?=NR x,λi H=>∃xs,xW K H a xs∧xs.length≤i⟩
def Itr(lo:Int)(n:Nat):It:=⟨λi _=>i<n,λi H x H'=>H'=H∧x=.int (lo+i),λi _=>n≤i⟩
B5 aAe{P:AQ}{w:AS}{K:aG}{tg:AK}(a it:AF):Turn P w K tg (Itl K a) [it] it (λi h=>h.IsListIter it a i) where
 mem:=by simp
 obj:=λi h st b hb=>by
  have e:b=it:=by simpa using hb
  subst e;B3⟨o,e,c,d⟩:=st;~⟨o,e,λv z=>by rw[d]at z;cases z⟩
 keep:=λi h h' st k=>st.at λo e=>k it (by simp) o e
 item:=by intro X hP hw hK hc i pins s σ H E I hf st hg;subst hP hw hK;B3⟨xs,x,hq,hx⟩:=hg;B3⟨its,rv,p,hz⟩:=I.list hq;B3⟨u,hu,ru⟩:=rv.get hx;B3⟨f0,f1,f2,f3,f4,f5⟩:=hf it (by simp);&wpAny_pyNext_list_item st p.isList (x:=u) (by simpa using hu) λh' st' sb=>?_;have I1:Inv X pins σ H {s with heap:=h'}:=I.turned (t':=s.toks) (λb o hb e=>(sb.2 b hb).trans e) f0 f1 f3 f4 f5;B3⟨o,e,c,d⟩:=id st';~⟨u,U,aBI (s:={s with heap:=h'}) e c d A8 ⟨x,H,I1,ru,⟨U,λys hy=>by rw[I.Ho hy hq];~hx⟩,st',λb hb=>(hf b hb).1⟩⟩
 done:=by intro X hP hw hK hc i pins s σ H E I hf st hg;subst hP hw hK;B3⟨xs,hq,hx⟩:=hg;B3⟨its,rv,p,hz⟩:=I.list hq;B3⟨f0,f1,f2,f3,f4,f5⟩:=hf it (by simp);have hl:=rv.length;~wpAny_pyNext_list_end (I.ok.hd hc) st p.isList (by simp;omega) λh' eb=>⟨U,I.turned (t':=s.toks) (λb o hb e=>eb b o hb e) f0 f1 f3 f4 f5⟩
 self:=λ_ _ _ _ _ st h=>wpAny_pyIter_listiter st h
B5 bc{P:AQ}{w:AS}{K:aG}{tg:AK}(a it:AF):Turn P w K tg (Itt K a) [it] it (λi h=>h.IsTupleIter it a i) where
 mem:=by simp
 obj:=λi h st b hb=>by
  have e:b=it:=by simpa using hb
  subst e;B3⟨o,e,c,d⟩:=st;~⟨o,e,λv z=>by rw[d]at z;cases z⟩
 keep:=λi h h' st k=>st.at λo e=>k it (by simp) o e
 item:=by intro X hP hw hK hc i pins s σ H E I hf st hg;subst hP hw hK;B3⟨xs,x,hq,hx⟩:=hg;B3⟨its,rv,p,hz⟩:=I.tuple hq;B3⟨u,hu,ru⟩:=rv.get hx;B3⟨f0,f1,f2,f3,f4,f5⟩:=hf it (by simp);&wpAny_pyNext_tuple_item st (show s.heap.IsTuple a its.toArray from p) (x:=u) (by simpa using hu) λh' st' sb=>?_;have I1:Inv X pins σ H {s with heap:=h'}:=I.turned (t':=s.toks) (λb o hb e=>(sb.2 b hb).trans e) f0 f1 f3 f4 f5;B3⟨o,e,c,d⟩:=id st';~⟨u,U,aBI (s:={s with heap:=h'}) e c d A8 ⟨x,H,I1,ru,⟨U,λys hy=>by rw[I.Ww hy hq];~hx⟩,st',λb hb=>(hf b hb).1⟩⟩
 done:=by intro X hP hw hK hc i pins s σ H E I hf st hg;subst hP hw hK;B3⟨xs,hq,hx⟩:=hg;B3⟨its,rv,p,hz⟩:=I.tuple hq;B3⟨f0,f1,f2,f3,f4,f5⟩:=hf it (by simp);have hl:=rv.length;~wpAny_pyNext_tuple_end (I.ok.hd hc) st (show s.heap.IsTuple a its.toArray from p) (by simp;omega) λh' eb=>⟨U,I.turned (t':=s.toks) (λb o hb e=>eb b o hb e) f0 f1 f3 f4 f5⟩
 self:=λ_ _ _ _ _ st h=>wpAny_pyIter_tupleiter st h
B5 bf{P:AQ}{w:AS}{K:aG}{tg:AK}(it:AF)(lo:Int)(n:Nat):Turn P w K tg (Itr lo n) [it] it (λi h=>IsRangeIter h it (lo+(i:Nat)*1) ((n:Int)-(i:Nat)) 1) where
 mem:=by simp
 obj:=λi h st b hb=>by
  have e:b=it:=by simpa using hb
  subst e;~⟨_,st,λv z=>by
   have z':Data.fields _=Data.cell v:=z;cases z'⟩
 keep:=λi h h' st k=>k it (by simp) _ st
 item:=by intro X hP hw hK hc i pins s σ H E I hf st hg;subst hP hw hK;B3⟨f0,f1,f2,f3,f4,f5⟩:=hf it (by simp);have W:=Walks.range (prog:=X.prog) (w:=X.w) (I.ok.hd hc) it lo 1 n;&W.item i s _ _ hg st λv h' tk hv st' kk=>?_;B3⟨t,rfl⟩:=hv;have I1:Inv X pins σ H {s with heap:=h',toks:=tk}:=I.turned (λb o hb e=>kk b o (by simpa using hb) e) f0 f1 f3 f4 f5;&⟨_,U,aBI (s:={s with heap:=h',toks:=tk}) (n := "range_iterator") st' U U A8 ⟨.int (lo+i),H,I1,⟨t,?_⟩,⟨U,U⟩,st',λb hb=>(hf b hb).1⟩⟩;rw[Int.mul_one]
 done:=by intro X hP hw hK hc i pins s σ H E I hf st hg;subst hP hw hK;B3⟨f0,f1,f2,f3,f4,f5⟩:=hf it (by simp);~wpAny_pyNext_range_end (I.ok.hd hc) st (by have:n≤i:=hg;omega) λh' eb=>⟨U,I.turned (t':=s.toks) (λb o hb e=>eb b o hb e) f0 f1 f3 f4 f5⟩
 self:=λ_ _ _ _ _ st h=>wpAny_pyIter_rangeiter st h
end L2
namespace L2
open PySem PySem.Spec PyProof.Rows
section
variable{X:Cx}{tg:AK}
def aGg(K:aG)(tl:TE):TI:=λσ H R=>tl σ H λx H1=>∃a,x=.ref a∧(∃xs,oU K H1 a xs)∧R (Itl K a) H1
def aJy(K:aG)(tl:TE):TI:=λσ H R=>tl σ H λx H1=>∃a,x=.ref a∧(∃xs,xW K H1 a xs)∧R (Itt K a) H1
B5 uc{l:AK}{tl:TE}(hl:PE X l tl):PI X tg l (aGg X.K tl):=by
 intro pins s σ H R I h;&iY (hl pins s σ H _ I h) λv s1 ⟨x,H1,I1,r1,q1⟩=>?_;B3⟨a,e,⟨xs,hq⟩,q⟩:=q1;subst e;cases r1;B3⟨its,rv,p,hz⟩:=I1.list hq;&DF p.isList ?_;&⟨s1.heap.objs.size,[s1.heap.objs.size],_,_,H1,U,I1.kept (t':=s1.toks) λb o e=>AI _ e,aAe a _,⟨_,AR _ U,U,U⟩,λb hb=>?_,q⟩;have e:b=s1.heap.objs.size:=by simpa using hb
 subst e;~I1.aEq (C9 _) (I1.hok.fresh (C9 _))
B5 aBJ{l:AK}{tl:TE}(hl:PE X l tl):PI X tg l (aJy X.K tl):=by
 intro pins s σ H R I h;&iY (hl pins s σ H _ I h) λv s1 ⟨x,H1,I1,r1,q1⟩=>?_;B3⟨a,e,⟨xs,hq⟩,q⟩:=q1;subst e;cases r1;B3⟨its,rv,p,hz⟩:=I1.tuple hq;&wpAny_pyIter_tuple (show s1.heap.IsTuple a its.toArray from p) ?_;&⟨s1.heap.objs.size,[s1.heap.objs.size],_,_,H1,U,I1.kept (t':=s1.toks) λb o e=>AI _ e,bc a _,⟨_,AR _ U,U,U⟩,λb hb=>?_,q⟩;have e:b=s1.heap.objs.size:=by simpa using hb
 subst e;~I1.aEq (C9 _) (I1.hok.fresh (C9 _))
B5 NZ{pins:List (AF×Obj)}{σ:St}{H:Hp}{s:AG}{R:It→Hp→Prop}{E:AE→AG→Prop}{lo hi:Int}{t u v:Tok}{tk:Nat}(I:Inv X pins σ H s)(h1:-(2 ^ 62)≤lo)(h2:lo<2 ^ 62)(h3:-(2 ^ 62)≤hi)(h4:hi<2 ^ 62)
  (q:R (Itr lo (hi-lo).toNat) H):AL Nl X.A (He (.ref s.heap.objs.size)) (PIE X pins σ tg R) E {s with heap:=s.heap.push {cls:=.type "range", data:=.fields #[.int lo t,.int hi u,.int 1 v]},toks:=tk}:=by
 &wpAny_pyIter_range (Lu ..) (small_one h1 h2 h3 h4) ?_;have I1:Inv X pins σ H {s with heap:=s.heap.push {cls:=.type "range", data:=.fields #[.int lo t,.int hi u,.int 1 v]},toks:=tk}:=I.kept λb o e=>AI _ e;&⟨(s.heap.push {cls:=.type "range", data:=.fields #[.int lo t,.int hi u,.int 1 v]}).objs.size,[(s.heap.push {cls:=.type "range", data:=.fields #[.int lo t,.int hi u,.int 1 v]}).objs.size],_,_,H,U,
  I1.kept (t':=tk) λb o e=>AI _ e,bf _ lo (hi-lo).toNat,?_,λb hb=>?_,q⟩
 ·have e1:lo+((0:Nat):Int)*1=lo:=by simp
  have e2:(((hi-lo).toNat:Nat):Int)-((0:Nat):Int)=LZ lo hi 1:=by rw[Kn];split<;>omega
  show IsRangeIter _ _ (lo+((0:Nat):Int)*1) ((((hi-lo).toNat:Nat):Int)-((0:Nat):Int)) 1;rw[e1,e2];~AR _ U
 ·have e:b=(s.heap.push {cls:=.type "range", data:=.fields #[.int lo t,.int hi u,.int 1 v]}).objs.size:=by simpa using hb
  subst e;~I1.aEq (C9 _) (I1.hok.fresh (C9 _))
def aBK(ta:TA):TI:=λσ H R=>ta σ H λvs H1=>∃j:Int,vs=[.int j]∧-(2 ^ 62)≤j∧j<2 ^ 62∧R (Itr 0 j.toNat) H1
def aBL(ta:TA):TI:=λσ H R=>ta σ H λvs H1=>∃i j:Int,vs=[.int i,.int j]∧(-(2 ^ 62)≤i∧i<2 ^ 62∧-(2 ^ 62)≤j∧j<2 ^ 62)∧R (Itr i (j-i).toNat) H1
B5 Wx{a:AK}{ta:TA}{p pos:Pos}(hg:Gl X "range") (hm:X.mg "range" = none) (ha:PA X [a] ta) (hs:AJ [a] X.env=[(NV,AU a X.env)]:=by rfl):PI X tg (.Call (.Name "range" p) [a] [] pos) (aBK ta):=by
 intro pins s σ H R I h;&Call_ (vZ I hg hm boot_range (L4 (iY (ha pos pins s σ H _ I h) λus s1 ⟨vs,H1,I1,r1,q1⟩=>?_) hs U));B3⟨j,e,q1,q2,q⟩:=q1;subst e;cases r1 with
 | cons r rr=>cases rr;B3⟨t,rfl⟩:=r;~call_range_1 (NZ I1 A6 A6 q1 q2 (by simpa using q))
B5 aAf{a b:AK}{ta:TA}{p pos:Pos}(hg:Gl X "range") (hm:X.mg "range" = none) (ha:PA X [a,b] ta) (hs:AJ [a,b] X.env=[(NV,AU a X.env),(NV,AU b X.env)]:=by rfl) (hs2:AJ [b] X.env=[(NV,AU b X.env)]:=by rfl) :
  PI X tg (.Call (.Name "range" p) [a,b] [] pos) (aBL ta):=by
 intro pins s σ H R I h;&Call_ (vZ I hg hm boot_range (L4 (iY (ha pos pins s σ H _ I h) λus s1 ⟨vs,H1,I1,r1,q1⟩=>?_) (by rw[hs,hs2]) (by rw[hs2];rfl)));B3⟨i,j,e,⟨q1,q2,q3,q4⟩,q⟩:=q1;subst e;cases r1 with
 | cons r rr=>
  cases rr with
  | cons r' rr=>cases rr;B3⟨t,rfl⟩:=r;B3⟨t',rfl⟩:=r';~LL (NZ I1 q1 q2 q3 q4 q)
def Qo(wi:TI)(g:TG)(tb:TS):TS:=λD σ H=>wi σ H λJ H1=>∃W:Nat→Nat→St→Hp→Prop,(∃m,W 0 m σ H1)∧∀i m σ H,W i m σ H →
 (J.stop i H∧D.nx σ H)∨(J.go i H∧∃N:St→Hp→Prop,(∀σ' H',N σ' H'→∃m',m'<m∧W (i+1) m' σ' H')∧∀x H',J.yld i H x H'→g x σ H' λσ2 H2=>tb {D with nx:=N,ct:=N,bk:=D.nx} σ2 H2)
def Qp(fp:List AF)(h:Heap):List (AF×Obj):=fp.filterMap λb=>(h.get? b).map λo=>(b,o)
B5 xY{fp:List AF}{h:Heap}{b:AF}{o:Obj}(hb:b∈fp)(e:h.get? b=NR o):(b,o)∈Qp fp h:=l6.mpr ⟨b,hb,by rw[e];rfl⟩
B5 aAg{fp:List AF}{h:Heap}{p:AF×Obj}(hp:p∈Qp fp h):p.1∈fp∧h.get? p.1=NR p.2:=by
 B3⟨b,hb,e⟩:=l6.mp hp;cases q:h.get? b with
 | none=>rw[q]at e;cases e
 | some o=>rw[q]at e;have e':(b,o)=p:=E6 e;subst e';~⟨hb,q⟩
B5 Inv.pinned{pins:List (AF×Obj)}{σ:St}{H:Hp}{s:AG}{fp:List AF}(I:Inv X pins σ H s)(hf:∀b∈fp,Hq X pins H b)(ho:∀b∈fp,∃o,s.heap.get? b=NR o∧∀v,o.data≠.cell v):Inv X (pins++Qp fp s.heap) σ H s:=
 I.su λp hp=>(F8.mp hp).elim (λz=>I.pin p (E5 _ z)) λz=>by B3⟨hb,e⟩:=aAg z;B3⟨f0,f1,f2,_⟩:=hf p.1 hb;B3⟨o,e',d⟩:=ho p.1 hb;rw[e]at e';cases e';~⟨e,f0,f1,f2,d⟩
B5 Inv.Hr{pins pl:List (AF×Obj)}{σ:St}{H:Hp}{s:AG}(I:Inv X (pins++pl) σ H s):Inv X pins σ H s:=I.su λp hp=>I.pin p (E5 _ (F5 _ hp))
B5 Qq{iter:AK}{body:List AO}{wi:TI}{g:TG}{tb:TS}{pos:Pos}(hp:EC Nl X.A X.env X.xe)(hc:X.calm=NU)(hi:PI X tg iter wi)(hg:PG X tg g)(hb:NT X body tb)
  (hs:∀x,BD iter X.env x=pure x:=by intro _;rfl):PS X (.For tg iter body [] pos) (Qo wi g tb):=by
 intro pins s σ H D I h;&wpAny_For (iY (hi pins s σ H _ I h) λv s1 h1=>iY h1 λitv s2 h2=>?_) hs;B3⟨it,fp,tn,J,H2,e,I2,T,st2,f2,W,⟨m0,w0⟩,turn⟩:=h2;subst e;have stat:∀{H':Hp},(∀b∈fp,H' b=none)→∀b∈fp,Hq X pins H' b:=λhn b hb=>⟨hn b hb,(f2 b hb).2⟩
 &codeAny_forLoop_any (λn s'=>∃i σ' H',Inv X pins σ' H' s'∧tn i s'.heap∧(∀b∈fp,H' b=none)∧W i n σ' H') ?_ m0 ⟨0,σ,H2,I2,st2,λb hb=>(f2 b hb).1,w0⟩;rintro n s3 ⟨i,σ3,H3,I3,st3,fr3,w3⟩;rcases turn i n σ3 H3 w3 with ⟨stop,qn⟩ | ⟨go,N,hN,step⟩
 ·&CC hp (iY (T.done X U U U hc i pins s3 σ3 H3 X.xe I3 (stat fr3) st3 stop) λr s4 ⟨hr,I4⟩=>?_);subst hr;~EM ⟨σ3,H3,I4,qn⟩
 ·&CC hp (iY (T.item X U U U hc i pins s3 σ3 H3 X.xe I3 (stat fr3) st3 go) λr s4 ⟨u,hr,h4⟩=>?_);subst hr;&CC hp (iY h4 λ_ s5 ⟨x,H5,I5,r5,y5,st5,fr5⟩=>?_);have I5':=I5.pinned (stat fr5) (T.obj _ _ st5);&CC hp (iY (hg _ s5 σ3 H5 x u _ I5' r5 (step x H5 y5)) λ_ s6 ⟨σ6,H6,I6,q6⟩=>?_);&CC hp (iY (hb _ s6 σ6 H6 _ I6 q6) λf s7 q7=>?_);have again:∀{σ7:St} {H7:Hp},Inv X (pins++Qp fp s5.heap) σ7 H7 s7→N σ7 H7→∃m,m<n∧∃i σ' H',Inv X pins σ' H' s7∧tn i s7.heap∧(∀b∈fp,H' b=none)∧W i m σ' H':=λ{σ7 H7} I7 n7=>by B3⟨m',hm,w7⟩:=hN σ7 H7 n7;&⟨m',hm,i+1,σ7,H7,I7.Hr,T.keep _ _ _ st5 λb hb o e=>(I7.pin (b,o) (E5 _ (E5 _ (xY hb e)))).1,λb hb=>?_,w7⟩;B3⟨o,e,d⟩:=T.obj _ _ st5 b hb;~(I7.pin (b,o) (E5 _ (E5 _ (xY hb e)))).2.1
  cases f with
  | next=>B3⟨σ7,H7,I7,n7⟩:=q7;~again I7 n7
  | cont=>B3⟨σ7,H7,I7,n7⟩:=q7;~again I7 n7
  | brk=>B3⟨σ7,H7,I7,q7⟩:=q7;~⟨σ7,H7,I7.Hr,q7⟩
  | ret v=>B3⟨x7,σ7,H7,I7,r7,q7⟩:=q7;~⟨x7,σ7,H7,I7.Hr,r7,q7⟩
end
end L2
namespace L2
open PySem PySem.Spec PyProof.Rows
abbrev R2:=V→V→Hp→VK→Prop
def vC(X:Cx)(f:AE→AE→Sem AE)(r:R2):Prop:=
 ∀(pins:List (AF×Obj))(s:AG)(σ:St)(H:Hp)(x y:V)(v u:AE)(Q:VK),Inv X pins σ H s→RelV x v→RelV y u→r x y H Q →
  AL Nl X.A (f v u) (EP X pins σ Q) X.xe s
def UnR(X:Cx)(f:AE→Sem AE)(r:V→Hp→VK→Prop):Prop:=
 ∀(pins:List (AF×Obj))(s:AG)(σ:St)(H:Hp)(x:V)(v:AE)(Q:VK),Inv X pins σ H s→RelV x v→r x H Q →
  AL Nl X.A (f v) (EP X pins σ Q) X.xe s
def mQ(X:Cx)(f:AE)(r:List V→Hp→VK→Prop):Prop:=
 ∀(pins:List (AF×Obj))(s:AG)(σ:St)(H:Hp)(xs:List V)(us:List AE)(Q:VK),Inv X pins σ H s→Vals xs us→r xs H Q →
  AL Nl X.A (call f us) (EP X pins σ Q) X.xe s
def OD(r:R2)(ta tb:TE):TE:=λσ H Q=>ta σ H λx H1=>tb σ H1 λy H2=>r x y H2 Q
def tUn(r:V→Hp→VK→Prop)(ta:TE):TE:=λσ H Q=>ta σ H λx H1=>r x H1 Q
def rI(C:Int→Int→Prop)(g:Int→Int→V):R2:=λx y H Q=>∃i j,x=.int i∧y=.int j∧C i j∧Q (g i j) H
def rI0(g:Int→Int→V):R2:=λx y H Q=>∃i j,x=.int i∧y=.int j∧Q (g i j) H
def rU(g:Int→V):V→Hp→VK→Prop:=λx H Q=>∃i,x=.int i∧Q (g i) H
section
variable{X:Cx}{a b c:AK}{ta tb tc:TE}{pos:Pos}
B5 aHl(ha:PE X a ta)(hb:PE X b tb){pins:List (AF×Obj)}{s:AG}{σ:St}{H:Hp}{R:V→V→Hp→Prop}(I:Inv X pins σ H s)
  (h:ta σ H λx H1=>tb σ H1 λy H2=>R x y H2) {Q:AE→AG→Prop} {f:AE→AE→Sem AE}
  (hf:∀v u s2 x y H2,Inv X pins σ H2 s2→RelV x v→RelV y u→R x y H2→AL Nl X.A (f v u) Q X.xe s2) :
  AL Nl X.A (AU a X.env) (λv s₁=>AL Nl X.A (AU b X.env) (λu s₂=>AL Nl X.A (f v u) Q X.xe s₂) X.xe s₁) X.xe s:=by
 &iY (ha pins s σ H _ I h) λv s1 ⟨x,H1,I1,r1,q1⟩=>?_;&iY (hb pins s1 σ H1 _ I1 q1) λu s2 ⟨y,H2,I2,r2,q2⟩=>?_;~hf v u s2 x y H2 I2 r1 r2 q2
B5 aJA{op:Operator}{r:R2}(ho:vC X (ED op) r)(ha:PE X a ta)(hb:PE X b tb):PE X (.BinOp a op b pos) (OD r ta tb):=by intro pins s σ H Q I h;~wpAny_BinOp (aHl ha hb I h λv u s2 x y H2 I2 rx ry q=>ho pins s2 σ H2 x y v u Q I2 rx ry q)
B5 aJB{op:UnaryOp}{r:V→Hp→VK→Prop}(ho:UnR X (unaryOp op) r)(ha:PE X a ta):PE X (.UnaryOp op a pos) (tUn r ta):=by intro pins s σ H Q I h;~UnaryOp_ (iY (ha pins s σ H _ I h) λv s1 ⟨x,H1,I1,r1,q1⟩=>ho pins s1 σ H1 x v Q I1 r1 q1)
B5 opI{f:AE→AE→Sem AE}{C:Int→Int→Prop}{g:Int→Int→Int}
  (rule:∀(i j:Int)(t u:Tok)(s:AG)(Q:AE→AG→Prop)(E:AE→AG→Prop),C i j→Q (.int (g i j) s.toks) {s with toks:=s.toks+1}→AL Nl X.A (f (.int i t) (.int j u)) Q E s) :
  vC X f (rI C λi j=>.int (g i j)):=by
 intro pins s σ H x y v u Q I rx ry h;B3⟨i,j,rfl,rfl,hc,q⟩:=h;B3⟨t,rfl⟩:=rx;B3⟨t',rfl⟩:=ry;~rule i j t t' s _ _ hc ⟨.int (g i j),H,I.tok _,⟨_,U⟩,q⟩
B5 aJC{f:AE→AE→Sem AE}{g:Int→Int→Int}
  (rule:∀(i j:Int)(t u:Tok)(s:AG)(Q:AE→AG→Prop)(E:AE→AG→Prop),Q (.int (g i j) s.toks) {s with toks:=s.toks+1}→AL Nl X.A (f (.int i t) (.int j u)) Q E s) :
  vC X f (rI0 λi j=>.int (g i j)):=by
 intro pins s σ H x y v u Q I rx ry h;B3⟨i,j,rfl,rfl,q⟩:=h;B3⟨t,rfl⟩:=rx;B3⟨t',rfl⟩:=ry;~rule i j t t' s _ _ ⟨.int (g i j),H,I.tok _,⟨_,U⟩,q⟩
B5 aEr{f:AE→AE→Sem AE}{g:Int→Int→Bool}
  (rule:∀(i j:Int)(t u:Tok)(s:AG)(Q:AE→AG→Prop)(E:AE→AG→Prop),Q (.bool (g i j)) s→AL Nl X.A (f (.int i t) (.int j u)) Q E s) :
  vC X f (rI0 λi j=>.bl (g i j)):=by
 intro pins s σ H x y v u Q I rx ry h;B3⟨i,j,rfl,rfl,q⟩:=h;B3⟨t,rfl⟩:=rx;B3⟨t',rfl⟩:=ry;~rule i j t t' s _ _ ⟨.bl (g i j),H,I,U,q⟩
def aAi(i j:Int):Prop:=0<j∧j<1073741824
def aAj(i j:Int):Prop:=0≤j∧j≤1000000∧i.natAbs<2 ^ 64
def Vs(i j:Int):Prop:=(-(2 ^ 64)<i∧i<2 ^ 64)∨(-(2 ^ 64)<j∧j<2 ^ 64)
B5 Vs.ok{i j:Int}(h:Vs i j):IntMulOk i j:=by
 rcases h with ⟨h1,h2⟩ | ⟨h1,h2⟩
 ·~.of_left (Kt h1 h2)
 ·~.of_right (Kt h1 h2)
B5 aHm:vC X (ED .Add) (rI0 λi j=>.int (i+j)):=aJC λ_ _ _ _ _ _ _ q=>add_int q
B5 aHn:vC X (ED .Sub) (rI0 λi j=>.int (i-j)):=aJC λ_ _ _ _ _ _ _ q=>sub_int q
B5 aHo:vC X (ED .Mult) (rI Vs λi j=>.int (i*j)):=opI λ_ _ _ _ _ _ _ hc q=>mul_int q hc.ok
B5 aEs:vC X (ED .FloorDiv) (rI aAi λi j=>.int (i/j)):=opI λi j _ _ _ _ _ hc q=>by have h1:(0:Int)<j:=hc.1;have h2:j<1073741824:=hc.2;~floordiv_int A6 (by rw[Int.fdiv_eq_ediv_of_nonneg i A6];~q) (.inl (PyProof.noPylong_small A6))
B5 aHp:vC X (ED .Mod) (rI (λ_ j=>0<j) λi j=>.int (i%j)):=opI λi j _ _ _ _ _ hc q=>by have h1:(0:Int)<j:=hc;~mod_int' A6 (by rw[Int.fmod_eq_emod_of_nonneg i A6];~q)
B5 aHq:vC X (ED .Pow) (rI aAj λi j=>.int (i ^ j.toNat)):=opI λ_ _ _ _ _ _ _ hc q=>pow_int_small hc.1 hc.2.1 hc.2.2 q
B5 unI{f:AE→Sem AE}{g:Int→Int}
  (rule:∀(i:Int)(t:Tok)(s:AG)(Q:AE→AG→Prop)(E:AE→AG→Prop),Q (.int (g i) s.toks) {s with toks:=s.toks+1}→AL Nl X.A (f (.int i t)) Q E s) :
  UnR X f (rU λi=>.int (g i)):=by
 intro pins s σ H x v Q I rx h;B3⟨i,rfl,q⟩:=h;B3⟨t,rfl⟩:=rx;~rule i t s _ _ ⟨.int (g i),H,I.tok _,⟨_,U⟩,q⟩
B5 aHr:UnR X (unaryOp .USub) (rU λi=>.int (-i)):=unI λ_ _ _ _ _ q=>neg_int q
end
def aAk:V→V→Bool
  | .non,.non=>NU | .non,.int _=>NU | .int _,.non=>NU | .non,.bl _=>NU | .bl _,.non=>NU | .non,.str _=>NU | .str _,.non=>NU
  | .int _,.int _=>NU | .bl _,.bl _=>NU | .str _,.str _=>NU | .byt _,.byt _=>NU
  | .int _,.str _=>NU | .str _,.int _=>NU | .bl _,.str _=>NU | .str _,.bl _=>NU
  | _,_=>NV
def rEq:R2:=λx y H Q=>aAk x y=NU∧Q (.bl (decide (x=y))) H
def rNe:R2:=λx y H Q=>aAk x y=NU∧Q (.bl (!decide (x=y))) H
B5 ud{i j:Int}:decide (V.int i=V.int j)=(i==j):=by rw[M7];simp
B5 aBM{i j:Bool}:decide (V.bl i=V.bl j)=(i==j):=by rw[M7];simp
B5 BK{i j:Str}:decide (V.str i=V.str j)=(i==j):=by rw[M7];simp
B5 ue{i j:Array UInt8}:decide (V.byt i=V.byt j)=(i.toList==j.toList):=by rw[M7];cases i;cases j;simp
section
variable{X:Cx}{a b c:AK}{ta tb tc:TE}{pos:Pos}
B5 dI{pins:List (AF×Obj)}{σ:St}{H:Hp}{s:AG}{Q:VK}{k k':Bool}(I:Inv X pins σ H s)(q:Q (.bl k) H)(e:k=k'):EP X pins σ Q (.bool k') s:=by subst e;~⟨.bl k,H,I,U,q⟩
B5 aJD:vC X (AY .Eq) rEq:=by
 intro pins s σ H x y v u Q I rx ry h;B3⟨hs,q⟩:=h;cases x with
 | non=>
  cases rx;cases y with
  | non=>cases ry;~PySem.EqNone.eq_none_none OU
  | bl j=>cases ry;~PySem.EqNone.eq_none_bool OU
  | int j=>B3⟨t',rfl⟩:=ry;~PySem.EqNone.eq_none_int OU
  | str j=>B3⟨t',rfl⟩:=ry;~PySem.EqNone.eq_none_str OU
  | _=>~absurd (show NV=NU from hs) E8
 | bl i=>
  cases rx;cases y with
  | non=>cases ry;~PySem.EqNone.eq_bool_none OU
  | bl j=>cases ry;~eq_bool (dI I q aBM)
  | str j=>B3⟨t',rfl⟩:=ry;~PySem.EqMixed.eq_bool_str OU
  | _=>~absurd (show NV=NU from hs) E8
 | int i=>
  B3⟨t,rfl⟩:=rx;cases y with
  | non=>cases ry;~PySem.EqNone.eq_int_none OU
  | int j=>B3⟨t',rfl⟩:=ry;~eq_int (dI I q ud)
  | str j=>B3⟨t',rfl⟩:=ry;~PySem.EqMixed.eq_int_str OU
  | _=>~absurd (show NV=NU from hs) E8
 | str i=>
  B3⟨t,rfl⟩:=rx;cases y with
  | non=>cases ry;~PySem.EqNone.eq_str_none OU
  | bl j=>cases ry;~PySem.EqMixed.eq_str_bool OU
  | int j=>B3⟨t',rfl⟩:=ry;~PySem.EqMixed.eq_str_int OU
  | str j=>B3⟨t',rfl⟩:=ry;~eq_str (dI I q BK)
  | _=>~absurd (show NV=NU from hs) E8
 | byt i=>
  B3⟨t,rfl⟩:=rx;cases y with
  | byt j=>B3⟨t',rfl⟩:=ry;~PySem.W.eq_bytes (dI I q ue)
  | _=>~absurd (show NV=NU from hs) E8
 | _=>cases y<;>~absurd (show NV=NU from hs) E8
B5 aJE:vC X (AY .NotEq) rNe:=by
 intro pins s σ H x y v u Q I rx ry h;B3⟨hs,q⟩:=h;cases x with
 | non=>
  cases rx;cases y with
  | non=>cases ry;~PySem.EqNone.ne_none_none OU
  | bl j=>cases ry;~PySem.EqNone.ne_none_bool OU
  | int j=>B3⟨t',rfl⟩:=ry;~PySem.EqNone.ne_none_int OU
  | str j=>B3⟨t',rfl⟩:=ry;~PySem.EqNone.ne_none_str OU
  | _=>~absurd (show NV=NU from hs) E8
 | bl i=>
  cases rx;cases y with
  | non=>cases ry;~PySem.EqNone.ne_bool_none OU
  | bl j=>cases ry;~ne_bool (dI I q (congrArg not aBM))
  | str j=>B3⟨t',rfl⟩:=ry;~PySem.EqMixed.ne_bool_str OU
  | _=>~absurd (show NV=NU from hs) E8
 | int i=>
  B3⟨t,rfl⟩:=rx;cases y with
  | non=>cases ry;~PySem.EqNone.ne_int_none OU
  | int j=>B3⟨t',rfl⟩:=ry;~ne_int (dI I q (congrArg not ud))
  | str j=>B3⟨t',rfl⟩:=ry;~PySem.EqMixed.ne_int_str OU
  | _=>~absurd (show NV=NU from hs) E8
 | str i=>
  B3⟨t,rfl⟩:=rx;cases y with
  | non=>cases ry;~PySem.EqNone.ne_str_none OU
  | bl j=>cases ry;~PySem.EqMixed.ne_str_bool OU
  | int j=>B3⟨t',rfl⟩:=ry;~PySem.EqMixed.ne_str_int OU
  | str j=>B3⟨t',rfl⟩:=ry;~ne_str (dI I q (congrArg not BK))
  | _=>~absurd (show NV=NU from hs) E8
 | byt i=>
  B3⟨t,rfl⟩:=rx;cases y with
  | byt j=>B3⟨t',rfl⟩:=ry;~PySem.W.ne_bytes (dI I q (congrArg not ue))
  | _=>~absurd (show NV=NU from hs) E8
 | _=>cases y<;>~absurd (show NV=NU from hs) E8
B5 Hs:vC X (AY .Lt) (rI0 λi j=>.bl (decide (i<j))):=aEr λ_ _ _ _ _ _ _ q=>lt_int q
B5 Ht:vC X (AY .LtE) (rI0 λi j=>.bl (decide (i≤j))):=aEr λ_ _ _ _ _ _ _ q=>le_int q
B5 aJF:vC X (AY .Gt) (rI0 λi j=>.bl (decide (j<i))):=aEr λ_ _ _ _ _ _ _ q=>gt_int q
B5 OJ:vC X (AY .GtE) (rI0 λi j=>.bl (decide (j≤i))):=aEr λ_ _ _ _ _ _ _ q=>ge_int q
B5 bh:vC X (AY .Is) (λx y H Q=>y=.non∧Q (.bl (decide (x=.non))) H):=by
 intro pins s σ H x y v u Q I rx ry h;B3⟨rfl,q⟩:=h;cases ry;&is_none_gen (dI I q ?_);cases x<;>first
  | (cases rx;rfl)
  | (B3⟨t,rfl⟩:=rx;rfl)
B5 BL:vC X (AY .IsNot) (λx y H Q=>y=.non∧Q (.bl (!decide (x=.non))) H):=by
 intro pins s σ H x y v u Q I rx ry h;B3⟨rfl,q⟩:=h;cases ry;&isnot_none_gen (dI I q ?_);cases x<;>first
  | (cases rx;rfl)
  | (B3⟨t,rfl⟩:=rx;rfl)
B5 vC.or{f:AE→AE→Sem AE}{r r':R2}(h:vC X f r)(h':vC X f r'):vC X f (λx y H Q=>r x y H Q∨r' x y H Q):=by
 intro pins s σ H x y v u Q I rx ry q;rcases q with q | q
 ·~h pins s σ H x y v u Q I rx ry q
 ·~h' pins s σ H x y v u Q I rx ry q
B5 cI(b:AK){op:EH}(h:op≠.In:=by decide)(h2:op≠.NotIn:=by decide):behindInMarks op b=NV:=by
 have e1:(op==CmpOp.In)=NV:=by cases op<;>first | rfl | ~absurd U h
 have e2:(op==CmpOp.NotIn)=NV:=by cases op<;>first | rfl | ~absurd U h2
 cases b<;>simp[behindInMarks,e1,e2]
B5 aEt{op:EH}{r:R2}(ho:vC X (AY op) r)(ha:PE X a ta)(hb:PE X b tb)(hm:behindInMarks op b=NV):PE X (.Compare a [op] [b] pos) (OD r ta tb):=by intro pins s σ H Q I h;~KE (aHl ha hb I h λv u s2 x y H2 I2 rx ry q=>ho pins s2 σ H2 x y v u Q I2 rx ry q) hm
def PB(t:TE):TT:=λσ H Q=>t σ H λx H'=>∃k,x=.bl k∧Q k H'
B5 aEu{op:EH}{r:R2}(ho:vC X (AY op) r)(ha:PE X a ta)(hb:PE X b tb)(hm:behindInMarks op b=NV):PT X (.Compare a [op] [b] pos) (PB (OD r ta tb)):=by
 intro pins s σ H Q I h;&GL (iY (ha pins s σ H _ I h) λv s1 ⟨x,H1,I1,r1,q1⟩=>iY (hb pins s1 σ H1 _ I1 q1) λu s2 ⟨y,H2,I2,r2,q2⟩=>
  iY (ho pins s2 σ H2 x y v u _ I2 r1 r2 q2) λc s3 ⟨z,H3,I3,r3,k,e,q3⟩=>?_) hm
 subst e;cases r3;~BC ⟨H3,I3,q3⟩
def BP(r r':R2)(ta tb tc:TE):TE:=λσ H Q=>ta σ H λx H1=>tb σ H1 λy H2=>r x y H2 λz H3=>∃k,z=.bl k ∧
 (if k=NU then tc σ H3 λw' H4=>r' y w' H4 Q else Q (.bl NV) H3)
B5 aBN{op op':EH}{r r':R2}(ho:vC X (AY op) r)(ho':vC X (AY op') r')(ha:PE X a ta)(hb:PE X b tb)(hc:PE X c tc)
  (hm:IA [op,op'] [b,c]=NV:=by with_unfolding_all rfl):PE X (.Compare a [op,op'] [b,c] pos) (BP r r' ta tb tc):=by
 intro pins s σ H Q I h;&Compare_chain (iY (ha pins s σ H _ I h) λv s1 ⟨x,H1,I1,r1,q1⟩=>chain_link (iY (hb pins s1 σ H1 _ I1 q1) λu s2 ⟨y,H2,I2,r2,q2⟩=>
  iY (ho pins s2 σ H2 x y v u _ I2 r1 r2 q2) λd s3 ⟨z,H3,I3,r3,k,e,q3⟩=>?_)) hm
 subst e;cases r3;&BC ?_;cases k with
 | false=>~ite_ff ⟨.bl NV,H3,I3,U,q3⟩
 | true=>~ite_tt (chain_last (iY (hc pins s3 σ H3 _ I3 q3) λw' s4 ⟨z',H4,I4,r4,q4⟩=>ho' pins s4 σ H4 y z' u w' Q I4 r2 r4 q4))
B5 aBO{op op':EH}{r r':R2}(ho:vC X (AY op) r)(ho':vC X (AY op') r')(ha:PE X a ta)(hb:PE X b tb)(hc:PE X c tc)
  (hm:IA [op,op'] [b,c]=NV:=by with_unfolding_all rfl):PT X (.Compare a [op,op'] [b,c] pos) (PB (BP r r' ta tb tc)):=by
 intro pins s σ H Q I h;&isTrue_chain (iY (ha pins s σ H _ I h) λv s1 ⟨x,H1,I1,r1,q1⟩=>test_link (iY (hb pins s1 σ H1 _ I1 q1) λu s2 ⟨y,H2,I2,r2,q2⟩=>
  iY (ho pins s2 σ H2 x y v u _ I2 r1 r2 q2) λd s3 ⟨z,H3,I3,r3,k,e,q3⟩=>?_)) hm
 subst e;cases r3;&BC ?_;cases k with
 | false=>
  B3⟨k',e',q'⟩:=q3;cases e';~ite_ff ⟨H3,I3,q'⟩
 | true=>&ite_tt (test_last (iY (hc pins s3 σ H3 _ I3 q3) λw' s4 ⟨z',H4,I4,r4,q4⟩=>iY (ho' pins s4 σ H4 y z' u w' _ I4 r2 r4 q4) λd' s5 ⟨z2,H5,I5,r5,k2,e2,q5⟩=>?_));subst e2;cases r5;~BC ⟨H5,I5,q5⟩
B5 Qt:(sizeLine:Nat)<2 ^ 63:=by rw[Fu];decide
B5 vals1{x:V}{us:List AE}(r:Vals [x] us):∃u,us=[u]∧RelV x u:=by
 cases r with
 | cons r1 r2=>cases r2;~⟨_,U,r1⟩
B5 vals2{x y:V}{us:List AE}(r:Vals [x,y] us):∃u w',us=[u,w']∧RelV x u∧RelV y w':=by
 cases r with
 | cons r1 r2=>
  cases r2 with
  | cons r3 r4=>cases r4;~⟨_,_,U,r1,r3⟩
B5 aAl(hc:X.calm=NU):mQ X (.builtin "max") (λxs H Q=>∃i j,xs=[.int i,.int j]∧Q (.int (if j > i then j else i)) H):=by
 intro pins s σ H xs us Q I r h;B3⟨i,j,rfl,q⟩:=h;B3⟨u,w',rfl,⟨t,rfl⟩,⟨t',rfl⟩⟩:=vals2 r;&max_two_ints (I.ok.hd hc) λh' tk k=>⟨_,H,I.kept k,?_,q⟩
 by_cases hj:j > i
 ·rw[if_pos hj,if_pos hj];~⟨_,U⟩
 ·rw[if_neg hj,if_neg hj];~⟨_,U⟩
end
end L2
namespace L2
open PySem PySem.Spec PyProof.Rows
structure bj(h:Heap)(x dx C:AF)(mA:Str→Option AE):Prop where
 obj:h.get? x=NR (O6 C dx)
 ns:h.Ns1 dx mA
 ne:dx≠x
B5 aAm{h:Heap}{dx:AF}{mA:Str→Option AE}(n:h.Ns1 dx mA):∃od,h.get? dx=NR od∧∀name,X7 name od=NR (mA name):=by
 B3⟨o,es,ep,ho,hd,hk,_,hm⟩:=n;&⟨o,ho,λname=>?_⟩;have e:=hm name;B4 nsFind findBy at e;rw[←Array.find?_toList]at e;B4 X7;rw[hd];dsimp only;split
 ·rename_i y q;rw[q]at e;~congrArg NR e
 ·rename_i q;rw[q]at e;have a:es.toList.any (·.refKey)=NV:=by rw[List.any_eq_false];intro y hy;B3⟨z,t,hkey⟩:=hk y (Array.mem_toList_iff.mp hy);simp[Mo,hkey]
  have a':¬es.toList.any (·.refKey)=NU:=by rw[a];~E8
  rw[if_neg a'];~congrArg NR e
B5 bj.look{h:Heap}{x dx C:AF}{mA:Str→Option AE}(I:bj h x dx C mA):∃od,PySem.W.InstAt h x (O6 C dx) C (NR od)∧∀name,X7 name od=NR (mA name):=
 let ⟨od,ho,hl⟩:=aAm I.ns
 ⟨od,⟨I.obj,U,U,ho⟩,hl⟩
section
variable{prog:AQ}{w:AS}{A:AV}{E:AE→AG→Prop}{s:AG}{K:aG}{x dx C f:AF}{mA:Str→Option AE}{name:Str}{v:AE}
B5 get_map{expr:Bool}{Q:AE→AG→Prop}(X:K.In s.heap)(I:bj s.heap x dx C mA)(hg:S6 K C name=NU)(hh:U9 K C=NU)
  (ha:G3 K (.ref C) name=NR none) (hv:mA name=NR v) (hv':p7 v=NU) (h:Q v {s with toks:=s.toks+1}) :
  AL ON A (getAttr (.ref x) name expr) Q E s:=by
 B3⟨od,J,hl⟩:=I.look;~PySem.W.get_value X J (X6 hg).1 (PySem.W.findObj_own hh ha U (by rw[hl,hv])) hv' h
B5 aBP{pl:Sem Bool}{Q:AE×List AE→AG→Prop}(X:K.In s.heap)(I:bj s.heap x dx C mA)(hg:S6 K C name=NU)
  (hf:G3 K (.ref C) name=NR (NR (.ref f))) (ht:Q8 K (.ref f)=NU) (hv:mA name=none) (h:Q (.ref f,[.ref x]) s) :
  AL ON A (EE (.ref x) name pl) Q E s:=by
 B3⟨od,J,hl⟩:=I.look;~PySem.W.method_fn X J (X6 hg).1 (X6 hg).2 hf (beq_iff_eq.mp ht) (by show (X7 name od).map (·.isSome)=NR NV;rw[hl,hv];rfl) h
B5 aEv{ns:List Str}{Q:Unit→AG→Prop}(X:K.In s.heap)(I:bj s.heap x dx C mA)
  (hs:G3 K (.ref C) "__setattr__" = NR (NR (.builtin "object.__setattr__"))) (hp:Y3 K C=NU) (ht:d7 K C name=NR none) (hh:U9 K C=NU)
  (hw:l5 mA ns) (hsz:ns.length≤sizeLine)
  (h:∀h',bj h' x dx C (λy=>if y=name then NR v else mA y)→Bi dx s.heap h'→Q () {s with heap:=h',toks:=s.toks+2}) :
  AL ON A (setAttr (.ref x) name v) Q E s:=by
 B3⟨od,J,hl⟩:=I.look;&PySem.W.set_plain X J hs (PySem.W.osa_open (s:={s with toks:=s.toks+1}) (r:=none) X J hp ht λb=>?_);B3⟨cd,hc,hd'⟩:=PySem.W.any_some hh;have hx:s.heap.get? x=NR ⟨.ref C,NR dx,.plain,#[]⟩:=I.obj;&AH (wpAny_pure (AH (AH (wpAny_loadPart hx (AH (PySem.W.Looks.here (s:={s with toks:=s.toks+1}) (PySem.W.looks_clsIn X hc) ?_))))));rw[hd'];&wpAny_pure (a:=NR dx) (AH (wpAny_pure (AH ?_)));&wpAny_nsSet1 (s:={s with toks:=s.toks+1}) I.ns λh' hn2 hs2=>?_;B3⟨oD,esD,epD,hoD,hdD,hcD⟩:=hn2.count (PySem.Within.cons name v hw);&AH (wpAny_lookBehind hoD (by rw[hdD];~pastItsLine_dict (G1 hcD (by rw[E3];omega))) ?_);~wpAny_pure (h _ ⟨(hs2.2 _ (Ne.symm I.ne)).trans I.obj,hn2,I.ne⟩ hs2)
B5 aBQ{R:FU→AG→Prop}{vs:List AE}{kw:List (Str×AE)}(X:K.In s.heap)(hm:W6 K C=NU)
  (hi:G3 K (.ref C) "__init__" = NR (NR (.ref f))) (hf:y4 K (.ref f)=NR (.type "function"))
  (h:Cn ON (A.under (.builtin "type.__call__" ⟨.ref C::vs,kw⟩)) (.call (.ref f) ⟨.ref (s.heap.objs.size+1)::vs,kw⟩) (PySem.W.InitBack (s.heap.objs.size+1) R)
   {s with heap:=(s.heap.push M5).push (O6 C s.heap.objs.size)}) :
  Cn ON A (.call (.ref C) ⟨vs,kw⟩) R s:=by
 B3⟨hh,g,d,t,os⟩:=s;~PySem.W.make_core (PySem.W.makes_of X hm) (PySem.W.looks_findIn X hi) (λself=>PySem.W.bind_fn X self hf) (.inl U) h
end
def Aa(f:Str)(v:V):List (Str×V)→List (Str×V)
 | []=>[(f,v)]
 | (g,x)::r=>if g=f then(g,v)::r else(g,x)::Aa f v r
B5 Nj(f g:Str)(v:V):∀fs:List (Str×V),(Aa f v fs).lookup g=if g=f then NR v else fs.lookup g
 | []=>by
  show T1 g [(f,v)]=_;by_cases h:g=f
  ·have hb:(g==f)=NU:=beq_iff_eq.mpr h;simp only[T1,hb,if_pos h]
  ·have hb:(g==f)=NV:=beq_eq_false_iff_ne.mpr h;simp only[T1,hb,if_neg h]
 | (k,x)::r=>by
  have ih:=Nj f g v r;rw[show Aa f v ((k,x)::r)=(if k=f then(k,v)::r else(k,x)::Aa f v r)from rfl];by_cases hk:k=f
  ·rw[if_pos hk];by_cases h:g=k
   ·have hb:(g==k)=NU:=beq_iff_eq.mpr h;simp only[T1,hb,if_pos (h.trans hk)]
   ·have hb:(g==k)=NV:=beq_eq_false_iff_ne.mpr h;simp only[T1,hb,if_neg (λe:g=f=>h (e.trans hk.symm))]
  ·rw[if_neg hk];by_cases h:g=k
   ·have hb:(g==k)=NU:=beq_iff_eq.mpr h;simp only[T1,hb,if_neg (λe:g=f=>hk (h.symm.trans e))]
   ·have hb:(g==k)=NV:=beq_eq_false_iff_ne.mpr h;simp only[T1,hb];~ih
B5 Ku(f:Str)(v:V):∀fs:List (Str×V),f∈(Aa f v fs).map (·.1)∧∀g,g∈fs.map (·.1)→g∈(Aa f v fs).map (·.1)
 | []=>⟨by simp[Aa],λg h=>by simp at h⟩
 | (k,x)::r=>by
  B3⟨i1,i2⟩:=Ku f v r;rw[show Aa f v ((k,x)::r)=(if k=f then(k,v)::r else(k,x)::Aa f v r)from rfl];by_cases hk:k=f
  ·rw[if_pos hk];subst hk;~⟨by simp,λg h=>by simpa using h⟩
  ·rw[if_neg hk];&⟨?_,λg h=>?_⟩
   ·rw[E2];~C6 _ i1
   ·rw[E2]at h ⊢;rcases B9.mp h with e | e
    ·~B9.mpr (.inl e)
    ·~C6 _ (i2 g e)
B5 Nk(f:Str)(v:V):∀fs:List (Str×V),(Aa f v fs).length≤fs.length+1
 | []=>by simp[Aa]
 | (k,x)::r=>by
  have ih:=Nk f v r;rw[show Aa f v ((k,x)::r)=(if k=f then(k,v)::r else(k,x)::Aa f v r)from rfl];by_cases hk:k=f
  ·rw[if_pos hk,E3,E3];omega
  ·rw[if_neg hk,E3,E3];omega
B5 zZ.some_of{v:V}{o:Option AE}(r:zZ (NR v) o):∃u,o=NR u∧RelV v u:=by
 cases o with
 | none=>~(show False from r).elim
 | some u=>~⟨u,U,r⟩
B5 zZ.none_of{o:Option AE}(r:zZ none o):o=none:=by
 cases o with
 | none=>rfl
 | some u=>~(show False from r).elim
B5 aAn{v:V}{u:AE}(r:RelV v u):p7 u=NU:=by
 cases v with
 | non=>cases(show u=BM from r);rfl
 | bl b=>cases(show u=CM b from r);rfl
 | int i=>B3⟨t,e⟩:=(show ∃t,u=Ct i t from r);cases e;rfl
 | str x=>B3⟨t,e⟩:=(show ∃t,u=Fn x t from r);cases e;rfl
 | byt b=>B3⟨t,e⟩:=(show ∃t,u=Lo b t from r);cases e;rfl
 | flt b=>B3⟨t,e⟩:=(show ∃t,u=IS b t from r);cases e;rfl
 | ref a=>cases(show u=AW a from r);rfl
 | ty n=>cases(show u=CO n from r);rfl
section
variable{P:AQ}{w:AS}{H H':Hp}{h h':Heap}{a C dx:AF}{fs fs':List (Str×V)}
B5 Pb(hok:Ew P w H h)(e:H a=NR (.ins C dx fs)):∃mA,bj h a dx C mA∧(∀f,zZ (fs.lookup f) (mA f))∧l5 mA (fs.map (·.1))∧fs.length≤1000∧H dx=NR (.own a):=by
 B3⟨d,z,ne,ob,mA,n,r,q⟩:=(show jU P w H h a (.ins C dx fs)from hok a _ e)
 ~⟨mA,⟨ob,n,ne⟩,r,q,z,d⟩
end
structure Cls(K:aG)(C:AF):Prop where
 pg:S6 K C MW=NU
 hd:U9 K C=NU
 po:Y3 K C=NU
 sa:G3 K (.ref C) "__setattr__" = NR (NR (.builtin "object.__setattr__"))
B5 Cls.get{K:aG}{C:AF}(c:Cls K C)(f:Str):S6 K C f=NU:=c.pg
def Fg(K:aG)(C:AF)(f:Str):Prop:=G3 K (.ref C) f=NR none
B5 Fg.taker{K:aG}{C:AF}{f:Str}(n:Fg K C f):d7 K C f=NR none:=by B4 d7;rw[show G3 K (.ref C) f=NR none from n];rfl
structure Con(K:aG)(C:AF)(f:Str)(v:V)(u:AE):Prop where
 at_:G3 K (.ref C) f=NR (NR u)
 rel:RelV v u
 get:Y4 K u "__get__" = NR none
 cp:PySem.W.copiedNames.contains f=NV
structure Meth(K:aG)(C:AF)(m:Str)(f:AF):Prop where
 at_:G3 K (.ref C) m=NR (NR (.ref f))
 fn:Q8 K (.ref f)=NU
 kp:K7 K (.ref f)=NU
section
variable{X:Cx}{pins:List (AF×Obj)}{σ:St}{H:Hp}{s:AG}{a C dx:AF}{fs:List (Str×V)}{f:Str}{v:V}{A:AV}{E:AE→AG→Prop}
B5 bu{b:Bool}{Q:AE→AG→Prop}(I:Inv X pins σ H s)(e:H a=NR (.ins C dx fs))(c:Cls X.K C)(n:Fg X.K C f)(l:fs.lookup f=NR v)
  (h:∀u s',Inv X pins σ H s'→RelV v u→Q u s'):AL Nl A (getAttr (.ref a) f b) Q E s:=by
 B3⟨mA,O,r,_,_,_⟩:=Pb I.hok e;B3⟨u,hu,ru⟩:=zZ.some_of (v:=v) (o:=mA f) (by rw[←l];~r f);~get_map I.Kr O (c.get f) c.hd n hu (aAn ru) (h u _ (I.tok _) ru)
B5 Qu{m:Str}{g:AF}{pl:Sem Bool}{Q:AE×List AE→AG→Prop}(I:Inv X pins σ H s)(e:H a=NR (.ins C dx fs))(c:Cls X.K C)(k:Meth X.K C m g)(l:fs.lookup m=none)
  (h:Q (.ref g,[.ref a]) s):AL Nl A (EE (.ref a) m pl) Q E s:=by
 B3⟨mA,O,r,_,_,_⟩:=Pb I.hok e;have hn:mA m=none:=zZ.none_of (by rw[←l];~r m);~aBP I.Kr O (c.get m) k.at_ k.fn hn h
B5 bw{y:V}{u:AE}{Q:Unit→AG→Prop}(I:Inv X pins σ H s)(e:H a=NR (.ins C dx fs))(c:Cls X.K C)(n:Fg X.K C f)(hl:fs.length<1000)(ry:RelV y u)
  (h:∀s',Inv X pins σ (upd H a (.ins C dx (Aa f y fs))) s'→Q () s'):AL Nl A (setAttr (.ref a) f u) Q E s:=by
 B3⟨mA,O,r,wi,_,ho⟩:=Pb I.hok e;have hz:(fs.map (·.1)).length≤sizeLine:=by rw[B8,Fu];omega
 &aEv I.Kr O c.sa c.po n.taker c.hd wi hz λh' O' sb=>h _ ?_;have hd:∃o,h'.get? dx=NR o:=let ⟨o,_,_,e',_⟩:=O'.ns;⟨o,e'⟩;&I.write (x:=a) (e:=dx) (by rw[e];~True.intro) (.inr ho) (λb q hb z=>(sb.2 b hb).trans z) hd ?_;&⟨by rw[bQ O.ne];~ho,?_,O.ne,O'.obj,_,O'.ns,λg=>?_,λg hg=>?_⟩
 ·have:=Nk f y fs;omega
 ·show zZ ((Aa f y fs).lookup g) (if g=f then NR u else mA g);rw[Nj];by_cases q:g=f
  ·rw[if_pos q,if_pos q];~ry
  ·rw[if_neg q,if_neg q];~r g
 ·by_cases q:g=f
  ·rw[q];~(Ku f y fs).1
  ·&(Ku f y fs).2 g (wi g λz=>hg ?_);show (if g=f then NR u else mA g)=none;rw[if_neg q];~z
B5 Inv.made(I:Inv X pins σ H s):Inv X pins σ (upd (upd H s.heap.objs.size (.own (s.heap.objs.size+1))) (s.heap.objs.size+1) (.ins C s.heap.objs.size []))
  {s with heap:=(s.heap.push M5).push (O6 C s.heap.objs.size)}:=by
 have e1:(s.heap.push M5).get? s.heap.objs.size=NR M5:=AR s.heap U;have e2:((s.heap.push M5).push (O6 C s.heap.objs.size)).get? (s.heap.objs.size+1)=NR (O6 C s.heap.objs.size):=by
  have:=AR (s.heap.push M5) (o:=O6 C s.heap.objs.size) U
  rwa [BE]at this
 have e3:(s.heap.push M5).Ns s.heap.objs.size (λ_=>none):=⟨M5,#[],_,e1,U,(λe he=>absurd he (by simp)),λ_=>rfl⟩
 have I1:=I.laid (a:=s.heap.objs.size) (o:=.own (s.heap.objs.size+1)) (h':=s.heap.push M5) (t':=s.toks) (λb u q=>AI _ q) (C9 _) ⟨_,e1⟩;&I1.laid (a:=s.heap.objs.size+1) (o:=.ins C s.heap.objs.size []) (t':=s.toks) (λb u q=>AI _ q) (l7 (BE _ _)) ?_;have ne:s.heap.objs.size≠s.heap.objs.size+1:=F3 (N2 _);&⟨by rw[bQ ne,cA],L5 _,ne,e2,λ_=>none,(Mc e3).at λo q=>AI _ q,λ_=>True.intro,λy hy=>absurd U hy⟩
B5 aEw{prog:AQ}{w:AS}{env:Env}{e:AK}{f:Str}{pos:Pos}{s:AG}{Q:AE→AG→Prop}(hb:Co e f env (AU e env)=AU e env)
  (h:AL ON A (AU e env) (λo s₁=>AL ON A (getAttr o f NU) Q E s₁) E s):AL ON A (AU (.Attribute e f pos) env) Q E s:=
 Attribute_any_ h (by rw[arm_eval_Attribute,hb])
end
def aHs(K:aG)(ta:TE)(f:Str):TE:=λσ H Q=>ta σ H λx H1=>∃a C dx fs v,x=.ref a∧H1 a=NR (.ins C dx fs)∧Cls K C∧Fg K C f∧fs.lookup f=NR v∧Q v H1
def aHt(K:aG)(ta tv:TE)(f:Str):TS:=λD σ H=>tv σ H λy H1=>ta σ H1 λx H2=>∃a C dx fs,x=.ref a∧H2 a=NR (.ins C dx fs)∧Cls K C∧Fg K C f∧fs.length<1000 ∧
 D.nx σ (upd H2 a (.ins C dx (Aa f y fs)))
section
variable{X:Cx}{o e value:AK}{f:Str}{pos pos' tpos:Pos}{ta tv:TE}
B5 aBS(he:PE X e ta)(hb:Co e f X.env (AU e X.env)=AU e X.env):PE X (.Attribute e f pos) (aHs X.K ta f):=by intro pins s σ H Q I h;&aEw hb (iY (he pins s σ H _ I h) λu s1 ⟨x,H1,I1,rx,a,C,dx,fs,v,ex,ea,c,n,l,q⟩=>?_);subst ex;B3 rfl:u=AW a:=rx;~bu I1 ea c n l λu' s2 I2 ru=>⟨v,H1,I2,ru,q⟩
B5 aHu(ha:PE X o ta)(hv:PE X value tv)(hs:DO value (NR (.Attribute o f pos')) pos.line X.env=pure NV):PS X (.Assign [.Attribute o f pos'] value pos) (aHt X.K ta tv f):=by intro pins s σ H D I h;&plainObj_wpAny_Assign_Attribute (iY (hv pins s σ H _ I h) λu s1 ⟨y,H1,I1,ry,q⟩=>iY (ha pins s1 σ H1 _ I1 q) λov s2 ⟨x,H2,I2,rx,a,C,dx,fs,ex,ea,c,n,l,q2⟩=>?_) hs;subst ex;B3 rfl:ov=AW a:=rx;~bw I2 ea c n l ry λs3 I3=>⟨σ,_,I3,q2⟩
end
section
variable{X:Cx}{pins:List (AF×Obj)}{σ:St}{H:Hp}{s:AG}{A:AV}{E:AE→AG→Prop}{Q:AE→AG→Prop}{c:AE}{b:Bool}
inductive Ol(K:aG)(H:Hp):V→AE→Prop where
 | non:Ol K H .non (.type "NoneType")
 | bl (x:Bool):Ol K H (.bl x) (.type "bool")
 | int (i:Int):Ol K H (.int i) (.type "int")
 | str (x:Str):Ol K H (.str x) (.type "str")
 | flt (x:UInt64):Ol K H (.flt x) (.type "float")
 | lst {a:AF} {xs:List V} (e:H a=NR (.lst xs)):Ol K H (.ref a) (.type "list")
 | Al {a:AF} {o:Obj} {xs:List V} (e:H a=NR (.Al o (.lst xs))):Ol K H (.ref a) (.type "list")
 | tup {a:AF} {xs:List V} (e:H a=NR (.tup xs)):Ol K H (.ref a) (.type "tuple")
 | dK {a:AF} {kvs:List (Key×V)} (e:H a=NR (.dK kvs)):Ol K H (.ref a) (.type "dict")
 | dT {a:AF} {kvs:List (List Key×V)} (e:H a=NR (.dT kvs)):Ol K H (.ref a) (.type "dict")
 | ins {a C dx:AF} {fs:List (Str×V)} (e:H a=NR (.ins C dx fs)) (cl:Cls K C) (ha:G3 K (.ref C) "__class__" = NR (NR (.builtin "object.__class__")))
   (hn:Y4 K (.builtin "object.__class__") "__get__" = NR (NR (.builtin "getset_descriptor.__get__"))) (htk:u6 K (.builtin "object.__class__")=NR NU)
   (hm:z5 K C (.type "object")=NR NU):Ol K H (.ref a) (.ref C)
B5 Wy{x:V}{u t:AE}(I:Inv X pins σ H s)(rx:RelV x u)(ty:Ol X.K H x t)(e:K4 X.K t c=NR b)(h:∀tk,Q (.bool b) {s with toks:=tk}) :
  AL Nl A (call (.builtin "isinstance") [u,c]) Q E s:=by
 cases ty with
 | non=>cases(show u=BM from rx);~K8 PySem.W.kitx_none I.Kr True.intro e (λz=>nomatch z) h
 | bl y=>cases(show u=CM y from rx);~K8 PySem.W.kitx_bool I.Kr True.intro e (λz=>nomatch z) h
 | int i=>B3⟨t,q⟩:=(show ∃t,u=Ct i t from rx);cases q;~K8 PySem.W.kitx_int I.Kr True.intro e (λz=>nomatch z) h
 | str y=>B3⟨t,q⟩:=(show ∃t,u=Fn y t from rx);cases q;~K8 PySem.W.kitx_str I.Kr True.intro e (λz=>nomatch z) h
 | flt y=>B3⟨t,q⟩:=(show ∃t,u=IS y t from rx);cases q;~K8 PySem.W.kitx_float I.Kr True.intro e (λz=>nomatch z) h
 | @lst a xs ea=>
  cases(show u=AW a from rx)
  B3⟨_,_,n,_,h1⟩:=(show jU X.prog X.w H s.heap a (.lst xs)from I.hok a _ ea)
  ~K8 Y5 I.Kr ⟨_,h1,rfl⟩ e (λz=>nomatch z) h
 | @Al a ob xs ea=>
  cases(show u=AW a from rx)
  B3⟨_,_,_,n,_,h1⟩:=(show jU X.prog X.w H s.heap a (.Al ob (.lst xs))from I.hok a _ ea)
  ~K8 Y5 I.Kr ⟨_,h1,rfl⟩ e (λz=>nomatch z) h
 | @tup a xs ea=>
  cases(show u=AW a from rx)
  B3⟨_,_,_,p⟩:=(show jU X.prog X.w H s.heap a (.tup xs)from I.hok a _ ea)
  B3⟨o,h1,h2,_⟩:=p;~K8 l8 I.Kr ⟨o,h1,h2⟩ e (λz=>nomatch z) h
 | @dK a kvs ea=>
  cases(show u=AW a from rx)
  B3⟨_,_,vs,_,p⟩:=(show jU X.prog X.w H s.heap a (.dK kvs)from I.hok a _ ea)
  B3⟨o,es,ep,h1,h2,_⟩:=p;~K8 o0 I.Kr ⟨o,h1,h2.1⟩ e (λz=>nomatch z) h
 | @dT a kvs ea=>
  cases(show u=AW a from rx)
  B3⟨_,_,xs,_,o,es,ep,h1,h2,_⟩:=(show jU X.prog X.w H s.heap a (.dT kvs)from I.hok a _ ea)
  ~K8 o0 I.Kr ⟨o,h1,h2.1⟩ e (λz=>nomatch z) h
 | @ins a C dx fs ea cl ha hn htk hm=>
  cases(show u=AW a from rx)
  B3⟨mA,O,_⟩:=Pb I.hok ea;B3⟨od,J,_⟩:=O.look;~K8 (PySem.W.kitx_own (cl.get _) cl.hd ha hn htk hm) I.Kr J e (λz=>nomatch z) h
end
end L2
namespace L2
open PySem PySem.Spec PyProof.Rows
structure lB(k:Nat)(A:AV):Prop where
 hd:A.handled=none
 dp:A.depth+3*k+5<KF
 un:A.units+16*k+200<BG
B5 lB.mono{j k:Nat}{A:AV}(r:lB k A)(h:j≤k):lB j A:=⟨r.hd,by have:=r.dp;omega,by have:=r.un;omega⟩
B5 lB.deeper{k:Nat}{A:AV}(r:lB (k+1) A)(env:Env):lB k (A.deeper env):=
 ⟨r.hd,by have:=r.dp;show A.depth+1+3*k+5<_;omega,by have:=r.un;show A.units+3+16*k+200<_;omega⟩
B5 cg{A:AV}{C:AF}{us:List AE}{kw:List (Str×AE)}:(A.under (.builtin "type.__call__" ⟨.ref C::us,kw⟩)).depth=A.depth+1:=by
  first | rfl | simp[IB,Code.weight,Code.isCreation,Code.isGuard,Code.isCaller,Lv,IC,guardIds]
B5 cj{A:AV}{C:AF}{us:List AE}{kw:List (Str×AE)}:(A.under (.builtin "type.__call__" ⟨.ref C::us,kw⟩)).units=A.units+1:=by
  first | rfl | simp[IB,Code.cUnits,Lv,IC]
B5 lB.make{k:Nat}{A:AV}(r:lB (k+1) A)(C:AF)(us:List AE)(kw:List (Str×AE)):lB k (A.under (.builtin "type.__call__" ⟨.ref C::us,kw⟩)):=
 ⟨r.hd,by have:=r.dp;rw[cg];omega,by have:=r.un;rw[cj];omega⟩
B5 lB.depth{k:Nat}{A:AV}(r:lB k A):A.depth<KF:=by have:=r.dp;omega
B5 lB.units{k:Nat}{A:AV}(r:lB k A):A.units+64<BG:=by have:=r.un;omega
def oX:TA:=λ_ H Q=>Q [] H
def dF(ta:TE)(tr:TA):TA:=λσ H Q=>ta σ H λx H1=>tr σ H1 λxs H2=>Q (x::xs) H2
section
variable{X:Cx}{e:AK}{es:List AK}{te:TE}{t:TA}{pos:Pos}
B5 jE:PA X [] oX:=λ_ _ _ _ H Q I h=>CF ⟨[],H,I,.nil,h⟩
B5 cZ(ha:PE X e te)(hr:PA X es t)(hs:AJ (e::es) X.env=(NV,AU e X.env)::AJ es X.env:=by rfl):PA X (e::es) (dF te t):=by intro pos pins s σ H Q I h;rw[hs];show AL _ _ (spliced ((NV,AU e X.env)::Au pos (AJ es X.env))) _ _ s;&BY (iY (ha pins s σ H _ I h) λu s1 ⟨x,H1,I1,r1,q1⟩=>?_);~iY (hr pos pins s1 σ H1 _ I1 q1) λus s2 ⟨xs,H2,I2,r2,q2⟩=>⟨x::xs,H2,I2,.cons r1 r2,q2⟩
def PJ(t:TA):TE:=λσ H Q=>t σ H λxs H1=>xs.length≤sizeLine∧∀p,H1 p=none→Q (.ref p) (upd H1 p (.tup xs))
def aBT(t:TA):TE:=λσ H Q=>t σ H λxs H1=>xs.length≤sizeLine∧∀p,H1 p=none→Q (.ref p) (upd H1 p (.lst xs))
B5 cu{x1}(h:PA X es t):PE X (.Tuple es x1 pos) (PJ t):=by intro pins s σ H Q I hq;&wpAny_Tuple_spliced (iY (h pos pins s σ H _ I hq) λus s1 ⟨xs,H1,I1,r,z,q⟩=>⟨by rw[←r.length];~z,?_⟩);have hf:H1 s1.heap.objs.size=none:=I1.hok.fresh (C9 _);&⟨.ref s1.heap.objs.size,upd H1 s1.heap.objs.size (.tup xs),I1.laid (t':=s1.toks) (λb u e=>AI _ e) (C9 _) ?_,U,q _ hf⟩;~⟨z,us,r,⟨_,AR _ U,U,_,U⟩⟩
B5 aBU(h:PA X es t):PE X (.List es pos) (aBT t):=by intro pins s σ H Q I hq;&wpAny_List_spliced (iY (h pos pins s σ H _ I hq) λus s1 ⟨xs,H1,I1,r,z,q⟩=>⟨by rw[←r.length];~z,?_⟩);have hf:H1 s1.heap.objs.size=none:=I1.hok.fresh (C9 _);&⟨.ref s1.heap.objs.size,upd H1 s1.heap.objs.size (.lst xs),I1.laid (t':=s1.toks) (λb u e=>AI _ e) (C9 _) ?_,U,q _ hf⟩;~⟨z,us,0,r,AR _ U⟩
end
abbrev Sp:=List V→Hp→VK→XK→Prop
abbrev CXT:=List Env→Hp→AG→XK→AE→AG→Prop
structure cz(P:AQ)(w:AS)(K:aG)(mg:Str→Option AE)(base:Heap)(A:AV)(outer:List Env)(s:AG)(H:Hp):Prop where
 frames:A.frames=NR outer
 mod:Mod K mg base
 bs:∀b o,base.get? b=NR o→s.heap.get? b=NR o∧H b=none
 bsz:base.objs.size≤s.heap.objs.size
 Oj:s.heap.FunFrames base outer
 frf:∀b∈frs outer,H b=none
 hok:Ew P w H s.heap
 bare:Da s.gens
def CE(outer:List Env)(P:AQ)(w:AS)(H:Hp)(s:AG)(Q:VK)(u:AE)(s':AG):Prop:=
 ∃v H',s'.os=s.os∧Da s'.gens∧Un (frs outer) [] H H' s.heap s'.heap∧Ew P w H' s'.heap∧RelV v u∧Q v H'
def CR(CX:CXT)(outer:List Env)(P:AQ)(w:AS)(H:Hp)(s:AG)(Q:VK)(E:XK)(r:FU)(s':AG):Prop:=
 match r with
 | .ok (.ret u)=>CE outer P w H s Q u s'
 | .ok _=>False
 | .error e=>CX outer H s E e s'
structure Ab(P:AQ)(w:AS)(K:aG)(mg:Str→Option AE)(base:Heap)(CX:CXT)(k:Nat)(f:AF)(fd:BU)(ps:List Str)(sp:Sp):Prop where
 len:∀vs H Q E,sp vs H Q E→vs.length=ps.length
 run:∀(A:AV)(outer:List Env)(s:AG)(H:Hp)(args:Args)(us:List AE)(vs:List V)(Q:VK)(E:XK),lB k A→cz P w K mg base A outer s H→GN s fd args (ps.zip us)→Vals vs us→sp vs H Q E →
  Cn (AM P w) A (.call (.ref f) args) (CR CX outer P w H s Q E) s
B5 cz.make{P:AQ}{w:AS}{K:aG}{mg:Str→Option AE}{base:Heap}{A:AV}{outer:List Env}{s:AG}{H:Hp}(e:cz P w K mg base A outer s H)(C:AF)(us:List AE)(kw:List (Str×AE)) :
  cz P w K mg base (A.under (.builtin "type.__call__" ⟨.ref C::us,kw⟩)) outer s H:=⟨by first | ~e.frames | (simpa[IB,Code.envs,IC,pushEnvs]using e.frames),e.mod,e.bs,e.bsz,e.Oj,e.frf,e.hok,e.bare⟩
section
variable{X:Cx}{pins:List (AF×Obj)}{σ:St}{H:Hp}{s s':AG}
B5 Inv.env0(I:Inv X pins σ H s):cz X.prog X.w X.K X.mg X.base X.A X.stack s H:=
 ⟨I.ok.frames,I.ok.mod,I.bs,G1 I.ok.bsz I.sz,I.stack,I.sr,I.hok,I.bare⟩
B5 Inv.after{Q:VK}{u:AE}(I:Inv X pins σ H s)(h:CE X.stack X.prog X.w H s Q u s'):EP X pins σ Q u s':=by B3⟨v,H',os,bare,un,hok,r,q⟩:=h;B3⟨hh,g,d,t,os'⟩:=s';B3 rfl:os'=s.os:=os;~⟨v,H',I.call (h':=hh) (g':=g) (d':=d) (t':=t) (ch:=[]) un hok bare (λb z=>absurd z (by simp)),r,q⟩
end
def Wz(sp:Sp)(Km:List V)(E:XK)(t:TA):TE:=λσ H Q=>t σ H λvs H1=>sp (vs++Km) H1 Q E
def Nm(C:AF)(m:Str)(sp:Sp)(Km:List V)(E:XK)(ta:TE)(t:TA):TE:=λσ H Q=>ta σ H λx H1=>∃a dx fs,x=.ref a∧H1 a=NR (.ins C dx fs)∧fs.lookup m=none ∧
 t σ H1 λvs H2=>sp (x::(vs++Km)) H2 Q E
def aGh(C:AF)(sp:Sp)(Km:List V)(E:XK)(t:TA):TE:=λσ H Q=>t σ H λvs H1=>∀x dx,H1 x=none→H1 dx=none→dx≠x →
 sp (.ref x::(vs++Km)) (upd (upd H1 dx (.own x)) x (.ins C dx [])) (λv H2=>v=.non∧Q (.ref x) H2) E
def Binds(K:aG)(fd:BU)(ps:List Str)(ds:List AE):Prop:=
 ∀(s:AG)(us:List AE),K.In s.heap→(us++ds).length=ps.length→GN s fd ⟨us,[]⟩ (ps.zip (us++ds))
B5 Binds.all{K:aG}{fd:BU}{ps:List Str}(h:∀us:List AE,us.length=ps.length→EJ fd ⟨us,[]⟩=pure (ps.zip us)):Binds K fd ps []:=λs us _ hl=>by rw[F0]at hl ⊢;~.of_eq (h us hl)
def Passes(CX:CXT)(X:Cx)(E:XK):Prop:=∀(pins:List (AF×Obj))(σ:St)(H:Hp)(s:AG)(e:AE)(s':AG),Inv X pins σ H s→CX X.stack H s E e s'→X.xe e s'
section
variable{X:Cx}{CX:CXT}{k:Nat}{f C:AF}{fd:BU}{ps:List Str}{sp:Sp}{Km:List V}{ds:List AE}{E:XK}{x m:Str}{p pos apos:Pos}{e o:AK}{es:List AK}{ta:TE}{t:TA}
B5 dg{pins:List (AF×Obj)}{σ:St}{H:Hp}{s:AG}{Q:VK}{us:List AE}{vs:List V}(F:Ab X.prog X.w X.K X.mg X.base CX k f fd ps sp)(hr:lB k X.A)(hb:Binds X.K fd ps ds)(hd:Vals Km ds)(hx:Passes CX X E)
  (I:Inv X pins σ H s) (r:Vals vs us) (h:sp (vs++Km) H Q E):AL Nl X.A (call (.ref f) us) (EP X pins σ Q) X.xe s:=by
 have r2:Vals (vs++Km) (us++ds):=r.append hd;have hl:(us++ds).length=ps.length:=by rw[←r2.length];~F.len _ _ _ _ h
 &JE (DJ (F.run X.A X.stack s H ⟨us,[]⟩ (us++ds) (vs++Km) Q E hr I.env0 (hb s us I.Kr hl) r2 h) λr s' hq=>?_);cases r with
 | error e=>~hx pins σ H s e s' I hq
 | ok fl=>
  cases fl with
  | ret u=>~I.after hq
  | next=>~False.elim hq
  | brk=>~False.elim hq
  | cont=>~False.elim hq
B5 aEx(F:Ab X.prog X.w X.K X.mg X.base CX k f fd ps sp)(hr:lB k X.A)(hg:Gl X x)(hm:X.mg x=NR (.ref f))(hk:K7 X.K (.ref f)=NU)(hb:Binds X.K fd ps ds)(hd:Vals Km ds)(hx:Passes CX X E)
  (ha:PA X (e::es) t) (hdb:OH=NV:=by decide) (he:AJ (e::es) X.env=(NV,AU e X.env)::AJ es X.env:=by rfl) (hpl:(Au pos (AJ es X.env)).any (·.1)=NV:=by rfl) :
  PE X (.Call (.Name x p) (e::es) [] pos) (Wz sp Km E t):=by
 intro pins s σ H Q I h;&BF (Zx I hg hm ?_ hdb);&X8 (h₀:=X.base) I.ok.mod.kin hk (iY (ha pos pins s σ H _ I h) λus s1 ⟨vs,H1,I1,r,q⟩=>⟨I1.Kr,?_⟩) he hpl;~dg F hr hb hd hx I1 r q
B5 BR{pl:Sem Bool}(he:PE X o ta)(c:Cls X.K C)(hm:Meth X.K C m f)(F:Ab X.prog X.w X.K X.mg X.base CX k f fd ps sp)(hr:lB k X.A)(hb:Binds X.K fd ps ds)(hd:Vals Km ds)(hx:Passes CX X E)(ha:PA X (e::es) t)
  (hst:AJ (e::es) X.env=(NV,AU e X.env)::AJ es X.env:=by rfl) (hpl:(Au pos (AJ es X.env)).any (·.1)=NV:=by rfl)
  (ht:AU (.Call (.Attribute o m apos) (e::es) [] pos) X.env=(do
   let ov ←AU o X.env
   EK apos.atName
   let (f,first) ←DI [ov] (EE ov m pl)
   FV pos f first (Au pos (AJ (e::es) X.env)) (EF pos (CU [] X.env))):=by rfl) :
  PE X (.Call (.Attribute o m apos) (e::es) [] pos) (Nm C m sp Km E ta t):=by
 intro pins s σ H Q I h;&h9 (pl:=pl) (iY (he pins s σ H _ I h) λu s1 ⟨x,H1,I1,rx,a,dx,fs,ex,ea,l,q⟩=>?_) ht;subst ex;B3 rfl:u=AW a:=rx;&Qu I1 ea c hm l ?_;&X8 (first:=[.ref a]) (h₀:=X.base) I.ok.mod.kin hm.kp (iY (ha pos pins s1 σ H1 _ I1 q) λus s2 ⟨vs,H2,I2,r,q2⟩=>⟨I2.Kr,?_⟩) hst hpl;~dg (us:=.ref a::us) (vs:=.ref a::vs) F hr hb hd hx I2 (.cons U r) q2
B5 aBV{pl:Sem Bool}(he:PE X o ta)(c:Cls X.K C)(hm:Meth X.K C m f)(F:Ab X.prog X.w X.K X.mg X.base CX k f fd ps sp)(hr:lB k X.A)(hb:Binds X.K fd ps ds)(hd:Vals Km ds)(hx:Passes CX X E)
  (ht:AU (.Call (.Attribute o m apos) [] [] pos) X.env=(do
   let ov ←AU o X.env
   EK apos.atName
   let (f,first) ←DI [ov] (EE ov m pl)
   FV pos f first (Au pos (AJ [] X.env)) (EF pos (CU [] X.env))):=by rfl) :
  PE X (.Call (.Attribute o m apos) [] [] pos) (Nm C m sp Km E ta oX):=by
 intro pins s σ H Q I h;&h9 (pl:=pl) (iY (he pins s σ H _ I h) λu s1 ⟨x,H1,I1,rx,a,dx,fs,ex,ea,l,q⟩=>?_) ht;subst ex;B3 rfl:u=AW a:=rx;&Qu I1 ea c hm l ?_;~PySem.W.callWith_K0 (first:=[.ref a]) I1.Kr hm.kp (dg (us:=[.ref a]) (vs:=[.ref a]) F hr hb hd hx I1 (.cons U .nil) q)
structure Mk(K:aG)(C f:AF):Prop where
 makes:W6 K C=NU
 init:G3 K (.ref C) "__init__" = NR (NR (.ref f))
 fn:Q8 K (.ref f)=NU
 kp:K7 K (.ref C)=NU
B5 aBW{pins:List (AF×Obj)}{σ:St}{H:Hp}{s:AG}{Q:VK}{us:List AE}{vs:List V}(M:Mk X.K C f)(F:Ab X.prog X.w X.K X.mg X.base CX k f fd ps sp)(hr:lB (k+1) X.A)(hb:Binds X.K fd ps ds)(hd:Vals Km ds)
  (hx:Passes CX X E) (I:Inv X pins σ H s) (r:Vals vs us)
  (h:∀x dx,H x=none→H dx=none→dx≠x→sp (.ref x::(vs++Km)) (upd (upd H dx (.own x)) x (.ins C dx [])) (λv H2=>v=.non∧Q (.ref x) H2) E) :
  AL Nl X.A (call (.ref C) us) (EP X pins σ Q) X.xe s:=by
 have hq:=h (s.heap.objs.size+1) s.heap.objs.size (I.hok.fresh (O5 _)) (I.hok.fresh (C9 _)) (F3 (N2 _));have I2:=Inv.made (C:=C) I;have r2:Vals (V.ref (s.heap.objs.size+1)::(vs++Km)) (AW (s.heap.objs.size+1)::(us++ds)):=.cons U (r.append hd);have hl:(AW (s.heap.objs.size+1)::us++ds).length=ps.length:=by have e:=r2.length;rw[F.len _ _ _ _ hq]at e;~e.symm
 &JE (aBQ (f:=f) I.Kr M.makes M.init (beq_iff_eq.mp M.fn) (DJ (F.run _ X.stack _ _ ⟨AW (s.heap.objs.size+1)::us,[]⟩ (AW (s.heap.objs.size+1)::(us++ds)) _ _ E (hr.make C us [])
  (I2.env0.make C us []) (hb _ (AW (s.heap.objs.size+1)::us) I2.Kr hl) r2 hq) λr s' hq'=>?_))
 cases r with
 | error e=>~hx pins σ _ _ e s' I2 hq'
 | ok fl=>
  cases fl with
  | ret u=>B3⟨v,H',I3,rv,ev,q3⟩:=I2.after hq';subst ev;~⟨rv,⟨V.ref (s.heap.objs.size+1),H',I3,U,q3⟩⟩
  | next=>~False.elim hq'
  | brk=>~False.elim hq'
  | cont=>~False.elim hq'
B5 aEy(M:Mk X.K C f)(F:Ab X.prog X.w X.K X.mg X.base CX k f fd ps sp)(hr:lB (k+1) X.A)(hg:Gl X x)(hm:X.mg x=NR (.ref C))(hb:Binds X.K fd ps ds)(hd:Vals Km ds)(hx:Passes CX X E)
  (ha:PA X (e::es) t) (hdb:OH=NV:=by decide) (he:AJ (e::es) X.env=(NV,AU e X.env)::AJ es X.env:=by rfl) (hpl:(Au pos (AJ es X.env)).any (·.1)=NV:=by rfl) :
  PE X (.Call (.Name x p) (e::es) [] pos) (aGh C sp Km E t):=by
 intro pins s σ H Q I h;&BF (Zx I hg hm ?_ hdb);&X8 (h₀:=X.base) I.ok.mod.kin M.kp (iY (ha pos pins s σ H _ I h) λus s1 ⟨vs,H1,I1,r,q⟩=>⟨I1.Kr,?_⟩) he hpl;~aBW M F hr hb hd hx I1 r q
end
section
variable{X:Cx}{CX:CXT}{k:Nat}{f C:AF}{fd:BU}{ps ks:List Str}{sp:Sp}{E:XK}{x m:Str}{p pos apos kpos:Pos}{e o:AK}{es:List AK}{kws:List FH}{te ta:TE}{t tk:TA}{nm:Option Str}
structure aLw(K:aG)(fd:BU)(ps ks:List Str)(g:List AE→List AE→List AE)(gV:List V→List V→List V):Prop where
 to:∀(s:AG)(us ws:List AE),K.In s.heap→(g us ws).length=ps.length→GN s fd ⟨us,ks.zip ws⟩ (ps.zip (g us ws))
 rel:∀{vs:List V} {us:List AE} {zs:List V} {ws:List AE},Vals vs us→Vals zs ws→Vals (gV vs zs) (g us ws)
variable{g:List AE→List AE→List AE}{gV:List V→List V→List V}
end
structure bA(N P:List Str)(sc:BQ):Prop where
 kind:sc.kind=.function
 co:sc.isCoroutine=NV
 gen:sc.isGenerator=NV
 nd:N.Nodup
 pre:N.take P.length=P
 par:∀x∈P,sc.names.lookup x=NR .local∨sc.names.lookup x=NR .cell
 aHv:∀y∈sc.names,y.2≠.free
B5 Xa{kindOf:Str→Option FX}{x:Str}:∀{binds:List (Str×AE)} {m:Str→Option AE},(∀v,(x,v)∉binds)→GY kindOf binds m x=m x
 | [],_,_=>rfl
 | (n,v)::r,m,h=>by
  B4 GY;rw[Xa λw hw=>h w (C6 _ hw)];split
  ·have:x≠n:=by rintro rfl;~h v C8
   simp[this]
  ·rfl
B5 Xb{kindOf:Str→Option FX}{x:Str}:∀{binds:List (Str×AE)} {m:Str→Option AE},(∀v,(x,v)∉binds)→Go kindOf binds m x=m x
 | [],_,_=>rfl
 | (n,v)::r,m,h=>by
  B4 Go;rw[Xb λw hw=>h w (C6 _ hw)];split
  ·rfl
  ·have:x≠n:=by rintro rfl;~h v C8
   simp[this]
B5 Xc{kindOf:Str→Option FX}{x:Str}{v:AE}:∀{P:List Str} {vs:List AE} {i:Nat} {m:Str→Option AE},P.Nodup→P[i]?=NR x→vs[i]?=NR v→kindOf x=NR .local →
  GY kindOf (P.zip vs) m x=NR v
 | [],_,_,_,_,h,_,_=>by simp at h
 | _::_,[],_,_,_,_,h,_=>by simp at h
 | p::P,w::vs,0,m,nd,h1,h2,hk=>by simp at h1 h2;subst h1;subst h2;show GY kindOf ((p,w)::P.zip vs) m p=_;B4 GY;rw[Xa λv hv=>(F1.mp nd).1 (d8 hv).1,if_pos hk];simp
 | p::P,w::vs,i+1,m,nd,h1,h2,hk=>by show GY kindOf ((p,w)::P.zip vs) m x=_;B4 GY;~Xc (i:=i) (F1.mp nd).2 (by simpa using h1) (by simpa using h2) hk
B5 Xd{kindOf:Str→Option FX}{x:Str}{v:AE}:∀{P:List Str} {vs:List AE} {i:Nat} {m:Str→Option AE},P.Nodup→P[i]?=NR x→vs[i]?=NR v→kindOf x≠NR .local →
  Go kindOf (P.zip vs) m x=NR v
 | [],_,_,_,_,h,_,_=>by simp at h
 | _::_,[],_,_,_,_,h,_=>by simp at h
 | p::P,w::vs,0,m,nd,h1,h2,hk=>by simp at h1 h2;subst h1;subst h2;show Go kindOf ((p,w)::P.zip vs) m p=_;B4 Go;rw[Xb λv hv=>(F1.mp nd).1 (d8 hv).1,if_neg hk];simp
 | p::P,w::vs,i+1,m,nd,h1,h2,hk=>by show Go kindOf ((p,w)::P.zip vs) m x=_;B4 Go;~Xd (i:=i) (F1.mp nd).2 (by simpa using h1) (by simpa using h2) hk
def start(N:List Str)(vs:List V):St:=vs.map NR++E9 (N.length-vs.length) none
def Hu(CX:CXT)(P:AQ)(w:AS)(K:aG)(mg:Str→Option AE)(base:Heap)(N:List Str)(qual:Str)(scope:BQ)(f:AF)(cd:AE)(A:AV)(outer:List Env)(s:AG)(H:Hp)(E:XK):Cx where
 prog:=P
 w:=w
 K:=K
 mg:=mg
 base:=base
 A:=A.deeper (CH qual scope s.heap.objs.size f cd)
 N:=N
 s₀:=s
 H₀:=H
 env:=CH qual scope s.heap.objs.size f cd
 outer:=outer
 stack:=CH qual scope s.heap.objs.size f cd::outer
 ex:=[]
 calm:=NU
 fn:=λ_=>NU
 pn:=[]
 xe:=λe s'=>AL (AM P w) (A.deeper (CH qual scope s.heap.objs.size f cd)) (leaving (CH qual scope s.heap.objs.size f cd) e) (λ_ s''=>CX outer H s E e s'') (λe' s''=>CX outer H s E e' s'') s'
B5 PK{sc:BQ}{n:Nat}{x:Str}(h:sc.names.lookup x=NR .cell):∃c,(KW n sc.names []).lookup x=NR c:=by have q:=f6 sc.names n [] (.inl h);~U2.mp q
B5 aAp{CX:CXT}{P:AQ}{w:AS}{K:aG}{mg:Str→Option AE}{base:Heap}{N ps:List Str}{qual:Str}{scope:BQ}{f:AF}{cd:AE}{A:AV}{outer:List Env}{s s1:AG}{H:Hp}{E:XK}{us:List AE}{vs:List V}
  (S:bA N ps scope) (hd:A.handled=none) (e0:cz P w K mg base A outer s H) (hl:vs.length=ps.length) (r:Vals vs us)
  (x:InCallC s s.heap.objs.size (GY (CH qual scope s.heap.objs.size f cd).kindOf (ps.zip us) λ_=>none) (KW (s.heap.objs.size+1) scope.names []) (Go (CH qual scope s.heap.objs.size f cd).kindOf (ps.zip us) λ_=>none) s1) :
  Inv (Hu CX P w K mg base N qual scope f cd A outer s H E) [] (start N vs) H s1:=by
 have hpl:ps.length≤N.length:=by have:=congrArg f7 S.pre;rw[G7]at this;omega
 B3⟨h1,tk,rfl,hk⟩:=x.done;have noA:∀b:AF,b∉(Hu CX P w K mg base N qual scope f cd A outer s H E).ex:=λb z=>absurd (show b∈([]:List AF)from z) (by simp);&⟨⟨e0.mod,S.kind,U,U,C9 _,λy z c h1 h2=>?_,λy hy=>?_,λy c _ h=>?_,λ_=>hd,Around.frames_deeper e0.frames,.inr ⟨U,U⟩,λb z=>absurd z (noA b),e0.bs,e0.bsz,λb _ _=>noA b,λb z=>absurd z (noA b),e0.Oj,e0.frf⟩,
  rfl,e0.bare,Un.kept hk,⟨_,x.toInCall.ns,λi y v h1 h2 h3=>?_⟩,λy c h=>⟨_,x.cell y c h⟩,e0.hok.fresh (C9 _),λy c h=>?_,λp hp=>absurd (show p∈([]:List (AF×Obj))from hp) (by simp),e0.hok.kept hk,?_⟩
 ·~name_of_addr x.apart (O0 h1) (O0 h2)
 ·have hy:scope.names.lookup y=NR .cell∨scope.names.lookup y=NR .free:=hy;rcases hy with hy | hy
  ·~PK hy
  ·~absurd U (S.aHv _ (O0 hy))
 ·~P4 (x.above y c (O0 h))
 ·have hi:i<vs.length:=by
   B4 start at h2;by_cases hi:i<vs.length
   ·~hi
   ·rw[J7 (by simpa using hi)]at h2;rw[O7]at h2;split at h2<;>cases h2
  have ha:vs[i]?=NR v:=by
   B4 start at h2;rw[F9 (by simpa using hi),C5]at h2;cases e:vs[i]? with
   | none=>rw[e]at h2;cases h2
   | some a=>rw[e]at h2;cases h2;rfl
  B3⟨u,hu,rv⟩:=r.get ha;have hp:ps[i]?=NR y:=by rw[←S.pre,List.getElem?_take_of_lt A6];~h1
  have ndP:ps.Nodup:=by rw[←S.pre];~S.nd.sublist (M6 _ _)
  &⟨u,rv,?_⟩;rcases S.par y (D6 hp)with k | k
  ·~.inl ⟨k,Xc ndP hp hu k⟩
  ·B3⟨c,e⟩:=PK (n:=s.heap.objs.size+1) k;&.inr ⟨.inl k,c,e,?_⟩;have q:=x.cell y c e;rw[Xd ndP hp hu (by show scope.names.lookup y≠_;rw[k];decide)]at q;~q
 ·~e0.hok.fresh (P4 (x.above y c (O0 h)))
 ·B4 start;show _=N.length;rw[D1,B8,P7];omega
B5 aBX{CX:CXT}{P:AQ}{w:AS}{K:aG}{mg:Str→Option AE}{base:Heap}{k:Nat}{f:AF}{name qual:Str}{params:Arguments}{body:List AO}{scope:BQ}{dV kV doc pm cdv ct oc:AE}{an od:Option AF}
  {osl:Array (Option AE)} {N ps:List Str} {sp:Sp} (lk:K.lookup f=NR ⟨oc,od,.func (G5 name qual params body scope dV kV doc pm an cdv ct),osl⟩) (hcd:L6 K cdv qual=NU) (S:bA N ps scope)
  (len:∀vs H Q E,sp vs H Q E→vs.length=ps.length)
  (hbody:∀(A:AV)(outer:List Env)(s:AG)(H:Hp)(vs:List V)(Q:VK)(E:XK),lB k (A.deeper (CH qual scope s.heap.objs.size f cdv))→sp vs H Q E →
   ∃t,NT (Hu CX P w K mg base N qual scope f cdv A outer s H E) body t∧t {nx:=λ_ H'=>Q .non H',rt:=Q} (start N vs) H) :
  Ab P w K mg base CX (k+1) f (G5 name qual params body scope dV kV doc pm an cdv ct) ps sp:=by
 &⟨len,λA outer s H args us vs Q E hr e0 hb r hsp=>?_⟩;have hl:=len _ _ _ _ hsp;have KX:K.In s.heap:=e0.mod.kin.keeps λb o e=>(e0.bs b o e).1;have lim:s.heap.NoLimit:=e0.mod.nolimit.keeps λb o e=>(e0.bs b o e).1;have hkind:∀y∈ps.zip us,scope.names.lookup y.1=NR .local∨(scope.names.lookup y.1=NR .cell∧((KW (s.heap.objs.size+1) scope.names []).lookup y.1).isSome=NU):=λ⟨n,v⟩ hy=>by
  rcases S.par n (d8 hy).1 with q | q
  ·~.inl q
  ·~.inr ⟨q,f6 _ _ _ (.inl q)⟩
 &codeAny_call_function hr.depth (KX _ _ lk) U S.co S.gen U (PySem.W.codeRec_of KX hcd) (hb _ _ _ _ ?_);&wpAny_newFunctionEnv_cells S.kind hkind λenv he s1 x=>?_;subst he;&⟨lim.keeps x.toInCall.keep,codeAny_func ?_⟩;B3⟨t,ht,hq⟩:=hbody A outer s H vs Q E (hr.deeper _) hsp;have I:Inv (Hu CX P w K mg base N qual scope f cdv A outer s H E) [] (start N vs) H s1:=aAp S hr.hd e0 hl r x;&BA (ht [] s1 (start N vs) H _ I hq) (λfl s' hs=>?_) λe s' hs=>hs;have fin:∀{σ':St} {H':Hp} {v:V} {u:AE},Inv (Hu CX P w K mg base N qual scope f cdv A outer s H E) [] σ' H' s'→RelV v u→Q v H'→CE outer P w H s Q u s':=
  λ{σ' H' v u} J rv q=>⟨v,H',J.os,J.bare,J.base,J.hok,rv,q⟩
 cases fl with
 | ret u=>B3⟨v,σ',H',J,rv,q⟩:=hs;~fin J rv q
 | next=>B3⟨σ',H',J,q⟩:=hs;~fin (v:=V.non) (u:=BM) J U q
 | brk=>B3⟨_,_,_,q⟩:=hs;~False.elim q
 | cont=>B3⟨_,_,_,q⟩:=hs;~False.elim q
end L2
namespace L2
open PySem PySem.Spec PyProof.Rows
section
variable{X:Cx}{x:Str}{p pos:Pos}{e:AK}{es:List AK}{t:TA}{id T:String}{r:List V→Hp→VK→Prop}
def tCB(r:List V→Hp→VK→Prop)(t:TA):TE:=λσ H Q=>t σ H λvs H1=>r vs H1 Q
B5 PL(hc:mQ X (.builtin id) r)(hg:Gl X x)(hm:X.mg x=none)(hv:AZ x=NR (.builtin id))(ha:PA X (e::es) t)(hn:x ≠ "__name__" := by decide) (hdb:OH=NV:=by decide)
  (he:AJ (e::es) X.env=(NV,AU e X.env)::AJ es X.env:=by rfl) (hpl:(Au pos (AJ es X.env)).any (·.1)=NV:=by rfl):PE X (.Call (.Name x p) (e::es) [] pos) (tCB r t):=by
 intro pins s σ H Q I h;&BF (vZ I hg hm hv ?_ hn hdb);~W7 (iY (ha pos pins s σ H _ I h) λus s1 ⟨vs,H1,I1,r1,q1⟩=>hc pins s1 σ H1 vs us Q I1 r1 q1) he hpl
B5 aAq(hc:mQ X (.type T) r)(hg:Gl X x)(hm:X.mg x=none)(hv:AZ x=NR (.type T))(ha:PA X (e::es) t)(hn:x ≠ "__name__" := by decide) (hdb:OH=NV:=by decide)
  (he:AJ (e::es) X.env=(NV,AU e X.env)::AJ es X.env:=by rfl) (hpl:(Au pos (AJ es X.env)).any (·.1)=NV:=by rfl):PE X (.Call (.Name x p) (e::es) [] pos) (tCB r t):=by
 intro pins s σ H Q I h;&BF (vZ I hg hm hv ?_ hn hdb);~L4 (iY (ha pos pins s σ H _ I h) λus s1 ⟨vs,H1,I1,r1,q1⟩=>hc pins s1 σ H1 vs us Q I1 r1 q1) he hpl
end
end L2
namespace HT
open PySem PyProof.Rows
B5 aBY(A:AV)(s:AG)(a:Int)(t:Tok)(c:Int)(u:Tok)(prog:AQ)(w:AS)(E:AE→AG→Prop)(Q:AE→AG→Prop)(h:Q (.bool (decide (a<c))) s) :
  AL ON A (richCompare .Lt (.int a t) (.int c u)) Q E s:=
 (PyProof.Rows.lt_int h:AL ON A (AY .Lt (.int a t) (.int c u)) Q E s)
section
open PySem.SeqAt
open PySem.AutoSeq1 (wpAny_loadPart')
open PySem.MeetsSeq PySem.MeetsSeq2 PySem.MeetsSeq3
end
section
variable{prog:AQ}{w:AS}{A:AV}{E:AE→AG→Prop}{s:AG}
def Kv(n d:Nat):Option Int→Nat
 | none=>d
 | some v=>if v<0 then(v+(n:Int)).toNat else min v.toNat n
B5 aEz(n d k:Nat):Kv n d (NR (k:Int))=min k n:=by show (if(k:Int)<0 then((k:Int)+(n:Int)).toNat else min (k:Int).toNat n)=min k n;rw[if_neg A6,C7]
end
end HT
namespace L2
open PySem PySem.Spec PyProof.Rows
abbrev TO:=St→Hp→(Option Int→Hp→Prop)→Prop
def PO(X:Cx)(e:Option AK)(t:TO):Prop:=
 ∀(pins:List (AF×Obj))(s:AG)(σ:St)(H:Hp)(Q:Option Int→Hp→Prop),Inv X pins σ H s→t σ H Q →
  AL Nl X.A (evalPart e X.env) (λu s'=>∃o H',Inv X pins σ H' s'∧IsPart u o∧Q o H') X.xe s
def uf:TO:=λ_ H Q=>Q none H
def aGj(t:TE):TO:=λσ H Q=>t σ H λx H1=>∃i,x=.int i∧Q (NR i) H1
B5 intsAre_of{ns:List Int}:∀{us:List AE},Vals (ns.map V.int) us→EL us ns:=by
 induction ns with
 | nil=>intro us r;rw[K9]at r;cases r;~.nil
 | cons n ns ih=>
  intro us r;rw[E2]at r;cases r with
  | cons r1 r2=>B3⟨t,e⟩:=r1;subst e;~.cons n t (ih r2)
section
variable{X:Cx}{e:AK}{te:TE}{lo hi:Option AK}{tl th:TO}{pos p2:Pos}
B5 aEA:PO X none uf:=by intro pins s σ H Q I h;rw[Kx];~wpAny_pure ⟨none,H,I,.none,h⟩
B5 aEB(h:PE X e te):PO X (NR e) (aGj te):=by intro pins s σ H Q I hw;rw[evalPart_some];&iY (h pins s σ H _ I hw) λu s1 ⟨x,H1,I1,r1,q1⟩=>?_;B3⟨i,rfl,q⟩:=q1;B3⟨t,rfl⟩:=r1;~⟨NR i,H1,I1,.int i t,q⟩
def SlR(X:Cx)(r:V→Option Int→Option Int→Hp→VK→Prop):Prop:=
 ∀(pins:List (AF×Obj))(s:AG)(σ:St)(H:Hp)(x:V)(v vl vu:AE)(lo hi:Option Int)(sl:AF)(Q:VK),Inv X pins σ H s→RelV x v→s.heap.IsSliceOf sl vl vu .none→IsPart vl lo→IsPart vu hi→r x lo hi H Q →
  ∃T id,typeLookup (.type T) "__getitem__" = pure (NR (.builtin id))∧s.TypeIs v T∧AL Nl X.A (GO v (.ref sl)) (EP X pins σ Q) X.xe s
def tSl(r:V→Option Int→Option Int→Hp→VK→Prop)(te:TE)(tl th:TO):TE:=λσ H Q=>te σ H λx H1=>tl σ H1 λl H2=>th σ H2 λu H3=>r x l u H3 Q
B5 PN{r:V→Option Int→Option Int→Hp→VK→Prop}(hr:SlR X r)(he:PE X e te)(hl:PO X lo tl)(hu:PO X hi th):PE X (.Subscript e (.Slice lo hi none p2) pos) (tSl r te tl th):=by intro pins s σ H Q I h;&JI (iY (he pins s σ H _ I h) λv s1 ⟨x,H1,I1,r1,q1⟩=>?_);&wpAny_Slice (iY (hl pins s1 σ H1 _ I1 q1) λvl s2 ⟨l,H2,I2,pl,q2⟩=>iY (hu pins s2 σ H2 _ I2 q2) λvu s3 ⟨u,H3,I3,pu,q3⟩=>?_);rw[Kx];&wpAny_pure ?_;have I4:Inv X pins σ H3 {s3 with heap:=s3.heap.push {cls:=.type "slice", data:=.fields #[vl,vu,.none]}}:=I3.kept (t':=s3.toks) λb ob q=>AI _ q;B3⟨T,id,hT,ht,hg⟩:=hr pins {s3 with heap:=s3.heap.push {cls:=.type "slice", data:=.fields #[vl,vu,.none]}} σ H3 x v vl vu l u s3.heap.objs.size Q I4 r1 (MX ..) pl pu q3;show AL Nl X.A (HL e (.Slice lo hi none p2) v (.ref s3.heap.objs.size)) (EP X pins σ Q) X.xe {s3 with heap:=s3.heap.push {cls:=.type "slice", data:=.fields #[vl,vu,.none]}};~tail_any (ops:=[.ref s3.heap.objs.size,v]) ht hT hg (by with_unfolding_all rfl)
def dh(xs:List V)(lo hi:Option Int):List V:=(xs.drop (HT.Kv xs.length 0 lo)).take (HT.Kv xs.length xs.length hi-HT.Kv xs.length 0 lo)
B5 PQ(xs:List V)(lo hi:Option Int):(dh xs lo hi).length≤xs.length:=by B4 dh;rw[G7,O1];omega
end
end L2
namespace L2
open PySem PySem.Spec PyProof.Rows
def ZW(n:Nat)(i:Int):Option Nat:=if 0≤i then(if i<n then NR i.toNat else none)else if -(n:Int)≤i then NR (i+n).toNat else none
def ZX{α:Type}(xs:List α)(i:Int):Option α:=(ZW xs.length i).bind λj=>xs[j]?
B5 ug{n:Nat}{i:Int}{j:Nat}(h:ZW n i=NR j):Ki i n=NR j∧j<n∧-(n:Int)≤i∧i<n:=by
 B4 ZW at h;by_cases h0:0≤i
 ·rw[if_pos h0]at h;by_cases h1:i<n
  ·rw[if_pos h1]at h;have e:i.toNat=j:=E6 h;~⟨by rw[GA h0 h1,e],by omega,by omega,h1⟩
  ·rw[if_neg h1]at h;cases h
 ·rw[if_neg h0]at h;by_cases h1:-(n:Int)≤i
  ·rw[if_pos h1]at h;have e:(i+n).toNat=j:=E6 h;~⟨by rw[ID A6 h1,e],by omega,h1,by omega⟩
  ·rw[if_neg h1]at h;cases h
B5 BV{α:Type}{xs:List α}{i:Int}{v:α}(h:ZX xs i=NR v):∃j,Ki i xs.length=NR j∧xs[j]?=NR v∧j<xs.length∧-(xs.length:Int)≤i∧i<xs.length:=by
 B4 ZX at h;cases e:ZW xs.length i with
 | none=>rw[e]at h;cases h
 | some j=>rw[e]at h;B3⟨h1,h2,h3,h4⟩:=ug e;~⟨j,h1,h,h2,h3,h4⟩
B5 aEC{α:Type}{xs:List α}{j:Nat}{v:α}(h:xs[j]?=NR v):ZX xs (j:Int)=NR v:=by
 have hj:j<xs.length:=(D4.mp h).1;have e:ZW xs.length (j:Int)=NR j:=by B4 ZW;rw[if_pos A6,if_pos A6];simp
 B4 ZX;rw[e];~h
def BW(b:AK):Prop:=∀o i,GG b NV o i=operate [o,i] (GO o i)
def IxR(X:Cx)(r:R2):Prop:=
 ∀(value slice:AK)(pins:List (AF×Obj))(s:AG)(σ:St)(H:Hp)(x y:V)(v u:AE)(Q:VK),Inv X pins σ H s→RelV x v→RelV y u→r x y H Q →
  GG slice NV v u=operate [v,u] (GO v u)→AL Nl X.A (HL value slice v u) (EP X pins σ Q) X.xe s
def MtR(X:Cx)(id:String)(r:V→List V→Hp→VK→Prop):Prop:=
 ∀(pins:List (AF×Obj))(s:AG)(σ:St)(H:Hp)(x:V)(xs:List V)(v:AE)(us:List AE)(Q:VK),Inv X pins σ H s→RelV x v→Vals xs us→r x xs H Q →
  AL Nl X.A (call (.builtin id) (v::us)) (EP X pins σ Q) X.xe s
section
variable{X:Cx}{a b:AK}{ta tb:TE}{pos:Pos}
B5 IxR.or{r r':R2}(h:IxR X r)(h':IxR X r'):IxR X (λx y H Q=>r x y H Q∨r' x y H Q):=by
 intro value slice pins s σ H x y v u Q I rx ry q hs;rcases q with q | q
 ·~h value slice pins s σ H x y v u Q I rx ry q hs
 ·~h' value slice pins s σ H x y v u Q I rx ry q hs
B5 aGk{r:R2}(hr:IxR X r)(ha:PE X a ta)(hb:PE X b tb)(hs:BW b):PE X (.Subscript a b pos) (OD r ta tb):=by intro pins s σ H Q I h;~JI (aHl ha hb I h λv u s2 x y H2 I2 rx ry q=>hr a b pins s2 σ H2 x y v u Q I2 rx ry q (hs _ _))
def aJH(K:aG):R2:=λx y H Q=>∃p xs i v,x=.ref p∧y=.int i∧oU K H p xs∧ZX xs i=NR v∧Q v H
def aJI(K:aG):R2:=λx y H Q=>∃p xs i v,x=.ref p∧y=.int i∧xW K H p xs∧ZX xs i=NR v∧Q v H
def aJJ:R2:=λx y H Q=>∃z i c,x=.str z∧y=.int i∧z.length≤sizeLine∧ZX z.cps.toList i=NR c∧Q (.str ⟨#[c]⟩) H
B5 aED:IxR X (aJH X.K):=by
 intro value slice pins s σ H x y v u Q I rx ry h hs;B3⟨p,xs,i,z,rfl,rfl,hq,he,q⟩:=h;cases rx;B3⟨t,rfl⟩:=ry;B3⟨its,r,pl,hz⟩:=I.list hq;B3⟨j,h1,h2,h3,h4,h5⟩:=BV he;B3⟨w,ew,Qv⟩:=r.get h2;have hl:=r.length;have hn:=Qt;have fin:EP X pins σ Q w s:=⟨z,H,I,Qv,q⟩
 by_cases h0:0≤i
 ·have hj:i.toNat=j:=by rw[GA h0 h5]at h1;~E6 h1
  ~item_listR pl.isList h0 A6 (by rw[hj];simpa using ew) fin hs
 ·have hj:(i+(its.toArray.size:Int)).toNat=j:=by rw[ID A6 h4]at h1;rw[D3,←hl];~E6 h1
  ~GH (x:=w) pl.isList.typeIs slot_list_getitem.lookup
   (wpAny_getItem_list_neg (Q:=λr s'=>r=w∧EP X pins σ Q r s') pl.isList A6 (by rw[D3]<;>omega) A6 (by rw[hj];simpa using ew) ⟨U,fin⟩) hs
B5 aHw:IxR X (aJI X.K):=by
 intro value slice pins s σ H x y v u Q I rx ry h hs;B3⟨p,xs,i,z,rfl,rfl,hq,he,q⟩:=h;cases rx;B3⟨t,rfl⟩:=ry;B3⟨its,r,pl,hz⟩:=I.tuple hq;B3⟨j,h1,h2,h3,h4,h5⟩:=BV he;B3⟨w,ew,Qv⟩:=r.get h2;have hl:=r.length;have hn:=Qt;have fin:EP X pins σ Q w s:=⟨z,H,I,Qv,q⟩
 ~GH (x:=w) pl.typeIs slot_tuple_getitem.lookup
  (getItem_tuple (j:=j) (Q:=λr s'=>r=w∧EP X pins σ Q r s') pl A6 A6 (by rw[D3,←hl];~h1) (by simpa using ew) ⟨U,fin⟩) hs
B5 aHx:IxR X aJJ:=by
 intro value slice pins s σ H x y v u Q I rx ry h hs;B3⟨z,i,c,rfl,rfl,hz,he,q⟩:=h;B3⟨t,rfl⟩:=rx;B3⟨t',rfl⟩:=ry;B3⟨j,h1,h2,h3,h4,h5⟩:=BV he;have hl:z.cps.toList.length=z.length:=by simp[Str.length]
 rw[hl]at h1 h4 h5;have hn:=Qt;~tail_any (typeIs_str s z t) slot_str_getitem.lookup (getItem_str (c:=c) (by
  have e1:decide (i < -(2 ^ 63:Int))=NV:=decide_eq_false A6;have e2:decide (i≥2 ^ 63)=NV:=decide_eq_false A6;rw[e1,e2,z6]) (by rw[h1];simpa using h2) ⟨.str ⟨#[c]⟩,H,I.tok _,⟨_,U⟩,q⟩) hs
def rIx(K:aG):R2:=λx y H Q=>aJH K x y H Q∨aJI K x y H Q∨aJJ x y H Q
B5 aHy:IxR X (rIx X.K):=aED.or (aHw.or aHx)
B5 di(its:List AE)(n j:Nat)(u:AE):EG (·.setIfInBounds j u) {cls:=.type "list", data:=.seq its.toArray n}={cls:=.type "list", data:=.seq (its.set j u).toArray n}:=by simp[EG]
B5 Inv.lst{pins:List (AF×Obj)}{σ:St}{H:Hp}{s:AG}{p:AF}{xs:List V}(I:Inv X pins σ H s)(h:H p=NR (.lst xs)) :
  ∃(its:List AE)(n:Nat),Vals xs its∧s.heap.get? p=NR {cls:=.type "list", data:=.seq its.toArray n}∧xs.length≤sizeLine:=by
 B3⟨z,its,n,r,e⟩:=I.hok p _ h;~⟨its,n,r,e,z⟩
B5 Inv.aHz{pins:List (AF×Obj)}{σ:St}{H:Hp}{s:AG}{p:AF}{xs ys:List V}{its its':List AE}{n n':Nat}{f:Obj→Obj}(I:Inv X pins σ H s)(h:H p=NR (.lst xs))
  (ho:s.heap.get? p=NR {cls:=.type "list", data:=.seq its.toArray n}) (hf:f {cls:=.type "list", data:=.seq its.toArray n}={cls:=.type "list", data:=.seq its'.toArray n'}) (r:Vals ys its') (hz:ys.length≤sizeLine) (t:Nat) :
  Inv X pins σ (upd H p (.lst ys)) {s with heap:=s.heap.update p f,toks:=t}:=by
 have e:(s.heap.update p f).get? p=NR {cls:=.type "list", data:=.seq its'.toArray n'}:=by rw[BN f ho (by rw[hf]<;>rfl),hf]
 &I.write (x:=p) (e:=p) (by rw[h];trivial) (.inl U) (λb u hb q=>(BT _ _ (Ne.symm hb)).trans q) ⟨_,e⟩ ?_;~⟨hz,its',n',r,e⟩
def Xe:V→V→V→Hp→(Hp→Prop)→Prop:=λo i v H Q=>∃p xs k j,o=.ref p∧i=.int k∧H p=NR (.lst xs)∧ZW xs.length k=NR j∧Q (upd H p (.lst (xs.set j v)))
B5 set_list:aJv X Xe:=by
 intro pins s σ H o i v ov iv u Q I ro ri rv h;B3⟨p,xs,k,j,rfl,rfl,hp,hj,q⟩:=h;cases ro;B3⟨t,rfl⟩:=ri;B3⟨its,n,r,ho,hz⟩:=I.lst hp;B3⟨h1,h2,h3,h4⟩:=ug hj;have hl:=r.length;have hn:=Qt;have I':Inv X pins σ (upd H p (.lst (xs.set j v))) {s with heap:=s.heap.update p (EG (·.setIfInBounds j u))}:=
  I.aHz hp ho (di its n j u) (r.set rv j) (by rw[J5];~hz) s.toks
 by_cases h0:0≤k
 ·have hk:k.toNat=j:=by rw[GA h0 h4]at h1;~E6 h1
  ~PySem.W.ki_setAt ho h0 A6 (by rw[D3,←hl];~h4) (by rw[hk];~⟨_,I',q⟩)
 ·have hk:(k+(its.toArray.size:Int)).toNat=j:=by rw[ID A6 h3]at h1;rw[D3,←hl];~E6 h1
  ~PySem.W.ki_setBack ho A6 (by rw[D3,←hl];~h3) A6 (by rw[hk];~⟨_,I',q⟩)
B5 BX(lo hi:Option Int)(n:Nat):(Dx lo hi none n).1=((HT.Kv n 0 lo:Nat):Int)∧(Dx lo hi none n).2.1=((HT.Kv n n hi:Nat):Int)∧(Dx lo hi none n).2.2=1:=by
 &⟨?_,?_,U⟩
 ·cases lo with
  | none=>simp[Dx,HT.Kv]
  | some i=>
   simp only[Dx,HT.Kv,r6,show (1:Int) > 0 by decide,if_true];by_cases h:i<0
   ·simp only[h,if_true]<;>omega
   ·simp only[h,if_false]<;>omega
 ·cases hi with
  | none=>simp[Dx,HT.Kv]
  | some i=>
   simp only[Dx,HT.Kv,r6,show (1:Int) > 0 by decide,if_true];by_cases h:i<0
   ·simp only[h,if_true]<;>omega
   ·simp only[h,if_false]<;>omega
B5 Vt(its:List AE)(lo hi:Option Int):slicePick its.toArray lo hi none=((its.drop (HT.Kv its.length 0 lo)).take (HT.Kv its.length its.length hi-HT.Kv its.length 0 lo)).toArray:=by B3⟨h1,h2,h3⟩:=BX lo hi its.toArray.size;B4 slicePick;rw[h1,h2,h3];simp only[sliceRange_one,pick_run,D3]<;>rfl
def aEE(K:aG):V→Option Int→Option Int→Hp→VK→Prop:=λx lo hi H Q=>∃a xs,x=.ref a∧oU K H a xs∧∀p,H p=none→Q (.ref p) (upd H p (.lst (dh xs lo hi)))
B5 aEF:SlR X (aEE X.K):=by intro pins s σ H x v vl vu lo hi sl Q I rx hs pl pu h;B3⟨a,xs,rfl,hx,q⟩:=h;cases rx;B3⟨its,r,ht,hz⟩:=I.list hx;have hlen:=r.length;&⟨"list", _,slot_list_getitem.lookup,ht.isList.typeIs,?_⟩;&wpAny_getItem_list_slice ht.isList hs pl pu .none (by simp) ?_ (by rw[D3]<;>omega);rw[Vt,←hlen];&⟨.ref s.heap.objs.size,_,I.laid (t':=s.toks) (o:=.lst (dh xs lo hi)) (λb ob q=>AI _ q) (C9 _) ?_,U,q _ (I.hok.fresh (C9 _))⟩;~⟨G1 (PQ xs lo hi) hz,_,0,(r.drop (HT.Kv xs.length 0 lo)).take (HT.Kv xs.length xs.length hi-HT.Kv xs.length 0 lo),AR _ U⟩
def An:V→Bool
 | .non=>NU
 | .bl _=>NU
 | .int _=>NU
 | .str _=>NU
 | _=>NV
def eqV:V→V→Bool
 | .non,.non=>NU
 | .bl a,.bl b=>a==b
 | .bl a,.int b=>(if a then 1 else 0)==b
 | .int a,.bl b=>a==(if b then 1 else 0)
 | .int a,.int b=>a==b
 | .str a,.str b=>a==b
 | _,_=>NV
B5 aHA{A:AV}{s:AG}{y x:V}{u v:AE}(ry:RelV y u)(rx:RelV x v)(fy:An y=NU)(fx:An x=NU):MB A s u v (eqV y x):=by
 cases y with
 | non=>
  cases ry;cases x with
  | non=>cases rx;~NF _
  | bl b=>cases rx;~MC b
  | int b=>B3⟨t,rfl⟩:=rx;~ML b t
  | str b=>B3⟨t,rfl⟩:=rx;~MM b t
  | _=>~absurd (show NV=NU from fx) E8
 | bl a=>
  cases ry;cases x with
  | non=>cases rx;~MD a
  | bl b=>cases rx;~ME a b
  | int b=>B3⟨t,rfl⟩:=rx;~MO a b t
  | str b=>B3⟨t,rfl⟩:=rx;~MQ a b t
  | _=>~absurd (show NV=NU from fx) E8
 | int a=>
  B3⟨t',rfl⟩:=ry;cases x with
  | non=>cases rx;~MR a t'
  | bl b=>cases rx;~MS a t' b
  | int b=>B3⟨t,rfl⟩:=rx;~MY a t' b t
  | str b=>B3⟨t,rfl⟩:=rx;~HU a t' b t
  | _=>~absurd (show NV=NU from fx) E8
 | str a=>
  B3⟨t',rfl⟩:=ry;cases x with
  | non=>cases rx;~MU a t'
  | bl b=>cases rx;~MV a t' b
  | int b=>B3⟨t,rfl⟩:=rx;~HV a t' b t
  | str b=>B3⟨t,rfl⟩:=rx;~MZ a t' b t
  | _=>~absurd (show NV=NU from fx) E8
 | _=>~absurd (show NV=NU from fy) E8
def eqU(x:V)(u:AE):Bool:=match u with
 | .none=>eqV .non x
 | .bool b=>eqV (.bl b) x
 | .int i _=>eqV (.int i) x
 | .str z _=>eqV (.str z) x
 | _=>NV
B5 aBZ{x y:V}{u:AE}(r:RelV y u)(f:An y=NU):eqU x u=eqV y x:=by
 cases y with
 | non=>cases r;rfl
 | bl b=>cases r;rfl
 | int i=>B3⟨t,rfl⟩:=r;rfl
 | str z=>B3⟨t,rfl⟩:=r;rfl
 | _=>~absurd (show NV=NU from f) E8
B5 BZ{x:V}:∀{xs:List V} {us:List AE},Vals xs us→xs.all An=NU→us.any (eqU x)=xs.any λy=>eqV y x
 | _,_,.nil,_=>rfl
 | y::xs,u::us,.cons r t,f=>by rw[z7,J2]at f;rw[V6,V6,aBZ r f.1,BZ t f.2]
B5 Qw{A:AV}{s:AG}{x:V}{v:AE}(rx:RelV x v)(fx:An x=NU):∀{xs:List V} {us:List AE},Vals xs us→xs.all An=NU→∀u∈us,MB A s u v (eqU x u)
 | _,_,.nil,_=>λu hu=>by cases hu
 | y::xs,u::us,.cons r t,f=>λu' hu=>by
  rw[z7,J2]at f;rcases B9.mp hu with rfl | hu
  ·rw[aBZ r f.1];~aHA r rx f.1 fx
  ·~Qw rx fx t f.2 u' hu
def inV(x:V)(xs:List V):Bool:=xs.any λy=>eqV y x
def rIn(K:aG)(neg:Bool):R2:=λx y H Q=>∃p xs,y=.ref p∧(oU K H p xs∨xW K H p xs)∧An x=NU∧xs.all An=NU∧Q (.bl (if neg then !inV x xs else inV x xs)) H
B5 CG:vC X (AY .NotIn) (rIn X.K NU):=by
 intro pins s σ H x y v u Q I rx ry h;B3⟨p,xs,rfl,hq,fx,fs,q⟩:=h;cases ry;rcases hq with hq | hq
 ·B3⟨its,r,pl,hz⟩:=I.list hq;&SeqAt.notIn_listAt (eqU x) pl.isList (λw hw=>Qw rx fx r fs w (by simpa using hw)) ⟨.bl _,H,I,U,?_⟩;rw[show its.toArray.any (eqU x)=its.any (eqU x) by simp,BZ r fs];~q
 ·B3⟨its,r,pl,hz⟩:=I.tuple hq;&SeqAt.notIn_tupleAt (eqU x) pl (λw hw=>Qw rx fx r fs w (by simpa using hw)) ⟨.bl _,H,I,U,?_⟩;rw[show its.toArray.any (eqU x)=its.any (eqU x) by simp,BZ r fs];~q
B5 CJ:mQ X (.builtin "len") (λxs H Q=>∃p ys,xs=[.ref p]∧(oU X.K H p ys∨xW X.K H p ys)∧Q (.int ys.length) H):=by
 intro pins s σ H xs us Q I r h;B3⟨p,ys,rfl,hq,q⟩:=h;B3⟨u,rfl,rx⟩:=vals1 r;cases rx;have hn:=Qt;rcases hq with hq | hq
 ·B3⟨its,r',pl,hz⟩:=I.list hq;have hlen:=r'.length;~Calls.call_len_list pl.isList (by simp only[D3]<;>omega) ⟨.int ys.length,H,I.tok _,⟨s.toks+1,by rw[D3,hlen]⟩,q⟩
 ·B3⟨its,r',pl,hz⟩:=I.tuple hq;have hlen:=r'.length;~len_tuple pl (by simp only[D3]<;>omega) ⟨.int ys.length,H,I.tok _,⟨s.toks+1,by rw[D3,hlen]⟩,q⟩
B5 CK:mQ X (.type "list") (λxs H Q=>∃p ys,xs=[.ref p]∧(oU X.K H p ys∨xW X.K H p ys)∧∀l,H l=none→Q (.ref l) (upd H l (.lst ys))):=by
 intro pins s σ H xs us Q I r h;B3⟨p,ys,rfl,hq,q⟩:=h;B3⟨u,rfl,rx⟩:=vals1 r;cases rx;have fin:∀(its:List AE),Vals ys its→ys.length≤sizeLine→∀(h':Heap)(c':Nat),(∀b o',s.heap.get? b=NR o'→h'.get? b=NR o') →
   h'.get? s.heap.objs.size=NR {cls:=.type "list", dict:=none,data:=.seq its.toArray c',slots:=#[]}→EP X pins σ Q (.ref s.heap.objs.size) {s with heap:=h'}:=λits r' hz h' c' kp e=>
  ⟨.ref s.heap.objs.size,_,I.laid (t':=s.toks) kp (C9 _) (show jU X.prog X.w _ h' _ (.lst ys)from⟨hz,its,c',r',e⟩),U,q _ (I.hok.fresh (C9 _))⟩
 rcases hq with hq | hq
 ·B3⟨its,r',pl,hz⟩:=I.list hq;have hlen:=r'.length;B3⟨o,ho,hc,n,hd⟩:=pl.isList;~LA p (.inl U) ho hc hd (λh' c' kp e=>fin its r' hz h' c' kp e) (by simp only[D3]<;>omega)
 ·B3⟨its,r',pl,hz⟩:=I.tuple hq;have hlen:=r'.length;B3⟨o,ho,hc,n,hd⟩:=pl;~LA p (.inr U) ho hc hd (λh' c' kp e=>fin its r' hz h' c' kp e) (by simp only[D3]<;>omega)
B5 Vu:mQ X (.type "tuple") (λxs H Q=>∃p ys,xs=[.ref p]∧((oU X.K H p ys∧∀l,H l=none→Q (.ref l) (upd H l (.tup ys)))∨(xW X.K H p ys∧Q (.ref p) H))):=by
 intro pins s σ H xs us Q I r h;B3⟨p,ys,rfl,h⟩:=h;B3⟨u,rfl,rx⟩:=vals1 r;cases rx;rcases h with ⟨hq,q⟩ | ⟨hq,q⟩
 ·B3⟨its,r',pl,hz⟩:=I.list hq;have hlen:=r'.length;&call_tuple_list pl.isList (λh' kp=>?_) (by simp only[D3]<;>omega);have I1:Inv X pins σ H {s with heap:=h'}:=I.kept (t':=s.toks) kp;have I2:Inv X pins σ (upd H h'.objs.size (.tup ys)) {s with heap:=h'.push {cls:=.type "tuple", data:=.seq its.toArray}}:=
   I1.laid (t':=s.toks) (λb o e=>AI _ e) (C9 _) (show jU X.prog X.w _ _ _ (.tup ys)from⟨hz,its,r',IsTup.new _ _⟩)
  ~⟨.ref h'.objs.size,_,I2,U,q _ (I1.hok.fresh (C9 _))⟩
 ·B3⟨its,r',pl,hz⟩:=I.tuple hq;~call_tuple_same pl ⟨.ref p,H,I,U,q⟩
def tyV(K:aG)(T:String)(x:V)(H:Hp):Prop:=match x with
 | .str _=>T = "str"
 | .int _=>T = "int"
 | .ref p=>(T = "list" ∧ ∃xs,oU K H p xs)∨(T = "tuple" ∧ ∃o,K.lookup p=NR o∧o.cls=.type "tuple" ∧ o.dict=none) ∨
   (T = "dict" ∧ ((∃kvs,H p=NR (.dK kvs))∨∃kvs,H p=NR (.dT kvs)))∨(T = "set" ∧ ∃S n,H p=NR (.set S n))
 | _=>False
B5 aHB{pins:List (AF×Obj)}{σ:St}{H:Hp}{s:AG}{T:String}{x:V}{v:AE}(I:Inv X pins σ H s)(r:RelV x v)(ty:tyV X.K T x H) :
  s.TypeIs v T∧∀a,v=.ref a→∃ob,s.heap.get? a=NR ob∧ob.dict=none:=by
 cases x with
 | str z=>
  B3⟨t,rfl⟩:=r
  cases(show T = "str" from ty)
  ~⟨typeIs_str s z t,λ_ e=>nomatch e⟩
 | int i=>
  B3⟨t,rfl⟩:=r
  cases(show T = "int" from ty)
  ~⟨typeIs_int s i t,λ_ e=>nomatch e⟩
 | ref p=>
  cases r;rcases ty with ⟨rfl,xs,hq⟩ | ⟨rfl,o,hk,hc,hd⟩ | ⟨rfl,hk⟩ | ⟨rfl,S,n,hk⟩
  ·B3⟨its,_,pl,_⟩:=I.list hq;&⟨pl.isList.typeIs,λa e=>?_⟩;cases e;B3⟨o,n,e,c,hd,_⟩:=pl;~⟨o,e,hd⟩
  ·&⟨⟨o,I.Kr p o hk,hc⟩,λa e=>?_⟩;cases e;~⟨o,I.Kr _ o hk,hd⟩
  ·have z:∃o,s.heap.get? p=NR o∧o.ExactDict:=by
    rcases hk with ⟨kvs,hk⟩ | ⟨kvs,hk⟩
    ·B3⟨_,_,_,_,o,_,_,e,ex,_⟩:=I.hok p _ hk;~⟨o,e,ex⟩
    ·B3⟨_,_,_,_,o,_,_,e,ex,_⟩:=I.hok p _ hk;~⟨o,e,ex⟩
   B3⟨o,e,ex⟩:=z;&⟨⟨o,e,ex.1⟩,λa e2=>?_⟩;cases e2;~⟨o,e,ex.2.1⟩
  ·B3⟨o,_,_,_,e,ex,_⟩:=I.hok p _ hk;&⟨⟨o,e,ex.1⟩,λa e2=>?_⟩;cases e2;~⟨o,e,ex.2.1⟩
 | _=>~False.elim ty
def Qx(K:aG)(T:String)(r:V→List V→Hp→VK→Prop)(to:TE)(t:TA):TE:=λσ H Q=>to σ H λx H1=>tyV K T x H1∧t σ H1 λxs H2=>r x xs H2 Q
variable{o e:AK}{es:List AK}{to:TE}{t:TA}{name:Str}{apos cpos:Pos}{T id:String}{r:V→List V→Hp→VK→Prop}
B5 qY(pa:PlainAttrs T)(slot:Slot T name id)(hty:typeOf (.builtin id)=pure (.type "method_descriptor")) (hm:MtR X id r) (ho:PE X o to) (ha:PA X (e::es) t)
  (hbase:Co o name X.env (AU o X.env)=AU o X.env:=by rfl)
  (hfew:((Au cpos (AJ (e::es) X.env)).all (λx=>!x.1)&&(EF cpos (CU [] X.env)).all (λx=>x.1.isSome)
   && decide ((e::es).length+([]:List FH).length+(if([]:List FH).isEmpty then 0 else 1)<30))=NU:=by rfl)
  (hline:(apos.endLine==cpos.line)=NU:=by rfl) (hs:AJ (e::es) X.env=(NV,AU e X.env)::AJ es X.env:=by rfl) (hplain:(Au cpos (AJ es X.env)).any (·.1)=NV:=by rfl) :
  PE X (.Call (.Attribute o name apos) (e::es) [] cpos) (Qx X.K T r to t):=by
 intro pins s σ H Q I h;&wpAny_Call_method_late hbase hfew hline U (iY (ho pins s σ H _ I h) λv s1 ⟨x,H1,I1,r1,ty,q1⟩=>?_);B3⟨h1,h2⟩:=aHB I1 r1 ty;&⟨T,id,pa,slot,hty,h1,h2,?_⟩;have hA:=ha cpos pins s1 σ H1 _ I1 q1;rw[hs]at hA ⊢;&GI (by show (NV||(Au cpos (AJ es X.env)).any (·.1))=NV;rw[hplain]<;>rfl) (HA ?_);~iY hA λus s2 ⟨vs,H2,I2,r2,q2⟩=>hm pins s2 σ H2 x vs v us Q I2 r1 r2 q2
end
end L2
namespace L2
open PySem PySem.Spec PyProof.Rows
def MtM(X:Cx)(id:String)(r:V→List V→Hp→VK→Prop):Prop:=
 ∀(pins:List (AF×Obj))(s:AG)(σ:St)(H:Hp)(x:V)(xs:List V)(v:AE)(us:List AE)(Q:VK),Inv X pins σ H s→RelV x v→Vals xs us→r x xs H Q →
  AL Nl X.A (call (.builtin id) (v::us)) (EP X pins σ Q) X.xe s
B5 Vals.one:∀{x:V} {us:List AE},Vals [x] us→∃u,us=[u]∧RelV x u
 | _,_,.cons r .nil=>⟨_,U,r⟩
B5 Vals.two:∀{x y:V} {us:List AE},Vals [x,y] us→∃u v,us=[u,v]∧RelV x u∧RelV y v
 | _,_,_,.cons r (.cons q .nil)=>⟨_,_,U,r,q⟩
B5 Vals.eraseIdx:∀{xs:List V} {us:List AE} (i:Nat),Vals xs us→Vals (xs.eraseIdx i) (us.eraseIdx i)
 | _,_,_,.nil=>.nil
 | _,_,0,.cons _ t=>t
 | _,_,i+1,.cons r t=>.cons r (Vals.eraseIdx i t)
B5 Kw{α:Type}:∀(l:List α)(i:Nat),(l.eraseIdx i).length≤l.length
 | [],_=>C9 _
 | _::_,0=>O5 _
 | _::r,i+1=>S7 (Kw r i)
section
variable{X:Cx}{pins:List (AF×Obj)}{σ:St}{H:Hp}{s:AG}{l b:AF}{xs ys zs:List V}
B5 Inv.aEG{its its':List AE}{n:Nat}{f:Array AE→Array AE}{t':Nat}(I:Inv X pins σ H s)(hH:H l=NR (.lst xs))
  (e:s.heap.get? l=NR {cls:=.type "list", data:=.seq its.toArray n}) (hf:f its.toArray=its'.toArray) (hv:Vals ys its') (hz:ys.length≤sizeLine) :
  Inv X pins σ (upd H l (.lst ys)) {s with heap:=s.heap.update l (EG f),toks:=t'}:=by
 have q:=PySem.IsL.update e f;rw[hf]at q;&I.write (x:=l) (e:=l) (by rw[hH];~trivial) (.inl U) (λb' u hb hu=>(BT s.heap (EG f) (Ne.symm hb)).trans hu) ⟨_,q⟩ ?_;~⟨hz,its',_,hv,q⟩
B5 Inv.aJL{its:List AE}{t':Nat}(I:Inv X pins σ H s)(hv:Vals ys its)(hz:ys.length≤sizeLine) :
  Inv X pins σ (upd H s.heap.objs.size (.lst ys)) {s with heap:=s.heap.push {cls:=.type "list", data:=.seq its.toArray},toks:=t'}:=
 I.laid (λ_ _ q=>AI _ q) (C9 _) ⟨hz,its,0,hv,AR _ U⟩
B5 Inv.fresh(I:Inv X pins σ H s):H s.heap.objs.size=none:=I.hok.fresh (C9 _)
B5 Inv.aEH(I:Inv X pins σ H s)(hH:H l=NR (.lst xs)):xs.length≤sizeLine∧∃(its:List AE)(n:Nat),Vals xs its∧xs.length=its.length∧s.heap.get? l=NR {cls:=.type "list", data:=.seq its.toArray n}:=by B3⟨z,its,n,r,e⟩:=I.hok l _ hH;~⟨z,its,n,r,r.length,e⟩
end
section
variable{X:Cx}
def pC:V→List V→Hp→VK→Prop:=λx vs H Q=>∃l xs y,x=.ref l∧vs=[y]∧H l=NR (.lst xs)∧xs.length<sizeLine∧Q .non (upd H l (.lst (xs++[y])))
B5 jN:MtM X "list.append" pC:=by intro pins s σ H x vs v us Q I rx rv h;B3⟨l,xs,y,rfl,rfl,hH,hz,q⟩:=h;cases rx;B3⟨u,rfl,ru⟩:=rv.one;B3⟨z,its,n,r,hl,e⟩:=I.aEH hH;&FG F.slot_list_append ⟨_,e,U⟩ F.entry_list_append (F.args_list_append_2 _ _) (PySem.list_append l its.toArray n u (by rw[D3];omega)) ⟨e,?_⟩;&⟨.non,_,I.aEG (its':=its++[u]) hH e (by simp) (r.append (.cons ru .nil)) ?_,U,q⟩;rw[D1,i3];omega
def CN:V→List V→Hp→VK→Prop:=λx vs H Q=>∃l xs i k y,x=.ref l∧vs=[.int i]∧H l=NR (.lst xs)∧-(2 ^ 63)≤i∧i<2 ^ 63∧Ki i xs.length=NR k∧xs[k]?=NR y∧Q y (upd H l (.lst (xs.eraseIdx k)))
B5 aB0:MtM X "list.pop" CN:=by
 intro pins s σ H x vs v us Q I rx rv h;B3⟨l,xs,i,k,y,rfl,rfl,hH,h1,h2,hk,hy,q⟩:=h;cases rx;B3⟨u,rfl,ru⟩:=rv.one;B3⟨t,rfl⟩:=ru;B3⟨z,its,n,r,hl,e⟩:=I.aEH hH;B3⟨w,hw,Qv⟩:=r.get hy;&FG F.slot_list_pop ⟨_,e,U⟩ F.entry_list_pop (F.args_list_pop_2 _ _)
  (MG l its.toArray n i t k w (KG h1 h2) (by rw[D3,←hl];~hk) (by rw[←M8];~hw) (by rw[D3];omega)) ⟨e,?_⟩
 &⟨y,_,I.aEG (its':=its.eraseIdx k) hH e ?_ (r.eraseIdx k) ?_,Qv,q⟩
 ·show its.toArray.eraseIdxIfInBounds k=(its.eraseIdx k).toArray;rw[W3]
 ·have:=Kw xs k;omega
end
section
variable{prog:AQ}{w:AS}{A:AV}{E:AE→AG→Prop}{s:AG}
end
section
variable{X:Cx}
end
end L2
namespace L2
open PySem PySem.Spec PyProof.Rows
section
variable{κ:Type} [DecidableEq κ]
def xZ(kvs:List (κ×V))(k:κ):Option V:=(kvs.find? λkv=>decide (kv.1=k)).map (·.2)
def putK(kvs:List (κ×V))(k:κ)(v:V):List (κ×V):=
 if(kvs.any λkv=>decide (kv.1=k))=NU then kvs.map (λkv=>if kv.1=k then(kv.1,v)else kv)else kvs++[(k,v)]
def aMJ(kvs:List (κ×V))(k:κ):List (κ×V):=kvs.filter λkv=>decide (kv.1≠k)
B5 Qy{p:κ×V}{r:List (κ×V)}{k:κ}(e:p.1=k):xZ (p::r) k=NR p.2:=by simp[xZ,P8,e]
B5 Qz{p:κ×V}{r:List (κ×V)}{k:κ}(e:¬p.1=k):xZ (p::r) k=xZ r k:=by simp[xZ,P8,e]
B5 Ra(k:κ):∀kvs:List (κ×V),(kvs.any λkv=>decide (kv.1=k))=(xZ kvs k).isSome
 | []=>rfl
 | p::r=>by
  rw[V6];by_cases e:p.1=k
  ·simp only[Qy e,decide_eq_true e,Bool.true_or,l9]
  ·rw[Qz e,decide_eq_false e,Bool.false_or];~Ra k r
B5 Ao(kvs:List (κ×V))(k:κ)(v:V):(putK kvs k v).length≤kvs.length+1:=by
 B4 putK;split
 ·rw[B8];omega
 ·rw[D1,E3,List.length_nil];omega
B5 zZ.wL{o:Option V}{u:Option AE}(r:zZ o u):o.isSome=u.isSome:=by
 cases o with
 | none=>cases u with
  | none=>rfl
  | some _=>~(show False from r).elim
 | some _=>cases u with
  | none=>~(show False from r).elim
  | some _=>rfl
B5 zZ.getD{o:Option V}{u:Option AE}{d:V}{d':AE}(r:zZ o u)(rd:RelV d d'):RelV (o.getD d) (u.getD d'):=by
 cases o with
 | none=>cases u with
  | none=>~rd
  | some _=>~(show False from r).elim
 | some _=>cases u with
  | none=>~(show False from r).elim
  | some _=>~r
B5 KV.val{kvs:List (κ×V)}{vs:List (κ×AE)}(r:KV kvs vs)(k:κ):zZ (xZ kvs k) (FI vs k):=by
 B4 KV at r
 induction r with
 | nil=>~True.intro
 | @cons p q ps qs h t ih=>
  B3⟨h1,h2⟩:=h;by_cases e:p.1=k
  ·have e':q.1=k:=h1.symm.trans e;have b:FI (q::qs) k=NR q.2:=by simp[FI,P8,e']
   rw[Qy e,b];~h2
  ·have e':¬q.1=k:=λz=>e (h1.trans z);have b:FI (q::qs) k=FI qs k:=by simp[FI,P8,e']
   rw[Qz e,b];~ih
B5 KV.any{kvs:List (κ×V)}{vs:List (κ×AE)}(r:KV kvs vs)(k:κ):(kvs.any λkv=>decide (kv.1=k))=vs.any λkv=>decide (kv.1=k):=by
 B4 KV at r
 induction r with
 | nil=>rfl
 | cons h t ih=>rw[V6,V6,ih,h.1]
B5 KV.repl{kvs:List (κ×V)}{vs:List (κ×AE)}(r:KV kvs vs)(k:κ){y:V}{u:AE}(ry:RelV y u) :
  KV (kvs.map λkv=>if kv.1=k then(kv.1,y)else kv) (vs.map λkv=>if kv.1=k then(kv.1,u)else kv):=by
 B4 KV at r ⊢
 induction r with
 | nil=>~.nil
 | @cons p q ps qs h t ih=>
  rw[E2,E2];&.cons ?_ ih;B3⟨h1,h2⟩:=h;by_cases e:p.1=k
  ·rw[if_pos e,if_pos (h1.symm.trans e)];~⟨h1,ry⟩
  ·rw[if_neg e,if_neg (λz=>e (h1.trans z))];~⟨h1,h2⟩
B5 KV.put{kvs:List (κ×V)}{vs:List (κ×AE)}(r:KV kvs vs)(k:κ){y:V}{u:AE}(ry:RelV y u):KV (putK kvs k y) (stored vs k u):=by
 B4 putK stored;rw[r.any k];by_cases e:(vs.any λkv=>decide (kv.1=k))=NU
 ·rw[if_pos e,if_pos e];~r.repl k ry
 ·rw[if_neg e,if_neg e];~MA r ⟨U,ry⟩
B5 KV.keys{kvs:List (κ×V)}{vs:List (κ×AE)}(r:KV kvs vs):kvs.map (·.1)=vs.map (·.1):=by
 B4 KV at r
 induction r with
 | nil=>rfl
 | cons h t ih=>rw[E2,E2,ih,h.1]
B5 KV.length{kvs:List (κ×V)}{vs:List (κ×AE)}(r:KV kvs vs):kvs.length=vs.length:=HG r
end
B5 Xf{P:AQ}{w:AS}{k:Key}{u:AE}(r:RelV (kV k) u):(jB P w).is k u=NU:=by
 cases k with
 | inl i=>B3⟨t,e⟩:=(show ∃t,u=Ct i t from r);subst e;~MT P w i t
 | inr x=>B3⟨t,e⟩:=(show ∃t,u=Fn x t from r);subst e;~NB P w x t
B5 Xg{P:AQ}{w:AS}:∀{ks:List Key} {us:List AE},Vals (ks.map kV) us→ItemsAre (jB P w) ks us
 | [],_,r=>by rw[K9]at r;cases r;~.nil
 | k::ks,_,r=>by
  rw[E2]at r;cases r with
  | cons h t=>~.cons (Xf h) (Xg t)
abbrev KT(H:Hp):List (List Key×V)→List (List Key×AF×AE)→Prop:=Paired λp q=>p.1=q.1∧H q.2.1=NR (.tup (p.1.map kV))∧RelV p.2 q.2.2
B5 KT.val{H:Hp}{kvs:List (List Key×V)}{xs:List (List Key×AF×AE)}(r:KT H kvs xs)(k:List Key):zZ (xZ kvs k) ((Fs xs k).map (·.2)):=by
 induction r with
 | nil=>~True.intro
 | @cons p q ps qs h t ih=>
  B3⟨h1,_,h2⟩:=h;by_cases e:p.1=k
  ·have e':q.1=k:=h1.symm.trans e;have b:Fs (q::qs) k=NR q.2:=by simp[Fs,P8,e']
   rw[Qy e,b];~h2
  ·have e':¬q.1=k:=λz=>e (h1.trans z);have b:Fs (q::qs) k=Fs qs k:=by simp[Fs,P8,e']
   rw[Qz e,b];~ih
B5 KT.repl{H:Hp}{kvs:List (List Key×V)}{xs:List (List Key×AF×AE)}(r:KT H kvs xs)(k:List Key){y:V}{u:AE}(ry:RelV y u) :
  KT H (kvs.map λkv=>if kv.1=k then(kv.1,y)else kv) (xs.map (putAt k u)):=by
 induction r with
 | nil=>~.nil
 | @cons p q ps qs h t ih=>
  rw[E2,E2];&.cons ?_ ih;B3⟨h1,h2,h3⟩:=h;B4 putAt;by_cases e:p.1=k
  ·rw[if_pos e,if_pos (h1.symm.trans e)];~⟨h1,h2,ry⟩
  ·rw[if_neg e,if_neg (λz=>e (h1.trans z))];~⟨h1,h2,h3⟩
B5 KT.put{H:Hp}{kvs:List (List Key×V)}{xs:List (List Key×AF×AE)}(r:KT H kvs xs)(k:List Key){b:AF}{y:V}{u:AE}(hb:H b=NR (.tup (k.map kV)))(ry:RelV y u) :
  KT H (putK kvs k y) (storedH xs k b u):=by
 have e:(kvs.any λkv=>decide (kv.1=k))=(Fs xs k).isSome:=by rw[Ra,(r.val k).wL,Y6]
 B4 putK storedH;rw[e];by_cases q:(Fs xs k).isSome=NU
 ·rw[if_pos q,if_pos q];~r.repl k ry
 ·rw[if_neg q,if_neg q];~MA r ⟨U,hb,ry⟩
B5 KT.keeps{H H':Hp}{kvs:List (List Key×V)}{xs:List (List Key×AF×AE)}(r:KT H kvs xs)(ht:∀b ys,H b=NR (.tup ys)→H' b=NR (.tup ys)):KT H' kvs xs:=
 Paired.aG2 r λ_ _ z=>⟨z.1,ht _ _ z.2.1,z.2.2⟩
section
variable{P:AQ}{w:AS}{H:Hp}{h:Heap}{a:AF}
B5 aGl{u:HO}(ok:Ew P w H h)(e:Rd H a u):jU P w H h a u:=e.ok ok
B5 Np{kvs:List (Key×V)}(ok:Ew P w H h)(e:Rd H a (.dK kvs)):kvs.length≤sizeLine∧(a==CB)=NV∧∃vs,KV kvs vs∧h.DictOf (jB P w) a vs:=
 show jU P w H h a (.dK kvs)from aGl ok e
B5 aJM{kvs:List (Key×V)}(ok:Ew P w H h)(e:H a=NR (.dK kvs)):kvs.length≤sizeLine∧(a==CB)=NV∧∃vs,KV kvs vs∧h.DictOf (jB P w) a vs:=Np ok (.inl e)
B5 Ky{ks:List Key}(ok:Ew P w H h)(e:H a=NR (.tup (ks.map kV))):(EV (jB P w)).is h ks a:=by
 B3⟨_,its,r,o,h1,h2,n,h3⟩:=(show jU P w H h a (.tup (ks.map kV))from ok a _ e)
 ~⟨o,its.toArray,n,h1,h2,h3,by simpa using Xg r⟩
B5 Rb{kvs:List (List Key×V)}(ok:Ew P w H h)(e:Rd H a (.dT kvs)):kvs.length≤sizeLine∧(a==CB)=NV ∧
  ∃xs,KT H kvs xs∧h.DictOfH (EV (jB P w)) a xs:=by
 B3⟨z,y,xs,r,o,es,ep,h1,h2,h3,h4,h5⟩:=(show jU P w H h a (.dT kvs)from aGl ok e)
 &⟨z,y,xs,r,o,es,ep,h1,h2,h3,h4,λx hx=>?_,h5⟩;have all:∀{l:List (List Key×V)} {m:List (List Key×AF×AE)},KT H l m→∀x∈m,(EV (jB P w)).is h x.1 x.2.1:=by
  intro l m q
  induction q with
  | nil=>intro x hx;~nomatch hx
  | @cons p q ps qs hq t ih=>
   intro x hx;rcases B9.mp hx with e | hx
   ·subst e;~Ky ok (by rw[←hq.1];~hq.2.1)
   ·~ih x hx
 ~all r x hx
B5 aJN{kvs:List (List Key×V)}(ok:Ew P w H h)(e:H a=NR (.dT kvs)):kvs.length≤sizeLine∧(a==CB)=NV ∧
  ∃xs,KT H kvs xs∧h.DictOfH (EV (jB P w)) a xs:=Rb ok (.inl e)
end
def Rc(H:Hp)(a:AF)(y:V)(r:Option V):Prop:=
 (∃kvs k,Rd H a (.dK kvs)∧y=kV k∧r=xZ kvs k)∨∃kvs k b,Rd H a (.dT kvs)∧y=.ref b∧H b=NR (.tup (k.map kV))∧r=xZ kvs k
def aJO(H:Hp)(a:AF)(y v:V)(H':Hp):Prop:=
 (∃kvs k,H a=NR (.dK kvs)∧y=kV k∧kvs.length<sizeLine∧H'=upd H a (.dK (putK kvs k v))) ∨
 ∃kvs k b,H a=NR (.dT kvs)∧y=.ref b∧H b=NR (.tup (k.map kV))∧kvs.length<sizeLine∧H'=upd H a (.dT (putK kvs k v))
section
variable{X:Cx}{pins:List (AF×Obj)}{σ:St}{H:Hp}{s:AG}{a:AF}{y v:V}{u r:AE}{o:Option V}{A:AV}{E:AE→AG→Prop}
B5 Inv.big(I:Inv X pins σ H s):CB<s.heap.objs.size:=by have h:As<s.heap.objs.size:=(I.mod.glob.keeps I.bk).lt;~Nat.lt_trans A8 h
B5 aAs{Q:AE→AG→Prop}(hu:A.units+1<BG)(I:Inv X pins σ H s)(g:Rc H a y (NR v))(ry:RelV y u)(h:∀w' s',Inv X pins σ H s'→RelV v w'→Q w' s') :
  AL Nl A (GO (.ref a) u) Q E s:=by
 rcases g with ⟨kvs,k,e,ey,l⟩ | ⟨kvs,k,b,e,ey,eb,l⟩
 ·subst ey;B3⟨z,hd,vs,rel,dd⟩:=Np I.hok e;B3⟨w',hw,Qv⟩:=zZ.some_of (v:=v) (o:=FI vs k) (by rw[l];~rel.val k);~wpAny_getItem_of (Xf ry) dd.mapOf hw (h w' _ (I.tok _) Qv)
 ·subst ey
  cases(show u=AW b from ry)
  B3⟨z,hd,xs,rel,dd⟩:=Rb I.hok e;B3⟨w',hw,Qv⟩:=zZ.some_of (v:=v) (o:=(Fs xs k).map (·.2)) (by rw[l];~rel.val k);B3⟨p,hp,hp2⟩:=kJ hw;&wpAny_getItem_heap (DA hu) (Ky I.hok eb) dd hp ?_;rw[hp2];~h w' _ (I.tok _) Qv
B5 aLA{Q:AE→AG→Prop}(hu:A.units+1<BG)(I:Inv X pins σ H s)(g:Rc H a y o)(ry:RelV y u)(h:∀s',Inv X pins σ H s'→Q (.bool o.isSome) s') :
  AL Nl A (AY .In u (.ref a)) Q E s:=by
 rcases g with ⟨kvs,k,e,ey,l⟩ | ⟨kvs,k,b,e,ey,eb,l⟩
 ·subst ey;B3⟨z,hd,vs,rel,dd⟩:=Np I.hok e;&wpAny_in_of (Xf ry) hd dd.mapOf ?_;rw[←(rel.val k).wL,←l];~h _ (I.tok _)
 ·subst ey
  cases(show u=AW b from ry)
  B3⟨z,hd,xs,rel,dd⟩:=Rb I.hok e;&wpAny_in_heap (DA hu) (Ky I.hok eb) hd dd ?_;have q:=(rel.val k).wL;rw[Y6]at q;rw[←q,←l];~h _ (I.tok _)
B5 aEI{Q:AE→AG→Prop}(hu:A.units+1<BG)(I:Inv X pins σ H s)(g:Rc H a y o)(ry:RelV y u)(h:∀s',Inv X pins σ H s'→Q (.bool (!o.isSome)) s') :
  AL Nl A (AY .NotIn u (.ref a)) Q E s:=by
 rcases g with ⟨kvs,k,e,ey,l⟩ | ⟨kvs,k,b,e,ey,eb,l⟩
 ·subst ey;B3⟨z,hd,vs,rel,dd⟩:=Np I.hok e;&wpAny_notIn_of (Xf ry) hd dd.mapOf ?_;rw[←(rel.val k).wL,←l];~h _ (I.tok _)
 ·subst ey
  cases(show u=AW b from ry)
  B3⟨z,hd,xs,rel,dd⟩:=Rb I.hok e;&wpAny_notIn_heap (DA hu) (Ky I.hok eb) hd dd ?_;have q:=(rel.val k).wL;rw[Y6]at q;rw[←q,←l];~h _ (I.tok _)
B5 uh{h':Heap}{t':Nat}{ob:HO}(I:Inv X pins σ H s)(mu:Mut (H a))(hs:Bi a s.heap h')(he:∃q,h'.get? a=NR q)(new:jU X.prog X.w (upd H a ob) h' a ob) :
  Inv X pins σ (upd H a ob) {s with heap:=h',toks:=t'}:=
 I.write (x:=a) (e:=a) mu (.inl U) (λb q hb z=>(hs.2 b hb).trans z) he new
B5 aHC{P:AQ}{w:AS}{H':Hp}{h':Heap}{kvs:List (Key×V)}{vs:List (Key×AE)}(z:kvs.length≤sizeLine)(hd:(a==CB)=NV)(rel:KV kvs vs)(dd:h'.DictOf (jB P w) a vs) :
  jU P w H' h' a (.dK kvs):=⟨z,hd,vs,rel,dd⟩
B5 aAt{H':Hp}{Q:Unit→AG→Prop}(hu:A.units+1<BG)(I:Inv X pins σ H s)(g:aJO H a y v H')(ry:RelV y u)(rv:RelV v r)(h:∀s',Inv X pins σ H' s'→Q () s') :
  AL Nl A (setItem (.ref a) u r) Q E s:=by
 rcases g with ⟨kvs,k,e,ey,l,eH⟩ | ⟨kvs,k,b,e,ey,eb,l,eH⟩
 ·subst ey eH;B3⟨z,hd,vs,rel,dd⟩:=aJM I.hok e;have hz:vs.length≤sizeLine:=by rw[←rel.length];~z
  have hl:(putK kvs k v).length≤sizeLine:=by have:=Ao kvs k v;omega
  &wpAny_setItem_pairs (hsz:=hz) (Xf ry) dd λh' dd' hs=>h _ ?_;have he:∃q,h'.get? a=NR q:=let ⟨q,_,_,hq,_⟩:=dd';⟨q,hq⟩;~uh I (by rw[e];~True.intro) hs he (aHC hl hd (rel.put k rv) dd')
 ·subst ey eH
  cases(show u=AW b from ry)
  B3⟨z,hd,xs,rel,dd⟩:=aJN I.hok e;have hz:xs.length≤sizeLine:=by rw[←HG rel];~z
  have hl:(putK kvs k v).length≤sizeLine:=by have:=Ao kvs k v;omega
  &wpAny_setItem_heap (hsz:=hz) (DA hu) (Ky I.hok eb) dd λh' dd' hs=>h _ ?_;B3⟨q,es,ep,hq,h2,h3,h4,_,h5⟩:=dd';&uh I (by rw[e];~True.intro) hs ⟨q,hq⟩ ⟨hl,hd,_,(rel.put k eb rv).keeps λc ys ec=>?_,q,es,ep,hq,h2,h3,h4,h5⟩;rw[bQ (aJk ec e (λz=>nomatch z))];~ec
end
section
variable{X:Cx}{pins:List (AF×Obj)}{σ:St}{H:Hp}{s:AG}{a:AF}{kvs:List (Key×V)}{k:Key}{u:AE}{A:AV}{E:AE→AG→Prop}
end
def aHD(i:AK):Prop:=∀ov iv,GG i NV ov iv=operate [ov,iv] (GO ov iv)
B5 aEJ{prog:AQ}{w:AS}{A:AV}{E:AE→AG→Prop}{s:AG}{env:Env}{value slice:AK}{pos:Pos}{T id:String}{Q:AE→AG→Prop}
  (hl:typeLookup (.type T) "__getitem__" = pure (NR (.builtin id))) (hs:aHD slice)
  (h:AL ON A (AU value env) (λo s₁=>AL ON A (AU slice env) (λi s₂=>s₂.TypeIs o T∧AL ON A (GO o i) Q E s₂) E s₁) E s) :
  AL ON A (AU (.Subscript value slice pos) env) Q E s:=by
 &JI (BA h (λo s₁ h₁=>BA h₁ (λi s₂ h₂=>?_) λ_ _ x=>x) λ_ _ x=>x);B3⟨hT,h₂⟩:=h₂;B4 HL;&AH ?_;rw[getitemInPython_of_ne hT.not_modules];&AH (JJ hT hl ?_);have fin:AL ON A (GG slice NV o i) (λr s₃=>AL ON A (letTemporaryGo value o r >>= λ_=>pure r) Q E s₃) E s₂:=by rw[hs o i];~wpAny_operating (BA h₂ (λr s₃ h₃=>AH (wpAny_letTemporaryGo (wpAny_pure h₃))) λ_ _ x=>x)
 first
  | ~wpAny_pure (AH fin)
  | ~AH (wpAny_pure (AH fin))
  | ~AH fin
B5 PX{X:Cx}{pins:List (AF×Obj)}{σ:St}{H:Hp}{s:AG}{a:AF}{y:V}{o:Option V}(I:Inv X pins σ H s)(g:Rc H a y o):s.TypeIs (.ref a) "dict" := by
 rcases g with ⟨kvs,k,e,_,_⟩ | ⟨kvs,k,b,e,_,_,_⟩
 ·B3⟨_,_,vs,_,dd⟩:=Np I.hok e;~dd.typeIs
 ·B3⟨_,_,xs,_,dd⟩:=Rb I.hok e;~dd.typeIs
def aGm(td ty:TE):TE:=λσ H Q=>td σ H λx H1=>ty σ H1 λy H2=>∃a v,x=.ref a∧Rc H2 a y (NR v)∧Q v H2
def aEK(ty td:TE):TE:=λσ H Q=>ty σ H λy H1=>td σ H1 λx H2=>∃a o,x=.ref a∧Rc H2 a y o∧Q (.bl o.isSome) H2
def CP(ty td:TE):TE:=λσ H Q=>ty σ H λy H1=>td σ H1 λx H2=>∃a o,x=.ref a∧Rc H2 a y o∧Q (.bl (!o.isSome)) H2
def Hv(td ty tv:TE):TS:=λD σ H=>tv σ H λv H1=>td σ H1 λx H2=>ty σ H2 λy H3=>∃a H4,x=.ref a∧aJO H3 a y v H4∧D.nx σ H4
section
variable{X:Cx}{o i e value:AK}{pos pos' tpos:Pos}{td ty tv:TE}
B5 aEL(hu:X.A.units+1<BG)(ho:PE X o td)(hi:PE X i ty)(hs:aHD i):PE X (.Subscript o i pos) (aGm td ty):=by intro pins s σ H Q I h;&aEJ PySem.F.slot_dict_getitem.lookup hs (iY (ho pins s σ H _ I h) λu s1 ⟨x,H1,I1,rx,q1⟩=>iY (hi pins s1 σ H1 _ I1 q1) λiv s2 ⟨y,H2,I2,ry,a,v,ex,g,q2⟩=>?_);subst ex;B3 rfl:u=AW a:=rx;~⟨PX I2 g,aAs hu I2 g ry λw' s3 I3 Qv=>⟨v,H2,I3,Qv,q2⟩⟩
B5 dm(hu:X.A.units+1<BG)(hi:PE X i ty)(ho:PE X o td):PC X .In i o (aEK ty td):=by intro pins s σ H Q I h;&iY (hi pins s σ H _ I h) λiv s1 ⟨y,H1,I1,ry,q1⟩=>iY (ho pins s1 σ H1 _ I1 q1) λu s2 ⟨x,H2,I2,rx,a,ov,ex,g,q2⟩=>?_;subst ex;B3 rfl:u=AW a:=rx;~aLA hu I2 g ry λs3 I3=>⟨.bl ov.isSome,H2,I3,U,q2⟩
B5 Xh(hu:X.A.units+1<BG)(hi:PE X i ty)(ho:PE X o td):PC X .NotIn i o (CP ty td):=by intro pins s σ H Q I h;&iY (hi pins s σ H _ I h) λiv s1 ⟨y,H1,I1,ry,q1⟩=>iY (ho pins s1 σ H1 _ I1 q1) λu s2 ⟨x,H2,I2,rx,a,ov,ex,g,q2⟩=>?_;subst ex;B3 rfl:u=AW a:=rx;~aEI hu I2 g ry λs3 I3=>⟨.bl (!ov.isSome),H2,I3,U,q2⟩
B5 yC(hu:X.A.units+1<BG)(ho:PE X o td)(hi:PE X i ty)(hv:PE X value tv)(hs:DO value (NR (.Subscript o i pos')) pos.line X.env=pure NV) :
  PS X (.Assign [.Subscript o i pos'] value pos) (Hv td ty tv):=by
 intro pins s σ H D I h;&wpAny_Assign_Subscript (iY (hv pins s σ H _ I h) λr s1 ⟨v,H1,I1,rv,q1⟩=>iY (ho pins s1 σ H1 _ I1 q1) λu s2 ⟨x,H2,I2,rx,q2⟩=>iY (hi pins s2 σ H2 _ I2 q2) λiv s3 ⟨y,H3,I3,ry,a,H4,ex,g,q3⟩=>?_) hs;subst ex;B3 rfl:u=AW a:=rx;~aAt hu I3 g ry rv λs4 I4=>⟨σ,H4,I4,q3⟩
end
B5 aB1{P:AQ}{w:AS}{H:Hp}(h:Heap)(hb:CB<h.objs.size):jU P w H (h.push {cls:=.type "dict", data:=.dict #[]}) h.objs.size (.dK []):=
 ⟨L5 _,beq_eq_false_iff_ne.mpr (Ne.symm (F3 hb)),[],.nil,NG h⟩
B5 aB2{P:AQ}{w:AS}{H:Hp}(h:Heap)(hb:CB<h.objs.size):jU P w H (h.push {cls:=.type "dict", data:=.dict #[]}) h.objs.size (.dT []):=
 ⟨L5 _,beq_eq_false_iff_ne.mpr (Ne.symm (F3 hb)),[],.nil,_,#[],0,AR _ U,⟨U,U,U⟩,U,U,i4⟩
def dq:TE:=λ_ H Q=>∀p,H p=none→Q (.ref p) (upd H p (.dK []))
def aB3:TE:=λ_ H Q=>∀p,H p=none→Q (.ref p) (upd H p (.dT []))
section
variable{X:Cx}{pos:Pos}
B5 aB4:PE X (.Dict [] [] pos) dq:=λpins s σ H Q I h=>
 IX ⟨.ref s.heap.objs.size,_,I.laid (a:=s.heap.objs.size) (o:=.dK []) (t':=s.toks) (λ_ _ q=>AI _ q) (C9 _) (aB1 s.heap I.big),U,h _ (I.hok.fresh (C9 _))⟩
B5 aB5:PE X (.Dict [] [] pos) aB3:=λpins s σ H Q I h=>
 IX ⟨.ref s.heap.objs.size,_,I.laid (a:=s.heap.objs.size) (o:=.dT []) (t':=s.toks) (λ_ _ q=>AI _ q) (C9 _) (aB2 s.heap I.big),U,h _ (I.hok.fresh (C9 _))⟩
end
def du:List (TE×TE)→St→Hp→(List (V×V)→Hp→Prop)→Prop
 | [],_,H,Q=>Q [] H
 | (tk,tv)::r,σ,H,Q=>tk σ H λx H1=>tv σ H1 λy H2=>du r σ H2 λps H3=>Q ((x,y)::ps) H3
abbrev VV:List (V×V)→List (AE×AE)→Prop:=Paired λp q=>RelV p.1 q.1∧RelV p.2 q.2
def PPs(X:Cx)(pos:Pos)(keys:List (Option AK))(values:List AK)(trs:List (TE×TE)):Prop:=
 ∀(pins:List (AF×Obj))(s:AG)(σ:St)(H:Hp)(Q:List (V×V)→Hp→Prop),Inv X pins σ H s→du trs σ H Q →
  AL Nl X.A (evalPairs (pairTrees keys values X.env pos)) (λvs s'=>∃ps H',Inv X pins σ H' s'∧VV ps vs∧Q ps H') X.xe s
structure M1(X:Cx)(o:AK)(m:Str)(apos:Pos)(e:AK)(cpos:Pos):Prop where
 base:Co o m X.env (AU o X.env)=AU o X.env
 few:((Au cpos (AJ [e] X.env)).all (λx=>!x.1)&&(EF cpos (CU [] X.env)).all (λx=>x.1.isSome)
  && decide (([e]:List AK).length+([]:List FH).length+(if([]:List FH).isEmpty then 0 else 1)<30))=NU
 line:(apos.endLine==cpos.line)=NU
 trees:Au cpos (AJ [e] X.env)=[(NV,AU e X.env)]
structure M2(X:Cx)(o:AK)(m:Str)(apos:Pos)(e f:AK)(cpos:Pos):Prop where
 base:Co o m X.env (AU o X.env)=AU o X.env
 few:((Au cpos (AJ [e,f] X.env)).all (λx=>!x.1)&&(EF cpos (CU [] X.env)).all (λx=>x.1.isSome)
  && decide (([e,f]:List AK).length+([]:List FH).length+(if([]:List FH).isEmpty then 0 else 1)<30))=NU
 line:(apos.endLine==cpos.line)=NU
 trees:Au cpos (AJ [e,f] X.env)=[(NV,AU e X.env),(NV,AU f X.env)]
def IsD(H:Hp)(a:AF):Prop:=(∃kvs,Rd H a (.dK kvs))∨∃kvs,Rd H a (.dT kvs)
B5 aHE{X:Cx}{pins:List (AF×Obj)}{σ:St}{H:Hp}{s:AG}{a:AF}(I:Inv X pins σ H s)(d:IsD H a) :
  s.TypeIs (.ref a) "dict" ∧ (∀b,AW a=.ref b→∃ob,s.heap.get? b=NR ob∧ob.dict=none)∧(a==CB)=NV:=by
 rcases d with ⟨kvs,e⟩ | ⟨kvs,e⟩
 ·B3⟨_,hd,vs,_,dd⟩:=Np I.hok e;&⟨dd.typeIs,λb q=>?_,hd⟩;cases q;B3⟨ob,_,_,h1,h2,_⟩:=dd;~⟨ob,h1,h2.2.1⟩
 ·B3⟨_,hd,xs,_,dd⟩:=Rb I.hok e;&⟨dd.typeIs,λb q=>?_,hd⟩;cases q;B3⟨ob,_,_,h1,h2,_⟩:=dd;~⟨ob,h1,h2.2.1⟩
section
variable{X:Cx}{pins:List (AF×Obj)}{σ:St}{H:Hp}{s:AG}{a:AF}{y d:V}{u r:AE}{o:Option V}{A:AV}{E:AE→AG→Prop}
B5 aHF{Q:AE→AG→Prop}(hu:A.units+1<BG)(I:Inv X pins σ H s)(g:Rc H a y o)(ry:RelV y u)(h:∀w' s',Inv X pins σ H s'→RelV (o.getD .non) w'→Q w' s') :
  AL Nl A (call (.builtin "dict.get") [.ref a,u]) Q E s:=by
 rcases g with ⟨kvs,k,e,ey,l⟩ | ⟨kvs,k,b,e,ey,eb,l⟩
 ·subst ey;B3⟨z,hd,vs,rel,dd⟩:=Np I.hok e;&LM V9 dd.typeIs f9 (c6 _ _) (meets_dict_get (jB X.prog X.w) a (Xf ry) hd) ⟨_,dd.mapOf,h _ _ (I.tok _) ?_⟩;rw[l];~(rel.val k).getD U
 ·subst ey
  cases(show u=AW b from ry)
  B3⟨z,hd,xs,rel,dd⟩:=Rb I.hok e;&LM V9 dd.typeIs f9 (c6 _ _) (meetsH_dict_get (EV (jB X.prog X.w)) a b hd) ⟨DA hu,k,xs,Ky I.hok eb,dd,h _ _ (I.tok _) ?_⟩;rw[l];~(rel.val k).getD U
end
def aB6(td ty:TE):TE:=λσ H Q=>td σ H λx H1=>∃a,x=.ref a∧IsD H1 a∧ty σ H1 λy H2=>∃o,Rc H2 a y o∧Q (o.getD .non) H2
section
variable{X:Cx}{o e f:AK}{apos cpos:Pos}{td ty tx:TE}
B5 aB7(hu:X.A.units+1<BG)(ho:PE X o td)(he:PE X e ty)(m:M1 X o "get" apos e cpos):PE X (.Call (.Attribute o "get" apos) [e] [] cpos) (aB6 td ty):=by intro pins s σ H Q I h;&wpAny_Call_method m.base m.few m.line PySem.F.plainAttrs_dict V9 PySem.F.type_dict_get (iY (ho pins s σ H _ I h) λu s1 ⟨x,H1,I1,rx,a,ex,d,q1⟩=>?_);subst ex;B3 rfl:u=AW a:=rx;B3⟨t1,t2,_⟩:=aHE I1 d;&⟨t1,t2,?_⟩;rw[m.trees];&GI U (HA (BY (iY (he pins s1 σ H1 _ I1 q1) λiv s2 ⟨y,H2,I2,ry,ov,g,q2⟩=>CF ?_)));~aHF hu I2 g ry λw' s3 I3 Qv=>⟨_,H2,I3,Qv,q2⟩
end
section
variable{X:Cx}{pins:List (AF×Obj)}{σ:St}{H:Hp}{s:AG}{a:AF}{kvs:List (Key×V)}{A:AV}{E:AE→AG→Prop}
end
section
variable{X:Cx}{pins:List (AF×Obj)}{σ:St}{H:Hp}{s:AG}{a:AF}{y:V}{u:AE}{A:AV}{E:AE→AG→Prop}
end
end L2
namespace Att
open PySem PySem.W PySem.Calls PyProof.Rows
B5 Om{P:LN}{h:Heap}:∀(ns:List Int)(vs:List AE),WellAll P h vs (ns.map WData.int)→EL vs ns:=by
 intro ns
 induction ns with
 | nil=>
  intro vs w;rw[K9]at w;cases w;~.nil
 | cons n ns ih=>
  intro vs w;rw[E2]at w;cases w with
  | cons a b=>cases a;~.cons _ _ (ih _ b)
B5 aAu{l:OpenLaw}{n:Nat}(hn:l.most=NR n){P:LN}{h:Heap}{args:List WData}{vals:List AE}
  (hpre:l.row.toRowW.claim.pre args=NU) (hwl:WellAll P h vals args) :
  ∃a vs ns,vals=[AW a]∧args=[WData.list (ns.map WData.int)]∧h.get? a=NR {cls:=.type "list", data:=.seq vs.toArray}∧EL vs ns∧ns.length≤n:=by
 have hsh:WShape.hasAll [] args [.list .int]=NU:=(pre_splitW hpre).1;have hc:l.pre.holds [] {args:=args}=NU:=(pre_splitW hpre).2;B3⟨d,r,rfl,h1,h2⟩:=hasAllW_cons hsh;B3 rfl:=hasAllW_nil h2;B3⟨xs,rfl,h3⟩:=hasW_list h1;B3⟨ns,rfl⟩:=items_int h3;have hlen:ns.length≤n:=by
  B4 OpenLaw.pre at hc;have h4:(WTm.not (.lt (.lit (.int (n:Int))) (.len (.arg 0)))).holds [] {args:=[.list (ns.map .int)]}=NU:=by have h4:=(holds_andW hc).1;rw[hn]at h4;~h4
  have h5:=condW_of h4 (w_not (w_lt w_lit (w_len_list (w_arg U))));rw[B8]at h5;&Nat.le_of_not_lt λq=>?_;have q':(n:Int)<((ns.length:Nat):Int):=by omega
  first
   | (rw[decide_eq_true q']at h5;~absurd h5 A8)
   | (simp at h5;omega)
 cases hwl with
 | cons w1 w2=>
  cases w2;cases w1 with
  | list ho hall=>~⟨_,_,ns,U,U,ho,Om ns _ hall,hlen⟩
B5 aAv(l:OpenLaw)(args:List WData):l.row.toRowW.claim.post args (.bool NU) args=NU:=
 postW_of (r:=l.row.toRowW) (X:=(NU==NU))
  (show WShape.has [] (.bool NU) .bool=NU by first | rfl | decide | simp[WShape.has,WShape.arms,WShape.armsAll])
  (show (WTm.eq .res (.lit (.bool NU))).value [] {args:=args,res:=NR (.bool NU),after:=args}=NR (.bool (NU==NU))from w_eq_bool (w_res U) w_lit) U
section
variable{prog:AQ}{w:AS}{A:AV}{E:AE→AG→Prop}{s:AG}{K:Frag}
end
end Att
namespace L2
open PySem PySem.Spec PyProof.Rows
B5 Dg:∀{vs:List AE} {ns:List Int},EL vs ns→Vals (ns.map V.int) vs
 | _,_,.nil=>.nil
 | _,_,.cons n t h=>.cons ⟨t,U⟩ (Dg h)
def Only(H:Hp):Prop:=∀b,H b=none∨∃o xs,H b=NR (.Al o (.lst xs))
B5 aB8{P:AQ}{w:AS}{K:aG}{mg mb:Str→Option AE}{CX:CXT}{k:Nat}{fa a:AF}{fd:BU}{x:Str}{sp:Sp}{s₁:AG}{vs:List AE}{ns:List Int}
  (KX:K.In s₁.heap) (hns:s₁.heap.Ns As mg) (hb:s₁.heap.Ns IZ mb) (hbb:∀x:Str,x ≠ "__name__" → mb x=AZ x) (hlim:s₁.heap.NoLimit) (hg:s₁.gens=#[])
  (ha:s₁.heap.get? a=NR {cls:=.type "list", data:=.seq vs.toArray}) (hi:EL vs ns) (hl:ns.length≤sizeLine) (hr:lB k FM)
  (F:∀base:Heap,K.In base→base.Ns As mg→Ab P w K mg base CX k fa fd [x] sp) (hbind:∀(s:AG)(u:AE),GN s fd ⟨[u],[]⟩ [(x,u)])
  (hsp:∀H:Hp,Only H→oU K H a (ns.map V.int)→sp [.ref a] H (λv _=>v=.bl NU) λ_ _ _=>False)
  (hCX:∀H e s',CX [] H s₁ (λ_ _ _=>False) e s'→False) :
  Cn (AM P w) FM (.call (.ref fa) ⟨[.ref a],[]⟩) (λr s'=>r=.ok (.ret (.bool NU))∧OldK s₁.heap s'.heap∧s'.os=s₁.os∧Da s'.gens) s₁:=by
 have rv:=Dg hi;have lenV:=hi.length;have core:∀H:Hp,Only H→oU K H a (ns.map V.int)→Ew P w H s₁.heap→(∀b,H b≠none→b=a)→(H a≠none→K.lookup a=none) →
   Cn (AM P w) FM (.call (.ref fa) ⟨[.ref a],[]⟩) (λr s'=>r=.ok (.ret (.bool NU))∧OldK s₁.heap s'.heap∧s'.os=s₁.os∧Da s'.gens) s₁:=by
  intro H hO hS hok hA hK;have um:∀{b:AF} {o:Obj},s₁.heap.get? b=NR o→H b=none→(Zv s₁.heap H).get? b=NR o:=λe n=>aBz e n;have noA:∀{b:AF} {o:Obj} {es:Array DictEntry} {ep:Nat},s₁.heap.get? b=NR o→o.data=.dict es ep→H b=none:=λ{b o es ep} e d=>by
   cases q:H b with
   | none=>rfl
   | some u=>have e':b=a:=hA b (by rw[q];simp);subst e';rw[ha]at e;cases e;have d':Data.seq vs.toArray _=Data.dict es ep:=d;cases d'
  have nsK:∀{b:AF} {m:Str→Option AE},s₁.heap.Ns b m→(Zv s₁.heap H).Ns b m:=λ{b m} ⟨o,es,ep,e,d,r⟩=>⟨o,es,ep,um e (noA e d),d,r⟩
  have hKb:K.In (Zv s₁.heap H):=λb o e=>um (KX b o e) (by
   cases q:H b with
   | none=>rfl
   | some u=>
    have e':b=a:=hA b (by rw[q];simp);subst e';rw[hK (by rw[q];simp)]at e;cases e)
  have hM:Mod K mg (Zv s₁.heap H):=⟨hKb,nsK hns,⟨mb,nsK hb,hbb⟩,let ⟨mc,h1,h2⟩:=hlim;⟨mc,nsK h1,h2⟩⟩
  have e0:cz P w K mg (Zv s₁.heap H) FM [] s₁ H:=⟨U,hM,λb o e=>aEg e,l7 (aAc _ _),trivial,λb hb=>absurd (show b∈([]:List AF)from hb) (by simp),hok,.of_eq hg⟩
  &DJ ((F _ hKb (nsK hns)).run FM [] s₁ H ⟨[.ref a],[]⟩ [.ref a] [.ref a] _ _ hr e0 (hbind s₁ (.ref a)) (.cons U .nil) (hsp H hO hS)) λr s' h=>?_;cases r with
  | error e=>~(hCX H e s' h).elim
  | ok fl=>
   cases fl with
   | next=>~False.elim h
   | brk=>~False.elim h
   | cont=>~False.elim h
   | ret u=>
    B3⟨v,H',os,bare,un,hok',r',q⟩:=h;have q':v=.bl NU:=q;subst q';B3 rfl:u=CM NU:=r';&⟨U,OldK.of_keep λb o e=>?_,os,bare⟩;cases q:H b with
    | none=>~un.keep b o e q (by intro z;~absurd (show b∈([]:List AF)from z) (by simp)) (by simp)
    | some u=>
     rcases hO b with z | ⟨ob,xs,z⟩
     ·rw[q]at z;cases z
     ·have z2:=un.Zu b ob _ z;B3⟨e1,_⟩:=hok b _ z;B3⟨e2,_⟩:=hok' b _ z2;rw[e]at e1;cases e1;~e2
 cases hk:K.lookup a with
 | some o=>
  have e:=KX a o hk;rw[ha]at e;cases e;&core (λ_=>none) (λ_=>.inl U) (.inr ⟨_,vs.toArray,_,hk,U,U,U,by rw[D3,lenV];~hl,by simpa using rv⟩) (λb u z=>by have z':(none:Option HO)=NR u:=z;cases z') (λb z=>absurd U z) λz=>absurd U z
 | none=>
  &core (λb=>if b=a then NR (.Al {cls:=.type "list", data:=.seq vs.toArray} (.lst (ns.map V.int)))else none) (λb=>?_) (.inl (.inr ⟨{cls:=.type "list", data:=.seq vs.toArray},if_pos U⟩)) (λb u z=>?_) (λb z=>?_) λ_=>hk
  ·by_cases hb:b=a
   ·~.inr ⟨_,_,if_pos hb⟩
   ·~.inl (if_neg hb)
  ·by_cases hb:b=a
   ·have z':=(if_pos hb).symm.trans z;cases z';subst hb;~⟨ha,by rw[B8];~hl,vs,_,rv,ha⟩
   ·have z':=(if_neg hb).symm.trans z;cases z'
  ·by_cases hb:b=a
   ·~hb
   ·~absurd (if_neg hb) z
end L2
namespace L2
open PySem PySem.Spec PyProof.Rows
end L2
namespace L2
open PySem PySem.Spec PyProof.Rows
def inClass(s:AO)(j:Nat):AO:=match s with
 | .ClassDef _ _ _ body _ _ _ _ _ _ _=>body.getD j (.Pass ⟨0,0,0,0⟩)
 | _=>.Pass ⟨0,0,0,0⟩
def gA(s:AO):Arguments:=match s with
 | .FunctionDef _ a _ _ _ _ _ _ _ _=>a
 | _=>{posonlyargs:=[],args:=[],vararg:=none,kwonlyargs:=[],kw_defaults:=[],kwarg:=none,defaults:=[]}
def cM(s:AO):List AO:=match s with
 | .FunctionDef _ _ b _ _ _ _ _ _ _=>b
 | _=>[]
def aK(s:AO):BQ:=match s with
 | .FunctionDef _ _ _ _ _ _ sc _ _ _=>sc
 | _=>{kind:=.function,names:=[],isGenerator:=NV,isCoroutine:=NV}
abbrev MJ:CXT:=λ_ _ _ _ _ _=>False
abbrev E0:XK:=λ_ _ _=>False
B5 Xi{X:Cx}:Passes MJ X E0:=λ_ _ _ _ _ _ _ h=>h.elim
structure Fun(K:aG)(x qual:Str)(st:AO)(f:AF)(fd:BU):Prop where
 ex:∃(oc:AE)(od:Option AF)(kV doc pm:AE)(an:Option AF)(cdv ct:AE)(osl:Array (Option AE)),
  fd=G5 x qual (gA st) (cM st) (aK st) .none kV doc pm an cdv ct∧K.lookup f=NR ⟨oc,od,.func fd,osl⟩∧L6 K cdv qual=NU
 kp:K7 K (.ref f)=NU
section
variable{P:AQ}{w:AS}{K:aG}{mg:Str→Option AE}{base:Heap}
B5 Fun.ok{x qual:Str}{st:AO}{f:AF}{fd:BU}{N ps:List Str}{k:Nat}{sp:Sp}(F:Fun K x qual st f fd)(S:bA N ps (aK st))(len:∀vs H Q E,sp vs H Q E→vs.length=ps.length)
  (hbody:∀(cdv:AE)(A:AV)(outer:List Env)(s:AG)(H:Hp)(vs:List V)(Q:VK)(E:XK),lB k (A.deeper (CH qual (aK st) s.heap.objs.size f cdv))→sp vs H Q E →
   ∃t,NT (Hu MJ P w K mg base N qual (aK st) f cdv A outer s H E).sy (cM st) t∧t {nx:=λ_ H'=>Q .non H',rt:=Q} (start N vs) H):Ab P w K mg base MJ (k+1) f fd ps sp:=by
 B3⟨oc,od,kV,doc,pm,an,cdv,ct,osl,rfl,lk,hcd⟩:=F.ex;&aBX lk hcd S len λA outer s H vs Q E hr hsp=>?_;B3⟨t,h,q⟩:=hbody cdv A outer s H vs Q E hr hsp;~⟨t,h.sy,q⟩
B5 Fun.binds{x qual:Str}{st:AO}{f:AF}{fd:BU}{ps:List Str}(F:Fun K x qual st f fd)
  (h:∀(kV doc pm:AE)(an:Option AF)(cdv ct:AE)(us:List AE),us.length=ps.length→EJ (G5 x qual (gA st) (cM st) (aK st) .none kV doc pm an cdv ct) ⟨us,[]⟩=pure (ps.zip us)):Binds K fd ps []:=by
 B3⟨oc,od,kV,doc,pm,an,cdv,ct,osl,rfl,lk,hcd⟩:=F.ex;~.all (h kV doc pm an cdv ct)
B5 aHG{x qual:Str}{st:AO}{f:AF}{oc:AE}{od an:Option AF}{osl:Array (Option AE)}{kV doc pm cdv ct:AE}(l:K.lookup f=NR ⟨oc,od,.func (G5 x qual (gA st) (cM st) (aK st) .none kV doc pm an cdv ct),osl⟩)
  (c:L6 K cdv qual=NU) (k:K7 K (.ref f)=NU):Fun K x qual st f (G5 x qual (gA st) (cM st) (aK st) .none kV doc pm an cdv ct):=⟨⟨oc,od,kV,doc,pm,an,cdv,ct,osl,U,l,c⟩,k⟩
end
B5 cP{A:AV}{k:Nat}(hr:lB k A):A.units+1<BG:=R6 (Nat.add_le_add_left (by decide:1≤64) _) hr.units
B5 tY{n:Nat}(h:n≤1000):n<sizeLine:=R6 h A8
section
variable{X:Cx}
B5 pv(i:Nat){x:Str}{pos:Pos}(hN:X.N[i]?=NR x:=by rfl)(hv:Ey X.env.scope x:=by first | ~D8 U | ~D7 (D8 U) | ~D7 (D7 U))(hd:OH=NV:=by decide)
  (hcd:(x==("__classdict__" : Str))=NV:=by decide):PE X (.Name x pos) (qM i):=aG4 hN hv hd hcd
end
def aW(H H':Hp):Prop:=∀b o,H b=NR o→H' b=NR o
B5 aW.refl(H:Hp):aW H H:=λ_ _ h=>h
B5 aW.trans{H H1 H2:Hp}(a:aW H H1)(b:aW H1 H2):aW H H2:=λc o h=>b c o (a c o h)
B5 aW.free{H H':Hp}(e:aW H H'){l:AF}(h:H' l=AD):H l=AD:=by
 cases q:H l with
 | none=>rfl
 | some o=>rw[e l o q]at h;cases h
B5 aW.seq{K:aG}{H H':Hp}{a:AF}{xs:List V}(e:aW H H')(h:oU K H a xs):oU K H' a xs:=by
 rcases h with (h | ⟨o,h⟩) | h
 ·~.inl (.inl (e _ _ h))
 ·~.inl (.inr ⟨o,e _ _ h⟩)
 ·~.inr h
section
variable{κ:Type} [DecidableEq κ]
end
end L2


namespace L2
open PySem PySem.Spec PyProof.Rows
B5 Fi(env:Env):∀(names:List (Str×FX))(acc:List (Str×AF)),(∀x∈names,x.2=.free→∃c,env.cells.lookup x.1=NR c) →
    ∃cl:List (Str×AF),(forIn names acc (λ(x:Str×FX) (r:List (Str×AF))=>(match x with
      | (name,kind)=>if(kind==.free)=NU then do let c ←cellOf env name;pure (ForInStep.yield ((name,c)::r))else pure (ForInStep.yield r):Sem (ForInStep (List (Str×AF))))))=pure cl ∧
      (∀x c,cl.lookup x=NR c→(∃k,(x,k)∈names∧k=.free∧env.cells.lookup x=NR c)∨acc.lookup x=NR c) ∧
      (∀x,(x,BH)∈names→∃c,cl.lookup x=NR c)∧(∀x c,acc.lookup x=NR c→∃c',cl.lookup x=NR c')
  | [],acc,_=>⟨acc,U,λx c h=>.inr h,λx h=>by simp at h,λx c h=>⟨c,h⟩⟩
  | (n,k)::r,acc,h=>by
    rw[List.forIn_cons];by_cases hk:k=.free
    · subst hk
      B3⟨c,hc⟩:=h (n,.free) C8 U;B3⟨cl,e,h1,h2,h3⟩:=Fi env r ((n,c)::acc) λx hx=>h x (C6 _ hx);&⟨cl,?_,λx d hd=>?_,λx hx=>?_,λx d hd=>?_⟩
      · have e0:cellOf env n=pure c:=by B4 cellOf;rw[hc]
        simp only[beq_self_eq_true,if_true,e0,pure_bind];~e
      · rcases h1 x d hd with ⟨k',m,q⟩ | q
        · ~.inl ⟨k',C6 _ m,q⟩
        · rw[V7]at q
          by_cases e:x==n
          · rw[e]at q
            have e':=eq_of_beq e;subst e';cases q;~.inl ⟨.free,C8,U,hc⟩
          · have e':(x==n)=NV:=by simpa using e
            rw[e']at q;~.inr q
      · rcases B9.mp hx with q | q
        · cases q
          ~h3 n c (by simp)
        · ~h2 x q
      · by_cases e:x==n
        · ~h3 x c (by rw[V7,e])
        · have e':(x==n)=NV:=by simpa using e
          ~h3 x d (by rw[V7,e'];~hd)
    · B3⟨cl,e,h1,h2,h3⟩:=Fi env r acc λx hx=>h x (C6 _ hx)
      have hb:(k==BH)=NV:=by simpa using hk
      &⟨cl,?_,λx d hd=>?_,λx hx=>?_,h3⟩
      · simp only[hb,X9,if_false,pure_bind]
        ~e
      · rcases h1 x d hd with ⟨k',m,q⟩ | q
        · ~.inl ⟨k',C6 _ m,q⟩
        · ~.inr q
      · rcases B9.mp hx with q | q
        · cases q
          ~absurd U hk
        · ~h2 x q
B5 Ez(scope:BQ)(env:Env)(h:∀x∈scope.names,x.2=.free→∃c,env.cells.lookup x.1=NR c) :
    ∃cl,closureFor scope env=pure cl∧(∀x c,cl.lookup x=NR c→(x,BH)∈scope.names∧env.cells.lookup x=NR c)∧∀x,(x,BH)∈scope.names→∃c,cl.lookup x=NR c:=by
  B3⟨cl,e,h1,h2,_⟩:=Fi env scope.names [] h;&⟨cl,?_,λx c hx=>?_,h2⟩
  · B4 closureFor
    ~(congrArg (λt=>t >>= pure) e).trans (pure_bind _ _)
  · rcases h1 x c hx with ⟨k,m,rfl,q⟩ | q
    · ~⟨m,q⟩
    · simp at q
B5 CQ{scope:BQ}{env:Env}(hcell:∀y∈scope.names,y.2≠.cell){x:Str}(h:(GU scope env).names.lookup x=NR .cell∨(GU scope env).names.lookup x=NR .free):(x,BH)∈scope.names:=by
 have m:(x,NM)∈(GU scope env).names∨(x,BH)∈(GU scope env).names:=by
  rcases h with h | h
  ·~.inl (O0 h)
  ·~.inr (O0 h)
 B4 GU at m;rcases m with m | m
 all_goals
  B3⟨⟨n,k⟩,hm,e⟩:=J4.mp m;dsimp only at e;split at e
  ·rename_i hc;simp only[J2,beq_iff_eq]at hc;cases e
   first
    | (rw[hc.1.1]at hm;~hm)
    | skip
  ·cases e
   first
    | ~hm
    | ~absurd U (hcell _ hm)
def jF(X:Cx)(scope:BQ)(N:List Str)(cl:List (Str×AF))(fp:List AF)(s:AG)(H:Hp)(C:AF):Cx where
 prog:=X.prog
 w:=X.w
 K:=X.K
 mg:=X.mg
 base:=X.base
 A:=X.A
 N:=N
 s₀:=s
 H₀:=H
 env:=LO scope cl C X.env
 outer:=X.stack
 stack:=X.stack
 ex:=fp
 calm:=X.calm
 fn:=λ_=>NV
 pn:=[]
 xe:=λ_ _=>False
def Vv(σ:St)(fr:List Nat):St:=fr.map λi=>σ.getD i none
def blk(k:Nat)(σ:St)(fr:List Nat):St:=E9 k none++Vv σ fr
def Kp(k:Nat)(σ:St)(fr:List Nat)(σ2:St):Prop:=σ2.length=(blk k σ fr).length∧∀(j:Nat) v,(blk k σ fr)[j]?=NR (NR v)→σ2[j]?=NR (NR v)
def PTs(X:Cx)(ifs:List AK)(t:TT):Prop:=
 ∀(pins:List (AF×Obj))(s:AG)(σ:St)(H:Hp)(Q:Bool→Hp→Prop),Inv X pins σ H s→t σ H Q →
  AL Nl X.A (forIn ifs NU λc r=>if r=NU then do let ok ←HZ c X.env (AU c X.env);pure (ForInStep.yield ok)else pure (ForInStep.yield r)) (TP X pins σ Q) X.xe s
def aJP:TT:=λ_ H Q=>Q NU H
B5 aEM{X:Cx}:PTs X [] aJP:=λ_ _ _ H _ I h=>wpAny_tests_nil ⟨H,I,h⟩
B5 aEN{X:Cx}{c:AK}{t:TT}(h:PT X c t):PTs X [c] t:=λpins s σ H Q I q=>wpAny_tests_one (h pins s σ H Q I q)
B5 Ej{prog:AQ}{w:AS}{A:AV}{R:FU→AG→Prop}{s:AG}{elt target iter:AK}{ifs:List AK}{scope:BQ}{pos:Pos}{it acc:AE}{env:Env}(I:Nat→AG→Prop)
  (turn:∀n s,I n s→AL ON A (DU it) (λr s₁=>match r with
   | none=>R (.ok .next) s₁
   | some v=>AL ON A (ER target it v) (λ_ s₀=>AL ON A (EW target env v) (λ_ s₂=>
     AL ON A (forIn ifs NU λc r=>if r=NU then do let ok ←HZ c env (AU c env);pure (ForInStep.yield ok)else pure (ForInStep.yield r)) (λok s₃=>
      if ok=NU then AL ON A (AU elt env) (λx s₄=>
       AL ON A (call (.builtin "list.append") [acc,x]) (λ_ s₅=>∃m,m<n∧I m s₅) (λ_ _=>False) s₄) (λ_ _=>False) s₃
      else ∃m,m<n∧I m s₃) (λ_ _=>False) s₂) (λ_ _=>False) s₀) (λ_ _=>False) s₁) (λ_ _=>False) s)
  (n:Nat) (h:I n s) :
  Cn ON A (.compLoop (.ListComp elt [⟨target,iter,ifs,0⟩] scope pos) 0 it acc env) R s:=by
 &codeAny_loop U I (λn s hI=>?_) n h;show AL _ A ((compTurn (.ListComp elt [⟨target,iter,ifs,0⟩] scope pos) 0 it acc env).onRaise (λx=>do noteFrame x env;theTreesLotGoes x)) _ _ s;&wpAny_noted ?_;rw[compTurn_list];&BA (E:=λ_ _=>False) ?_ (λ_ _ q=>q) λ_ _ x=>x.elim;&AH (HI (AH (BA (turn n s hI) (λr s₁ h₁=>?_) λ_ _ h'=>h')));cases r with
 | none=>~wpAny_pure h₁
 | some v=>
  &AH (BA h₁ (λ_ s₀ h₀=>?_) λ_ _ h'=>h');&AH (BA h₀ (λ_ s₂ h₂=>AH (BA h₂ (λok s₃ h₃=>?_) λ_ _ h'=>h')) λ_ _ h'=>h');cases ok with
  | false=>~wpAny_pure ⟨U,h₃⟩
  | true=>~AH (AH (BA h₃ (λx s₄ h₄=>AH (BA h₄ (λ_ s₅ h₅=>wpAny_pure (wpAny_pure ⟨U,h₅⟩)) λ_ _ h'=>h')) λ_ _ h'=>h'))
def aGn(J:It)(k:Nat)(fr:List Nat)(g:TG)(tc:TT)(te:TE)(σ:St)(H1:Hp)(Q:VK)(D:AF):Prop:=∃W:Nat→Nat→List V→Hp→Prop,(∃m,W 0 m [] (upd H1 D (.lst []))) ∧
 ∀i m ys H,W i m ys H→H D=NR (.lst ys)∧((J.stop i H∧Q (.ref D) H)∨(J.go i H∧∀x H',J.yld i H x H'→g x (blk k σ fr) H' λσ2 H2=>Kp k σ fr σ2∧tc σ2 H2 λok H3=>if ok=NU then
  te σ2 H3 λy H4=>H4 D=NR (.lst ys)∧ys.length<sizeLine∧∃m',m'<m∧W (i+1) m' (ys++[y]) (upd H4 D (.lst (ys++[y])))else ∃m',m'<m∧W (i+1) m' ys H3))
def Rg(wi:TI)(k:Nat)(fr:List Nat)(g:TG)(tc:TT)(te:TE):TE:=λσ H Q=>wi σ H λJ H1=>∀D,H1 D=none→aGn J k fr g tc te σ H1 Q D
def qZ(scope MK:BQ):BQ:=
 {scope with names:=scope.names.map λ(n,k)=>if(k==.free&&MK.kind==.function&&MK.names.lookup n==NR .cell)then(n,.cell)else(n,k)}
structure lC(MK scope:BQ)(oN N:List Str)(k:Nat)(fr:List Nat):Prop where
 kind:scope.kind=.function
 cell:∀y∈scope.names,y.2≠.cell
 loc:∀y∈scope.names,y.2=.local→scope.names.lookup y.1=NR .local
 free:∀y∈scope.names,y.2=.free→MK.names.lookup y.1=NR .cell∨MK.names.lookup y.1=NR .free
 len:N.length=k+fr.length
 slots:∀j∈D5 fr.length,oN[fr.getD j 0]?=N[k+j]?
 from_:∀x∈N.drop k,(x,BH)∈scope.names∧((qZ scope MK).names.lookup x=NR .cell∨(qZ scope MK).names.lookup x=NR .free)
def uo(MK scope:BQ)(oN N:List Str)(k:Nat)(fr:List Nat):Bool:=
 decide (scope.kind=.function)&&decide (∀y∈scope.names,y.2≠.cell)&&decide (∀y∈scope.names,y.2=.local→scope.names.lookup y.1=NR .local) &&
 decide (∀y∈scope.names,y.2=.free→MK.names.lookup y.1=NR .cell∨MK.names.lookup y.1=NR .free)&&decide (N.length=k+fr.length) &&
 decide (∀j∈D5 fr.length,oN[fr.getD j 0]?=N[k+j]?) &&
 decide (∀x∈N.drop k,(x,BH)∈scope.names∧((qZ scope MK).names.lookup x=NR .cell∨(qZ scope MK).names.lookup x=NR .free))
B5 lC.of{MK scope:BQ}{oN N:List Str}{k:Nat}{fr:List Nat}(h:uo MK scope oN N k fr=NU):lC MK scope oN N k fr:=by B4 uo at h;simp only[J2,decide_eq_true_eq]at h;B3⟨⟨⟨⟨⟨⟨h1,h2⟩,h3⟩,h4⟩,h5⟩,h6⟩,h7⟩:=h;~⟨h1,h2,h3,h4,h5,h6,h7⟩
section
variable{X:Cx}
B5 aEO{k:Nat}{σ:St}{fr:List Nat}{i:Nat}{v:V}(h:(blk k σ fr)[i]?=NR (NR v)):∃j o,i=k+j∧fr[j]?=NR o∧σ[o]?=NR (NR v):=by
 B4 blk at h;by_cases hi:i<k
 ·rw[F9 (by simpa using hi),O7]at h;rw[if_pos hi]at h;cases h
 ·rw[J7 (by simpa using hi),P7]at h;B4 Vv at h;rw[C5]at h;cases e:fr[i-k]? with
  | none=>rw[e]at h;cases h
  | some o=>
   rw[e]at h;&⟨i-k,o,by omega,e,?_⟩;have h:NR (σ.getD o none)=NR (NR v):=h;have h:=E6 h;rw[B7]at h;cases e2:σ[o]? with
   | none=>rw[e2]at h;cases h
   | some z=>rw[e2]at h;~congrArg NR h
B5 dw{pins:List (AF×Obj)}{σ:St}{H:Hp}{s:AG}{scope:BQ}{N:List Str}{k:Nat}{fr:List Nat}{cl:List (Str×AF)}{fp:List AF}{h₁:Heap}{tk:Nat}{m:Str→Option AE}
    (I:Inv X pins σ H s) (B:lC X.env.scope scope X.N N k fr) (hf:∀b∈fp,Hq X pins H b) (hfo:∀b∈fp,b<s.heap.objs.size)
    (hcl:∀x c,cl.lookup x=NR c→(x,BH)∈scope.names∧X.env.cells.lookup x=NR c) (aEP:∀x,(x,BH)∈scope.names→∃c,cl.lookup x=NR c)
    (hn:h₁.Ns (s.heap.objs.size+1) m) (hs:Bi (s.heap.objs.size+1) ((s.heap.push {cls:=.type "list", data:=.seq ([]:List AE).toArray}).push {cls:=.type "dict", data:=.dict #[]}) h₁) :
    Inv (jF X scope N cl fp s H (s.heap.objs.size+1)) [] (blk k σ fr) (upd H s.heap.objs.size (.lst [])) {s with heap:=h₁,toks:=tk}:=by
  have I3:=I.aJL (ys:=[]) (its:=[]) (t':=tk) .nil (L5 _);have hD:H s.heap.objs.size=none:=I.fresh;have hC:H (s.heap.objs.size+1)=none:=I.hok.fresh (O5 _);have neC:∀b o,(s.heap.push {cls:=.type "list", data:=.seq ([]:List AE).toArray}).get? b=NR o→b≠s.heap.objs.size+1:=λb o e=>by have:=AN e;rw[BE]at this;~F3 this
  have aGo:∀b o,(s.heap.push {cls:=.type "list", data:=.seq ([]:List AE).toArray}).get? b=NR o→h₁.get? b=NR o:=λb o e=>
    hs.extBut b o (neC b o e) (AI _ e)
  have kept:∀b o,s.heap.get? b=NR o→h₁.get? b=NR o:=λb o e=>aGo b o (AI _ e);&⟨⟨I.ok.mod,B.kind,I.ok.glob,I.ok.blt,O5 _,λx y c h1 h2=>I.ok.inj x y c (hcl x c h1).2 (hcl y c h2).2,λx hx=>aEP x (CQ B.cell hx),λx c h _=>(nomatch h),
      I.ok.hd,I.ok.frames,.inl U,λb hb=>⟨?_,λx c e=>(hf b hb).2.2.2.2.1 x c (hcl x c e).2⟩,λb o e=>I.bs b o e,G1 I.ok.bsz I.sz,λb o e hb=>?_,λb hb hb2=>?_,I.stack,I.sr⟩,
    rfl,I.bare,Un.laid kept (C9 _) hD,⟨m,hn,λi x v h1 h2 h3=>?_⟩,λx c e=>?_,?_,λx c e=>?_,λp hp=>absurd (show p∈([]:List (AF×Obj))from hp) (by simp),?_,?_⟩
  · ~F3 (N8 (hfo b hb))
  · rcases(hf b hb).2.2.2.1 with z | z
    · ~I.ok.aBA b o e z
    · ~absurd (E7 (AN e) (G1 I.ok.bsz z)) (L9 _)
  · rcases B9.mp (I.Zw b hb2)with z | z
    · ~(hf b hb).2.1 z
    · ~(hf b hb).2.2.1 z
  · B3⟨j,o,rfl,h4,h5⟩:=aEO h2
    have h1:N[k+j]?=NR x:=h1;have hj:j<fr.length:=(D4.mp h4).1;have hx:X.N[o]?=NR x:=by have q:=B.slots j (F7.mpr hj);rw[B7,h4]at q;~q.trans h1
    B3⟨hfr,hre⟩:=B.from_ x (D6 (i:=j) (by rw[U3];~h1));have hk:=B.free _ hfr U;B3⟨m0,hn0,hl0⟩:=I.loc;have hv:Ey X.env.scope x:=by
      rcases hk with q | q
      · ~.inr (.inl q)
      · ~.inr (.inr q)
    B3⟨u,r,l⟩:=hl0 o x v hx h5 hv;&⟨u,r,.inr ?_⟩;rcases l with ⟨q,_⟩ | ⟨_,c,e,z⟩
    · rcases hk with q' | q'
      · ~absurd (q.symm.trans q') (by intro z;cases z)
      · ~absurd (q.symm.trans q') (by intro z;cases z)
    · B3⟨c',e'⟩:=aEP x hfr
      have e2:=(hcl x c' e').2;rw[e]at e2;cases e2;&⟨hre,c,e',?_⟩;B3⟨oc,hoc,hd⟩:=z;~⟨oc,kept c oc hoc,hd⟩
  · B3⟨v,oc,hoc,hd⟩:=I.cell x c (hcl x c e).2
    ~⟨v,oc,kept c oc hoc,hd⟩
  · show upd H s.heap.objs.size (.lst []) (s.heap.objs.size+1)=none
    rw[bQ (Q7 (N2 _))];~hC
  · have hc:=(hcl x c e).2
    B3⟨v,oc,hoc,hd⟩:=I.cell x c hc;show upd H s.heap.objs.size (.lst []) c=none;rw[bQ (F3 (AN hoc))];~I.zR x c hc
  · ~Ew.kept I3.hok aGo
  · show (blk k σ fr).length=N.length
    rw[B.len];B4 blk Vv;simp
B5 QB{tg elt iter:AK}{ifs:List AK}{scope:BQ}{pos:Pos}{N:List Str}{k:Nat}{fr:List Nat}{g:TG}{tc:TT}{te:TE}{cl:List (Str×AF)}{pins:List (AF×Obj)}{σ:St}{H:Hp}{s:AG}{it:AF}{fp:List AF}{tn:Nat→Heap→Prop}{J:It}{Q:VK}
    {RR:AE→AF→FU→AG→Prop} {E:AE→AG→Prop} (hcalm:X.calm=NU) (I:Inv X pins σ H s) (T:Turn X.prog X.w X.K tg J fp it tn) (st:tn 0 s.heap) (hf:∀b∈fp,Hq X pins H b) (B:lC X.env.scope scope X.N N k fr)
    (hcl:∀x c,cl.lookup x=NR c→(x,BH)∈scope.names∧X.env.cells.lookup x=NR c) (aEP:∀x,(x,BH)∈scope.names→∃c,cl.lookup x=NR c)
    (hg:∀cl fp s H C,PG OI tg g) (hc:∀cl fp s H C,PTs OI ifs tc) (he:∀cl fp s H C,PE OI elt te)
    (hw:∀D,H D=none→aGn J k fr g tc te σ H Q D)
    (hRR:∀D C m s' H',s'.heap.Ns C m→s.heap.objs.size≤C→H' C=none→C≠D→Inv X pins σ H' s'→Q (.ref D) H'→RR (.ref D) C (.ok .next) s') :
    AL Nl X.A (newList []) (λacc s₃=>AL Nl X.A (newFunctionEnv scope X.env.globals cl [] X.env.qual none .none (NR X.env)) (λcenv s₄=>
      Cn Nl X.A (.compStart OP 0 (.ref it) acc {cenv with scope:=GU scope X.env}) (RR acc cenv.locals) s₄) E s₃) E s:=by
  &CI (wpAny_newFunctionEnv B.cell (by intro y hy;simp at hy) (λh₁ hns₁ hsb₁=>?_) B.kind);dsimp only at hns₁ hsb₁ ⊢;rw[BE]at hns₁ hsb₁ ⊢;have hfo:∀b∈fp,b<s.heap.objs.size:=λb hb=>by B3⟨o,e,_⟩:=T.obj 0 _ st b hb;~AN e
  have I4:=dw (tk:=s.toks+([]:List (Str×AE)).length) I B hf hfo hcl aEP hns₁ hsb₁;generalize hD:s.heap.objs.size=D at *;have hDn:H D=none:=by rw[←hD];~I.fresh
  B3⟨W,⟨m0,w0⟩,turn⟩:=hw D hDn;have st1:tn 0 h₁:=T.keep 0 _ _ st λb hb o e=>hsb₁.extBut b o (F3 (N8 (by have:=hfo b hb;~this))) (AI _ (AI _ e));have fr0:∀b∈fp,(upd H D (.lst [])) b=none:=λb hb=>by rw[bQ (F3 (hfo b hb))];~(hf b hb).1
  generalize hX':jF X scope N cl fp s H (D+1)=X' at I4;have stat:∀{H':Hp},(∀b∈fp,H' b=none)→∀b∈fp,Hq X' [] H' b:=λ{H'} hn b hb=>by
    subst hX';&⟨hn b hb,?_,λz=>?_,.inl hb,λx c e=>(hf b hb).2.2.2.2.1 x c (hcl x c e).2,λp hp=>absurd (show p∈([]:List (AF×Obj))from hp) (by simp)⟩
    · ~F3 (N8 (hfo b hb))
    · rcases B9.mp (I.Zw b z)with z | z
      · ~(hf b hb).2.1 z
      · ~(hf b hb).2.2.1 z
  have loop:∀s₃:AG,s₃={s with heap:=h₁,toks:=s.toks+([]:List (Str×AE)).length} →
      Cn Nl X.A (.compLoop OP 0 (.ref it) (.ref D) (LO scope cl (D+1) X.env)) (RR (.ref D) (D+1)) s₃:=by
    rintro s₃ rfl;&Ej (λn s'=>∃i ys H',Inv X' [] (blk k σ fr) H' s'∧tn i s'.heap∧(∀b∈fp,H' b=none)∧W i n ys H') ?_ m0 ⟨0,[],_,I4,st1,fr0,w0⟩;rintro n s5 ⟨i,ys,H5,I5,st5,fr5,w5⟩;B3⟨hys,way⟩:=turn i n ys H5 w5;have e1:X'.prog=X.prog:=by rw[←hX'];rfl
    have e2:X'.w=X.w:=by rw[←hX'];rfl
    have e3:X'.K=X.K:=by rw[←hX'];rfl
    have e4:X'.A=X.A:=by rw[←hX'];rfl
    have e5:X'.calm=NU:=by rw[←hX'];~hcalm
    have e6:X'.env=LO scope cl (D+1) X.env:=by rw[←hX'];rfl
    have e7:X'.xe=λ_ _=>False:=by rw[←hX'];rfl
    rcases way with ⟨stop,q⟩ | ⟨go,step⟩
    · have d:=T.done X' e1 e2 e3 e5 i [] s5 _ H5 (λ_ _=>False) I5 (stat fr5) st5 stop
      rw[e4]at d;&iY d λr s6 ⟨hr,I6⟩=>?_;subst hr;subst hX';B3⟨m6,hn6,_⟩:=I6.loc;&hRR D (D+1) m6 s6 H5 hn6 (O5 _) I6.free (Q7 (N2 _)) ?_ q;~I.call' I6.os I6.base I6.hok I6.bare λb hb=>⟨(hf b hb).2.2.2.1,(hf b hb).2.1,(hf b hb).2.2.2.2.1,(hf b hb).2.2.2.2.2⟩
    · have d:=T.item X' e1 e2 e3 e5 i [] s5 _ H5 (λ_ _=>False) I5 (stat fr5) st5 go
      rw[e4]at d;&iY d λr s6 ⟨u,hr,h6⟩=>?_;subst hr;&iY h6 λ_ s7 ⟨x,H7,I7,r7,y7,st7,fr7⟩=>?_;have I7':=I7.pinned (stat fr7) (T.obj _ _ st7);have hg':PG X' tg g:=by rw[←hX'];~hg _ _ _ _ _
      have hc':PTs X' ifs tc:=by rw[←hX'];~hc _ _ _ _ _
      have he':PE X' elt te:=by rw[←hX'];~he _ _ _ _ _
      have a1:=hg' _ s7 _ H7 x u _ I7' r7 (step x H7 y7);rw[e1,e2,e4,e6,e7]at a1;&iY a1 λ_ s8 ⟨σ8,H8,I8,⟨kl,kk⟩,q8⟩=>?_;have a2:=hc' _ s8 σ8 H8 _ I8 q8;rw[e1,e2,e4,e6,e7]at a2;&iY a2 λok s9 ⟨H9,I9,q9⟩=>?_;have again:∀{Ha:Hp} {ya:List V} {sa:AG},Inv X' ([]++Qp fp s7.heap) σ8 Ha sa→(∃m',m'<n∧W (i+1) m' ya Ha) →
          ∃m,m<n∧∃i ys H',Inv X' [] (blk k σ fr) H' sa∧tn i sa.heap∧(∀b∈fp,H' b=none)∧W i m ys H':=λ{Ha ya sa} Ia ⟨m',hm,w'⟩=>by
        &⟨m',hm,i+1,ya,Ha,(Ia.weak kl.symm kk).Hr,T.keep _ _ _ st7 λb hb o e=>(Ia.pin (b,o) (E5 _ (E5 _ (xY hb e)))).1,λb hb=>?_,w'⟩;B3⟨o,e,d⟩:=T.obj _ _ st7 b hb;~(Ia.pin (b,o) (E5 _ (E5 _ (xY hb e)))).2.1
      cases ok with
      | false=>~again I9 q9
      | true=>have a3:=he' _ s9 σ8 H9 _ I9 q9;rw[e1,e2,e4,e6,e7]at a3;show AL _ _ _ _ _ s9;&iY a3 λv s10 ⟨y,H10,I10,r10,hD10,hz,q10⟩=>?_;have a4:=jN (X:=X') _ s10 σ8 H10 (.ref D) [y] (.ref D) [v] (λ_ H11=>H11=upd H10 D (.lst (ys++[y]))) I10 U (.cons r10 .nil) ⟨D,ys,y,U,U,hD10,hz,U⟩;rw[e1,e2,e4,e7]at a4;&iY a4 λ_ s11 ⟨_,H11,I11,_,e11⟩=>?_;subst e11;~again I11 q10
  ~codeAny_compStart_list (loop _ U) (T.self _ 0 _ _ _ st1 (loop _ U))
B5 uq{tg elt iter:AK}{ifs:List AK}{scope:BQ}{pos:Pos}{wi:TI}{g:TG}{tc:TT}{te:TE}(N:List Str)(k:Nat)(fr:List Nat)(hcalm:X.calm=NU)(B:lC X.env.scope scope X.N N k fr)(hi:PI X tg iter wi)
  (hg:∀cl fp s H C,PG OI tg g) (hc:∀cl fp s H C,PTs OI ifs tc) (he:∀cl fp s H C,PE OI elt te)
  (hs:∀x,BD iter X.env x=pure x:=by intro _;rfl):PE X OP (Rg wi k fr g tc te):=by
 intro pins s σ H Q I h;B3⟨cl,e,h1,h2⟩:=Ez scope X.env λy hy hk=>I.ok.has y.1 (B.free y hy hk);rw[eval_ListComp];&FY (use:=none) U hs e B.kind B.loc (BA (hi pins s σ H _ I h) (λxv s₁ q₁=>BA q₁ (λitv s₂ q₂=>?_) λ_ _ x=>x) λ_ _ x=>x);B3⟨it,fp,tn,J,H2,rfl,I2,T,st2,f2,hw⟩:=q₂;&QB (Q:=Q) (RR:=λacc C=>compPost Nl X.A X.xe none (EP X pins σ Q) acc C) hcalm I2 T st2 f2 B h1 h2 hg hc he hw ?_;intro D C m s' H' hn hC hf hne I' q;&⟨m,hn,λh' hs'=>⟨.ref D,H',?_,U,q⟩⟩;~I'.turned (t':=s'.toks) (λb o hb eb=>(hs'.2 b hb).trans eb) hf (Q7 (E7 I2.lt hC)) (.inr (G1 I2.sz hC)) (λx c ec z=>by
  B3⟨v,q⟩:=I2.cell x c ec;~absurd (E7 q.lt (by rw[z];~hC)) (L9 _)) λp hp z=>absurd (E7 (AN (I2.pin p hp).1) (by rw[z];~hC)) (L9 _)
B5 aEQ{tg elt iter:AK}{ifs:List AK}{scope:BQ}{pos spos py:Pos}{y:Str}{i:Nat}{wi:TI}{g:TG}{tc:TT}{te:TE}(N:List Str)(k:Nat)(fr:List Nat)(hcalm:X.calm=NU)(B:lC X.env.scope scope X.N N k fr)(hN:X.N.Nodup)(hy:X.N[i]?=NR y)(hx:Loc X.env.scope y)(hi:PI X tg iter wi)
  (hg:∀cl fp s H C,PG OI tg g) (hc:∀cl fp s H C,PTs OI ifs tc) (he:∀cl fp s H C,PE OI elt te)
  (hsw:DO OP (NR (.Name y py)) spos.line X.env=pure NU:=by rfl)
  (hs:∀x,BD iter X.env x=pure x:=by intro _;rfl) (hf:X.fn y=NU∨X.env.scope.names.lookup y=NR .local:=by first | ~.inl U | ~.inr U | assumption) :
  PS X (.Assign [.Name y py] OP spos) (xX (Rg wi k fr g tc te) (iZ i)):=by
 intro pins s σ H D I h;B3⟨cl,e,h1,h2⟩:=Ez scope X.env λy hy hk=>I.ok.has y.1 (B.free y hy hk);rw[exec_Assign_Name_used _ _ _ _ hsw];&AH (HI (AH ?_));show AL _ X.A (do let _ ←comprehension OP scope X.env _ (newList []) NV (AU iter X.env) (NR (EW (.Name y py) X.env))) _ _ s;&AH (BA (FY (use:=NR (EW (.Name y py) X.env)) (Q:=λ_ s'=>SP X pins D .next s') U hs e B.kind B.loc
  (BA (hi pins s σ H _ I h) (λxv s₁ q₁=>BA q₁ (λitv s₂ q₂=>?_) λ_ _ x=>x) λ_ _ x=>x)) (λ_ s' hq=>wpAny_pure (wpAny_pure hq)) λ_ _ x=>x)
 B3⟨it,fp,tn,J,H2,rfl,I2,T,st2,f2,hw⟩:=q₂;&QB (Q:=λx H1=>iZ i x σ H1 D.nx) (RR:=λacc C=>compPost Nl X.A X.xe (NR (EW (.Name y py) X.env)) (λ_ s'=>SP X pins D .next s') acc C) hcalm I2 T st2 f2 B h1 h2 hg hc he hw ?_;intro E C m s' H' hn hC hfr hne I' q;show AL _ X.A (EW (.Name y py) X.env (.ref E)) _ _ _;have cne:∀x c,X.env.cells.lookup x=NR c→c≠C:=λx c ec z=>by B3⟨v,q⟩:=I2.cell x c ec;~absurd (E7 q.lt (by rw[z];~hC)) (L9 _)
 &IL (Wv I' hN hy hx (show RelV (.ref E) (.ref E)from rfl) (λs6 I6 ⟨a,hsb,ha⟩=>?_) hf);have neA:C≠a:=by
  rcases ha with z | z
  ·rw[z];~Q7 (E7 I2.lt hC)
  ·~λq=>cne _ _ z q.symm
 &⟨m,hn.sameBut hsb neA,λh'' hs''=>⟨_,H',?_,q⟩⟩;~I6.turned (t':=s6.toks) (λb o hb eb=>(hs''.2 b hb).trans eb) hfr (Q7 (E7 I2.lt hC)) (.inr (G1 I2.sz hC)) cne
  λp hp z=>absurd (E7 (AN (I2.pin p hp).1) (by rw[z];~hC)) (L9 _)
end
end L2


set_option maxHeartbeats 4000000
namespace L2
open PySem PySem.Spec PyProof.Rows
def JIs(J:It)(P:Hp→Prop)(xs:List V):Prop:=
 ∀i H,P H→(i<xs.length→J.go i H)∧(∀x H',J.yld i H x H'→H'=H∧(i<xs.length→xs[i]?=NR x))∧(xs.length≤i→J.stop i H)
B5 Rh{K:aG}{a:AF}{xs:List V}:JIs (Itl K a) (λH=>oU K H a xs) xs:=λi H hq=>
 ⟨λh=>⟨xs,xs[i],hq,by simp[h]⟩,λx H' ⟨e,y⟩=>⟨e,λ_=>y xs hq⟩,λh=>⟨xs,hq,h⟩⟩
B5 aER{K:aG}{a:AF}{xs:List V}:JIs (Itt K a) (λH=>xW K H a xs) xs:=λi H hq=>
 ⟨λh=>⟨xs,xs[i],hq,by simp[h]⟩,λx H' ⟨e,y⟩=>⟨e,λ_=>y xs hq⟩,λh=>⟨xs,hq,h⟩⟩
B5 Kz{lo:Int}{n:Nat}:JIs (Itr lo n) (λ_=>True) ((D5 n).map λi:Nat=>V.int (lo+(i:Int))):=λi H _=>
 ⟨λh=>show i<n by simpa using h,λx H' ⟨e,y⟩=>⟨e,λh=>by
  have h:i<n:=by simpa using h
  subst y;simp[h]⟩,λh=>show n≤i by simpa using h⟩
section
variable{X:Cx}
B5 gQ{scope:BQ}{N:List Str}{x:Str}{pos:Pos}(hN:N.Nodup)(hi:N[0]?=NR x)(hx:(qZ scope X.env.scope).names.lookup x=NR .local) :
  ∀cl fp s H C,PG OI (.Name x pos) (iZ 0):=λ_ _ _ _ _=>fJ hN hi (D8 hx) (D7 hx)
B5 aES{P:AQ}{w:AS}{k:Key}{v:AE}(h:(jB P w).is k v=NU):RelV (kV k) v:=by
 rcases iK (k:=k) (v:=v) h with ⟨i,t,rfl,rfl⟩ | ⟨x,t,rfl,rfl⟩
 ·~⟨t,U⟩
 ·~⟨t,U⟩
B5 Hw{J:It}{P:Hp→Prop}{xs:List V}(hJ:JIs J P xs){g:TG}{tb:TS}{D:Ends}{σ:St}{H:Hp}(Pv:Nat→St→Hp→Prop)(h0:Pv 0 σ H)(hl:∀i σ H,i≤xs.length→Pv i σ H→P H)
  (hs:∀i x σ H,xs[i]?=NR x→Pv i σ H→g x σ H λσ2 H2=>tb {D with nx:=Pv (i+1),ct:=Pv (i+1),bk:=D.nx} σ2 H2) (hd:∀σ H,Pv xs.length σ H→D.nx σ H) :
  ∃W:Nat→Nat→St→Hp→Prop,(∃m,W 0 m σ H)∧∀i m σ H,W i m σ H →
   (J.stop i H∧D.nx σ H)∨(J.go i H∧∃N:St→Hp→Prop,(∀σ' H',N σ' H'→∃m',m'<m∧W (i+1) m' σ' H')∧∀x H',J.yld i H x H'→g x σ H' λσ2 H2=>tb {D with nx:=N,ct:=N,bk:=D.nx} σ2 H2):=by
 &⟨λi m σ H=>m=xs.length-i∧i≤xs.length∧Pv i σ H,⟨xs.length,by simp,L5 _,h0⟩,?_⟩;rintro i m σ H ⟨rfl,hi,p⟩;B3⟨j1,j2,j3⟩:=hJ i H (hl i σ H hi p);by_cases hlt:i<xs.length
 ·&.inr ⟨j1 hlt,Pv (i+1),λσ' H' p'=>⟨xs.length-(i+1),by omega,U,hlt,p'⟩,λx H' y=>?_⟩;B3⟨e,ex⟩:=j2 x H' y;subst e;~hs i x σ _ (ex hlt) p
 ·have e:i=xs.length:=by omega
  subst e;~.inl ⟨j3 (C9 _),hd σ H p⟩
end
end L2


namespace L2
open PySem PySem.Spec PyProof.Rows
section
variable{X:Cx}
B5 Aq:∀{bs:List Bool} {us:List AE},Vals (bs.map V.bl) us→us=bs.map CM
 | [],us,r=>by rw[K9]at r;cases r;rfl
 | b::bs,us,r=>by
  rw[E2]at r;cases r with
  | cons r1 r2=>
   cases(show _=CM b from r1)
   rw[Aq r2];rfl
B5 dz(bs:List Bool):((D5 bs.length).all λi=>(bs[i]?).getD NU)=bs.all id:=by
 rw[M7,N3,N3];constructor
 ·intro h b hb;B3⟨i,hi,rfl⟩:=G6 hb;have:=h i (F7.mpr hi);simpa[hi]using this
 ·intro h i hi;have hi':=F7.mp hi;simp only[B6 hi',P0];~h _ (L0 hi')
B5 fj(bs:List Bool):((D5 bs.length).any λi=>(bs[i]?).getD NV)=bs.any id:=by
 rw[M7,Q9,Q9];constructor
 ·rintro⟨i,hi,e⟩
  have hi':=F7.mp hi;simp only[B6 hi',P0]at e;~⟨_,L0 hi',e⟩
 ·rintro⟨b,hb,e⟩
  B3⟨i,hi,rfl⟩:=G6 hb;~⟨i,F7.mpr hi,by simp only[B6 hi,P0];~e⟩
B5 CT{s:AG}{h':Heap}{o:Obj}(hk:∀b x,b∉[s.heap.objs.size]→(s.heap.push o).get? b=NR x→h'.get? b=NR x):∀b x,s.heap.get? b=NR x→h'.get? b=NR x:=
 λb x e=>hk b x (λhm=>by rw[D2.mp hm]at e;~L9 _ (AN e)) (AI _ e)
B5 aB9(hc:X.calm=NU):mQ X (.builtin "all") (λxs H Q=>∃(p:AF)(bs:List Bool),xs=[.ref p]∧oU X.K H p (bs.map V.bl)∧Q (.bl (bs.all id)) H):=by
 intro pins s σ H xs us Q I r h;B3⟨p,bs,rfl,hq,q⟩:=h;B3⟨u,rfl,rx⟩:=vals1 r;cases rx;B3⟨its,rv,pl,hz⟩:=I.list hq;have hb:=Aq rv;subst hb;have hl:=pl.isList;have hlt:p<s.heap.objs.size:=by B3⟨_,e,_⟩:=hl;~AN e
 &call_all_walk (DF hl ?_);&⟨s.heap.objs.size,[s.heap.objs.size,p],[s.heap.objs.size],_,_,_,λi=>(bs[i]?).getD NU,U,HC (A:=X.A.in1) (I.ok.hd hc) _ p (F3 hlt) _,
  ⟨⟨_,AR _ U,U,U⟩,hl.push _⟩,λi v s' Q' E' hP hQ=>?_,λh' tk hk=>?_⟩
 ·have e:(bs.map CM)[i]?=NR v:=by simpa using hP
  rw[C5]at e;cases e2:bs[i]? with
  | none=>rw[e2]at e;cases e
  | some b=>rw[e2]at e;cases e;simp only[e2,P0]at hQ;~BC hQ
 ·have e:((D5 (bs.map CM).toArray.size).all λi=>(bs[i]?).getD NU)=bs.all id:=by rw[D3,B8];~dz bs
  rw[e];~⟨.bl _,H,I.kept (CT hk),U,q⟩
B5 aCa(hc:X.calm=NU):mQ X (.builtin "any") (λxs H Q=>∃(p:AF)(bs:List Bool),xs=[.ref p]∧oU X.K H p (bs.map V.bl)∧Q (.bl (bs.any id)) H):=by
 intro pins s σ H xs us Q I r h;B3⟨p,bs,rfl,hq,q⟩:=h;B3⟨u,rfl,rx⟩:=vals1 r;cases rx;B3⟨its,rv,pl,hz⟩:=I.list hq;have hb:=Aq rv;subst hb;have hl:=pl.isList;have hlt:p<s.heap.objs.size:=by B3⟨_,e,_⟩:=hl;~AN e
 &call_any_walk (DF hl ?_);&⟨s.heap.objs.size,[s.heap.objs.size,p],[s.heap.objs.size],_,_,_,λi=>(bs[i]?).getD NV,U,HC (A:=X.A.in1) (I.ok.hd hc) _ p (F3 hlt) _,
  ⟨⟨_,AR _ U,U,U⟩,hl.push _⟩,λi v s' Q' E' hP hQ=>?_,λh' tk hk=>?_⟩
 ·have e:(bs.map CM)[i]?=NR v:=by simpa using hP
  rw[C5]at e;cases e2:bs[i]? with
  | none=>rw[e2]at e;cases e
  | some b=>rw[e2]at e;cases e;simp only[e2,P0]at hQ;~BC hQ
 ·have e:((D5 (bs.map CM).toArray.size).any λi=>(bs[i]?).getD NV)=bs.any id:=by rw[D3,B8];~fj bs
  rw[e];~⟨.bl _,H,I.kept (CT hk),U,q⟩
B5 aAw{P:AQ}{w:AS}{kvs:List (Key×V)}{vs:List (Key×AE)}(rel:KV kvs vs){us:List AE}(hl:us.length=vs.length)(hv:∀(j:Nat)(v:AE),us[j]?=NR v→∃k x,vs[j]?=NR (k,x)∧(jB P w).is k v=NU) :
  Vals (kvs.map λkv=>kV kv.1) us:=by
 have ek:=KV.keys rel;have e0:(kvs.map λkv=>kV kv.1)=(vs.map (·.1)).map kV:=by rw[←ek,M4];rfl
 rw[e0];clear e0 ek rel
 induction vs generalizing us with
 | nil=>
  cases us with
  | nil=>~.nil
  | cons _ _=>simp at hl
 | cons p r ih=>
  cases us with
  | nil=>simp at hl
  | cons u us=>&.cons ?_ (ih (by simpa using hl) λj v e=>by simpa using hv (j+1) v (by simpa using e));B3⟨k,x,e,h⟩:=hv 0 u U;simp at e;subst e;~aES h
B5 Av(hc:X.calm=NU):mQ X (.type "list") (λxs H Q=>∃p kvs,xs=[.ref p]∧Rd H p (.dK kvs)∧∀l,H l=none→Q (.ref l) (upd H l (.lst (kvs.map λkv=>kV kv.1)))):=by intro pins s σ H xs us Q I r h;B3⟨p,kvs,rfl,hq,q⟩:=h;B3⟨u,rfl,rx⟩:=vals1 r;cases rx;B3⟨hz,hsm,vs,rel,dd⟩:=Np I.hok hq;B3⟨ep,hat⟩:=dd.dictAt;have hl:=KV.length rel;&PySem.W.kdl_call (PySem.W.kdl_dict (knd:=jB X.prog X.w) (kvs:=vs) (ep:=ep) hsm) (I.ok.hd hc) hat A6 ?_;intro h' tk acc c kp e hacc;have hk:=aAw (P:=X.prog) (w:=X.w) rel (us:=acc.toList) (by rw[L3];~hacc.1) λj v ej=>hacc.2 j v (by rw[←M8];~ej);~⟨.ref s.heap.objs.size,_,I.laid (t':=tk) kp (C9 _) (show jU X.prog X.w _ h' _ (.lst (kvs.map λkv=>kV kv.1))from⟨by rw[B8];~hz,acc.toList,c,hk,by simpa using e⟩),U,q _ (I.hok.fresh (C9 _))⟩
def rising(ns ms:List Int):Prop:=ms.Perm ns∧ms.Pairwise (·≤·)
B5 QC:mQ X (.builtin "sorted") (λxs H Q=>∃(p:AF)(ns:List Int),xs=[.ref p]∧oU X.K H p (ns.map V.int)∧ns.length<64∧∀l ms,H l=none→rising ns ms→Q (.ref l) (upd H l (.lst (ms.map V.int)))):=by
 intro pins s σ H xs us Q I r h;B3⟨p,ns,rfl,hq,h64,q⟩:=h;B3⟨u,rfl,rx⟩:=vals1 r;cases rx;B3⟨its,rv,pl,hz⟩:=I.list hq;have hlen:=rv.length;rw[B8]at hlen;&sorted_ints pl.isList (intsAre_of rv) A6 λout ns' a1 a2 a3=>?_;B3⟨e,he⟩:=sortedAll_at s.heap its out;have hl2:ns'.length=ns.length:=a2.length_eq;have hs:H (s.heap.objs.size+1)=none:=I.hok.fresh (O5 _);have I2:=I.laid (t':=s.toks) (a:=s.heap.objs.size+1) (o:=.lst (ns'.map V.int)) (h':=sortedAll s.heap its out) (λb o e=>sortedAll_old e) (O5 _)
  ⟨by rw[B8];~P4 (tY A6),out.toList,e,Dg a1,by simpa[IE]using he⟩
 ~⟨.ref _,_,I2,U,q _ _ hs ⟨a2,a3⟩⟩
end
inductive DV where
  | int (i:Int) | non | lst (ds:List DV) | tup (ds:List DV)
mutual
def Reads(K:aG)(H:Hp):DV→V→Prop
 | .int i,x=>x=.int i
 | .non,x=>x=.non
 | .lst ds,x=>∃a xs,x=.ref a∧oU K H a xs∧fG K H ds xs
 | .tup ds,x=>∃a xs,x=.ref a∧xW K H a xs∧fG K H ds xs
def fG(K:aG)(H:Hp):List DV→List V→Prop
 | [],xs=>xs=[]
 | d::ds,xs=>∃y ys,xs=y::ys∧Reads K H d y∧fG K H ds ys
end
mutual
def DV.depth:DV→Nat
 | .int _=>0
 | .non=>0
 | .lst ds=>jG ds+1
 | .tup ds=>jG ds+1
def jG:List DV→Nat
 | []=>0
 | d::ds=>max d.depth (jG ds)
end
B5 fG.length{K:aG}{H:Hp}:∀{ds:List DV} {xs:List V},fG K H ds xs→xs.length=ds.length
 | [],xs,h=>by B4 fG at h;rw[h];rfl
 | d::ds,xs,h=>by B4 fG at h;B3⟨y,ys,rfl,_,h2⟩:=h;simp[fG.length h2]
B5 fG.get{K:aG}{H:Hp}:∀{ds:List DV} {xs:List V} {i:Nat} {d:DV},fG K H ds xs→ds[i]?=NR d→∃x,xs[i]?=NR x∧Reads K H d x
 | [],xs,i,d,h,e=>by simp at e
 | d'::ds,xs,0,d,h,e=>by B4 fG at h;B3⟨y,ys,rfl,h1,_⟩:=h;simp at e;subst e;~⟨y,U,h1⟩
 | d'::ds,xs,i+1,d,h,e=>by B4 fG at h;B3⟨y,ys,rfl,_,h2⟩:=h;B3⟨x,e1,e2⟩:=fG.get h2 (by simpa using e);~⟨x,by simpa using e1,e2⟩
B5 Ri:∀{ds:List DV} {i:Nat} {d:DV},ds[i]?=NR d→d.depth≤jG ds
 | [],i,d,e=>by simp at e
 | d'::ds,0,d,e=>by simp at e;subst e;B4 jG;~Nat.le_max_left _ _
 | d'::ds,i+1,d,e=>by have:=Ri (ds:=ds) (i:=i) (d:=d) (by simpa using e);B4 jG;~G1 this (Nat.le_max_right _ _)
B5 gf(A:AV):A.in1.units=A.units+1:=rfl
section
open SeqAt
open Classical in
noncomputable def Aw(d e:DV):Bool:=decide (d=e)
B5 wM{d e:DV}:Aw d e=NU↔d=e:=by B4 Aw;simp
B5 Ax(d:DV):Aw d d=NU:=wM.mpr U
B5 lK{d e:DV}(h:d≠e):Aw d e=NV:=by B4 Aw;simp[h]
B5 aET(a b:Int):Aw (.int a) (.int b)=(a==b):=by
 by_cases h:a=b
 ·subst h;simp[Ax]
 ·rw[lK (by simpa using h)];simp[h]
open Classical in
B5 qR{ds es:List DV}(hl:ds.length=es.length):((D5 ds.length).all λi=>match ds[i]?,es[i]? with | some d,NR e=>Aw d e | _,_=>NU)=decide (ds=es):=by
 rw[M7,N3,decide_eq_true_iff];constructor
 ·intro h;apply Z7 hl;intro i h1 h2;have:=h i (F7.mpr h1);simp only[B6 h1,B6 h2]at this;~wM.mp this
 ·rintro rfl i hi;have hi':=F7.mp hi;simp only[B6 hi'];~Ax _
variable{X:Cx}{pins:List (AF×Obj)}{σ:St}{H:Hp}{s:AG}
open Classical in
B5 ur(ds es:List DV):Aw (.lst ds) (.lst es)=decide (ds=es):=by
 by_cases h:ds=es
 ·subst h;simp[Ax]
 ·rw[lK (by intro z;cases z;~h U)];simp[h]
open Classical in
B5 uv(ds es:List DV):Aw (.tup ds) (.tup es)=decide (ds=es):=by
 by_cases h:ds=es
 ·subst h;simp[Ax]
 ·rw[lK (by intro z;cases z;~h U)];simp[h]
B5 Xj(I:Inv X pins σ H s):∀(n:Nat)(d e:DV)(x:V),d.depth≤n→Reads X.K H d x→Reads X.K H e x→d=e:=by
 have lists:∀(n:Nat),(∀(d e:DV)(x:V),d.depth≤n→Reads X.K H d x→Reads X.K H e x→d=e)→∀(ds es:List DV)(xs:List V),jG ds≤n→fG X.K H ds xs→fG X.K H es xs→ds=es:=by
  intro n ih ds
  induction ds with
  | nil=>
   intro es xs _ h1 h2;have l1:=h1.length;have l2:=h2.length;cases es with
   | nil=>rfl
   | cons _ _=>rw[l1]at l2;simp at l2
  | cons d ds ihl=>
   intro es xs hd h1 h2;have hd1:d.depth≤n:=by B4 jG at hd;omega
   have hd2:jG ds≤n:=by B4 jG at hd;omega
   B4 fG at h1;B3⟨y,ys,rfl,a1,a2⟩:=h1;cases es with
   | nil=>have:=h2.length;simp at this
   | cons e es=>B4 fG at h2;B3⟨y',ys',q,b1,b2⟩:=h2;cases q;rw[ih d e y hd1 a1 b1,ihl es ys hd2 a2 b2]
 have kinds:∀{a:AF} {xs ys:List V},oU X.K H a xs→xW X.K H a ys→False:=λ{a xs ys} h1 h2=>by B3⟨_,_,p1,_⟩:=I.list h1;B3⟨_,_,p2,_⟩:=I.tuple h2;~ne_of_list_tuple p1.isList (show s.heap.IsTuple a _ from p2) U
 intro n
 induction n with
 | zero=>
  intro d e x hd h1 h2;cases d with
  | int i=>
   B4 Reads at h1;subst h1;cases e with
   | int j=>B4 Reads at h2;cases h2;rfl
   | non=>B4 Reads at h2;cases h2
   | lst es=>B4 Reads at h2;B3⟨_,_,q,_⟩:=h2;cases q
   | tup es=>B4 Reads at h2;B3⟨_,_,q,_⟩:=h2;cases q
  | non=>
   B4 Reads at h1;subst h1;cases e with
   | non=>rfl
   | int j=>B4 Reads at h2;cases h2
   | lst es=>B4 Reads at h2;B3⟨_,_,q,_⟩:=h2;cases q
   | tup es=>B4 Reads at h2;B3⟨_,_,q,_⟩:=h2;cases q
  | lst ds=>B4 DV.depth at hd;omega
  | tup ds=>B4 DV.depth at hd;omega
 | succ n ih=>
  intro d e x hd h1 h2;cases d with
  | int i=>
   B4 Reads at h1;subst h1;cases e with
   | int j=>B4 Reads at h2;cases h2;rfl
   | non=>B4 Reads at h2;cases h2
   | lst es=>B4 Reads at h2;B3⟨_,_,q,_⟩:=h2;cases q
   | tup es=>B4 Reads at h2;B3⟨_,_,q,_⟩:=h2;cases q
  | non=>
   B4 Reads at h1;subst h1;cases e with
   | non=>rfl
   | int j=>B4 Reads at h2;cases h2
   | lst es=>B4 Reads at h2;B3⟨_,_,q,_⟩:=h2;cases q
   | tup es=>B4 Reads at h2;B3⟨_,_,q,_⟩:=h2;cases q
  | lst ds=>
   B4 Reads at h1;B3⟨a,xs,rfl,hq,r⟩:=h1;cases e with
   | int j=>B4 Reads at h2;cases h2
   | non=>B4 Reads at h2;cases h2
   | lst es=>
    B4 Reads at h2;B3⟨b,ys,q,hq2,r2⟩:=h2;cases q;have:=I.Ho hq hq2;subst this;rw[lists n ih ds es xs (by B4 DV.depth at hd;omega) r r2]
   | tup es=>
    B4 Reads at h2;B3⟨b,ys,q,hq2,r2⟩:=h2;cases q;~(kinds hq hq2).elim
  | tup ds=>
   B4 Reads at h1;B3⟨a,xs,rfl,hq,r⟩:=h1;cases e with
   | int j=>B4 Reads at h2;cases h2
   | non=>B4 Reads at h2;cases h2
   | lst es=>
    B4 Reads at h2;B3⟨b,ys,q,hq2,r2⟩:=h2;cases q;~(kinds hq2 hq).elim
   | tup es=>B4 Reads at h2;B3⟨b,ys,q,hq2,r2⟩:=h2;cases q;have:=I.Ww hq hq2;subst this;rw[lists n ih ds es xs (by B4 DV.depth at hd;omega) r r2]
B5 aCb(I:Inv X pins σ H s)(i:Int)(e:DV)(y:V)(u v:AE)(A:AV)(hu:A.units<BG)(r2:Reads X.K H e y)(rx:RelV (.int i) u)(ry:RelV y v):RcAt A s u v (Aw (.int i) e)∧EqAt A s u v (Aw (.int i) e):=by
 B3⟨t,rfl⟩:=rx;cases e with
 | int j=>B4 Reads at r2;subst r2;B3⟨t',rfl⟩:=ry;rw[aET];~⟨RcAt.int_int _ _ _ _,EqAt.int_int _ _ _ _⟩
 | non=>
  B4 Reads at r2;subst r2;cases ry;rw[lK (by intro z;cases z)];~⟨RcAt.int_none _ _,EqAt.int_none _ _⟩
 | lst es=>
  B4 Reads at r2;B3⟨b,ys,rfl,hq,_⟩:=r2;cases ry;B3⟨its,_,pl,_⟩:=I.list hq;rw[lK (by intro z;cases z)];~⟨RcAt.int_list _ _ pl.isList (hu),EqAt.int_list _ _ pl.isList (hu)⟩
 | tup es=>B4 Reads at r2;B3⟨b,ys,rfl,hq,_⟩:=r2;cases ry;B3⟨its,_,pl,_⟩:=I.tuple hq;rw[lK (by intro z;cases z)];~⟨RcAt.int_tuple _ _ pl (hu),EqAt.int_tuple _ _ pl (hu)⟩
B5 aCc(I:Inv X pins σ H s)(e:DV)(y:V)(u v:AE)(A:AV)(hu:A.units<BG)(r2:Reads X.K H e y)(rx:RelV .non u)(ry:RelV y v):RcAt A s u v (Aw .non e)∧EqAt A s u v (Aw .non e):=by
 cases rx;cases e with
 | non=>
  B4 Reads at r2;subst r2;cases ry;rw[Ax];~⟨RcAt.none_none,EqAt.same _⟩
 | int j=>B4 Reads at r2;subst r2;B3⟨t',rfl⟩:=ry;rw[lK (by intro z;cases z)];~⟨RcAt.none_int _ _,EqAt.none_int _ _⟩
 | lst es=>
  B4 Reads at r2;B3⟨b,ys,rfl,hq,_⟩:=r2;cases ry;B3⟨its,_,pl,_⟩:=I.list hq;rw[lK (by intro z;cases z)];~⟨RcAt.none_list pl.isList hu,EqAt.none_list pl.isList hu⟩
 | tup es=>B4 Reads at r2;B3⟨b,ys,rfl,hq,_⟩:=r2;cases ry;B3⟨its,_,pl,_⟩:=I.tuple hq;rw[lK (by intro z;cases z)];~⟨RcAt.none_tuple pl hu,EqAt.none_tuple pl hu⟩
B5 Rj(I:Inv X pins σ H s):∀(n:Nat)(A:AV),(∀(d e:DV)(x y:V)(u v:AE)(A:AV),d.depth≤n→A.units+n<BG→Reads X.K H d x→Reads X.K H e y→RelV x u→RelV y v→RcAt A s u v (Aw d e)∧EqAt A s u v (Aw d e)) →
  ∀(ds es:List DV)(xs ys:List V)(us vs:List AE),jG ds≤n→A.units+(n+1)<BG→fG X.K H ds xs→fG X.K H es ys→Vals xs us→Vals ys vs →
  ∀j (h1:j<us.toArray.size) (h2:j<vs.toArray.size),EqAt A.in1 s us.toArray[j] vs.toArray[j] (match ds[j]?,es[j]? with | some d,NR e=>Aw d e | _,_=>NU):=by
 intro n A ih ds es xs ys us vs hd hu r1 r2 v1 v2 j h1 h2;have l1:j<ds.length:=by rw[←r1.length,v1.length];simpa using h1
 have l2:j<es.length:=by rw[←r2.length,v2.length];simpa using h2
 B3⟨x,ex,rx⟩:=r1.get (i:=j) (d:=ds[j]) (by simp);B3⟨y,ey,ry⟩:=r2.get (i:=j) (d:=es[j]) (by simp);B3⟨u,eu,ru⟩:=v1.get ex;B3⟨v,ev,rv⟩:=v2.get ey;have e1:us.toArray[j]=u:=by rw[D4]at eu;B3⟨_,eu⟩:=eu;simpa using eu
 have e2:vs.toArray[j]=v:=by rw[D4]at ev;B3⟨_,ev⟩:=ev;simpa using ev
 rw[e1,e2];simp only[B6 l1,B6 l2];~(ih _ _ x y u v A.in1 (G1 (Ri (i:=j) (by simp)) hd) (by rw[gf];omega) rx ry ru rv).2
B5 CV(I:Inv X pins σ H s):∀(n:Nat)(d e:DV)(x y:V)(u v:AE)(A:AV),d.depth≤n→A.units+n<BG→Reads X.K H d x→Reads X.K H e y→RelV x u→RelV y v→RcAt A s u v (Aw d e)∧EqAt A s u v (Aw d e):=by
 have items:=Rj I;have seqs:∀(n:Nat)(A:AV),(∀(d e:DV)(x y:V)(u v:AE)(A:AV),d.depth≤n→A.units+n<BG→Reads X.K H d x→Reads X.K H e y→RelV x u→RelV y v→RcAt A s u v (Aw d e)∧EqAt A s u v (Aw d e)) →
   ∀(d e:DV)(x y:V)(u v:AE),d.depth≤n+1→A.units+(n+1)<BG→Reads X.K H d x→Reads X.K H e y→RelV x u→RelV y v→RcAt A s u v (Aw d e)∧EqAt A s u v (Aw d e):=by
  intro n A ih d e x y u v hd hu r1 r2 rx ry;have of_same:∀{a b:AF} {k:Bool},(a=b→k=NU)→RcAt A s (.ref a) (.ref b) k→EqAt A s (.ref a) (.ref b) k:=λ{a b k} hk h=>by
   by_cases hab:a=b
   ·subst hab;rw[hk rfl];~EqAt.same _
   ·~EqAt.of_refs hab h
  cases d with
  | int i=>B4 Reads at r1;subst r1;~aCb I i e y u v A A6 r2 rx ry
  | non=>B4 Reads at r1;subst r1;~aCc I e y u v A A6 r2 rx ry
  | lst ds=>
   B4 Reads at r1;B3⟨a,xs,rfl,hq1,rl1⟩:=r1;cases rx;B3⟨Rk,v1,Vw,_⟩:=I.list hq1;have hd':jG ds≤n:=by B4 DV.depth at hd;omega
   cases e with
   | int j=>B4 Reads at r2;subst r2;B3⟨t',rfl⟩:=ry;rw[lK (by intro z;cases z)];~⟨RcAt.list_int _ _ Vw.isList A6,EqAt.list_int _ _ Vw.isList A6⟩
   | non=>
    B4 Reads at r2;subst r2;cases ry;rw[lK (by intro z;cases z)];~⟨RcAt.list_none Vw.isList A6,EqAt.list_none Vw.isList A6⟩
   | lst es=>
    B4 Reads at r2;B3⟨b,ys,rfl,hq2,gj⟩:=r2;cases ry;B3⟨its2,v2,QD,_⟩:=I.list hq2;have e1:Rk.toArray.size=ds.length:=by rw[D3,←v1.length,rl1.length]
    have e2:its2.toArray.size=es.length:=by rw[D3,←v2.length,gj.length]
    have rc:RcAt A s (.ref a) (.ref b) (Aw (.lst ds) (.lst es)):=by
     by_cases hl:ds.length=es.length
     ·have q:=RcAt.lists (A:=A) (s:=s) Vw.isList QD.isList (by rw[e1,e2];~hl) A6 (items n A ih ds es xs ys Rk its2 hd' hu rl1 gj v1 v2);rw[e1,qR hl]at q;rw[ur];~q
     ·rw[lK (by intro z;cases z;~hl U)];~RcAt.lists_lengths Vw.isList QD.isList (by rw[e1,e2];simpa using hl) A6
    ~⟨rc,of_same (λhab=>by
     subst hab;&wM.mpr (Xj I (n+1) _ _ (.ref a) hd ?_ ?_)
     ·B4 Reads;~⟨a,xs,U,hq1,rl1⟩
     ·B4 Reads;~⟨a,ys,U,hq2,gj⟩) rc⟩
   | tup es=>
    B4 Reads at r2;B3⟨b,ys,rfl,hq2,gj⟩:=r2;cases ry;B3⟨its2,v2,QD,_⟩:=I.tuple hq2;rw[lK (by intro z;cases z)];~⟨RcAt.list_tuple Vw.isList QD A6,EqAt.list_tuple Vw.isList QD A6⟩
  | tup ds=>
   B4 Reads at r1;B3⟨a,xs,rfl,hq1,rl1⟩:=r1;cases rx;B3⟨Rk,v1,Vw,_⟩:=I.tuple hq1;have hd':jG ds≤n:=by B4 DV.depth at hd;omega
   cases e with
   | int j=>B4 Reads at r2;subst r2;B3⟨t',rfl⟩:=ry;rw[lK (by intro z;cases z)];~⟨RcAt.tuple_int _ _ Vw A6,EqAt.tuple_int _ _ Vw A6⟩
   | non=>
    B4 Reads at r2;subst r2;cases ry;rw[lK (by intro z;cases z)];~⟨RcAt.tuple_none Vw A6,EqAt.tuple_none Vw A6⟩
   | lst es=>
    B4 Reads at r2;B3⟨b,ys,rfl,hq2,gj⟩:=r2;cases ry;B3⟨its2,v2,QD,_⟩:=I.list hq2;rw[lK (by intro z;cases z)];~⟨RcAt.tuple_list Vw QD.isList A6,EqAt.tuple_list Vw QD.isList A6⟩
   | tup es=>
    B4 Reads at r2;B3⟨b,ys,rfl,hq2,gj⟩:=r2;cases ry;B3⟨its2,v2,QD,_⟩:=I.tuple hq2;have e1:Rk.toArray.size=ds.length:=by rw[D3,←v1.length,rl1.length]
    have e2:its2.toArray.size=es.length:=by rw[D3,←v2.length,gj.length]
    have rc:RcAt A s (.ref a) (.ref b) (Aw (.tup ds) (.tup es)):=by
     have q:=RcAt.tuples (A:=A) (s:=s) (l:=a) (b:=b) Vw QD A6 (items n A ih ds es xs ys Rk its2 hd' hu rl1 gj v1 v2);rw[e1,e2]at q;by_cases hl:ds.length=es.length
     ·rw[←hl,m7,qR hl]at q;rw[uv];simpa using q
     ·rw[lK (by intro z;cases z;~hl U)];have z:(ds.length==es.length)=NV:=by simpa using hl
      rw[z,i5]at q;~q
    ~⟨rc,of_same (λhab=>by
     subst hab;&wM.mpr (Xj I (n+1) _ _ (.ref a) hd ?_ ?_)
     ·B4 Reads;~⟨a,xs,U,hq1,rl1⟩
     ·B4 Reads;~⟨a,ys,U,hq2,gj⟩) rc⟩
 intro n
 induction n with
 | zero=>
  intro d e x y u v A hd hu r1 r2 rx ry;cases d with
  | int i=>B4 Reads at r1;subst r1;~aCb I i e y u v A A6 r2 rx ry
  | non=>B4 Reads at r1;subst r1;~aCc I e y u v A A6 r2 rx ry
  | lst ds=>B4 DV.depth at hd;omega
  | tup ds=>B4 DV.depth at hd;omega
 | succ n ih=>intro d e x y u v A hd hu r1 r2 rx ry;~seqs n A ih d e x y u v hd hu r1 r2 rx ry
end
section
variable{X:Cx}
def aHI(K:aG)(neg:Bool):R2:=λx y H Q=>∃d e,Reads K H d x∧Reads K H e y∧d.depth≤32∧Q (.bl (if neg then !Aw d e else Aw d e)) H
B5 aHJ(hu:X.A.units+64<BG):vC X (AY .Eq) (aHI X.K NV):=by intro pins s σ H x y v u Q I rx ry h;B3⟨d,e,r1,r2,hd,q⟩:=h;~(CV I 32 d e x y v u X.A hd A6 r1 r2 rx ry).1 X.prog X.w X.xe _ ⟨.bl _,H,I,U,q⟩
open SeqAt in
B5 aHK(hu:X.A.units+64<BG):vC X (AY .NotEq) (λx y H Q=>∃ds es,Reads X.K H (.lst ds) x∧Reads X.K H (.lst es) y∧jG ds≤32∧Q (.bl (!Aw (.lst ds) (.lst es))) H):=by
 intro pins s σ H x y v u Q I rx ry h;B3⟨ds,es,r1,r2,hd,q⟩:=h;B4 Reads at r1 r2;B3⟨a,xs,rfl,hq1,rl1⟩:=r1;B3⟨b,ys,rfl,hq2,gj⟩:=r2;cases rx;cases ry;B3⟨Rk,v1,Vw,_⟩:=I.list hq1;B3⟨its2,v2,QD,_⟩:=I.list hq2;have e1:Rk.toArray.size=ds.length:=by rw[D3,←v1.length,rl1.length]
 have e2:its2.toArray.size=es.length:=by rw[D3,←v2.length,gj.length]
 have rc:RcNeAt X.A s (.ref a) (.ref b) (!Aw (.lst ds) (.lst es)):=by
  by_cases hl:ds.length=es.length
  ·have z:=RcNeAt.lists (A:=X.A) (s:=s) Vw.isList QD.isList (by rw[e1,e2];~hl) A6 (Rj I 32 X.A (λd e x y u v A a1 a2 a3 a4 a5 a6=>CV I 32 d e x y u v A a1 a2 a3 a4 a5 a6) ds es xs ys Rk its2 hd A6 rl1 gj v1 v2);rw[e1,qR hl]at z;rw[ur];~z
  ·rw[lK (by intro z;cases z;~hl U)];~RcNeAt.lists_lengths Vw.isList QD.isList (by rw[e1,e2];simpa using hl) A6
 ~rc X.prog X.w X.xe _ ⟨.bl _,H,I,U,q⟩
end
end L2


namespace L2
open PySem PySem.Spec PyProof.Rows
structure Raw(K:aG)(mg:Str→Option AE)(x:Str)(st:AO):Prop where
 ex:∃f fd,Fun K x x st f fd∧mg x=NR (.ref f)
B5 aHL{K:aG}{h:Heap}{mg:Str→Option AE}{x:Str}{st:AO}{f:AF}{oc:AE}{od an:Option AF}{osl:Array (Option AE)}{kV doc pm cdv ct:AE}(X:K.In h)(G:h.Ns As mg)
  (a:U4 K As x=NR (NR (.ref f))) (l:K.lookup f=NR ⟨oc,od,.func (G5 x x (gA st) (cM st) (aK st) .none kV doc pm an cdv ct),osl⟩)
  (c:L6 K cdv x=NU) (k:K7 K (.ref f)=NU):Raw K mg x st:=⟨⟨f,_,aHG l c k,j9 X G a⟩⟩
structure oF(P:AQ)(w:AS)(K:aG)(mg:Str→Option AE)(base:Heap)(x:Str)(k:Nat)(n:Nat)(sp:Sp):Prop where
 ex:∃f fd ps,ps.length=n∧Ab P w K mg base MJ k f fd ps sp∧Binds K fd ps []∧K7 K (.ref f)=NU∧mg x=NR (.ref f)
B5 Raw.cal{P:AQ}{w:AS}{K:aG}{mg:Str→Option AE}{base:Heap}{x:Str}{st:AO}{N ps:List Str}{k:Nat}{sp:Sp}(R:Raw K mg x st)(S:bA N ps (aK st))(len:∀vs H Q E,sp vs H Q E→vs.length=ps.length)
  (hb:∀(kV doc pm:AE)(an:Option AF)(cdv ct:AE)(us:List AE),us.length=ps.length→EJ (G5 x x (gA st) (cM st) (aK st) .none kV doc pm an cdv ct) ⟨us,[]⟩=pure (ps.zip us))
  (hbody:∀(f:AF)(cdv:AE)(A:AV)(outer:List Env)(s:AG)(H:Hp)(vs:List V)(Q:VK)(E:XK),lB k (A.deeper (CH x (aK st) s.heap.objs.size f cdv))→sp vs H Q E →
   ∃t,NT (Hu MJ P w K mg base N x (aK st) f cdv A outer s H E).sy (cM st) t∧t {nx:=λ_ H'=>Q .non H',rt:=Q} (start N vs) H):oF P w K mg base x (k+1) ps.length sp:=by
 B3⟨f,fd,F,m⟩:=R.ex;~⟨f,fd,ps,U,F.ok S len λcdv A outer s H vs Q E hr h=>hbody f cdv A outer s H vs Q E hr h,F.binds hb,F.kp,m⟩
B5 aCd{X:Cx}{x:Str}{k n:Nat}{sp:Sp}{e:AK}{es:List AK}{p pos:Pos}{t:TA}(C:oF X.prog X.w X.K X.mg X.base x k n sp)(hr:lB k X.A)(hg:Gl X x)
  (ha:PA X (e::es) t) (hdb:OH=NV:=by decide) (he:AJ (e::es) X.env=(NV,AU e X.env)::AJ es X.env:=by rfl) (hpl:(Au pos (AJ es X.env)).any (·.1)=NV:=by rfl) :
  PE X (.Call (.Name x p) (e::es) [] pos) (Wz sp [] E0 t):=by
 B3⟨f,fd,ps,_,F,hb,hk,hm⟩:=C.ex;~aEx F hr hg hm hk hb .nil Xi ha hdb he hpl
B5 call_of{sp:Sp}{E:XK}{t:TA}{σ:St}{H:Hp}{Q:VK}(h:t σ H λvs H1=>sp vs H1 Q E):Wz sp [] E t σ H Q:=by
 B4 Wz;have e:(λ(vs:List V) (H1:Hp)=>sp (vs++[]) H1 Q E)=λvs H1=>sp vs H1 Q E:=by funext vs H1;rw[F0]
 rw[e];~h
B5 cR{H:Hp}{p:AF}(h:H p=none)(o:HO):aW H (upd H p o):=λb u q=>by rw[bQ (iI q h)];~q
B5 aW.tup{K:aG}{H H':Hp}{a:AF}{xs:List V}(e:aW H H')(h:xW K H a xs):xW K H' a xs:=by
 rcases h with (h | ⟨o,h⟩) | h
 ·~.inl (.inl (e _ _ h))
 ·~.inl (.inr ⟨o,e _ _ h⟩)
 ·~.inr h
mutual
B5 aW.reads{K:aG}{H H':Hp}(e:aW H H'):∀(d:DV)(x:V),Reads K H d x→Reads K H' d x
 | .int i,x,h=>by B4 Reads at h ⊢;~h
 | .non,x,h=>by B4 Reads at h ⊢;~h
 | .lst ds,x,h=>by B4 Reads at h ⊢;B3⟨a,xs,r,hq,l⟩:=h;~⟨a,xs,r,e.seq hq,aW.gq e ds xs l⟩
 | .tup ds,x,h=>by B4 Reads at h ⊢;B3⟨a,xs,r,hq,l⟩:=h;~⟨a,xs,r,e.tup hq,aW.gq e ds xs l⟩
B5 aW.gq{K:aG}{H H':Hp}(e:aW H H'):∀(ds:List DV)(xs:List V),fG K H ds xs→fG K H' ds xs
 | [],xs,h=>by B4 fG at h ⊢;~h
 | d::ds,xs,h=>by B4 fG at h ⊢;B3⟨y,ys,r,h1,h2⟩:=h;~⟨y,ys,r,aW.reads e d y h1,aW.gq e ds ys h2⟩
end
B5 Fj:∀ns:List Int,jG (ns.map DV.int)=0
 | []=>by rw[K9];B4 jG;rfl
 | n::ns=>by rw[E2];B4 jG DV.depth;rw[Fj ns];rfl
B5 QF{ns ms:List Int}:ns.map DV.int=ms.map DV.int↔ns=ms:=by
 constructor
 ·intro h;have:∀(a b:Int),DV.int a=DV.int b→a=b:=λa b e=>by cases e;rfl
  ~(List.map_inj_right this).mp h
 ·rintro rfl;rfl
B5 aLD{xs:List V}{k:Int}{v:V}(h0:0≤k)(h:xs[k.toNat]?=NR v):ZX xs k=NR v:=by
 have ek:k=((k.toNat:Nat):Int):=by omega
 rw[ek];~aEC h
B5 aEU(z:Int)(ns:List Int):inV (.int z) (ns.map V.int)=decide (z∈ns):=by
 B4 inV;rw[M7,Q9,decide_eq_true_iff];constructor
 ·rintro⟨v,hv,e⟩
  B3⟨m,hm,rfl⟩:=J4.mp hv;have:m=z:=by simpa[eqV]using e
  subst this;~hm
 ·intro h;~⟨.int z,J4.mpr ⟨z,h,U⟩,by simp[eqV]⟩
B5 aAy(ns:List Int):(ns.map V.int).all An=NU:=by rw[N3];intro v hv;B3⟨m,_,rfl⟩:=J4.mp hv;rfl
def mk(ns:List Int):List (Key×V):=ns.foldl (λkvs n=>putK kvs (G2 n) (V.bl NU)) []
B5 aEV(ns:List Int)(n:Int):mk (ns++[n])=putK (mk ns) (G2 n) (V.bl NU):=by B4 mk;rw[V1];rfl
B5 pI(ns:List Int):(mk ns).length≤ns.length:=by
 have h:∀(l:List Int),(mk l.reverse).length≤l.length:=by
  intro l
  induction l with
  | nil=>~C9 _
  | cons a l ih=>rw[o6,aEV,E3];~G1 (Ao _ _ _) (S7 ih)
 have q:=h ns.reverse;rw[j6,List.length_reverse]at q;~q
end L2
namespace L2
B5 lC.at{scope:PySem.Scope}{N:List PySem.Str}{k:Nat}{fr:List Nat}(MK:PySem.Scope)(oN:List PySem.Str)(h:uo MK scope oN N k fr=NU):lC MK scope oN N k fr:=lC.of h
end L2
namespace L2
open PySem PySem.Spec PyProof.Rows
def wN(H:Hp)(p:AF):Prop:=(∀xs,H p≠NR (.tup xs))∧∀o xs,H p≠NR (.Al o (.tup xs))
B5 tZ{H:Hp}{p:AF}{xs:List V}(h:H p=NR (.lst xs)):wN H p:=⟨λys e=>(by rw[h]at e;cases e),λo ys e=>(by rw[h]at e;cases e)⟩
B5 Rm{H:Hp}{p:AF}{kvs:List (Key×V)}(h:H p=NR (.dK kvs)):wN H p:=⟨λys e=>(by rw[h]at e;cases e),λo ys e=>(by rw[h]at e;cases e)⟩
B5 xW.upd{K:aG}{H:Hp}{a p:AF}{xs:List V}{o:HO}(h:xW K H a xs)(n:wN H p):xW K (upd H p o) a xs:=by
 rcases h with (h | ⟨u,h⟩) | h
 ·~.inl (.inl (by rw[bQ (λz=>n.1 xs (by rw[←z];~h))];~h))
 ·~.inl (.inr ⟨u,by rw[bQ (λz=>n.2 u xs (by rw[←z];~h))];~h⟩)
 ·~.inr h
mutual
def jH:DV→Bool
 | .int _=>NU
 | .non=>NU
 | .lst _=>NV
 | .tup ds=>gR ds
def gR:List DV→Bool
 | []=>NU
 | d::ds=>jH d&&gR ds
end
mutual
B5 aAz{K:aG}{H:Hp}{p:AF}{o:HO}(n:wN H p):∀(d:DV)(x:V),jH d=NU→Reads K H d x→Reads K (upd H p o) d x
 | .int i,x,_,h=>by B4 Reads at h ⊢;~h
 | .non,x,_,h=>by B4 Reads at h ⊢;~h
 | .lst ds,x,hi,h=>by B4 jH at hi;cases hi
 | .tup ds,x,hi,h=>by B4 jH at hi;B4 Reads at h ⊢;B3⟨a,xs,r,hq,l⟩:=h;~⟨a,xs,r,hq.upd n,Rn n ds xs hi l⟩
B5 Rn{K:aG}{H:Hp}{p:AF}{o:HO}(n:wN H p):∀(ds:List DV)(xs:List V),gR ds=NU→fG K H ds xs→fG K (upd H p o) ds xs
 | [],xs,_,h=>by B4 fG at h ⊢;~h
 | d::ds,xs,hi,h=>by B4 gR at hi;rw[J2]at hi;B4 fG at h ⊢;B3⟨y,ys,r,h1,h2⟩:=h;~⟨y,ys,r,aAz n d y hi.1 h1,Rn n ds ys hi.2 h2⟩
end
B5 Hx{n d:Nat}{k:Nat}:HT.Kv n d (NR (k:Int))=min k n:=HT.aEz n d k
end L2
namespace L2
open PySem PySem.Spec PyProof.Rows
section
variable{X:Cx}
end
end L2
namespace L2
open PySem PySem.Spec PyProof.Rows
end L2
namespace L2
open PySem PySem.Spec PyProof.Rows
section
variable{X:Cx}
end
B5 qT:∀{l m:List Int},l.Pairwise (·<·)→m.Pairwise (·<·)→(∀j,j∈l↔j∈m)→l=m
  | [],[],_,_,_=>rfl
  | [],b::m,_,_,h=>absurd ((h b).mpr C8) (by simp)
  | a::l,[],_,_,h=>absurd ((h a).mp C8) (by simp)
  | a::l,b::m,h1,h2,h=>by
    B3⟨h1a,h1b⟩:=F6.mp h1;B3⟨h2a,h2b⟩:=F6.mp h2;have e:a=b:=by
      rcases B9.mp ((h a).mp C8)with q | q
      · ~q
      · rcases B9.mp ((h b).mpr C8)with q' | q'
        · ~q'.symm
        · have:=h2a a q
          have:=h1a b q';omega
    subst e;rw[qT h1b h2b λj=>?_];constructor
    · intro hj
      rcases B9.mp ((h j).mp (C6 _ hj))with q | q
      · have:=h1a j hj
        omega
      · ~q
    · intro hj
      rcases B9.mp ((h j).mpr (C6 _ hj))with q | q
      · have:=h2a j hj
        omega
      · ~q
B5 QG{K:aG}:K4 K (.type "int") (.type "int")=NR NU:=by B4 K4;rfl
B5 Vx{K:aG}:K4 K (.type "bool") (.type "bool")=NR NU:=by B4 K4;rfl
B5 Vy{K:aG}:K4 K (.type "list") (.type "list")=NR NU:=by B4 K4;rfl
B5 Oo{K:aG}:K4 K (.type "tuple") (.type "tuple")=NR NU:=by B4 K4;rfl
B5 CW{K:aG}:K4 K (.type "int") (.type "bool")=NR NV:=by
  first | rfl | decide | (B4 K4 y6;rfl) | (B4 K4 y6;simp;decide)
end L2


namespace L2
open PySem PySem.Spec PyProof.Rows
section
variable{X:Cx}
def Pg(ns:List Int)(m:Int):Prop:=m∈ns∧∀a∈ns,m≤a
B5 Fb(ns:List Int):∀k,k<ns.length→argBest (λi j=>decide (ns.getD i 0<ns.getD j 0)) k≤k∧∀i,i≤k→ns.getD (argBest (λi j=>decide (ns.getD i 0<ns.getD j 0)) k) 0≤ns.getD i 0
 | 0,_=>⟨C9 _,λi hi=>by
  have:i=0:=by omega
  subst this;~g6 _⟩
 | k+1,h=>by
  B3⟨h1,h2⟩:=Fb ns k A6;B4 argBest;split
  ·rename_i c;have c':=of_decide_eq_true c;&⟨C9 _,λi hi=>?_⟩;rcases G4 i (k+1)with q | q
   ·have:=h2 i A6;omega
   ·have:i=k+1:=by omega
    subst this;~g6 _
  ·rename_i c;have c':=of_decide_eq_false (Y7.mpr c);&⟨by omega,λi hi=>?_⟩;rcases G4 i (k+1)with q | q
   ·~h2 i A6
   ·have:i=k+1:=by omega
    subst this;omega
B5 aAA(hc:X.calm=NU):mQ X (.builtin "min") (λxs H Q=>∃(p:AF)(ns:List Int),xs=[.ref p]∧oU X.K H p (ns.map V.int)∧0<ns.length∧∀m,Pg ns m→Q (.int m) H):=by
 intro pins s σ H xs us Q I r h;B3⟨p,ns,rfl,hq,hpos,q⟩:=h;B3⟨u,rfl,rx⟩:=vals1 r;cases rx;B3⟨its,rv,pl,hz⟩:=I.list hq;have hl:=pl.isList;have hlen:=rv.length;rw[B8]at hlen;have hlt:p<s.heap.objs.size:=by B3⟨_,e,_⟩:=hl;~AN e
 have item:∀(i:Nat)(v:AE),its.toArray[i]?=NR v→∃t,v=.int (ns.getD i 0) t∧i<ns.length:=λi v e=>by
  have e':its[i]?=NR v:=by simpa using e
  have hi:=(D4.mp e').1;B3⟨u,eu,ru⟩:=rv.get (i:=i) (x:=.int (ns.getD i 0)) (by rw[C5,B7,B6 A6];rfl);rw[e']at eu;cases eu;B3⟨t,rfl⟩:=ru;~⟨t,U,by omega⟩
 &call_min_walk (DF hl ?_);&⟨s.heap.objs.size,[s.heap.objs.size,p],[s.heap.objs.size],its.toArray.size,_,_,λi j=>decide (ns.getD i 0<ns.getD j 0),U,HC (A:=X.A.in1) (I.ok.hd hc) _ p (F3 hlt) _,
  ⟨⟨_,AR _ U,U,U⟩,hl.push _⟩,λb hb=>?_,by rw[D3];omega,λi j vi vj s' Q' E' hi hj hQ=>?_,λv h' tk hP hk=>?_⟩
 ·show b<(s.heap.push _).objs.size;rw[BE];rcases B9.mp hb with e | hb
  ·rw[e];~N2 _
  ·rw[D2.mp hb];~N8 hlt
 ·B3⟨t1,rfl,_⟩:=item i vi hi;B3⟨t2,rfl,_⟩:=item j vj hj;~HT.aBY _ _ _ _ _ _ _ _ _ _ hQ
 ·B3⟨t,rfl,hi⟩:=item _ v hP;rw[D3,←hlen]at hi ⊢;B3⟨h1,h2⟩:=Fb ns (ns.length-1) A6;&⟨.int _,H,I.kept (CT hk),⟨t,U⟩,q _ ⟨?_,λa ha=>?_⟩⟩
  ·rw[B7,B6 hi];~L0 _
  ·B3⟨i,hi',rfl⟩:=G6 ha;have:=h2 i A6;rw[show ns.getD i 0=ns[i]from by rw[B7,B6 hi'];rfl]at this;~this
open SeqAt in
B5 aHM(hu:X.A.units+64<BG):vC X (AY .NotEq) (λx y H Q=>∃ds es,Reads X.K H (.tup ds) x∧Reads X.K H (.tup es) y∧jG ds≤32∧Q (.bl (!Aw (.tup ds) (.tup es))) H):=by
 intro pins s σ H x y v u Q I rx ry h;B3⟨ds,es,r1,r2,hd,q⟩:=h;B4 Reads at r1 r2;B3⟨a,xs,rfl,hq1,rl1⟩:=r1;B3⟨b,ys,rfl,hq2,gj⟩:=r2;cases rx;cases ry;B3⟨Rk,v1,Vw,_⟩:=I.tuple hq1;B3⟨its2,v2,QD,_⟩:=I.tuple hq2;have e1:Rk.toArray.size=ds.length:=by rw[D3,←v1.length,rl1.length]
 have e2:its2.toArray.size=es.length:=by rw[D3,←v2.length,gj.length]
 have rc:RcNeAt X.A s (.ref a) (.ref b) (!Aw (.tup ds) (.tup es)):=by
  have z:=RcNeAt.tuples (A:=X.A) (s:=s) (l:=a) (b:=b) Vw QD A6 (Rj I 32 X.A (λd e x y u v A a1 a2 a3 a4 a5 a6=>CV I 32 d e x y u v A a1 a2 a3 a4 a5 a6) ds es xs ys Rk its2 hd A6 rl1 gj v1 v2);rw[e1,e2]at z;by_cases hl:ds.length=es.length
  ·rw[←hl,m7,qR hl]at z;rw[uv];simpa using z
  ·rw[lK (by intro z;cases z;~hl U)];have zz:(ds.length==es.length)=NV:=by simpa using hl
   rw[zz,i5]at z;~z
 ~rc X.prog X.w X.xe _ ⟨.bl _,H,I,U,q⟩
end
end L2


namespace L2
open PySem PySem.Spec PyProof.Rows
inductive D where
  | non | bl (b:Bool) | int (i:Int) | str (x:Str)
  | lst (ds:List D) | tup (ds:List D)
  | dk (ks:List Key) (ds:List D)
  | dt (ks:List (List Key)) (ds:List D)
  | ins (C:AF) (nm:List Str) (ds:List D)
abbrev Fp:=AF→Prop
def Apart(A B:Fp):Prop:=∀x,A x→¬B x
def Is(A B:Fp):Prop:=∀x,A x↔B x
def None(A:Fp):Prop:=∀x,¬A x
abbrev gG(A B:Fp):Fp:=λx=>A x∨B x
mutual
def Rv(K:aG)(H:Hp):D→V→Prop
 | .non,v=>v=.non
 | .bl b,v=>v=.bl b
 | .int i,v=>v=.int i
 | .str x,v=>v=.str x
 | .lst ds,v=>∃a xs,v=.ref a∧oU K H a xs∧eO K H ds xs
 | .tup ds,v=>∃a xs,v=.ref a∧xW K H a xs∧eO K H ds xs
 | .dk ks ds,v=>∃a xs,v=.ref a∧Rd H a (.dK (ks.zip xs))∧ks.length=xs.length∧eO K H ds xs
 | .dt ks ds,v=>∃a xs,v=.ref a∧Rd H a (.dT (ks.zip xs))∧ks.length=xs.length∧eO K H ds xs
 | .ins C nm ds,v=>∃a dx xs,v=.ref a∧H a=NR (.ins C dx (nm.zip xs))∧nm.length=xs.length∧eO K H ds xs
def eO(K:aG)(H:Hp):List D→List V→Prop
 | [],xs=>xs=[]
 | d::ds,xs=>∃y ys,xs=y::ys∧Rv K H d y∧eO K H ds ys
end
B5 aW.rd{H H':Hp}(e:aW H H'){a:AF}{u:HO}(h:Rd H a u):Rd H' a u:=by
 rcases h with h | ⟨o,h⟩
 ·~.inl (e _ _ h)
 ·~.inr ⟨o,e _ _ h⟩
mutual
B5 aW.rv{K:aG}{H H':Hp}(e:aW H H'):∀(d:D)(v:V),Rv K H d v→Rv K H' d v
 | .non,v,h=>by B4 Rv at h ⊢;~h
 | .bl _,v,h=>by B4 Rv at h ⊢;~h
 | .int _,v,h=>by B4 Rv at h ⊢;~h
 | .str _,v,h=>by B4 Rv at h ⊢;~h
 | .lst ds,v,h=>by B4 Rv at h ⊢;B3⟨a,xs,r,hq,l⟩:=h;~⟨a,xs,r,e.seq hq,aW.uw e ds xs l⟩
 | .tup ds,v,h=>by B4 Rv at h ⊢;B3⟨a,xs,r,hq,l⟩:=h;~⟨a,xs,r,e.tup hq,aW.uw e ds xs l⟩
 | .dk ks ds,v,h=>by B4 Rv at h ⊢;B3⟨a,xs,r,hq,hl,l⟩:=h;~⟨a,xs,r,e.rd hq,hl,aW.uw e ds xs l⟩
 | .dt ks ds,v,h=>by B4 Rv at h ⊢;B3⟨a,xs,r,hq,hl,l⟩:=h;~⟨a,xs,r,e.rd hq,hl,aW.uw e ds xs l⟩
 | .ins C nm ds,v,h=>by B4 Rv at h ⊢;B3⟨a,dx,xs,r,hq,hl,l⟩:=h;~⟨a,dx,xs,r,e _ _ hq,hl,aW.uw e ds xs l⟩
B5 aW.uw{K:aG}{H H':Hp}(e:aW H H'):∀(ds:List D)(xs:List V),eO K H ds xs→eO K H' ds xs
 | [],xs,h=>by B4 eO at h ⊢;~h
 | d::ds,xs,h=>by B4 eO at h ⊢;B3⟨y,ys,r,h1,h2⟩:=h;~⟨y,ys,r,aW.rv e d y h1,aW.uw e ds ys h2⟩
end
B5 eO.length{K:aG}{H:Hp}:∀{ds:List D} {xs:List V},eO K H ds xs→xs.length=ds.length
 | [],xs,h=>by B4 eO at h;subst h;rfl
 | d::ds,xs,h=>by B4 eO at h;B3⟨y,ys,rfl,_,h2⟩:=h;rw[E3,E3,eO.length h2]
B5 eO.get{K:aG}{H:Hp}:∀{ds:List D} {xs:List V} {i:Nat} {d:D},eO K H ds xs→ds[i]?=NR d→∃x,xs[i]?=NR x∧Rv K H d x
 | [],xs,i,d,h,e=>by simp at e
 | d'::ds,xs,0,d,h,e=>by B4 eO at h;B3⟨y,ys,rfl,h1,_⟩:=h;simp at e;subst e;~⟨y,rfl,h1⟩
 | d'::ds,xs,i+1,d,h,e=>by B4 eO at h;B3⟨y,ys,rfl,_,h2⟩:=h;B3⟨x,e1,e2⟩:=eO.get (i:=i) (d:=d) h2 (by simpa using e);~⟨x,by simpa using e1,e2⟩
B5 eO.of{K:aG}{H:Hp}:∀{ds:List D} {xs:List V},xs.length=ds.length→(∀(i:Nat)(d:D)(x:V),ds[i]?=NR d→xs[i]?=NR x→Rv K H d x)→eO K H ds xs
 | [],xs,hl,_=>by B4 eO;~N1 hl
 | d::ds,[],hl,_=>by simp at hl
 | d::ds,x::xs,hl,h=>by B4 eO;~⟨x,xs,U,h 0 d x U U,eO.of (by simpa using hl) λi e y h1 h2=>h (i+1) e y (by simpa using h1) (by simpa using h2)⟩
def fY{α β:Type}(R:α→Fp→β→Prop):List α→Fp→List β→Prop
 | [],A,ys=>None A∧ys=[]
 | d::ds,A,ys=>∃y yt A1 A2,ys=y::yt∧Apart A1 A2∧Is A (gG A1 A2)∧R d A1 y∧fY R ds A2 yt
section
variable{α β:Type}{R R':α→Fp→β→Prop}
B5 fY.congr:∀{ds:List α} {A A':Fp} {ys:List β},fY R ds A ys→Is A A'→fY R ds A' ys
 | [],A,A',ys,h,e=>⟨λx q=>h.1 x ((e x).mpr q),h.2⟩
 | d::ds,A,A',ys,⟨y,yt,A1,A2,h1,h2,h3,h4⟩,e=>⟨y,yt,A1,A2,h1,h2,λx=>((e x).symm).trans (h3 x),h4⟩
B5 fY.mono:∀{ds:List α} {A:Fp} {ys:List β},fY R ds A ys→(∀e B z,(∀x,B x→A x)→R e B z→R' e B z)→fY R' ds A ys
 | [],A,ys,h,_=>h
 | d::ds,A,ys,⟨y,yt,A1,A2,h1,h2,h3,h4,h5⟩,m=>
  ⟨y,yt,A1,A2,h1,h2,h3,m _ _ _ (λx q=>(h3 x).mpr (.inl q)) h4,h5.mono λe B z hb=>m e B z λx q=>(h3 x).mpr (.inr (hb x q))⟩
B5 fY.len:∀{ds:List α} {A:Fp} {ys:List β},fY R ds A ys→ys.length=ds.length
 | [],A,ys,h=>by rw[h.2];rfl
 | d::ds,A,ys,⟨y,yt,A1,A2,h1,h2,h3,h4,h5⟩=>by rw[h1,E3,E3,h5.len]
B5 fY.focus:∀{ds:List α} {A:Fp} {ys:List β} {i:Nat} {d:α},fY R ds A ys→ds[i]?=NR d→∃y A1 C,ys[i]?=NR y∧Apart A1 C∧Is A (gG A1 C)∧R d A1 y ∧
    ∀(R':α→Fp→β→Prop),(∀e B z,(∀x,B x→C x)→R e B z→R' e B z)→∀d' y' ZZ,Apart ZZ C→R' d' ZZ y'→fY R' (ds.set i d') (gG ZZ C) (ys.set i y')
  | [],A,ys,i,d,h,e=>by simp at e
  | d0::ds,A,ys,0,d,⟨y,yt,A1,A2,h1,h2,h3,h4,h5⟩,e=>by simp at e;subst e h1;~⟨y,A1,A2,U,h2,h3,h4,λR' m d' y' ZZ ap r=>⟨y',yt,ZZ,A2,U,ap,λx=>Iff.rfl,r,h5.mono m⟩⟩
  | d0::ds,A,ys,i+1,d,⟨y,yt,A1,A2,h1,h2,h3,h4,h5⟩,e=>by
    subst h1;B3⟨z,B1,C,e1,ap,hA,r,k⟩:=fY.focus (i:=i) (d:=d) h5 (by simpa using e);&⟨z,B1,gG A1 C,by simpa using e1,?_,?_,r,λR' m d' y' ZZ ap' r'=>?_⟩
    · intro x hx hc
      rcases hc with hc | hc
      · ~h2 x hc ((hA x).mpr (.inl hx))
      · ~ap x hx hc
    · intro x
      rw[h3 x];constructor
      · rintro(q | q)
        · ~.inr (.inl q)
        · rcases(hA x).mp q with q | q
          · ~.inl q
          · ~.inr (.inr q)
      · rintro(q | q | q)
        · ~.inr ((hA x).mpr (.inl q))
        · ~.inl q
        · ~.inr ((hA x).mpr (.inr q))
    · &⟨y,_,A1,gG ZZ C,U,?_,?_,m _ _ _ (λx q=>.inl q) h4,k R' (λe B z hb=>m e B z λx q=>.inr (hb x q)) d' y' ZZ (λx q q'=>ap' x q (.inr q')) r'⟩
      · intro x q q'
        rcases q' with q' | q'
        · ~ap' x q' (.inl q)
        · ~h2 x q ((hA x).mpr (.inr q'))
      · intro x
        show (ZZ x∨A1 x∨C x)↔(A1 x∨ZZ x∨C x)
        constructor
        · rintro(q | q | q)
          · ~.inr (.inl q)
          · ~.inl q
          · ~.inr (.inr q)
        · rintro(q | q | q)
          · ~.inr (.inl q)
          · ~.inl q
          · ~.inr (.inr q)
B5 fY.snoc:∀{ds:List α} {A A1:Fp} {ys:List β} {d:α} {y:β},fY R ds A ys→R d A1 y→Apart A A1→fY R (ds++[d]) (gG A A1) (ys++[y])
 | [],A,A1,ys,d,y,h,r,ap=>by rw[h.2];~⟨y,[],A1,λ_=>False,U,λ_ _ z=>z,λx=>⟨λq=>q.elim (λq=>absurd q (h.1 x)) .inl,λq=>q.elim .inr False.elim⟩,r,λ_ z=>z,U⟩
 | d0::ds,A,A1,ys,d,y,⟨y0,yt,B1,B2,h1,h2,h3,h4,h5⟩,r,ap=>by
  subst h1;&⟨y0,yt++[y],B1,gG B2 A1,U,?_,?_,h4,fY.snoc h5 r λx q=>ap x ((h3 x).mpr (.inr q))⟩
  ·intro x q q';rcases q' with q' | q'
   ·~h2 x q q'
   ·~ap x ((h3 x).mpr (.inl q)) q'
  ·intro x;show (A x∨A1 x)↔(B1 x∨B2 x∨A1 x)
   rw[h3 x];~or_assoc
end
mutual
def Ow(K:aG)(H:Hp):D→Fp→V→Prop
 | .non,A,v=>None A∧v=.non
 | .bl b,A,v=>None A∧v=.bl b
 | .int i,A,v=>None A∧v=.int i
 | .str x,A,v=>None A∧v=.str x
 | .lst ds,A,v=>∃a xs B,v=.ref a∧H a=NR (.lst xs)∧¬B a∧Is A (gG (·=a) B)∧eQ K H ds B xs
 | .tup ds,A,v=>∃a xs,v=.ref a∧xW K H a xs∧eQ K H ds A xs
 | .dk ks ds,A,v=>∃a xs B,v=.ref a∧H a=NR (.dK (ks.zip xs))∧ks.length=xs.length∧¬B a∧Is A (gG (·=a) B)∧eQ K H ds B xs
 | .dt ks ds,A,v=>∃a xs B,v=.ref a∧H a=NR (.dT (ks.zip xs))∧ks.length=xs.length∧¬B a∧Is A (gG (·=a) B)∧eQ K H ds B xs
 | .ins C nm ds,A,v=>∃a dx xs B,v=.ref a∧H a=NR (.ins C dx (nm.zip xs))∧H dx=NR (.own a)∧nm.length=xs.length∧¬B a∧¬B dx∧Is A (gG (λx=>x=a∨x=dx) B)∧eQ K H ds B xs
def eQ(K:aG)(H:Hp):List D→Fp→List V→Prop
 | [],A,ys=>None A∧ys=[]
 | d::ds,A,ys=>∃y yt A1 A2,ys=y::yt∧Apart A1 A2∧Is A (gG A1 A2)∧Ow K H d A1 y∧eQ K H ds A2 yt
end
B5 cQ{K:aG}{H:Hp}:∀{ds:List D} {A:Fp} {ys:List V},eQ K H ds A ys↔fY (Ow K H) ds A ys
 | [],A,ys=>by B4 eQ fY;~Iff.rfl
 | d::ds,A,ys=>by
  B4 eQ fY;constructor
  ·rintro⟨y,yt,A1,A2,h1,h2,h3,h4,h5⟩;~⟨y,yt,A1,A2,h1,h2,h3,h4,cQ.mp h5⟩
  ·rintro⟨y,yt,A1,A2,h1,h2,h3,h4,h5⟩;~⟨y,yt,A1,A2,h1,h2,h3,h4,cQ.mpr h5⟩
def Fq(K:aG)(H H':Hp):Prop:=∀a xs,xW K H a xs→xW K H' a xs
B5 aW.tk{K:aG}{H H':Hp}(e:aW H H'):Fq K H H':=λ_ _ h=>e.tup h
B5 Ow.congr{K:aG}{H:Hp}{d:D}{A A':Fp}{v:V}(h:Ow K H d A v)(e:Is A A'):Ow K H d A' v:=by
 cases d with
 | non=>B4 Ow at h ⊢;~⟨λx q=>h.1 x ((e x).mpr q),h.2⟩
 | bl b=>B4 Ow at h ⊢;~⟨λx q=>h.1 x ((e x).mpr q),h.2⟩
 | int b=>B4 Ow at h ⊢;~⟨λx q=>h.1 x ((e x).mpr q),h.2⟩
 | str b=>B4 Ow at h ⊢;~⟨λx q=>h.1 x ((e x).mpr q),h.2⟩
 | lst ds=>B4 Ow at h ⊢;B3⟨a,xs,B,h1,h2,h3,h4,h5⟩:=h;~⟨a,xs,B,h1,h2,h3,λx=>(e x).symm.trans (h4 x),h5⟩
 | tup ds=>B4 Ow at h ⊢;B3⟨a,xs,h1,h2,h3⟩:=h;~⟨a,xs,h1,h2,cQ.mpr ((cQ.mp h3).congr e)⟩
 | dk ks ds=>B4 Ow at h ⊢;B3⟨a,xs,B,h1,h2,h2',h3,h4,h5⟩:=h;~⟨a,xs,B,h1,h2,h2',h3,λx=>(e x).symm.trans (h4 x),h5⟩
 | dt ks ds=>B4 Ow at h ⊢;B3⟨a,xs,B,h1,h2,h2',h3,h4,h5⟩:=h;~⟨a,xs,B,h1,h2,h2',h3,λx=>(e x).symm.trans (h4 x),h5⟩
 | ins C nm ds=>B4 Ow at h ⊢;B3⟨a,dx,xs,B,h1,h2,h2',h3,h3',h3'',h4,h5⟩:=h;~⟨a,dx,xs,B,h1,h2,h2',h3,h3',h3'',λx=>(e x).symm.trans (h4 x),h5⟩
mutual
B5 Ow.frame{K:aG}{H H':Hp}(t:Fq K H H'):∀(d:D)(A:Fp)(v:V),Ow K H d A v→(∀a,A a→H' a=H a)→Ow K H' d A v
 | .non,A,v,h,f=>by B4 Ow at h ⊢;~h
 | .bl _,A,v,h,f=>by B4 Ow at h ⊢;~h
 | .int _,A,v,h,f=>by B4 Ow at h ⊢;~h
 | .str _,A,v,h,f=>by B4 Ow at h ⊢;~h
 | .lst ds,A,v,h,f=>by B4 Ow at h ⊢;B3⟨a,xs,B,h1,h2,h3,h4,h5⟩:=h;~⟨a,xs,B,h1,(f a ((h4 a).mpr (.inl U))).trans h2,h3,h4,eQ.frame t ds B xs h5 λb q=>f b ((h4 b).mpr (.inr q))⟩
 | .tup ds,A,v,h,f=>by B4 Ow at h ⊢;B3⟨a,xs,h1,h2,h3⟩:=h;~⟨a,xs,h1,t _ _ h2,eQ.frame t ds A xs h3 f⟩
 | .dk ks ds,A,v,h,f=>by B4 Ow at h ⊢;B3⟨a,xs,B,h1,h2,h2',h3,h4,h5⟩:=h;~⟨a,xs,B,h1,(f a ((h4 a).mpr (.inl U))).trans h2,h2',h3,h4,eQ.frame t ds B xs h5 λb q=>f b ((h4 b).mpr (.inr q))⟩
 | .dt ks ds,A,v,h,f=>by B4 Ow at h ⊢;B3⟨a,xs,B,h1,h2,h2',h3,h4,h5⟩:=h;~⟨a,xs,B,h1,(f a ((h4 a).mpr (.inl U))).trans h2,h2',h3,h4,eQ.frame t ds B xs h5 λb q=>f b ((h4 b).mpr (.inr q))⟩
 | .ins C nm ds,A,v,h,f=>by B4 Ow at h ⊢;B3⟨a,dx,xs,B,h1,h2,h2',h3,h3',h3'',h4,h5⟩:=h;~⟨a,dx,xs,B,h1,(f a ((h4 a).mpr (.inl (.inl U)))).trans h2,(f dx ((h4 dx).mpr (.inl (.inr U)))).trans h2',h3,h3',h3'',h4,eQ.frame t ds B xs h5 λb q=>f b ((h4 b).mpr (.inr q))⟩
B5 eQ.frame{K:aG}{H H':Hp}(t:Fq K H H'):∀(ds:List D)(A:Fp)(ys:List V),eQ K H ds A ys→(∀a,A a→H' a=H a)→eQ K H' ds A ys
 | [],A,ys,h,f=>by B4 eQ at h ⊢;~h
 | d::ds,A,ys,h,f=>by B4 eQ at h ⊢;B3⟨y,yt,A1,A2,h1,h2,h3,h4,h5⟩:=h;~⟨y,yt,A1,A2,h1,h2,h3,Ow.frame t d A1 y h4 λb q=>f b ((h3 b).mpr (.inl q)),eQ.frame t ds A2 yt h5 λb q=>f b ((h3 b).mpr (.inr q))⟩
end
mutual
B5 Ow.rv{K:aG}{H:Hp}:∀(d:D)(A:Fp)(v:V),Ow K H d A v→Rv K H d v
 | .non,A,v,h=>by B4 Ow at h;B4 Rv;~h.2
 | .bl _,A,v,h=>by B4 Ow at h;B4 Rv;~h.2
 | .int _,A,v,h=>by B4 Ow at h;B4 Rv;~h.2
 | .str _,A,v,h=>by B4 Ow at h;B4 Rv;~h.2
 | .lst ds,A,v,h=>by B4 Ow at h;B4 Rv;B3⟨a,xs,B,h1,h2,h3,h4,h5⟩:=h;~⟨a,xs,h1,oU.of h2,eQ.rv ds B xs h5⟩
 | .tup ds,A,v,h=>by B4 Ow at h;B4 Rv;B3⟨a,xs,h1,h2,h3⟩:=h;~⟨a,xs,h1,h2,eQ.rv ds A xs h3⟩
 | .dk ks ds,A,v,h=>by B4 Ow at h;B4 Rv;B3⟨a,xs,B,h1,h2,h2',h3,h4,h5⟩:=h;~⟨a,xs,h1,.inl h2,h2',eQ.rv ds B xs h5⟩
 | .dt ks ds,A,v,h=>by B4 Ow at h;B4 Rv;B3⟨a,xs,B,h1,h2,h2',h3,h4,h5⟩:=h;~⟨a,xs,h1,.inl h2,h2',eQ.rv ds B xs h5⟩
 | .ins C nm ds,A,v,h=>by B4 Ow at h;B4 Rv;B3⟨a,dx,xs,B,h1,h2,h2',h3,h3',h3'',h4,h5⟩:=h;~⟨a,dx,xs,h1,h2,h3,eQ.rv ds B xs h5⟩
B5 eQ.rv{K:aG}{H:Hp}:∀(ds:List D)(A:Fp)(ys:List V),eQ K H ds A ys→eO K H ds ys
 | [],A,ys,h=>by B4 eQ at h;B4 eO;~h.2
 | d::ds,A,ys,h=>by B4 eQ at h;B4 eO;B3⟨y,yt,A1,A2,h1,h2,h3,h4,h5⟩:=h;~⟨y,yt,h1,Ow.rv d A1 y h4,eQ.rv ds A2 yt h5⟩
end
def oG(H:Hp)(a:AF):Prop:=(∃o,H a=NR o)∧wN H a
mutual
B5 Ow.cells{K:aG}{H:Hp}:∀(d:D)(A:Fp)(v:V),Ow K H d A v→∀a,A a→oG H a
 | .non,A,v,h,a,q=>by B4 Ow at h;~absurd q (h.1 a)
 | .bl _,A,v,h,a,q=>by B4 Ow at h;~absurd q (h.1 a)
 | .int _,A,v,h,a,q=>by B4 Ow at h;~absurd q (h.1 a)
 | .str _,A,v,h,a,q=>by B4 Ow at h;~absurd q (h.1 a)
 | .lst ds,A,v,h,a,q=>by
  B4 Ow at h;B3⟨p,xs,B,h1,h2,h3,h4,h5⟩:=h
  rcases(h4 a).mp q with z | z
  ·cases z;~⟨⟨_,h2⟩,tZ h2⟩
  ·~eQ.cells ds B xs h5 a z
 | .tup ds,A,v,h,a,q=>by B4 Ow at h;B3⟨p,xs,h1,h2,h3⟩:=h;~eQ.cells ds A xs h3 a q
 | .dk ks ds,A,v,h,a,q=>by
  B4 Ow at h;B3⟨p,xs,B,h1,h2,h2',h3,h4,h5⟩:=h
  rcases(h4 a).mp q with z | z
  ·cases z;~⟨⟨_,h2⟩,Rm h2⟩
  ·~eQ.cells ds B xs h5 a z
 | .dt ks ds,A,v,h,a,q=>by
  B4 Ow at h;B3⟨p,xs,B,h1,h2,h2',h3,h4,h5⟩:=h
  rcases(h4 a).mp q with z | z
  ·cases z;~⟨⟨_,h2⟩,λys e=>(by rw[h2]at e;cases e),λo ys e=>(by rw[h2]at e;cases e)⟩
  ·~eQ.cells ds B xs h5 a z
 | .ins C nm ds,A,v,h,a,q=>by
  B4 Ow at h;B3⟨p,dx,xs,B,h1,h2,h2',h3,h3',h3'',h4,h5⟩:=h
  rcases(h4 a).mp q with (z | z) | z
  ·cases z;~⟨⟨_,h2⟩,λys e=>(by rw[h2]at e;cases e),λo ys e=>(by rw[h2]at e;cases e)⟩
  ·cases z;~⟨⟨_,h2'⟩,λys e=>(by rw[h2']at e;cases e),λo ys e=>(by rw[h2']at e;cases e)⟩
  ·~eQ.cells ds B xs h5 a z
B5 eQ.cells{K:aG}{H:Hp}:∀(ds:List D)(A:Fp)(ys:List V),eQ K H ds A ys→∀a,A a→oG H a
 | [],A,ys,h,a,q=>by B4 eQ at h;~absurd q (h.1 a)
 | d::ds,A,ys,h,a,q=>by
  B4 eQ at h;B3⟨y,yt,A1,A2,h1,h2,h3,h4,h5⟩:=h
  rcases(h3 a).mp q with z | z
  ·~Ow.cells d A1 y h4 a z
  ·~eQ.cells ds A2 yt h5 a z
end
mutual
def D.jH:D→Bool
  | .non=>NU | .bl _=>NU | .int _=>NU | .str _=>NU
  | .tup ds=>D.gR ds
  | _=>NV
def D.gR:List D→Bool
  | []=>NU
  | d::ds=>D.jH d&&D.gR ds
end
abbrev nil:Fp:=λ_=>False
mutual
B5 Ay{K:aG}{H:Hp}:∀(d:D)(v:V),d.jH=NU→Rv K H d v→Ow K H d nil v
 | .non,v,_,h=>by B4 Rv at h;B4 Ow;~⟨λ_ z=>z,h⟩
 | .bl _,v,_,h=>by B4 Rv at h;B4 Ow;~⟨λ_ z=>z,h⟩
 | .int _,v,_,h=>by B4 Rv at h;B4 Ow;~⟨λ_ z=>z,h⟩
 | .str _,v,_,h=>by B4 Rv at h;B4 Ow;~⟨λ_ z=>z,h⟩
 | .tup ds,v,i,h=>by B4 D.jH at i;B4 Rv at h;B4 Ow;B3⟨a,xs,h1,h2,h3⟩:=h;~⟨a,xs,h1,h2,yD ds xs i h3⟩
 | .lst ds,v,i,h=>by B4 D.jH at i;cases i
 | .dk _ ds,v,i,h=>by B4 D.jH at i;cases i
 | .dt _ ds,v,i,h=>by B4 D.jH at i;cases i
 | .ins _ _ ds,v,i,h=>by B4 D.jH at i;cases i
B5 yD{K:aG}{H:Hp}:∀(ds:List D)(ys:List V),D.gR ds=NU→eO K H ds ys→eQ K H ds nil ys
 | [],ys,_,h=>by B4 eO at h;B4 eQ;~⟨λ_ z=>z,h⟩
 | d::ds,ys,i,h=>by B4 D.gR at i;rw[J2]at i;B4 eO at h;B4 eQ;B3⟨y,yt,h1,h2,h3⟩:=h;~⟨y,yt,nil,nil,h1,λ_ z _=>z,λx=>⟨False.elim,λz=>z.elim id id⟩,Ay d y i.1 h2,yD ds yt i.2 h3⟩
end
open Classical in
noncomputable def out(H:Hp)(A:Fp):Hp:=λa=>if A a then none else H a
B5 aHN{H:Hp}{A:Fp}{a:AF}(h:¬A a):out H A a=H a:=by B4 out;rw[if_neg h]
B5 bF{H:Hp}{A:Fp}{a:AF}{o:HO}:out H A a=NR o↔¬A a∧H a=NR o:=by
 B4 out;split
 ·rename_i h;~⟨λz=>(by cases z),λz=>absurd h z.1⟩
 ·rename_i h;~⟨λz=>⟨h,z⟩,λz=>z.2⟩
B5 jA(H:Hp)(A:Fp):aW (out H A) H:=λb o h=>(bF.mp h).2
B5 Ro{K:aG}{H:Hp}{A:Fp}(h:∀a,A a→wN H a):Fq K H (out H A):=λa xs q=>by
 rcases q with (q | ⟨o,q⟩) | q
 ·~.inl (.inl (bF.mpr ⟨λz=>(h a z).1 _ q,q⟩))
 ·~.inl (.inr ⟨o,bF.mpr ⟨λz=>(h a z).2 _ _ q,q⟩⟩)
 ·~.inr q
B5 Ow.out{K:aG}{H:Hp}{d:D}{A A':Fp}{v:V}(h:Ow K H d A' v)(ap:Apart A' A)(c:∀a,A a→wN H a):Rv K (out H A) d v:=
 Ow.rv d A' v (Ow.frame (Ro c) d A' v h λa q=>aHN (ap a q))
end L2


namespace L2
open PySem PySem.Spec PyProof.Rows
abbrev DE:=List (Option D)
abbrev FE:=DE→Option D
abbrev FA:=DE→Option (List D)
abbrev FT:=DE→Option Bool
def yE(K:aG)(H:Hp)(e:DE)(σ:St):Prop:=∀(i:Nat)(d:D),e[i]?=NR (NR d)→∃v,σ[i]?=NR (NR v)∧Rv K H d v
B5 yE.same{K:aG}{H H':Hp}{e:DE}{σ:St}(h:yE K H e σ)(s:aW H H'):yE K H' e σ:=λi d q=>let ⟨v,h1,h2⟩:=h i d q;⟨v,h1,s.rv _ _ h2⟩
structure Zn(K:aG)(N:Fp)(Z H:Hp):Prop where
 sm:aW Z H
 tk:Fq K H Z
 no:∀a,N a→Z a=none∧¬H a=none
B5 Zn.self(K:aG)(H:Hp):Zn K nil H H:=⟨aW.refl _,λ_ _ h=>h,λ_ z=>z.elim⟩
B5 Fq.trans{K:aG}{H H1 H2:Hp}(a:Fq K H H1)(b:Fq K H1 H2):Fq K H H2:=λp xs h=>b p xs (a p xs h)
B5 Ow.same{K:aG}{H H':Hp}{d:D}{A:Fp}{v:V}(h:Ow K H d A v)(s:aW H H'):Ow K H' d A v:=
 Ow.frame s.tk d A v h λa q=>by B3⟨⟨o,e⟩,_⟩:=Ow.cells d A v h a q;rw[e];~s a o e
B5 eQ.same{K:aG}{H H':Hp}{ds:List D}{A:Fp}{vs:List V}(h:eQ K H ds A vs)(s:aW H H'):eQ K H' ds A vs:=
 eQ.frame s.tk ds A vs h λa q=>by B3⟨⟨o,e⟩,_⟩:=eQ.cells ds A vs h a q;rw[e];~s a o e
def Rp(K:aG)(H H':Hp)(d:D)(v:V):Prop:=∃A,Ow K H' d A v∧∀a,A a→H a=none
def Vz(K:aG)(H H':Hp)(ds:List D)(vs:List V):Prop:=∃A,eQ K H' ds A vs∧∀a,A a→H a=none
B5 Rp.rv{K:aG}{H H':Hp}{d:D}{v:V}(h:Rp K H H' d v):Rv K H' d v:=let ⟨A,o,_⟩:=h;Ow.rv d A v o
B5 Vz.rv{K:aG}{H H':Hp}{ds:List D}{vs:List V}(h:Vz K H H' ds vs):eO K H' ds vs:=let ⟨A,o,_⟩:=h;eQ.rv ds A vs o
B5 Rp.same{K:aG}{H H' H2:Hp}{d:D}{v:V}(h:Rp K H H' d v)(s:aW H' H2):Rp K H H2 d v:=let ⟨A,o,f⟩:=h;⟨A,o.same s,f⟩
B5 Rp.back{K:aG}{H0 H H':Hp}{d:D}{v:V}(h:Rp K H H' d v)(s:aW H0 H):Rp K H0 H' d v:=let ⟨A,o,f⟩:=h;⟨A,o,λa q=>s.free (f a q)⟩
B5 Rp.jH{K:aG}{H H':Hp}{d:D}{v:V}(i:d.jH=NU)(h:Rv K H' d v):Rp K H H' d v:=⟨nil,Ay d v i h,λ_ z=>z.elim⟩
B5 Vz.gR{K:aG}{H H':Hp}{ds:List D}{vs:List V}(i:D.gR ds=NU)(h:eO K H' ds vs):Vz K H H' ds vs:=⟨nil,yD ds vs i h,λ_ z=>z.elim⟩
open Classical in
noncomputable def CZ(Z H H':Hp):Hp:=λa=>if H a=none then H' a else Z a
B5 Hy{Z H H':Hp}{a:AF}(h:H a=none):CZ Z H H' a=H' a:=by B4 CZ;rw[if_pos h]
B5 Rq{Z H H':Hp}{a:AF}(h:¬H a=none):CZ Z H H' a=Z a:=by B4 CZ;rw[if_neg h]
B5 La{K:aG}{N:Fp}{Z H H':Hp}(z:Zn K N Z H):aW Z (CZ Z H H'):=λb o e=>by rw[Rq (by rw[z.sm b o e];intro q;cases q)];~e
B5 DG{K:aG}{N:Fp}{Z H H':Hp}(z:Zn K N Z H)(s:aW H H'):Zn K N (CZ Z H H') H' where
  sm:=λb o e=>by
    by_cases c:H b=none
    · rw[Hy c]at e;~e
    · rw[Rq c]at e;~s b o (z.sm b o e)
  tk:=λa xs h=>by
    by_cases c:H a=none
    · rcases h with (h | ⟨o,h⟩) | h
      · ~.inl (.inl (by rw[Hy c];~h))
      · ~.inl (.inr ⟨o,by rw[Hy c];~h⟩)
      · ~.inr h
    · have q:xW K H a xs:=by
        rcases h with (h | ⟨o,h⟩) | h
        · cases e:H a with
          | none=>~absurd e c
          | some o=>have:=s a o e;rw[h]at this;cases this;~.inl (.inl e)
        · cases e:H a with
          | none=>~absurd e c
          | some o=>have:=s a o e;rw[h]at this;cases this;~.inl (.inr ⟨_,e⟩)
        · ~.inr h
      ~(La z).tup (z.tk a xs q)
  no:=λa q=>⟨by rw[Rq (z.no a q).2];~(z.no a q).1,λh=>(z.no a q).2 (s.free h)⟩
B5 Rp.zone{K:aG}{N:Fp}{Z H H':Hp}{d:D}{v:V}(h:Rp K H H' d v)(z:Zn K N Z H)(s:aW H H'):Rv K (CZ Z H H') d v:=by B3⟨A,o,f⟩:=h;~Ow.rv d A v (Ow.frame (DG z s).tk d A v o λa q=>Hy (f a q))
def Ko(K:aG)(t:TE)(f:FE):Prop:=∀{N:Fp}(σ:St)(H Z:Hp)(e:DE)(d:D)(Q:VK),Zn K N Z H→yE K Z e σ→f e=NR d →
 (∀v H' Z',aW H H'→aW Z Z'→Zn K N Z' H'→Rv K Z' d v→Q v H')→t σ H Q
def Nq(K:aG)(t:TE)(f:FE):Prop:=∀(σ:St)(H:Hp)(e:DE)(d:D)(Q:VK),yE K H e σ→f e=NR d →
 (∀v H',aW H H'→Rp K H H' d v→Q v H')→t σ H Q
def aj(K:aG)(t:TT)(f:FT):Prop:=∀(σ:St)(H:Hp)(e:DE)(b:Bool)(Q:Bool→Hp→Prop),yE K H e σ→f e=NR b→(∀H',aW H H'→Q b H')→t σ H Q
def EvA(K:aG)(t:TA)(f:FA):Prop:=∀{N:Fp}(σ:St)(H Z:Hp)(e:DE)(ds:List D)(Q:List V→Hp→Prop),Zn K N Z H→yE K Z e σ→f e=NR ds →
 (∀vs H' Z',aW H H'→aW Z Z'→Zn K N Z' H'→eO K Z' ds vs→Q vs H')→t σ H Q
def EvB(K:aG)(t:TA)(f:FA):Prop:=∀(σ:St)(H:Hp)(e:DE)(ds:List D)(Q:List V→Hp→Prop),yE K H e σ→f e=NR ds →
 (∀vs H',aW H H'→Vz K H H' ds vs→Q vs H')→t σ H Q
B5 Nq.r{K:aG}{t:TE}{f:FE}(h:Nq K t f):Ko K t f:=λσ H Z e d Q z r q k=>
 h σ H e d Q (r.same z.sm) q λv H' s n=>k v H' (CZ Z H H') s (La z) (DG z s) (n.zone z s)
def cL(f:FE):FE:=λe=>(f e).bind λd=>if d.jH=NU then NR d else none
B5 Xk{f:FE}{e:DE}{d:D}:cL f e=NR d↔f e=NR d∧d.jH=NU:=by
 B4 cL;cases q:f e with
 | none=>simp
 | some a=>
  simp only[C4];split
  ·rename_i h;constructor
   ·intro z;cases z;~⟨U,h⟩
   ·rintro⟨z,_⟩;~z
  ·rename_i h;constructor
   ·intro z;cases z
   ·rintro⟨z,z2⟩;cases z;~absurd z2 h
B5 Ko.n{K:aG}{t:TE}{f:FE}(h:Ko K t f):Nq K t (cL f):=λσ H e d Q r q k=>by B3⟨q1,q2⟩:=Xk.mp q;~h σ H H e d Q OW r q1 λv H' Z' s1 s2 z' rv=>k v H' s1 (.jH q2 (z'.sm.rv _ _ rv))
def aD(i:Nat):FE:=λe=>(e[i]?).getD none
B5 aHQ{K:aG}(i:Nat):Ko K (qM i) (aD i):=λσ H Z e d Q z r q k=>by
 have e1:e[i]?=NR (NR d):=by
  B4 aD at q;cases h:e[i]? with
  | none=>rw[h]at q;cases q
  | some o=>rw[h]at q;cases q;rfl
 B3⟨v,h1,h2⟩:=r i d e1;~⟨v,h1,k v H Z OC OC z h2⟩
def fC(d:D):FE:=λ_=>NR d
B5 aCe{K:aG}(i:Int):Nq K (tC (.int i)) (fC (.int i)):=λσ H e d Q r q k=>by cases q;~k _ H OC OB
B5 aJQ{K:aG}(i:Bool):Nq K (tC (.bl i)) (fC (.bl i)):=λσ H e d Q r q k=>by cases q;~k _ H OC OB
B5 aHR{K:aG}:Nq K (tC .non) (fC .non):=λσ H e d Q r q k=>by cases q;~k _ H OC OB
B5 aHS{K:aG}(i:Str):Nq K (tC (.str i)) (fC (.str i)):=λσ H e d Q r q k=>by cases q;~k _ H OC OB
def f2(φ:D→D→Option D)(f g:FE):FE:=λe=>(f e).bind λa=>(g e).bind λb=>φ a b
B5 Ph{φ:D→D→Option D}{f g:FE}{e:DE}{d:D}(h:f2 φ f g e=NR d):∃a b,f e=NR a∧g e=NR b∧φ a b=NR d:=by B4 f2 at h;B3⟨a,h1,h2⟩:=aZ h;B3⟨b,h3,h4⟩:=aZ h2;~⟨a,b,h1,h3,h4⟩
def OpD(K:aG)(r:R2)(φ:D→D→Option D):Prop:=∀{N:Fp}(x y:V)(H Z:Hp)(a b d:D)(Q:VK),Zn K N Z H→Rv K Z a x→Rv K Z b y→φ a b=NR d →
 (∀v H' Z',aW H H'→aW Z Z'→Zn K N Z' H'→Rv K Z' d v→Q v H')→r x y H Q
def MN(K:aG)(r:R2)(φ:D→D→Option D):Prop:=∀(x y:V)(H:Hp)(a b d:D)(Q:VK),Rv K H a x→Rv K H b y→φ a b=NR d →
 (∀v H',aW H H'→Rp K H H' d v→Q v H')→r x y H Q
B5 aJR{K:aG}{r:R2}{φ:D→D→Option D}{ta tb:TE}{f g:FE}(o:OpD K r φ)(ha:Ko K ta f)(hb:Ko K tb g):Ko K (OD r ta tb) (f2 φ f g):=λσ H Z e d Q z re q k=>by B3⟨a,b,h1,h2,h3⟩:=Ph q;&ha σ H Z e a _ z re h1 λx H1 Z1 s1 t1 z1 rx=>hb σ H1 Z1 e b _ z1 (re.same t1) h2 λy H2 Z2 s2 t2 z2 ry=>?_;~o x y H2 Z2 a b d Q z2 (t2.rv _ _ rx) ry h3 λv H3 Z3 s3 t3 z3 rv=>k v H3 Z3 (s1.trans (s2.trans s3)) (t1.trans (t2.trans t3)) z3 rv
B5 aCf{K:aG}{r:R2}{φ:D→D→Option D}{ta tb:TE}{f g:FE}(o:MN K r φ)(ha:Ko K ta f)(hb:Ko K tb g):Nq K (OD r ta tb) (f2 φ f g):=λσ H e d Q re q k=>by B3⟨a,b,h1,h2,h3⟩:=Ph q;&ha σ H H e a _ OW re h1 λx H1 Z1 s1 t1 z1 rx=>hb σ H1 Z1 e b _ z1 (re.same t1) h2 λy H2 Z2 s2 t2 z2 ry=>?_;~o x y H2 a b d Q (z2.sm.rv _ _ (t2.rv _ _ rx)) (z2.sm.rv _ _ ry) h3 λv H3 s3 n=>k v H3 (s1.trans (s2.trans s3)) (n.back OS)
def Pj(C:Int→Int→Prop) [∀i j,Decidable (C i j)] (g:Int→Int→D):D→D→Option D
 | .int i,.int j=>if C i j then NR (g i j)else none
 | _,_=>none
B5 Rr{C:Int→Int→Prop} [∀i j,Decidable (C i j)] {g:Int→Int→D} {a b d:D} (h:Pj C g a b=NR d):∃i j,a=.int i∧b=.int j∧C i j∧d=g i j:=by
 B4 Pj at h;split at h
 ·split at h
  ·rename_i i j c;cases h;~⟨i,j,U,U,c,U⟩
  ·cases h
 ·cases h
B5 DK{K:aG}{C:Int→Int→Prop} [∀i j,Decidable (C i j)] {C':Int→Int→Prop} (hC:∀i j,C i j→C' i j) {g:Int→Int→Int}:MN K (rI C' λi j=>.int (g i j)) (Pj C λi j=>.int (g i j)):=λx y H a b d Q ra rb q k=>by B3⟨i,j,rfl,rfl,c,rfl⟩:=Rr q;B4 Rv at ra rb;~⟨i,j,ra,rb,hC i j c,k _ H OC OB⟩
B5 aEW{K:aG}{g:Int→Int→Int}:MN K (rI0 λi j=>.int (g i j)) (Pj (λ_ _=>True) λi j=>.int (g i j)):=λx y H a b d Q ra rb q k=>by B3⟨i,j,rfl,rfl,c,rfl⟩:=Rr q;B4 Rv at ra rb;~⟨i,j,ra,rb,k _ H OC OB⟩
B5 iJ{K:aG}{g:Int→Int→Bool}:MN K (rI0 λi j=>.bl (g i j)) (Pj (λ_ _=>True) λi j=>.bl (g i j)):=λx y H a b d Q ra rb q k=>by B3⟨i,j,rfl,rfl,c,rfl⟩:=Rr q;B4 Rv at ra rb;~⟨i,j,ra,rb,k _ H OC OB⟩
def aL:FA:=λ_=>NR []
def aB(f:FE)(fs:FA):FA:=λe=>(f e).bind λa=>(fs e).bind λr=>NR (a::r)
B5 Nr{f:FE}{fs:FA}{e:DE}{ds:List D}(h:aB f fs e=NR ds):∃a r,f e=NR a∧fs e=NR r∧ds=a::r:=by B4 aB at h;B3⟨a,h1,h2⟩:=aZ h;B3⟨b,h3,h4⟩:=aZ h2;cases h4;~⟨a,b,h1,h3,U⟩
B5 aCg{K:aG}:EvA K oX aL:=λσ H Z e ds Q z re q k=>by cases q;~k [] H Z OC OC z (by B4 eO;rfl)
B5 aEX{K:aG}{te:TE}{t:TA}{f:FE}{fs:FA}(h:Ko K te f)(hs:EvA K t fs):EvA K (dF te t) (aB f fs):=λσ H Z e ds Q z re q k=>by B3⟨a,r,h1,h2,rfl⟩:=Nr q;&h σ H Z e a _ z re h1 λx H1 Z1 s1 t1 z1 rx=>hs σ H1 Z1 e r _ z1 (re.same t1) h2 λvs H2 Z2 s2 t2 z2 rs=>?_;~k _ H2 Z2 OS (t1.trans t2) z2 (by B4 eO;~⟨x,vs,U,t2.rv _ _ rx,rs⟩)
B5 aHT{K:aG}:EvB K oX aL:=λσ H e ds Q re q k=>by cases q;~k [] H OC (.gR U (by B4 eO;rfl))
B5 aEY{K:aG}{te:TE}{t:TA}{f:FE}{fs:FA}(h:Nq K te f)(hs:EvB K t fs):EvB K (dF te t) (aB f fs):=λσ H e ds Q re q k=>by B3⟨a,r,h1,h2,rfl⟩:=Nr q;&h σ H e a _ re h1 λx H1 s1 n1=>hs σ H1 e r _ (re.same s1) h2 λvs H2 s2 n2=>?_;&k _ H2 OS ?_;B3⟨A,oA,fA⟩:=n1;B3⟨B,oB,fB⟩:=n2;&⟨gG A B,?_,λp q=>q.elim (fA p) λz=>s1.free (fB p z)⟩;B4 eQ;&⟨x,vs,A,B,U,λp qa qb=>?_,λ_=>Iff.rfl,oA.same s2,oB⟩;B3⟨⟨o,e1⟩,_⟩:=Ow.cells _ _ _ oA p qa;rw[fB p qb]at e1;cases e1
def cap(n:Nat)(d:D):Option D:=if n≤100000 then NR d else none
B5 Ru{n:Nat}{d d':D}(h:cap n d=NR d'):n≤100000∧d'=d:=by
 B4 cap at h;split at h
 ·rename_i c;cases h;~⟨c,U⟩
 ·cases h
B5 Xl{n:Nat}(h:n≤100000):n≤sizeLine:=by rw[Fu];omega
B5 Nt{n:Nat}(h:n≤100000):n<sizeLine:=by rw[Fu];omega
def mR(fs:FA):FE:=λe=>(fs e).bind λds=>cap ds.length (.lst ds)
def wO(fs:FA):FE:=λe=>(fs e).bind λds=>cap ds.length (.tup ds)
B5 vD{K:aG}{H H1:Hp}{ds:List D}{xs:List V}{p:AF}(s:aW H H1)(n:Vz K H H1 ds xs)(hp:H1 p=none):Rp K H (upd H1 p (.lst xs)) (.lst ds) (.ref p):=by B3⟨A,o,f⟩:=n;&⟨gG (·=p) A,?_,λa q=>q.elim (λz=>by cases z;~s.free hp) (f a)⟩;B4 Ow;&⟨p,xs,A,U,cA,λz=>?_,λ_=>Iff.rfl,o.same (cR hp _)⟩;B3⟨⟨u,e⟩,_⟩:=eQ.cells _ _ _ o p z;rw[hp]at e;cases e
B5 ux{K:aG}{H H1:Hp}{ds:List D}{xs:List V}{p:AF}(n:Vz K H H1 ds xs)(hp:H1 p=none):Rp K H (upd H1 p (.tup xs)) (.tup ds) (.ref p):=by B3⟨A,o,f⟩:=n;&⟨A,?_,f⟩;B4 Ow;~⟨p,xs,U,xW.of cA,o.same (cR hp _)⟩
B5 aHU{K:aG}{t:TA}{fs:FA}(h:EvB K t fs):Nq K (aBT t) (mR fs):=λσ H e d Q re q k=>by
 B4 mR at q;B3⟨ds,h1,h2⟩:=aZ q;B3⟨hc,rfl⟩:=Ru h2;&h σ H e ds _ re h1 λxs H1 s1 n=>⟨Xl (by rw[n.rv.length];~hc),λp hp=>?_⟩
 ~k _ _ (s1.trans (cR hp _)) (vD s1 n hp)
B5 aHV{K:aG}{t:TA}{fs:FA}(h:EvB K t fs):Nq K (PJ t) (wO fs):=λσ H e d Q re q k=>by
 B4 wO at q;B3⟨ds,h1,h2⟩:=aZ q;B3⟨hc,rfl⟩:=Ru h2;&h σ H e ds _ re h1 λxs H1 s1 n=>⟨Xl (by rw[n.rv.length];~hc),λp hp=>?_⟩
 ~k _ _ (s1.trans (cR hp _)) (ux n hp)
B5 aCh{K:aG}{N:Fp}{Z H:Hp}{p:AF}{o:HO}(z:Zn K N Z H)(hp:H p=none):aW Z (upd Z p o)∧Zn K N (upd Z p o) (upd H p o):=by
 have hz:Z p=none:=z.sm.free hp;&⟨cR hz o,⟨λb u e=>?_,λa xs h=>?_,λa q=>?_⟩⟩
 ·by_cases c:b=p
  ·subst c;rw[cA]at e;rw[cA];~e
  ·rw[bQ c]at e;rw[bQ c];~z.sm b u e
 ·by_cases c:a=p
  ·subst c;rcases h with (h | ⟨u,h⟩) | h
   ·rw[cA]at h;~.inl (.inl (by rw[cA];~h))
   ·rw[cA]at h;~.inl (.inr ⟨u,by rw[cA];~h⟩)
   ·~.inr h
  ·have q:xW K H a xs:=by
    rcases h with (h | ⟨u,h⟩) | h
    ·rw[bQ c]at h;~.inl (.inl h)
    ·rw[bQ c]at h;~.inl (.inr ⟨u,h⟩)
    ·~.inr h
   ~(cR hz o).tup (z.tk a xs q)
 ·have c:a≠p:=λz'=>(z.no a q).2 (by rw[z'];~hp);rw[bQ c,bQ c];~z.no a q
B5 aHW{K:aG}{t:TA}{fs:FA}(h:EvA K t fs):Ko K (aBT t) (mR fs):=λσ H Z e d Q z re q k=>by
 B4 mR at q;B3⟨ds,h1,h2⟩:=aZ q;B3⟨hc,rfl⟩:=Ru h2;&h σ H Z e ds _ z re h1 λxs H1 Z1 s1 t1 z1 rs=>⟨Xl (by rw[rs.length];~hc),λp hp=>?_⟩
 B3⟨a1,a2⟩:=aCh (o:=.lst xs) z1 hp;~k _ _ _ (s1.trans (cR hp _)) (t1.trans a1) a2 (by B4 Rv;~⟨p,xs,U,oU.of cA,a1.uw _ _ rs⟩)
end L2


namespace L2
open PySem PySem.Spec PyProof.Rows
structure XR(K:aG)(X:Cx)(e:AK)(t:TE)(f:FE):Prop where
 hk:X.K=K
 pe:PE X e t
 ev:Ko K t f
structure XN(K:aG)(X:Cx)(e:AK)(t:TE)(f:FE):Prop where
 hk:X.K=K
 pe:PE X e t
 ev:Nq K t f
structure XT(K:aG)(X:Cx)(e:AK)(t:TT)(f:FT):Prop where
 hk:X.K=K
 pt:PT X e t
 ev:aj K t f
structure XW(K:aG)(X:Cx)(e:AK)(t:TT)(f:FT):Prop where
 hk:X.K=K
 pw:PW X e t
 ev:aj K t f
structure XA(K:aG)(X:Cx)(es:List AK)(t:TA)(f:FA):Prop where
 hk:X.K=K
 pa:PA X es t
 ev:EvA K t f
structure XB(K:aG)(X:Cx)(es:List AK)(t:TA)(f:FA):Prop where
 hk:X.K=K
 pa:PA X es t
 ev:EvB K t f
section
variable{K:aG}{X:Cx}{e a b c:AK}{es:List AK}{t ta tb:TE}{f g:FE}{tA:TA}{fs:FA}{pos:Pos}
B5 XN.r(h:XN K X e t f):XR K X e t f:=⟨h.hk,h.pe,h.ev.r⟩
B5 XR.n(h:XR K X e t f):XN K X e t (cL f):=⟨h.hk,h.pe,Ko.n h.ev⟩
B5 aH{i:Nat}(h:PE X e (qM i))(hk:X.K=K:=by rfl):XR K X e (qM i) (aD i):=⟨hk,h,aHQ i⟩
B5 aM{i:Int}{j:Nat}(hk:X.K=K:=by rfl):XN K X (.Constant (.int i) j pos) (tC (.int i)) (fC (.int i)):=⟨hk,aG5,aCe i⟩
B5 uF{i:Bool}{j:Nat}(hk:X.K=K:=by rfl):XN K X (.Constant (.bool i) j pos) (tC (.bl i)) (fC (.bl i)):=⟨hk,aJp,aJQ i⟩
B5 yF{j:Nat}(hk:X.K=K:=by rfl):XN K X (.Constant .none j pos) (tC .non) (fC .non):=⟨hk,aG6,aHR⟩
B5 gr{x:Str}{j:Nat}(hk:X.K=K:=by rfl):XN K X (.Constant (.str x) j pos) (tC (.str x)) (fC (.str x)):=⟨hk,aG7,aHS x⟩
B5 Xm{op:Operator}{r:R2}{φ:D→D→Option D}(ho:vC X (ED op) r)(hd:MN K r φ)(ha:XR K X a ta f)(hb:XR K X b tb g):XN K X (.BinOp a op b pos) (OD r ta tb) (f2 φ f g):=⟨ha.hk,aJA ho ha.pe hb.pe,aCf hd ha.ev hb.ev⟩
def Az:D→D→Option D:=Pj (λ_ _=>True) λi j=>.int (i-j)
instance (i j:Int):Decidable (Vs i j):=by B4 Vs;~inferInstance
instance (i j:Int):Decidable (aAi i j):=by B4 aAi;~inferInstance
instance (i j:Int):Decidable (aAj i j):=by B4 aAj;~inferInstance
def sZ:D→D→Option D:=Pj Vs λi j=>.int (i*j)
def rR:D→D→Option D:=Pj aAi λi j=>.int (i/j)
def gH:D→D→Option D:=Pj (λ_ j=>0<j) λi j=>.int (i%j)
def Ek:D→D→Option D:=Pj aAj λi j=>.int (i ^ j.toNat)
B5 uG(ha:XR K X a ta f)(hb:XR K X b tb g):XN K X (.BinOp a .Sub b pos) (OD (rI0 λi j=>.int (i-j)) ta tb) (f2 Az f g):=Xm aHn aEW ha hb
B5 mG(ha:XR K X a ta f)(hb:XR K X b tb g):XN K X (.BinOp a .Mult b pos) (OD (rI Vs λi j=>.int (i*j)) ta tb) (f2 sZ f g):=Xm aHo (DK λ_ _ h=>h) ha hb
B5 mU(ha:XR K X a ta f)(hb:XR K X b tb g):XN K X (.BinOp a .FloorDiv b pos) (OD (rI aAi λi j=>.int (i/j)) ta tb) (f2 rR f g):=Xm aEs (DK λ_ _ h=>h) ha hb
B5 bV(ha:XR K X a ta f)(hb:XR K X b tb g):XN K X (.BinOp a .Mod b pos) (OD (rI (λ_ j=>0<j) λi j=>.int (i%j)) ta tb) (f2 gH f g):=Xm aHp (DK λ_ _ h=>h) ha hb
B5 wA(ha:XR K X a ta f)(hb:XR K X b tb g):XN K X (.BinOp a .Pow b pos) (OD (rI aAj λi j=>.int (i ^ j.toNat)) ta tb) (f2 Ek f g):=Xm aHq (DK λ_ _ h=>h) ha hb
B5 yG{op:EH}{r:R2}{φ:D→D→Option D}(ho:vC X (AY op) r)(hd:MN K r φ)(ha:XR K X a ta f)(hb:XR K X b tb g)(hm:behindInMarks op b=NV):XN K X (.Compare a [op] [b] pos) (OD r ta tb) (f2 φ f g):=⟨ha.hk,aEt ho ha.pe hb.pe hm,aCf hd ha.ev hb.ev⟩
def fB(f:FE):FT:=λe=>(f e).bind λd=>match d with | .bl b=>NR b | _=>none
B5 Hz{f:FE}{e:DE}{b:Bool}(h:fB f e=NR b):f e=NR (.bl b):=by
 B4 fB at h;B3⟨d,h1,h2⟩:=aZ h;split at h2
 ·cases h2;~h1
 ·cases h2
B5 aEZ(h:Ko K t f):aj K (PB t) (fB f):=λσ H e b Q re q k=>h σ H H e _ _ OW re (Hz q) λv H' Z' s1 s2 z rv=>by B4 Rv at rv;~⟨b,rv,k H' s1⟩
B5 aGp(h:Ko K t f):aj K (tB t) (fB f):=λσ H e b Q re q k=>h σ H H e _ _ OW re (Hz q) λv H' Z' s1 s2 z rv=>by B4 Rv at rv;~⟨b,rv,k H' s1⟩
B5 dB{op:EH}{r:R2}{φ:D→D→Option D}(ho:vC X (AY op) r)(hd:MN K r φ)(ha:XR K X a ta f)(hb:XR K X b tb g)(hm:behindInMarks op b=NV):XT K X (.Compare a [op] [b] pos) (PB (OD r ta tb)) (fB (f2 φ f g)):=⟨ha.hk,aEu ho ha.pe hb.pe hm,aEZ (aCf hd ha.ev hb.ev).r⟩
B5 Ba(h:XR K X e t f)(he:∀whole,HZ e X.env whole=(do let v ←whole;EK e.pos;DI [v] (truthy v)):=by intro _;rfl):XT K X e (tB t) (fB f):=⟨h.hk,aG9 h.pe he,aGp h.ev⟩
def gw:D→D→Option D:=Pj (λ_ _=>True) λi j=>.bl (decide (i<j))
def QH:D→D→Option D:=Pj (λ_ _=>True) λi j=>.bl (decide (i≤j))
def dGt:D→D→Option D:=Pj (λ_ _=>True) λi j=>.bl (decide (j<i))
def dGe:D→D→Option D:=Pj (λ_ _=>True) λi j=>.bl (decide (j≤i))
def toV:D→Option V
  | .non=>NR .non | .bl b=>NR (.bl b) | .int i=>NR (.int i) | .str x=>NR (.str x)
  | _=>none
B5 Ft{H:Hp}{d:D}{v x:V}(h:toV d=NR v)(r:Rv K H d x):x=v:=by cases d<;>B4 toV at h<;>first | (cases h;B4 Rv at r;~r) | cases h
mutual
def lU:D→Option DV
 | .int i=>NR (.int i)
 | .non=>NR .non
 | .lst ds=>(vG ds).map DV.lst
 | .tup ds=>(vG ds).map DV.tup
 | _=>none
def vG:List D→Option (List DV)
 | []=>NR []
 | d::ds=>(lU d).bind λx=>(vG ds).bind λxs=>NR (x::xs)
end
mutual
B5 yH{H:Hp}:∀(d:D)(x:DV)(v:V),lU d=NR x→Rv K H d v→Reads K H x v
 | .int i,x,v,h,r=>by B4 lU at h;cases h;B4 Rv at r;B4 Reads;~r
 | .lst ds,x,v,h,r=>by B4 lU at h;B3⟨xs,h1,rfl⟩:=kJ h;B4 Rv at r;B4 Reads;B3⟨a,vs,r1,r2,r3⟩:=r;~⟨a,vs,r1,r2,Rx ds xs vs h1 r3⟩
 | .tup ds,x,v,h,r=>by B4 lU at h;B3⟨xs,h1,rfl⟩:=kJ h;B4 Rv at r;B4 Reads;B3⟨a,vs,r1,r2,r3⟩:=r;~⟨a,vs,r1,r2,Rx ds xs vs h1 r3⟩
 | .non,x,v,h,r=>by B4 lU at h;cases h;B4 Rv at r;B4 Reads;~r
 | .bl _,x,v,h,r=>by B4 lU at h;cases h
 | .str _,x,v,h,r=>by B4 lU at h;cases h
 | .dk _ _,x,v,h,r=>by B4 lU at h;cases h
 | .dt _ _,x,v,h,r=>by B4 lU at h;cases h
 | .ins _ _ _,x,v,h,r=>by B4 lU at h;cases h
B5 Rx{H:Hp}:∀(ds:List D)(xs:List DV)(vs:List V),vG ds=NR xs→eO K H ds vs→fG K H xs vs
 | [],xs,vs,h,r=>by B4 vG at h;cases h;B4 eO at r;B4 fG;~r
 | d::ds,xs,vs,h,r=>by B4 vG at h;B3⟨x,h1,h2⟩:=aZ h;B3⟨xt,h3,h4⟩:=aZ h2;cases h4;B4 eO at r;B4 fG;B3⟨y,ys,r1,r2,r3⟩:=r;~⟨y,ys,r1,yH d x y h1 r2,Rx ds xt ys h3 r3⟩
end
mutual
B5 aCi:∀(d e:D)(x:DV),lU d=NR x→lU e=NR x→d=e
 | .int i,e,x,h,h'=>by
  B4 lU at h;cases h;cases e<;>B4 lU at h'<;>first | (cases h';rfl) | cases h' | (B3⟨xs,q1,q2⟩:=kJ h';cases q2)
 | .lst ds,e,x,h,h'=>by
  B4 lU at h;B3⟨xs,h1,rfl⟩:=kJ h;cases e with
  | lst es=>B4 lU at h';B3⟨ys,q1,q2⟩:=kJ h';cases q2;rw[Lb ds es xs h1 q1]
  | tup es=>B4 lU at h';B3⟨ys,q1,q2⟩:=kJ h';cases q2
  | _=>B4 lU at h';cases h'
 | .tup ds,e,x,h,h'=>by
  B4 lU at h;B3⟨xs,h1,rfl⟩:=kJ h;cases e with
  | tup es=>B4 lU at h';B3⟨ys,q1,q2⟩:=kJ h';cases q2;rw[Lb ds es xs h1 q1]
  | lst es=>B4 lU at h';B3⟨ys,q1,q2⟩:=kJ h';cases q2
  | _=>B4 lU at h';cases h'
 | .non,e,x,h,h'=>by
  B4 lU at h;cases h;cases e<;>B4 lU at h'<;>first | (cases h';rfl) | cases h' | (B3⟨xs,q1,q2⟩:=kJ h';cases q2)
 | .bl _,e,x,h,h'=>by B4 lU at h;cases h
 | .str _,e,x,h,h'=>by B4 lU at h;cases h
 | .dk _ _,e,x,h,h'=>by B4 lU at h;cases h
 | .dt _ _,e,x,h,h'=>by B4 lU at h;cases h
 | .ins _ _ _,e,x,h,h'=>by B4 lU at h;cases h
B5 Lb:∀(ds es:List D)(xs:List DV),vG ds=NR xs→vG es=NR xs→ds=es
 | [],[],xs,h,h'=>rfl
 | [],e::es,xs,h,h'=>by
  B4 vG at h h';cases h;B3⟨x,h1,h2⟩:=aZ h';B3⟨xt,h3,h4⟩:=aZ h2;cases h4
 | d::ds,[],xs,h,h'=>by
  B4 vG at h h';cases h';B3⟨x,h1,h2⟩:=aZ h;B3⟨xt,h3,h4⟩:=aZ h2;cases h4
 | d::ds,e::es,xs,h,h'=>by B4 vG at h h';B3⟨x,h1,h2⟩:=aZ h;B3⟨xt,h3,h4⟩:=aZ h2;cases h4;B3⟨y,k1,k2⟩:=aZ h';B3⟨yt,k3,k4⟩:=aZ k2;cases k4;rw[aCi d e x h1 k1,Lb ds es xt h3 k3]
end
noncomputable def Fv(a b:D):Option D:=match toV a,toV b with
 | some x,NR y=>if aAk x y=NU then NR (.bl (decide (x=y)))else none
 | _,_=>match lU a,lU b with
  | some x,NR y=>if x.depth≤32 then NR (.bl (Aw x y))else none
  | _,_=>none
B5 sW:MN K (λx y H Q=>rEq x y H Q∨aHI K NV x y H Q) Fv:=λx y H a b d Q ra rb q k=>by
 B4 Fv at q;split at q
 ·rename_i u v h1 h2;split at q
  ·rename_i hs;cases q;rw[Ft h1 ra,Ft h2 rb];~.inl ⟨hs,k _ H OC OB⟩
  ·cases q
 ·split at q
  ·rename_i u v h1 h2;split at q
   ·rename_i hs;cases q;~.inr ⟨u,v,yH a u x h1 ra,yH b v y h2 rb,hs,k _ H OC OB⟩
   ·cases q
  ·cases q
noncomputable def ak(a b:D):Option D:=match toV a,toV b with
 | some x,NR y=>if aAk x y=NU then NR (.bl (!decide (x=y)))else none
 | _,_=>match lU a,lU b with
  | some (.lst x),NR (.lst y)=>if jG x≤32 then NR (.bl (!Aw (.lst x) (.lst y)))else none
  | some (.tup x),NR (.tup y)=>if jG x≤32 then NR (.bl (!Aw (.tup x) (.tup y)))else none
  | _,_=>none
def aJS(K:aG):R2:=λx y H Q=>rNe x y H Q∨(∃ds es,Reads K H (.lst ds) x∧Reads K H (.lst es) y∧jG ds≤32∧Q (.bl (!Aw (.lst ds) (.lst es))) H)∨(∃ds es,Reads K H (.tup ds) x∧Reads K H (.tup es) y∧jG ds≤32∧Q (.bl (!Aw (.tup ds) (.tup es))) H)
B5 Xn:MN K (aJS K) ak:=λx y H a b d Q ra rb q k=>by
 B4 ak at q;split at q
 ·rename_i u v h1 h2;split at q
  ·rename_i hs;cases q;rw[Ft h1 ra,Ft h2 rb];~.inl ⟨hs,k _ H OC OB⟩
  ·cases q
 ·split at q
  ·rename_i u v h1 h2;split at q
   ·rename_i hs;cases q;~.inr (.inl ⟨u,v,yH a _ x h1 ra,yH b _ y h2 rb,hs,k _ H OC OB⟩)
   ·cases q
  ·rename_i u v h1 h2;split at q
   ·rename_i hs;cases q;~.inr (.inr ⟨u,v,yH a _ x h1 ra,yH b _ y h2 rb,hs,k _ H OC OB⟩)
   ·cases q
  ·cases q
B5 or_eq(hu:X.A.units+64<BG)(hk:X.K=K):vC X (AY .Eq) (λx y H Q=>rEq x y H Q∨aHI K NV x y H Q):=by subst hk;~aJD.or (aHJ hu)
B5 Xo(hu:X.A.units+64<BG)(hk:X.K=K):vC X (AY .NotEq) (aJS K):=by subst hk;~aJE.or ((aHK hu).or (aHM hu))
def QJ:List D→Option (List V)
 | []=>NR []
 | d::ds=>(toV d).bind λx=>(QJ ds).bind λxs=>NR (x::xs)
B5 uy{H:Hp}:∀{ds:List D} {vs xs:List V},QJ ds=NR vs→eO K H ds xs→xs=vs
 | [],vs,xs,h,r=>by B4 QJ at h;cases h;B4 eO at r;~r
 | d::ds,vs,xs,h,r=>by B4 QJ at h;B3⟨x,h1,h2⟩:=aZ h;B3⟨xt,h3,h4⟩:=aZ h2;cases h4;B4 eO at r;B3⟨y,ys,rfl,r2,r3⟩:=r;rw[Ft h1 r2,uy h3 r3]
def Ac:D→Option (List D)
 | .lst ds=>NR ds
 | .tup ds=>NR ds
 | _=>none
B5 Pk{H:Hp}{d:D}{ds:List D}{v:V}(h:Ac d=NR ds)(r:Rv K H d v):∃p xs,v=.ref p∧(oU K H p xs∨xW K H p xs)∧eO K H ds xs:=by
 cases d with
 | lst es=>B4 Ac at h;cases h;B4 Rv at r;B3⟨p,xs,r1,r2,r3⟩:=r;~⟨p,xs,r1,.inl r2,r3⟩
 | tup es=>B4 Ac at h;cases h;B4 Rv at r;B3⟨p,xs,r1,r2,r3⟩:=r;~⟨p,xs,r1,.inr r2,r3⟩
 | _=>B4 Ac at h;cases h
def dIn(neg:Bool)(a b:D):Option D:=(toV a).bind λx=>(Ac b).bind λds=>(QJ ds).bind λxs=>if An x=NU∧xs.all An=NU then NR (.bl (if neg then !inV x xs else inV x xs))else none
B5 aGq(neg:Bool):MN K (rIn K neg) (dIn neg):=λx y H a b d Q ra rb q k=>by
 B4 dIn at q;B3⟨u,h1,q⟩:=aZ q;B3⟨ds,h2,q⟩:=aZ q;B3⟨us,h3,q⟩:=aZ q;split at q
 ·rename_i c;cases q;B3⟨p,xs,rfl,r2,r3⟩:=Pk h2 rb;have:=uy h3 r3;subst this;rw[Ft h1 ra];~⟨p,xs,U,r2,c.1,c.2,k _ H OC OB⟩
 ·cases q
B5 QK(hk:X.K=K):vC X (AY .NotIn) (rIn K NU):=by subst hk;~CG
end
section
variable{κ:Type} [DecidableEq κ] {K:aG} {H:Hp}
def posK:List κ→κ→Option Nat
 | [],_=>none
 | a::ks,k=>if a=k then NR 0 else(posK ks k).map (·+1)
B5 uH:∀{ks:List κ} {xs:List V} {k:κ},ks.length=xs.length→xZ (ks.zip xs) k=(posK ks k).bind λj=>xs[j]?
 | [],xs,k,h=>by B4 posK;rfl
 | a::ks,[],k,h=>by simp at h
 | a::ks,x::xs,k,h=>by
  have ih:=uH (ks:=ks) (xs:=xs) (k:=k) (by simpa using h);B4 posK;rw[R7];B4 xZ at ih ⊢;rw[P8];by_cases c:a=k
  ·rw[if_pos c,decide_eq_true c];rfl
  ·rw[if_neg c,decide_eq_false c];show Option.map _ (List.find? _ (ks.zip xs))=_;rw[ih];cases posK ks k<;>rfl
B5 tD:∀{ks:List κ} {k:κ} {j:Nat},posK ks k=NR j→j<ks.length∧ks[j]?=NR k
 | [],k,j,h=>by B4 posK at h;cases h
 | a::ks,k,j,h=>by
  B4 posK at h;split at h
  ·rename_i c;cases h;~⟨by simp,by simp[c]⟩
  ·B3⟨i,h1,rfl⟩:=kJ h;B3⟨a1,a2⟩:=tD h1;~⟨by simpa using a1,by simpa using a2⟩
B5 Dh:∀{ks:List κ} {k:κ},posK ks k=none↔k∉ks
  | [],k=>by B4 posK;simp
  | a::ks,k=>by
    B4 posK;have ih:=Dh (ks:=ks) (k:=k);split
    · rename_i c;simp[c]
    · rename_i c
      rw[g7,ih,B9];constructor
      · rintro h (q | q)
        · ~c q.symm
        · ~h q
      · intro h q;~h (.inr q)
def mH(ks:List κ)(k:κ):List κ:=if(posK ks k).isSome then ks else ks++[k]
def putD{β:Type}(ks:List κ)(ds:List β)(k:κ)(d:β):List β:=if(posK ks k).isSome then R9 (λk' d'=>if k'=k then d else d') ks ds else ds++[d]
B5 wQ{β:Type}{ks:List κ}{ds:List β}{k:κ}{d:β}(h:ks.length=ds.length):(mH ks k).length=(putD ks ds k d).length:=by
 B4 mH putD;split
 ·rw[List.length_zipWith,h,m7]
 ·rw[D1,D1,h];rfl
B5 QL{ks:List κ}{xs:List V}{k:κ}{v:V}(h:ks.length=xs.length):putK (ks.zip xs) k v=(mH ks k).zip (putD ks xs k v):=by
 have ha:((ks.zip xs).any λkv=>decide (kv.1=k))=(posK ks k).isSome:=by
  rw[Ra,uH h];cases q:posK ks k with
  | none=>rfl
  | some j=>B3⟨h1,h2⟩:=tD q;rw[C4,B6 A6];rfl
 B4 putK mH putD;rw[ha];by_cases c:(posK ks k).isSome=NU
 ·rw[if_pos c,if_pos c,if_pos c];clear ha c
  induction ks generalizing xs with
  | nil=>rfl
  | cons a ks ih=>
   cases xs with
   | nil=>simp at h
   | cons x xs=>
    rw[R7,E2,K1,R7,ih (by simpa using h)]
    split<;>rfl
 ·rw[if_neg c,if_neg c,if_neg c,List.zip_append h];rfl
end
def Wa:D→Option Key
 | .int i=>NR (.inl i)
 | .str x=>NR (.inr x)
 | _=>none
B5 Pn{K:aG}{H:Hp}{d:D}{k:Key}{v:V}(h:Wa d=NR k)(r:Rv K H d v):v=kV k:=by cases d<;>B4 Wa at h<;>first | (cases h;B4 Rv at r;~r) | cases h
def kD:Key→D
 | .inl i=>.int i
 | .inr x=>.str x
section
variable{K:aG}{X:Cx}{e a b c:AK}{es:List AK}{t ta tb:TE}{f g:FE}{pos:Pos}
def Ib(neg:Bool)(k d:D):Option D:=match d with
 | .dk ks ds=>(Wa k).bind λk=>NR (.bl (if neg then !(posK ks k).isSome else(posK ks k).isSome))
 | _=>none
def aNH(d k:D):Option D:=match d with
 | .dk ks ds=>(Wa k).bind λk=>(posK ks k).bind λj=>ds[j]?
 | _=>none
B5 ie{ks:List Key}{xs:List V}{k:Key}(h:ks.length=xs.length):(xZ (ks.zip xs) k).isSome=(posK ks k).isSome:=by
 rw[uH h];cases q:posK ks k with
 | none=>rfl
 | some j=>B3⟨h1,h2⟩:=tD q;rw[C4,B6 A6];rfl
B5 QM{H:Hp}{x y:V}{ka d r:D}{neg:Bool}(h:Ib neg ka d=NR r)(rk:Rv K H ka y)(rd:Rv K H d x):∃p o,x=.ref p∧Rc H p y o∧r=.bl (if neg then !o.isSome else o.isSome):=by
 B4 Ib at h;split at h
 ·rename_i ks ds;B3⟨k,h1,h2⟩:=aZ h;cases h2;B4 Rv at rd;B3⟨p,xs,r1,r2,r3,r4⟩:=rd;&⟨p,xZ (ks.zip xs) k,r1,.inl ⟨_,k,r2,Pn h1 rk,U⟩,?_⟩;rw[ie r3]
 ·cases h
B5 aCj(hu:X.A.units+1<BG)(ha:XR K X a ta f)(hb:XR K X b tb g)(h1:behindInMarks .In b=NV:=by first | ~nobehind _ A8 A8 | rfl):XN K X (.Compare a [.In] [b] pos) (aEK ta tb) (f2 (Ib NV) f g):=
 ⟨ha.hk,au (dm hu ha.pe hb.pe) h1,λσ H e d Q re q k=>by
  B3⟨da,db,q1,q2,q3⟩:=Ph q;&ha.ev σ H H e da _ OW re q1 λx H1 Z1 s1 t1 z1 rx=>hb.ev σ H1 Z1 e db _ z1 (re.same t1) q2 λy H2 Z2 s2 t2 z2 ry=>?_;B3⟨p,o,e1,e2,e3⟩:=QM q3 (z2.sm.rv _ _ (t2.rv _ _ rx)) (z2.sm.rv _ _ ry);subst e3;~⟨p,o,e1,e2,k _ H2 OS OB⟩⟩
B5 aAB(hu:X.A.units+1<BG)(ha:XR K X a ta f)(hb:XR K X b tb g)(h1:behindInMarks .NotIn b=NV:=by first | ~nobehind _ A8 A8 | rfl):XN K X (.Compare a [.NotIn] [b] pos) (CP ta tb) (f2 (Ib NU) f g):=
 ⟨ha.hk,au (Xh hu ha.pe hb.pe) h1,λσ H e d Q re q k=>by
  B3⟨da,db,q1,q2,q3⟩:=Ph q;&ha.ev σ H H e da _ OW re q1 λx H1 Z1 s1 t1 z1 rx=>hb.ev σ H1 Z1 e db _ z1 (re.same t1) q2 λy H2 Z2 s2 t2 z2 ry=>?_;B3⟨p,o,e1,e2,e3⟩:=QM q3 (z2.sm.rv _ _ (t2.rv _ _ rx)) (z2.sm.rv _ _ ry);subst e3;~⟨p,o,e1,e2,k _ H2 OS OB⟩⟩
B5 aGr{op:EH}(h:XN K X (.Compare a [op] [b] pos) t f)(pc:PC X op a b t)(h1:behindInMarks op b=NV):XT K X (.Compare a [op] [b] pos) (tB t) (fB f):=⟨h.hk,aG8 pc h1,aGp h.ev.r⟩
B5 Xp(hu:X.A.units+1<BG)(ha:XR K X a ta f)(hb:XR K X b tb g)(h1:behindInMarks .NotIn b=NV:=by first | ~nobehind _ A8 A8 | rfl):XT K X (.Compare a [.NotIn] [b] pos) (tB (CP ta tb)) (fB (f2 (Ib NU) f g)):=aGr (aAB hu ha hb h1) (Xh hu ha.pe hb.pe) h1
def cW(a i:D):Option D:=match i with
 | .int i=>(Ac a).bind λds=>ZX ds i
 | _=>none
B5 aGs{H:Hp}{ds:List D}{xs:List V}{i:Int}{d:D}(r:eO K H ds xs)(h:ZX ds i=NR d):∃v,ZX xs i=NR v∧Rv K H d v:=by B4 ZX at h ⊢;B3⟨j,h1,h2⟩:=aZ h;rw[r.length,h1];~r.get h2
B5 aGt(hk:X.K=K):IxR X (rIx K):=by subst hk;~aHy
B5 bK(ha:XR K X a ta f)(hb:XR K X b tb g)(hs:BW b):XR K X (.Subscript a b pos) (OD (rIx K) ta tb) (f2 cW f g):=
 ⟨ha.hk,aGk (aGt ha.hk) ha.pe hb.pe hs,aJR (λx y H Z da db d Q z ra rb q k=>by
  B4 cW at q;split at q
  ·rename_i i;B3⟨ds,h1,h2⟩:=aZ q;B4 Rv at rb;cases da with
   | lst es=>
    B4 Ac at h1;cases h1;B4 Rv at ra;B3⟨p,xs,r1,r2,r3⟩:=ra;B3⟨v,e1,e2⟩:=aGs r3 h2;~.inl ⟨p,xs,i,v,r1,rb,z.sm.seq r2,e1,k v H Z OC OC z e2⟩
   | tup es=>
    B4 Ac at h1;cases h1;B4 Rv at ra;B3⟨p,xs,r1,r2,r3⟩:=ra;B3⟨v,e1,e2⟩:=aGs r3 h2;~.inr (.inl ⟨p,xs,i,v,r1,rb,z.sm.tup r2,e1,k v H Z OC OC z e2⟩)
   | _=>B4 Ac at h1;cases h1
  ·cases q) ha.ev hb.ev⟩
end
end L2


namespace L2
open PySem PySem.Spec PyProof.Rows
section
variable{K:aG}{X:Cx}{e a b c:AK}{es rest:List AK}{t ta tb:TE}{f g:FE}{tA:TA}{fs:FA}{pos:Pos}{tc:TT}{fc fd:FT}{td:TT}
B5 aP(hk:X.K=K:=by rfl):XA K X [] oX aL:=⟨hk,jE,aCg⟩
B5 aF(h:XR K X e t f)(hs:XA K X es tA fs)(hst:AJ (e::es) X.env=(NV,AU e X.env)::AJ es X.env:=by rfl):XA K X (e::es) (dF t tA) (aB f fs):=⟨h.hk,cZ h.pe hs.pa hst,aEX h.ev hs.ev⟩
B5 jJ(hk:X.K=K:=by rfl):XB K X [] oX aL:=⟨hk,jE,aHT⟩
B5 bN(h:XN K X e t f)(hs:XB K X es tA fs)(hst:AJ (e::es) X.env=(NV,AU e X.env)::AJ es X.env:=by rfl):XB K X (e::es) (dF t tA) (aB f fs):=⟨h.hk,cZ h.pe hs.pa hst,aEY h.ev hs.ev⟩
B5 yI(h:XB K X es tA fs):XN K X (.List es pos) (aBT tA) (mR fs):=⟨h.hk,aBU h.pa,aHU h.ev⟩
B5 pJ(h:XA K X es tA fs):XR K X (.List es pos) (aBT tA) (mR fs):=⟨h.hk,aBU h.pa,aHW h.ev⟩
B5 rT{x1:Nat}(h:XB K X es tA fs):XN K X (.Tuple es x1 pos) (PJ tA) (wO fs):=⟨h.hk,cu h.pa,aHV h.ev⟩
B5 aE0:Nq K dq (fC (.dk [] [])):=λσ H e d Q re q k=>by cases q;intro p hp;&k _ _ (cR hp _) ⟨(·=p),?_,λa q=>by cases q;~hp⟩;B4 Ow;~⟨p,[],nil,U,cA,U,λz=>z,λx=>⟨.inl,λz=>z.elim id False.elim⟩,by B4 eQ;~⟨λ_ z=>z,U⟩⟩
B5 Di(hk:X.K=K:=by rfl):XN K X (.Dict [] [] pos) dq (fC (.dk [] [])):=⟨hk,aB4,aE0⟩
def El(f g:FT):FT:=λe=>(f e).bind λc=>if c=NU then g e else NR NV
def fOr(f g:FT):FT:=λe=>(f e).bind λc=>if c=NU then NR NU else g e
def Em(f:FT):FT:=λe=>(f e).map λc=>!c
B5 aHY(h1:aj K tc fc)(h2:aj K td fd):aj K (aHa tc td) (El fc fd):=λσ H e b Q re q k=>by
 B4 El at q;B3⟨c,q1,q2⟩:=aZ q;&h1 σ H e c _ re q1 λH1 s1=>?_;cases c with
 | true=>rw[if_pos rfl]at q2 ⊢;~h2 σ H1 e b Q (re.same s1) q2 λH2 s2=>k H2 OS
 | false=>rw[if_neg A8]at q2 ⊢;cases q2;~k H1 s1
B5 aJT(h1:aj K tc fc)(h2:aj K td fd):aj K (tOr tc td) (fOr fc fd):=λσ H e b Q re q k=>by
 B4 fOr at q;B3⟨c,q1,q2⟩:=aZ q;&h1 σ H e c _ re q1 λH1 s1=>?_;cases c with
 | false=>rw[if_neg A8]at q2 ⊢;~h2 σ H1 e b Q (re.same s1) q2 λH2 s2=>k H2 OS
 | true=>rw[if_pos rfl]at q2 ⊢;cases q2;~k H1 s1
B5 aHZ(h1:aj K tc fc):aj K (aHb tc) (Em fc):=λσ H e b Q re q k=>by B4 Em at q;B3⟨c,q1,rfl⟩:=kJ q;~h1 σ H e c _ re q1 k
B5 XW.xt(h:XW K X e tc fc):XT K X e tc fc:=⟨h.hk,h.pw.pt,h.ev⟩
B5 Ie(h:XT K X a tc fc):XW K X (.BoolOp .And [a] pos) tc fc:=⟨h.hk,aEn h.pt,h.ev⟩
B5 DN(h:XT K X a tc fc):XW K X (.BoolOp .Or [a] pos) tc fc:=⟨h.hk,aHc h.pt,h.ev⟩
B5 Ry(h:XT K X a tc fc)(h2:XW K X (.BoolOp .And (b::rest) pos) td fd):XW K X (.BoolOp .And (a::b::rest) pos) (aHa tc td) (El fc fd):=⟨h.hk,aHd h.pt h2.pw,aHY h.ev h2.ev⟩
B5 Xq(h:XT K X a tc fc)(h2:XW K X (.BoolOp .Or (b::rest) pos) td fd):XW K X (.BoolOp .Or (a::b::rest) pos) (tOr tc td) (fOr fc fd):=⟨h.hk,aJq h.pt h2.pw,aJT h.ev h2.ev⟩
B5 wB(h:XT K X a tc fc):XT K X (.UnaryOp .Not a pos) (aHb tc) (Em fc):=⟨h.hk,aHe h.pt,aHZ h.ev⟩
def qL(f g:FE):FE:=λe=>(fB f e).bind λc=>if c=NU then g e else NR (.bl NV)
def aAD(f g:FE):FE:=λe=>(fB f e).bind λc=>if c=NU then NR (.bl NU)else g e
def QQ(f:FE):FE:=λe=>(fB f e).map λc=>.bl (!c)
B5 tE{op:BoolOp}(h:XN K X a t f):XN K X (.BoolOp op [a] pos) t f:=⟨h.hk,aHf h.pe,h.ev⟩
B5 uI(h:XR K X a ta f)(h2:XN K X (.BoolOp .And (b::rest) pos) tb g):XN K X (.BoolOp .And (a::b::rest) pos) (aGc ta tb) (qL f g):=⟨h.hk,aHg h.pe h2.pe,λσ H e d Q re q k=>by
 B4 qL at q;B3⟨c,q1,q2⟩:=aZ q;&h.ev σ H H e _ _ OW re (Hz q1) λv H1 Z1 s1 t1 z1 rv=>?_;B4 Rv at rv;&⟨c,rv,?_⟩;cases c with
 | true=>rw[if_pos rfl]at q2 ⊢;~h2.ev σ H1 e d Q (re.same s1) q2 λv H2 s2 n=>k v H2 OS (n.back s1)
 | false=>rw[if_neg A8]at q2 ⊢;cases q2;~k _ H1 s1 OB⟩
B5 aJU(h:XR K X a ta f)(h2:XN K X (.BoolOp .Or (b::rest) pos) tb g):XN K X (.BoolOp .Or (a::b::rest) pos) (aJr ta tb) (aAD f g):=⟨h.hk,aJs h.pe h2.pe,λσ H e d Q re q k=>by
 B4 aAD at q;B3⟨c,q1,q2⟩:=aZ q;&h.ev σ H H e _ _ OW re (Hz q1) λv H1 Z1 s1 t1 z1 rv=>?_;B4 Rv at rv;&⟨c,rv,?_⟩;cases c with
 | false=>rw[if_neg A8]at q2 ⊢;~h2.ev σ H1 e d Q (re.same s1) q2 λv H2 s2 n=>k v H2 OS (n.back s1)
 | true=>rw[if_pos rfl]at q2 ⊢;cases q2;~k _ H1 s1 OB⟩
B5 aH0(h:XR K X a ta f):XN K X (.UnaryOp .Not a pos) (aGd ta) (QQ f):=⟨h.hk,aHh h.pe,λσ H e d Q re q k=>by
 B4 QQ at q;B3⟨c,q1,rfl⟩:=kJ q;&h.ev σ H H e _ _ OW re (Hz q1) λv H1 Z1 s1 t1 z1 rv=>?_;B4 Rv at rv;~⟨c,rv,k _ H1 s1 OB⟩⟩
def fIf(c:FT)(f g:FE):FE:=λe=>(c e).bind λb=>if b=NU then f e else g e
B5 aGv(hc:XT K X c tc fc)(ha:XN K X a ta f)(hb:XN K X b tb g):XN K X (.IfExp c a b pos) (tIf tc ta tb) (fIf fc f g):=⟨ha.hk,aBC hc.pt ha.pe hb.pe,λσ H e d Q re q k=>by
 B4 fIf at q;B3⟨c,q1,q2⟩:=aZ q;&hc.ev σ H e c _ re q1 λH1 s1=>?_;cases c with
 | true=>rw[if_pos rfl]at q2 ⊢;~ha.ev σ H1 e d Q (re.same s1) q2 λv H2 s2 n=>k v H2 OS (n.back s1)
 | false=>rw[if_neg A8]at q2 ⊢;~hb.ev σ H1 e d Q (re.same s1) q2 λv H2 s2 n=>k v H2 OS (n.back s1)⟩
B5 aH1(ha:XR K X a ta f):XN K X (.UnaryOp .USub a pos) (tUn (rU λi=>.int (-i)) ta) (λe=>(f e).bind λd=>match d with | .int i=>NR (.int (-i)) | _=>none):=⟨ha.hk,aJB aHr ha.pe,λσ H e d Q re q k=>by
 B3⟨c,q1,q2⟩:=aZ q;split at q2
 ·rename_i i;cases q2;&ha.ev σ H H e _ _ OW re q1 λv H1 Z1 s1 t1 z1 rv=>?_;B4 Rv at rv;~⟨i,rv,k _ H1 s1 OB⟩
 ·cases q2⟩
def fL(φ:List D→Option D)(fs:FA):FE:=λe=>(fs e).bind φ
def wR(K:aG)(r:List V→Hp→VK→Prop)(φ:List D→Option D):Prop:=∀(vs:List V)(H:Hp)(ds:List D)(d:D)(Q:VK),eO K H ds vs→φ ds=NR d →
 (∀v H',aW H H'→Rp K H H' d v→Q v H')→r vs H Q
B5 aGw{r:List V→Hp→VK→Prop}{φ:List D→Option D}(o:wR K r φ)(h:EvA K tA fs):Nq K (tCB r tA) (fL φ fs):=λσ H e d Q re q k=>by B3⟨ds,q1,q2⟩:=aZ q;~h σ H H e ds _ OW re q1 λvs H1 Z1 s1 t1 z1 rs=>o vs H1 ds d Q (z1.sm.uw _ _ rs) q2 λv H2 s2 n=>k v H2 OS (n.back s1)
B5 dD{r:List V→Hp→VK→Prop}{φ:List D→Option D}{x:Str}{id:String}{p:Pos}(o:wR K r φ)(hc:mQ X (.builtin id) r)(hg:Gl X x)(hm:X.mg x=none)(hv:AZ x=NR (.builtin id))(ha:XA K X (e::es) tA fs)(hn:x ≠ "__name__" := by decide) (hdb:OH=NV:=by decide)
  (he:AJ (e::es) X.env=(NV,AU e X.env)::AJ es X.env:=by rfl) (hpl:(Au pos (AJ es X.env)).any (·.1)=NV:=by rfl):XN K X (.Call (.Name x p) (e::es) [] pos) (tCB r tA) (fL φ fs):=⟨ha.hk,PL hc hg hm hv ha.pa hn hdb he hpl,aGw o ha.ev⟩
B5 Nu{r:List V→Hp→VK→Prop}{φ:List D→Option D}{x:Str}{id:String}{p:Pos}(o:wR K r φ)(hc:mQ X (.type id) r)(hg:Gl X x)(hm:X.mg x=none)(hv:AZ x=NR (.type id))(ha:XA K X (e::es) tA fs)(hn:x ≠ "__name__" := by decide) (hdb:OH=NV:=by decide)
  (he:AJ (e::es) X.env=(NV,AU e X.env)::AJ es X.env:=by rfl) (hpl:(Au pos (AJ es X.env)).any (·.1)=NV:=by rfl):XN K X (.Call (.Name x p) (e::es) [] pos) (tCB r tA) (fL φ fs):=⟨ha.hk,aAq hc hg hm hv ha.pa hn hdb he hpl,aGw o ha.ev⟩
B5 rW{H:Hp}{d:D}{vs:List V}(h:eO K H [d] vs):∃v,vs=[v]∧Rv K H d v:=by B4 eO at h;B3⟨y,ys,rfl,h1,h2⟩:=h;B4 eO at h2;subst h2;~⟨y,U,h1⟩
B5 aCk{H:Hp}{d d':D}{vs:List V}(h:eO K H [d,d'] vs):∃v v',vs=[v,v']∧Rv K H d v∧Rv K H d' v':=by B4 eO at h;B3⟨y,ys,rfl,h1,h2⟩:=h;B3⟨v,rfl,h3⟩:=rW h2;~⟨y,v,U,h1,h3⟩
def gZ:List D→Option D
 | [d]=>(Ac d).map λds=>.int ds.length
 | _=>none
def aJV(K:aG):List V→Hp→VK→Prop:=λxs H Q=>∃p ys,xs=[.ref p]∧(oU K H p ys∨xW K H p ys)∧Q (.int ys.length) H
B5 dJ:wR K (aJV K) gZ:=λvs H ds d Q rs q k=>by
 B4 gZ at q;split at q
 ·rename_i d0;B3⟨es,q1,rfl⟩:=kJ q;B3⟨v,rfl,r⟩:=rW rs;B3⟨p,xs,rfl,r2,r3⟩:=Pk q1 r;&⟨p,xs,U,r2,k _ H OC (.jH U ?_)⟩;rw[r3.length];B4 Rv;rfl
 ·cases q
B5 dM(hk:X.K=K):mQ X (.builtin "len") (aJV K):=by subst hk;~CJ
def dList:List D→Option D
 | [d]=>(Ac d).bind λds=>if D.gR ds=NU then NR (.lst ds)else none
 | _=>none
def aGx(K:aG):List V→Hp→VK→Prop:=λxs H Q=>∃p ys,xs=[.ref p]∧(oU K H p ys∨xW K H p ys)∧∀l,H l=none→Q (.ref l) (upd H l (.lst ys))
B5 Ig:wR K (aGx K) dList:=λvs H ds d Q rs q k=>by
 B4 dList at q;split at q
 ·rename_i d0;B3⟨es,q1,q2⟩:=aZ q;split at q2
  ·rename_i hi;cases q2;B3⟨v,rfl,r⟩:=rW rs;B3⟨p,xs,rfl,r2,r3⟩:=Pk q1 r;~⟨p,xs,U,r2,λl hl=>k _ _ (cR hl _) (vD OC (.gR hi r3) hl)⟩
  ·cases q2
 ·cases q
B5 Ih(hk:X.K=K):mQ X (.type "list") (aGx K):=by subst hk;~CK
def Rz:List D→Option D
 | [.dk ks ds]=>NR (.lst (ks.map kD))
 | _=>none
B5 Xr:∀ks:List Key,D.gR (ks.map kD)=NU
 | []=>by rw[K9];B4 D.gR;rfl
 | k::ks=>by rw[E2];B4 D.gR;rw[Xr ks];cases k<;>(B4 kD D.jH;rfl)
B5 QR{H:Hp}:∀ks:List Key,eO K H (ks.map kD) (ks.map kV)
 | []=>by rw[K9,K9];B4 eO;rfl
 | k::ks=>by rw[E2,E2];B4 eO;~⟨_,_,U,by cases k<;>(B4 kD kV Rv;rfl),QR ks⟩
def aH2:List V→Hp→VK→Prop:=λxs H Q=>∃p kvs,xs=[.ref p]∧Rd H p (.dK kvs)∧∀l,H l=none→Q (.ref l) (upd H l (.lst (kvs.map λkv=>kV kv.1)))
B5 aCl{ks:List Key}{xs:List V}(h:ks.length=xs.length):((ks.zip xs).map λkv=>kV kv.1)=ks.map kV:=by
 have:((ks.zip xs).map λkv=>kV kv.1)=((ks.zip xs).map Prod.fst).map kV:=by rw[M4];rfl
 rw[this,List.map_fst_zip A6]
B5 QS:wR K aH2 Rz:=λvs H ds d Q rs q k=>by
 B4 Rz at q;split at q
 ·rename_i ks es;cases q;B3⟨v,rfl,r⟩:=rW rs;B4 Rv at r;B3⟨p,xs,rfl,r2,r3,r4⟩:=r;&⟨p,_,U,r2,λl hl=>?_⟩;rw[aCl r3];~k _ _ (cR hl _) (vD OC (.gR (Xr ks) (QR ks)) hl)
 ·cases q
def Sd:List D→Option D
 | [d]=>(Ac d).bind λds=>if D.gR ds=NU then NR (.tup ds)else none
 | _=>none
def aCm(K:aG):List V→Hp→VK→Prop:=λxs H Q=>∃p ys,xs=[.ref p]∧((oU K H p ys∧∀l,H l=none→Q (.ref l) (upd H l (.tup ys)))∨(xW K H p ys∧Q (.ref p) H))
B5 aCn:wR K (aCm K) Sd:=λvs H ds d Q rs q k=>by
 B4 Sd at q;split at q
 ·rename_i d0;B3⟨es,q1,q2⟩:=aZ q;split at q2
  ·rename_i hi;cases q2;B3⟨v,rfl,r⟩:=rW rs;B3⟨p,xs,rfl,r2,r3⟩:=Pk q1 r;&⟨p,xs,U,?_⟩;rcases r2 with r2 | r2
   ·~.inl ⟨r2,λl hl=>k _ _ (cR hl _) (ux (.gR hi r3) hl)⟩
   ·~.inr ⟨r2,k _ H OC (.jH (by B4 D.jH;~hi) (by B4 Rv;~⟨p,xs,U,r2,r3⟩))⟩
  ·cases q2
 ·cases q
B5 aCo(hk:X.K=K):mQ X (.type "tuple") (aCm K):=by subst hk;~Vu
def intsOf:List D→Option Nd
 | []=>NR []
 | .int i::ds=>(intsOf ds).map (i::·)
 | _=>none
B5 lM:∀ns:List Int,intsOf OE=NR ns
 | []=>rfl
 | n::ns=>by rw[E2];B4 intsOf;rw[lM ns];rfl
B5 vH:∀{ds:List D} {ns:List Int},intsOf ds=NR ns→ds=ns.map D.int
 | [],ns,h=>by B4 intsOf at h;cases h;rfl
 | d::ds,ns,h=>by
  cases d with
  | int i=>B4 intsOf at h;B3⟨ms,h1,rfl⟩:=kJ h;rw[E2,←vH h1]
  | _=>B4 intsOf at h;cases h
B5 lV{H:Hp}:∀{ns:List Int} {xs:List V},eO K H OE xs↔xs=ns.map V.int
 | [],xs=>by rw[K9,K9];B4 eO;rfl
 | n::ns,xs=>by
  rw[E2,E2];B4 eO;constructor
  ·rintro⟨y,ys,rfl,h1,h2⟩
   B4 Rv at h1;rw[h1,lV.mp h2]
  ·rintro rfl;~⟨_,_,U,by B4 Rv;rfl,lV.mpr U⟩
B5 fK:∀ns:List Int,D.gR OE=NU
 | []=>by rw[K9];B4 D.gR;rfl
 | n::ns=>by rw[E2];B4 D.gR D.jH;rw[fK ns];rfl
B5 Bb{H:Hp}{ds:List D}{ns:List Int}{v:V}(h:intsOf ds=NR ns)(r:Rv K H (.lst ds) v):∃p,v=.ref p∧oU K H p (ns.map V.int):=by rw[vH h]at r;B4 Rv at r;B3⟨p,xs,r1,r2,r3⟩:=r;rw[lV.mp r3]at r2;~⟨p,r1,r2⟩
def sortI(ns:List Int):List Int:=ns.mergeSort λa b=>decide (a≤b)
B5 yJ(ns:List Int):rising ns (sortI ns):=⟨List.mergeSort_perm _ _,by
 have h:=List.pairwise_mergeSort (le:=λa b:Int=>decide (a≤b)) (λa b c h1 h2=>decide_eq_true (Int.le_trans (of_decide_eq_true h1) (of_decide_eq_true h2))) (λa b=>by
  rw[u7,decide_eq_true_iff,decide_eq_true_iff];~Int.le_total a b) ns
 ~h.imp λh=>of_decide_eq_true h⟩
B5 Xu:∀{l m:List Int},l.Pairwise (·≤·)→m.Pairwise (·≤·)→l.Perm m→l=m
  | [],m,_,_,p=>(List.Perm.nil_eq p)
  | a::l,[],_,_,p=>absurd p.symm (by simp)
  | a::l,b::m,h1,h2,p=>by
    B3⟨h1a,h1b⟩:=F6.mp h1;B3⟨h2a,h2b⟩:=F6.mp h2;have e:a=b:=by
      have q1:a∈b::m:=p.mem_iff.mp C8;have q2:b∈a::l:=p.mem_iff.mpr C8;rcases B9.mp q1 with q1 | q1
      · ~q1
      · rcases B9.mp q2 with q2 | q2
        · ~q2.symm
        · have:=h1a b q2
          have:=h2a a q1;omega
    subst e;rw[Xu h1b h2b (List.Perm.cons_inv p)]
B5 Ii{ns ms:List Int}(h:rising ns ms):ms=sortI ns:=Xu h.2 (yJ ns).2 (h.1.trans (yJ ns).1.symm)
def Ij:List D→Option D
 | [.lst ds]=>(intsOf ds).bind λns=>if ns.length<64 then NR (.lst ((sortI ns).map D.int))else none
 | _=>none
def uz(K:aG):List V→Hp→VK→Prop:=λxs H Q=>∃(p:AF)(ns:List Int),xs=[.ref p]∧oU K H p (ns.map V.int)∧ns.length<64∧∀l ms,H l=none→rising ns ms→Q (.ref l) (upd H l (.lst (ms.map V.int)))
B5 Xv:wR K (uz K) Ij:=λvs H ds d Q rs q k=>by
 B4 Ij at q;split at q
 ·B3⟨ns,q1,q2⟩:=aZ q;split at q2
  ·rename_i hl;cases q2;B3⟨v,rfl,r⟩:=rW rs;B3⟨p,rfl,r2⟩:=Bb q1 r;&⟨p,ns,U,r2,hl,λl ms hl hr=>?_⟩;rw[Ii hr];~k _ _ (cR hl _) (vD OC (.gR (fK _) (lV.mpr U)) hl)
  ·cases q2
 ·cases q
B5 Xw(hk:X.K=K):mQ X (.builtin "sorted") (uz K):=by subst hk;~QC
def zT:List D→Option (List Bool)
 | []=>NR []
 | .bl i::ds=>(zT ds).map (i::·)
 | _=>none
B5 QT{H:Hp}:∀{ds:List D} {bs:List Bool} {xs:List V},zT ds=NR bs→eO K H ds xs→xs=bs.map V.bl
 | [],bs,xs,h,r=>by B4 zT at h;cases h;B4 eO at r;~r
 | d::ds,bs,xs,h,r=>by
  cases d with
  | bl i=>B4 zT at h;B3⟨cs,h1,rfl⟩:=kJ h;B4 eO at r;B3⟨y,ys,rfl,r1,r2⟩:=r;B4 Rv at r1;rw[r1,QT h1 r2];rfl
  | _=>B4 zT at h;cases h
B5 Ld{α:Type}(p:α→Bool):∀l:List α,zT (l.map λx=>D.bl (p x))=NR (l.map p)
 | []=>rfl
 | a::l=>by rw[E2];B4 zT;rw[Ld p l];rfl
def Sg:List D→Option D
 | [.lst ds]=>(zT ds).map λbs=>.bl (bs.all id)
 | _=>none
def aE1:List D→Option D
 | [.lst ds]=>(zT ds).map λbs=>.bl (bs.any id)
 | _=>none
def aJW(K:aG):List V→Hp→VK→Prop:=λxs H Q=>∃(p:AF)(bs:List Bool),xs=[.ref p]∧oU K H p (bs.map V.bl)∧Q (.bl (bs.all id)) H
def aJX(K:aG):List V→Hp→VK→Prop:=λxs H Q=>∃(p:AF)(bs:List Bool),xs=[.ref p]∧oU K H p (bs.map V.bl)∧Q (.bl (bs.any id)) H
B5 vd{H:Hp}{ds:List D}{bs:List Bool}{v:V}(h:zT ds=NR bs)(r:Rv K H (.lst ds) v):∃p,v=.ref p∧oU K H p (bs.map V.bl):=by B4 Rv at r;B3⟨p,xs,r1,r2,r3⟩:=r;rw[QT h r3]at r2;~⟨p,r1,r2⟩
B5 Fw:wR K (aJW K) Sg:=λvs H ds d Q rs q k=>by
 B4 Sg at q;split at q
 ·B3⟨bs,q1,rfl⟩:=kJ q;B3⟨v,rfl,r⟩:=rW rs;B3⟨p,rfl,r2⟩:=vd q1 r;~⟨p,bs,U,r2,k _ H OC OB⟩
 ·cases q
B5 aH3:wR K (aJX K) aE1:=λvs H ds d Q rs q k=>by
 B4 aE1 at q;split at q
 ·B3⟨bs,q1,rfl⟩:=kJ q;B3⟨v,rfl,r⟩:=rW rs;B3⟨p,rfl,r2⟩:=vd q1 r;~⟨p,bs,U,r2,k _ H OC OB⟩
 ·cases q
B5 Fx(hk:X.K=K)(hc:X.calm=NU:=by rfl):mQ X (.builtin "all") (aJW K):=by subst hk;~aB9 hc
B5 aH4(hk:X.K=K)(hc:X.calm=NU:=by rfl):mQ X (.builtin "any") (aJX K):=by subst hk;~aCa hc
def QV:List D→Option D
 | [.int i,.int j]=>NR (.int (if j > i then j else i))
 | _=>none
def aMN:List D→Option D
 | [.int i,.int j]=>NR (.int (if j<i then j else i))
 | _=>none
B5 aE2:wR K (λxs H Q=>∃i j,xs=[.int i,.int j]∧Q (.int (if j > i then j else i)) H) QV:=λvs H ds d Q rs q k=>by
 B4 QV at q;split at q
 ·cases q;B3⟨v,w,rfl,r1,r2⟩:=aCk rs;B4 Rv at r1 r2;~⟨_,_,by rw[r1,r2],k _ H OC OB⟩
 ·cases q
def ig:List Int→Int
 | []=>0
 | [a]=>a
 | a::b::l=>let m:=ig (b::l);if m<a then m else a
B5 Fy:∀{ns:List Int},0<ns.length→Pg ns (ig ns)
 | [],h=>absurd h (by simp)
 | [a],_=>⟨D2.mpr U,λb hb=>by rw[D2.mp hb];~g6 _⟩
 | a::b::l,_=>by
  B3⟨h1,h2⟩:=Fy (ns:=b::l) (by simp);B4 ig;dsimp only;split
  ·rename_i c;&⟨C6 _ h1,λx hx=>?_⟩;rcases B9.mp hx with q | q
   ·omega
   ·~h2 x q
  ·rename_i c;&⟨C8,λx hx=>?_⟩;rcases B9.mp hx with q | q
   ·omega
   ·have:=h2 x q;omega
B5 il{ns:List Int}{m:Int}(h:Pg ns m):m=ig ns:=by B3⟨h1,h2⟩:=Fy (List.length_pos_of_mem h.1);have:=h.2 _ h1;have:=h2 _ h.1;omega
def vf:List D→Option D
 | [.lst ds]=>(intsOf ds).bind λns=>if 0<ns.length then NR (.int (ig ns))else none
 | _=>none
def aGy(K:aG):List V→Hp→VK→Prop:=λxs H Q=>∃(p:AF)(ns:List Int),xs=[.ref p]∧oU K H p (ns.map V.int)∧0<ns.length∧∀m,Pg ns m→Q (.int m) H
B5 aE3:wR K (aGy K) vf:=λvs H ds d Q rs q k=>by
 B4 vf at q;split at q
 ·B3⟨ns,q1,q2⟩:=aZ q;split at q2
  ·rename_i hl;cases q2;B3⟨v,rfl,r⟩:=rW rs;B3⟨p,rfl,r2⟩:=Bb q1 r;&⟨p,ns,U,r2,hl,λm hm=>?_⟩;rw[il hm];~k _ H OC OB
  ·cases q2
 ·cases q
B5 aE4(hk:X.K=K)(hc:X.calm=NU:=by rfl):mQ X (.builtin "min") (aGy K):=by subst hk;~aAA hc
def dIs(neg:Bool)(a b:D):Option D:=match a,b with
 | .bl c,.bl k=>NR (.bl (if neg then !(c==k)else c==k))
 | _,_=>none
B5 aAE{u v:AE}{A:AV}{s:AG}{Q:AE→AG→Prop}{E:AE→AG→Prop}{c k:Bool}(hu:u=.bool c)(hv:v=.bool k)(h:Q (.bool (!(c==k))) s):AL Nl A (AY .IsNot u v) Q E s:=by subst hu hv;cases c<;>cases k<;>~wpAny_pure h
B5 aAF:vC X (AY .IsNot) (λx y H Q=>∃c k,x=.bl c∧y=.bl k∧Q (.bl (!(c==k))) H):=by intro pins s σ H x y v u Q I rx ry h;B3⟨c,k,rfl,rfl,q⟩:=h;~aAE rx ry ⟨.bl _,H,I,U,q⟩
B5 aAG:MN K (λx y H Q=>∃c k,x=.bl c∧y=.bl k∧Q (.bl (!(c==k))) H) (dIs NU):=λx y H a b d Q ra rb q k=>by
 B4 dIs at q;split at q
 ·cases q;B4 Rv at ra rb;~⟨_,_,ra,rb,k _ H OC OB⟩
 ·cases q
end
end L2


namespace L2
open PySem PySem.Spec PyProof.Rows
section
variable{K:aG}{X:Cx}{e a b c:AK}{es rest:List AK}{t ta tb:TE}{f g:FE}{tA:TA}{fs:FA}{pos:Pos}{tc:TT}{fc fd:FT}{td:TT}
abbrev FO:=DE→Option (Option Int)
def EvO(K:aG)(t:TO)(f:FO):Prop:=∀(σ:St)(H:Hp)(e:DE)(o:Option Int)(Q:Option Int→Hp→Prop),yE K H e σ→f e=NR o→(∀H',aW H H'→Q o H')→t σ H Q
structure XO(K:aG)(X:Cx)(e:Option AK)(t:TO)(f:FO):Prop where
 po:PO X e t
 ev:EvO K t f
def Bc:FO:=λ_=>NR none
def mV(f:FE):FO:=λe=>(f e).bind λd=>match d with | .int i=>NR (NR i) | _=>none
B5 DP:XO K X none uf Bc:=⟨aEA,λσ H e o Q re q k=>by cases q;~k H OC⟩
B5 Ik(h:XR K X e t f):XO K X (NR e) (aGj t) (mV f):=⟨aEB h.pe,λσ H e o Q re q k=>by
 B4 mV at q;B3⟨d,q1,q2⟩:=aZ q;split at q2
 ·rename_i i;cases q2;&h.ev σ H H e _ _ OW re q1 λv H1 Z1 s1 t1 z1 rv=>?_;B4 Rv at rv;~⟨i,rv,k H1 s1⟩
 ·cases q2⟩
def wC{α:Type}(xs:List α)(lo hi:Option Int):List α:=(xs.drop (HT.Kv xs.length 0 lo)).take (HT.Kv xs.length xs.length hi-HT.Kv xs.length 0 lo)
B5 eO.drop{H:Hp}:∀{ds:List D} {xs:List V} (n:Nat),eO K H ds xs→eO K H (ds.drop n) (xs.drop n)
 | ds,xs,0,h=>h
 | [],xs,n+1,h=>by B4 eO at h;subst h;simp;B4 eO;rfl
 | d::ds,xs,n+1,h=>by B4 eO at h;B3⟨y,ys,rfl,_,h2⟩:=h;simpa using eO.drop n h2
B5 eO.take{H:Hp}:∀{ds:List D} {xs:List V} (n:Nat),eO K H ds xs→eO K H (ds.take n) (xs.take n)
 | ds,xs,0,h=>by simp;B4 eO;rfl
 | [],xs,n+1,h=>by B4 eO at h;subst h;simp;B4 eO;rfl
 | d::ds,xs,n+1,h=>by B4 eO at h;B3⟨y,ys,rfl,h1,h2⟩:=h;rw[l3,l3];B4 eO;~⟨y,_,U,h1,eO.take n h2⟩
B5 vg{H:Hp}{ds:List D}{xs:List V}(lo hi:Option Int)(h:eO K H ds xs):eO K H (wC ds lo hi) (dh xs lo hi):=by B4 wC dh;rw[h.length];~(h.drop _).take _
def ao(jH:Bool)(f:FE)(l h:FO):FE:=λe=>(f e).bind λd=>(l e).bind λlo=>(h e).bind λhi=>match d with
 | .lst ds=>if jH=NV∨D.gR (wC ds lo hi)=NU then NR (.lst (wC ds lo hi))else none
 | _=>none
B5 QW{jH:Bool}{f:FE}{l h:FO}{e:DE}{d:D}(q:ao jH f l h e=NR d):∃ds lo hi,f e=NR (.lst ds)∧l e=NR lo∧h e=NR hi∧(jH=NV∨D.gR (wC ds lo hi)=NU)∧d=.lst (wC ds lo hi):=by
 B4 ao at q;B3⟨d0,q1,q⟩:=aZ q;B3⟨lo,q2,q⟩:=aZ q;B3⟨hi,q3,q⟩:=aZ q;split at q
 ·split at q
  ·rename_i c;cases q;~⟨_,lo,hi,q1,q2,q3,c,U⟩
  ·cases q
 ·cases q
B5 vh(hk:X.K=K):SlR X (aEE K):=by subst hk;~aEF
variable{lo hi:Option AK}{tl th:TO}{fl fh:FO}{p2:Pos}
B5 Sh(h:XR K X e t f)(hl:XO K X lo tl fl)(hu:XO K X hi th fh):XR K X (.Subscript e (.Slice lo hi none p2) pos) (tSl (aEE K) t tl th) (ao NV f fl fh):=⟨h.hk,PN (vh h.hk) h.pe hl.po hu.po,λσ H Z e d Q z re q k=>by
 B3⟨ds,lo,hi,q1,q2,q3,_,rfl⟩:=QW q;&h.ev σ H Z e _ _ z re q1 λv H1 Z1 s1 t1 z1 rv=>hl.ev σ H1 e lo _ (re.same (z.sm.trans s1)) q2 λH2 s2=>hu.ev σ H2 e hi _ (re.same (z.sm.trans OS)) q3 λH3 s3=>?_;have z3:=DG z1 (s2.trans s3);have t3:aW Z1 (CZ Z1 H1 H3):=La z1;B4 Rv at rv;B3⟨p,xs,rfl,r2,r3⟩:=rv;&⟨p,xs,U,z3.sm.seq (t3.seq r2),λl hl=>?_⟩;B3⟨a1,a2⟩:=aCh (o:=.lst (dh xs lo hi)) z3 hl;~k _ _ _ (s1.trans (s2.trans (s3.trans (cR hl _)))) (t1.trans (t3.trans a1)) a2 (by B4 Rv;~⟨l,_,U,oU.of cA,a1.uw _ _ (t3.uw _ _ (vg lo hi r3))⟩)⟩
B5 aCp(h:XR K X e t f)(hl:XO K X lo tl fl)(hu:XO K X hi th fh):XN K X (.Subscript e (.Slice lo hi none p2) pos) (tSl (aEE K) t tl th) (ao NU f fl fh):=⟨h.hk,PN (vh h.hk) h.pe hl.po hu.po,λσ H e d Q re q k=>by
 B3⟨ds,lo,hi,q1,q2,q3,qi,rfl⟩:=QW q;&h.ev σ H H e _ _ OW re q1 λv H1 Z1 s1 t1 z1 rv=>hl.ev σ H1 e lo _ (re.same s1) q2 λH2 s2=>hu.ev σ H2 e hi _ (re.same OS) q3 λH3 s3=>?_;have rv3:=(z1.sm.trans (s2.trans s3)).rv _ _ rv;B4 Rv at rv3;B3⟨p,xs,rfl,r2,r3⟩:=rv3;&⟨p,xs,U,r2,λl hl=>?_⟩;have Sq:=s1.trans (s2.trans s3);~k _ _ (Sq.trans (cR hl _)) (vD Sq (.gR (qi.resolve_left A8) (vg lo hi r3)) hl)⟩
def aCq(K:aG):R2:=λx y H Q=>∃l b xs zs,x=.ref l∧y=.ref b∧oU K H l xs∧oU K H b zs∧xs.length+zs.length≤sizeLine∧∀p,H p=none→Q (.ref p) (upd H p (.lst (xs++zs)))
B5 aE5(hk:X.K=K):vC X (ED .Add) (aCq K):=by
 subst hk;intro pins s σ H x y v u Q I rx ry h;B3⟨l,b,xs,zs,rfl,rfl,h1,h2,hz,q⟩:=h;cases rx;cases ry;B3⟨its,r,pl,_⟩:=I.list h1;B3⟨its2,r2,QD,_⟩:=I.list h2;B3⟨⟨cl,dd,da,sl⟩,ho,hc,n,hd⟩:=pl.isList;B3⟨⟨cl2,dd2,da2,sl2⟩,ho2,hc2,n2,hd2⟩:=QD.isList;dsimp only at hc hd hc2 hd2;subst hc hd hc2 hd2;have hlen:its.toArray.size+its2.toArray.size≤sizeLine:=by rw[D3,D3,←r.length,←r2.length];~hz
 have ea:its.toArray++its2.toArray=(its++its2).toArray:=by simp
 &concat_meets ⟨_,ho,U⟩ ⟨_,ho2,U⟩ noFill_list_add seq_list_add PySem.F.slot_list_add PySem.F.entry_list_add (PySem.F.args_list_add_2 _ _)
  (list_addW l b its.toArray its2.toArray n n2 dd dd2 sl sl2 hlen) ⟨ho,ho2,?_⟩
 rw[ea];~⟨.ref _,_,I.aJL (t':=s.toks) (r.append r2) (by rw[D1];~hz),U,q _ I.fresh⟩
def eX(a b:D):Option D:=match a,b with
 | .int i,.int j=>NR (.int (i+j))
 | .lst x,.lst y=>if D.gR (x++y)=NU∧x.length+y.length≤100000 then NR (.lst (x++y))else none
 | _,_=>none
B5 eO.append{H:Hp}:∀{ds es:List D} {xs ys:List V},eO K H ds xs→eO K H es ys→eO K H (ds++es) (xs++ys)
 | [],es,xs,ys,h,h'=>by B4 eO at h;subst h;~h'
 | d::ds,es,xs,ys,h,h'=>by B4 eO at h;B3⟨y,yt,rfl,h1,h2⟩:=h;rw[R1,R1];B4 eO;~⟨y,_,U,h1,eO.append h2 h'⟩
B5 aE6:MN K (λx y H Q=>rI0 (λi j=>.int (i+j)) x y H Q∨aCq K x y H Q) eX:=λx y H a b d Q ra rb q k=>by
 B4 eX at q;split at q
 ·cases q;B4 Rv at ra rb;~.inl ⟨_,_,ra,rb,k _ H OC OB⟩
 ·split at q
  ·rename_i c;cases q;B4 Rv at ra rb;B3⟨p,xs,rfl,r2,r3⟩:=ra;B3⟨p',xs',rfl,r2',r3'⟩:=rb;&.inr ⟨p,p',xs,xs',U,U,r2,r2',Xl (by rw[r3.length,r3'.length];~c.2),λl hl=>?_⟩;~k _ _ (cR hl _) (vD OC (.gR c.1 (r3.append r3')) hl)
  ·cases q
 ·cases q
B5 cN(ha:XR K X a ta f)(hb:XR K X b tb g):XN K X (.BinOp a .Add b pos) (OD (λx y H Q=>rI0 (λi j=>.int (i+j)) x y H Q∨aCq K x y H Q) ta tb) (f2 eX f g):=Xm (aHm.or (aE5 ha.hk)) aE6 ha hb
def EvI(K:aG)(wi:TI)(fi:FA):Prop:=∀{N:Fp}(σ:St)(H Z:Hp)(e:DE)(ds:List D)(R:It→Hp→Prop),Zn K N Z H→yE K Z e σ→fi e=NR ds →
 (∀J H' Z' P vs,aW H H'→aW Z Z'→Zn K N Z' H'→JIs J P vs→(∀H2,aW Z' H2→P H2)→eO K Z' ds vs→R J H')→wi σ H R
structure XI(K:aG)(X:Cx)(tg iter:AK)(wi:TI)(fi:FA):Prop where
 hk:X.K=K
 pi:PI X tg iter wi
 ev:EvI K wi fi
def kO(f:FE):FA:=λe=>(f e).bind Ac
def aCr(K:aG)(t:TE):TI:=λσ H R=>aGg K t σ H R∨aJy K t σ H R
B5 jK{tg:AK}(h:XR K X e t f):XI K X tg e (aCr K t) (kO f):=⟨h.hk,by
 have hk:=h.hk;subst hk;~λpins s σ H R I q=>q.elim (uc h.pe pins s σ H R I) (aBJ h.pe pins s σ H R I),λσ H Z e ds R z re q k=>by
 B4 kO at q;B3⟨d,q1,q2⟩:=aZ q;cases d with
 | lst es=>
  B4 Ac at q2;cases q2;&.inl (h.ev σ H Z e _ _ z re q1 λv H1 Z1 s1 t1 z1 rv=>?_);B4 Rv at rv;B3⟨p,xs,rfl,r2,r3⟩:=rv;~⟨p,U,⟨xs,z1.sm.seq r2⟩,k _ H1 Z1 _ xs s1 t1 z1 Rh (λH2 s=>s.seq r2) r3⟩
 | tup es=>
  B4 Ac at q2;cases q2;&.inr (h.ev σ H Z e _ _ z re q1 λv H1 Z1 s1 t1 z1 rv=>?_);B4 Rv at rv;B3⟨p,xs,rfl,r2,r3⟩:=rv;~⟨p,U,⟨xs,z1.sm.tup r2⟩,k _ H1 Z1 _ xs s1 t1 z1 aER (λH2 s=>s.tup r2) r3⟩
 | _=>B4 Ac at q2;cases q2⟩
def jL(lo:Int)(n:Nat):List D:=(D5 n).map λi:Nat=>D.int (lo+(i:Int))
B5 Le{H:Hp}(lo:Int)(n:Nat):eO K H (jL lo n) ((D5 n).map λi:Nat=>V.int (lo+(i:Int))):=by
 B4 jL;&eO.of (by simp) λi d x h1 h2=>?_;rw[C5]at h1 h2;cases q:(D5 n)[i]? with
 | none=>rw[q]at h1;cases h1
 | some j=>rw[q]at h1 h2;cases h1;cases h2;B4 Rv;rfl
def lim(i:Int):Bool:=decide (-100000≤i∧i≤100000)
def rA(fs:FA):FA:=λe=>(fs e).bind λds=>match ds with
 | [.int n]=>if lim n=NU then NR (jL 0 n.toNat)else none
 | _=>none
def QX(fs:FA):FA:=λe=>(fs e).bind λds=>match ds with
 | [.int i,.int j]=>if lim i=NU∧lim j=NU then NR (jL i (j-i).toNat)else none
 | _=>none
B5 DQ{i:Int}(h:lim i=NU):-100000≤i∧i≤100000:=of_decide_eq_true h
B5 Dj{tg:AK}{p:Pos}(hg:Gl X "range") (hm:X.mg "range" = none) (ha:XA K X [a] tA fs) (hs:AJ [a] X.env=[(NV,AU a X.env)]:=by rfl):XI K X tg (.Call (.Name "range" p) [a] [] pos) (aBK tA) (rA fs):=⟨ha.hk,Wx hg hm ha.pa hs,λσ H Z e ds R z re q k=>by
 B4 rA at q;B3⟨es,q1,q2⟩:=aZ q;split at q2
 ·rename_i n;split at q2
  ·rename_i hl;cases q2;have hl:=DQ hl;&ha.ev σ H Z e _ _ z re q1 λvs H1 Z1 s1 t1 z1 rs=>?_;B3⟨v,rfl,r⟩:=rW rs;B4 Rv at r;subst r;~⟨n,U,by omega,by omega,k _ H1 Z1 _ _ s1 t1 z1 Kz (λ_ _=>True.intro) (Le 0 n.toNat)⟩
  ·cases q2
 ·cases q2⟩
def nZ(e:DE)(fr:List Nat):DE:=fr.map λi=>(e[i]?).getD none
B5 vm{H:Hp}{e:DE}{σ:St}{fr:List Nat}{d:D}{x:V}(re:yE K H e σ)(r:Rv K H d x):yE K H (NR d::nZ e fr) (NR x::Vv σ fr):=λi d' h=>by
 cases i with
 | zero=>simp at h;subst h;~⟨x,rfl,r⟩
 | succ i=>
  rw[R5]at h ⊢;B4 nZ at h;B4 Vv;rw[C5]at h ⊢;cases q:fr[i]? with
  | none=>rw[q]at h;cases h
  | some j=>
   rw[q]at h;have h:(e[j]?).getD none=NR d':=E6 h;have h2:e[j]?=NR (NR d'):=by
    cases q2:e[j]? with
    | none=>rw[q2]at h;cases h
    | some o=>rw[q2]at h;rw[show o=NR d' from h]
   B3⟨v,h3,h4⟩:=re j d' h2;&⟨v,?_,h4⟩;show NR (σ.getD j none)=_;rw[B7,h3];rfl
def pW(c:D→Option Bool)(el:D→Option D):List D→Option (List D)
 | []=>NR []
 | x::xs=>(c x).bind λb=>if b=NU then(el x).bind λy=>(pW c el xs).map (y::·)else pW c el xs
def eE(fi:FA)(fr:List Nat)(fc:FT)(fe:FE):FE:=λe=>(fi e).bind λxs=>if xs.length≤100000 then(pW (λx=>fc (NR x::nZ e fr)) (λx=>fe (NR x::nZ e fr)) xs).map D.lst else none
B5 uJ{H:Hp}{p:AF}{o:HO}(n:wN H p):Fq K H (upd H p o):=λa xs h=>h.upd n
B5 vo{wi:TI}{fi:FA}{fr:List Nat}{te:TE}{fe:FE}(hi:EvI K wi fi)(hc:aj K tc fc)(he:Nq K te fe):Nq K (Rg wi 1 fr (iZ 0) tc te) (eE fi fr fc fe):=by
 intro σ H e d Q re q k;B4 eE at q;B3⟨xs,q1,q⟩:=aZ q;split at q
 ·rename_i hlen;B3⟨ds,q2,rfl⟩:=kJ q;&hi σ H H e xs _ OW re q1 λJ H1 Z1 P vs s1 t1 z1 hJ hP rvs=>?_;intro D0 hD;have hl:=rvs.length;have hHD:H D0=none:=s1.free hD;generalize hcc:(λx=>fc (NR x::nZ e fr))=cc at q2;generalize hel:(λx=>fe (NR x::nZ e fr))=el at q2;&⟨λi m ys H2=>∃ds1 ds2 A,m=vs.length-i∧i≤vs.length∧ds=ds1++ds2∧pW cc el (xs.drop i)=NR ds2∧aW H1 H2∧H2 D0=NR (.lst ys)∧eQ K H2 ds1 A ys∧(∀a,A a→H1 a=none∧a≠D0)∧ys.length≤i,
   ⟨vs.length,[],ds,nil,by simp,L5 _,U,by simpa using q2,cR hD _,cA,by B4 eQ;~⟨λ_ z=>z,U⟩,λ_ z=>z.elim,C9 _⟩,?_⟩
  rintro i m ys H2 ⟨ds1,ds2,A,rfl,hi',hds,hcl,s2,hD2,ow,fr2,hyl⟩;B3⟨j1,j2,j3⟩:=hJ i H2 (hP H2 (z1.sm.trans s2));&⟨hD2,?_⟩;by_cases hlt:i<vs.length
  ·&.inr ⟨j1 hlt,λx H' y=>?_⟩;B3⟨e1,ex⟩:=j2 x H' y;subst e1;have hx:=ex hlt;have hxi:i<xs.length:=by omega
   have hxs:xs.drop i=xs[i]::xs.drop (i+1):=L8 hxi;B3⟨x',hx',rx⟩:=rvs.get (B6 hxi);rw[hx]at hx';cases hx';rw[hxs]at hcl;B4 pW at hcl;B3⟨bb,c1,c2⟩:=aZ hcl;show Kp 1 σ fr (NR x::Vv σ fr)∧_;&⟨⟨by simp[blk],λj v hv=>?_⟩,?_⟩
   ·cases j with
    | zero=>simp[blk]at hv
    | succ j=>simpa[blk]using hv
   have re2:yE K H' (NR xs[i]::nZ e fr) (NR x::Vv σ fr):=vm (re.same OS) ((z1.sm.trans s2).rv _ _ rx);&hc _ H' _ bb _ re2 (by rw[←hcc]at c1;~c1) λH3 s3=>?_;have hD3:=s3 _ _ hD2;cases bb with
   | false=>rw[if_neg A8]at c2 ⊢;~⟨vs.length-(i+1),by omega,ds1,ds2,A,U,by omega,hds,c2,s2.trans s3,hD3,ow.same s3,fr2,by omega⟩
   | true=>
    rw[if_pos rfl]at c2 ⊢;B3⟨dy,c3,c4⟩:=aZ c2;B3⟨ds3,c5,rfl⟩:=kJ c4;&he _ H3 _ dy _ (re2.same s3) (by rw[←hel]at c3;~c3) λyv H4 s4 n4=>?_;have hD4:=s4 _ _ hD3;&⟨hD4,Nt A6,vs.length-(i+1),by omega,ds1++[dy],ds3,?_⟩;B3⟨B,oB,fB⟩:=n4;have hB:∀a,B a→H1 a=none∧a≠D0:=λa qa=>⟨(s2.trans s3).free (fB a qa),λz=>by have q0:=fB a qa;rw[z,hD3]at q0;cases q0⟩
    &⟨gG A B,U,by omega,by rw[hds];simp,c5,λb o eb=>?_,cA,?_,λa qa=>qa.elim (fr2 a) (hB a),by rw[D1];simp;~hyl⟩
    ·rw[bQ (iI eb hD)];~(s2.trans (s3.trans s4)) b o eb
    ·have o4:=(ow.same s3).same s4;have ap:Apart A B:=λa qa qb=>by B3⟨⟨u,eu⟩,_⟩:=eQ.cells _ _ _ (ow.same s3) a qa;rw[fB a qb]at eu;cases eu
     have all:eQ K H4 (ds1++[dy]) (gG A B) (ys++[yv]):=cQ.mpr ((cQ.mp o4).snoc oB ap);~eQ.frame (uJ (tZ hD4)) _ _ _ all λa qa=>bQ (qa.elim (λz=>(fr2 a z).2) λz=>(hB a z).2)
  ·have ei:i=vs.length:=by omega
   subst ei;have:xs.drop vs.length=[]:=g8 A6;rw[this]at hcl;B4 pW at hcl;cases hcl;rw[F0]at hds;subst hds;&.inl ⟨j3 (C9 _),k _ H2 OS ⟨gG (·=D0) A,?_,λa qa=>qa.elim (λz=>by cases z;~hHD) λz=>s1.free (fr2 a z).1⟩⟩;B4 Ow;~⟨D0,ys,A,U,hD2,λz=>(fr2 D0 z).2 U,λ_=>Iff.rfl,ow⟩
 ·cases q
def gP:FT:=λ_=>NR NU
structure XTs(K:aG)(X:Cx)(ifs:List AK)(t:TT)(f:FT):Prop where
 pts:PTs X ifs t
 ev:aj K t f
B5 jC:XTs K X [] aJP gP:=⟨aEM,λσ H e b Q re q k=>by cases q;~k H OC⟩
B5 Pq(h:XT K X c tc fc):XTs K X [c] tc fc:=⟨aEN h.pt,h.ev⟩
B5 jV{tg elt iter:AK}{ifs:List AK}{scope:BQ}{wi:TI}{fi:FA}{te:TE}{fe:FE}(N:List Str)(fr:List Nat)(hcalm:X.calm=NU)(B:lC X.env.scope scope X.N N 1 fr)(hi:XI K X tg iter wi fi)
  (hg:∀cl fp s H C,PG OI tg (iZ 0)) (hc:∀cl fp s H C,XTs K OI ifs tc fc) (he:∀cl fp s H C,XN K OI elt te fe)
  (hs:∀x,BD iter X.env x=pure x:=by intro _;rfl):XN K X OP (Rg wi 1 fr (iZ 0) tc te) (eE fi fr fc fe):=
 ⟨hi.hk,uq N 1 fr hcalm B hi.pi hg (λcl fp s H C=>(hc cl fp s H C).pts) (λcl fp s H C=>(he cl fp s H C).pe) hs,
  vo hi.ev (hc [] [] X.s₀ X.H₀ 0).ev (he [] [] X.s₀ X.H₀ 0).ev⟩
def gW(K:aG)(n:Nat)(F:List D→Option D):Sp:=λvs H Q _=>∃ds d,ds.length=n∧eO K H ds vs∧F ds=NR d∧∀v H',aW H H'→Rp K H H' d v→Q v H'
def cJ(n:Nat)(F:List D→Option D)(fs:FA):FE:=λe=>(fs e).bind λds=>if ds.length=n then F ds else none
B5 cC{x:Str}{k n:Nat}{F:List D→Option D}{p:Pos}(C:oF X.prog X.w X.K X.mg X.base x k n (gW K n F))(hr:lB k X.A)(hg:Gl X x)(ha:XA K X (e::es) tA fs)(hdb:OH=NV:=by decide)
  (he:AJ (e::es) X.env=(NV,AU e X.env)::AJ es X.env:=by rfl) (hpl:(Au pos (AJ es X.env)).any (·.1)=NV:=by rfl):XN K X (.Call (.Name x p) (e::es) [] pos) (Wz (gW K n F) [] E0 tA) (cJ n F fs):=
 ⟨ha.hk,aCd C hr hg ha.pa hdb he hpl,λσ H e d Q re q k=>by
  B4 cJ at q;B3⟨ds,q1,q2⟩:=aZ q;split at q2
  ·rename_i hl;&call_of (ha.ev σ H H e ds _ OW re q1 λvs H1 Z1 s1 t1 z1 rs=>?_);~⟨ds,d,hl,z1.sm.uw _ _ rs,q2,λv H2 s2 n=>k v H2 OS (n.back s1)⟩
  ·cases q2⟩
end
end L2


namespace L2
open PySem PySem.Spec PyProof.Rows
inductive SD where
  | no | fro (d:D) | own (d:D) | inn (v:V) (d:D)
def SD.z:SD→Option D
 | .fro d=>NR d
 | .own d=>if d.jH=NU then NR d else none
 | .inn _ d=>if d.jH=NU then NR d else none
 | .no=>none
def SD.r:SD→Option D
 | .fro d=>NR d
 | .own d=>NR d
 | .inn _ d=>NR d
 | .no=>none
abbrev EN:=List SD
def zE(env:EN):DE:=env.map SD.z
def rE(env:EN):DE:=env.map SD.r
def gY(K:aG)(H Z:Hp):SD→Fp→Option V→Prop
 | .no,A,_=>None A
 | .fro d,A,y=>None A∧∃v,y=NR v∧Rv K Z d v
 | .own d,A,y=>∃v,y=NR v∧Ow K H d A v
 | .inn v d,A,y=>y=NR v∧Ow K H d A v
def Rel(K:aG)(B:Hp)(env:EN)(σ:St)(H:Hp):Prop:=∃A,fY (gY K H (out H A)) env A σ∧aW B (out H A)
section
variable{K:aG}{B B' H H' Z Z':Hp}{env:EN}{σ:St}{A:Fp}
B5 fY.all{α β:Type}{R:α→Fp→β→Prop}{Pr:AF→Prop}:∀{ds:List α} {A:Fp} {ys:List β},fY R ds A ys→(∀d B y,R d B y→∀a,B a→Pr a)→∀a,A a→Pr a
 | [],A,ys,h,_,a,q=>absurd q (h.1 a)
 | d::ds,A,ys,⟨y,yt,A1,A2,h1,h2,h3,h4,h5⟩,m,a,q=>((h3 a).mp q).elim (m _ _ _ h4 a) (fY.all h5 m a)
B5 gY.cells{s:SD}{y:Option V}(h:gY K H Z s A y):∀a,A a→oG H a:=by
 cases s with
 | no=>~λa q=>absurd q (h a)
 | fro d=>~λa q=>absurd q (h.1 a)
 | own d=>B3⟨v,_,o⟩:=h;~Ow.cells d A v o
 | inn v d=>~Ow.cells d A v h.2
B5 iR(h:fY (gY K H Z) env A σ):∀a,A a→oG H a:=fY.all h λ_ _ _ q=>q.cells
B5 Rel.len(h:Rel K B env σ H):σ.length=env.length:=let ⟨_,s,_⟩:=h;s.len
B5 Rel.mono(h:Rel K B' env σ H)(s:aW B B'):Rel K B env σ H:=let ⟨A,a,b⟩:=h;⟨A,a,s.trans b⟩
B5 bT{A A':Fp}(s:aW H H')(h:∀a,A' a→A a∨H a=none):aW (out H A) (out H' A'):=λb o e=>by
 B3⟨e1,e2⟩:=bF.mp e;&bF.mpr ⟨λq=>?_,s b o e2⟩;rcases h b q with q | q
 ·~e1 q
 ·rw[q]at e2;cases e2
B5 gY.same{s:SD}{y:Option V}(h:gY K H Z s A y)(e:aW H H')(z:aW Z Z'):gY K H' Z' s A y:=by
 cases s with
 | no=>~h
 | fro d=>B3⟨h1,v,h2,h3⟩:=h;~⟨h1,v,h2,z.rv _ _ h3⟩
 | own d=>B3⟨v,h1,h2⟩:=h;~⟨v,h1,h2.same e⟩
 | inn v d=>~⟨h.1,h.2.same e⟩
B5 Rel.same(h:Rel K B env σ H)(s:aW H H'):Rel K B env σ H':=by B3⟨A,a,b⟩:=h;have g:aW (out H A) (out H' A):=bT s λa q=>.inl q;~⟨A,a.mono λe C z _ q=>q.same s g,b.trans g⟩
B5 Fz(h:fY (gY K H (out H A)) env A σ):Zn K A (out H A) H:=⟨jA H A,Ro λa q=>(iR h a q).2,λa q=>⟨by
 B4 out;rw[if_pos q],λz=>by B3⟨⟨o,e⟩,_⟩:=iR h a q;rw[z]at e;cases e⟩⟩
B5 Rel.r(h:Rel K B env σ H):yE K H (rE env) σ:=λi d q=>by
 B3⟨A,a,b⟩:=h;B4 rE at q;rw[C5]at q;cases e:env[i]? with
 | none=>rw[e]at q;cases q
 | some s=>
  rw[e]at q;B3⟨y,A1,C,h1,h2,h3,h4,_⟩:=a.focus e;cases s with
  | no=>cases q
  | fro d0=>cases q;B3⟨_,v,rfl,h5⟩:=h4;~⟨v,h1,(jA H A).rv _ _ h5⟩
  | own d0=>cases q;B3⟨v,rfl,h5⟩:=h4;~⟨v,h1,Ow.rv _ _ _ h5⟩
  | inn v d0=>cases q;B3⟨rfl,h5⟩:=h4;~⟨v,h1,Ow.rv _ _ _ h5⟩
B5 aGz(a:fY (gY K H (out H A)) env A σ):yE K (out H A) (zE env) σ:=λi d q=>by
 B4 zE at q;rw[C5]at q;cases e:env[i]? with
 | none=>rw[e]at q;cases q
 | some s=>
  rw[e]at q;B3⟨y,A1,C,h1,h2,h3,h4,_⟩:=a.focus e;cases s with
  | no=>cases q
  | fro d0=>cases q;B3⟨_,v,rfl,h5⟩:=h4;~⟨v,h1,h5⟩
  | own d0=>
   B3⟨v,rfl,h5⟩:=h4;have q:(if d0.jH=NU then NR d0 else none)=NR d:=E6 q;split at q
   ·rename_i im;cases q;~⟨v,h1,(Ay _ v im (Ow.rv _ _ _ h5)).out (λ_ z=>z.elim) λx hx=>(iR a x hx).2⟩
   ·cases q
  | inn v d0=>
   B3⟨rfl,h5⟩:=h4;have q:(if d0.jH=NU then NR d0 else none)=NR d:=E6 q;split at q
   ·rename_i im;cases q;~⟨v,h1,(Ay _ v im (Ow.rv _ _ _ h5)).out (λ_ z=>z.elim) λx hx=>(iR a x hx).2⟩
   ·cases q
B5 Rel.own{i:Nat}{d:D}{v:V}(h:Rel K B env σ H)(hi:i<env.length)(s:aW H H')(n:Rp K H H' d v):Rel K B (env.set i (.own d)) (σ.set i (NR v)) H':=by B3⟨A,a,b⟩:=h;B3⟨N,o,f⟩:=n;have cl:=iR a;B3⟨y,A1,C,h1,h2,h3,h4,k⟩:=a.focus (B6 hi);have g:aW (out H A) (out H' (gG N C)):=bT s λx q=>q.elim (λq=>.inr (f x q)) λq=>.inl ((h3 x).mpr (.inr q));&⟨gG N C,k (gY K H' (out H' (gG N C))) (λe D z _ q=>q.same s g) (.own d) (NR v) N (λx q c=>?_) ⟨v,U,o⟩,b.trans g⟩;B3⟨⟨u,e⟩,_⟩:=cl x ((h3 x).mpr (.inr c));rw[f x q]at e;cases e
B5 Il{i:Nat}{d:D}{v:V}(a:fY (gY K H (out H A)) env A σ)(b:aW B (out H A))(hi:i<env.length)(s:aW H H')(t:aW (out H A) Z')(z:Zn K A Z' H')(r:Rv K Z' d v):Rel K B (env.set i (.fro d)) (σ.set i (NR v)) H':=by B3⟨y,A1,C,h1,h2,h3,h4,k⟩:=a.focus (B6 hi);have hC:∀x,gG nil C x→A x:=λx q=>q.elim False.elim λq=>(h3 x).mpr (.inr q);have g:aW (out H A) (out H' (gG nil C)):=bT s λx q=>.inl (hC x q);have g2:aW Z' (out H' (gG nil C)):=λx o e=>bF.mpr ⟨λq=>(by rw[(z.no x (hC x q)).1]at e;cases e),z.sm x o e⟩;~⟨gG nil C,k (gY K H' (out H' (gG nil C))) (λe D z _ q=>q.same s g) (.fro d) (NR v) nil (λx q c=>q) ⟨λ_ z=>z,v,U,g2.rv _ _ r⟩,b.trans g⟩
def aCs(env:EN)(j:Nat):EN:=match env[j]? with
 | some (.own d)=>env.set j (.fro d)
 | _=>env
def Al(js:List Nat)(env:EN):EN:=js.foldl aCs env
B5 set_same{α:Type}{l:List α}{i:Nat}{x:α}(h:l[i]?=NR x):l.set i x=l:=by
 apply K5;intro j;rw[G8];by_cases c:i=j
 ·subst c;rw[if_pos U,h];split
  ·rfl
  ·rename_i q;rw[D9 A6]at h;cases h
 ·rw[if_neg c]
B5 Rel.aCs{j:Nat}(h:Rel K B env σ H):Rel K B (aCs env j) σ H:=by
 B4 L2.aCs;cases e:env[j]? with
 | none=>~h
 | some s=>
  cases s with
  | no=>~h
  | fro d=>~h
  | inn v d=>~h
  | own d=>
   B3⟨A,a,b⟩:=h;have cl:=iR a;B3⟨y,A1,C,h1,h2,h3,h4,k⟩:=a.focus e;B3⟨v,rfl,o⟩:=h4;have g:aW (out H A) (out H (gG nil C)):=bT OC λx q=>q.elim False.elim λq=>.inl ((h3 x).mpr (.inr q));have:=k (gY K H (out H (gG nil C))) (λe D z _ q=>q.same OC g) (.fro d) (NR v) nil (λx q c=>q)
    ⟨λ_ z=>z,v,U,o.out (λx q c=>h2 x q (c.elim False.elim id)) λx q=>(cl x ((h3 x).mpr (.inr (q.elim False.elim id)))).2⟩
   rw[set_same h1]at this;~⟨gG nil C,this,b.trans g⟩
B5 Rel.Al{js:List Nat}(h:Rel K B env σ H):Rel K B (Al js env) σ H:=by
 B4 L2.Al
 induction js generalizing env with
 | nil=>~h
 | cons j js ih=>~ih h.aCs
end
inductive SR where
  | next (env:EN) | ret (d:D) | brk (env:EN) | cont (env:EN) | bad | rete (d:D) (env:EN)
def Lf(K:aG)(B:Hp)(E:Ends):SR→Prop
 | .next env=>∀σ H,Rel K B env σ H→E.nx σ H
 | .ret d=>∀v H A,aW B (out H A)→Ow K H d A v→E.rt v H
 | .brk env=>∀σ H,Rel K B env σ H→E.bk σ H
 | .cont env=>∀σ H,Rel K B env σ H→E.ct σ H
 | .bad=>False
 | .rete d env=>∀v σ H,Rel K B (env++[.own d]) (σ++[NR v]) H→E.rt v H
B5 Lf.mono{K:aG}{B B':Hp}{E:Ends}{r:SR}(h:Lf K B E r)(s:aW B B'):Lf K B' E r:=by
 cases r with
 | next env=>~λσ H q=>h σ H (q.mono s)
 | ret d=>~λv H A q=>h v H A (s.trans q)
 | brk env=>~λσ H q=>h σ H (q.mono s)
 | cont env=>~λσ H q=>h σ H (q.mono s)
 | bad=>~h
 | rete d env=>~λv σ H q=>h v σ H (q.mono s)
abbrev GS:=EN→SR
def DS(K:aG)(t:TS)(g:GS):Prop:=∀(B:Hp)(E:Ends)(σ:St)(H:Hp)(env:EN),Rel K B env σ H→Lf K B E (g env)→t E σ H
def aJ1(K:aG)(B:Hp)(E:Ends)(σ:St):SR→Prop
 | .next env=>∀H,Rel K B env σ H→E.nx σ H
 | r=>Lf K B E r
def DSs(K:aG)(t:TS)(g:GS):Prop:=∀(B:Hp)(E:Ends)(σ:St)(H:Hp)(env:EN),Rel K B env σ H→aJ1 K B E σ (g env)→t E σ H
B5 DSs.ds{K:aG}{t:TS}{g:GS}(h:DSs K t g):DS K t g:=λB E σ H env r p=>h B E σ H env r (by
 cases q:g env with
 | next e=>rw[q]at p;~λH' r'=>p σ H' r'
 | ret d=>rw[q]at p;~p
 | brk e=>rw[q]at p;~p
 | cont e=>rw[q]at p;~p
 | bad=>rw[q]at p;~p
 | rete d e=>rw[q]at p;~p)
structure YS(K:aG)(X:Cx)(st:AO)(t:TS)(g:GS):Prop where
 ps:PS X st t
 ev:DS K t g
structure YB(K:aG)(X:Cx)(st:List AO)(t:TS)(g:GS):Prop where
 ps:NT X st t
 ev:DS K t g
section
variable{K:aG}{X:Cx}{st:AO}{sts:List AO}{t u:TS}{g g1 g2:GS}{e a b c:AK}{te ta tb:TE}{f fa fb:FE}{tc:TT}{fc:FT}{pos:Pos}
def aY(g1 g2:GS):GS:=λenv=>match g1 env with
 | .next env'=>g2 env'
 | r=>r
B5 aH6(h1:DS K t g1)(h2:DS K u g2):DS K (aHi t u) (aY g1 g2):=λB E σ H env r p=>by
 B4 aY at p;&h1 B {E with nx:=u E} σ H env r ?_;cases q:g1 env with
 | next env'=>rw[q]at p;~λσ' H' r'=>h2 B E σ' H' env' r' p
 | ret d=>rw[q]at p;~p
 | brk d=>rw[q]at p;~p
 | cont d=>rw[q]at p;~p
 | bad=>rw[q]at p;~p
 | rete d e=>rw[q]at p;~p
def fM:GS:=λenv=>.next env
B5 fZ:YB K X [] aGe fM:=⟨aEo,λB E σ H env r p=>p σ H r⟩
B5 aX(h:YS K X st t g):YB K X [st] t g:=⟨aEp h.ps,h.ev⟩
B5 aO(h:YS K X st t g1)(h2:YB K X sts u g2):YB K X (st::sts) (aHi t u) (aY g1 g2):=⟨aBD h.ps h2.ps,aH6 h.ev h2.ev⟩
def cT(i:Nat)(f:FE):GS:=λenv=>match f (rE env)with
 | some d=>if i<env.length then .next (env.set i (.own d))else .bad
 | none=>.bad
B5 aCt{i:Nat}(h:Nq K te f):DS K (xX te (iZ i)) (cT i f):=λB E σ H env r p=>by
 B4 cT at p;split at p
 ·rename_i d q;split at p
  ·rename_i hi;~h σ H (rE env) d _ r.r q λv H' s n=>p _ _ (r.own hi s n)
  ·~p.elim
 ·~p.elim
B5 bO{i:Nat}{x:Str}{pos':Pos}(h:XN K X e te f)(hp:PE X e te→PS X (.Assign [.Name x pos'] e pos) (xX te (iZ i))):YS K X (.Assign [.Name x pos'] e pos) (xX te (iZ i)) (cT i f):=⟨hp h.pe,aCt h.ev⟩
def eY(f:FE):GS:=λenv=>match f (rE env)with
 | some d=>.ret d
 | none=>.bad
B5 bR(h:XN K X e te f):YS K X (.Return (NR e) pos) (aBE te) (eY f):=⟨Zy h.pe,λB E σ H env r p=>by
 B4 eY at p;split at p
 ·rename_i d q;&h.ev σ H (rE env) d _ r.r q λv H' s ⟨N,o,fr⟩=>p v H' N (λx u ex=>?_) o;B3⟨A,a,b⟩:=r;have h1:=(bF.mp (b x u ex)).2;~bF.mpr ⟨λz=>(by rw[fr x z]at h1;cases h1),s x u h1⟩
 ·~p.elim⟩
def Nv(i:Nat):GS:=λenv=>match env[i]? with
 | some (.own d)=>.ret d
 | some (.fro d)=>if d.jH=NU then .ret d else .bad
 | _=>.bad
B5 DR{i:Nat}(h:PE X e (qM i)):YS K X (.Return (NR e) pos) (aBE (qM i)) (Nv i):=⟨Zy h,λB E σ H env r p=>by
 B4 Nv at p;B3⟨A,a,b⟩:=r;split at p
 ·rename_i d q;B3⟨y,A1,C,h1,h2,h3,h4,_⟩:=a.focus q;B3⟨v,rfl,o⟩:=h4;~⟨v,h1,p v H A1 (b.trans (bT OC λx z=>.inl ((h3 x).mpr (.inl z)))) o⟩
 ·rename_i d q;split at p
  ·rename_i im;B3⟨y,A1,C,h1,h2,h3,h4,_⟩:=a.focus q;B3⟨_,v,rfl,rv⟩:=h4;~⟨v,h1,p v H nil (b.trans (bT OC λx z=>z.elim)) (Ay d v im ((jA H A).rv _ _ rv))⟩
  ·~p.elim
 ·~p.elim⟩
def zU(f:FE):GS:=λenv=>match f (rE env)with
 | some _=>.next env
 | none=>.bad
B5 aE8(h:Ko K te f):DS K (oV te) (zU f):=λB E σ H env r p=>by
 B4 zU at p;split at p
 ·rename_i d q;~h σ H H (rE env) d _ OW r.r q λv H' Z' s t z rv=>p _ _ (r.same s)
 ·~p.elim
def qU(f:FT)(g1 g2:GS):GS:=λenv=>match f (rE env)with
 | some NU=>g1 env
 | some NV=>g2 env
 | none=>.bad
B5 iM{s1 s2:List AO}(hc:XT K X c tc fc)(h1:YB K X s1 t g1)(h2:YB K X s2 u g2):YS K X (.If c s1 s2 pos) (aJt tc t u) (qU fc g1 g2):=⟨aJu hc.pt h1.ps h2.ps,λB E σ H env r p=>by
 B4 qU at p;split at p
 ·rename_i q;&hc.ev σ H (rE env) NU _ r.r q λH' s=>?_;rw[if_pos rfl];~h1.ev B E σ H' env (r.same s) p
 ·rename_i q;&hc.ev σ H (rE env) NV _ r.r q λH' s=>?_;rw[if_neg A8];~h2.ev B E σ H' env (r.same s) p
 ·~p.elim⟩
def yK(i:Nat)(g:GS):List D→EN→SR
 | [],env=>.next env
 | x::xs,env=>if i<env.length then match g (env.set i (.fro x))with
   | .next env'=>yK i g xs env'
   | .cont env'=>yK i g xs env'
   | .brk env'=>.next env'
   | r=>r
  else .bad
def Wc(js:List Nat)(i:Nat)(fi:FA)(g:GS):GS:=λenv=>match fi (zE (Al js env))with
 | some xs=>yK i g xs (Al js env)
 | none=>.bad
B5 aH7{js:List Nat}{i:Nat}{wi:TI}{fi:FA}{tb:TS}(hi:EvI K wi fi)(h:DS K tb g):DS K (Qo wi (iZ i) tb) (Wc js i fi g):=λB E σ H env r p=>by
 B4 Wc at p;have r':Rel K B (Al js env) σ H:=r.Al;generalize Al js env=En at r' p;split at p
 ·rename_i xs q;B3⟨A,a,b⟩:=r';&hi σ H (out H A) (zE En) xs _ (Fz a) (aGz a) q λJ H1 Z1 P vs s t z hJ hP rvs=>?_;have hl:=rvs.length;have g0:aW Z1 (out H1 A):=λx o e=>bF.mpr ⟨λqa=>(by rw[(z.no x qa).1]at e;cases e),z.sm x o e⟩;have aCu:Rel K Z1 En σ H1:=⟨A,a.mono λe D y _ qq=>qq.same s (bT s λx q=>.inl q),g0⟩
  have bz:aW B Z1:=b.trans t;have p':=p.mono bz;&Hw hJ (λk σ2 H2=>∃cU,Rel K Z1 cU σ2 H2∧Lf K Z1 E (yK i g (xs.drop k) cU)) ⟨En,aCu,by simpa using p'⟩ (λk σ2 H2 _ ⟨cU,⟨A2,a2,b2⟩,_⟩=>hP H2 (b2.trans (jA H2 A2))) ?_ ?_
  ·rintro k x σ2 H2 hx ⟨cU,r2,p2⟩;have hk:k<xs.length:=by have:=D4.mp hx;B3⟨h1,_⟩:=this;omega
   rw[L8 hk]at p2;B4 yK at p2;B3⟨x',hx',rx⟩:=rvs.get (B6 hk);rw[hx]at hx';cases hx';split at p2
   ·rename_i hlen;B3⟨A2,a2,b2⟩:=r2;have r3:Rel K Z1 (cU.set i (.fro xs[k])) (σ2.set i (NR x)) H2:=Il a2 b2 hlen OC OC (Fz a2) (b2.rv _ _ rx);&h Z1 _ _ H2 _ r3 ?_;split at p2
    ·rename_i env' q2;rw[q2];~λσ' H' r'=>⟨env',r',p2⟩
    ·rename_i env' q2;rw[q2];~λσ' H' r'=>⟨env',r',p2⟩
    ·rename_i env' q2;rw[q2];~p2
    ·rename_i n1 n2 n3;cases q2:g (cU.set i (.fro xs[k]))with
     | next e=>~absurd q2 (n1 e)
     | cont e=>~absurd q2 (n2 e)
     | brk e=>~absurd q2 (n3 e)
     | ret d=>rw[q2]at p2;~p2
     | bad=>rw[q2]at p2;~p2
     | rete d e=>rw[q2]at p2;~p2
   ·~p2.elim
  ·rintro σ2 H2 ⟨cU,r2,p2⟩;rw[hl,S8]at p2;~p2 σ2 H2 r2
 ·~p.elim
def rY(c:FT)(g:GS):Nat→EN→SR
 | 0,_=>.bad
 | n+1,env=>match c (rE env)with
  | some NU=>(match g env with
   | .next env'=>rY c g n env'
   | .cont env'=>rY c g n env'
   | .brk env'=>.next env'
   | r=>r)
  | some NV=>.next env
  | none=>.bad
B5 aCv{n:Nat}{tb:TS}(hc:aj K tc fc)(h:DS K tb g):DS K (az tc tb) (rY fc g n):=λB E σ H env r p=>by
 &⟨λm σ2 H2=>∃cU,Rel K B cU σ2 H2∧Lf K B E (rY fc g m cU),⟨n,env,r,p⟩,?_⟩;rintro m σ2 H2 ⟨cU,r2,p2⟩;cases m with
 | zero=>~p2.elim
 | succ m=>
  B4 rY at p2;split at p2
  ·rename_i q;&hc σ2 H2 (rE cU) NU _ r2.r q λH3 s=>?_;rw[if_pos rfl];&⟨λσ' H'=>∃env',Rel K B env' σ' H'∧Lf K B E (rY fc g m env'),λσ' H' ⟨env',a1,a2⟩=>⟨m,N2 m,env',a1,a2⟩,?_⟩;&h B _ σ2 H3 cU (r2.same s) ?_;split at p2
   ·rename_i env' q2;rw[q2];~λσ' H' r'=>⟨env',r',p2⟩
   ·rename_i env' q2;rw[q2];~λσ' H' r'=>⟨env',r',p2⟩
   ·rename_i env' q2;rw[q2];~p2
   ·rename_i n1 n2 n3;cases q2:g cU with
    | next e=>~absurd q2 (n1 e)
    | cont e=>~absurd q2 (n2 e)
    | brk e=>~absurd q2 (n3 e)
    | ret d=>rw[q2]at p2;~p2
    | bad=>rw[q2]at p2;~p2
    | rete d e=>rw[q2]at p2;~p2
  ·rename_i q;&hc σ2 H2 (rE cU) NV _ r2.r q λH3 s=>?_;rw[if_neg A8];~p2 σ2 H3 (r2.same s)
  ·~p2.elim
B5 DW{tg iter:AK}{body:List AO}{wi:TI}{fi:FA}{tb:TS}{i:Nat}(js:List Nat)(hp:EC Nl X.A X.env X.xe)(DX:X.calm=NU)(hi:XI K X tg iter wi fi)(hg:PG X tg (iZ i))(hb:YB K X body tb g)
  (hs:∀x,BD iter X.env x=pure x:=by intro _;rfl):YS K X (.For tg iter body [] pos) (Qo wi (iZ i) tb) (Wc js i fi g):=⟨Qq hp DX hi.pi hg hb.ps hs,aH7 hi.ev hb.ev⟩
B5 aCw{body:List AO}{tb:TS}(n:Nat)(hp:EC Nl X.A X.env X.xe)(hc:XT K X c tc fc)(hb:YB K X body tb g):YS K X (.While c body [] pos) (az tc tb) (rY fc g n):=⟨aBH hp hc.pt hb.ps,aCv hc.ev hb.ev⟩
end
end L2


namespace L2
open PySem PySem.Spec PyProof.Rows
inductive Step where
  | ix (k:Nat) | key (k:Key) | fld (C:AF) (f:Str)
def kids:D→List D
 | .lst ds=>ds
 | .dk _ ds=>ds
 | .ins _ _ ds=>ds
 | _=>[]
def Im:D→List D→D
 | .lst _,ds=>.lst ds
 | .dk ks _,ds=>.dk ks ds
 | .ins C nm _,ds=>.ins C nm ds
 | d,_=>d
def Eo:Step→D→Option Nat
 | .ix k,.lst ds=>NR k
 | .key k,.dk ks _=>posK ks k
 | .fld C f,.ins C' nm _=>if C'=C then posK nm f else none
 | _,_=>none
def gJ:List Step→D→Option D
 | [],d=>NR d
 | s::p,d=>(Eo s d).bind λj=>((kids d)[j]?).bind (gJ p)
def fO:List Step→D→D→D
 | [],_,d'=>d'
 | s::p,d,d'=>match Eo s d with
  | some j=>(match (kids d)[j]? with
   | some c=>Im d ((kids d).set j (fO p c d'))
   | none=>d)
  | none=>d
def stepV(H:Hp)(s:Step)(v:V):Option V:=match v with
 | .ref a=>(match s,H a with
  | .ix k,NR (.lst xs)=>xs[k]?
  | .key k,NR (.dK kvs)=>xZ kvs k
  | .fld C f,NR (.ins C' _ fs)=>if C'=C then fs.lookup f else none
  | _,_=>none)
 | _=>none
def Oq(H:Hp):List Step→V→Option V
 | [],v=>NR v
 | s::p,v=>(stepV H s v).bind (Oq H p)
B5 ir{H H':Hp}(e:aW H H'){s:Step}{v w:V}(h:stepV H s v=NR w):stepV H' s v=NR w:=by
 cases v with
 | ref a=>
  B4 stepV at h ⊢;dsimp only at h ⊢;cases q:H a with
  | none=>rw[q]at h;cases s<;>cases h
  | some o=>rw[e a o q];rw[q]at h;~h
 | _=>B4 stepV at h;cases h
B5 Bd{H H':Hp}(e:aW H H'):∀{p:List Step} {v w:V},Oq H p v=NR w→Oq H' p v=NR w
 | [],v,w,h=>h
 | s::p,v,w,h=>by B4 Oq at h ⊢;B3⟨u,h1,h2⟩:=aZ h;rw[ir e h1];~Bd e h2
B5 Ga{nm:List Str}{xs:List V}{f:Str}(h:nm.length=xs.length):(nm.zip xs).lookup f=(posK nm f).bind λj=>xs[j]?:=by
 induction nm generalizing xs with
 | nil=>B4 posK;rfl
 | cons a nm ih=>
  cases xs with
  | nil=>simp at h
  | cons x xs=>
   have ih:=ih (xs:=xs) (by simpa using h);B4 posK;rw[R7,V7];by_cases c:a=f
   ·subst c;simp
   ·have c2:(f==a)=NV:=by rw[beq_eq_false_iff_ne];~λz=>c z.symm
    rw[c2,if_neg c,ih];cases posK nm f<;>rfl
B5 Ow.kids{K:aG}{H:Hp}{d:D}{A:Fp}{v:V}{s:Step}{j:Nat}(h:Ow K H d A v)(q:Eo s d=NR j):∃xs T Bt,(∀x,xs[j]?=NR x→stepV H s v=NR x)∧eQ K H (kids d) Bt xs∧Is A (gG T Bt)∧Apart T Bt ∧
  ∀H' ds' B',ds'.length=(kids d).length→eQ K H' ds' B' xs→(∀a,T a→H' a=H a)→Apart T B'→Ow K H' (Im d ds') (gG T B') v:=by
 cases d with
 | lst ds=>
  B4 Ow at h;B3⟨a,xs,B,rfl,h2,h3,h4,h5⟩:=h;cases s with
  | ix k=>
   B4 Eo at q;cases q;&⟨xs,(·=a),B,λx hx=>?_,h5,h4,λx qx qb=>h3 (qx▸qb),λH' ds' B' hl o f ap=>?_⟩
   ·B4 stepV;dsimp only;rw[h2];~hx
   ·show Ow K H' (.lst ds') _ _;B4 Ow;~⟨a,xs,B',U,(f a U).trans h2,ap a U,λ_=>Iff.rfl,o⟩
  | _=>B4 Eo at q;cases q
 | dk ks ds=>
  B4 Ow at h;B3⟨a,xs,B,rfl,h2,h2',h3,h4,h5⟩:=h;cases s with
  | key k=>
   have q:posK ks k=NR j:=q;&⟨xs,(·=a),B,λx hx=>?_,h5,h4,λx qx qb=>h3 (qx▸qb),λH' ds' B' hl o f ap=>?_⟩
   ·B4 stepV;dsimp only;rw[h2];show xZ (ks.zip xs) k=_;rw[uH h2',q];~hx
   ·show Ow K H' (.dk ks ds') _ _;B4 Ow;~⟨a,xs,B',U,(f a U).trans h2,h2',ap a U,λ_=>Iff.rfl,o⟩
  | _=>B4 Eo at q;cases q
 | ins C nm ds=>
  B4 Ow at h;B3⟨a,dx,xs,B,rfl,h2,h2',h3,h3',h3'',h4,h5⟩:=h;cases s with
  | fld C0 k=>
   have q:(if C=C0 then posK nm k else none)=NR j:=q;by_cases hc:C=C0
   rotate_left
   ·rw[if_neg hc]at q;cases q
   rw[if_pos hc]at q;&⟨xs,(λx=>x=a∨x=dx),B,λx hx=>?_,h5,h4,λx qx qb=>qx.elim (λz=>h3' (z▸qb)) λz=>h3'' (z▸qb),λH' ds' B' hl o f ap=>?_⟩
   ·B4 stepV;dsimp only;rw[h2];show (if C=C0 then(nm.zip xs).lookup k else none)=_;rw[if_pos hc,Ga h3,q];~hx
   ·show Ow K H' (.ins C nm ds') _ _;B4 Ow;~⟨a,dx,xs,B',U,(f a (.inl U)).trans h2,(f dx (.inr U)).trans h2',h3,ap a (.inl U),ap dx (.inr U),λ_=>Iff.rfl,o⟩
  | _=>B4 Eo at q;cases q
 | _=>cases s<;>(B4 Eo at q;cases q)
B5 Ow.at{K:aG}{H:Hp}:∀{p:List Step} {d d1:D} {A:Fp} {v:V},Ow K H d A v→gJ p d=NR d1→∃w A1 C,Oq H p v=NR w∧Apart A1 C∧Is A (gG A1 C)∧Ow K H d1 A1 w ∧
    ∀H' d' A',Apart A' C→(∀a,C a→H' a=H a)→Fq K H H'→Ow K H' d' A' w→Ow K H' (fO p d d') (gG A' C) v
  | [],d,d1,A,v,h,q=>by
    B4 gJ at q;cases q;~⟨v,A,nil,U,λ_ _ z=>z,λx=>⟨.inl,λz=>z.elim id False.elim⟩,h,λH' d' A' _ _ _ o=>o.congr λx=>⟨.inl,λz=>z.elim id False.elim⟩⟩
  | s::p,d,d1,A,v,h,q=>by
    B4 gJ at q;B3⟨j,q1,q2⟩:=aZ q;B3⟨c,q3,q4⟩:=aZ q2;B3⟨xs,T,Bt,k1,k2,k3,k4,k5⟩:=h.kids q1;B3⟨y,B1,C1,f1,f2,f3,f4,f5⟩:=(cQ.mp k2).focus q3;B3⟨w,A1,C2,g1,g2,g3,g4,g5⟩:=Ow.at f4 q4;&⟨w,A1,gG T (gG C1 C2),?_,?_,?_,g4,λH' d' A' ap fr tk o=>?_⟩
    · B4 Oq
      rw[k1 y f1];~g1
    · intro x qx qc
      have b1:B1 x:=(g3 x).mpr (.inl qx);rcases qc with qc | qc | qc
      · ~k4 x qc ((f3 x).mpr (.inl b1))
      · ~f2 x b1 qc
      · ~g2 x qx qc
    · intro x
      rw[k3 x];constructor
      · rintro(z | z)
        · ~.inr (.inl z)
        · rcases(f3 x).mp z with z | z
          · rcases(g3 x).mp z with z | z
            · ~.inl z
            · ~.inr (.inr (.inr z))
          · ~.inr (.inr (.inl z))
      · rintro(z | z | z | z)
        · ~.inr ((f3 x).mpr (.inl ((g3 x).mpr (.inl z))))
        · ~.inl z
        · ~.inr ((f3 x).mpr (.inr z))
        · ~.inr ((f3 x).mpr (.inl ((g3 x).mpr (.inr z))))
    · have o1:Ow K H' (fO p c d') (gG A' C2) y:=g5 H' d' A' (λx a b=>ap x a (.inr (.inr b))) (λa z=>fr a (.inr (.inr z))) tk o
      have ap1:Apart (gG A' C2) C1:=λx a b=>a.elim (λz=>ap x z (.inr (.inl b))) λz=>f2 x ((g3 x).mpr (.inr z)) b;have o2:=f5 (Ow K H') (λe B z hb qq=>Ow.frame tk e B z qq λa za=>fr a (.inr (.inl (hb a za)))) (fO p c d') y (gG A' C2) ap1 o1;rw[set_same f1]at o2;have o3:=k5 H' ((L2.kids d).set j (fO p c d')) _ (by rw[J5]) (cQ.mpr o2) (λa z=>fr a (.inl z)) (λx a b=>by
        rcases b with (b | b) | b
        · ~ap x b (.inl a)
        · ~k4 x a ((f3 x).mpr (.inl ((g3 x).mpr (.inr b))))
        · ~k4 x a ((f3 x).mpr (.inr b)))
      have e:fO (s::p) d d'=Im d ((L2.kids d).set j (fO p c d')):=by show (match Eo s d with | some j=>_ | none=>_)=_;rw[q1];show (match (L2.kids d)[j]? with | some c=>_ | none=>_)=_;rw[q3]
      rw[e];&o3.congr λx=>?_;show (T x∨(A' x∨C2 x)∨C1 x)↔(A' x∨T x∨C1 x∨C2 x)
      constructor
      · rintro(z | (z | z) | z)
        · ~.inr (.inl z)
        · ~.inl z
        · ~.inr (.inr (.inr z))
        · ~.inr (.inr (.inl z))
      · rintro(z | z | z | z)
        · ~.inr (.inl (.inl z))
        · ~.inl z
        · ~.inr (.inr z)
        · ~.inr (.inl (.inr z))
section
variable{K:aG}{B H:Hp}{env:EN}{σ:St}
B5 Rel.at{i:Nat}{p:List Step}{d0 d:D}(h:Rel K B env σ H)(e:env[i]?=NR (.own d0))(q:gJ p d0=NR d):∃v0 w A1 C,σ[i]?=NR (NR v0)∧Oq H p v0=NR w∧Ow K H d A1 w∧Apart A1 C∧(∀a,C a→oG H a) ∧
    ∀H' d' A',Apart A' C→(∀a,C a→H' a=H a)→Fq K H H'→Ow K H' d' A' w→aW (out H (gG A1 C)) (out H' (gG A' C))→Rel K B (env.set i (.own (fO p d0 d'))) σ H':=by
  B3⟨A,a,b⟩:=h;have cl:=iR a;B3⟨y,A1,C,h1,h2,h3,h4,k⟩:=a.focus e;B3⟨v0,rfl,o⟩:=h4;B3⟨w,B1,C1,g1,g2,g3,g4,g5⟩:=o.at q;&⟨v0,w,B1,gG C1 C,h1,g1,g4,λx z1 z2=>?_,λx z=>?_,λH' d' A' ap fr tk o' sm=>?_⟩
  · ~z2.elim (g2 x z1) (h2 x ((g3 x).mpr (.inl z1)))
  · ~cl x ((h3 x).mpr (z.elim (λz=>.inl ((g3 x).mpr (.inr z))) .inr))
  · have o2:=g5 H' d' A' (λx z1 z2=>ap x z1 (.inl z2)) (λx z=>fr x (.inl z)) tk o'
    have ap2:Apart (gG A' C1) C:=λx z1 z2=>z1.elim (λz=>ap x z (.inr z2)) λz=>h2 x ((g3 x).mpr (.inr z)) z2;have hA:Is A (gG B1 (gG C1 C)):=λx=>by
      rw[h3 x];constructor
      · rintro(z | z)
        · ~((g3 x).mp z).elim .inl λz=>.inr (.inl z)
        · ~.inr (.inr z)
      · rintro(z | z | z)
        · ~.inl ((g3 x).mpr (.inl z))
        · ~.inl ((g3 x).mpr (.inr z))
        · ~.inr z
    have g:aW (out H A) (out H' (gG (gG A' C1) C)):=λx u ex=>by B3⟨e1,e2⟩:=bF.mp ex;have:=sm x u (bF.mpr ⟨λz=>e1 ((hA x).mpr z),e2⟩);B3⟨e3,e4⟩:=bF.mp this;~bF.mpr ⟨λz=>e3 (z.elim (λz=>z.elim .inl λz=>.inr (.inl z)) λz=>.inr (.inr z)),e4⟩
    have s:=k (gY K H' (out H' (gG (gG A' C1) C))) (λs D z hb qq=>by
      cases s with
      | no=>~qq
      | fro d=>B3⟨q1,v,q2,q3⟩:=qq;~⟨q1,v,q2,g.rv _ _ q3⟩
      | inn v d=>~⟨qq.1,Ow.frame tk _ _ _ qq.2 λx zx=>fr x (.inr (hb x zx))⟩
      | own d=>B3⟨v,q1,q2⟩:=qq;~⟨v,q1,Ow.frame tk _ _ _ q2 λx zx=>fr x (.inr (hb x zx))⟩) (.own (fO p d0 d')) (NR v0) (gG A' C1) ap2 ⟨v0,U,o2⟩
    rw[set_same h1]at s;~⟨_,s,b.trans g⟩
B5 Rel.DY{i:Nat}{p:List Step}{d0:D}{ds:List D}(h:Rel K B env σ H)(e:env[i]?=NR (.own d0))(q:gJ p d0=NR (.lst ds)):∃v0 a xs Bs,σ[i]?=NR (NR v0)∧Oq H p v0=NR (.ref a)∧H a=NR (.lst xs)∧¬Bs a∧eQ K H ds Bs xs ∧
    ∀H2 ds' xs' Bn,aW H H2→eQ K H2 ds' Bn xs'→(∀b,Bn b→Bs b∨H b=none)→Rel K B (env.set i (.own (fO p d0 (.lst ds')))) σ (upd H2 a (.lst xs')):=by
  B3⟨v0,w,A1,C,h1,h2,h3,h4,h5,h6⟩:=h.at e q;B4 Ow at h3;B3⟨a,xs,Bs,rfl,o2,o3,o4,o5⟩:=h3;&⟨v0,a,xs,Bs,h1,h2,o2,o3,o5,λH2 ds' xs' Bn s o hb=>?_⟩;have nBa:¬Bn a:=λz=>(hb a z).elim o3 λz=>by rw[o2]at z;cases z
  have hC:∀x,C x→¬x=a:=λx z y=>h4 x ((o4 x).mpr (.inl y)) z;have Wd:H2 a=NR (.lst xs):=s a _ o2;&h6 _ (.lst ds') (gG (·=a) Bn) (λx z1 z2=>?_) (λx z=>?_) (s.tk.trans (uJ (tZ Wd))) ?_ (λx u ex=>?_)
  · rcases z1 with z1 | z1
    · ~hC x z2 z1
    · rcases hb x z1 with z | z
      · ~h4 x ((o4 x).mpr (.inr z)) z2
      · B3⟨⟨u,eu⟩,_⟩:=h5 x z2
        rw[z]at eu;cases eu
  · B3⟨⟨u,eu⟩,_⟩:=h5 x z
    rw[bQ (hC x z),eu,s x u eu]
  · B4 Ow
    &⟨a,xs',Bn,U,cA,nBa,λ_=>Iff.rfl,eQ.frame (uJ (tZ Wd)) _ _ _ o λx zx=>bQ λy=>nBa (y▸zx)⟩
  · B3⟨e1,e2⟩:=bF.mp ex
    have na:x≠a:=λy=>e1 (.inl ((o4 x).mpr (.inl y)));&bF.mpr ⟨λz=>?_,by rw[bQ na];~s x u e2⟩;rcases z with (z | z) | z
    · ~na z
    · rcases hb x z with z | z
      · ~e1 (.inl ((o4 x).mpr (.inr z)))
      · rw[z]at e2;cases e2
    · ~e1 (.inr z)
B5 Rel.aLL{i:Nat}{p:List Step}{d0:D}{ks:List Key}{ds:List D}(h:Rel K B env σ H)(e:env[i]?=NR (.own d0))(q:gJ p d0=NR (.dk ks ds)):∃v0 a xs Bs,σ[i]?=NR (NR v0)∧Oq H p v0=NR (.ref a)∧H a=NR (.dK (ks.zip xs))∧ks.length=xs.length∧¬Bs a∧eQ K H ds Bs xs ∧
    ∀H2 ks' ds' xs' Bn,aW H H2→ks'.length=xs'.length→eQ K H2 ds' Bn xs'→(∀b,Bn b→Bs b∨H b=none)→Rel K B (env.set i (.own (fO p d0 (.dk ks' ds')))) σ (upd H2 a (.dK (ks'.zip xs'))):=by
  B3⟨v0,w,A1,C,h1,h2,h3,h4,h5,h6⟩:=h.at e q;B4 Ow at h3;B3⟨a,xs,Bs,rfl,o2,o2',o3,o4,o5⟩:=h3;&⟨v0,a,xs,Bs,h1,h2,o2,o2',o3,o5,λH2 ks' ds' xs' Bn s hl o hb=>?_⟩;have nBa:¬Bn a:=λz=>(hb a z).elim o3 λz=>by rw[o2]at z;cases z
  have hC:∀x,C x→¬x=a:=λx z y=>h4 x ((o4 x).mpr (.inl y)) z;have Wd:H2 a=NR (.dK (ks.zip xs)):=s a _ o2;&h6 _ (.dk ks' ds') (gG (·=a) Bn) (λx z1 z2=>?_) (λx z=>?_) (s.tk.trans (uJ (Rm Wd))) ?_ (λx u ex=>?_)
  · rcases z1 with z1 | z1
    · ~hC x z2 z1
    · rcases hb x z1 with z | z
      · ~h4 x ((o4 x).mpr (.inr z)) z2
      · B3⟨⟨u,eu⟩,_⟩:=h5 x z2
        rw[z]at eu;cases eu
  · B3⟨⟨u,eu⟩,_⟩:=h5 x z
    rw[bQ (hC x z),eu,s x u eu]
  · B4 Ow
    &⟨a,xs',Bn,U,cA,hl,nBa,λ_=>Iff.rfl,eQ.frame (uJ (Rm Wd)) _ _ _ o λx zx=>bQ λy=>nBa (y▸zx)⟩
  · B3⟨e1,e2⟩:=bF.mp ex
    have na:x≠a:=λy=>e1 (.inl ((o4 x).mpr (.inl y)));&bF.mpr ⟨λz=>?_,by rw[bQ na];~s x u e2⟩;rcases z with (z | z) | z
    · ~na z
    · rcases hb x z with z | z
      · ~e1 (.inl ((o4 x).mpr (.inr z)))
      · rw[z]at e2;cases e2
    · ~e1 (.inr z)
end
end L2


namespace L2
open PySem PySem.Spec PyProof.Rows
abbrev FP:=DE→Option (List Step)
def EvP(K:aG)(t:TE)(i:Nat)(π:FP):Prop:=∀(σ:St)(H:Hp)(e:DE)(v0:V)(p:List Step)(v:V)(Q:VK),yE K H e σ→σ[i]?=NR (NR v0)→π e=NR p→Oq H p v0=NR v→(∀H',aW H H'→Q v H')→t σ H Q
structure XP(K:aG)(X:Cx)(e:AK)(t:TE)(i:Nat)(π:FP):Prop where
 hk:X.K=K
 pe:PE X e t
 ev:EvP K t i π
B5 Ss{H:Hp}{s:Step}:∀{p:List Step} {v0 v:V},Oq H (p++[s]) v0=NR v→∃w,Oq H p v0=NR w∧stepV H s w=NR v
 | [],v0,v,h=>by
  rw[d9]at h;B4 Oq at h;B3⟨w,h1,h2⟩:=aZ h;B4 Oq at h2;cases h2;~⟨v0,U,h1⟩
 | s'::p,v0,v,h=>by rw[R1]at h;B4 Oq at h;B3⟨u,h1,h2⟩:=aZ h;B3⟨w,h3,h4⟩:=Ss h2;&⟨w,?_,h4⟩;B4 Oq;rw[h1];~h3
B5 aCy{H:Hp}{k:Nat}{w v:V}(h:stepV H (.ix k) w=NR v):∃a xs,w=.ref a∧H a=NR (.lst xs)∧xs[k]?=NR v:=by
 cases w with
 | ref a=>
  B4 stepV at h;dsimp only at h;cases q:H a with
  | none=>rw[q]at h;cases h
  | some o=>
   rw[q]at h;cases o with
   | lst xs=>~⟨a,xs,U,q,h⟩
   | _=>cases h
 | _=>B4 stepV at h;cases h
def dC:FP:=λ_=>NR []
def EY(π:FP)(g:FE):FP:=λe=>(π e).bind λp=>(g e).bind λd=>match d with
 | .int k=>if 0≤k then NR (p++[.ix k.toNat])else none
 | _=>none
section
variable{K:aG}{X:Cx}{e a b c:AK}{es:List AK}{t ta tb te:TE}{f g:FE}{tA:TA}{fs:FA}{pos:Pos}{i j:Nat}{π:FP}{st:AO}
B5 iT(h:PE X e (qM i))(hk:X.K=K:=by rfl):XP K X e (qM i) i dC:=⟨hk,h,λσ H e v0 p v Q re h1 h2 h3 k=>by
 cases h2;B4 Oq at h3;cases h3;~⟨v0,h1,k H OC⟩⟩
B5 Su(h:XP K X a ta i π)(hb:XR K X b tb g)(hs:BW b):XP K X (.Subscript a b pos) (OD (rIx K) ta tb) i (EY π g):=⟨h.hk,aGk (aGt h.hk) h.pe hb.pe hs,λσ H e v0 p v Q re h1 h2 h3 k=>by
 B4 EY at h2;B3⟨p0,q1,q2⟩:=aZ h2;B3⟨d,q3,q4⟩:=aZ q2;split at q4
 ·rename_i n;split at q4
  ·rename_i hn;cases q4;B3⟨w,w1,w2⟩:=Ss h3;B3⟨ad,xs,rfl,w3,w4⟩:=aCy w2;&h.ev σ H e v0 p0 _ _ re h1 q1 w1 λH1 s1=>hb.ev σ H1 H1 e _ _ (Zn.self K H1) (re.same s1) q3 λy H2 Z2 s2 t2 z2 ry=>?_;B4 Rv at ry;~.inl ⟨ad,xs,n,v,U,ry,oU.of (s2 _ _ (s1 _ _ w3)),aLD hn w4,k H2 OS⟩
  ·cases q4
 ·cases q4⟩
def vA(i:Nat)(π:FP)(f:FE):GS:=λenv=>match env[i]?,π (rE env),f (rE env)with
 | some (.own d0),NR p,NR d=>(match gJ p d0 with
  | some (.lst ds)=>if ds.length<100000 then .next (env.set i (.own (fO p d0 (.lst (ds++[d])))))else .bad
  | _=>.bad)
 | _,_,_=>.bad
B5 FJ{H H1:Hp}{A:Fp}{ds:List D}{xs:List V}{N:Fp}(o:eQ K H ds A xs)(fr:∀a,N a→H a=none):Apart A N:=λx q1 q2=>by B3⟨⟨u,eu⟩,_⟩:=eQ.cells _ _ _ o x q1;rw[fr x q2]at eu;cases eu
B5 aCz(h:EvP K ta i π)(he:Nq K te f):DSs K (oV (Qx K "list" pC ta (dF te oX))) (vA i π f):=λB E σ H env r p=>by
 B4 vA at p;split at p
 ·rename_i d0 pp d q1 q2 q3;split at p
  ·rename_i ds q4;split at p
   ·rename_i hl;B3⟨v0,a,xs,Bs,k1,k2,k3,k4,k5,k6⟩:=r.DY q1 q4;&h σ H (rE env) v0 pp _ _ r.r k1 q2 k2 λH1 s1=>⟨.inl ⟨U,xs,oU.of (s1 _ _ k3)⟩,?_⟩
    &he σ H1 (rE env) d _ (r.r.same s1) q3 λy H2 s2 n=>?_;B3⟨N,o,fr⟩:=n.back s1;have s12:=s1.trans s2;&⟨a,xs,y,U,U,s12 _ _ k3,Nt (by rw[(eQ.rv _ _ _ k5).length];omega),p _ ?_⟩;~k6 H2 (ds++[d]) (xs++[y]) (gG Bs N) s12 (cQ.mpr ((cQ.mp (k5.same s12)).snoc o (FJ (H1:=H) k5 fr))) λb z=>z.imp id (fr b)
   ·~p.elim
  ·~p.elim
 ·~p.elim
B5 Sv{m:Str}{apos cpos:Pos}(h:XP K X a ta i π)(he:XN K X e te f)(hp:PE X a ta→PE X e te→PS X (.Expr (.Call (.Attribute a m apos) [e] [] cpos) pos) (oV (Qx K "list" pC ta (dF te oX)))):YS K X (.Expr (.Call (.Attribute a m apos) [e] [] cpos) pos) (oV (Qx K "list" pC ta (dF te oX))) (vA i π f):=⟨hp h.pe he.pe,(aCz h.ev he.ev).ds⟩
def wU(i:Nat)(π:FP)(g f:FE):GS:=λenv=>match env[i]?,π (rE env),g (rE env),f (rE env)with
 | some (.own d0),NR p,NR (.int k),NR d=>(match gJ p d0 with
  | some (.lst ds)=>(match ZW ds.length k with
   | some j=>.next (env.set i (.own (fO p d0 (.lst (ds.set j d)))))
   | none=>.bad)
  | _=>.bad)
 | _,_,_,_=>.bad
B5 aH8{n:Nat}{k:Int}{j:Nat}(h:ZW n k=NR j):j<n:=by
 B4 ZW at h;split at h
 ·split at h
  ·cases h;omega
  ·cases h
 ·split at h
  ·cases h;omega
  ·cases h
B5 vp(h:EvP K ta i π)(hx:Ko K tb g)(he:Nq K te f):DSs K (xX te (aAd ta tb Xe)) (wU i π g f):=λB E σ H env r p=>by
 B4 wU at p;split at p
 ·rename_i d0 pp k d q1 q2 q3 q3';split at p
  ·rename_i ds q4;split at p
   ·rename_i j q5;B3⟨v0,a,xs,Bs,k1,k2,k3,k4,k5,k6⟩:=r.DY q1 q4;&he σ H (rE env) d _ r.r q3' λy H1 s1 n=>?_;&h σ H1 (rE env) v0 pp _ _ (r.r.same s1) k1 q2 (Bd s1 k2) λH2 s2=>hx σ H2 H2 (rE env) _ _ (Zn.self K H2) (r.r.same OS) q3 λy' H3 Z3 s3 t3 z3 ry=>?_;B4 Rv at ry;have Sq:=s1.trans (s2.trans s3);B3⟨N,o,fr⟩:=n.same (s2.trans s3);have hlen:=(eQ.rv _ _ _ k5).length;&⟨a,xs,k,j,U,ry,Sq _ _ k3,by rw[hlen];~q5,p _ ?_⟩;B3⟨y0,A1,C,f1,f2,f3,f4,f5⟩:=(cQ.mp (k5.same Sq)).focus (B6 (aH8 q5));have ap:Apart N C:=λx q1 q2=>FJ (H1:=H) k5 fr x ((f3 x).mpr (.inr q2)) q1;~k6 H3 (ds.set j d) (xs.set j y) (gG N C) Sq (cQ.mpr (f5 (Ow K H3) (λ_ _ _ _ qq=>qq) d y N ap o)) λb z=>z.elim (λz=>.inr (fr b z)) λz=>.inl ((f3 b).mpr (.inr z))
   ·~p.elim
  ·~p.elim
 ·~p.elim
B5 vq{pos':Pos}(h:XP K X a ta i π)(hx:XR K X b tb g)(he:XN K X e te f)(hp:PE X a ta→PE X b tb→PE X e te→PS X OX (xX te (aAd ta tb Xe))):YS K X OX (xX te (aAd ta tb Xe)) (wU i π g f):=⟨hp h.pe hx.pe he.pe,(vp h.ev hx.ev he.ev).ds⟩
def sX(i:Nat)(π:FP)(g f:FE):GS:=λenv=>match env[i]?,π (rE env),g (rE env),f (rE env)with
 | some (.own d0),NR p,NR k,NR d=>(match gJ p d0,Wa k with
  | some (.dk ks ds),NR k=>if d.jH=NU∧ks.length<100000 then .next (env.set i (.own (fO p d0 (.dk (mH ks k) (putD ks ds k d)))))else .bad
  | _,_=>.bad)
 | _,_,_,_=>.bad
B5 QZ{H:Hp}{d:D}{v:V}(o:Ow K H d nil v)(k:Key):∀{ks:List Key} {ds:List D} {A:Fp} {xs:List V},ks.length=xs.length→eQ K H ds A xs→∃A',(∀x,A' x→A x)∧eQ K H (R9 (λk' d'=>if k'=k then d else d') ks ds) A' (R9 (λk' d'=>if k'=k then v else d') ks xs)
 | [],ds,A,xs,hl,h=>by
  cases xs with
  | nil=>~⟨nil,λ_ z=>z.elim,by rw[S0,S0];B4 eQ;~⟨λ_ z=>z,U⟩⟩
  | cons x xs=>simp at hl
 | k0::ks,[],A,xs,hl,h=>by B4 eQ at h;rw[h.2]at hl;simp at hl
 | k0::ks,d0::ds,A,xs,hl,h=>by
  B4 eQ at h;B3⟨y,yt,A1,A2,rfl,h2,h3,h4,h5⟩:=h;B3⟨A',a1,a2⟩:=QZ o k (by simpa using hl) h5;by_cases c:k0=k
  ·&⟨A',λx q=>(h3 x).mpr (.inr (a1 x q)),?_⟩;rw[K1,K1,if_pos c,if_pos c];B4 eQ;~⟨v,_,nil,A',U,λ_ z=>z.elim,λx=>⟨.inr,λz=>z.elim False.elim id⟩,o,a2⟩
  ·&⟨gG A1 A',λx q=>(h3 x).mpr (q.imp id (a1 x)),?_⟩;rw[K1,K1,if_neg c,if_neg c];B4 eQ;~⟨y,_,A1,A',U,λx z1 z2=>h2 x z1 (a1 x z2),λ_=>Iff.rfl,h4,a2⟩
B5 vy(h:EvP K ta i π)(hx:Ko K tb g)(he:Ko K te f):DSs K (Hv ta tb te) (sX i π g f):=λB E σ H env r p=>by
 B4 sX at p;split at p
 ·rename_i d0 pp kd d q1 q2 q3 q3';split at p
  ·rename_i ks ds k q4 q5;split at p
   ·rename_i hc;B3⟨v0,a,xs,Bs,k1,k2,k3,k3',k4,k5,k6⟩:=r.aLL q1 q4;&he σ H H (rE env) d _ OW r.r q3' λy H1 Z1 s1 t1 z1 ry=>?_;&h σ H1 (rE env) v0 pp _ _ (r.r.same s1) k1 q2 (Bd s1 k2) λH2 s2=>hx σ H2 H2 (rE env) _ _ (Zn.self K H2) (r.r.same OS) q3 λy' H3 Z3 s3 t3 z3 ry'=>?_;have Sq:=s1.trans (s2.trans s3);have o:Ow K H3 d nil y:=Ay d y hc.1 ((z1.sm.trans (s2.trans s3)).rv _ _ ry);have ek:=Pn q5 (z3.sm.rv _ _ ry');&⟨a,_,U,.inl ⟨ks.zip xs,k,Sq _ _ k3,ek,Nt (by rw[T9];omega),U⟩,p _ ?_⟩;rw[QL k3'];have ow3:=k5.same Sq;have hl3:=(eQ.rv _ _ _ k5).length;by_cases c:(posK ks k).isSome=NU
    ·B3⟨A',a1,a2⟩:=QZ o k k3' ow3;&k6 H3 (mH ks k) (putD ks ds k d) (putD ks xs k y) A' Sq (wQ k3') ?_ λb z=>.inl (a1 b z);B4 putD;rw[if_pos c,if_pos c];~a2
    ·&k6 H3 (mH ks k) (putD ks ds k d) (putD ks xs k y) (gG Bs nil) Sq (wQ k3') ?_ λb z=>z.elim .inl False.elim;B4 putD;rw[if_neg c,if_neg c];~cQ.mpr ((cQ.mp ow3).snoc o λ_ _ z=>z)
   ·~p.elim
  ·~p.elim
 ·~p.elim
B5 vz{pos':Pos}(h:XP K X a ta i π)(hx:XR K X b tb g)(he:XR K X e te f)(hp:PE X a ta→PE X b tb→PE X e te→PS X OX (Hv ta tb te)):YS K X OX (Hv ta tb te) (sX i π g f):=⟨hp h.pe hx.pe he.pe,(vy h.ev hx.ev he.ev).ds⟩
B5 Xx{α β:Type}{R:α→Fp→β→Prop}:∀{ds:List α} {A:Fp} {ys:List β} (k:Nat),fY R ds A ys→∃A',(∀x,A' x→A x)∧fY R (ds.eraseIdx k) A' (ys.eraseIdx k)
 | [],A,ys,k,h=>⟨A,λ_ z=>z,by rw[h.2];~⟨h.1,U⟩⟩
 | d::ds,A,ys,0,⟨y,yt,A1,A2,h1,h2,h3,h4,h5⟩=>⟨A2,λx z=>(h3 x).mpr (.inr z),by rw[h1];~h5⟩
 | d::ds,A,ys,k+1,⟨y,yt,A1,A2,h1,h2,h3,h4,h5⟩=>by B3⟨A',a1,a2⟩:=Xx k h5;&⟨gG A1 A',λx z=>(h3 x).mpr (z.imp id (a1 x)),?_⟩;rw[h1,N7,N7];~⟨y,_,A1,A',U,λx z1 z2=>h2 x z1 (a1 x z2),λ_=>Iff.rfl,h4,a2⟩
def Dk(i j:Nat)(f:FE):GS:=λenv=>match env[i]?,env[j]?,f (rE env)with
 | some (.own (.lst ds)),NR (.own (.lst es)),NR (.int k)=>if i≠j∧ds.length<100000∧0≤k∧k<es.length∧es.length≤100000 then(match es[k.toNat]? with
   | some d=>if d.jH=NU then .next ((env.set j (.own (.lst (es.eraseIdx k.toNat)))).set i (.own (.lst (ds++[d]))))else .bad
   | none=>.bad)else .bad
 | _,_,_=>.bad
B5 aAJ(he:Ko K te f):DS K (oV (Qx K "list" pC (qM i) (dF (Qx K "list" CN (qM j) (dF te oX)) oX))) (Dk i j f):=λB E σ H env r p=>by
 B4 Dk at p;split at p
 ·rename_i ds es k q1 q2 q3;split at p
  ·rename_i hc;B3⟨c1,c2,c3,c4,c5⟩:=hc;split at p
   ·rename_i d q4;split at p
    ·rename_i im;B3⟨w0,b,ys,Cs,m1,m2,m3,m4,m5,m6⟩:=r.DY (p:=[]) q2 U;B3⟨v0,a,xs,Bs,k1,k2,k3,k4,k5,k6⟩:=r.DY (p:=[]) q1 U;have e1:v0=.ref a:=by B4 Oq at k2;~E6 k2
     have e2:w0=.ref b:=by B4 Oq at m2;~E6 m2
     subst e1 e2;&⟨_,k1,.inl ⟨U,xs,oU.of k3⟩,⟨_,m1,.inl ⟨U,ys,oU.of m3⟩,?_⟩⟩;&he σ H H (rE env) _ _ OW r.r q3 λy H1 Z1 s1 t1 z1 ry=>?_;B4 Rv at ry;have hly:=(eQ.rv _ _ _ m5).length;have hlx:=(eQ.rv _ _ _ k5).length;B3⟨x',hx',rx'⟩:=(eQ.rv _ _ _ m5).get q4;&⟨b,ys,k,k.toNat,x',U,by rw[ry],s1 _ _ m3,by omega,by omega,GA c3 (by rw[hly];~c4),hx',?_⟩;have o1:=m5.same s1;B3⟨A',a1,a2⟩:=Xx k.toNat (cQ.mp o1);have r1:=m6 H1 (es.eraseIdx k.toNat) (ys.eraseIdx k.toNat) A' s1 (cQ.mpr a2) λx z=>.inl (a1 x z);have r1':Rel K B (env.set j (.own (.lst (es.eraseIdx k.toNat)))) σ (upd H1 b (.lst (ys.eraseIdx k.toNat))):=r1;have q1':(env.set j (.own (.lst (es.eraseIdx k.toNat))))[i]?=NR (.own (.lst ds)):=by rw[G8,if_neg (Ne.symm c1)];~q1
     B3⟨v0',a',xs',Bs',n1,n2,n3,n4,n5,n6⟩:=r1'.DY (p:=[]) q1' U;rw[k1]at n1;cases n1;have e3:a'=a:=by B4 Oq at n2;cases n2;rfl
     subst e3;have ne:a'≠b:=by
      intro z;subst z;B3⟨A0,sA,_⟩:=r;B3⟨y1,A1,C,f1,f2,f3,f4,f5⟩:=sA.focus q1;B3⟨v1,ev1,o1⟩:=f4;have g1:=f5 (gY K H (out H A0)) (λ_ _ _ _ qq=>qq) (.own (.lst ds)) (NR v1) A1 f2 ⟨v1,U,o1⟩;rw[k1]at f1;cases f1;cases ev1;B4 Ow at o1;B3⟨p1,_,_,ep1,_,_,ip1,_⟩:=o1;cases ep1;have other:∀{l:EN} {A:Fp} {ys:St} (i j:Nat),fY (gY K H (out H A0)) l A ys→i≠j→∀s s',l[i]?=NR s→l[j]?=NR s'→∃y y' A1 A2,ys[i]?=NR y∧ys[j]?=NR y'∧gY K H (out H A0) s A1 y∧gY K H (out H A0) s' A2 y'∧Apart A1 A2:=by
       intro l
       induction l with
       | nil=>intro A ys i j _ _ s s' h1 _;simp at h1
       | cons d l ih=>
        rintro A ys i j ⟨y,yt,B1,B2,rfl,h2,h3,h4,h5⟩ hij s s' h6 h7;cases i with
        | zero=>
         cases j with
         | zero=>~absurd U hij
         | succ j=>simp at h6;subst h6;B3⟨y2,A3,C3,w1,w2,w3,w4,_⟩:=h5.focus (i:=j) (d:=s') (by simpa using h7);~⟨y,y2,B1,A3,U,by simpa using w1,h4,w4,λx z1 z2=>h2 x z1 ((w3 x).mpr (.inl z2))⟩
        | succ i=>
         cases j with
         | zero=>simp at h7;subst h7;B3⟨y2,A3,C3,w1,w2,w3,w4,_⟩:=h5.focus (i:=i) (d:=s) (by simpa using h6);~⟨y2,y,A3,B1,by simpa using w1,U,w4,h4,λx z1 z2=>h2 x z2 ((w3 x).mpr (.inl z1))⟩
         | succ j=>B3⟨y2,y3,A3,A4,w1,w2,w3,w4,w5⟩:=ih i j h5 (λz=>hij (by rw[z])) s s' (by simpa using h6) (by simpa using h7);~⟨y2,y3,A3,A4,by simpa using w1,by simpa using w2,w3,w4,w5⟩
      B3⟨y2,y3,A3,A4,w1,w2,w3,w4,w5⟩:=other i j sA c1 _ _ q1 q2;rw[k1]at w1;cases w1;rw[m1]at w2;cases w2;B3⟨_,ea,oa⟩:=w3;B3⟨_,eb,ob⟩:=w4;cases ea;cases eb;B4 Ow at oa ob;B3⟨p1,_,_,e1,_,_,i1,_⟩:=oa;B3⟨p2,_,_,e2,_,_,i2,_⟩:=ob;cases e1;cases e2;~w5 _ ((i1 _).mpr (.inl U)) ((i2 _).mpr (.inl U))
     have n3':H1 a'=NR (.lst xs'):=by rw[bQ ne]at n3;~n3
     have exx:xs'=xs:=by have:=s1 _ _ k3;rw[n3']at this;cases this;rfl
     subst exx;have imo:Ow K (upd H1 b (.lst (ys.eraseIdx k.toNat))) d nil x':=Ow.frame (uJ (tZ (s1 _ _ m3))) _ _ _ (Ay d x' im (s1.rv _ _ rx')) λ_ z=>z.elim;&⟨a',xs',x',U,U,n3,Nt A6,p _ _ ?_⟩;~n6 _ (ds++[d]) (xs'++[x']) (gG Bs' nil) OC (cQ.mpr ((cQ.mp n5).snoc imo λ_ _ z=>z)) λx z=>z.elim .inl False.elim
    ·~p.elim
   ·~p.elim
  ·~p.elim
 ·~p.elim
end
end L2


namespace L2
open PySem PySem.Spec PyProof.Rows
def iu(K:aG)(B:Hp)(R:Fp)(env:EN)(σ:St)(H:Hp):Prop:=∃A,fY (gY K H (out H (gG A R))) env A σ∧Apart A R∧aW B (out H (gG A R))
section
variable{K:aG}{B H H':Hp}{env:EN}{σ:St}{R R' A1:Fp}
B5 Rel.x(h:Rel K B env σ H)(s:aW H H')(f:∀a,R a→H a=none):iu K B R env σ H':=by B3⟨A,a,b⟩:=h;have cl:=iR a;have g:aW (out H A) (out H' (gG A R)):=bT s λx q=>q.imp id (f x);&⟨A,a.mono λe C z _ q=>q.same s g,λx q1 q2=>?_,b.trans g⟩;B3⟨⟨u,eu⟩,_⟩:=cl x q1;rw[f x q2]at eu;cases eu
B5 iu.own{i:Nat}{d:D}{v:V}(h:iu K B R env σ H)(e:Is R (gG A1 R'))(ap:Apart A1 R')(o:Ow K H d A1 v)(hi:i<env.length):iu K B R' (env.set i (.own d)) (σ.set i (NR v)) H:=by
 B3⟨A,a,aR,b⟩:=h;B3⟨y,A0,C,h1,h2,h3,h4,k⟩:=a.focus (B6 hi);have g:aW (out H (gG A R)) (out H (gG (gG A1 C) R')):=bT OC λx q=>by
  rcases q with (q | q) | q
  ·~.inl (.inr ((e x).mpr (.inl q)))
  ·~.inl (.inl ((h3 x).mpr (.inr q)))
  ·~.inl (.inr ((e x).mpr (.inr q)))
 &⟨gG A1 C,k _ (λs D z _ q=>q.same (aW.refl _) g) (.own d) (NR v) A1 (λx q1 q2=>aR x ((h3 x).mpr (.inr q2)) ((e x).mpr (.inl q1))) ⟨v,U,o⟩,λx q1 q2=>?_,b.trans g⟩;rcases q1 with q1 | q1
 ·~ap x q1 q2
 ·~aR x ((h3 x).mpr (.inr q1)) ((e x).mpr (.inr q2))
B5 iu.done(h:iu K B R env σ H)(e:None R):Rel K B env σ H:=by B3⟨A,a,aR,b⟩:=h;have g:aW (out H (gG A R)) (out H A):=bT OC λx q=>.inl (.inl q);~⟨A,a.mono λs D z _ q=>q.same OC g,b.trans g⟩
end
def pK:List Nat→TGs
 | []=>aHk
 | i::is=>tu (iZ i) (pK is)
def pX:EN→List Nat→List D→EN
 | env,i::is,d::ds=>pX (env.set i (.own d)) is ds
 | env,_,_=>env
B5 Sw{K:aG}{B H:Hp}{Q:St→Hp→Prop}:∀{is:List Nat} {ds:List D} {xs:List V} {R:Fp} {env:EN} {σ:St},iu K B R env σ H→eQ K H ds R xs→is.length=ds.length→(∀i∈is,i<env.length) →
  (∀σ',Rel K B (pX env is ds) σ' H→Q σ' H)→pK is xs σ H Q
 | [],ds,xs,R,env,σ,r,o,hl,hi,k=>by
  cases ds with
  | cons d ds=>simp at hl
  | nil=>B4 eQ at o;B4 pK;~⟨o.2,k σ (by B4 pX;~r.done o.1)⟩
 | i::is,ds,xs,R,env,σ,r,o,hl,hi,k=>by
  cases ds with
  | nil=>simp at hl
  | cons d ds=>B4 eQ at o;B3⟨y,yt,A1,A2,rfl,h2,h3,h4,h5⟩:=o;B4 pK;&⟨y,yt,U,?_⟩;have hi0:=hi i C8;~Sw (r.own h3 h2 h4 hi0) h5 (by simpa using hl) (λj hj=>by rw[J5];~hi j (C6 _ hj)) λσ' r'=>k σ' (by B4 pX;~r')
def yL(is:List Nat)(f:FE):GS:=λenv=>match f (rE env)with
 | some (.tup ds)=>if is.length=ds.length∧is.all (λi=>decide (i<env.length))=NU then .next (pX env is ds)else .bad
 | _=>.bad
section
variable{K:aG}{X:Cx}{e a b c:AK}{es:List AK}{t ta tb te:TE}{f g:FE}{tA:TA}{fs:FA}{pos:Pos}{i j:Nat}{π:FP}{st:AO}
B5 aAK{is:List Nat}{n:Nat}(h:Nq K te f)(hn:n=is.length):DS K (xX te (Vr K n (pK is))) (yL is f):=λB E σ H env r p=>by
 B4 yL at p;split at p
 ·rename_i ds q;split at p
  ·rename_i hc;&h σ H (rE env) _ _ r.r q λv H' s ⟨N,o,fr⟩=>?_;B4 Ow at o;B3⟨ad,xs,rfl,o1,o2⟩:=o;&⟨ad,xs,U,o1,by rw[(eQ.rv _ _ _ o2).length,hn,hc.1],?_⟩;~Sw (r.x s fr) o2 hc.1 (λi hi=>of_decide_eq_true (N3.mp hc.2 i hi)) λσ' r'=>p σ' H' r'
  ·~p.elim
 ·~p.elim
B5 aAL{is:List Nat}{n:Nat}{tg:AK}(h:XN K X e te f)(hp:PE X e te→PS X (.Assign [tg] e pos) (xX te (Vr K n (pK is))))(hn:n=is.length:=by rfl):YS K X (.Assign [tg] e pos) (xX te (Vr K n (pK is))) (yL is f):=⟨hp h.pe,aAK h.ev hn⟩
def aCA:EN→List Nat→Option (List D)
 | _,[]=>NR []
 | env,i::is=>(match env[i]? with
  | some (.own d)=>(aCA env is).map (d::·)
  | _=>none)
inductive TyS(K:aG)(H:Hp):V→AE→Prop where
 | bl (x:Bool):TyS K H (.bl x) (.type "bool")
 | int (i:Int):TyS K H (.int i) (.type "int")
 | lst {a:AF} {xs:List V} (e:oU K H a xs):TyS K H (.ref a) (.type "list")
 | tup {a:AF} {xs:List V} (e:xW K H a xs):TyS K H (.ref a) (.type "tuple")
B5 FN:mQ X (.builtin "isinstance") (λxs H Q=>∃x T t b,xs=[x,.ty T]∧TyS X.K H x t∧K4 X.K t (.type T)=NR b∧Q (.bl b) H):=by
 intro pins s σ H xs us Q I r h;B3⟨x,T,t,b,rfl,ty,hk,q⟩:=h;B3⟨u,w',rfl,rx,rt⟩:=vals2 r;cases rt;cases ty with
 | bl y=>~Wy I rx (.bl y) hk λtk=>⟨.bl b,H,I.tok _,U,q⟩
 | int i=>~Wy I rx (.int i) hk λtk=>⟨.bl b,H,I.tok _,U,q⟩
 | @lst a xs e=>
  cases(show u=AW a from rx)
  B3⟨its,_,pl,_⟩:=I.list e;B3⟨o,n,h1,h2,_⟩:=pl;~K8 Y5 I.Kr ⟨o,h1,h2⟩ hk (λz=>nomatch z) λtk=>⟨.bl b,H,I.tok _,rfl,q⟩
 | @tup a xs e=>
  cases(show u=AW a from rx)
  B3⟨its,_,pl,_⟩:=I.tuple e;B3⟨o,h1,h2,_⟩:=pl;~K8 l8 I.Kr ⟨o,h1,h2⟩ hk (λz=>nomatch z) λtk=>⟨.bl b,H,I.tok _,rfl,q⟩
def RB(T:String)(d:D):Option D:=match d with
 | .int _=>if T = "int" then NR (.bl NU)else if T = "bool" then NR (.bl NV)else none
 | .bl _=>if T = "bool" then NR (.bl NU)else none
 | .lst _=>if T = "list" then NR (.bl NU)else none
 | .tup _=>if T = "tuple" then NR (.bl NU)else none
 | _=>none
def Sx(T:String)(f:FE):FE:=λe=>(f e).bind (RB T)
def aJ3(K:aG):List V→Hp→VK→Prop:=λxs H Q=>∃x T t b,xs=[x,.ty T]∧TyS K H x t∧K4 K t (.type T)=NR b∧Q (.bl b) H
B5 aIc{H:Hp}{T:String}{d r:D}{v:V}(h:RB T d=NR r)(rv:Rv K H d v):∃t b,TyS K H v t∧K4 K t (.type T)=NR b∧r=.bl b:=by
 cases d with
 | int i=>
  B4 RB at h;dsimp only at h;B4 Rv at rv;subst rv;split at h
  ·rename_i c;cases h;subst c;~⟨_,_,.int i,QG,rfl⟩
  ·split at h
   ·rename_i c;cases h;subst c;~⟨_,_,.int i,CW,rfl⟩
   ·cases h
 | bl b=>
  B4 RB at h;dsimp only at h;B4 Rv at rv;subst rv;split at h
  ·rename_i c;cases h;subst c;~⟨_,_,.bl b,Vx,rfl⟩
  ·cases h
 | lst ds=>
  B4 RB at h;dsimp only at h;B4 Rv at rv;B3⟨a,xs,rfl,r2,_⟩:=rv;split at h
  ·rename_i c;cases h;subst c;~⟨_,_,.lst r2,Vy,rfl⟩
  ·cases h
 | tup ds=>
  B4 RB at h;dsimp only at h;B4 Rv at rv;B3⟨a,xs,rfl,r2,_⟩:=rv;split at h
  ·rename_i c;cases h;subst c;~⟨_,_,.tup r2,Oo,rfl⟩
  ·cases h
 | _=>B4 RB at h;cases h
B5 aIe(hk:X.K=K):mQ X (.builtin "isinstance") (aJ3 K):=by subst hk;~FN
B5 Lg{T:String}{p:Pos}{eT:AK}(h:XR K X e t f)(hT:PE X eT (tC (.ty T)))(hg:Gl X "isinstance") (hm:X.mg "isinstance" = none) (hst:AJ (e::[eT]) X.env=(NV,AU e X.env)::AJ [eT] X.env:=by rfl) (hst2:AJ [eT] X.env=(NV,AU eT X.env)::AJ [] X.env:=by rfl)
  (hpl:(Au pos (AJ [eT] X.env)).any (·.1)=NV:=by rfl):XN K X (.Call (.Name "isinstance" p) [e,eT] [] pos) (tCB (aJ3 K) (dF t (dF (tC (.ty T)) oX))) (Sx T f):=
 ⟨h.hk,PL (aIe h.hk) hg hm PyProof.Rows.boot_isinstance (cZ h.pe (cZ hT jE hst2) hst) A8 A8 hst hpl,λσ H e d Q re q k=>by
  B4 Sx at q;B3⟨d0,q1,q2⟩:=aZ q;&h.ev σ H H e d0 _ OW re q1 λv H1 Z1 s1 t1 z1 rv=>?_;B3⟨ty,b,b1,b2,rfl⟩:=aIc q2 (z1.sm.rv _ _ rv);~⟨v,T,ty,b,U,b1,b2,k _ H1 s1 OB⟩⟩
structure eG(mg:Str→Option AE)(x:Str)(i:Int):Prop where
 ex:∃t,mg x=NR (.int i t)
structure aMP(K:aG)(mg:Str→Option AE)(x:Str)(ns:List Int):Prop where
 ex:∃a,mg x=NR (.ref a)∧∀H:Hp,xW K H a (ns.map V.int)
B5 iC{x:Str}{i:Int}(G:eG X.mg x i)(hg:Gl X x)(hd:OH=NV:=by decide) (hk:X.K=K:=by rfl):XN K X (.Name x pos) (tC (.int i)) (fC (.int i)):=by B3⟨t,h⟩:=G.ex;~⟨hk,aEm hg h ⟨t,U⟩ hd,aCe i⟩
def dTup(ns:List Int):D:=.tup OE
end
def oH(n m:Nat)(g:GS):List D→Option D:=λds=>if ds.length=m then(match g (ds.map SD.fro++E9 (n-m) SD.no)with
  | .ret d=>NR d
  | .next _=>NR .non
  | _=>none)else none
B5 Sy{K:aG}{H Z:Hp}{k:Nat}:∀{ds:List D} {vs:List V},eO K Z ds vs→fY (gY K H Z) (ds.map SD.fro++E9 k SD.no) nil (vs.map NR++E9 k none)
 | [],vs,h=>by
  B4 eO at h;subst h;simp only[K9,d9]
  induction k with
  | zero=>~⟨λ_ z=>z,U⟩
  | succ k ih=>rw[T4,T4];~⟨none,_,nil,nil,U,λ_ z=>z.elim,λx=>⟨.inl,λz=>z.elim id id⟩,λ_ z=>z,ih⟩
 | d::ds,vs,h=>by B4 eO at h;B3⟨y,ys,rfl,h1,h2⟩:=h;rw[E2,E2,R1,R1];~⟨NR y,_,nil,nil,U,λ_ z=>z.elim,λx=>⟨.inl,λz=>z.elim id id⟩,⟨λ_ z=>z,y,U,h1⟩,Sy h2⟩
B5 Lh{K:aG}{H:Hp}{k:Nat}{ds:List D}{vs:List V}(h:eO K H ds vs):Rel K H (ds.map SD.fro++E9 k SD.no) (vs.map NR++E9 k none) H:=by have g:aW H (out H nil):=λx u e=>bF.mpr ⟨λz=>z,e⟩;~⟨nil,Sy (g.uw _ _ h),g⟩
B5 Raw.rZ{P:AQ}{w:AS}{K:aG}{mg:Str→Option AE}{base:Heap}{x:Str}{st:AO}{N ps:List Str}{k:Nat}{g:GS}(R:Raw K mg x st)(S:bA N ps (aK st))
  (hb:∀(kV doc pm:AE)(an:Option AF)(cdv ct:AE)(us:List AE),us.length=ps.length→EJ (G5 x x (gA st) (cM st) (aK st) .none kV doc pm an cdv ct) ⟨us,[]⟩=pure (ps.zip us))
  (hbody:∀(f:AF)(cdv:AE)(A:AV)(outer:List Env)(s:AG)(H:Hp)(E:XK),lB k (A.deeper (CH x (aK st) s.heap.objs.size f cdv)) →
   ∃t,YB K (Hu MJ P w K mg base N x (aK st) f cdv A outer s H E).sy (cM st) t g):oF P w K mg base x (k+1) ps.length (gW K ps.length (oH N.length ps.length g)):=by
 &R.cal S (λvs H Q E h=>?_) hb (λf cdv A outer s H vs Q E hr h=>?_)
 ·B3⟨ds,d,h1,h2,_⟩:=h;rw[h2.length];~h1
 B3⟨ds,d,h1,h2,h3,kk⟩:=h;B3⟨t,yb⟩:=hbody f cdv A outer s H E hr;&⟨t,yb.ps,yb.ev H _ _ H (ds.map SD.fro++E9 (N.length-ps.length) SD.no) ?_ ?_⟩
 ·have hl:vs.length=ps.length:=by rw[h2.length];~h1
  have:=Lh (k:=N.length-ps.length) h2;B4 start;rw[hl];~this
 ·B4 oH at h3;rw[if_pos h1]at h3;cases q:g (ds.map SD.fro++E9 (N.length-ps.length) SD.no)with
  | ret d'=>
   rw[q]at h3;cases h3;&λv H' A' s' o=>kk v H' (s'.trans (jA _ _)) ⟨A',o,λa qa=>?_⟩;cases e:H a with
   | none=>rfl
   | some u=>~absurd qa (bF.mp (s' a u e)).1
  | next env'=>
   rw[q]at h3;cases h3;&λσ' H' ⟨A',_,s'⟩=>kk .non H' (s'.trans (jA _ _)) OB
  | brk env'=>rw[q]at h3;cases h3
  | cont env'=>rw[q]at h3;cases h3
  | bad=>rw[q]at h3;cases h3
  | rete d e=>rw[q]at h3;cases h3
end L2


namespace L2
open PySem PySem.Spec PyProof.Rows
section
variable{K:aG}{X:Cx}{e a b c:AK}{es:List AK}{t ta tb te:TE}{f g:FE}{tA:TA}{fs:FA}{pos:Pos}{i j:Nat}{π:FP}{st:AO}{gb:GS}{tc:TT}{fc:FT}
def yM(f:FE):FE:=λe=>(f e).bind λd=>match d with | .int i=>NR (.int (-i)) | _=>none
B5 qW(ha:XR K X a ta f):XN K X (.UnaryOp .USub a pos) (tUn (rU λi=>.int (-i)) ta) (yM f):=aH1 ha
B5 Pu{tg elt iter:AK}{ifs:List AK}{scope:BQ}{spos py:Pos}{y:Str}{wi:TI}{fi:FA}{fe:FE}(N:List Str)(fr:List Nat)(hcalm:X.calm=NU)(B:lC X.env.scope scope X.N N 1 fr)(hN:X.N.Nodup)(hy:X.N[i]?=NR y)(hx:Loc X.env.scope y)(hi:XI K X tg iter wi fi)
  (hg:∀cl fp s H C,PG OI tg (iZ 0)) (hc:∀cl fp s H C,XTs K OI ifs tc fc) (he:∀cl fp s H C,XN K OI elt te fe)
  (hsw:DO OP (NR (.Name y py)) spos.line X.env=pure NU:=by rfl)
  (hs:∀x,BD iter X.env x=pure x:=by intro _;rfl) (hf:X.fn y=NU∨X.env.scope.names.lookup y=NR .local:=by first | ~.inl U | ~.inr U | assumption) :
  YS K X (.Assign [.Name y py] OP spos) (xX (Rg wi 1 fr (iZ 0) tc te) (iZ i)) (cT i (eE fi fr fc fe)):=
 ⟨aEQ N 1 fr hcalm B hN hy hx hi.pi hg (λcl fp s H C=>(hc cl fp s H C).pts) (λcl fp s H C=>(he cl fp s H C).pe) hsw hs hf,aCt (vo hi.ev (hc [] [] X.s₀ X.H₀ 0).ev (he [] [] X.s₀ X.H₀ 0).ev)⟩
def EvJ(K:aG)(wi:TI)(fi:FA):Prop:=∀(σ:St)(H:Hp)(e:DE)(ds:List D)(R:It→Hp→Prop),yE K H e σ→fi e=NR ds →
 (∀J H' P vs,aW H H'→JIs J P vs→(∀H2,P H2)→(∀Z,eO K Z ds vs)→R J H')→wi σ H R
structure XJ(K:aG)(X:Cx)(tg iter:AK)(wi:TI)(fi:FA):Prop where
 pi:PI X tg iter wi
 ev:EvJ K wi fi
B5 Dl{tg:AK}{p:Pos}(hg:Gl X "range") (hm:X.mg "range" = none) (ha:XA K X [a] tA fs) (hs:AJ [a] X.env=[(NV,AU a X.env)]:=by rfl):XJ K X tg (.Call (.Name "range" p) [a] [] pos) (aBK tA) (rA fs):=⟨Wx hg hm ha.pa hs,λσ H e ds R re q k=>by
 B4 rA at q;B3⟨es,q1,q2⟩:=aZ q;split at q2
 ·rename_i n;split at q2
  ·rename_i hl;cases q2;have hl:=DQ hl;&ha.ev σ H H e _ _ OW re q1 λvs H1 Z1 s1 t1 z1 rs=>?_;B3⟨v,rfl,r⟩:=rW rs;B4 Rv at r;subst r;~⟨n,U,by omega,by omega,k _ H1 _ _ s1 Kz (λ_=>True.intro) λZ=>Le 0 n.toNat⟩
  ·cases q2
 ·cases q2⟩
B5 aJ4{tg:AK}{p:Pos}(hp:PA X [a,b] tA→PI X tg (.Call (.Name "range" p) [a,b] [] pos) (aBL tA)) (ha:XA K X [a,b] tA fs):XI K X tg (.Call (.Name "range" p) [a,b] [] pos) (aBL tA) (QX fs):=⟨ha.hk,hp ha.pa,λσ H Z e ds R z re q k=>by
 B4 QX at q;B3⟨es,q1,q2⟩:=aZ q;split at q2
 ·rename_i i j;split at q2
  ·rename_i hl;cases q2;have hl1:=DQ hl.1;have hl2:=DQ hl.2;&ha.ev σ H Z e _ _ z re q1 λvs H1 Z1 s1 t1 z1 rs=>?_;B3⟨v,w,rfl,r,r'⟩:=aCk rs;B4 Rv at r r';subst r r';~⟨i,j,U,⟨by omega,by omega,by omega,by omega⟩,k _ H1 Z1 _ _ s1 t1 z1 Kz (λ_ _=>True.intro) (Le i (j-i).toNat)⟩
  ·cases q2
 ·cases q2⟩
def zV(i:Nat)(fi:FA)(g:GS):GS:=λenv=>match fi (rE env)with
 | some xs=>yK i g xs env
 | none=>.bad
B5 aFa{wi:TI}{fi:FA}{tb:TS}(hi:EvJ K wi fi)(h:DS K tb gb):DS K (Qo wi (iZ i) tb) (zV i fi gb):=λB E σ H env r p=>by
 B4 zV at p;split at p
 ·rename_i xs q;&hi σ H (rE env) xs _ r.r q λJ H1 P vs s hJ hP rvs=>?_;have hl:=(rvs H).length;&Hw hJ (λk σ2 H2=>∃cU,Rel K B cU σ2 H2∧Lf K B E (yK i gb (xs.drop k) cU)) ⟨env,r.same s,by simpa using p⟩ (λk σ2 H2 _ _=>hP H2) ?_ ?_
  ·rintro k x σ2 H2 hx ⟨cU,r2,p2⟩;have hk:k<xs.length:=by B3⟨h1,_⟩:=D4.mp hx;omega
   rw[L8 hk]at p2;B4 yK at p2;split at p2
   ·rename_i hlen;B3⟨A2,a2,b2⟩:=r2;B3⟨x',hx',rx⟩:=(rvs (out H2 A2)).get (B6 hk);rw[hx]at hx';cases hx';have r3:Rel K B (cU.set i (.fro xs[k])) (σ2.set i (NR x)) H2:=Il a2 b2 hlen OC OC (Fz a2) rx;&h B _ _ H2 _ r3 ?_;split at p2
    ·rename_i env' q2;rw[q2];~λσ' H' r'=>⟨env',r',p2⟩
    ·rename_i env' q2;rw[q2];~λσ' H' r'=>⟨env',r',p2⟩
    ·rename_i env' q2;rw[q2];~p2
    ·rename_i n1 n2 n3;cases q2:gb (cU.set i (.fro xs[k]))with
     | next e=>~absurd q2 (n1 e)
     | cont e=>~absurd q2 (n2 e)
     | brk e=>~absurd q2 (n3 e)
     | ret d=>rw[q2]at p2;~p2
     | bad=>rw[q2]at p2;~p2
     | rete d e=>rw[q2]at p2;~p2
   ·~p2.elim
  ·rintro σ2 H2 ⟨cU,r2,p2⟩;rw[hl,S8]at p2;~p2 σ2 H2 r2
 ·~p.elim
B5 Px{tg iter:AK}{body:List AO}{wi:TI}{fi:FA}{tb:TS}(hp:EC Nl X.A X.env X.xe)(DX:X.calm=NU)(hi:XJ K X tg iter wi fi)(hg:PG X tg (iZ i))(hb:YB K X body tb gb)
  (hs:∀x,BD iter X.env x=pure x:=by intro _;rfl):YS K X (.For tg iter body [] pos) (Qo wi (iZ i) tb) (zV i fi gb):=⟨Qq hp DX hi.pi hg hb.ps hs,aFa hi.ev hb.ev⟩
B5 aAM{m m':Str}{apos cpos aGA aGB:Pos}(he:XR K X e te f)(hp:PE X e te→PS X (.Expr (.Call (.Attribute a m apos) [.Call (.Attribute b m' aGA) [e] [] aGB] [] cpos) pos) (oV (Qx K "list" pC (qM i) (dF (Qx K "list" CN (qM j) (dF te oX)) oX)))):YS K X (.Expr (.Call (.Attribute a m apos) [.Call (.Attribute b m' aGA) [e] [] aGB] [] cpos) pos) (oV (Qx K "list" pC (qM i) (dF (Qx K "list" CN (qM j) (dF te oX)) oX))) (Dk i j f):=⟨hp he.pe,aAJ he.ev⟩
end
B5 iw{K:aG}{st:AO}{f:AF}{fd:BU}(F:Fun K "law" "law" st f fd) (hb:∀(kV doc pm:AE)(an:Option AF)(cdv ct:AE)(u:AE),EJ (G5 "law" "law" (gA st) (cM st) (aK st) .none kV doc pm an cdv ct) ⟨[u],[]⟩=pure [(("script" : Str),u)]):∀(s:AG)(u:AE),GN s fd ⟨[u],[]⟩ [("script", u)]:=by B3⟨oc,od,kV,doc,pm,an,cdv,ct,osl,rfl,lk,hcd⟩:=F.ex;~λs u=>.of_eq (hb kV doc pm an cdv ct u)
B5 mW{K:aG}{h:Heap}{mg:Str→Option AE}{x:Str}{i:Int}{t:Tok}(X:K.In h)(G:h.Ns As mg)(a:U4 K As x=NR (NR (.int i t))):eG mg x i:=⟨t,j9 X G a⟩
end L2


namespace L2
open PySem PySem.Spec PyProof.Rows
section
variable{K:aG}{X:Cx}{e a b c:AK}{es:List AK}{t ta tb te:TE}{f g:FE}{tA:TA}{fs:FA}{pos:Pos}{i j:Nat}{π:FP}{st:AO}
variable{lo hi:Option AK}{tl th:TO}{fl fh:FO}{p2:Pos}
def aMR(a b:D):Option D:=match a,b with
 | .tup x,.tup y=>if D.gR x=NU∧D.gR y=NU∧x.length+y.length≤100000 then NR (.tup (x++y))else none
 | _,_=>none
end
end L2


namespace L2
open PySem PySem.Spec PyProof.Rows
B5 bgo(xs:Array Nat)(j:Nat):∀(fuel lo hi:Nat),hi-lo≤fuel→lo≤hi→hi≤xs.size→xs.toList.Pairwise (·<·) →
  (∀i,i<lo→xs.getD i 0<j)→(∀i,hi≤i→i<xs.size→j≤xs.getD i 0) →
  DH xs j fuel lo hi≤xs.size∧(∀i,i<DH xs j fuel lo hi→xs.getD i 0<j)∧(∀i,DH xs j fuel lo hi≤i→i<xs.size→j≤xs.getD i 0)
 | 0,lo,hi,h1,h2,h3,up,h4,h5=>by
  B4 DH;have e:lo=hi:=by omega
  subst e;~⟨h3,h4,h5⟩
 | fuel+1,lo,hi,h1,h2,h3,up,h4,h5=>by
  B4 DH;have mono:∀a b,a<b→b<xs.size→xs.getD a 0<xs.getD b 0:=λa b q q'=>by have:=J8.mp up a b (by simp;omega) (by simpa using q') q;simp only[W8]at this;simpa[Q3,q',show a<xs.size by omega]using this
  split
  ·rename_i c;have hm:(lo+hi)/2<xs.size:=by omega
   have e:xs.getD ((lo+hi)/2) j=xs.getD ((lo+hi)/2) 0:=by simp[Q3,hm]
   dsimp only;rw[e];by_cases c2:xs.getD ((lo+hi)/2) 0<j
   ·rw[if_pos c2];&bgo xs j fuel ((lo+hi)/2+1) hi A6 A6 h3 up (λi hi'=>?_) h5;rcases G4 i ((lo+hi)/2)with z | z
    ·have:=mono i _ z hm;omega
    ·have z':i=(lo+hi)/2:=by omega
     subst z';~c2
   ·rw[if_neg c2];&bgo xs j fuel lo ((lo+hi)/2) A6 A6 A6 up h4 λi hi' hs=>?_;rcases G4 ((lo+hi)/2) i with z | z
    ·have:=mono _ i z hs;omega
    ·have z':i=(lo+hi)/2:=by omega
     subst z';omega
  ·have e:lo=hi:=by omega
   subst e;~⟨h3,h4,h5⟩
B5 below_at{xs:Array Nat}(up:xs.toList.Pairwise (·<·))(j:Nat) :
  AX xs j≤xs.size∧(∀i,i<AX xs j→xs.getD i 0<j)∧(∀i,AX xs j≤i→i<xs.size→j≤xs.getD i 0):=by
 B4 AX;~bgo xs j xs.size 0 xs.size A6 (L5 _) (C9 _) up (λi h=>absurd h (J9 _)) λi h h'=>by omega
def Led(b:Bool)(t:SetTable):Prop:=t.led=b∧(t.plain=NU→t.place.toList.Pairwise (·<·)∧t.dummies=#[])
B5 Led.fresh(b:Bool):Led b (.fresh 0 0 b):=⟨U,λ_=>⟨by simp[NJ],U⟩⟩
B5 Led.standIn{b:Bool}{t:SetTable}(h:Led b t)(n:Nat):Led b (t.standIn n):=⟨h.1,λq=>by simp[NA]at q⟩
B5 Led.off{b:Bool}{t:SetTable}(h:Led b t):Led b {t with plain:=NV}:=⟨h.1,λq=>by simp at q⟩
B5 pgo{t:SetTable}(hd:t.dummies=#[]){g:Nat→Int}{h:Int}:∀(fuel:Nat)(p:NL)(j:Nat)(d:Option Nat),p.dummy=none→FC t g h fuel p=NR (.empty j d)→d=none∧t.slot j=.empty
 | 0,p,j,d,_,q=>by simp[FC]at q
 | fuel+1,p,j,d,e,q=>by
  B4 FC at q;have adv:(t.advance p).dummy=none:=by
   B4 NC;split
   ·~e
   ·~e
  split at q
  ·rename_i c;injection q with q;injection q with q1 q2;rw[←q1,←q2];~⟨e,c⟩
  ·rename_i c;exfalso;B4 LB at c;dsimp only at c;split at c
   ·cases c
   ·split at c
    ·rename_i z;rw[hd]at z;simp[IF]at z
    ·cases c
  ·split at q
   ·cases q
   ·~pgo hd fuel _ j d adv q
B5 Xy{t:SetTable}(hd:t.dummies=#[]){h:Int}{j:Nat}{w:Bool}(q:t.freeSlot h=NR (j,w)):t.slot j=.empty∧w=NV:=by
 B4 Md at q;split at q
 ·rename_i j' d e;B3⟨rfl,e2⟩:=pgo hd _ _ _ _ (by rfl) e;simp at q;B3⟨rfl,rfl⟩:=q;~⟨e2,U⟩
 ·cases q
B5 aCB{t:SetTable}(hd:t.dummies=#[])(up:t.place.toList.Pairwise (·<·)){j:Nat}(q:t.slot j=.empty):(t.put j).1.place.toList.Pairwise (·<·)∧(t.put j).1.dummies=#[]:=by
 B3⟨b1,b2,b3⟩:=below_at up j;&⟨?_,?_⟩
 ·show (Me t.place (AX t.place j) j).toList.Pairwise (·<·);rw[LP];have ne:t.place[AX t.place j]?≠NR j:=λz=>by B4 LB at q;dsimp only at q;rw[z]at q;simp at q
  have lo:∀x∈t.place.toList.take (AX t.place j),x<j:=λx hx=>by
   B3⟨i,hi,rfl⟩:=G6 hx;rw[G7]at hi;have hs:i<t.place.size:=by simp at hi;omega
   have:=b2 i A6;simpa[Q3,hs]using this
  have hi:∀x∈t.place.toList.drop (AX t.place j),j<x:=λx hx=>by
   B3⟨i,hi,rfl⟩:=G6 hx;rw[O1,L3]at hi;have hs:AX t.place j+i<t.place.size:=by omega
   have h1:=b3 (AX t.place j+i) A6 hs;have e:(t.place.toList.drop (AX t.place j))[i]=t.place.getD (AX t.place j+i) 0:=by simp[Q3,hs]
   rw[e];rcases m8 i with z | z
   ·subst z;rcases G4 j (t.place.getD (AX t.place j+0) 0)with y | y
    ·~y
    ·&absurd ?_ ne;have e2:t.place.getD (AX t.place j) 0=j:=by simp only[Nat.add_zero]at y h1;omega
     rw[O4 A6];simpa[Q3,show AX t.place j<t.place.size by omega]using e2
   ·have h0:=b3 (AX t.place j) (C9 _) A6;have:=J8.mp up (AX t.place j) (AX t.place j+i) (by simp;omega) (by simpa using hs) A6;simp only[W8]at this;have e3:t.place.getD (AX t.place j) 0<t.place.getD (AX t.place j+i) 0:=by simpa[Q3,hs,show AX t.place j<t.place.size by omega]using this
    omega
  &K6.mpr ⟨up.sublist (M6 _ _),F6.mpr ⟨hi,up.sublist (o7 _ _)⟩,λx hx y hy=>?_⟩;have h1:=lo x hx;rcases B9.mp hy with z | z
  ·omega
  ·have:=hi y z;omega
 ·show (if IF t.dummies j then _ else t.dummies)=#[];rw[hd];simp[IF]
B5 Led.lay{b:Bool}{t:SetTable}(h:Led b t)(es:Array (Int×AE))(k:Int)(x:AE):Led b (layNew t es k x).2.1:=by
 B4 layNew;split
 ·rename_i j w e;dsimp only;B4 Mb;split
  ·&⟨h.1,λq=>?_⟩;B3⟨u,d⟩:=h.2 q;~aCB d u (Xy d e).1
  ·~Led.standIn (t:=(t.put j).1) ⟨h.1,λq=>by
    B3⟨u,d⟩:=h.2 q;~aCB d u (Xy d e).1⟩ _
 ·~h.standIn _
B5 aGC{β:Type}(f:Nat→Option β):∀l:List Nat,l.Pairwise (·<·)→((l.filterMap λj=>(f j).map λy=>(j,y)).map (·.1)).Pairwise (·<·)∧∀x∈((l.filterMap λj=>(f j).map λy=>(j,y)).map (·.1)),x∈l
 | [],_=>⟨.nil,λx h=>by simp at h⟩
 | a::l,h=>by
  B3⟨h1,h2⟩:=F6.mp h;B3⟨i1,i2⟩:=aGC f l h2;rw[T3];cases e:f a with
  | none=>~⟨i1,λx hx=>C6 _ (i2 x hx)⟩
  | some y=>
   &⟨F6.mpr ⟨λx hx=>h1 x (i2 x hx),i1⟩,λx hx=>?_⟩;rcases B9.mp hx with z | z
   ·~z▸C8
   ·~C6 _ (i2 x z)
B5 Led.aJ5{b:Bool}{t:SetTable}(h:Led b t)(es:Array (Int×AE))(n:Nat):Led b (ET t es n).2.1:=by
 B4 ET;split
 ·rename_i t' order e;dsimp only;split
  ·dsimp only;B4 NH NN at e;B3⟨ow,e1,e2⟩:=aZ e;injection e2 with e2;injection e2 with e3 e4;rw[←e3];~⟨h.1,λ_=>⟨by simpa using (aGC (λj=>ow.getD j none) _ V5).1,U⟩⟩
  ·~h.standIn _
 ·~h.standIn _
B5 Gb{α:Type}:∀(l:List α)(i:Nat)(h:i<l.length),(l[i]::l.eraseIdx i).Perm l
 | [],i,h=>absurd h (by simp)
 | a::l,0,h=>U8 _
 | a::l,i+1,h=>by have:=Gb l i (by simpa using h);simp only[List.getElem_cons_succ,N7];~(y8 a _ _).trans (this.cons a)
B5 wg{α:Type}(next:Nat→Nat):∀(n:Nat)(left:List α)(k:Nat)(out:Array α),left.length=n→((IG next n k left out).toList).Perm (out.toList++left)
 | 0,left,k,out,hn=>by have:left=[]:=N1 hn;subst this;simp[IG]
 | n+1,left,k,out,hn=>by
  B4 IG;have hl:next k%left.length<left.length:=R8 _ A6
  rw[B6 hl];dsimp only;&(wg next n (left.eraseIdx (next k%left.length)) (k+1) _ (by rw[Y1 hl];omega)).trans ?_;rw[o8,P9];~i6 _ (Gb _ _ hl)
B5 aAN{α:Type}(next:Nat→Nat)(xs:Array α):(IH next xs).toList.Perm xs.toList:=by
 have:=wg next xs.size xs.toList 0 #[] (by simp)
 simpa[IH]using this
end L2


namespace L2
open PySem PySem.Spec PyProof.Rows
section
variable{prog:AQ}{w:AS}{A:AV}{E:AE→AG→Prop}{s:AG}{b:Bool}
def Gd(prog:AQ)(w:AS)(b:Bool)(h:Heap)(a:AF)(S:Int→Bool)(n:Nat):Prop:=
 ∃o es ep t,h.get? a=NR o∧o.ExactSet∧o.data=.set es ep t∧KI (intKind prog w) es.toList∧(∀k,S k=NU↔∃e∈es.toList,(intKind prog w).is k e.2=NU)∧es.size<DB∧t.fits es.size=NU∧es.size=n∧Led b t
B5 Gd.at_{h h':Heap}{a:AF}{S:Int→Bool}{n:Nat}(x:Gd prog w b h a S n)(e:∀o,h.get? a=NR o→h'.get? a=NR o):Gd prog w b h' a S n:=
 let ⟨o,es,ep,t,ho,r⟩:=x;⟨o,es,ep,t,e o ho,r⟩
B5 Gd.to{h:Heap}{a:AF}{S S':Int→Bool}{n n':Nat}(x:Gd prog w b h a S n)(e:∀k,S k=S' k)(en:n=n'):Gd prog w b h a S' n':=by subst en;have:S=S':=funext e;rw[←this];~x
B5 aGD{h:Heap}{a:AF}{o:Obj}{es es':Array (Int×AE)}{ep:Nat}{t t':SetTable}{S':Int→Bool}(ho:h.get? a=NR o)(hex:o.ExactSet)(hd:o.data=.set es ep t)(hel:KI (intKind prog w) es'.toList)
  (hm:∀k,S' k=NU↔∃e∈es'.toList,(intKind prog w).is k e.2=NU) (hz:es'.size<DB) (hf:t'.fits es'.size=NU) (hl:Led b t') :
  (h.update a (JO es' t')).get? a=NR {o with data:=.set es' (ep+1) t'}∧Gd prog w b (h.update a (JO es' t')) a S' es'.size:=
 have g:=(SetOf_store (knd:=intKind prog w) ho hex hd hel hm hz hf).1
 ⟨g,_,es',ep+1,t',g,hex,U,hel,hm,hz,hf,U,hl⟩
B5 aCC{g:Bool→Sem Unit}(hg:∀(c:Bool)(s₁:AG)(Q':Unit→AG→Prop),Q' () s₁→AL ON A (g c) Q' E s₁){a:AF}{o:Obj}{es e1:Array (Int×AE)}{ep:Nat}{t t2:SetTable}{S':Int→Bool}
  (ho:s.heap.get? a=NR o) (hex:o.ExactSet) (hd:o.data=.set es ep t) (hel:KI (intKind prog w) e1.toList) (hm:∀k,S' k=NU↔∃e∈e1.toList,(intKind prog w).is k e.2=NU) (hz:e1.size<DB) (hf:t2.fits e1.size=NU) (hl:Led b t2)
  {wd:Bool} {R:Option Bool→AG→Prop} (h:∀h',Bi a s.heap h'→Gd prog w b h' a S' e1.size→R (NR NU) {s with heap:=h'}) :
  AL ON A (do
    storeSet a e1 t2
    if(!wd&&t2.tooFull)=NU then do
      g (ET t2 e1 (Bz e1.size)).2.2
      storeSet a (ET t2 e1 (Bz e1.size)).1 (ET t2 e1 (Bz e1.size)).2.1
      pure (NR NU)
     else pure (NR NU)) R E s:=by
 B3⟨g1,s1⟩:=aGD (prog:=prog) (w:=w) ho hex hd hel hm hz hf hl;&AH (IM ho hd ?_ (FD hz));have sb:=BI s.heap a (JO e1 t2);split
 ·have pm:=relayAll_perm t2 e1 (Bz e1.size);have ff:=relayAll_fits t2 e1 (Bz e1.size);have ll:=hl.aJ5 e1 (Bz e1.size);have sz:(ET t2 e1 (Bz e1.size)).1.size=e1.size:=by rw[←L3,pm.length_eq,L3]
  have zz:(ET t2 e1 (Bz e1.size)).1.size<DB:=by rw[sz];~hz
  &AH (hg _ _ _ (AH (IM g1 U ?_ (FD zz))));B3⟨_,s2⟩:=aGD (prog:=prog) (w:=w) (S':=S') g1 hex U (hel.perm pm) (λk=>(hm k).trans ⟨λ⟨e,he,q⟩=>⟨e,pm.mem_iff.mpr he,q⟩,λ⟨e,he,q⟩=>⟨e,pm.mem_iff.mp he,q⟩⟩) zz ff ll;rw[sz]at s2;~wpAny_pure (h _ (sb.trans (BI _ a _)) s2)
 ·~wpAny_pure (h _ sb s1)
B5 aJ6{a:AF}{S:Int→Bool}{n:Nat}{k:Int}{tk:Tok}{Q:Bool→AG→Prop}(hS:Gd prog w b s.heap a S n)(room:n+1<DB)
  (h:∀h',Bi a s.heap h'→Gd prog w b h' a (λj=>S j||decide (j=k)) (if S k then n else n+1)→Q (!S k) {s with heap:=h'}) :
  AL ON A (LS a (.int k tk) ((intKind prog w).hash k)) Q E s:=by
 B3⟨o,es,ep,t,ho,hex,hd,hel,hm,hb,hf,hn,hl⟩:=hS;have key:(intKind prog w).is k (.int k tk)=NU:=JU _ _ _ _;have sc:(Ct k tk).scannable=NU:=rfl;B4 LS setAddHashedIn;&CD (AH (CL ho hd hf ?_));dsimp only;rw[byScan_of sc hb hel];simp only[↓reduceIte];B4 setAddByScan;&AH (AH (JY (AH (wpAny_setScan_of key ho hd hf hel ?_))));cases hr:List.findIdx? (λe=>(intKind prog w).is k e.2) es.toList with
 | some j=>
  dsimp only;B3⟨hj,pj,_⟩:=List.findIdx?_eq_some_iff_getElem.mp hr;have hk:S k=NU:=(hm k).mpr ⟨es.toList[j],L0 hj,pj⟩;have z:=h s.heap (Mn a s.heap) ⟨o,es,ep,t,ho,hex,hd,hel,λj=>by
   rw[u7,decide_eq_true_eq,←hm j];~⟨λq=>q.elim id λe=>by rw[e];~hk,.inl⟩,hb,hf,by rw[hk];~hn,hl⟩
  rw[hk]at z;~wpAny_pure (wpAny_pure z)
 | none=>
  dsimp only;have hk:S k=NV:=by
   cases e:S k with
   | false=>rfl
   | true=>B3⟨x,hx,px⟩:=(hm k).mp e;have:=List.findIdx?_eq_none_iff.mp hr x hx;rw[px]at this;cases this
  have hgw:∀(c:Bool) {s₁:AG} {Q':Unit→AG→Prop},Q' () s₁→AL ON A (match c with | true=>rule "set.scan.the-table-gave-way" | false=>pure ()) Q' E s₁:=λc s₁ Q' q=>by
   cases c
   ·~wpAny_pure q
   ·~JY q
  have pm:=layNew_perm t es ((intKind prog w).hash k) (.int k tk);have ff:=layNew_fits t es ((intKind prog w).hash k) (.int k tk);have ll:=hl.lay es ((intKind prog w).hash k) (.int k tk);generalize layNew t es ((intKind prog w).hash k) (.int k tk)=Y at pm ff ll ⊢;B3⟨e1,t1,wd,gave⟩:=Y;dsimp only at pm ff ll ⊢;rw[o8]at pm;have sz:e1.size=n+1:=by rw[←L3,pm.length_eq,D1,L3,hn];rfl
  have zz:e1.size<DB:=by omega
  have el1:=(hel.push key sc).perm pm;have m1:=mem_push_iff (k:=k) key hm pm;&AH (hgw _ ?_);have fin:∀h',Bi a s.heap h'→Gd prog w b h' a (λj=>S j||decide (j=k)) e1.size→Q NU {s with heap:=h'}:=λh' q1 q2=>by have z:=h h' q1;rw[hk]at z;rw[sz]at q2;~z q2
  split
  ·rw[hashByValue_scannable 8 sc];&AH (wpAny_pure ?_);&aCC (b:=b) (λc s₁ Q' q=>hgw c q) ho hex hd el1 m1 zz ?_ ?_ λh' q1 q2=>?_
   ·split
    ·~ff
    ·~Lc ff
   ·split
    ·~ll
    ·~ll.off
   ·dsimp only;~wpAny_pure (fin h' q1 q2)
  ·&AH (wpAny_pure ?_);simp only[↓reduceIte];&aCC (b:=b) (λc s₁ Q' q=>hgw c q) ho hex hd el1 m1 zz ff ll λh' q1 q2=>?_;dsimp only;~wpAny_pure (fin h' q1 q2)
end
section
variable{prog:AQ}{w:AS}{A:AV}{R:FU→AG→Prop}{I:AF}{fp wr:List AF}{G:Array IT→Array IT→Prop}{n:Nat}{P:Nat→AE→Prop}{St:Nat→AG→Prop}{b:Bool}
abbrev iy(prog:AQ)(w:AS)(b:Bool)(h:Heap)(a:AF)(val:Nat→Int)(i:Nat):Prop:=Gd prog w b h a (λk=>(Fa val i).any (·==k)) (Fa val i).length
B5 aIf(W:WalksS prog w A.in1 I fp wr G n P St)(a:AF)(hf:a∉fp)(val:Nat→Int)(hval:∀i v,P i v→∃t,v=.int (val i) t)(hz:n+1<DB) :
  ∀(m i:Nat)(s:AG),n-i=m→i≤n→St i s→iy prog w b s.heap a val i→(∀s',Moved (a::wr) G s s'→iy prog w b s'.heap a val n→R (.ok (.ret .none)) s') →
   Cn ON A (.builtin "set.update.loop" ⟨[.ref a,.ref I],[]⟩) R s:=by
 have hw:a∉wr:=λz=>hf (W.sub _ z);have sub:∀c∈wr,c∈a::wr:=λc hc=>C6 _ hc;intro m
 induction m with
 | zero=>
  intro i s hk hi hst hS hR;have e:i=n:=by omega
  subst e;&DC U5 ?_;rw[CS P5 _];show AL _ A.in1 (DU (.ref I) >>= _) _ _ s;&AH (W.done s _ _ hst λs' mv=>?_);show AL _ A.in1 (ret BM) _ _ s';~wpAny_pure (hR s' (mv.mono sub) (hS.at_ λo e=>mv.heap a o hw e))
 | succ m ih=>
  intro i s hk hi hst hS hR;have lt:i<n:=by omega
  &DC U5 ?_;rw[CS P5 _];show AL _ A.in1 (DU (.ref I) >>= _) _ _ s;&AH (W.item i s _ _ lt hst λv s1 hP st1 mv=>?_);B3⟨tk,rfl⟩:=hval i v hP;have S1:iy prog w b s1.heap a val i:=hS.at_ λo e=>mv.heap a o hw e;show AL _ A.in1 (DI [Ct (val i) tk] (setAdd a (.int (val i) tk)) >>= _) _ _ s1;B4 setAdd;&AH (CD (CD (AH ((intKind prog w).pyHash (k:=val i) (JU _ _ _ _) ?_))));have room:(Fa val i).length+1<DB:=by have:=II val i;omega
  &aJ6 (s:={s1 with toks:=s1.toks+1}) S1 room λh' sb S2=>?_;have S3:iy prog w b h' a val (i+1):=S2.to (λj=>by rw[HM,step_any]) (by rw[HM,step_length]);&wpAny_pure ⟨EI P5 _,ih (i+1) _ A6 lt (W.frame _ s1 _ _ st1 (O5 _) λc hc o e=>?_) S3 λs2 mv2 S4=>?_⟩
  ·rw[sb.2 c λz=>hf (by rw[←z];~hc)];~e
  ·&hR s2 (Moved.trans W.gtrans ((mv.mono sub).then_heap (O5 _) λc o hc e=>?_) mv2) S4;rw[sb.2 c λz=>hc (by rw[z];~C8)];~e
end
end L2


namespace L2
open PySem PySem.Spec PyProof.Rows
section
variable{prog:AQ}{w:AS}{A:AV}{E:AE→AG→Prop}{s:AG}
abbrev wD(b:Bool):Obj:={cls:=.type "set", dict:=none,data:=.set #[] 0 (.fresh 0 0 b)}
abbrev wF(w:AS):Bool:=!w.params.followText "set-order"
B5 aJ7(a:AE){Q:AE→AG→Prop}(h:Q (.ref s.heap.objs.size) {s with heap:=s.heap.push (wD (wF w))}) :
  Cn ON A (.call (.builtin "set.__new__") ⟨[.type "set", a],[]⟩) (wants Q E) s:=by
 &Jn ?_;show AL _ A.in1 (checkBuiltinCall "set.__new__" ⟨[.type "set", a],[]⟩ >>= λ_=>again (.builtin "set.__new__" ⟨[.type "set", a],[]⟩)) _ _ s;&AH (EA (PySem.F.newCall_set_1 a) (wpAny_pure ⟨EI i7 _,DC PySem.F.entry_set_new ?_⟩));rw[CS i7 _];B4 EB.«set.__new__» LD;have sub:=sub_set_self;B3⟨hp,g,d,tk,os⟩:=s;dsimp only
 wp_walk
 &CY (wpAny_pure ?_);dsimp only;simp only[newObj];~AH (wpAny_alloc (wpAny_pure (wpAny_pure h)))
B5 aFb(b:Bool){h:Heap}{a:AF}{val:Nat→Int}(e:h.get? a=NR (wD b)):iy prog w b h a val 0:=
 ⟨_,#[],0,_,e,⟨U,U,U⟩,U,λx hx=>by simp at hx,λk=>by simp[LF],by decide,by rfl,U,Led.fresh b⟩
B5 aJ8{l:AF}{its:Array AE}{ns:List Int}{Q:AE→AG→Prop}(hh:A.handled=none)(hl:s.heap.IsList l its)(hi:EL its.toList ns)(hz:its.size+1<DB)
  (h:∀(h':Heap)(tk:Nat),iy prog w (wF w) h' s.heap.objs.size (λi=>ns.getD i 0) its.size→(∀b o,s.heap.get? b=NR o→h'.get? b=NR o)→Q (.ref s.heap.objs.size) {s with heap:=h',toks:=tk}) :
  AL ON A (call (.type "set") [.ref l]) Q E s:=by
 B3⟨c,tl,hmro⟩:=N4.mro;have hmade:=N4.made;have hsub:=N4.sub;&JE (Jn ?_);show AL _ _ (callAny (.type "set") _) _ _ _;&wpAny_pure ⟨Code.quiet_builtin _ A7,DC PySem.F.entry_type_call ?_⟩;rw[Around.under_plain (weight_type_call_type "set" [.ref l] []) rfl];have h1:=N4.notType;have h2:=N4.canCreate;have hct:=PySem.F.typeCall_set_1 (.ref l)
 repeat (any_goals (first | assumption | wp_step))
 &DJ (aJ7 (.ref l) (E:=E) (Q:=λv s1=>v=.ref s.heap.objs.size∧s1={s with heap:=s.heap.push (wD (wF w))}) ⟨U,U⟩) λr s1 hr=>?_;cases r with
 | error e=>~hr
 | ok fl=>
  cases fl with
  | ret obj=>
   B3⟨rfl,rfl⟩:=hr;have g0:(s.heap.push (wD (wF w))).get? s.heap.objs.size=NR (wD (wF w)):=AR _ U;have hT:LG {s with heap:=s.heap.push (wD (wF w))} (.ref s.heap.objs.size) "set" := ⟨_,g0,U⟩
   have hli:=N4.init.lookup;have hbi:=N4.init.bind (.ref s.heap.objs.size)
   repeat (any_goals (first | assumption | wp_step))
   &DJ (codeAny_call_builtin (R:=wants (λr s2=>r=.none∧∃h' tk,s2={s with heap:=h',toks:=tk}∧iy prog w (wF w) h' s.heap.objs.size (λi=>ns.getD i 0) its.size∧(∀b o,s.heap.get? b=NR o→h'.get? b=NR o)) E) N4.init.plain PySem.F.entry_set_init (check_set_init_1 hT ?_)) λr2 s2 hr2=>?_
   ·B3⟨ol,hol,hcl,nl,hdl⟩:=hl;B3⟨ocls,odict,odata,oslots⟩:=ol;simp only at hcl hdl;subst hcl hdl;have hol':(s.heap.push (wD (wF w))).get? l=NR {cls:=.type "list", dict:=odict,data:=.seq its nl,slots:=oslots}:=AI _ hol;have q1:=PySem.F.sub_list_set;have q2:=PySem.F.sub_list_frozenset;have q3:(CO "list" == CO "dict")=NV:=by decide
    have L1:(s.heap.push (wD (wF w))).IsList l its:=⟨_,hol',U,nl,U⟩
    B4 EB.«set.__init__» noKeywords KL;generalize hPI:He=PI
    wp_walk
    subst hPI;&DF L1 (AH (KM ?_));have lt:=AN hol;have hh3:A.in1.in1.in1.handled=none:=by simp[hh]
    have ne:l≠(s.heap.push (wD (wF w))).objs.size:=by rw[BE];~F3 (N8 lt)
    have nf:s.heap.objs.size∉[(s.heap.push (wD (wF w))).objs.size,l]:=by
     rw[BE];intro z;rcases B9.mp z with z | z
     ·~absurd z (F3 (N2 _))
     ·~absurd (D2.mp z) (Q7 lt)
    have hval:∀(i:Nat)(v:AE),its[i]?=NR v→∃t,v=.int ((λi=>ns.getD i 0) i) t:=λi v hv=>hi.int_at i v (by rw[M8];~hv);&aIf ((HC hh3 _ l ne its).toS) s.heap.objs.size nf (λi=>ns.getD i 0) hval hz (its.size-0) 0 _ A6 (L5 _) ⟨⟨_,AR _ U,U,U⟩,(L1.push _)⟩ (aFb (wF w) (AI _ g0)) λs' mv S'=>?_;B3⟨h',g',d',tk',os'⟩:=s';have eg:g'=s.gens:=mv.gens;have ed:d'=s.drawn:=mv.drawn;have eo:os'=s.os:=mv.os;subst eg ed eo;show AL _ _ _ _ _ _;&wpAny_pure ?_;show AL _ _ (ret BM) _ _ _;&wpAny_pure ⟨U,h',tk',U,S',λb o e=>?_⟩;have lb:=AN e;&mv.heap b o (λz=>?_) (AI _ (AI _ e));rcases B9.mp z with z | z
    ·~absurd z (F3 lb)
    ·have:=D2.mp z;rw[BE]at this;~absurd this (F3 (N8 lb))
   ·cases r2 with
    | error e=>~hr2
    | ok f2=>
     cases f2 with
     | ret r=>
      B3⟨rfl,h',tk,rfl,S',kp⟩:=hr2
      repeat (any_goals (first | assumption | wp_step))
      ~h _ _ S' kp
     | _=>~hr2.elim
  | _=>~hr.elim
end
end L2


namespace L2
open PySem PySem.Spec PyProof.Rows
B5 aCD:NI.lookup (String.ofList ['r','o','t','a','r','e','t','i','_','t','e','s'].reverse)=NR LJ:=by kernel_rfl
B5 pY:Slot "set_iterator" "__next__" "set_iterator.__next__" := Slot.of (owner := "set_iterator") (n := "__next__") (by rw[KA,GV];kernel_rfl) A7 A7 A7 (by first | ~.inl A7 | ~.inr A7) (by rw[GW];kernel_rfl)
B5 Dm:LU table "set_iterator.__next__" = NR EB.«set_iterator.__next__»:=entryFor_of_tree (by kernel_rfl)
B5 Dp(a:AE):LV "set_iterator.__next__" ⟨[a],[]⟩:=by B4 LV;rw[LH (id := "set_iterator.__next__") (n:=['_','_','t','x','e','n','_','_']) (o:=['r','o','t','a','r','e','t','i','_','t','e','s']) (by kernel_rfl) aCD];kernel_rfl
B5 wj:Slot "set_iterator" "__iter__" "set_iterator.__iter__" := Slot.of (owner := "set_iterator") (n := "__iter__") (by rw[KA,GV];kernel_rfl) A7 A7 A7 (by first | ~.inl A7 | ~.inr A7) (by rw[GW];kernel_rfl)
B5 aAO(a:AE):LV "set_iterator.__iter__" ⟨[a],[]⟩:=by B4 LV;rw[LH (id := "set_iterator.__iter__") (n:=['_','_','r','e','t','i','_','_']) (o:=['r','o','t','a','r','e','t','i','_','t','e','s']) (by kernel_rfl) aCD];kernel_rfl
B5 aAP:LU table "set_iterator.__iter__" = NR EB.«dict_keyiterator.__iter__»:=KO (id' := "dict_keyiterator.__iter__") (by kernel_rfl) (by first | rfl | decide +kernel | (B4 String.splitOn;simp +decide [String.splitOnAux])) A7 (by kernel_rfl)
B5 aAQ:LU table "set.__iter__" = NR EB.«frozenset.__iter__»:=KO (id' := "frozenset.__iter__") (by kernel_rfl) U A7 (by kernel_rfl)
def wk(h:Heap)(I:AF)(f:AE)(i:Nat)(a:AF)(n ep:Nat):Prop:=∃o,h.get? I=NR o∧o.cls=.type "set_iterator" ∧ o.data=.fields #[f,.int (i:Int) 0,.ref a,.int (n:Int) 0,.int (ep:Int) 0]
def iz(h:Heap)(a:AF)(es:Array (Int×AE))(ep:Nat)(t:SetTable):Prop:=∃o,h.get? a=NR o∧o.cls=.type "set" ∧ o.data=.set es ep t∧t.fits es.size=NU
B5 wk.at_{h h':Heap}{I a:AF}{f:AE}{i n ep:Nat}(x:wk h I f i a n ep)(e:∀o,h.get? I=NR o→h'.get? I=NR o):wk h' I f i a n ep:=let ⟨o,ho,r⟩:=x;⟨o,e o ho,r⟩
B5 iz.at_{h h':Heap}{a:AF}{es:Array (Int×AE)}{ep:Nat}{t:SetTable}(x:iz h a es ep t)(e:∀o,h.get? a=NR o→h'.get? a=NR o):iz h' a es ep t:=let ⟨o,ho,r⟩:=x;⟨o,e o ho,r⟩
section
variable{prog:AQ}{w:AS}{A:AV}{E:AE→AG→Prop}{s:AG}{I a T:AF}{f:AE}{i n ep:Nat}{es:Array (Int×AE)}{t:SetTable}
B5 wk.ty(x:wk s.heap I f i a n ep):s.TypeIs (.ref I) "set_iterator" := let ⟨o,ho,hc,_⟩:=x;⟨o,ho,hc⟩
B5 iz.ty(x:iz s.heap a es ep t):s.TypeIs (.ref a) "set" := let ⟨o,ho,hc,_⟩:=x;⟨o,ho,hc⟩
B5 wu{Q:AE→AG→Prop}(x:wk s.heap I f i a n ep)(h:Q (.ref I) s):AL ON A (He (.ref I)) Q E s:=by&IP x.ty wj (CA wj x.ty aAP ?_ (aAO _));show AL _ _ (ret (.ref I)) _ _ s;~wpAny_pure ⟨_,U, "set_iterator", _,x.ty,pY.lookup,h⟩
B5 RC{α:Type}{h1:Heap}{Q0:α→AG→Prop}{E':AE→AG→Prop}(hh:A.handled=none)(hQ:∀(v:AE) h',LG {s with heap:=h'} v "StopIteration" → (∀b o,h1.get? b=NR o→h'.get? b=NR o)→E' v {s with heap:=h'}) :
  AL ON A.in1 (newExc (.type "StopIteration") [] >>= λe=>(raiseNew e:Sem α)) Q0 E' {s with heap:=h1}:=by
 &AH ?_;simp only[newExc,newTuple];&AH (CI (AH (m:=KP _ _) (EA (a:=BM) (by first | rfl | (simp only[KP];rfl)) (CI ?_ (by size_fits)))) (by size_fits));simp only[raiseNew];&AH (wpAny_handled ?_);rw[show A.in1.handled=none from hh];&AH (wpAny_pure (wpAny_throw ?_));&hQ (.ref _) _ ?_ λb o e=>AI _ (AI _ e);~⟨_,AR _ U,U⟩
B5 aFc{slot nxt:Nat}{x:AE}{Q:Option AE→AG→Prop}(hit:wk s.heap I (.int (slot:Int) 0) i a es.size ep)(hs:iz s.heap a es ep t)
  (hN:∀(Q':Option (AE×Nat)→AG→Prop) E',Q' (NR (x,nxt)) s→AL ON A.in1 (FR a slot i ep) Q' E' s)
  (hQ:∀h',wk h' I (.int (nxt:Int) 0) (i+1) a es.size ep→Bi I s.heap h'→Q (NR x) {s with heap:=h'}):AL ON A (DU (.ref I)) Q E s:=by
 B3⟨o,ho,hc,hd⟩:=id hit;B3⟨oa,ha,_,hda,hf⟩:=id hs;B4 DU;&AH (Ee (Ch (name:=Fh "__next__") hit.ty pY (CA pY hit.ty Dm ?_ (Dp _))));B4 EB.«set_iterator.__next__»;&AH (EA (a:=(AW I,[])) U ?_);dsimp only;&AH (EU ho hd ?_);dsimp only;&AH (Cb ha hda hf ?_);rw[if_neg (by simp)];dsimp only[C7];&AH (hN _ _ ?_);dsimp only;&AH (DL ho hd (by simp) ?_);have g1:=BN (LI (·.setIfInBounds 0 (ES (nxt:Int)))) ho (DM (BO hd _));have d1:=BO hd (·.setIfInBounds 0 (ES (nxt:Int)));&AH (DL g1 d1 (by simp) (wpAny_pure ⟨x,U,wpAny_pure (hQ _ ?_ ((BI ..).trans (BI ..)))⟩));&⟨_,BN _ g1 (DM (BO d1 _)),(FF ..).trans ((FF ..).trans hc),?_⟩;rw[BO d1];simp[ES]
B5 aIg{slot:Nat}{Q:Option AE→AG→Prop}(hh:A.handled=none)(hit:wk s.heap I (.int (slot:Int) 0) i a es.size ep)(hs:iz s.heap a es ep t)
  (hN:∀(Q':Option (AE×Nat)→AG→Prop) E',Q' none s→AL ON A.in1 (FR a slot i ep) Q' E' s)
  (hQ:∀h',(∀b o,b≠I→s.heap.get? b=NR o→h'.get? b=NR o)→Q none {s with heap:=h'}):AL ON A (DU (.ref I)) Q E s:=by
 B3⟨o,ho,hc,hd⟩:=id hit;B3⟨oa,ha,_,hda,hf⟩:=id hs;B4 DU;&AH (Ee (Ch (name:=Fh "__next__") hit.ty pY (CA pY hit.ty Dm ?_ (Dp _))));B4 EB.«set_iterator.__next__»;&AH (EA (a:=(AW I,[])) U ?_);dsimp only;&AH (EU ho hd ?_);dsimp only;&AH (Cb ha hda hf ?_);rw[if_neg (by simp)];dsimp only[C7];&AH (hN _ _ ?_);dsimp only;&AH (DL ho hd (by simp) ?_);&RC hh λv h' ty kp=>AH (Fk ty KS ?_);~wpAny_pure (hQ h' λb o nb e=>kp b o ((BI s.heap I _).extBut b o nb e))
B5 aFd{ps:Array AE}{c p:Nat}{tk:Tok}{hx:Int}{x:AE}{oT:Obj}{Q:Option AE→AG→Prop}(hit:wk s.heap I (.ref T) i a es.size ep)(hs:iz s.heap a es ep t)(hT:s.heap.get? T=NR oT)(hTd:oT.data=.seq ps c)(hp:ps[i]?=NR (.int (p:Int) tk))(he:es[p]?=NR (hx,x))
  (hQ:∀h',wk h' I (.ref T) (i+1) a es.size ep→Bi I s.heap h'→Q (NR x) {s with heap:=h'}):AL ON A (DU (.ref I)) Q E s:=by
 B3⟨o,ho,hc,hd⟩:=id hit;B3⟨oa,ha,_,hda,hf⟩:=id hs;B4 DU;&AH (Ee (Ch (name:=Fh "__next__") hit.ty pY (CA pY hit.ty Dm ?_ (Dp _))));B4 EB.«set_iterator.__next__»;&AH (EA (a:=(AW I,[])) U ?_);dsimp only;&AH (EU ho hd ?_);dsimp only;&AH (Cb ha hda hf ?_);rw[if_neg (by simp)];dsimp only[C7];&AH (KU hT hTd ?_);dsimp only;rw[hp];dsimp only[C7];B4 setNextDrawn;&AH (AH (CL ha hda hf ?_));dsimp only;rw[if_neg (by simp),he];dsimp only;&wpAny_pure (AH (DL ho hd (by simp) (wpAny_pure ⟨x,U,wpAny_pure (hQ _ ?_ (BI ..))⟩)));&⟨_,BN _ ho (DM (BO hd _)),(FF ..).trans hc,?_⟩;rw[BO hd];simp[ES]
B5 aIh{ps:Array AE}{c:Nat}{oT:Obj}{Q:Option AE→AG→Prop}(hh:A.handled=none)(hit:wk s.heap I (.ref T) i a es.size ep)(hs:iz s.heap a es ep t)(hT:s.heap.get? T=NR oT)(hTd:oT.data=.seq ps c)(hp:ps[i]?=none)
  (hQ:∀h',(∀b o,b≠I→s.heap.get? b=NR o→h'.get? b=NR o)→Q none {s with heap:=h'}):AL ON A (DU (.ref I)) Q E s:=by
 B3⟨o,ho,hc,hd⟩:=id hit;B3⟨oa,ha,_,hda,hf⟩:=id hs;B4 DU;&AH (Ee (Ch (name:=Fh "__next__") hit.ty pY (CA pY hit.ty Dm ?_ (Dp _))));B4 EB.«set_iterator.__next__»;&AH (EA (a:=(AW I,[])) U ?_);dsimp only;&AH (EU ho hd ?_);dsimp only;&AH (Cb ha hda hf ?_);rw[if_neg (by simp)];dsimp only[C7];&AH (KU hT hTd ?_);dsimp only;rw[hp];dsimp only;&AH (DL ho hd (by simp) ?_);have g1:=BN (LI (·.setIfInBounds 0 (ES 0))) ho (DM (BO hd _));have d1:=BO hd (·.setIfInBounds 0 (ES 0));&AH (DL g1 d1 (by simp) ?_);&RC hh λv h' ty kp=>AH (Fk ty KS ?_);~wpAny_pure (hQ h' λb o nb e=>kp b o (((BI s.heap I _).trans (BI _ I _)).extBut b o nb e))
B5 aIi{slot:Nat}{Q:Option (AE×Nat)→AG→Prop}(hb:wF w=NV)(hs:iz s.heap a es ep t)(h:Q (((IH (w.params.setOrder a ep) es)[i]?).map λe=>(e.2,slot)) s):AL ON A (FR a slot i ep) Q E s:=by
 B3⟨oa,ha,_,hda,hf⟩:=id hs;have ft:w.params.followText "set-order" = NU:=by simpa using hb
 B4 FR;&AH (CL ha hda hf ?_);dsimp only;B4 HE;&AH (AH (CY (wpAny_pure ?_)));dsimp only;rw[show (AM prog w).w.params.followText "set-order" = NU from ft,if_pos U,if_neg (by simp)];B4 setWalk HE;&AH (AH (CL ha hda hf ?_));dsimp only;&AH (AH (CY (wpAny_pure ?_)));dsimp only;rw[show (AM prog w).w.params.followText "set-order" = NU from ft,if_pos rfl];&AH (CY (wpAny_pure (wpAny_pure ?_)));~h
def Io(t:SetTable):Nat→Nat
 | 0=>0
 | i+1=>t.place.getD i 0+1
B5 jb(up:t.place.toList.Pairwise (·<·))(hi:i≤t.place.size):AX t.place (Io t i)=i:=by
 B3⟨b1,b2,b3⟩:=below_at up (Io t i);have mono:∀a b,a<b→b<t.place.size→t.place.getD a 0<t.place.getD b 0:=λa b q q'=>by have:=J8.mp up a b (by simp;omega) (by simpa using q') q;simp only[W8]at this;simpa[Q3,q',show a<t.place.size by omega]using this
 rcases Nat.lt_trichotomy (AX t.place (Io t i)) i with z | z | z
 ·cases i with
  | zero=>omega
  | succ i=>have h1:=b3 i A6 A6;rw[show Io t (i+1)=t.place.getD i 0+1 from rfl]at h1;omega
 ·~z
 ·have h1:=b2 i z;cases i with
  | zero=>~absurd h1 (J9 _)
  | succ i=>rw[show Io t (i+1)=t.place.getD i 0+1 from rfl]at h1;have:=mono i (i+1) A6 A6;omega
B5 aIj{Q:Option (AE×Nat)→AG→Prop}(hb:wF w=NU)(hs:iz s.heap a es ep t)(hl:Led (wF w) t)(hdr:(!t.plain&&decide (es.size > 1))=NV)(hi:i≤es.size)(h:Q ((es[i]?).map λe=>(e.2,Io t (i+1))) s):AL ON A (FR a (Io t i) i ep) Q E s:=by
 B3⟨oa,ha,_,hda,hf⟩:=id hs;have ft:w.params.followText "set-order" = NV:=by simpa using hb
 have hz:t.place.size=es.size:=by simp only[NO,J2,beq_iff_eq]at hf;~hf.1
 have up:t.place.toList.Pairwise (·<·):=by
  cases e:t.plain with
  | true=>~(hl.2 e).1
  | false=>
   rw[e]at hdr;have:es.size≤1:=by simpa using hdr
   match h:t.place.toList with
   | []=>~.nil
   | [x]=>simp
   | x::y::r=>have:=congrArg f7 h;simp at this;omega
 B4 FR;&AH (CL ha hda hf ?_);dsimp only;B4 HE;&AH (AH (CY (wpAny_pure ?_)));dsimp only;rw[show (AM prog w).w.params.followText "set-order" = NV from ft,if_neg (by simp)];&DD (λq=>?_) λ_=>?_
 ·exfalso;have q':(!t.plain&&decide (es.size > 1))=NU:=q;rw[hdr]at q';cases q'
 ·&AH ?_;&DD (λq=>?_) λ_=>wpAny_pure ?_
  ·exfalso;have:t.led=NU:=by rw[hl.1,hb]
   rw[this]at q;simp at q
  ·rw[jb up A6];&wpAny_pure ?_;rcases G4 i es.size with z | z
   ·rw[O4 z]at h ⊢;rw[O4 A6];have e:t.place[i]'(by omega)=t.place.getD i 0:=by simp[Q3,show i<t.place.size by omega]
    simpa[Io,e]using h
   ·rw[Array.getElem?_eq_none z]at h ⊢;~h
end
end L2


namespace L2
open PySem PySem.Spec PyProof.Rows
section
variable{prog:AQ}{w:AS}{A:AV}{E:AE→AG→Prop}{s:AG}{I a T:AF}{f:AE}{i n ep:Nat}{es:Array (Int×AE)}{t:SetTable}
B5 aFe{M:Iq}{src:Source}{m:Nat}{Q:Nat→AG→Prop}(hm:m≠0)(h:∀i dr,i<m→Q i {s with drawn:=dr}):AL M A (choose src m) Q E s:=λ_ _ _=>⟨hm,h _ _ (R8 _ (m9 hm))⟩
B5 Xz{M:Iq}{α:Type}:∀(m:Nat)(xs:List α)(s:AG)(Q:List α→AG→Prop),xs.length=m→(∀ys dr,ys.Perm xs→Q ys {s with drawn:=dr})→AL M A (Kj m xs) Q E s
 | 0,xs,s,Q,hn,h=>by have:xs=[]:=N1 hn;subst this;B4 Kj;~wpAny_pure (h [] s.drawn (U8 _))
 | m+1,[],s,Q,hn,h=>absurd hn (by simp)
 | m+1,x::xs,s,Q,hn,h=>by B4 Kj;&AH (aFe (by simp) λi dr hi=>?_);rw[B6 hi];dsimp only;&AH (Xz m ((x::xs).eraseIdx i) _ _ (by rw[Y1 hi];omega) λys dr' pm=>wpAny_pure ?_);~h _ dr' ((pm.cons _).trans (Gb _ _ hi))
def Ord(S:Int→Bool)(n:Nat)(ord:List AE):Prop:=ord.length=n∧∃ns,EL ord ns∧∀k,S k=NU↔k∈ns
B5 jc{S:Int→Bool}{l:List (Int×AE)}{ord:List AE}(hel:KI (intKind prog w) l)(hm:∀k,S k=NU↔∃e∈l,(intKind prog w).is k e.2=NU)(hn:l.length=n)(pm:ord.Perm (l.map (·.2))):Ord S n ord:=by
  &⟨by rw[pm.length_eq,B8,hn],?_⟩;have allI:∀v∈ord,∃k t,v=Ct k t:=λv hv=>by B3⟨e,he,rfl⟩:=J4.mp (pm.mem_iff.mp hv);B3⟨⟨k,hk,_⟩,_⟩:=hel e he;B3⟨t,ht⟩:=FB hk;~⟨k,t,ht⟩
  have mk:∀vs:List AE,(∀v∈vs,∃k t,v=Ct k t)→∃ns,EL vs ns∧∀k,k∈ns↔∃t,Ct k t∈vs:=by
    intro vs
    induction vs with
    | nil=>~λ_=>⟨[],.nil,λk=>by simp⟩
    | cons v vs ih=>
      intro hv;B3⟨ns,h1,h2⟩:=ih λv q=>hv v (C6 _ q);B3⟨k,t,rfl⟩:=hv v C8;&⟨k::ns,.cons k t h1,λj=>?_⟩;rw[B9,h2];constructor
      · rintro(rfl | ⟨t',q⟩)
        · ~⟨t,C8⟩
        · ~⟨t',C6 _ q⟩
      · rintro⟨t',q⟩
        rcases B9.mp q with q | q
        · injection q with q
          ~.inl q
        · ~.inr ⟨t',q⟩
  B3⟨ns,h1,h2⟩:=mk ord allI;&⟨ns,h1,λk=>?_⟩;rw[hm,h2];constructor
  · rintro⟨e,he,hk⟩
    B3⟨t,ht⟩:=FB hk;~⟨t,pm.mem_iff.mpr (J4.mpr ⟨e,he,ht⟩)⟩
  · rintro⟨t,q⟩
    B3⟨e,he,q⟩:=J4.mp (pm.mem_iff.mp q);~⟨e,he,by rw[q];~JU _ _ _ _⟩
B5 Tc(hh:A.handled=none)(ne:a≠I){slot:Nat→Nat}{ord:List AE}(hz:ord.length=es.size)
  (hN:∀(s:AG)(i:Nat)(Q':Option (AE×Nat)→AG→Prop) E',i≤es.size→iz s.heap a es ep t→Q' ((ord[i]?).map λv=>(v,slot (i+1))) s→AL ON A.in1 (FR a (slot i) i ep) Q' E' s) :
  Walks prog w A I [I,a] [I] es.size (λi v=>ord[i]?=NR v) (λi h=>wk h I (.int (slot i:Int) 0) i a es.size ep∧iz h a es ep t) where
 sub:=λb hb=>by simp at hb;simp[hb]
 frame:=λ_ _ _ x kp=>⟨x.1.at_ λo e=>kp I (by simp) o e,x.2.at_ λo e=>kp a (by simp) o e⟩
 item:=λi s Q E hi x hQ=>by have e:ord[i]?=NR (ord[i]'(by omega)):=B6 A6;&aFc (x:=ord[i]'(by omega)) (nxt:=slot (i+1)) x.1 x.2 (λQ' E' q=>hN s i Q' E' A6 x.2 (by rw[e];~q)) λh' st sb=>?_;~hQ _ h' s.toks e ⟨st,x.2.at_ λo eo=>sb.extBut a o ne eo⟩ λb o hb eo=>sb.extBut b o (λz=>hb (by simp[z])) eo
 done:=λs Q E x hQ=>aIg hh x.1 x.2 (λQ' E' q=>hN s es.size Q' E' (C9 _) x.2 (by rw[D9 A6];~q)) λh' kp=>hQ h' s.toks λb o hb e=>kp b o (λz=>hb (by simp[z])) e
 self:=λ_ _ _ _ x hQ=>wu x.1 hQ
B5 jd(hh:A.handled=none)(ne:a≠I)(neT:T≠I){ps:List Nat}(hz:ps.length=es.size)(hp:∀p∈ps,p<es.size) :
  Walks prog w A I [I,a,T] [I] es.size (λi v=>(ps.map λp=>(es.getD p (0,.none)).2)[i]?=NR v) (λi h=>wk h I (.ref T) i a es.size ep∧iz h a es ep t∧∃o c,h.get? T=NR o∧o.data=.seq (ps.map λ(p:Nat)=>ES p).toArray c) where
 sub:=λb hb=>by simp at hb;simp[hb]
 frame:=λ_ _ _ x kp=>⟨x.1.at_ λo e=>kp I (by simp) o e,x.2.1.at_ λo e=>kp a (by simp) o e,let ⟨o,c,ho,hd⟩:=x.2.2;⟨o,c,kp T (by simp) o ho,hd⟩⟩
 item:=λi s Q E hi x hQ=>by
  B3⟨h1,h2,oT,c,hT,hTd⟩:=x;have lt:i<ps.length:=by omega
  have lp:=hp ps[i] (L0 lt);&aFd (p:=ps[i]) (tk:=0) (hx:=es[ps[i]].1) (x:=es[ps[i]].2) h1 h2 hT hTd (by simp[lt,ES]) (by rw[O4 lp]) λh' st sb=>?_;~hQ _ h' s.toks (by simp[lt,Q3,lp]) ⟨st,h2.at_ λo eo=>sb.extBut a o ne eo,oT,c,sb.extBut T oT neT hT,hTd⟩ λb o hb eo=>sb.extBut b o (λz=>hb (by simp[z])) eo
 done:=λs Q E x hQ=>by B3⟨h1,h2,oT,c,hT,hTd⟩:=x;~aIh hh h1 h2 hT hTd (by simp[hz]) λh' kp=>hQ h' s.toks λb o hb e=>kp b o (λz=>hb (by simp[z])) e
 self:=λ_ _ _ _ x hQ=>wu x.1 hQ
B5 aCE{S:Int→Bool}{Q:AE→AG→Prop}(hh:A.handled=none)(hs:Gd prog w (wF w) s.heap a S n)
    (h:∀(h1:Heap)(dr:Ic)(I:AF)(fp:List AF)(ord:List AE)(St:Nat→Heap→Prop),(∀b o,s.heap.get? b=NR o→h1.get? b=NR o)→Walks prog w A I fp [I] n (λi v=>ord[i]?=NR v) St→St 0 h1→(∀x∈fp,x=a∨s.heap.objs.size≤x)→s.heap.objs.size≤I→Ord S n ord→Q (.ref I) {s with heap:=h1,drawn:=dr}) :
    AL ON A (He (.ref a)) Q E s:=by
  B3⟨o,es,ep,t,ho,hex,hd,hel,hm,hz,hf,hn,hl⟩:=hs;have sat:iz s.heap a es ep t:=⟨o,ho,hex.1,hd,hf⟩
  have lt:=AN ho;subst hn;&IP sat.ty i8 (CA i8 sat.ty aAQ ?_ (PySem.F.args_set_iter_1 _));B4 EB.«frozenset.__iter__» Ll;&AH (AH (EA (a:=(AW a,[])) U ?_));B4 LW LX;&wpAny_pure (AH (AH (Cb ho hd hf (wpAny_pure ?_))));B4 setDrawn HE;&AH (AH (CL ho hd hf ?_));dsimp only;&AH (AH (CY (wpAny_pure ?_)));&wpAny_pure ?_;&DD (λc=>?_) λc=>?_
  · have c':(wF w&&(!t.plain&&decide (es.size > 1)))=NU:=c
    rw[J2]at c';&AH (Xz es.size (D5 es.size) s _ (by simp) λps dr pm=>?_);have lps:ps.length=es.size:=by rw[pm.length_eq,E1]
    have hp:∀p∈ps,p<es.size:=λp hp=>F7.mp (pm.mem_iff.mp hp);&AH (wpAny_newTuple ?_ (by rw[B8,lps];~FD hz));have g1:(s.heap.push {cls:=.type "tuple", data:=.seq (ps.map λ(i:Nat)=>ES i).toArray}).get? a=NR o:=AI _ ho;&AH (IQ g1 hd hf ?_);&AH (CI (wpAny_pure ⟨_,U, "set_iterator", _,⟨_,AR _ U,U⟩,pY.lookup,?_⟩));&h _ dr _ _ (ps.map λp=>(es.getD p (0,.none)).2) _ (λb o e=>AI _ (AI _ e)) (jd (T:=s.heap.objs.size) (t:=t) (ep:=ep) hh ?_ ?_ lps hp) ⟨⟨_,AR _ U,U,U⟩,sat.at_ λo e=>AI _ (AI _ e),_,_,AI _ (AR _ U),U⟩ ?_ ?_ ?_
    · show a≠(s.heap.push _).objs.size
      rw[BE];~F3 (N8 lt)
    · show s.heap.objs.size≠(s.heap.push _).objs.size
      rw[BE];~F3 (N2 _)
    · intro x hx
      rcases B9.mp hx with z | z
      · rw[z]
        show _∨s.heap.objs.size≤(s.heap.push _).objs.size;rw[BE];~.inr (O5 _)
      · rcases B9.mp z with z | z
        · ~.inl z
        · rw[D2.mp z]
          ~.inr (C9 _)
    · show s.heap.objs.size≤(s.heap.push _).objs.size
      rw[BE];~O5 _
    · &jc (prog:=prog) (w:=w) hel hm (by simp) ?_
      have e:es.toList.map (·.2)=(D5 es.size).map λp=>(es.getD p (0,.none)).2:=by&Z7 (by simp) λk k1 k2=>?_;simp at k1;simp[Q3,k1]
      rw[e];~pm.map _
  · &AH (wpAny_pure ?_)
    &AH (IQ ho hd hf ?_);&AH (CI (wpAny_pure ⟨_,U, "set_iterator", _,⟨_,AR _ U,U⟩,pY.lookup,?_⟩));have ne:a≠s.heap.objs.size:=F3 lt;have fp':∀x∈[s.heap.objs.size,a],x=a∨s.heap.objs.size≤x:=λx hx=>by
      rcases B9.mp hx with z | z
      · ~.inr (l7 z.symm)
      · ~.inl (D2.mp z)
    cases hb:wF w with
    | false=>have pm:=aAN (w.params.setOrder a ep) es;&h _ s.drawn _ _ ((IH (w.params.setOrder a ep) es).toList.map (·.2)) _ (λb o e=>AI _ e) (Tc (t:=t) (ep:=ep) (slot:=λ_=>0) hh ne (by rw[B8,pm.length_eq,L3]) λs i Q' E' hi x q=>?_) ⟨⟨_,AR _ U,U,U⟩,sat.at_ λo e=>AI _ e⟩ fp' (C9 _) (jc (prog:=prog) (w:=w) hel hm (by simp) (pm.map _));&aIi hb x ?_;rw[C5,M8,y9]at q;~q
    | true=>
      have c':(!t.plain&&decide (es.size > 1))=NV:=by have c2:¬(wF w&&(!t.plain&&decide (es.size > 1)))=NU:=c;rw[hb,Bool.true_and]at c2;simpa using c2
      &h _ s.drawn _ _ (es.toList.map (·.2)) _ (λb o e=>AI _ e) (Tc (t:=t) (ep:=ep) (slot:=Io t) hh ne (by simp) λs i Q' E' hi x q=>?_) ⟨⟨_,AR _ U,U,U⟩,sat.at_ λo e=>AI _ e⟩ fp' (C9 _) (jc (prog:=prog) (w:=w) hel hm (by simp) (U8 _));&aIj hb x hl c' hi ?_;rw[C5,M8,y9]at q;~q
end
end L2


namespace L2
open PySem PySem.Spec PySem.Calls PyProof.Rows PyProof.V
section
variable{prog:AQ}{w:AS}{A:AV}{E:AE→AG→Prop}{s:AG}{I a T:AF}{n:Nat}{S:Int→Bool}
B5 aCF{Q:Bool→AG→Prop}(hT:s.TypeIs (.ref a) "set") (h:Q NV s):AL ON A (EX (.ref a)) Q E s:=by
 B4 EX;&AH (JJ hT PySem.F.slot_set_len.lookup ?_);generalize hid:("set.__len__" : String)=id0
 wp_delta
 rw[show splitId id0=NR ("set", "__len__")from by subst hid;decide +kernel];subst hid;&AH (Fk (T := "set") (b:=NU) hT (by rw[GW];kernel_rfl) (DD (λz=>absurd z A8) λ_=>DD (λ_=>?_) λz=>absurd A7 z));~AH (LY hT (wpAny_pure h))
B5 aFf{R:FU→AG→Prop}(hh:A.handled=none)(hs:Gd prog w (wF w) s.heap a S n)(hz:n≤sizeLine)(L:AF)(ne:L≠a)(hL:s.heap.get? L=NR {cls:=.type "list", data:=.seq #[] 0})
    (hR:∀h' dr tk acc c,(∀b o,b≠L→s.heap.get? b=NR o→h'.get? b=NR o)→h'.get? L=NR {cls:=.type "list", dict:=none,data:=.seq acc c,slots:=#[]}→Ord S n acc.toList→R (.ok (.ret (.ref L))) {s with heap:=h',drawn:=dr,toks:=tk}) :
    AL ON A.in1 (DT (.ref L) (.ref a) (.ref L)) (λfin s'=>match fin with | .done f=>R (.ok f) s' | .again c'=>c'.quiet=NU∧Cn ON A c' R s') (λe s'=>R (.error e) s') s:=by
  have lt:L<s.heap.objs.size:=AN hL;have ty:s.TypeIs (.ref a) "set" := let ⟨o,_,_,_,ho,hex,_⟩:=hs;⟨o,ho,hex.1⟩;B4 DT;&AH (LY (T := "set") ty ?_);have h1:Fm (.ref L) (.ref a)=NV:=by simp[Fm,ne]
  have h2:(CO "set" == CO "list")=NV:=by decide
  have h3:(CO "set" == CO "tuple")=NV:=by decide
  simp only[h1,h2,h3,z6,X9,if_false];&AH (aCE (A:=A.in1) hh hs λh0 dr I fp ord St kp W st fpo lI od=>?_);have hL1:=kp _ _ hL;have nf:L∉fp:=λz=>by
    rcases fpo L z with z | z
    · ~ne z
    · ~absurd lt (Nat.not_lt.mpr z)
  have nI:∀b o,s.heap.get? b=NR o→b≠I:=λb o e=>F3 (E7 (AN e) lI);have key:∀(h:Heap)(c1 tk:Nat),St 0 h→(∀b o,b≠L→s.heap.get? b=NR o→h.get? b=NR o)→h.get? L=NR {cls:=.type "list", data:=.seq #[] c1}→Cn ON A (.builtin "list.extend.loop" ⟨[.ref L,.ref I,.ref L],[]⟩) R {s with heap:=h,drawn:=dr,toks:=tk}:=by
    intro h c1 tk st0 k0 g0;&codeAny_extend_loopS W.toS hz L nf (.ref L) n 0 _ #[] c1 U (L5 _) st0 g0 (ItemsOf.nil _) λs' acc c mv g' it=>?_;rw[Moved.eq_with mv];&hR s'.heap dr s'.toks acc c (λb o nb e=>mv.heap b o (λz=>?_) (k0 b o nb e)) g' ?_
    · rcases B9.mp z with z | z
      · ~nb z
      · ~nI b o e (D2.mp z)
    · have e:acc.toList=ord:=by
        &K5 λj=>?_;rcases G4 j acc.size with z | z
        · have e1:acc[j]?=NR acc[j]:=O4 z
          rw[M8,e1,it.2 j _ e1]
        · rw[D9 (by simpa using z),D9 (by have:=it.1;have:=od.1;omega)]
      rw[e];~od
  &AH (CD (aCF (hT:=let ⟨o,ho,hc⟩:=ty;⟨o,kp _ _ ho,hc⟩) ?_));&DD (λ_=>?_) λ_=>wpAny_pure ⟨EI Y9 _,key _ 0 _ st (λb o _ e=>kp b o e) hL1⟩;&AH (JY (AH ?_));show AL _ _ (updateSeq L (·.push .none) >>= λ_=>updateSeq L (·.pop)) _ _ _;&AH (KB hL1 U ?_);have g2:=BN (EG (·.push BM)) hL1 U;&KB (hz:=by seq_fits) g2 U ?_;have g3:=BN (EG (·.pop)) g2 U;&wpAny_pure ⟨EI Y9 _,key _ _ _ (W.frame 0 _ _ st λb hb o e=>?_) (λb o hb e=>?_) g3⟩
  · have nb:b≠L:=λz=>nf (z▸hb)
    ~(BT _ _ (Ne.symm nb)).trans ((BT _ _ (Ne.symm nb)).trans e)
  · ~(BT _ _ (Ne.symm hb)).trans ((BT _ _ (Ne.symm hb)).trans (kp b o e))
B5 RD{R:List AE→AG→Prop}(hh:A.handled=none)(hs:Gd prog w (wF w) s.heap a S n)(hz:n≤sizeLine)
  (h:∀(h':Heap)(dr:Ic)(tk:Nat)(acc:List AE),(∀b o,s.heap.get? b=NR o→h'.get? b=NR o)→Ord S n acc→R acc {s with heap:=h',drawn:=dr,toks:=tk}):AL ON A (collect (.ref a)) R E s:=by
 have lt:a<s.heap.objs.size:=let ⟨o,_,_,_,ho,_⟩:=hs;AN ho;B4 collect;&AH (KM (DC entry_proto_collect' ?_));rw[CS PySem.F.plain_proto_collect _];show AL _ A.in1 (newList [] >>= λl=>again (.builtin "list.__iadd__" ⟨[l,.ref a],[]⟩)) _ _ s;&AH (CI (wpAny_pure ⟨EI c7 _,DC entry_list_iadd' ?_⟩));rw[CS c7 _];have g1:(s.heap.push {cls:=.type "list", data:=.seq ([]:List AE).toArray}).get? s.heap.objs.size=NR {cls:=.type "list", data:=.seq #[]}:=AR _ U;show AL _ A.in1 (DT (.ref s.heap.objs.size) (.ref a) (.ref s.heap.objs.size)) _ _ _;have key:=aFf (A:=A) (s:={s with heap:=s.heap.push {cls:=.type "list", data:=.seq ([]:List AE).toArray}})
  (R:=λ(q:FU) (s':AG)=>∃(h':Heap)(dr:Ic)(tk:Nat)(acc:Array AE)(c:Nat),q=.ok (.ret (.ref s.heap.objs.size))∧s'={s with heap:=h',drawn:=dr,toks:=tk}∧(∀b o,s.heap.get? b=NR o→h'.get? b=NR o)∧h'.get? s.heap.objs.size=NR {cls:=.type "list", dict:=none,data:=.seq acc c,slots:=#[]}∧Ord S n acc.toList)
  hh (hs.at_ λo e=>AI _ e) hz s.heap.objs.size (Q7 lt) g1 λh' dr tk acc c kp g od=>⟨h',dr,tk,acc,c,U,U,λb o e=>kp b o (F3 (AN e)) (AI _ e),g,od⟩
 &BA key (λfin s' x=>?_) λe s' x=>?_
 ·cases fin with
  | done f=>
   B3⟨h',dr,tk,acc,c,e,rfl,kp,g,od⟩:=x;cases e;show AL _ A (load s.heap.objs.size >>= _) _ _ _;~AH (JA g (wpAny_pure (h h' dr tk acc.toList kp od)))
  | again c1=>&⟨x.1,DJ x.2 λq s2 y=>?_⟩;B3⟨h',dr,tk,acc,c,rfl,rfl,kp,g,od⟩:=y;show AL _ A (load s.heap.objs.size >>= _) _ _ _;~AH (JA g (wpAny_pure (h h' dr tk acc.toList kp od)))
 ·B3⟨_,_,_,_,_,e',_⟩:=x;cases e'
end
end L2


namespace L2
open PySem PySem.Spec PySem.Calls PyProof.Rows PyProof.V
def Td(k:Int):List Int→List Int
 | []=>[k]
 | a::l=>if k<a then k::a::l else if k=a then a::l else a::Td k l
B5 Te(k j:Int):∀l:List Int,j∈Td k l↔j=k∨j∈l
  | []=>by simp[Td]
  | a::l=>by
    B4 Td;split
    · simp
    · split
      · rename_i e
        subst e;simp
      · rw[B9,Te k j l,B9]
        constructor
        · rintro(h | h | h)
          · ~.inr (.inl h)
          · ~.inl h
          · ~.inr (.inr h)
        · rintro(h | h | h)
          · ~.inr (.inl h)
          · ~.inl h
          · ~.inr (.inr h)
B5 wy(k:Int):∀l:List Int,l.Pairwise (·<·)→(Td k l).Pairwise (·<·)
 | [],_=>by simp[Td]
 | a::l,h=>by
  B3⟨h1,h2⟩:=F6.mp h;B4 Td;split
  ·rename_i c;&F6.mpr ⟨λx hx=>?_,h⟩;rcases B9.mp hx with z | z
   ·omega
   ·have:=h1 x z;omega
  ·split
   ·~h
   ·&F6.mpr ⟨λx hx=>?_,wy k l h2⟩
    rcases(Te k x l).mp hx with z | z
    ·omega
    ·~h1 x z
def aq:List Int→List Int
 | []=>[]
 | a::l=>Td a (aq l)
B5 Dq(j:Int):∀ns:List Int,j∈aq ns↔j∈ns
 | []=>Iff.rfl
 | a::l=>by rw[aq,Te,Dq j l,B9]
B5 je:∀ns:List Int,(aq ns).Pairwise (·<·)
 | []=>.nil
 | a::l=>wy a _ (je l)
B5 aIk{ns ms:List Int}(h:ms.Pairwise (·<·))(m:∀k,k∈ms↔k∈ns):ms=aq ns:=qT h (je ns) λj=>(m j).trans (Dq j ns).symm
B5 RG(k:Int):∀l:List Int,(Td k l).length≤l.length+1
 | []=>by simp[Td]
 | a::l=>by
  B4 Td;split
  ·simp
  ·split
   ·simp
   ·have:=RG k l;simp only[E3];omega
B5 wz:∀ns:List Int,(aq ns).length≤ns.length
 | []=>C9 _
 | a::l=>by have:=RG a (aq l);have:=wz l;simp only[aq,E3];omega
B5 Tf{α:Type} [DecidableEq α]:∀{l m:List α},l.Nodup→(∀x∈l,x∈m)→m.length≤l.length→l.Perm m
 | [],m,_,_,h=>by have:m=[]:=N1 (by simpa using h);subst this;~U8 _
 | a::l,m,hn,hs,hl=>by
  B3⟨h1,h2⟩:=F1.mp hn;have ha:=hs a C8;have e:=List.perm_cons_erase ha;&List.Perm.trans (List.Perm.cons a (Tf h2 (λx hx=>?_) ?_)) e.symm
  ·have ne:x≠a:=λz=>by rw[z]at hx;~h1 hx
   ~(List.mem_erase_of_ne ne).mpr (hs x (C6 _ hx))
  ·rw[Z8 ha];simp only[E3]at hl;omega
B5 uK(val:Nat→Int):∀i,(Fa val i).Nodup
 | 0=>by rw[LF];~i4
 | i+1=>by
  rw[HM];B4 step_dedup;have ih:=uK val i;split
  ·~ih
  ·rename_i c;&Q1.mpr ⟨ih,by simp,λx hx y hy=>?_⟩;rw[D2.mp hy];intro z;subst z;~c (Q9.mpr ⟨_,hx,by simp⟩)
B5 aAR{ns ks ms:List Int}(hk:∀k,(Fa (λi=>ns.getD i 0) ns.length).any (·==k)=NU↔k∈ks)(hl:ks.length=(Fa (λi=>ns.getD i 0) ns.length).length)(hm:ms.Perm ks)(hs:ms.Pairwise (·≤·)):ms=aq ns:=by
 have hmem:∀k,k∈ks↔k∈ns:=λk=>by
  rw[←hk,firstMet_any];have e:(D5 ns.length).map (λi=>ns.getD i 0)=ns:=by&Z7 (by simp) λi h1 h2=>?_;simp[B7,h2]
  rw[e,Q9];~⟨λ⟨x,hx,q⟩=>by rw[←(beq_iff_eq.mp q)];~hx,λh=>⟨k,h,by simp⟩⟩
 have nd:ks.Nodup:=by have p:=Tf (uK (λi=>ns.getD i 0) ns.length) (m:=ks) (λx hx=>(hk x).mp (Q9.mpr ⟨x,hx,by simp⟩)) A6;~p.nodup_iff.mp (uK _ _)
 &aIk ?_ λk=>(hm.mem_iff).trans (hmem k);have ndm:=hm.nodup_iff.mpr nd;~(hs.and ndm).imp λq=>by have:=q.1;have:=q.2;omega
section
variable{X:Cx}{e:AK}{t:TE}{x y:Str}{p p2 pos pos2:Pos}
B5 aFg{T id:String}{r:V→Hp→VK→Prop}(hc:∀(pins:List (AF×Obj))(s:AG)(σ:St)(H:Hp)(v:V)(u:AE)(Q:VK),Inv X pins σ H s→RelV v u→r v H Q→AL Nl X.A (call (.type T) [u]) (λu' s'=>AL Nl X.A (call (.builtin id) [u']) (EP X pins σ Q) X.xe s') X.xe s)
  (ha:PE X e t) (hg:Gl X x) (hm:X.mg x=none) (hv:AZ x=NR (.builtin id)) (hg2:Gl X y) (hm2:X.mg y=none) (hv2:AZ y=NR (.type T)) (hn:x ≠ "__name__" := by decide) (hdb:OH=NV:=by decide) (hn2:y ≠ "__name__" := by decide) (jf:(y==("__debug__" : Str))=NV:=by decide)
  (he:AJ [e] X.env=[(NV,AU e X.env)]:=by rfl) (he2:AJ [.Call (.Name y p2) [e] [] pos2] X.env=[(NV,AU (.Call (.Name y p2) [e] [] pos2) X.env)]:=by rfl) :
  PE X (.Call (.Name x p) [.Call (.Name y p2) [e] [] pos2] [] pos) (tUn r t):=by
 intro pins s σ H Q I h;&BF (vZ I hg hm hv ?_ hn hdb);&W7 ?_ he2 U;rw[he2];&BY (BF (vZ I hg2 hm2 hv2 ?_ hn2 jf));&L4 ?_ he U;rw[he];~BY (iY (ha pins s σ H _ I h) λu s1 ⟨v,H1,I1,r1,q1⟩=>CF (iY (hc pins s1 σ H1 v u Q I1 r1 q1) λu' s' z=>CF z))
B5 Inv.drew{pins:List (AF×Obj)}{σ:St}{H:Hp}{s:AG}(J:Inv X pins σ H s)(dr:Ic):Inv X pins σ H {s with drawn:=dr}:=⟨J.ok,J.os,J.bare,J.base,J.loc,J.cell,J.free,J.zR,J.pin,J.hok,J.len⟩
def aGE(K:aG):V→Hp→VK→Prop:=λv H Q=>∃(p:AF)(ns:List Int),v=.ref p∧oU K H p (ns.map V.int)∧ns.length<64∧∀l,H l=none→Q (.ref l) (upd H l (.lst ((aq ns).map V.int)))
B5 aIl(hc:X.calm=NU)(pins:List (AF×Obj))(s:AG)(σ:St)(H:Hp)(v:V)(u:AE)(Q:VK)(I:Inv X pins σ H s)(rv:RelV v u)(h:aGE X.K v H Q) :
  AL Nl X.A (call (.type "set") [u]) (λu' s'=>AL Nl X.A (call (.builtin "sorted") [u']) (EP X pins σ Q) X.xe s') X.xe s:=by
 B3⟨p,ns,rfl,hq,h64,q⟩:=h;cases rv;B3⟨its,r,pl,hz⟩:=I.list hq;have hlen:=r.length;rw[B8]at hlen;&aJ8 (its:=its.toArray) (ns:=ns) (I.ok.hd hc) pl.isList (by simpa using intsAre_of r) (by rw[D3];B4 DB;omega) λh1 tk1 S1 kp1=>?_;have I1:Inv X pins σ H {s with heap:=h1,toks:=tk1}:=I.kept (t':=tk1) kp1;have ez:its.toArray.size=ns.length:=by simp[hlen]
 rw[ez]at S1;have hfl:=II (λi=>ns.getD i 0) ns.length;&Calls.call_function_entry kind_sorted plain_sorted entry_sorted (args_sorted1 _) ?_;B4 EB.«sorted»;&AH (m:=checkCount "sorted" 1 1 _) (wpAny_pure (AH (RD (A:=X.A.in1) (I.ok.hd hc) S1 (P4 (tY A6)) λh2 dr tk2 acc kp2 od=>?_)));B3⟨al,ks,ik,mk⟩:=od;have hla:ks.length=acc.length:=(IntsAre.length ik).symm;&AH (wpAny_newList ?_ (by rw[al];~P4 (tY A6)));have hoL:(h2.push (IE "list" acc.toArray 0)).get? h2.objs.size=NR (IE "list" acc.toArray 0):=AR _ U;&AH (CD (CA slot_list_sort ⟨_,hoL,U⟩ entry_list_sort (list_sort_tree hoL ik A6 λout ns' a1 a2 a3=>⟨_,U,?_⟩) (args_list_sort _)));&wpAny_pure ⟨_,U,?_⟩;B3⟨e,he⟩:=sortedHeap_at (out:=out) hoL;have I2:Inv X pins σ H {s with heap:=h2,drawn:=dr,toks:=tk2}:=(I1.kept (t':=tk2) kp2).drew dr;have hs:H h2.objs.size=none:=I2.hok.fresh (C9 _);have hl2:ns'.length=ks.length:=a2.length_eq;have I3:=I2.laid (t':=tk2) (a:=h2.objs.size) (o:=.lst (ns'.map V.int)) (h':=sortedHeap (h2.push (IE "list" acc.toArray 0)) h2.objs.size acc out)
  (λb o eb=>by
   have hlt:=AN eb;rw[sortedHeap_old (F3 hlt) (by rw[BE];~N8 hlt)];~AI _ eb) (C9 _)
  ⟨by rw[B8];~P4 (tY A6),out.toList,e,Dg a1,by simpa[IE]using he⟩
 rw[aAR mk A6 a2 a3]at I3;~⟨.ref _,_,I3,U,q _ hs⟩
end
end L2


namespace L2
open PySem PySem.Spec PySem.Calls PyProof.Rows PyProof.V
section
variable{prog:AQ}{w:AS}{A:AV}{E:AE→AG→Prop}{s:AG}{I l:AF}
end
section
variable{K:aG}{X:Cx}{e:AK}{t:TE}{f:FE}{x y:Str}{p p2 pos pos2:Pos}
def tG(φ:D→Option D)(f:FE):FE:=λe=>(f e).bind φ
def xf:D→Option D
 | .lst ds=>(intsOf ds).bind λns=>if ns.length<64 then NR (.lst ((aq ns).map D.int))else none
 | _=>none
B5 aFh(h:XR K X e t f)(hg:Gl X x)(hm:X.mg x=none)(hv:AZ x=NR (.builtin "sorted")) (hg2:Gl X y) (hm2:X.mg y=none) (hv2:AZ y=NR (.type "set")) (hc:X.calm=NU:=by rfl) (hn:x ≠ "__name__" := by decide) (hdb:OH=NV:=by decide) (hn2:y ≠ "__name__" := by decide) (jf:(y==("__debug__" : Str))=NV:=by decide)
  (he:AJ [e] X.env=[(NV,AU e X.env)]:=by rfl) (he2:AJ [.Call (.Name y p2) [e] [] pos2] X.env=[(NV,AU (.Call (.Name y p2) [e] [] pos2) X.env)]:=by rfl) :
  XN K X (.Call (.Name x p) [.Call (.Name y p2) [e] [] pos2] [] pos) (tUn (aGE K) t) (tG xf f):=⟨h.hk,aFg (by have:=h.hk;subst this;~aIl hc) h.pe hg hm hv hg2 hm2 hv2 hn hdb hn2 jf he he2,λσ H e d Q re q k=>by
 B3⟨d0,q1,q2⟩:=aZ q;B4 xf at q2;split at q2
 ·B3⟨ns,q3,q4⟩:=aZ q2;split at q4
  ·rename_i hl;cases q4;&h.ev σ H H e _ _ OW re q1 λv H1 Z1 s1 t1 z1 rv=>?_;B3⟨p,rfl,r2⟩:=Bb q3 (z1.sm.rv _ _ rv);~⟨p,ns,U,r2,hl,λl hl=>k _ _ (s1.trans (cR hl _)) ((vD OC (.gR (fK _) (lV.mpr U)) hl).back s1)⟩
  ·cases q4
 ·cases q2⟩
end
end L2


namespace L2
open PySem PySem.Spec PySem.Calls PyProof.Rows PyProof.V PySem.W Att
abbrev Small(k:Int):Prop:=Cf k≤1048576
B5 aCG{ns:List Int}(h:WData.layableAll [WData.list (ns.map WData.int)]=NU):∀k∈ns,Small k:=λk hk=>by
 have h1:(WData.list (ns.map WData.int)).layable=NU:=by simpa[WData.layableAll]using h
 B3⟨c,_,w⟩:=layableW_iff.mp h1;have c':WData.canLayAll (ns.map WData.int)=NU:=by simpa[WData.canLay]using c
 have w':WData.weightAll (ns.map WData.int)≤2 ^ 20:=by simpa[WData.weight]using w
 have:=(items_part (J4.mpr ⟨k,hk,U⟩) c').2.2;have e:(WData.int k).weight=Cf k:=by simp only[WData.weight,Cf]
 rw[e]at this;~G1 this w'
B5 RJ{l:OpenLaw}{n:Nat}{q:AQ}{loose:List Str}{XP:(Str→Option AE)→Heap→Prop}{YP:AS→Heap→Prop}{d:DefRec}(hn:l.most=NR n)(hdf:d.params.defaults=[])
  (call:∀(w:AS)(s₀ s₁:AG)(mg mb:Str→Option AE)(fa:AF)(o:Obj)(pm cd doc:AE)(a:AF)(vs:List AE)(ns:List Int),Ground q loose [] XP w s₀ mg mb s₁.heap→YP w s₁.heap →
   s₁.heap.get? fa=NR o→o.data=.func (docDef d.name d.params d.body d.scope pm cd doc)→s₁.heap.CodeRec cd d.name→mg d.name=NR (.ref fa) →
   s₁.heap.get? a=NR {cls:=.type "list", data:=.seq vs.toArray}→EL vs ns→ns.length≤n→(∀k∈ns,Small k)→s₁.gens=#[] →
   Cn (AM l.prog w) FM (.call (.ref fa) ⟨[.ref a],[]⟩) (λr s'=>r=.ok (.ret (.bool NU))∧OldK s₁.heap s'.heap∧s'.os=s₁.os∧Da s'.gens) s₁) :
  WalkO q loose XP YP l.row.toRowW d [] (λf vs=>u8 f vs):=by
 intro w s₀ s₁ mg mb G Y fa o pm cd doc dV kV ho hd hcd hD hmg hg args vals as hpre hlay hrd hwl hlo;B3 rfl:dV=.none:=Dflts.none hD hdf;B3 rfl:kV=.none:=Dflts.noKw hD;B3⟨a,vs,ns,rfl,rfl,hobj,hints,hlen⟩:=aAu hn hpre hwl;&enter_call (DJ (call w s₀ s₁ mg mb fa o pm cd doc a vs ns G Y ho (fd_plain hd) hcd hmg hobj hints hlen (aCG hlay) hg) λr s' hq=>?_);B3⟨rfl,h2,h3,h4⟩:=hq;~⟨.inl ⟨.bool NU,.bool NU,[],rfl,λ_=>rfl,.bool NU,aAv l _,λ_=>⟨o9,λ_ hm=>(nomatch hm)⟩⟩,h2,h3,h4⟩
B5 aAS{l:u9}{n k:Nat}{q:AQ}{loose:List Str}{XP:(Str→Option AE)→Heap→Prop}{YP:AS→Heap→Prop}{d:DefRec}{K:LN→aG}{CX:AS→CXT}{sp:AS→Sp}{x:Str}(hn:l.most=NR n)(hn2:n≤sizeLine)(hdf:d.params.defaults=[])(hr:lB k FM)
  (hY:∀(w:AS)(h:Heap),YP w h→(K w.params).In h)
  (F:∀(w:AS)(mg:Str→Option AE)(fa:AF)(h:Heap),(K w.params).In h→h.Ns As mg→mg d.name=NR (.ref fa)→∃fd:BU,(∀(s:AG)(u:AE),GN s fd ⟨[u],[]⟩ [(x,u)])∧∀base:Heap,(K w.params).In base→base.Ns As mg→Ab l.prog w OG mg base (CX w) k fa fd [x] (sp w))
  (hsp:∀(w:AS)(H:Hp)(a:AF)(ns:List Int),ns.length≤n→(∀k∈ns,Small k)→Only H→oU OG H a (ns.map V.int)→sp w [.ref a] H (λv _=>v=.bl NU) λ_ _ _=>False)
  (hCX:∀(w:AS)(H:Hp)(s:AG)(e:AE)(s':AG),CX w [] H s (λ_ _ _=>False) e s'→False) :
  z8 q loose XP YP l.row.toRowW d [] (λf vs=>u8 f vs):=by
 &RJ hn hdf λw s₀ s₁ mg mb fa o pm cd doc a vs ns G Y ho hd hcd hmg hobj hints hlen hsm hg=>?_;have KX:=hY w _ Y;B3⟨fd,hb,hF⟩:=F w mg fa _ KX G.T.g hmg;~aB8 KX G.T.g G.T.b G.T.builtins G.T.nolimit hg hobj hints (G1 hlen hn2) hr hF hb (λH hO hS=>hsp w H a ns hlen hsm hO hS) λH e s'=>hCX w H s₁ e s'
def spB(K:aG):Sp:=λvs H Q _=>∃(a:AF)(ns:List Int),vs=[.ref a]∧oU K H a (ns.map V.int)∧ns.length≤63∧(∀k∈ns,Small k)∧∀H',Q (.bl NU) H'
B5 Fun.okB{P:AQ}{w:AS}{K:aG}{mg:Str→Option AE}{base:Heap}{x:Str}{st:AO}{N:List Str}{k:Nat}{g:GS}{f:AF}{fd:BU}(F:Fun K x x st f fd)(S:bA N ["script"] (aK st))
  (hbody:∀(cdv:AE)(A:AV)(outer:List Env)(s:AG)(H:Hp)(E:XK),lB k (A.deeper (CH x (aK st) s.heap.objs.size f cdv))→∃t,YB K (Hu MJ P w K mg base N x (aK st) f cdv A outer s H E).sy (cM st) t g)
  (aIm:∀ns:List Int,ns.length≤63→(∀k∈ns,Small k)→oH N.length 1 g [.lst OE]=NR (.bl NU)):Ab P w K mg base MJ (k+1) f fd ["script"] (spB K):=by
 &F.ok S (λvs H Q E h=>?_) (λcdv A outer s H vs Q E hr h=>?_)
 ·B3⟨a,ns,rfl,_⟩:=h;rfl
 B3⟨a,ns,rfl,hS,hl,hb,q⟩:=h;B3⟨t,yb⟩:=hbody cdv A outer s H E hr;have h3:=aIm ns hl hb;have rv:eO K H [.lst OE] [.ref a]:=by B4 eO;~⟨_,_,U,by B4 Rv;~⟨a,_,U,hS,lV.mpr U⟩,by B4 eO;rfl⟩
 &⟨t,yb.ps,yb.ev H _ _ H ([D.lst OE].map SD.fro++E9 (N.length-1) SD.no) (Lh rv) ?_⟩;B4 oH at h3;rw[if_pos (show [D.lst OE].length=1 from rfl)]at h3;cases qq:g ([D.lst OE].map SD.fro++E9 (N.length-1) SD.no)with
 | ret d'=>
  rw[qq]at h3;cases h3;&λv H' A' s' o=>?_;have:=Ow.rv _ _ _ o;B4 Rv at this;subst this;~q _
 | _=>rw[qq]at h3;cases h3
section
variable{K:aG}{X:Cx}{e a b c:AK}{es:List AK}{t ta tb te:TE}{f g:FE}{pos:Pos}
def aCH(i j:Int):Prop:=Cf i≤4000000∧Cf j≤4000000
instance (i j:Int):Decidable (aCH i j):=by B4 aCH;~inferInstance
def aMV:D→D→Option D:=Pj aCH λi j=>.int (i*j)
variable{lo hi:Option AK}{tl th:TO}{fl fh:FO}{p2:Pos}
end
end L2


namespace L2
open PySem PySem.Spec PySem.Calls PyProof.Rows PyProof.V
section
variable{K:aG}{X:Cx}
def aMW:List D→Option D
 | [.bl c]=>NR (.int (if c then 1 else 0))
 | _=>none
end
end L2


namespace L2
open PySem PySem.Spec PySem.Calls PyProof.Rows PyProof.V
section
variable{X:Cx}{pins:List (AF×Obj)}{σ:St}{H:Hp}{s:AG}{h':Heap}
B5 Inv.turns{t':Nat}{ch:List AF}(I:Inv X pins σ H s)(hf:∀b∈ch,Hq X pins H b)(k:∀b o,b∉ch→s.heap.get? b=NR o→h'.get? b=NR o):Inv X pins σ H {s with heap:=h',toks:=t'}:=by
 have nit:∀b u,H b=NR u→b∉ch:=λb u e z=>by have:=(hf b z).1;rw[this]at e;cases e
 &I.step (g':=s.gens) (d':=s.drawn) (ch:=ch) (λb hb=>⟨(hf b hb).2.2.2.1,(hf b hb).2.1,(hf b hb).2.2.2.2.1,(hf b hb).2.2.2.2.2⟩) (λb o _ _ hc e _=>k b o hc e) (λb o _ _ hc e _=>⟨o.slots,k b o hc e⟩) (λ_ _ _ _ n=>n)
  (λb o hc e=>⟨o,k b o hc e⟩) (λ_ _ e=>e) (λ_ _ _ e=>e) (λb ps e=>⟨#[],by rw[e];simp⟩) (λm hm=>?_) (λb u e=>?_) I.bare
 ·B3⟨o,es,ep,ho,r⟩:=hm;~⟨o,es,ep,k _ o (λz=>(hf _ z).2.1 U) ho,r⟩
 ·&(I.hok b u e).stay (λc v hc q=>k c v ?_ q) (λ_ q=>q) λ_ _ q=>q;rcases hc with z | z
  ·rw[z];~nit b u e
  ·~nit c _ z
B5 Hq.upd{b p:AF}{o:HO}(h:Hq X pins H b)(ne:b≠p):Hq X pins (upd H p o) b:=⟨by rw[bQ ne];~h.1,h.2⟩
end
section
variable{K:aG}{X:Cx}{e a b c:AK}{es:List AK}{t ta tb te:TE}{f g fe:FE}{tc:TT}{fc:FT}{pos p p2:Pos}{x:Str}
B5 aFi{H:Hp}{e:DE}{σ:St}{fr:List Nat}{d d':D}{x y:V}(re:yE K H e σ)(r:Rv K H d x)(r':Rv K H d' y):yE K H (NR d::NR d'::nZ e fr) (NR x::NR y::Vv σ fr):=λi w h=>by
 cases i with
 | zero=>simp at h;subst h;~⟨x,rfl,r⟩
 | succ i=>rw[R5]at h ⊢;~vm re r' i w h
abbrev xg(K:aG):TG:=Vr K 2 (tu (iZ 0) (tu (iZ 1) aHk))
B5 aFj{scope:BQ}{N:List Str}{y z:Str}{py pz tpos:Pos}{tk:Nat}(hc:X.calm=NU)(hN:N.Nodup)(h0:N[0]?=NR y)(h1:N[1]?=NR z)(hy:(qZ scope X.env.scope).names.lookup y=NR .local)(hz:(qZ scope X.env.scope).names.lookup z=NR .local) :
  ∀cl fp s H C,PG OI (.Tuple [.Name y py,.Name z pz] tk tpos) (xg X.K):=λ_ _ _ _ _=>Zz hc (oW (fJ hN h0 (D8 hy) (D7 hy)) (oW (fJ hN h1 (D8 hz) (D7 hz)) Pa))
end
end L2


namespace L2
open PySem PySem.Spec PySem.Calls PyProof.Rows PyProof.V
section
variable{K:aG}{B H:Hp}{env:EN}{σ:St}{i:Nat}{v:V}{d:D}
B5 Rel.aCI(h:Rel K B env σ H)(e:env[i]?=NR (.inn v d)):Rel K B (env.set i (.own d)) σ H∧σ[i]?=NR (NR v):=by B3⟨A,a,b⟩:=h;B3⟨y,A1,C,h1,h2,h3,h4,k⟩:=a.focus e;B3⟨rfl,o⟩:=h4;have eA:A=gG A1 C:=funext λx=>propext (h3 x);subst eA;have s:=k _ (λ_ _ _ _ q=>q) (.own d) (NR v) A1 h2 ⟨v,U,o⟩;rw[set_same h1]at s;~⟨⟨_,s,b⟩,h1⟩
B5 Rel.aCJ(h:Rel K B env σ H)(e:env[i]?=NR (.own d))(hv:σ[i]?=NR (NR v)):Rel K B (env.set i (.inn v d)) σ H:=by B3⟨A,a,b⟩:=h;B3⟨y,A1,C,h1,h2,h3,h4,k⟩:=a.focus e;B3⟨v',rfl,o⟩:=h4;rw[hv]at h1;cases h1;have eA:A=gG A1 C:=funext λx=>propext (h3 x);subst eA;have s:=k _ (λ_ _ _ _ q=>q) (.inn v d) (NR v) A1 h2 ⟨U,o⟩;rw[set_same hv]at s;~⟨_,s,b⟩
end
section
variable{K:aG}{X:Cx}{st:AO}{sts:List AO}{t u tb:TS}{g g1 g2:GS}{e a b c:AK}{es:List AK}{te ta t0:TE}{f f0 fa fb:FE}{gk:FE}{tA:TA}{fs:FA}{tc:TT}{fc:FT}{pos:Pos}{i:Nat}{π:FP}
def Tg(i:Nat)(f:FE)(g:GS):GS:=λenv=>match f (rE env)with
 | some (.lst xs)=>yK i g xs env
 | _=>.bad
B5 aFk(h:Nq K te f)(hb:DS K tb g):DS K (Qo (aCr K te) (iZ i) tb) (Tg i f g):=λB E σ H env r p=>by
 B4 Tg at p;split at p
 ·rename_i xs q;&.inl (h σ H (rE env) _ _ r.r q λv H1 s n=>?_);B3⟨A,a,bb⟩:=r;B3⟨N,o,fr⟩:=n;have cl:=iR a;have ap:Apart N A:=λx z1 z2=>by B3⟨⟨w,ew⟩,_⟩:=cl x z2;rw[fr x z1]at ew;cases ew
  have cl1:∀x,A x→wN H1 x:=λx hx=>(iR (a.mono λe D y _ qq=>qq.same s (bT s λx q=>.inl q)) x hx).2;have rz:Rv K (out H1 A) (.lst xs) v:=o.out ap cl1;have aCu:Rel K (out H1 A) env σ H1:=⟨A,a.mono λe D y _ qq=>qq.same s (bT s λx q=>.inl q),aW.refl _⟩
  have bz:aW B (out H1 A):=bb.trans (bT s λx q=>.inl q);have p':=p.mono bz;B4 Rv at rz;B3⟨pa,vs,rfl,sq,rvs⟩:=rz;have hl:=rvs.length;&⟨pa,U,⟨vs,(jA H1 A).seq sq⟩,?_⟩;generalize out H1 A=Z1 at *;&Hw Rh (λk σ2 H2=>∃cU,Rel K Z1 cU σ2 H2∧Lf K Z1 E (yK i g (xs.drop k) cU)) ⟨env,aCu,by simpa using p'⟩ (λk σ2 H2 _ ⟨cU,⟨A2,a2,b2⟩,_⟩=>(b2.trans (jA H2 A2)).seq sq) ?_ ?_
  ·rintro k x σ2 H2 hx ⟨cU,r2,p2⟩;have hk:k<xs.length:=by B3⟨h1,_⟩:=D4.mp hx;omega
   rw[L8 hk]at p2;B4 yK at p2;B3⟨x',hx',rx⟩:=rvs.get (B6 hk);rw[hx]at hx';cases hx';split at p2
   ·rename_i hlen;B3⟨A2,a2,b2⟩:=r2;have r3:Rel K Z1 (cU.set i (.fro xs[k])) (σ2.set i (NR x)) H2:=Il a2 b2 hlen OC OC (Fz a2) (b2.rv _ _ rx);&hb Z1 _ _ H2 _ r3 ?_;split at p2
    ·rename_i env' q2;rw[q2];~λσ' H' r'=>⟨env',r',p2⟩
    ·rename_i env' q2;rw[q2];~λσ' H' r'=>⟨env',r',p2⟩
    ·rename_i env' q2;rw[q2];~p2
    ·rename_i n1 n2 n3;cases q2:g (cU.set i (.fro xs[k]))with
     | next e=>~absurd q2 (n1 e)
     | cont e=>~absurd q2 (n2 e)
     | brk e=>~absurd q2 (n3 e)
     | ret d=>rw[q2]at p2;~p2
     | bad=>rw[q2]at p2;~p2
     | rete d e=>rw[q2]at p2;~p2
   ·~p2.elim
  ·rintro σ2 H2 ⟨cU,r2,p2⟩;rw[hl,S8]at p2;~p2 σ2 H2 r2
 ·~p.elim
B5 aFl{tg:AK}{body:List AO}(hp:EC Nl X.A X.env X.xe)(DX:X.calm=NU)(h:XN K X e te f)(hg:PG X tg (iZ i))(hb:YB K X body tb g)(hs:∀x,BD e X.env x=pure x:=by intro _;rfl):YS K X (.For tg e body [] pos) (Qo (aCr K te) (iZ i) tb) (Tg i f g):=
 ⟨Qq hp DX (jK (tg:=tg) h.r).pi hg hb.ps hs,aFk h.ev hb.ev⟩
end
end L2


namespace L2
open PySem PySem.Spec PySem.Calls PyProof.Rows PyProof.V
section
variable{α β:Type}{R:α→Fp→β→Prop}
B5 fY.Li:∀{ds:List α} {A:Fp} {ys:List β} {d:α} {y:β},fY R (ds++[d]) A (ys++[y])→∃A0 A1,fY R ds A0 ys∧R d A1 y∧Apart A0 A1∧Is A (gG A0 A1)
  | [],A,ys,d,y,h=>by
    B3⟨y0,yt,A1,A2,h1,h2,h3,h4,h5,h6⟩:=h;subst h6;cases ys with
    | nil=>
      cases h1;~⟨nil,A1,⟨λ_ z=>z,U⟩,h4,λ_ z=>z.elim,λx=>⟨λq=>((h3 x).mp q).elim .inr λz=>absurd z (h5 x),λq=>q.elim False.elim λz=>(h3 x).mpr (.inl z)⟩⟩
    | cons z zs=>
      injection h1 with _ h1;cases zs<;>cases h1
  | d0::ds,A,ys,d,y,h=>by
    B3⟨y0,yt,A1,A2,h1,h2,h3,h4,h5⟩:=h;have hl:=h5.len;cases ys with
    | nil=>injection h1 with _ h1;subst h1;have hl:0=(ds++[d]).length:=hl;rw[D1]at hl;simp at hl
    | cons z zs=>
      injection h1 with e1 e2;subst e1 e2;B3⟨B0,B1,k1,k2,k3,k4⟩:=fY.Li h5;&⟨gG A1 B0,B1,⟨z,zs,A1,B0,U,λx q q'=>h2 x q ((k4 x).mpr (.inl q')),λx=>Iff.rfl,h4,k1⟩,k2,λx q q'=>?_,λx=>?_⟩
      · rcases q with q | q
        · ~h2 x q ((k4 x).mpr (.inr q'))
        · ~k3 x q q'
      · rw[h3 x]
        constructor
        · rintro(q | q)
          · ~.inl (.inl q)
          · ~((k4 x).mp q).elim (λz=>.inl (.inr z)) .inr
        · rintro((q | q) | q)
          · ~.inl q
          · ~.inr ((k4 x).mpr (.inl q))
          · ~.inr ((k4 x).mpr (.inr q))
end
section
variable{K:aG}{B H H':Hp}{env:EN}{σ:St}{i:Nat}{v:V}{d:D}
B5 Rel.snoc(h:Rel K B env σ H)(s:aW H H')(n:Rp K H H' d v):Rel K B (env++[.own d]) (σ++[NR v]) H':=by B3⟨A,a,b⟩:=h;B3⟨N,o,f⟩:=n;have cl:=iR a;have g:aW (out H A) (out H' (gG A N)):=bT s λx q=>q.elim .inl λq=>.inr (f x q);&⟨gG A N,fY.snoc (a.mono λe D z _ q=>q.same s g) ⟨v,U,o⟩ λx q1 q2=>?_,b.trans g⟩;B3⟨⟨u,e⟩,_⟩:=cl x q1;rw[f x q2]at e;cases e
B5 Rel.pop{s:SD}{y:Option V}(h:Rel K B (env++[s]) (σ++[y]) H):Rel K B env σ H:=by B3⟨A,a,b⟩:=h;B3⟨A0,A1,k1,k2,k3,k4⟩:=a.Li;have g:aW (out H A) (out H A0):=bT OC λx q=>.inl ((k4 x).mpr (.inl q));~⟨A0,k1.mono λe D z _ q=>q.same OC g,b.trans g⟩
B5 Rel.aCK(h:Rel K B (env++[.own d]) (σ++[NR v]) H):Rv K H d v:=by B3⟨A,a,b⟩:=h;B3⟨A0,A1,k1,⟨v',e,o⟩,k3,k4⟩:=a.Li;cases e;~Ow.rv _ _ _ o
B5 Rel.move(h:Rel K B (env++[.own d]) (σ++[NR v]) H)(hi:i<env.length):Rel K B (env.set i (.own d)) (σ.set i (NR v)) H:=by B3⟨A,a,b⟩:=h;B3⟨A0,A1,k1,⟨v',e,o⟩,k3,k4⟩:=a.Li;cases e;B3⟨y,B1,C,f1,f2,f3,f4,f5⟩:=k1.focus (B6 hi);have g:aW (out H A) (out H (gG A1 C)):=bT OC λx q=>.inl ((k4 x).mpr (q.elim .inr λq=>.inl ((f3 x).mpr (.inr q))));~⟨gG A1 C,f5 (gY K H (out H (gG A1 C))) (λe D z _ q=>q.same OC g) (.own d) (NR v) A1 (λx q q'=>k3 x ((f3 x).mpr (.inr q')) q) ⟨v,U,o⟩,b.trans g⟩
B5 Rel.give(h:Rel K B env σ H)(e:env[i]?=NR (.own d)):∃v,σ[i]?=NR (NR v)∧Rel K B (env.set i .no++[.own d]) (σ++[NR v]) H:=by B3⟨A,a,b⟩:=h;B3⟨y,A1,C,h1,h2,h3,h4,k⟩:=a.focus e;B3⟨v,rfl,o⟩:=h4;have eA:A=gG A1 C:=funext λx=>propext (h3 x);subst eA;have s:=k _ (λ_ _ _ _ q=>q) .no (NR v) nil (λ_ z=>z.elim) (λ_ z=>z);rw[set_same h1]at s;have s2:=fY.snoc (d:=SD.own d) (y:=NR v) (A1:=A1) s ⟨v,U,o⟩ (λx q q'=>q.elim False.elim (h2 x q'));have eA2:(gG (gG nil C) A1)=gG A1 C:=funext λx=>propext ⟨λq=>q.elim (λq=>q.elim False.elim .inr) .inl,λq=>q.elim .inr λq=>.inl (.inr q)⟩;rw[eA2]at s2;~⟨v,h1,_,s2,b⟩
end
def jW(i:Nat)(g:GS):GS:=λenv=>match env[i]? with
 | some (.inn v d)=>(match g (env.set i (.own d))with
  | .next env'=>(match env'[i]? with
   | some (.own d')=>.next (env'.set i (.inn v d'))
   | _=>.bad)
  | _=>.bad)
 | _=>.bad
B5 aCL{K:aG}{t:TS}{g:GS}{i:Nat}(h:DSs K t g):DSs K t (jW i g):=λB E σ H env r p=>by
 B4 jW at p;split at p
 ·rename_i v d q1;B3⟨r',hσ⟩:=r.aCI q1;&h B E σ H _ r' ?_;split at p
  ·rename_i env' q2;rw[q2];split at p
   ·rename_i d' q3;~λH' r2=>p H' (r2.aCJ q3 hσ)
   ·~p.elim
  ·~p.elim
 ·~p.elim
B5 Ge{K:aG}{X:Cx}{st:AO}{t:TS}{g:GS}(i:Nat)(hp:PS X st t)(h:DSs K t g):YS K X st t (jW i g):=⟨hp,(aCL h).ds⟩
def aCM:GS:=λ_=>.bad
B5 FQ{K:aG}{X:Cx}{st:AO}:YS K X st aBF aCM:=⟨aBG,λ_ _ _ _ _ _ p=>p.elim⟩
section
variable{K:aG}{X:Cx}{st:AO}{sts:List AO}{t u tb:TS}{g g1 g2:GS}{e a b c o:AK}{es:List AK}{te ta t0 tv:TE}{f f0 fa fb:FE}{gk:FE}{tA:TA}{fs:FA}{tc:TT}{fc:FT}{pos apos:Pos}{i:Nat}{π:FP}
structure kW(K:aG)(C:AF)(nm:List Str):Prop where
 cl:Cls K C
 no:∀f∈nm,Fg K C f
def fP(C:AF)(x:Str)(d:D):Option D:=match d with
 | .ins C' nm ds=>if C'=C then(posK nm x).bind λj=>ds[j]? else none
 | _=>none
B5 aFm{H:Hp}{C:AF}{x:Str}{d r:D}{v:V}(q:fP C x d=NR r)(rv:Rv K H d v):∃a dx fs y,v=.ref a∧H a=NR (.ins C dx fs)∧fs.lookup x=NR y∧Rv K H r y:=by
 B4 fP at q;split at q
 ·rename_i C' nm ds;split at q
  ·rename_i hc;subst hc;B3⟨j,q1,q2⟩:=aZ q;B4 Rv at rv;B3⟨a,dx,xs,rfl,h1,h2,h3⟩:=rv;B3⟨y,h4,h5⟩:=h3.get q2;~⟨a,dx,_,y,U,h1,by rw[Ga h2,q1];~h4,h5⟩
  ·cases q
 ·cases q
B5 dO{C:AF}{nm:List Str}{x:Str}(F:kW K C nm)(h:XR K X e ta f)(hx:x∈nm)(hb:Co e x X.env (AU e X.env)=AU e X.env):XR K X (.Attribute e x pos) (aHs K ta x) (tG (fP C x) f):=⟨h.hk,by have:=h.hk;subst this;~aBS h.pe hb,λσ H Z e d Q z re q k=>by
 B3⟨d0,q1,q2⟩:=aZ q;&h.ev σ H Z e d0 _ z re q1 λv H1 Z1 s1 t1 z1 rv=>?_;B3⟨a,dx,fs,y,rfl,h1,h2,h3⟩:=aFm q2 rv;~⟨a,C,dx,fs,y,U,z1.sm _ _ h1,F.cl,F.no x hx,h2,k y H1 Z1 s1 t1 z1 h3⟩⟩
B5 aAT{H:Hp}{C:AF}{x:Str}{w v:V}(h:stepV H (.fld C x) w=NR v):∃a dx fs,w=.ref a∧H a=NR (.ins C dx fs)∧fs.lookup x=NR v:=by
 cases w with
 | ref a=>
  cases q:H a with
  | none=>B4 stepV at h;dsimp only at h;rw[q]at h;cases h
  | some u=>
   B4 stepV at h;dsimp only at h;rw[q]at h;cases u with
   | ins C' dx fs=>
    have h2:(if C'=C then fs.lookup x else none)=NR v:=h;by_cases hc:C'=C
    ·rw[if_pos hc]at h2;rw[←hc];~⟨a,dx,fs,U,q,h2⟩
    ·rw[if_neg hc]at h2;cases h2
   | _=>cases h
 | _=>B4 stepV at h;cases h
def Ad(C:AF)(x:Str)(π:FP):FP:=λe=>(π e).bind λp=>NR (p++[.fld C x])
B5 oJ{C:AF}{nm:List Str}{x:Str}(F:kW K C nm)(h:XP K X a ta i π)(hx:x∈nm)(hb:Co a x X.env (AU a X.env)=AU a X.env):XP K X (.Attribute a x pos) (aHs K ta x) i (Ad C x π):=⟨h.hk,by have:=h.hk;subst this;~aBS h.pe hb,λσ H e v0 p v Q re h1 h2 h3 k=>by
 B4 Ad at h2;B3⟨p0,q1,q2⟩:=aZ h2;cases q2;B3⟨w,w1,w2⟩:=Ss h3;B3⟨ad,dx,fs,rfl,w3,w4⟩:=aAT w2;~h.ev σ H e v0 p0 _ _ re h1 q1 w1 λH1 s1=>⟨ad,C,dx,fs,v,U,s1 _ _ w3,F.cl,F.no x hx,w4,k H1 s1⟩⟩
end
B5 RK{x:Str}{y:V}:∀{nm:List Str} {xs:List V},nm.length=xs.length→Aa x y (nm.zip xs)=(match posK nm x with | some j=>nm.zip (xs.set j y) | none=>(nm++[x]).zip (xs++[y]))
 | [],xs,h=>by
  cases xs with
  | nil=>rfl
  | cons=>simp at h
 | a::nm,[],h=>by simp at h
 | a::nm,z::xs,h=>by
  have ih:=RK (x:=x) (y:=y) (nm:=nm) (xs:=xs) (by simpa using h);rw[R7];B4 Aa posK;by_cases c:a=x
  ·rw[if_pos c,if_pos c];rfl
  ·rw[if_neg c,if_neg c,ih];cases q:posK nm x with
   | none=>rfl
   | some j=>rfl
section
variable{K:aG}{B H:Hp}{env:EN}{σ:St}
B5 aAU{H:Hp}{a C dx:AF}{fs:List (Str×V)}(h:H a=NR (.ins C dx fs)):wN H a:=⟨λys e=>(by rw[h]at e;cases e),λo ys e=>(by rw[h]at e;cases e)⟩
B5 Rel.aLQ{i:Nat}{p:List Step}{d0:D}{C:AF}{nm:List Str}{ds:List D}(h:Rel K B env σ H)(e:env[i]?=NR (.own d0))(q:gJ p d0=NR (.ins C nm ds)):∃v0 a dx xs Bs,σ[i]?=NR (NR v0)∧Oq H p v0=NR (.ref a)∧H a=NR (.ins C dx (nm.zip xs))∧nm.length=xs.length∧eQ K H ds Bs xs ∧
    ∀H2 nm' ds' xs' Bn,aW H H2→nm'.length=xs'.length→eQ K H2 ds' Bn xs'→(∀b,Bn b→Bs b∨H b=none)→Rel K B (env.set i (.own (fO p d0 (.ins C nm' ds')))) σ (upd H2 a (.ins C dx (nm'.zip xs'))):=by
  B3⟨v0,w,A1,Cc,h1,h2,h3,h4,h5,h6⟩:=h.at e q;have hc:=Ow.cells _ _ _ h3;B4 Ow at h3;B3⟨a,dx,xs,Bs,rfl,o2,o2',o3,o3',aLR,o4,o5⟩:=h3;&⟨v0,a,dx,xs,Bs,h1,h2,o2,o3,o5,λH2 nm' ds' xs' Bn s hl o hb=>?_⟩;have nad:dx≠a:=λz=>by rw[z,o2]at o2';cases o2'
  have nBa:¬Bn a:=λz=>(hb a z).elim o3' λz=>by rw[o2]at z;cases z
  have nBd:¬Bn dx:=λz=>(hb dx z).elim aLR λz=>by rw[o2']at z;cases z
  have hC:∀x,Cc x→¬(x=a∨x=dx):=λx z y=>h4 x ((o4 x).mpr (.inl y)) z;have Wd:H2 a=NR (.ins C dx (nm.zip xs)):=s a _ o2;have nt:wN H2 a:=aAU Wd;&h6 _ (.ins C nm' ds') (gG (λx=>x=a∨x=dx) Bn) (λx z1 z2=>?_) (λx z=>?_) (s.tk.trans (uJ nt)) ?_ (λx u ex=>?_)
  · rcases z1 with z1 | z1
    · ~hC x z2 z1
    · rcases hb x z1 with z | z
      · ~h4 x ((o4 x).mpr (.inr z)) z2
      · B3⟨⟨u,eu⟩,_⟩:=h5 x z2
        rw[z]at eu;cases eu
  · B3⟨⟨u,eu⟩,_⟩:=h5 x z
    rw[bQ (λy=>hC x z (.inl y)),eu,s x u eu]
  · B4 Ow
    &⟨a,dx,xs',Bn,U,cA,by rw[bQ nad];~s dx _ o2',hl,nBa,nBd,λ_=>Iff.rfl,eQ.frame (uJ nt) _ _ _ o λx zx=>bQ λy=>nBa (y▸zx)⟩
  · B3⟨e1,e2⟩:=bF.mp ex
    have na:x≠a:=λy=>e1 (.inl ((o4 x).mpr (.inl (.inl y))));&bF.mpr ⟨λz=>?_,by rw[bQ na];~s x u e2⟩;rcases z with (z | z) | z
    · ~e1 (.inl ((o4 x).mpr (.inl z)))
    · rcases hb x z with z | z
      · ~e1 (.inl ((o4 x).mpr (.inr z)))
      · rw[z]at e2;cases e2
    · ~e1 (.inr z)
end
section
variable{K:aG}{X:Cx}{st:AO}{sts:List AO}{t u tb:TS}{g g1 g2:GS}{e a b c o:AK}{es:List AK}{te ta t0 tv:TE}{f f0 fa fb:FE}{gk:FE}{tA:TA}{fs:FA}{tc:TT}{fc:FT}{pos apos:Pos}{i:Nat}{π:FP}
def Yb(nm:List Str)(ds:List D)(x:Str)(d:D):List Str×List D:=match posK nm x with
 | some j=>(nm,ds.set j d)
 | none=>(nm++[x],ds++[d])
def wV(C:AF)(i:Nat)(π:FP)(x:Str)(f:FE):GS:=λenv=>match env[i]?,π (rE env),f (rE env)with
 | some (.own d0),NR p,NR d=>(match gJ p d0 with
  | some (.ins C' nm ds)=>if C'=C∧nm.length<900 then .next (env.set i (.own (fO p d0 (.ins C' (Yb nm ds x d).1 (Yb nm ds x d).2))))else .bad
  | _=>.bad)
 | _,_,_=>.bad
B5 aIn{C:AF}{nm0:List Str}{x:Str}(F:kW K C nm0)(hx:x∈nm0)(h:EvP K ta i π)(he:Nq K te f):DSs K (aHt K ta te x) (wV C i π x f):=λB E σ H env r p=>by
 B4 wV at p;split at p
 ·rename_i d0 pp d q1 q2 q3;split at p
  ·rename_i C' nm ds q4;split at p
   ·rename_i hc;B3⟨rfl,hl⟩:=hc;B3⟨v0,a,dx,xs,Bs,k1,k2,k3,k4,k5,k6⟩:=r.aLQ q1 q4;&he σ H (rE env) d _ r.r q3 λy H1 s1 n=>?_;&h σ H1 (rE env) v0 pp _ _ (r.r.same s1) k1 q2 (Bd s1 k2) λH2 s2=>?_;have s12:=s1.trans s2;B3⟨N,o,fr⟩:=n.same s2;&⟨a,C',dx,_,U,s12 _ _ k3,F.cl,F.no x hx,by rw[T9];omega,p _ ?_⟩;rw[RK k4];B4 Yb;cases qj:posK nm x with
    | none=>~k6 H2 (nm++[x]) (ds++[d]) (xs++[y]) (gG Bs N) s12 (by simp[k4]) (cQ.mpr ((cQ.mp (k5.same s12)).snoc o (FJ (H1:=H) k5 fr))) λb z=>z.imp id (fr b)
    | some j=>have hj:=(tD qj).1;have hlen:=(eQ.rv _ _ _ k5).length;B3⟨y0,A1,Cc,f1,f2,f3,f4,f5⟩:=(cQ.mp (k5.same s12)).focus (B6 (show j<ds.length by omega));have ap:Apart N Cc:=λx q1 q2=>FJ (H1:=H) k5 fr x ((f3 x).mpr (.inr q2)) q1;~k6 H2 nm (ds.set j d) (xs.set j y) (gG N Cc) s12 (by rw[J5];~k4) (cQ.mpr (f5 (Ow K H2) (λ_ _ _ _ qq=>qq) d y N ap o)) λb z=>z.elim (λz=>.inr (fr b z)) λz=>.inl ((f3 b).mpr (.inr z))
   ·~p.elim
  ·~p.elim
 ·~p.elim
end
end L2


namespace L2
open PySem PySem.Spec PySem.Calls PyProof.Rows PyProof.V
section
variable{K:aG}{B H H':Hp}{env:EN}{σ:St}{i:Nat}{p:List Step}{d0 d:D}
B5 oG.same{a:AF}(h:oG H a)(s:aW H H'):oG H' a:=by B3⟨⟨o,e⟩,n⟩:=h;have e':=s _ _ e;~⟨⟨o,e'⟩,λxs z=>n.1 xs (by rw[e,←e'];~z),λu xs z=>n.2 u xs (by rw[e,←e'];~z)⟩
B5 aCN{A:Fp}(c:∀x,A x→oG H x):Zn K A (out H A) H:=⟨jA H A,Ro λx q=>(c x q).2,λx q=>⟨by B4 out;rw[if_pos q],λz=>by B3⟨⟨o,e⟩,_⟩:=c x q;rw[z]at e;cases e⟩⟩
B5 aGF{A:Fp}{Z:Hp}(z:Zn K A Z H):aW Z (out H A):=λx o e=>bF.mpr ⟨λq=>(by rw[(z.no x q).1]at e;cases e),z.sm x o e⟩
B5 Rel.atR(h:Rel K B env σ H)(e:env[i]?=NR (.own d0))(q:gJ p d0=NR d):∃v0 w A1 C,σ[i]?=NR (NR v0)∧Oq H p v0=NR w∧Ow K H d A1 w∧Apart A1 C∧(∀a,C a→oG H a)∧yE K (out H A1) (rE (env.set i .no)) σ ∧
    ∀H' d' r x A' A2,Apart A' C→Apart A2 C→Apart A' A2→(∀a,C a→H' a=H a)→Fq K H H'→Ow K H' d' A' w→Ow K H' r A2 x→aW (out H (gG A1 C)) (out H' (gG (gG A' A2) C))→Rel K B (env.set i (.own (fO p d0 d'))++[.own r]) (σ++[NR x]) H':=by
  B3⟨A,a,b⟩:=h;have cl:=iR a;B3⟨y,A1,C,h1,h2,h3,h4,k⟩:=a.focus e;B3⟨v0,rfl,o⟩:=h4;B3⟨w,B1,C1,g1,g2,g3,g4,g5⟩:=o.at q;&⟨v0,w,B1,gG C1 C,h1,g1,g4,λx z1 z2=>?_,λx z=>?_,?_,λH' d' r x A' A2 ap apr apx fr tk o' o'' sm=>?_⟩
  · ~z2.elim (g2 x z1) (h2 x ((g3 x).mpr (.inl z1)))
  · ~cl x ((h3 x).mpr (z.elim (λz=>.inl ((g3 x).mpr (.inr z))) .inr))
  · intro j dj qj
    B4 rE at qj;rw[C5]at qj;cases ej:(env.set i .no)[j]? with
    | none=>rw[ej]at qj;cases qj
    | some sd=>
      rw[ej]at qj;have ne:i≠j:=λz=>by subst z;rw[K0 (D4.mp e).1]at ej;cases ej;cases qj
      have S':=k (gY K H (out H A)) (λ_ _ _ _ q=>q) .no none nil (λ_ z=>z.elim) λ_ z=>z;B3⟨y,Ak,Ck,f1,f2,f3,f4,_⟩:=S'.focus ej;rw[G8,if_neg ne]at f1;have hB:∀x,B1 x→A x:=λx z=>(h3 x).mpr (.inl ((g3 x).mpr (.inl z)));have apk:Apart Ak B1:=λx z1 z2=>h2 x ((g3 x).mpr (.inl z2)) (((f3 x).mpr (.inl z1)).elim False.elim id);cases sd with
      | no=>cases qj
      | fro d1=>
        cases qj;B3⟨_,v1,rfl,f5⟩:=f4;~⟨v1,f1,(bT OC λx q=>.inl (hB x q):aW (out H A) (out H B1)).rv _ _ f5⟩
      | own d1=>
        cases qj;B3⟨v1,rfl,f5⟩:=f4;~⟨v1,f1,f5.out apk λx q=>(cl x (hB x q)).2⟩
      | inn v1 d1=>cases qj;B3⟨rfl,f5⟩:=f4;~⟨v1,f1,f5.out apk λx q=>(cl x (hB x q)).2⟩
  · have o2:=g5 H' d' A' (λx z1 z2=>ap x z1 (.inl z2)) (λx z=>fr x (.inl z)) tk o'
    have ap2:Apart (gG A' C1) C:=λx z1 z2=>z1.elim (λz=>ap x z (.inr z2)) λz=>h2 x ((g3 x).mpr (.inr z)) z2;have hA:Is A (gG B1 (gG C1 C)):=λx=>by
      rw[h3 x];constructor
      · rintro(z | z)
        · ~((g3 x).mp z).elim .inl λz=>.inr (.inl z)
        · ~.inr (.inr z)
      · rintro(z | z | z)
        · ~.inl ((g3 x).mpr (.inl z))
        · ~.inl ((g3 x).mpr (.inr z))
        · ~.inr z
    have g:aW (out H A) (out H' (gG (gG (gG A' C1) C) A2)):=λx u ex=>by
      B3⟨e1,e2⟩:=bF.mp ex;have:=sm x u (bF.mpr ⟨λz=>e1 ((hA x).mpr z),e2⟩);B3⟨e3,e4⟩:=bF.mp this;&bF.mpr ⟨λz=>e3 ?_,e4⟩;rcases z with ((z | z) | z) | z
      · ~.inl (.inl z)
      · ~.inr (.inl z)
      · ~.inr (.inr z)
      · ~.inl (.inr z)
    have s:=k (gY K H' (out H' (gG (gG (gG A' C1) C) A2))) (λs D z hb qq=>by
      cases s with
      | no=>~qq
      | fro d=>B3⟨q1,v,q2,q3⟩:=qq;~⟨q1,v,q2,g.rv _ _ q3⟩
      | inn v d=>~⟨qq.1,Ow.frame tk _ _ _ qq.2 λx zx=>fr x (.inr (hb x zx))⟩
      | own d=>B3⟨v,q1,q2⟩:=qq;~⟨v,q1,Ow.frame tk _ _ _ q2 λx zx=>fr x (.inr (hb x zx))⟩) (.own (fO p d0 d')) (NR v0) (gG A' C1) ap2 ⟨v0,U,o2⟩
    rw[set_same h1]at s;&⟨_,fY.snoc s ⟨x,U,o''⟩ λy z1 z2=>?_,b.trans g⟩;rcases z1 with (z | z) | z
    · ~apx y z z2
    · ~apr y z2 (.inl z)
    · ~apr y z2 (.inr z)
def spS(K:aG)(m:Nat)(F:List D→Option (D×D)):Sp:=λvs H Q _=>∃d es v ws A r d',vs=v::ws∧es.length+1=m∧Ow K H d A v∧eO K (out H A) es ws∧F (d::es)=NR (r,d')∧∀w H' A' A2,Ow K H' d' A' v→Ow K H' r A2 w→Apart A' A2→aW (out H A) (out H' (gG A' A2))→Q w H'
B5 RL{m:Nat}{F:List D→Option (D×D)}{E:XK}{Q:VK}{es:List D}{r d':D}(h:Rel K B env σ H)(e:env[i]?=NR (.own d0))(q:gJ p d0=NR d)(hl:es.length+1=m)(hF:F (d::es)=NR (r,d'))(k:∀w H',Rel K B (env.set i (.own (fO p d0 d'))++[.own r]) (σ++[NR w]) H'→Q w H') :
  ∃v0 w0 A1,σ[i]?=NR (NR v0)∧Oq H p v0=NR w0∧Ow K H d A1 w0∧yE K (out H A1) (rE (env.set i .no)) σ∧∀H2 vs,aW H H2→eO K (out H2 A1) es vs→spS K m F (w0::vs) H2 Q E:=by
 B3⟨v0,w,A1,C,h1,h2,h3,h4,h5,h6,h7⟩:=h.atR e q;have c1:=Ow.cells _ _ _ h3;&⟨v0,w,A1,h1,h2,h3,h6,λH2 vs s rvs=>⟨d,es,w,vs,A1,r,d',U,hl,h3.same s,rvs,hF,λx H3 A' A2 o1 o2 ap sm=>k x H3 ?_⟩⟩;have hC:∀y,C y→¬A' y∧¬A2 y∧H3 y=H y:=λy hy=>by B3⟨⟨u,eu⟩,_⟩:=h5 y hy;B3⟨n1,n2⟩:=bF.mp (sm y u (bF.mpr ⟨λz=>h4 y z hy,s y u eu⟩));~⟨λz=>n1 (.inl z),λz=>n1 (.inr z),n2.trans eu.symm⟩
 have tk:Fq K H H3:=(Ro λx q=>(c1 x q).2).trans ((bT s λx q=>.inl q:aW (out H A1) (out H2 A1)).trans (sm.trans (jA _ _))).tk;&h7 H3 d' r x A' A2 (λy z1 z2=>(hC y z2).1 z1) (λy z1 z2=>(hC y z2).2.1 z1) ap (λy hy=>(hC y hy).2.2) tk o1 o2 λy u ey=>?_;B3⟨e1,e2⟩:=bF.mp ey;B3⟨n1,n2⟩:=bF.mp (sm y u (bF.mpr ⟨λz=>e1 (.inl z),s y u e2⟩));~bF.mpr ⟨λz=>z.elim n1 λz=>e1 (.inr z),n2⟩
def SD.hold:SD→Option (D×(D→SD))
 | .own d=>NR (d,.own)
 | .inn v d=>NR (d,.inn v)
 | _=>none
B5 aCO{m:Nat}{F:List D→Option (D×D)}{E:XK}{Q:VK}{es:List D}{r d':D}{back:D→SD}(h:Rel K B env σ H)(e:env[i]?.bind SD.hold=NR (d0,back))(q:gJ p d0=NR d)(hl:es.length+1=m)(hF:F (d::es)=NR (r,d'))(k:∀w H',Rel K B (env.set i (back (fO p d0 d'))++[.own r]) (σ++[NR w]) H'→Q w H') :
  ∃v0 w0 A1,σ[i]?=NR (NR v0)∧Oq H p v0=NR w0∧Ow K H d A1 w0∧yE K (out H A1) (rE (env.set i .no)) σ∧∀H2 vs,aW H H2→eO K (out H2 A1) es vs→spS K m F (w0::vs) H2 Q E:=by
 B3⟨s,e1,e2⟩:=aZ e;cases s with
 | no=>cases e2
 | fro d=>cases e2
 | own d=>cases e2;~RL h e1 q hl hF k
 | inn v d=>
  cases e2;B3⟨r',hσ⟩:=h.aCI e1;have hi:i<env.length:=(D4.mp e1).1;have:=RL (E:=E) (Q:=Q) r' (K0 hi) q hl hF λw H' rr=>by
   rw[Z9]at rr;have r2:=rr.aCJ (i:=i) (v:=v) (d:=fO p d0 d') (by rw[F9 (by rw[J5];~hi)];~K0 hi) (by
    have hl:=h.len;rw[F9 A6];~hσ)
   rw[List.set_append_left _ _ (by rw[J5];~hi),Z9]at r2;~k w H' r2
  rw[Z9]at this;~this
end
abbrev GM:=EN→Option (D×EN)
def EvM(K:aG)(t:TE)(g:GM):Prop:=∀(B:Hp)(σ:St)(H:Hp)(env:EN)(d:D)(env':EN)(Q:VK),Rel K B env σ H→g env=NR (d,env')→(∀v H',Rel K B (env'++[.own d]) (σ++[NR v]) H'→Q v H')→t σ H Q
structure XM(K:aG)(X:Cx)(e:AK)(t:TE)(g:GM):Prop where
 hk:X.K=K
 pe:PE X e t
 ev:EvM K t g
abbrev GB:=EN→Option (Bool×EN)
def aKa(K:aG)(t:TT)(g:GB):Prop:=∀(B:Hp)(σ:St)(H:Hp)(env:EN)(b:Bool)(env':EN)(Q:Bool→Hp→Prop),Rel K B env σ H→g env=NR (b,env')→(∀H',Rel K B env' σ H'→Q b H')→t σ H Q
structure XTM(K:aG)(X:Cx)(e:AK)(t:TT)(g:GB):Prop where
 hk:X.K=K
 pt:PT X e t
 ev:aKa K t g
structure XWM(K:aG)(X:Cx)(e:AK)(t:TT)(g:GB):Prop where
 hk:X.K=K
 pw:PW X e t
 ev:aKa K t g
abbrev FA2:=DE→DE→Option (List D)
def aKb(K:aG)(t:TA)(fs:FA2):Prop:=∀(A1:Fp)(σ:St)(H:Hp)(eF eZ:DE)(ds:List D)(Q:List V→Hp→Prop),(∀x,A1 x→oG H x)→yE K H eF σ→yE K (out H A1) eZ σ→fs eF eZ=NR ds →
 (∀vs H',aW H H'→eO K (out H' A1) ds vs→Q vs H')→t σ H Q
structure XAB(K:aG)(X:Cx)(es:List AK)(t:TA)(fs:FA2):Prop where
 hk:X.K=K
 pa:PA X es t
 ev:aKb K t fs
section
variable{K:aG}{X:Cx}{st:AO}{sts:List AO}{t u tb:TS}{g:GM}{g1 g2:GS}{e a b c o:AK}{es rest:List AK}{te ta t0 tv:TE}{f f0 fa fb:FE}{tA:TA}{fs:FA2}{tc td:TT}{fc:FT}{gb gc:GB}{pos apos:Pos}{i:Nat}{π:FP}
def oK:FA2:=λ_ _=>NR []
def Be(f:FE)(fs:FA2):FA2:=λeF eZ=>(f eZ).bind λd=>(fs eF eZ).map λr=>d::r
def faN(f:FE)(fs:FA2):FA2:=λeF eZ=>(f eF).bind λd=>(fs eF eZ).map λr=>d::r
B5 nG(hk:X.K=K:=by rfl):XAB K X [] oX oK:=⟨hk,jE,λA1 σ H eF eZ ds Q c re rz q k=>by
 cases q;~k [] H OC (by B4 eO;rfl)⟩
B5 jD(h:XR K X e te f)(hs:XAB K X es tA fs)(hst:AJ (e::es) X.env=(NV,AU e X.env)::AJ es X.env:=by rfl):XAB K X (e::es) (dF te tA) (Be f fs):=⟨h.hk,cZ h.pe hs.pa hst,λA1 σ H eF eZ ds Q c re rz q k=>by
 B3⟨d,q1,q2⟩:=aZ q;B3⟨ds',q3,rfl⟩:=kJ q2;&h.ev σ H (out H A1) eZ d _ (aCN c) rz q1 λv H1 Z1 s1 t1 z1 rv=>?_;&hs.ev A1 σ H1 eF eZ ds' _ (λx q=>(c x q).same s1) (re.same s1) (rz.same (bT s1 λx q=>.inl q)) q3 λvs H2 s2 rvs=>?_;&k (v::vs) H2 OS ?_;B4 eO;~⟨v,vs,U,((aGF z1).trans (bT s2 λx q=>.inl q)).rv _ _ rv,rvs⟩⟩
B5 RM(h:XN K X e te f)(hs:XAB K X es tA fs)(hst:AJ (e::es) X.env=(NV,AU e X.env)::AJ es X.env:=by rfl):XAB K X (e::es) (dF te tA) (faN f fs):=⟨h.hk,cZ h.pe hs.pa hst,λA1 σ H eF eZ ds Q c re rz q k=>by
 B3⟨d,q1,q2⟩:=aZ q;B3⟨ds',q3,rfl⟩:=kJ q2;&h.ev σ H eF d _ re q1 λv H1 s1 n=>?_;have c1:∀x,A1 x→oG H1 x:=λx q=>(c x q).same s1;&hs.ev A1 σ H1 eF eZ ds' _ c1 (re.same s1) (rz.same (bT s1 λx q=>.inl q)) q3 λvs H2 s2 rvs=>?_;&k (v::vs) H2 OS ?_;B3⟨N,o,fr⟩:=n;B4 eO;&⟨v,vs,U,(bT s2 λx q=>.inl q:aW (out H1 A1) (out H2 A1)).rv _ _ (o.out (λx z1 z2=>?_) λx q=>(c1 x q).2),rvs⟩;B3⟨⟨u,eu⟩,_⟩:=c x z2;rw[fr x z1]at eu;cases eu⟩
structure dR(P:AQ)(w:AS)(K:aG)(mg:Str→Option AE)(base:Heap)(C:AF)(m:Str)(k n:Nat)(df:Bool)(sp:Sp):Prop where
 ex:∃f fd ps,ps.length=n∧Ab P w K mg base MJ k f fd ps sp∧Binds K fd ps []∧(df=NU→Binds K fd ps [BM])∧Meth K C m f
B5 Yc{nm:List Str}{xs:List V}{m:Str}(h:nm.length=xs.length)(n:m∉nm):(nm.zip xs).lookup m=none:=by rw[Ga h,Dh.mpr n];rfl
def pO(C:AF)(m:Str)(i:Nat)(π:FP)(F:List D→Option (D×D))(fs:FA2):GM:=λenv=>match env[i]?.bind SD.hold,π (rE env),fs (rE env) (rE (env.set i .no))with
 | some (d0,back),NR p,NR es=>(match gJ p d0 with
  | some (.ins C' nm ds)=>if C'=C∧m∉nm then(F (.ins C' nm ds::es)).map λrd=>(rd.1,env.set i (back (fO p d0 rd.2)))else none
  | _=>none)
 | _,_,_=>none
B5 xj{C:AF}{m:Str}{n:Nat}{F:List D→Option (D×D)}{Km:List V}{dds:List D}(hF:∀d es p,F (d::es)=NR p→es.length+1=n)(hd:∀H,eO K H dds Km)(ho:EvP K ta i π)(ha:aKb K tA fs):EvM K (Nm C m (spS K n F) Km E0 ta tA) (pO C m i π F (λeF eZ=>(fs eF eZ).map (·++dds))):=λB σ H env d env' Q r q k=>by
 B4 pO at q;split at q
 ·rename_i d0 back p es' q1 q2 q3;B3⟨es,q3a,rfl⟩:=kJ q3;split at q
  ·rename_i C' nm ds q4;split at q
   ·rename_i hc;B3⟨rfl,hm⟩:=hc;B3⟨⟨r1,d1⟩,q5,q6⟩:=kJ q;cases q6;B3⟨v0,w0,A1,k1,k2,k3,k4,k5⟩:=aCO (E:=E0) (Q:=Q) r q1 q4 (hF _ _ _ q5) q5 k;have c1:=Ow.cells _ _ _ k3;have k3':=k3;B4 Ow at k3;B3⟨a,dx,xs,Bs,rfl,o2,o2',o3,_⟩:=k3;&ho σ H (rE env) v0 p _ _ r.r k1 q2 k2 λH1 s1=>⟨a,dx,_,U,s1 _ _ o2,Yc o3 hm,?_⟩
    &ha A1 σ H1 (rE env) (rE (env.set i .no)) es _ (λx q=>(c1 x q).same s1) (r.r.same s1) (k4.same (bT s1 λx q=>.inl q)) q3a λvs H2 s2 rvs=>?_;~k5 H2 (vs++Km) OS (rvs.append (hd _))
   ·cases q
  ·cases q
 ·cases q
B5 tH{C:AF}{m:Str}{k n:Nat}{df:Bool}{F:List D→Option (D×D)}{nm0:List Str}{pl:Sem Bool}(Cm:dR X.prog X.w X.K X.mg X.base C m k n df (spS K n F))(Fc:kW K C nm0)(hF:∀d es p,F (d::es)=NR p→es.length+1=n)(hr:lB k X.A)(ho:XP K X o ta i π)(ha:XAB K X (e::es) tA fs)
  (hst:AJ (e::es) X.env=(NV,AU e X.env)::AJ es X.env:=by rfl) (hpl:(Au pos (AJ es X.env)).any (·.1)=NV:=by rfl)
  (ht:AU (.Call (.Attribute o m apos) (e::es) [] pos) X.env=(do
   let ov ←AU o X.env
   EK apos.atName
   let (f,first) ←DI [ov] (EE ov m pl)
   FV pos f first (Au pos (AJ (e::es) X.env)) (EF pos (CU [] X.env))):=by rfl):XM K X (.Call (.Attribute o m apos) (e::es) [] pos) (Nm C m (spS K n F) [] E0 ta tA) (pO C m i π F (λeF eZ=>(fs eF eZ).map (·++[]))):=by
 have hk:=ho.hk;subst hk;B3⟨f,fd,ps,_,Fo,hb,_,hm⟩:=Cm.ex;~⟨U,BR (pl:=pl) ho.pe Fc.cl hm Fo hr hb .nil Xi ha.pa hst hpl ht,xj hF (λH=>by B4 eO;rfl) ho.ev ha.ev⟩
B5 Ip{C:AF}{m:Str}{k n:Nat}{F:List D→Option (D×D)}{nm0:List Str}{pl:Sem Bool}(Cm:dR X.prog X.w X.K X.mg X.base C m k n NU (spS K n F))(Fc:kW K C nm0)(hF:∀d es p,F (d::es)=NR p→es.length+1=n)(hr:lB k X.A)(ho:XP K X o ta i π)(ha:XAB K X (e::es) tA fs)
  (hst:AJ (e::es) X.env=(NV,AU e X.env)::AJ es X.env:=by rfl) (hpl:(Au pos (AJ es X.env)).any (·.1)=NV:=by rfl)
  (ht:AU (.Call (.Attribute o m apos) (e::es) [] pos) X.env=(do
   let ov ←AU o X.env
   EK apos.atName
   let (f,first) ←DI [ov] (EE ov m pl)
   FV pos f first (Au pos (AJ (e::es) X.env)) (EF pos (CU [] X.env))):=by rfl):XM K X (.Call (.Attribute o m apos) (e::es) [] pos) (Nm C m (spS K n F) [.non] E0 ta tA) (pO C m i π F (λeF eZ=>(fs eF eZ).map (·++[.non]))):=by
 have hk:=ho.hk;subst hk;B3⟨f,fd,ps,_,Fo,_,hb,hm⟩:=Cm.ex;~⟨U,BR (pl:=pl) ho.pe Fc.cl hm Fo hr (hb U) (.cons U .nil) Xi ha.pa hst hpl ht,xj hF (λH=>by B4 eO;~⟨_,_,U,by B4 Rv;rfl,by B4 eO;rfl⟩) ho.ev ha.ev⟩
def fH(C:AF)(m:Str)(n:Nat)(F:List D→Option D)(fo:FE)(fs:FA)(dds:List D):FE:=λe=>(fo e).bind λd0=>match d0 with
 | .ins C' nm ds=>if C'=C∧m∉nm then(fs e).bind λes=>if es.length+dds.length+1=n then F (.ins C' nm ds::(es++dds))else none else none
 | _=>none
B5 xn{fsA:FA}{C:AF}{m:Str}{n:Nat}{F:List D→Option D}{Km:List V}{dds:List D}(hd:∀H,eO K H dds Km)(ho:Ko K ta f)(ha:EvA K tA fsA):Nq K (Nm C m (gW K n F) Km E0 ta tA) (fH C m n F f fsA dds):=λσ H e d Q re q k=>by
 B3⟨d0,q1,q2⟩:=aZ q;split at q2
 ·rename_i C' nm ds;split at q2
  ·rename_i hc;B3⟨rfl,hm⟩:=hc;B3⟨es,q3,q4⟩:=aZ q2;split at q4
   ·rename_i hl;&ho σ H H e _ _ OW re q1 λv H1 Z1 s1 t1 z1 rv=>?_;have rv1:=z1.sm.rv _ _ rv;have aLT:=rv1;B4 Rv at rv1;B3⟨a,dx,xs,rfl,h1,h2,h3⟩:=rv1;&⟨a,dx,_,U,h1,Yc h2 hm,?_⟩;&ha σ H1 H1 e es _ (Zn.self K H1) (re.same s1) q3 λvs H2 Z2 s2 t2 z2 rvs=>?_;&⟨_::(es++dds),d,by rw[E3,D1];omega,?_,q4,λw H3 s3 nw=>k w H3 (s1.trans (s2.trans s3)) (nw.back OS)⟩;B4 eO;~⟨_,_,U,s2.rv _ _ aLT,(z2.sm.uw _ _ rvs).append (hd _)⟩
   ·cases q4
  ·cases q2
 ·cases q2
B5 fQ{fsA:FA}{C:AF}{m:Str}{k n:Nat}{df:Bool}{F:List D→Option D}{nm0:List Str}{pl:Sem Bool}(Cm:dR X.prog X.w X.K X.mg X.base C m k n df (gW K n F))(Fc:kW K C nm0)(hr:lB k X.A)(ho:XR K X o ta f)(ha:XA K X (e::es) tA fsA)
  (hst:AJ (e::es) X.env=(NV,AU e X.env)::AJ es X.env:=by rfl) (hpl:(Au pos (AJ es X.env)).any (·.1)=NV:=by rfl)
  (ht:AU (.Call (.Attribute o m apos) (e::es) [] pos) X.env=(do
   let ov ←AU o X.env
   EK apos.atName
   let (f,first) ←DI [ov] (EE ov m pl)
   FV pos f first (Au pos (AJ (e::es) X.env)) (EF pos (CU [] X.env))):=by rfl):XN K X (.Call (.Attribute o m apos) (e::es) [] pos) (Nm C m (gW K n F) [] E0 ta tA) (fH C m n F f fsA []):=by
 have hk:=ho.hk;subst hk;B3⟨f,fd,ps,_,Fo,hb,_,hm⟩:=Cm.ex;~⟨U,BR (pl:=pl) ho.pe Fc.cl hm Fo hr hb .nil Xi ha.pa hst hpl ht,xn (λH=>by B4 eO;rfl) ho.ev ha.ev⟩
B5 Bf{C:AF}{m:Str}{k n:Nat}{df:Bool}{F:List D→Option D}{nm0:List Str}{pl:Sem Bool}(Cm:dR X.prog X.w X.K X.mg X.base C m k n df (gW K n F))(Fc:kW K C nm0)(hr:lB k X.A)(ho:XR K X o ta f)
  (ht:AU (.Call (.Attribute o m apos) [] [] pos) X.env=(do
   let ov ←AU o X.env
   EK apos.atName
   let (f,first) ←DI [ov] (EE ov m pl)
   FV pos f first (Au pos (AJ [] X.env)) (EF pos (CU [] X.env))):=by rfl):XN K X (.Call (.Attribute o m apos) [] [] pos) (Nm C m (gW K n F) [] E0 ta oX) (fH C m n F f aL []):=by
 have hk:=ho.hk;subst hk;B3⟨f,fd,ps,_,Fo,hb,_,hm⟩:=Cm.ex;~⟨U,aBV (pl:=pl) ho.pe Fc.cl hm Fo hr hb .nil Xi ht,xn (λH=>by B4 eO;rfl) ho.ev aCg⟩
structure aAX(P:AQ)(w:AS)(K:aG)(mg:Str→Option AE)(base:Heap)(x:Str)(C:AF)(k n:Nat)(sp:Sp):Prop where
 ex:∃f fd ps,ps.length=n∧Ab P w K mg base MJ k f fd ps sp∧Binds K fd ps []∧Mk K C f∧mg x=NR (.ref C)
def Th(C:AF)(F:List D→Option (D×D))(fs:FA):FE:=λe=>(fs e).bind λes=>match F (.ins C [] []::es)with
 | some (.non,d')=>NR d'
 | _=>none
B5 FW{fsA:FA}{x:Str}{C:AF}{k n:Nat}{F:List D→Option (D×D)}{p:Pos}(Ci:aAX X.prog X.w X.K X.mg X.base x C k n (spS K n F))(hF:∀d es p,F (d::es)=NR p→es.length+1=n)(hr:lB (k+1) X.A)(hg:Gl X x)(ha:XA K X (e::es) tA fsA)(hdb:OH=NV:=by decide)
  (he:AJ (e::es) X.env=(NV,AU e X.env)::AJ es X.env:=by rfl) (hpl:(Au pos (AJ es X.env)).any (·.1)=NV:=by rfl):XN K X (.Call (.Name x p) (e::es) [] pos) (aGh C (spS K n F) [] E0 tA) (Th C F fsA):=by
 have hk:=ha.hk;subst hk;B3⟨f,fd,ps,_,Fo,hb,M,hm⟩:=Ci.ex;&⟨U,aEy M Fo hr hg hm hb .nil Xi ha.pa hdb he hpl,λσ H e d Q re q k=>?_⟩;B3⟨es,q1,q2⟩:=aZ q;split at q2
 ·rename_i d' q3;cases q2;&ha.ev σ H H e es _ (Zn.self _ H) re q1 λvs H1 Z1 s1 t1 z1 rvs=>λx dx nx ndx ne=>?_;have s0:aW H1 (upd (upd H1 dx (.own x)) x (.ins C dx [])):=λb o eb=>by rw[bQ (iI eb nx),bQ (iI eb ndx)];~eb
  have so:aW H1 (out (upd (upd H1 dx (.own x)) x (.ins C dx [])) (λy=>y=x∨y=dx)):=λb o eb=>bF.mpr ⟨λz=>z.elim (iI eb nx) (iI eb ndx),s0 b o eb⟩;&⟨.ins C [] [],es,.ref x,vs++[],(λy=>y=x∨y=dx),.non,_,U,hF _ _ _ q3,?_,?_,q3,λw H2 A' A2 o1 o2 ap sm=>⟨?_,k (.ref x) H2 (λb o eb=>?_) ⟨A',o1,λb hb=>?_⟩⟩⟩
  ·B4 Ow;&⟨x,dx,[],nil,U,cA,by rw[bQ ne,cA],U,λz=>z,λz=>z,λy=>⟨.inl,λz=>z.elim id False.elim⟩,?_⟩;B4 eQ;~⟨λ_ z=>z,U⟩
  ·rw[F0];~(z1.sm.trans so).uw _ _ rvs
  ·have:=Ow.rv _ _ _ o2;B4 Rv at this;~this
  ·~(bF.mp (sm b o ((s1.trans so) b o eb))).2
  ·cases eb:H b with
   | none=>rfl
   | some o=>~absurd (.inl hb) (bF.mp (sm b o ((s1.trans so) b o eb))).1
 ·cases q2
B5 aLU(h:XN K X e te f):XM K X e te (λenv=>(f (rE env)).map λd=>(d,env)):=⟨h.hk,h.pe,λB σ H env d env' Q r q k=>by
 B3⟨d0,q1,q2⟩:=kJ q;cases q2;~h.ev σ H (rE env) d Q r.r q1 λv H' s n=>k v H' (r.snoc s n)⟩
def gbV(g:GM):GB:=λenv=>(g env).bind λde=>match de.1 with
 | .bl b=>NR (b,de.2)
 | _=>none
def gbT(f:FT):GB:=λenv=>(f (rE env)).map λb=>(b,env)
def aMY(g:GB):GB:=λenv=>(g env).map λbe=>(!be.1,be.2)
def aMZ(g h:GB):GB:=λenv=>(g env).bind λbe=>if be.1=NU then h be.2 else NR (NV,be.2)
def aN4(g h:GB):GB:=λenv=>(g env).bind λbe=>if be.1=NU then NR (NU,be.2)else h be.2
def aN5(φ:D→D→Option D)(g:GM)(f:FE):GM:=λenv=>(g env).bind λde=>(f (rE de.2)).bind λd2=>(φ de.1 d2).bind λr=>if r.jH=NU then NR (r,de.2)else none
def Ir(i:Nat)(g:GM):GS:=λenv=>match g env with
 | some (d,env')=>if i<env'.length then .next (env'.set i (.own d))else .bad
 | none=>.bad
B5 Py{x:Str}{pos':Pos}(h:XM K X e te g)(hp:PE X e te→PS X (.Assign [.Name x pos'] e pos) (xX te (iZ i))):YS K X (.Assign [.Name x pos'] e pos) (xX te (iZ i)) (Ir i g):=⟨hp h.pe,λB E σ H env r p=>by
 B4 Ir at p;split at p
 ·rename_i d env' q;split at p
  ·rename_i hi;~h.ev B σ H env d env' _ r q λv H' r'=>p _ _ (r'.move hi)
  ·~p.elim
 ·~p.elim⟩
def uL(g:GM):GS:=λenv=>match g env with
 | some (_,env')=>.next env'
 | none=>.bad
B5 Bg(h:XM K X e te g)(hs:DO e none pos.line X.env=pure NV:=by rfl):YS K X (.Expr e pos) (oV te) (uL g):=⟨kY h.pe hs,λB E σ H env r p=>by
 B4 uL at p;split at p
 ·rename_i d env' q;~h.ev B σ H env d env' _ r q λv H' r'=>p _ _ r'.pop
 ·~p.elim⟩
def Iu(g:GM):GS:=λenv=>match g env with
 | some (d,env')=>.rete d env'
 | none=>.bad
B5 Pz(h:XM K X e te g):YS K X (.Return (NR e) pos) (aBE te) (Iu g):=⟨Zy h.pe,λB E σ H env r p=>by
 B4 Iu at p;split at p
 ·rename_i d env' q;~h.ev B σ H env d env' _ r q λv H' r'=>p v σ H' r'
 ·~p.elim⟩
def yN(i:Nat):GS:=λenv=>match env[i]? with
 | some (.own d)=>.rete d (env.set i .no)
 | some (.fro d)=>if d.jH=NU then .rete d env else .bad
 | _=>.bad
B5 Iv(h:PE X e (qM i)):YS K X (.Return (NR e) pos) (aBE (qM i)) (yN i):=⟨Zy h,λB E σ H env r p=>by
 B4 yN at p;split at p
 ·rename_i d q;B3⟨v,hv,r'⟩:=r.give q;~⟨v,hv,p v σ H r'⟩
 ·rename_i d q;split at p
  ·rename_i im;B3⟨v,hv,rv⟩:=r.r i d (by B4 rE;rw[C5,q];rfl);~⟨v,hv,p v σ H (r.snoc OC (.jH im rv))⟩
  ·~p.elim
 ·~p.elim⟩
def aN6(g:GB)(g1 g2:GS):GS:=λenv=>match g env with
 | some (NU,env')=>g1 env'
 | some (NV,env')=>g2 env'
 | none=>.bad
end
end L2


namespace L2
open PySem PySem.Spec PySem.Calls PyProof.Rows PyProof.V
def aKc(K:aG)(dN:Bool)(dV:AE):Prop:=match dN with
 | false=>dV=.none
 | true=>∃T o n,dV=.ref T∧K.lookup T=NR o∧o.data=.seq #[.none] n
structure RN(K:aG)(f:AF)(m q:Str)(st:AO)(dN:Bool):Prop where
 ex:∃(oc:AE)(od:Option AF)(dV kV doc pm:AE)(an:Option AF)(cdv ct:AE)(osl:Array (Option AE)),
  K.lookup f=NR ⟨oc,od,.func (G5 m q (gA st) (cM st) (aK st) dV kV doc pm an cdv ct),osl⟩∧L6 K cdv q=NU∧aKc K dN dV
structure iB(K:aG)(C:AF)(m q:Str)(st:AO)(dN:Bool):Prop where
 ex:∃f,RN K f m q st dN∧Meth K C m f
structure RP(K:aG)(mg:Str→Option AE)(x:Str)(C:AF)(q:Str)(st:AO):Prop where
 ex:∃f,RN K f "__init__" q st NV∧Mk K C f∧mg x=NR (.ref C)
def HB(x q:Str)(st:AO)(ps:List Str):Prop:=∀(kV doc pm:AE)(an:Option AF)(cdv ct:AE)(us:List AE),us.length=ps.length→EJ (G5 x q (gA st) (cM st) (aK st) .none kV doc pm an cdv ct) ⟨us,[]⟩=pure (ps.zip us)
def HBD(x q:Str)(st:AO)(ps:List Str):Prop:=∀(T:AF)(kV doc pm:AE)(an:Option AF)(cdv ct:AE)(us:List AE),(us.length=ps.length→∃k,EJ (G5 x q (gA st) (cM st) (aK st) (.ref T) kV doc pm an cdv ct) ⟨us,[]⟩=seqItems? (AW T) >>= k∧k (NR #[BM])=pure (ps.zip us)) ∧
 (us.length+1=ps.length→∃k,EJ (G5 x q (gA st) (cM st) (aK st) (.ref T) kV doc pm an cdv ct) ⟨us,[]⟩=seqItems? (AW T) >>= k∧k (NR #[BM])=pure (ps.zip (us++[BM])))
def HBs(dN:Bool)(x q:Str)(st:AO)(ps:List Str):Prop:=match dN with
 | false=>HB x q st ps
 | true=>HBD x q st ps
section
variable{P:AQ}{w:AS}{K:aG}{mg:Str→Option AE}{base:Heap}
B5 RN.binds{f:AF}{m q:Str}{st:AO}{dN:Bool}{ps:List Str}{oc:AE}{od:Option AF}{dV kV doc pm:AE}{an:Option AF}{cdv ct:AE}(hd:aKc K dN dV)(h:HBs dN m q st ps) :
  Binds K (G5 m q (gA st) (cM st) (aK st) dV kV doc pm an cdv ct) ps []∧(dN=NU→Binds K (G5 m q (gA st) (cM st) (aK st) dV kV doc pm an cdv ct) ps [BM]):=by
 cases dN with
 | false=>
  cases hd;~⟨.all (h kV doc pm an cdv ct),λz=>by cases z⟩
 | true=>
  B3⟨T,o,n,rfl,h1,h2⟩:=hd;&⟨λs us kin hl=>?_,λ_ s us kin hl=>?_⟩
  ·rw[F0]at hl ⊢;B3⟨k,e1,e2⟩:=(h T kV doc pm an cdv ct us).1 hl;~.of_defaults U (kin _ _ h1) h2 e1 e2
  ·rw[D1]at hl;B3⟨k,e1,e2⟩:=(h T kV doc pm an cdv ct us).2 hl;~.of_defaults U (kin _ _ h1) h2 e1 e2
abbrev aAY(n m:Nat)(d:D)(es:List D)(v:V):EN:=.inn v d::(es.map SD.fro++E9 (n-m) SD.no)
def RQ(r d':D)(v:V)(o:SR):Prop:=∃env',(o=.rete r env'∨(o=.next env'∧r=.non))∧env'[0]?=NR (.inn v d')
open Classical in
noncomputable def oY(n m:Nat)(g:GS):List D→Option (D×D)
 | d::es=>if h:∃p:D×D,es.length+1=m∧∀v,RQ p.1 p.2 v (g (aAY n m d es v))then NR h.choose else none
 | _=>none
B5 aCP{r d' r2 d2:D}{v:V}{o:SR}(h1:RQ r d' v o)(h2:RQ r2 d2 v o):r=r2∧d'=d2:=by
  B3⟨e1,a1,a2⟩:=h1;B3⟨e2,b1,b2⟩:=h2;rcases a1 with a1 | ⟨a1,rfl⟩
  · rcases b1 with b1 | ⟨b1,rfl⟩
    · rw[a1]at b1
      injection b1 with c1 c2;subst c2;rw[a2]at b2;injection b2 with b2;injection b2 with _ b2;~⟨c1,b2⟩
    · rw[a1]at b1;cases b1
  · rcases b1 with b1 | ⟨b1,rfl⟩
    · rw[a1]at b1;cases b1
    · rw[a1]at b1
      injection b1 with c2;subst c2;rw[a2]at b2;injection b2 with b2;injection b2 with _ b2;~⟨U,b2⟩
B5 aCQ{n m:Nat}{g:GS}{d r d':D}{es:List D}(hl:es.length+1=m)(h:∀v,RQ r d' v (g (aAY n m d es v))):oY n m g (d::es)=NR (r,d'):=by
 have ex:∃p:D×D,es.length+1=m∧∀v,RQ p.1 p.2 v (g (aAY n m d es v)):=⟨(r,d'),hl,h⟩
 B4 oY;dsimp only;rw[dif_pos ex];B3⟨e1,e2⟩:=aCP (ex.choose_spec.2 .non) (h .non);~congrArg NR (r9 e1 e2)
B5 RT{n m:Nat}{g:GS}{d r d':D}{es:List D}(h:oY n m g (d::es)=NR (r,d'))(v:V):es.length+1=m∧RQ r d' v (g (aAY n m d es v)):=by
 B4 oY at h;dsimp only at h;split at h
 ·rename_i ex;have:=ex.choose_spec;rw[E6 h]at this;~⟨this.1,this.2 v⟩
 ·cases h
B5 fX{n m:Nat}{g:GS}(d:D)(es:List D)(p:D×D)(h:oY n m g (d::es)=NR p):es.length+1=m:=(RT (r:=p.1) (d':=p.2) h .non).1
B5 aKd{X:Cx}{N ps:List Str}{g:GS}{body:List AO}{t:TS}{vs:List V}{H:Hp}{Q:VK}{E:XK}(yb:YB K X body t g)(h:spS K ps.length (oY N.length ps.length g) vs H Q E):t {nx:=λ_ H'=>Q .non H',rt:=Q} (start N vs) H:=by
  B3⟨d,es,v,ws,A1,r,d',rfl,hl,ho,hrs,hF,kk⟩:=h;B3⟨_,env',q1,q2⟩:=RT hF v;have hw:=hrs.length;&yb.ev (out H A1) _ _ H (aAY N.length ps.length d es v) ?_ ?_
  · have sa:=Sy (K:=K) (H:=H) (k:=N.length-ps.length) hrs
    have e:start N (v::ws)=NR v::(ws.map NR++E9 (N.length-ps.length) none):=by B4 start;rw[E2,E3,show N.length-(ws.length+1)=N.length-ps.length by omega];rfl
    rw[e];~⟨A1,⟨_,_,A1,nil,U,λ_ _ z=>z,λx=>⟨.inl,λz=>z.elim id False.elim⟩,⟨U,ho⟩,sa⟩,aW.refl _⟩
  · rcases q1 with q1 | ⟨q1,rfl⟩
    · rw[q1]
      intro w σ' H' ⟨A2,a2,b2⟩;B3⟨A3,A4,k1,⟨w',ew,o⟩,k3,k4⟩:=a2.Li;cases ew;B3⟨y,A5,C,h1,h2,h3,h4,_⟩:=k1.focus q2;~kk w H' A5 A4 h4.2 o (λx z1 z2=>k3 x ((h3 x).mpr (.inl z1)) z2) (b2.trans (bT OC λx z=>.inl ((k4 x).mpr (z.elim (λz=>.inl ((h3 x).mpr (.inl z))) .inr))))
    · rw[q1]
      intro σ' H' ⟨A2,a2,b2⟩;B3⟨y,A5,C,h1,h2,h3,h4,_⟩:=a2.focus q2;~kk .non H' A5 nil h4.2 (by B4 Ow;~⟨λ_ z=>z,U⟩) (λx z1 z2=>z2) (b2.trans (bT OC λx z=>.inl ((h3 x).mpr (.inl (z.elim id False.elim)))))
B5 aLV{ps:List Str}{F:List D→Option (D×D)}(vs:List V)(H:Hp)(Q:VK)(E:XK)(h:spS K ps.length F vs H Q E):vs.length=ps.length:=by B3⟨d,es,v,ws,A,r,d',rfl,hl,_,rs,_⟩:=h;have:=rs.length;rw[E3];omega
B5 RN.okS{f:AF}{m q:Str}{st:AO}{dN:Bool}{N ps:List Str}{k:Nat}{g:GS}(R:RN K f m q st dN)(S:bA N ps (aK st))(hb:HBs dN m q st ps)
  (hbody:∀(f:AF)(cdv:AE)(A:AV)(outer:List Env)(s:AG)(H:Hp)(E:XK),lB k (A.deeper (CH q (aK st) s.heap.objs.size f cdv))→∃t,YB K (Hu MJ P w K mg base N q (aK st) f cdv A outer s H E).sy (cM st) t g) :
  ∃fd,Ab P w K mg base MJ (k+1) f fd ps (spS K ps.length (oY N.length ps.length g))∧Binds K fd ps []∧(dN=NU→Binds K fd ps [BM]):=by
 B3⟨oc,od,dV,kV,doc,pm,an,cdv,ct,osl,lk,hcd,hd⟩:=R.ex;&⟨_,aBX lk hcd S aLV λA outer s H vs Q E hr hsp=>?_,RN.binds (f:=f) (oc:=oc) (od:=od) hd hb⟩;B3⟨t,yb⟩:=hbody f cdv A outer s H E hr;~⟨t,yb.ps.sy,aKd yb hsp⟩
B5 iB.FZ{C:AF}{m q:Str}{st:AO}{dN:Bool}{N ps:List Str}{k:Nat}{g:GS}(R:iB K C m q st dN)(S:bA N ps (aK st))(hb:HBs dN m q st ps)
  (hbody:∀(f:AF)(cdv:AE)(A:AV)(outer:List Env)(s:AG)(H:Hp)(E:XK),lB k (A.deeper (CH q (aK st) s.heap.objs.size f cdv))→∃t,YB K (Hu MJ P w K mg base N q (aK st) f cdv A outer s H E).sy (cM st) t g):dR P w K mg base C m (k+1) ps.length dN (spS K ps.length (oY N.length ps.length g)):=by
 B3⟨f,Rf,M⟩:=R.ex;B3⟨fd,F,b1,b2⟩:=Rf.okS (P:=P) (w:=w) (mg:=mg) (base:=base) S hb hbody;~⟨f,fd,ps,U,F,b1,b2,M⟩
B5 RP.aKe{C:AF}{x q:Str}{st:AO}{N ps:List Str}{k:Nat}{g:GS}(R:RP K mg x C q st)(S:bA N ps (aK st))(hb:HB "__init__" q st ps)
  (hbody:∀(f:AF)(cdv:AE)(A:AV)(outer:List Env)(s:AG)(H:Hp)(E:XK),lB k (A.deeper (CH q (aK st) s.heap.objs.size f cdv))→∃t,YB K (Hu MJ P w K mg base N q (aK st) f cdv A outer s H E).sy (cM st) t g):aAX P w K mg base x C (k+1) ps.length (spS K ps.length (oY N.length ps.length g)):=by
 B3⟨f,Rf,M,hm⟩:=R.ex;B3⟨fd,F,b1,b2⟩:=Rf.okS (P:=P) (w:=w) (mg:=mg) (base:=base) S hb hbody;~⟨f,fd,ps,U,F,b1,M,hm⟩
def oZ(n m:Nat)(g:GS):List D→Option D:=λds=>if ds.length=m then(match g (ds.map SD.fro++E9 (n-m) SD.no)with
 | .ret d=>NR d
 | .next _=>NR .non
 | _=>none)else none
B5 aKf{X:Cx}{N ps:List Str}{g:GS}{body:List AO}{t:TS}{vs:List V}{H:Hp}{Q:VK}{E:XK}(yb:YB K X body t g)(h:gW K ps.length (oZ N.length ps.length g) vs H Q E):t {nx:=λ_ H'=>Q .non H',rt:=Q} (start N vs) H:=by
 B3⟨ds,d,h1,h2,h3,kk⟩:=h;&yb.ev H _ _ H (ds.map SD.fro++E9 (N.length-ps.length) SD.no) ?_ ?_
 ·have hl:vs.length=ps.length:=by rw[h2.length];~h1
  have:=Lh (k:=N.length-ps.length) h2;B4 start;rw[hl];~this
 ·B4 oZ at h3;rw[if_pos h1]at h3;cases q:g (ds.map SD.fro++E9 (N.length-ps.length) SD.no)with
  | ret d'=>
   rw[q]at h3;cases h3;&λv H' A' s' o=>kk v H' (s'.trans (jA _ _)) ⟨A',o,λa qa=>?_⟩;cases e:H a with
   | none=>rfl
   | some u=>~absurd qa (bF.mp (s' a u e)).1
  | next env'=>
   rw[q]at h3;cases h3;intro σ' H' ⟨A,a,b⟩;~kk .non H' (b.trans (jA _ _)) OB
  | bad=>rw[q]at h3;cases h3
  | brk e=>rw[q]at h3;cases h3
  | cont e=>rw[q]at h3;cases h3
  | rete d e=>rw[q]at h3;cases h3
B5 iB.Lj{C:AF}{m q:Str}{st:AO}{dN:Bool}{N ps:List Str}{k:Nat}{g:GS}(R:iB K C m q st dN)(S:bA N ps (aK st))(hb:HBs dN m q st ps)
  (hbody:∀(f:AF)(cdv:AE)(A:AV)(outer:List Env)(s:AG)(H:Hp)(E:XK),lB k (A.deeper (CH q (aK st) s.heap.objs.size f cdv))→∃t,YB K (Hu MJ P w K mg base N q (aK st) f cdv A outer s H E).sy (cM st) t g):dR P w K mg base C m (k+1) ps.length dN (gW K ps.length (oZ N.length ps.length g)):=by
 B3⟨f,Rf,M⟩:=R.ex;B3⟨oc,od,dV,kV,doc,pm,an,cdv,ct,osl,lk,hcd,hd⟩:=Rf.ex;B3⟨b1,b2⟩:=RN.binds (f:=f) (oc:=oc) (od:=od) (kV:=kV) (doc:=doc) (pm:=pm) (an:=an) (cdv:=cdv) (ct:=ct) hd hb;&⟨f,_,ps,U,aBX lk hcd S (λvs H Q E h=>?_) λA outer s H vs Q E hr hsp=>?_,b1,b2,M⟩
 ·B3⟨ds,d,h1,h2,_⟩:=h;rw[h2.length];~h1
 B3⟨t,yb⟩:=hbody f cdv A outer s H E hr;~⟨t,yb.ps.sy,aKf yb hsp⟩
B5 xq{f:AF}{m q:Str}{st:AO}{oc:AE}{od an:Option AF}{osl:Array (Option AE)}{kV doc pm cdv ct:AE}(l:K.lookup f=NR ⟨oc,od,.func (G5 m q (gA st) (cM st) (aK st) .none kV doc pm an cdv ct),osl⟩)(c:L6 K cdv q=NU):RN K f m q st NV:=⟨⟨oc,od,.none,kV,doc,pm,an,cdv,ct,osl,l,c,U⟩⟩
B5 aFn{C f:AF}{m q:Str}{st:AO}{oc:AE}{od an:Option AF}{osl:Array (Option AE)}{kV doc pm cdv ct:AE}(a:G3 K (.ref C) m=NR (NR (.ref f)))(i:Q8 K (.ref f)=NU)(l:K.lookup f=NR ⟨oc,od,.func (G5 m q (gA st) (cM st) (aK st) .none kV doc pm an cdv ct),osl⟩)(c:L6 K cdv q=NU)(k:K7 K (.ref f)=NU):iB K C m q st NV:=⟨⟨f,xq l c,⟨a,i,k⟩⟩⟩
B5 aCR{C f T:AF}{m q:Str}{st:AO}{oc oc2:AE}{od an od2:Option AF}{osl aLW:Array (Option AE)}{kV doc pm cdv ct:AE}{n:Nat}(a:G3 K (.ref C) m=NR (NR (.ref f)))(i:Q8 K (.ref f)=NU)(l:K.lookup f=NR ⟨oc,od,.func (G5 m q (gA st) (cM st) (aK st) (.ref T) kV doc pm an cdv ct),osl⟩)(c:L6 K cdv q=NU)(k:K7 K (.ref f)=NU)(t:K.lookup T=NR ⟨oc2,od2,.seq #[.none] n,aLW⟩):iB K C m q st NU:=⟨⟨f,⟨⟨oc,od,.ref T,kV,doc,pm,an,cdv,ct,osl,l,c,T,_,n,U,t,U⟩⟩,⟨a,i,k⟩⟩⟩
B5 aFo{h:Heap}{x q:Str}{C f:AF}{st:AO}{oc:AE}{od an:Option AF}{osl:Array (Option AE)}{kV doc pm cdv ct:AE}(X:K.In h)(G:h.Ns As mg)(aC:U4 K As x=NR (NR (.ref C)))(a:G3 K (.ref C) "__init__" = NR (NR (.ref f))) (i:Q8 K (.ref f)=NU) (l:K.lookup f=NR ⟨oc,od,.func (G5 "__init__" q (gA st) (cM st) (aK st) .none kV doc pm an cdv ct),osl⟩) (c:L6 K cdv q=NU) (mk:W6 K C=NU) (kc:K7 K (.ref C)=NU):RP K mg x C q st:=⟨⟨f,xq l c,⟨mk,a,i,kc⟩,j9 X G aC⟩⟩
end
section
variable{K:aG}{X:Cx}{st:AO}{g g1 g2 gb:GS}{e a b c o:AK}{es rest:List AK}{te ta tb tc t0 tv:TE}{f f0 fa fb fc:FE}{tA:TA}{fs:FA}{pos apos:Pos}{i j:Nat}{π:FP}{tbs:TS}
def We(φ φ':D→D→Option D)(f g h:FE):FT:=λe=>(f e).bind λa=>(g e).bind λb=>(φ a b).bind λr=>match r with
  | .bl NU=>(h e).bind λc=>(φ' b c).bind λr2=>match r2 with | .bl k=>NR k | _=>none
  | .bl NV=>NR NV
  | _=>none
B5 Iw{op op':EH}{r r':R2}{φ φ':D→D→Option D}(ho:vC X (AY op) r)(ho':vC X (AY op') r')(hd:MN K r φ)(hd':MN K r' φ')(ha:XR K X a ta fa)(hb:XR K X b tb fb)(hc:XR K X c tc fc)(hm:IA [op,op'] [b,c]=NV:=by with_unfolding_all rfl):XT K X (.Compare a [op,op'] [b,c] pos) (PB (BP r r' ta tb tc)) (We φ φ' fa fb fc):=⟨ha.hk,aBO ho ho' ha.pe hb.pe hc.pe hm,λσ H e k Q re q kk=>by
 B3⟨d1,q1,q⟩:=aZ q;B3⟨d2,q2,q⟩:=aZ q;B3⟨d3,q3,q⟩:=aZ q;&ha.ev σ H H e d1 _ OW re q1 λx H1 Z1 s1 t1 z1 rx=>hb.ev σ H1 H1 e d2 _ (Zn.self K H1) (re.same s1) q2 λy H2 Z2 s2 t2 z2 ry=>?_;&hd x y H2 d1 d2 d3 _ (s2.rv _ _ (z1.sm.rv _ _ rx)) (z2.sm.rv _ _ ry) q3 λz H3 s3 n=>?_;have rz:=n.rv;split at q
 ·B3⟨d4,q4,q⟩:=aZ q;B3⟨d5,q5,q⟩:=aZ q;B4 Rv at rz;&⟨NU,rz,?_⟩;rw[if_pos rfl];&hc.ev σ H3 H3 e d4 _ (Zn.self K H3) (re.same (s1.trans (s2.trans s3))) q4 λw H4 Z4 s4 t4 z4 Qv=>?_;&hd' y w H4 d2 d4 d5 _ ((s3.trans s4).rv _ _ (z2.sm.rv _ _ ry)) (z4.sm.rv _ _ Qv) q5 λv H5 s5 n5=>?_;have r5:=n5.rv;split at q
  ·cases q;B4 Rv at r5;~⟨_,r5,kk H5 (s1.trans (s2.trans (s3.trans (s4.trans s5))))⟩
  ·cases q
 ·cases q;B4 Rv at rz;&⟨NV,rz,?_⟩;rw[if_neg A8];~⟨_,U,kk H3 (s1.trans (s2.trans s3))⟩
 ·cases q⟩
open Classical in
noncomputable def Ae(j i:Nat)(g:GS)(v:V)(all:List D):List D→EN→SR
 | [],env=>if env[j]?=NR (.inn v (.lst all))then .next env else .bad
 | x::xs,env=>if i<env.length∧env[j]?=NR (.inn v (.lst all))then(match g (env.set i (.fro x))with
  | .next e=>Ae j i g v all xs e
  | .cont e=>Ae j i g v all xs e
  | _=>.bad)else .bad
open Classical in
noncomputable def Fd(j i:Nat)(g:GS):GS:=λenv=>match env[j]? with
 | some (.own (.lst xs))=>if h:(intsOf xs).isSome=NU∧∃env':EN,env'[j]?=NR (.own (.lst xs))∧∀v,Ae j i g v xs xs (env.set j (.inn v (.lst xs)))=.next (env'.set j (.inn v (.lst xs)))then .next h.2.choose else .bad
 | _=>.bad
B5 aFp{α:Type}{l m:List α}{j:Nat}{s:α}(h1:l.set j s=m.set j s)(h2:l[j]?=m[j]?):l=m:=by
 apply K5;intro k;by_cases c:j=k
 ·subst c;~h2
 ·have:=congrArg (λx=>x[k]?) h1;simp only[G8,if_neg c]at this;~this
B5 aCS{env env':EN}{ns:List Int}(h:env[j]?=NR (.own (.lst OE)))(h1:env'[j]?=NR (.own (.lst OE)))(h2:∀v,Ae j i g v OE OE (env.set j (.inn v (.lst OE)))=.next (env'.set j (.inn v (.lst OE)))):Fd j i g env=.next env':=by
 have ex:(intsOf OE).isSome=NU∧∃env':EN,env'[j]?=NR (.own (.lst OE))∧∀v,Ae j i g v OE OE (env.set j (.inn v (.lst OE)))=.next (env'.set j (.inn v (.lst OE))):=⟨by rw[lM];rfl,env',h1,h2⟩
 B4 Fd;rw[h];dsimp only;rw[dif_pos ex];have c:=ex.2.choose_spec;have e:=(c.2 .non).symm.trans (h2 .non);injection e with e;rw[aFp e (c.1.trans h1.symm)]
B5 aAZ{xs:List D}{ns:List Int}(h:intsOf xs=NR ns):xs=ns.map D.int:=by
 induction xs generalizing ns with
 | nil=>B4 intsOf at h;cases h;rfl
 | cons x xs ih=>
  B4 intsOf at h;cases x with
  | int i=>B3⟨ms,h1,h2⟩:=kJ h;subst h2;rw[E2,ih h1]
  | _=>cases h
B5 aFq(hb:DS K tbs g):DS K (Qo (aCr K (qM j)) (iZ i) tbs) (Fd j i g):=λB E σ H env r p=>by
 B4 Fd at p;split at p
 ·rename_i xs q;split at p
  ·rename_i ex;B3⟨ns,hns⟩:=U2.mp ex.1;have exx:=aAZ hns;B3⟨c1,c2⟩:=ex.2.choose_spec;generalize ex.2.choose=env' at *;subst exx;have hj:j<env'.length:=(D4.mp c1).1;B3⟨v,hσ,rv⟩:=r.r j _ (by B4 rE;rw[C5,q];rfl);have c2:=c2 v;have r1:=r.aCJ q hσ;have lst:∀{cU:EN} {σ2:St} {H2:Hp},Rel K B cU σ2 H2→cU[j]?=NR (.inn v (.lst (ns.map D.int)))→∃a,v=.ref a∧oU K H2 a (ns.map V.int):=by rintro cU σ2 H2 ⟨A,aa,bb⟩ e2;B3⟨y,A1,C,h1,h2,h3,h4,_⟩:=aa.focus e2;have:=Ow.rv _ _ _ h4.2;B4 Rv at this;B3⟨a,ys,e,sq,l⟩:=this;rw[lV.mp l]at sq;~⟨a,e,sq⟩
   B3⟨a,rfl,sq0⟩:=lst r1 (K0 (D4.mp q).1);&.inl ⟨.ref a,hσ,a,U,⟨_,sq0⟩,?_⟩;&Hw Rh (λk σ2 H2=>∃cU,Rel K B cU σ2 H2∧cU[j]?=NR (.inn (.ref a) (.lst OE))∧Ae j i g (.ref a) OE ((ns.map D.int).drop k) cU=.next (env'.set j (.inn (.ref a) (.lst OE)))) ⟨_,r1,K0 (D4.mp q).1,by rw[i9];~c2⟩ (λk σ2 H2 _ ⟨cU,r2,e2,_⟩=>by
    B3⟨a',e,sq⟩:=lst r2 e2;cases e;~sq) ?_ ?_
   ·rintro k x σ2 H2 hx ⟨cU,r2,e2,f2⟩;have hk:k<ns.length:=by
     have:=(D4.mp hx).1
     rwa [B8]at this
    rw[L8 (by rw[B8];~hk)]at f2;rw[C5,B6 hk]at hx;cases hx;rw[a7]at f2;B4 Ae at f2;split at f2
    ·rename_i hlen;have r3:Rel K B (cU.set i (.fro (.int ns[k]))) (σ2.set i (NR (.int ns[k]))) H2:=by B3⟨A2,a2,b2⟩:=r2;~Il a2 b2 hlen.1 OC OC (Fz a2) (by B4 Rv;rfl)
     &hb B _ _ H2 _ r3 ?_;have fin:∀{o:SR},o=g (cU.set i (.fro (.int ns[k])))→(match o with | .next e=>Ae j i g (.ref a) OE ((ns.map D.int).drop (k+1)) e | .cont e=>Ae j i g (.ref a) OE ((ns.map D.int).drop (k+1)) e | _=>.bad)=.next (env'.set j (.inn (.ref a) (.lst OE)))→Lf K B {E with nx:=λσ3 H3=>∃cU,Rel K B cU σ3 H3∧cU[j]?=NR (.inn (.ref a) (.lst OE))∧Ae j i g (.ref a) OE ((ns.map D.int).drop (k+1)) cU=.next (env'.set j (.inn (.ref a) (.lst OE))),ct:=λσ3 H3=>∃cU,Rel K B cU σ3 H3∧cU[j]?=NR (.inn (.ref a) (.lst OE))∧Ae j i g (.ref a) OE ((ns.map D.int).drop (k+1)) cU=.next (env'.set j (.inn (.ref a) (.lst OE))),bk:=E.nx} o:=by
      intro o _ ho;have there:∀{e3:EN} {xs:List D},Ae j i g (.ref a) OE xs e3=.next (env'.set j (.inn (.ref a) (.lst OE)))→e3[j]?=NR (.inn (.ref a) (.lst OE)):=by
       intro e3 xs h3;cases xs with
       | nil=>
        B4 Ae at h3;split at h3
        ·rename_i z;~z
        ·cases h3
       | cons y ys=>
        B4 Ae at h3;split at h3
        ·rename_i z;~z.2
        ·cases h3
      cases o with
      | next e3=>~λσ3 H3 r4=>⟨e3,r4,there ho,ho⟩
      | cont e3=>~λσ3 H3 r4=>⟨e3,r4,there ho,ho⟩
      | ret d=>cases ho
      | brk d=>cases ho
      | bad=>cases ho
      | rete d e=>cases ho
     ~fin U f2
    ·cases f2
   ·rintro σ2 H2 ⟨cU,r2,e2,f2⟩;rw[B8]at f2;rw[show ns.length=(ns.map D.int).length by rw[B8],S8]at f2;B4 Ae at f2;rw[if_pos e2]at f2;injection f2 with f2;rw[f2]at r2;B3⟨r3,_⟩:=r2.aCI (K0 hj);rw[Z9,set_same c1]at r3;~p σ2 H2 r3
  ·~p.elim
 ·~p.elim
B5 GC{tg:AK}{body:List AO}(hp:EC Nl X.A X.env X.xe)(DX:X.calm=NU)(hv:PE X e (qM j))(hg:PG X tg (iZ i))(hb:YB K X body tbs g)(hs:∀x,BD e X.env x=pure x:=by intro _;rfl)(hk:X.K=K:=by rfl):YS K X (.For tg e body [] pos) (Qo (aCr K (qM j)) (iZ i) tbs) (Fd j i g):=by
 subst hk;&⟨Qq hp DX (λpins s σ H R I h=>?_) hg hb.ps hs,aFq hb.ev⟩;rcases h with h | h
 ·~uc hv pins s σ H R I h
 ·~aBJ hv pins s σ H R I h
end
end L2


namespace L2
open PySem PySem.Spec PySem.Calls PyProof.Rows PyProof.V
B5 RV{H:Hp}{p:AF}{kvs:List (List Key×V)}(h:H p=NR (.dT kvs)):wN H p:=⟨λys e=>(by rw[h]at e;cases e),λo ys e=>(by rw[h]at e;cases e)⟩
section
variable{K:aG}{B H:Hp}{env:EN}{σ:St}
B5 Rel.aLX{i:Nat}{p:List Step}{d0:D}{ks:List (List Key)}{ds:List D}(h:Rel K B env σ H)(e:env[i]?=NR (.own d0))(q:gJ p d0=NR (.dt ks ds)):∃v0 a xs Bs,σ[i]?=NR (NR v0)∧Oq H p v0=NR (.ref a)∧H a=NR (.dT (ks.zip xs))∧ks.length=xs.length∧¬Bs a∧eQ K H ds Bs xs ∧
    ∀H2 ks' ds' xs' Bn,aW H H2→ks'.length=xs'.length→eQ K H2 ds' Bn xs'→(∀b,Bn b→Bs b∨H b=none)→Rel K B (env.set i (.own (fO p d0 (.dt ks' ds')))) σ (upd H2 a (.dT (ks'.zip xs'))):=by
  B3⟨v0,w,A1,C,h1,h2,h3,h4,h5,h6⟩:=h.at e q;B4 Ow at h3;B3⟨a,xs,Bs,rfl,o2,o2',o3,o4,o5⟩:=h3;&⟨v0,a,xs,Bs,h1,h2,o2,o2',o3,o5,λH2 ks' ds' xs' Bn s hl o hb=>?_⟩;have nBa:¬Bn a:=λz=>(hb a z).elim o3 λz=>by rw[o2]at z;cases z
  have hC:∀x,C x→¬x=a:=λx z y=>h4 x ((o4 x).mpr (.inl y)) z;have Wd:H2 a=NR (.dT (ks.zip xs)):=s a _ o2;&h6 _ (.dt ks' ds') (gG (·=a) Bn) (λx z1 z2=>?_) (λx z=>?_) (s.tk.trans (uJ (RV Wd))) ?_ (λx u ex=>?_)
  · rcases z1 with z1 | z1
    · ~hC x z2 z1
    · rcases hb x z1 with z | z
      · ~h4 x ((o4 x).mpr (.inr z)) z2
      · B3⟨⟨u,eu⟩,_⟩:=h5 x z2
        rw[z]at eu;cases eu
  · B3⟨⟨u,eu⟩,_⟩:=h5 x z
    rw[bQ (hC x z),eu,s x u eu]
  · B4 Ow
    &⟨a,xs',Bn,U,cA,hl,nBa,λ_=>Iff.rfl,eQ.frame (uJ (RV Wd)) _ _ _ o λx zx=>bQ λy=>nBa (y▸zx)⟩
  · B3⟨e1,e2⟩:=bF.mp ex
    have na:x≠a:=λy=>e1 (.inl ((o4 x).mpr (.inl y)));&bF.mpr ⟨λz=>?_,by rw[bQ na];~s x u e2⟩;rcases z with (z | z) | z
    · ~na z
    · rcases hb x z with z | z
      · ~e1 (.inl ((o4 x).mpr (.inr z)))
      · rw[z]at e2;cases e2
    · ~e1 (.inr z)
end
def RW:List D→Option (List Key)
 | []=>NR []
 | d::ds=>(Wa d).bind λk=>(RW ds).map λr=>k::r
B5 RX{K:aG}{H:Hp}:∀{ds:List D} {ks:List Key} {vs:List V},RW ds=NR ks→eO K H ds vs→vs=ks.map kV
 | [],ks,vs,h,r=>by
  B4 RW at h;cases h;B4 eO at r;~r
 | d::ds,ks,vs,h,r=>by B4 RW at h;B3⟨k,h1,h2⟩:=aZ h;B3⟨ks',h3,rfl⟩:=kJ h2;B4 eO at r;B3⟨y,ys,rfl,r1,r2⟩:=r;rw[Pn h1 r1,RX h3 r2];rfl
abbrev FK:=DE→Option (List Key)
def EvK(K:aG)(t:TE)(fk:FK):Prop:=∀(σ:St)(H:Hp)(e:DE)(k:List Key)(Q:VK),yE K H e σ→fk e=NR k→(∀b H',aW H H'→H' b=NR (.tup (k.map kV))→Q (.ref b) H')→t σ H Q
structure XKt(K:aG)(X:Cx)(e:AK)(t:TE)(fk:FK):Prop where
 hk:X.K=K
 pe:PE X e t
 ev:EvK K t fk
section
variable{K:aG}{X:Cx}{st:AO}{e a b c o:AK}{es rest:List AK}{te ta tb tc t0 tv:TE}{f fa fb:FE}{g:FK}{gd:FE}{tA:TA}{fs:FA}{pos apos:Pos}{i j:Nat}{π:FP}{tbs:TS}
def Lk(fs:FA):FK:=λe=>(fs e).bind λds=>if ds.length≤100 then RW ds else none
B5 Ti{x1:Nat}(h:XA K X es tA fs):XKt K X (.Tuple es x1 pos) (PJ tA) (Lk fs):=⟨h.hk,cu h.pa,λσ H e k Q re q kk=>by
 B3⟨ds,q1,q2⟩:=aZ q;split at q2
 ·rename_i hl;&h.ev σ H H e ds _ OW re q1 λvs H1 Z1 s1 t1 z1 rvs=>⟨Xl (by rw[rvs.length];omega),λp hp=>kk p _ (s1.trans (cR hp _)) ?_⟩
  rw[cA,RX q2 rvs]
 ·cases q2⟩
def Wf(neg:Bool)(fk:FK)(f:FE):FE:=λe=>(fk e).bind λk=>(f e).bind λd=>match d with
 | .dt ks _=>NR (.bl (if neg then !(posK ks k).isSome else(posK ks k).isSome))
 | _=>none
B5 jg{ks:List (List Key)}{xs:List V}{k:List Key}(h:ks.length=xs.length):(xZ (ks.zip xs) k).isSome=(posK ks k).isSome:=by
 rw[uH h];cases q:posK ks k with
 | none=>rfl
 | some j=>B3⟨h1,h2⟩:=tD q;rw[C4,B6 A6];rfl
B5 aIp{neg:Bool}{d:D}{σ:St}{H:Hp}{e:DE}{Q:VK}(ha:EvK K ta g)(hb:Ko K tb f)(re:yE K H e σ)(q:Wf neg g f e=NR d)(k:∀v H',aW H H'→Rp K H H' d v→Q v H') :
  ta σ H λy H1=>tb σ H1 λx H2=>∃a o,x=.ref a∧Rc H2 a y o∧Q (.bl (if neg then !o.isSome else o.isSome)) H2:=by
 B3⟨kk,q1,q⟩:=aZ q;B3⟨d1,q2,q⟩:=aZ q;split at q
 ·rename_i ks ds;cases q;&ha σ H e kk _ re q1 λbb H1 s1 hb1=>hb σ H1 H1 e _ _ (Zn.self K H1) (re.same s1) q2 λx H2 Z2 s2 t2 z2 rx=>?_;have rx:=z2.sm.rv _ _ rx;B4 Rv at rx;B3⟨p,xs,r1,r2,r3,r4⟩:=rx;&⟨p,xZ (ks.zip xs) kk,r1,.inr ⟨_,kk,bb,r2,U,s2 _ _ hb1,U⟩,?_⟩;rw[jg r3];~k _ H2 OS OB
 ·cases q
B5 aFr(hu:X.A.units+1<BG)(ha:XKt K X a ta g)(hb:XR K X b tb f)(h1:behindInMarks .In b=NV:=by first | ~nobehind _ A8 A8 | rfl):XN K X (.Compare a [.In] [b] pos) (aEK ta tb) (Wf NV g f):=
 ⟨ha.hk,au (dm hu ha.pe hb.pe) h1,λσ H e d Q re q k=>aIp (neg:=NV) ha.ev hb.ev re q k⟩
B5 xu(hu:X.A.units+1<BG)(ha:XKt K X a ta g)(hb:XR K X b tb f)(h1:behindInMarks .In b=NV:=by first | ~nobehind _ A8 A8 | rfl):XT K X (.Compare a [.In] [b] pos) (tB (aEK ta tb)) (fB (Wf NV g f)):=aGr (aFr hu ha hb h1) (dm hu ha.pe hb.pe) h1
def Tj(f:FE)(fk:FK):FE:=λe=>(f e).bind λd=>(fk e).bind λk=>match d with
 | .dt ks ds=>(posK ks k).bind λj=>(ds[j]?).bind λr=>if r.jH=NU then NR r else none
 | _=>none
B5 RZ(hu:X.A.units+1<BG)(ha:XR K X a ta f)(hb:XKt K X b tb g)(hs:aHD b):XN K X (.Subscript a b pos) (aGm ta tb) (Tj f g):=
 ⟨ha.hk,aEL hu ha.pe hb.pe hs,λσ H e d Q re q k=>by
  B3⟨d1,q1,q⟩:=aZ q;B3⟨kk,q2,q⟩:=aZ q;split at q
  ·rename_i ks ds;B3⟨j,q3,q⟩:=aZ q;B3⟨r,q4,q⟩:=aZ q;split at q
   ·rename_i im;cases q;&ha.ev σ H H e _ _ OW re q1 λx H1 Z1 s1 t1 z1 rx=>hb.ev σ H1 e kk _ (re.same s1) q2 λbb H2 s2 hb2=>?_;have rx:=s2.rv _ _ (z1.sm.rv _ _ rx);B4 Rv at rx;B3⟨p,xs,r1,r2,r3,r4⟩:=rx;B3⟨v,e1,e2⟩:=r4.get q4;&⟨p,v,r1,.inr ⟨_,kk,bb,r2,U,hb2,?_⟩,k v H2 OS (.jH im e2)⟩;rw[uH r3,q3,C4,e1]
   ·cases q
  ·cases q⟩
B5 aCT(hk:X.K=K:=by rfl):XN K X (.Dict [] [] pos) aB3 (fC (.dt [] [])):=⟨hk,aB5,λσ H e d Q re q k=>by
 cases q;intro p hp;&k _ _ (cR hp _) ⟨(·=p),?_,λa q=>by cases q;~hp⟩;B4 Ow;~⟨p,[],nil,U,cA,U,λz=>z,λx=>⟨.inl,λz=>z.elim id False.elim⟩,by B4 eQ;~⟨λ_ z=>z,U⟩⟩⟩
def Yd(i:Nat)(π:FP)(g:FK)(f:FE):GS:=λenv=>match env[i]?,π (rE env),g (rE env),f (rE env)with
 | some (.own d0),NR p,NR k,NR d=>(match gJ p d0 with
  | some (.dt ks ds)=>if d.jH=NU∧ks.length<100000 then .next (env.set i (.own (fO p d0 (.dt (mH ks k) (putD ks ds k d)))))else .bad
  | _=>.bad)
 | _,_,_,_=>.bad
B5 SJ{H:Hp}{d:D}{v:V}(o:Ow K H d nil v)(k:List Key):∀{ks:List (List Key)} {ds:List D} {A:Fp} {xs:List V},ks.length=xs.length→eQ K H ds A xs→∃A',(∀x,A' x→A x)∧eQ K H (R9 (λk' d'=>if k'=k then d else d') ks ds) A' (R9 (λk' d'=>if k'=k then v else d') ks xs)
 | [],ds,A,xs,hl,h=>by
  cases xs with
  | nil=>~⟨nil,λ_ z=>z.elim,by rw[S0,S0];B4 eQ;~⟨λ_ z=>z,U⟩⟩
  | cons x xs=>simp at hl
 | k0::ks,[],A,xs,hl,h=>by B4 eQ at h;rw[h.2]at hl;simp at hl
 | k0::ks,d0::ds,A,xs,hl,h=>by
  B4 eQ at h;B3⟨y,yt,A1,A2,rfl,h2,h3,h4,h5⟩:=h;B3⟨A',a1,a2⟩:=SJ o k (by simpa using hl) h5;by_cases c:k0=k
  ·&⟨A',λx q=>(h3 x).mpr (.inr (a1 x q)),?_⟩;rw[K1,K1,if_pos c,if_pos c];B4 eQ;~⟨v,_,nil,A',U,λ_ z=>z.elim,λx=>⟨.inr,λz=>z.elim False.elim id⟩,o,a2⟩
  ·&⟨gG A1 A',λx q=>(h3 x).mpr (q.imp id (a1 x)),?_⟩;rw[K1,K1,if_neg c,if_neg c];B4 eQ;~⟨y,_,A1,A',U,λx z1 z2=>h2 x z1 (a1 x z2),λ_=>Iff.rfl,h4,a2⟩
B5 aFs(h:EvP K ta i π)(hx:EvK K tb g)(he:Ko K te f):DSs K (Hv ta tb te) (Yd i π g f):=λB E σ H env r p=>by
 B4 Yd at p;split at p
 ·rename_i d0 pp k d q1 q2 q3 q3';split at p
  ·rename_i ks ds q4;split at p
   ·rename_i hc;B3⟨v0,a,xs,Bs,k1,k2,k3,k3',k4,k5,k6⟩:=r.aLX q1 q4;&he σ H H (rE env) d _ OW r.r q3' λy H1 Z1 s1 t1 z1 ry=>?_;&h σ H1 (rE env) v0 pp _ _ (r.r.same s1) k1 q2 (Bd s1 k2) λH2 s2=>hx σ H2 (rE env) _ _ (r.r.same OS) q3 λbb H3 s3 hb3=>?_;have Sq:=s1.trans (s2.trans s3);have o:Ow K H3 d nil y:=Ay d y hc.1 ((z1.sm.trans (s2.trans s3)).rv _ _ ry);&⟨a,_,U,.inr ⟨ks.zip xs,k,bb,Sq _ _ k3,U,hb3,Nt (by rw[T9];omega),U⟩,p _ ?_⟩;rw[QL k3'];have ow3:=k5.same Sq;by_cases c:(posK ks k).isSome=NU
    ·B3⟨A',a1,a2⟩:=SJ o k k3' ow3;&k6 H3 (mH ks k) (putD ks ds k d) (putD ks xs k y) A' Sq (wQ k3') ?_ λb z=>.inl (a1 b z);B4 putD;rw[if_pos c,if_pos c];~a2
    ·&k6 H3 (mH ks k) (putD ks ds k d) (putD ks xs k y) (gG Bs nil) Sq (wQ k3') ?_ λb z=>z.elim .inl False.elim;B4 putD;rw[if_neg c,if_neg c];~cQ.mpr ((cQ.mp ow3).snoc o λ_ _ z=>z)
   ·~p.elim
  ·~p.elim
 ·~p.elim
def aLZ(K:aG)(t:TA)(fs:FA)(i:Nat):Prop:=∀(σ:St)(H:Hp)(e:DE)(ds:List D)(v:V)(Q:List V→Hp→Prop),yE K H e σ→fs e=NR ds→σ[i]?=NR (NR v)→(∀vs H',aW H H'→Vz K H H' ds vs→Q (vs++[v]) H')→t σ H Q
structure XBm(K:aG)(X:Cx)(es:List AK)(t:TA)(fs:FA)(i:Nat):Prop where
 hk:X.K=K
 pa:PA X es t
 ev:aLZ K t fs i
end
end L2


namespace L2
open PySem PySem.Spec PySem.Calls PyProof.Rows PyProof.V
section
variable{K:aG}{X:Cx}{st:AO}{e a b c o:AK}{es rest:List AK}{te ta tb tc t0 tv:TE}{f fa fb g:FE}{gk:FK}{gd:FE}{tA:TA}{fs:FA}{pos apos:Pos}{i j:Nat}{π:FP}{tbs:TS}{gm:GM}
def gmN(f:FE):GM:=λenv=>(f (rE env)).map λd=>(d,env)
B5 aFt(h:XN K X e te f):XM K X e te (gmN f):=aLU h
B5 Dr(h:XR K X e te f)(hs:DO e none pos.line X.env=pure NV:=by rfl):YS K X (.Expr e pos) (oV te) (zU f):=⟨kY h.pe hs,aE8 h.ev⟩
B5 pD{C:AF}{nm0:List Str}{x:Str}{pos':Pos}(F:kW K C nm0)(hx:x∈nm0)(h:XP K X a ta i π)(he:XN K X e te f)(hs:DO e (NR (.Attribute a x pos')) pos.line X.env=pure NV:=by rfl):YS K X (.Assign [.Attribute a x pos'] e pos) (aHt K ta te x) (jW i (wV C i π x f)):=⟨by have:=h.hk;subst this;~aHu h.pe he.pe hs,(aCL (aIn F hx h.ev he.ev)).ds⟩
B5 Qa{m:Str}{apos cpos:Pos}(h:XP K X a ta i π)(he:XN K X e te f)(hp:PE X a ta→PE X e te→PS X (.Expr (.Call (.Attribute a m apos) [e] [] cpos) pos) (oV (Qx K "list" pC ta (dF te oX)))):YS K X (.Expr (.Call (.Attribute a m apos) [e] [] cpos) pos) (oV (Qx K "list" pC ta (dF te oX))) (jW i (vA i π f)):=Ge i (hp h.pe he.pe) (aCz h.ev he.ev)
B5 SM{pos':Pos}(h:XP K X a ta i π)(hx:XR K X b tb g)(he:XN K X e te f)(hp:PE X a ta→PE X b tb→PE X e te→PS X OX (xX te (aAd ta tb Xe))):YS K X OX (xX te (aAd ta tb Xe)) (jW i (wU i π g f)):=Ge i (hp h.pe hx.pe he.pe) (vp h.ev hx.ev he.ev)
B5 Iz{pos':Pos}(h:XP K X a ta i π)(hx:XR K X b tb g)(he:XR K X e te f)(hp:PE X a ta→PE X b tb→PE X e te→PS X OX (Hv ta tb te)):YS K X OX (Hv ta tb te) (jW i (sX i π g f)):=Ge i (hp h.pe hx.pe he.pe) (vy h.ev hx.ev he.ev)
B5 aCU{pos':Pos}(h:XP K X a ta i π)(hx:XKt K X b tb gk)(he:XR K X e te f)(hp:PE X a ta→PE X b tb→PE X e te→PS X OX (Hv ta tb te)):YS K X OX (Hv ta tb te) (jW i (Yd i π gk f)):=Ge i (hp h.pe hx.pe he.pe) (aFs h.ev hx.ev he.ev)
end
end L2
namespace L2
open PySem PySem.Spec PySem.Calls PyProof.Rows PyProof.V
def D.SN:D→Bool
 | .non=>NU
 | _=>NV
B5 SQ{K:aG}{H:Hp}{d:D}{v:V}(r:Rv K H d v):decide (v=.non)=d.SN:=by
 cases d with
 | non=>B4 Rv at r;subst r;rfl
 | bl b=>B4 Rv at r;subst r;rfl
 | int b=>B4 Rv at r;subst r;rfl
 | str b=>B4 Rv at r;subst r;rfl
 | lst ds=>B4 Rv at r;B3⟨a,xs,rfl,_⟩:=r;rfl
 | tup ds=>B4 Rv at r;B3⟨a,xs,rfl,_⟩:=r;rfl
 | dk ks ds=>B4 Rv at r;B3⟨a,xs,rfl,_⟩:=r;rfl
 | dt ks ds=>B4 Rv at r;B3⟨a,xs,rfl,_⟩:=r;rfl
 | ins C nm ds=>B4 Rv at r;B3⟨a,dx,xs,rfl,_⟩:=r;rfl
def Ja(neg:Bool)(a b:D):Option D:=match b with
 | .non=>NR (.bl (if neg then !a.SN else a.SN))
 | _=>none
B5 jh{K:aG}:MN K (λx y H Q=>y=.non∧Q (.bl (decide (x=.non))) H) (Ja NV):=λx y H a b d Q ra rb q k=>by
 B4 Ja at q;split at q
 ·cases q;B4 Rv at rb;&⟨rb,?_⟩;rw[SQ ra];~k _ H OC OB
 ·cases q
B5 Ln{K:aG}:MN K (λx y H Q=>y=.non∧Q (.bl (!decide (x=.non))) H) (Ja NU):=λx y H a b d Q ra rb q k=>by
 B4 Ja at q;split at q
 ·cases q;B4 Rv at rb;&⟨rb,?_⟩;rw[SQ ra];~k _ H OC OB
 ·cases q
end L2


namespace L2
open PySem PySem.Spec PySem.Calls PyProof.Rows PyProof.V
section
variable{K:aG}{X:Cx}{e stx:AK}{te ts:TE}{f g:FE}{pos p2:Pos}
end
end L2


namespace L2
open PySem PySem.Spec PySem.Calls PyProof.Rows PyProof.V
abbrev FE2:=DE→DE→Option D
def EvZ(K:aG)(t:TE)(f:FE2):Prop:=∀{N:Fp}(σ:St)(H Z:Hp)(eF eZ:DE)(d:D)(Q:VK),Zn K N Z H→yE K H eF σ→yE K Z eZ σ→f eF eZ=NR d →
 (∀v H' Z',aW H H'→aW Z Z'→Zn K N Z' H'→Rv K Z' d v→Q v H')→t σ H Q
def aL0(K:aG)(t:TA)(f:FA2):Prop:=∀{N:Fp}(σ:St)(H Z:Hp)(eF eZ:DE)(ds:List D)(Q:List V→Hp→Prop),Zn K N Z H→yE K H eF σ→yE K Z eZ σ→f eF eZ=NR ds →
 (∀vs H' Z',aW H H'→aW Z Z'→Zn K N Z' H'→eO K Z' ds vs→Q vs H')→t σ H Q
structure XZ(K:aG)(X:Cx)(e:AK)(t:TE)(f:FE2):Prop where
 hk:X.K=K
 pe:PE X e t
 ev:EvZ K t f
structure XZA(K:aG)(X:Cx)(es:List AK)(t:TA)(f:FA2):Prop where
 hk:X.K=K
 pa:PA X es t
 ev:aL0 K t f
section
variable{K:aG}{X:Cx}{e a b:AK}{es:List AK}{te ta tb:TE}{f:FE}{g h:FE2}{tA:TA}{fs:FA2}{pos:Pos}{i:Nat}
def faZ(g:FE2)(fs:FA2):FA2:=λeF eZ=>(g eF eZ).bind λd=>(fs eF eZ).map λr=>d::r
def aM1(fs:FA2):FE2:=λeF eZ=>(fs eF eZ).bind λds=>cap ds.length (.lst ds)
def aKh(a b:D):Option D:=match a,b with
 | .lst x,.lst y=>if x.length+y.length≤100000 then NR (.lst (x++y))else none
 | _,_=>none
def aM2(g h:FE2):FE2:=λeF eZ=>(g eF eZ).bind λa=>(h eF eZ).bind λb=>aKh a b
def aL1(js:List Nat)(i:Nat)(g:FE2):GS:=λenv=>match g (rE (Al js env)) (zE (Al js env))with
 | some d=>if i<(Al js env).length then .next ((Al js env).set i (.fro d))else .bad
 | none=>.bad
end
end L2


namespace L2
open PySem PySem.Spec PySem.Calls PyProof.Rows PyProof.V
inductive Ar where
  | ch (i:Nat) | rd (f:FE) | nw (f:FE)
def chA:List Ar→List Nat
 | []=>[]
 | .ch i::as=>i::chA as
 | .rd _::as=>chA as
 | .nw _::as=>chA as
def rB:List Ar→List Bool
 | []=>[]
 | .ch _::as=>NU::rB as
 | .rd _::as=>NV::rB as
 | .nw _::as=>NV::rB as
def rdA:List Ar→DE→DE→Option (List D)
 | [],_,_=>NR []
 | .ch _::as,eF,eZ=>rdA as eF eZ
 | .rd f::as,eF,eZ=>(f eZ).bind λd=>(rdA as eF eZ).map λr=>d::r
 | .nw f::as,eF,eZ=>(f eF).bind λd=>(rdA as eF eZ).map λr=>d::r
def wG:List Bool→List D→List D→List D
 | true::m,c::cs,rs=>c::wG m cs rs
 | false::m,cs,r::rs=>r::wG m cs rs
 | _,_,_=>[]
def aA0:List Bool→List V→List V
 | true::m,v::vs=>v::aA0 m vs
 | false::m,_::vs=>aA0 m vs
 | _,_=>[]
def aCV:List Bool→List D→List V→EN
 | true::m,d::ds,v::vs=>.inn v d::aCV m ds vs
 | false::m,d::ds,_::vs=>.fro d::aCV m ds vs
 | _,_,_=>[]
def SX(K:aG)(Z:Hp)(σ:St):List Ar→List D→List V→Prop
 | [],ds,vs=>ds=[]∧vs=[]
 | .ch i::as,ds,vs=>∃v r,vs=v::r∧σ[i]?=NR (NR v)∧SX K Z σ as ds r
 | .rd _::as,ds,vs=>∃d dr v r,ds=d::dr∧vs=v::r∧Rv K Z d v∧SX K Z σ as dr r
 | .nw _::as,ds,vs=>∃d dr v r,ds=d::dr∧vs=v::r∧Rv K Z d v∧SX K Z σ as dr r
def VsA(σ:St):List Nat→List V→Prop
 | [],vs=>vs=[]
 | j::js,vs=>∃v r,vs=v::r∧σ[j]?=NR (NR v)∧VsA σ js r
def takes:List Nat→EN→Option (List D×EN)
 | [],env=>NR ([],env)
 | j::js,env=>(env[j]?.bind SD.hold).bind λdb=>(takes js (env.set j .no)).map λde=>(db.1::de.1,de.2)
def Wg:List Nat→List D→EN→EN
 | j::js,d::ds,env=>(match env[j]?.bind SD.hold with
  | some db=>(Wg js ds (env.set j .no)).set j (db.2 d)
  | none=>env)
 | _,_,env=>env
section
variable{K:aG}{X:Cx}{e:AK}{es:List AK}{te:TE}{f:FE}{tA:TA}{as:List Ar}{pos:Pos}{i:Nat}
def aL2(K:aG)(t:TA)(as:List Ar):Prop:=∀(A1:Fp)(σ:St)(H:Hp)(eF eZ:DE)(ds:List D)(cv:List V)(Q:List V→Hp→Prop),(∀x,A1 x→oG H x)→yE K H eF σ→yE K (out H A1) eZ σ→VsA σ (chA as) cv→rdA as eF eZ=NR ds →
 (∀vs H',aW H H'→SX K (out H' A1) σ as ds vs→Q vs H')→t σ H Q
structure XAC(K:aG)(X:Cx)(es:List AK)(t:TA)(as:List Ar):Prop where
 hk:X.K=K
 pa:PA X es t
 ev:aL2 K t as
B5 aFv(hk:X.K=K:=by rfl):XAC K X [] oX []:=⟨hk,jE,λA1 σ H eF eZ ds cv Q c re rz va q k=>by
 cases q;~k [] H OC ⟨U,U⟩⟩
B5 aCW{y:Str}{py:Pos}(hv:PE X (.Name y py) (qM i))(hs:XAC K X es tA as)(hst:AJ (.Name y py::es) X.env=(NV,AU (.Name y py) X.env)::AJ es X.env:=by rfl):XAC K X (.Name y py::es) (dF (qM i) tA) (.ch i::as):=⟨hs.hk,cZ hv hs.pa hst,λA1 σ H eF eZ ds cv Q c re rz va q k=>by
 B3⟨v,r,rfl,h1,h2⟩:=va;~⟨v,h1,hs.ev A1 σ H eF eZ ds r _ c re rz h2 q λvs H' s a=>k (v::vs) H' s ⟨v,vs,U,h1,a⟩⟩⟩
B5 aKi(h:XR K X e te f)(hs:XAC K X es tA as)(hst:AJ (e::es) X.env=(NV,AU e X.env)::AJ es X.env:=by rfl):XAC K X (e::es) (dF te tA) (.rd f::as):=⟨h.hk,cZ h.pe hs.pa hst,λA1 σ H eF eZ ds cv Q c re rz va q k=>by
 B3⟨d,q1,q2⟩:=aZ q;B3⟨ds',q3,rfl⟩:=kJ q2;&h.ev σ H (out H A1) eZ d _ (aCN c) rz q1 λv H1 Z1 s1 t1 z1 rv=>?_;&hs.ev A1 σ H1 eF eZ ds' cv _ (λx q=>(c x q).same s1) (re.same s1) (rz.same (bT s1 λx q=>.inl q)) va q3 λvs H2 s2 rvs=>?_;~k (v::vs) H2 OS ⟨d,ds',v,vs,U,U,((aGF z1).trans (bT s2 λx q=>.inl q)).rv _ _ rv,rvs⟩⟩
end
section
variable{K:aG}{H H' Z Z' B:Hp}{σ:St}
B5 xx:∀(js:List Nat)(ds:List D)(env:EN)(p:List D×EN)(j:Nat),takes js env=NR p→env[j]?=NR .no→(Wg js ds env)[j]?=NR .no
 | [],ds,env,p,j,_,h=>by B4 Wg;~h
 | i::js,[],env,p,j,_,h=>by B4 Wg;~h
 | i::js,d::ds,env,p,j,q,h=>by
  B4 takes at q;B3⟨db,q1,q2⟩:=aZ q;B3⟨de,q3,_⟩:=kJ q2;have ne:i≠j:=λz=>by subst z;rw[h]at q1;cases q1
  B4 Wg;rw[q1];dsimp only;rw[G8,if_neg ne];~xx js ds _ _ j q3 (by rw[G8,if_neg ne];~h)
B5 fY.fp{α β:Type}{R:α→Fp→β→Prop}{ds:List α}{A A':Fp}{ys:List β}(h:fY R ds A ys)(e:Is A A'):fY R ds A' ys:=by have:A=A':=funext λx=>propext (e x);rw[←this];~h
B5 TF:∀(js:List Nat)(env:EN)(A:Fp)(ds:List D)(e0:EN),fY (gY K H Z) env A σ→takes js env=NR (ds,e0)→∃A0 A1 vs,Apart A0 A1∧Is A (gG A0 A1)∧fY (gY K H Z) e0 A0 σ∧eQ K H ds A1 vs∧VsA σ js vs ∧
    ∀(H' Z':Hp)(ds':List D)(A0' ZZ:Fp),fY (gY K H' Z') e0 A0' σ→eQ K H' ds' ZZ vs→Apart A0' ZZ→fY (gY K H' Z') (Wg js ds' env) (gG A0' ZZ) σ
  | [],env,A,ds,e0,h,q=>by
    cases q;&⟨A,nil,[],λ_ _ z=>z,λx=>⟨.inl,λz=>z.elim id False.elim⟩,h,by B4 eQ;~⟨λ_ z=>z,U⟩,U,λH' Z' ds' A0' ZZ s o ap=>?_⟩;cases ds' with
    | nil=>B4 eQ at o;B4 Wg;~s.fp λx=>⟨.inl,λz=>z.elim id λz=>absurd z (o.1 x)⟩
    | cons d dr=>
      B4 eQ at o;B3⟨y,yt,_,_,z,_⟩:=o;cases z
  | j::js,env,A,ds,e0,h,q=>by
    B4 takes at q;B3⟨db,q1,q2⟩:=aZ q;B3⟨⟨dr,e1⟩,q3,q4⟩:=kJ q2;cases q4;B3⟨s,e,hs⟩:=aZ q1;B3⟨y,A1,C,h1,h2,h3,h4,k⟩:=h.focus e;have key:∃v,y=NR v∧Ow K H db.1 A1 v∧∀(H' Z':Hp)(d':D)(A':Fp),Ow K H' d' A' v→gY K H' Z' (db.2 d') A' (NR v):=by
      cases s with
      | no=>cases hs
      | fro d=>cases hs
      | own d=>cases hs;B3⟨v,rfl,o⟩:=h4;~⟨v,U,o,λH' Z' d' A' o'=>⟨v,U,o'⟩⟩
      | inn v d=>cases hs;B3⟨rfl,o⟩:=h4;~⟨v,U,o,λH' Z' d' A' o'=>⟨U,o'⟩⟩
    B3⟨v,rfl,o,bk⟩:=key;have s0:=k _ (λ_ _ _ _ q=>q) .no (NR v) nil (λ_ z=>z.elim) (λ_ z=>z);rw[set_same h1]at s0;B3⟨A0,A1r,vs,k1,k2,k3,k4,k5,k6⟩:=TF js (env.set j .no) _ dr e1 s0 q3;have hC:∀x,C x↔A0 x∨A1r x:=λx=>⟨λz=>(k2 x).mp (.inr z),λz=>((k2 x).mpr z).elim False.elim id⟩
    &⟨A0,gG A1 A1r,v::vs,λx z1 z2=>z2.elim (λz=>h2 x z ((hC x).mpr (.inl z1))) (k1 x z1),λx=>?_,k3,?_,⟨v,vs,U,h1,k5⟩,λH' Z' ds' A0' ZZ s' o' ap=>?_⟩
    · rw[h3 x]
      constructor
      · rintro(z | z)
        · ~.inr (.inl z)
        · ~((hC x).mp z).elim .inl λz=>.inr (.inr z)
      · rintro(z | z | z)
        · ~.inr ((hC x).mpr (.inl z))
        · ~.inl z
        · ~.inr ((hC x).mpr (.inr z))
    · B4 eQ
      ~⟨v,vs,A1,A1r,U,λx z1 z2=>h2 x z1 ((hC x).mpr (.inr z2)),λx=>Iff.rfl,o,k4⟩
    · cases ds' with
      | nil=>
        B4 eQ at o';cases o'.2
      | cons d' dr'=>
        B4 eQ at o';B3⟨y',yt,Aj,Ar',z1,a1,a2,o1,o2⟩:=o';cases z1;have s1:=k6 H' Z' dr' A0' Ar' s' o2 λx w1 w2=>ap x w1 ((a2 x).mpr (.inr w2));have n1:=xx js dr' (env.set j .no) _ j q3 (K0 (D4.mp e).1);B3⟨y2,Bx,C2,f1,f2,f3,f4,f5⟩:=s1.focus n1;have f4:∀x,¬Bx x:=f4;have hC2:∀x,C2 x↔A0' x∨Ar' x:=λx=>⟨λz=>(f3 x).mpr (.inr z),λz=>((f3 x).mp z).elim (λw=>absurd w (f4 x)) id⟩
        have s2:=f5 _ (λ_ _ _ _ q=>q) (db.2 d') (NR v) Aj (λx w1 w2=>((hC2 x).mp w2).elim (λw=>ap x w ((a2 x).mpr (.inl w1))) (a1 x w1)) (bk H' Z' d' Aj o1);rw[set_same h1]at s2;B4 Wg;rw[q1];dsimp only;&s2.fp λx=>?_;constructor
        · rintro(z | z)
          · ~.inr ((a2 x).mpr (.inl z))
          · ~((hC2 x).mp z).elim .inl λz=>.inr ((a2 x).mpr (.inr z))
        · rintro(z | z)
          · ~.inr ((hC2 x).mpr (.inl z))
          · ~((a2 x).mp z).elim .inl λz=>.inr ((hC2 x).mpr (.inr z))
B5 Ds:∀(as:List Ar)(Qc TJ:List D)(A:Fp)(yc vs:List V),eQ K H Qc A yc→VsA σ (chA as) yc→SX K Z σ as TJ vs→fY (gY K H Z) (aCV (rB as) (wG (rB as) Qc TJ) vs) A (vs.map NR)∧aA0 (rB as) vs=yc∧(wG (rB as) Qc TJ).length=(rB as).length∧vs.length=(rB as).length
 | [],Qc,TJ,A,yc,vs,o,va,ar=>by
  B3⟨rfl,rfl⟩:=ar;have va:yc=[]:=va;subst va;cases Qc with
  | nil=>B4 eQ at o;~⟨⟨o.1,U⟩,U,U,U⟩
  | cons d dr=>B4 eQ at o;B3⟨_,_,_,_,z,_⟩:=o;cases z
 | .ch i::as,Qc,TJ,A,yc,vs,o,va,ar=>by
  B3⟨v,r,rfl,h1,h2⟩:=va;B3⟨v',r',rfl,g1,g2⟩:=ar;rw[h1]at g1;cases g1;cases Qc with
  | nil=>B4 eQ at o;cases o.2
  | cons d dr=>
   B4 eQ at o;B3⟨y,yt,A1,A2,z,a1,a2,o1,o2⟩:=o;cases z;B3⟨m1,m2,m3,m4⟩:=Ds as dr TJ A2 r r' o2 h2 g2;~⟨⟨NR v,r'.map NR,A1,A2,U,a1,a2,⟨U,o1⟩,m1⟩,congrArg (v::·) m2,congrArg (·+1) m3,congrArg (·+1) m4⟩
 | .rd f::as,Qc,TJ,A,yc,vs,o,va,ar=>by
  B3⟨d,dr,v,r,rfl,rfl,g1,g2⟩:=ar;B3⟨m1,m2,m3,m4⟩:=Ds as Qc dr A yc r o va g2;have e:wG (rB (.rd f::as)) Qc (d::dr)=d::wG (rB as) Qc dr:=by cases Qc<;>rfl
  rw[e];~⟨⟨NR v,r.map NR,nil,A,U,λ_ z=>z.elim,λx=>⟨.inr,λz=>z.elim False.elim id⟩,⟨λ_ z=>z,v,U,g1⟩,m1⟩,m2,congrArg (·+1) m3,congrArg (·+1) m4⟩
 | .nw f::as,Qc,TJ,A,yc,vs,o,va,ar=>by
  B3⟨d,dr,v,r,rfl,rfl,g1,g2⟩:=ar;B3⟨m1,m2,m3,m4⟩:=Ds as Qc dr A yc r o va g2;have e:wG (rB (.nw f::as)) Qc (d::dr)=d::wG (rB as) Qc dr:=by cases Qc<;>rfl
  rw[e];~⟨⟨NR v,r.map NR,nil,A,U,λ_ z=>z.elim,λx=>⟨.inr,λz=>z.elim False.elim id⟩,⟨λ_ z=>z,v,U,g1⟩,m1⟩,m2,congrArg (·+1) m3,congrArg (·+1) m4⟩
B5 aKj{A A0 A1:Fp}{e0:EN}(h:fY (gY K H (out H A)) e0 A0 σ)(h0:Apart A0 A1)(hA:∀x,A1 x→A x)(c:∀x,A1 x→oG H x):yE K (out H A1) (rE e0) σ:=λj d q=>by
 B4 rE at q;rw[C5]at q;cases ej:e0[j]? with
 | none=>rw[ej]at q;cases q
 | some sd=>
  rw[ej]at q;B3⟨y,Ak,Ck,f1,f2,f3,f4,_⟩:=h.focus ej;have apk:Apart Ak A1:=λx z1 z2=>h0 x ((f3 x).mpr (.inl z1)) z2;cases sd with
  | no=>cases q
  | fro d1=>
   cases q;B3⟨_,v1,rfl,f5⟩:=f4;~⟨v1,f1,(bT OC λx q=>.inl (hA x q):aW (out H A) (out H A1)).rv _ _ f5⟩
  | own d1=>
   cases q;B3⟨v1,rfl,f5⟩:=f4;~⟨v1,f1,f5.out apk λx q=>(c x q).2⟩
  | inn v1 d1=>cases q;B3⟨rfl,f5⟩:=f4;~⟨v1,f1,f5.out apk λx q=>(c x q).2⟩
end
def spG(K:aG)(mask:List Bool)(F:List D→Option (D×List D)):Sp:=λvs H Q _=>∃A ds r ds',ds.length=mask.length∧vs.length=mask.length∧fY (gY K H (out H A)) (aCV mask ds vs) A (vs.map NR)∧F ds=NR (r,ds')∧∀w H' A' A2,eQ K H' ds' A' (aA0 mask vs)→Ow K H' r A2 w→Apart A' A2→aW (out H A) (out H' (gG A' A2))→Q w H'
def TQ(as:List Ar)(F:List D→Option (D×List D)):GM:=λenv=>(takes (chA as) env).bind λce=>(rdA as (rE env) (rE ce.2)).bind λTJ=>(F (wG (rB as) ce.1 TJ)).map λrd=>(rd.1,Wg (chA as) rd.2 env)
section
variable{K:aG}{X:Cx}{e:AK}{es:List AK}{tA:TA}{as:List Ar}{pos pf:Pos}
B5 aFw{x:Str}{k n:Nat}{mask:List Bool}{F:List D→Option (D×List D)}(C:oF X.prog X.w X.K X.mg X.base x k n (spG K mask F))(hm:rB as=mask)(hr:lB k X.A)(hg:Gl X x)(ha:XAC K X (e::es) tA as)(hdb:OH=NV:=by decide)
  (he:AJ (e::es) X.env=(NV,AU e X.env)::AJ es X.env:=by rfl) (hpl:(Au pos (AJ es X.env)).any (·.1)=NV:=by rfl):XM K X (.Call (.Name x pf) (e::es) [] pos) (Wz (spG K mask F) [] E0 tA) (TQ as F):=⟨ha.hk,aCd C hr hg ha.pa hdb he hpl,λB σ H env d env' Q r q k=>by
 subst hm;B3⟨⟨Qc,e0⟩,q1,q⟩:=aZ q;B3⟨TJ,q2,q⟩:=aZ q;B3⟨⟨r1,ds'⟩,q3,q4⟩:=kJ q;cases q4;have rr:=r.r;B3⟨A,a,b⟩:=r;B3⟨A0,A1,yc,t1,t2,t3,t4,t5,t6⟩:=TF _ _ _ _ _ a q1;have cl:=iR a;have c1:∀x,A1 x→oG H x:=λx z=>cl x ((t2 x).mpr (.inr z));have c0:∀x,A0 x→oG H x:=λx z=>cl x ((t2 x).mpr (.inl z));&ha.ev A1 σ H (rE env) (rE e0) TJ yc _ c1 rr (aKj t3 t1 (λx z=>(t2 x).mpr (.inr z)) c1) t5 q2 λvs H2 s2 ar=>?_;show spG K (rB as) F (vs++[]) H2 Q E0;rw[F0];have o2:eQ K H2 Qc A1 yc:=cQ.mpr ((cQ.mp t4).mono λ_ _ _ _ z=>z.same s2);B3⟨m1,m2,m3,m4⟩:=Ds as Qc TJ A1 yc vs o2 t5 ar;&⟨A1,_,r1,ds',m3,m4,m1,q3,λw H3 A' A2 p1 p2 ap sm=>k w H3 ?_⟩;rw[m2]at p1;have hC:∀y,A0 y→¬A' y∧¬A2 y∧H3 y=H y:=λy hy=>by B3⟨⟨u,eu⟩,_⟩:=c0 y hy;B3⟨n1,n2⟩:=bF.mp (sm y u (bF.mpr ⟨λz=>t1 y hy z,s2 y u eu⟩));~⟨λz=>n1 (.inl z),λz=>n1 (.inr z),n2.trans eu.symm⟩
 have tk:Fq K H H3:=(Ro λx q=>(c1 x q).2).trans ((bT s2 λx q=>.inl q:aW (out H A1) (out H2 A1)).trans (sm.trans (jA _ _))).tk;have g:aW (out H A) (out H3 (gG (gG A0 A') A2)):=λy u ey=>by
  B3⟨e1,e2⟩:=bF.mp ey;B3⟨n1,n2⟩:=bF.mp (sm y u (bF.mpr ⟨λz=>e1 ((t2 y).mpr (.inr z)),s2 y u e2⟩));&bF.mpr ⟨λz=>?_,n2⟩;rcases z with (z | z) | z
  ·~e1 ((t2 y).mpr (.inl z))
  ·~n1 (.inl z)
  ·~n1 (.inr z)
 have f0:fY (gY K H3 (out H3 (gG (gG A0 A') A2))) e0 A0 σ:=t3.mono λs D z hb qq=>by
  cases s with
  | no=>~qq
  | fro d=>B3⟨q1,v,q2,q3⟩:=qq;~⟨q1,v,q2,g.rv _ _ q3⟩
  | inn v d=>~⟨qq.1,Ow.frame tk _ _ _ qq.2 λx zx=>(hC x (hb x zx)).2.2⟩
  | own d=>B3⟨v,q1,q2⟩:=qq;~⟨v,q1,Ow.frame tk _ _ _ q2 λx zx=>(hC x (hb x zx)).2.2⟩
 have s3:=t6 H3 _ ds' A0 A' f0 p1 λy z1 z2=>(hC y z1).1 z2;~⟨_,fY.snoc s3 ⟨w,U,p2⟩ λy z1 z2=>z1.elim (λz=>(hC y z).2.1 z2) λz=>ap y z z2,b.trans g⟩⟩
end
def Ye:List Bool→List V→EN→List D→Prop
 | true::m,v::vs,s::e,ds=>∃d r,s=.inn v d∧ds=d::r∧Ye m vs e r
 | false::m,_::vs,_::e,ds=>Ye m vs e ds
 | [],_,_,ds=>ds=[]
 | _,_,_,_=>False
def Wh(mask:List Bool)(r:D)(ds':List D)(vs:List V)(o:SR):Prop:=∃env',(o=.rete r env'∨(o=.next env'∧r=.non))∧Ye mask vs env' ds'
B5 Dt:∀{m:List Bool} {vs:List V} {e:EN} {a b:List D},Ye m vs e a→Ye m vs e b→a=b
 | true::m,v::vs,s::e,a,b,⟨d,r,h1,h2,h3⟩,⟨d',r',g1,g2,g3⟩=>by rw[h1]at g1;injection g1 with _ g1;rw[h2,g2,Dt h3 g3,g1]
 | false::m,v::vs,s::e,a,b,h,g=>Dt (m:=m) (vs:=vs) (e:=e) h g
 | [],vs,e,a,b,h,g=>by have h:a=[]:=h;have g:b=[]:=g;rw[h,g]
 | true::m,[],e,a,b,h,g=>h.elim
 | false::m,[],e,a,b,h,g=>h.elim
 | true::m,v::vs,[],a,b,h,g=>h.elim
 | false::m,v::vs,[],a,b,h,g=>h.elim
B5 aCX{mask:List Bool}{r r2:D}{a b:List D}{vs:List V}{o:SR}(h1:Wh mask r a vs o)(h2:Wh mask r2 b vs o):r=r2∧a=b:=by
  B3⟨e1,a1,a2⟩:=h1;B3⟨e2,b1,b2⟩:=h2;rcases a1 with a1 | ⟨a1,rfl⟩
  · rcases b1 with b1 | ⟨b1,rfl⟩
    · rw[a1]at b1
      injection b1 with c1 c2;subst c2;~⟨c1,Dt a2 b2⟩
    · rw[a1]at b1;cases b1
  · rcases b1 with b1 | ⟨b1,rfl⟩
    · rw[a1]at b1;cases b1
    · rw[a1]at b1
      injection b1 with c2;subst c2;~⟨U,Dt a2 b2⟩
abbrev TV(n:Nat)(mask:List Bool)(ds:List D)(vs:List V):EN:=aCV mask ds vs++E9 (n-mask.length) SD.no
open Classical in
noncomputable def Tn(n:Nat)(mask:List Bool)(g:GS):List D→Option (D×List D):=λds=>if h:∃p:D×List D,ds.length=mask.length∧∀vs:List V,vs.length=mask.length→Wh mask p.1 p.2 vs (g (TV n mask ds vs))then NR h.choose else none
B5 Jb{n:Nat}{mask:List Bool}{g:GS}{ds ds':List D}{r:D}(hl:ds.length=mask.length)(h:∀vs:List V,vs.length=mask.length→Wh mask r ds' vs (g (TV n mask ds vs))):Tn n mask g ds=NR (r,ds'):=by
 have ex:∃p:D×List D,ds.length=mask.length∧∀vs:List V,vs.length=mask.length→Wh mask p.1 p.2 vs (g (TV n mask ds vs)):=⟨(r,ds'),hl,h⟩
 B4 Tn;rw[dif_pos ex];have hz:(E9 mask.length V.non).length=mask.length:=P7;B3⟨e1,e2⟩:=aCX (ex.choose_spec.2 _ hz) (h _ hz);~congrArg NR (r9 e1 e2)
B5 aCY{n:Nat}{mask:List Bool}{g:GS}{ds ds':List D}{r:D}(h:Tn n mask g ds=NR (r,ds'))(vs:List V)(hv:vs.length=mask.length):Wh mask r ds' vs (g (TV n mask ds vs)):=by
 B4 Tn at h;split at h
 ·rename_i ex;have:=ex.choose_spec;rw[E6 h]at this;~this.2 vs hv
 ·cases h
section
variable{P:AQ}{w:AS}{K:aG}{mg:Str→Option AE}{base:Heap}
B5 Qd{H Z:Hp}:∀(m:List Bool)(vs:List V)(env:EN)(ds:List D)(A:Fp)(σ:St),fY (gY K H Z) env A σ→Ye m vs env ds→vs.length=m.length→∃A',(∀x,A' x→A x)∧eQ K H ds A' (aA0 m vs)
 | true::m,v::vs,s::e,ds,A,σ,h,⟨d,r,h1,h2,h3⟩,hl=>by B3⟨y,yt,A1,A2,k1,k2,k3,k4,k5⟩:=h;subst h1 h2;B3⟨A',g1,g2⟩:=Qd m vs e r A2 yt k5 h3 (AB hl);&⟨gG A1 A',λx z=>(k3 x).mpr (z.elim .inl λz=>.inr (g1 x z)),?_⟩;B4 eQ;~⟨v,aA0 m vs,A1,A',U,λx z1 z2=>k2 x z1 (g1 x z2),λx=>Iff.rfl,k4.2,g2⟩
 | false::m,v::vs,s::e,ds,A,σ,h,h3,hl=>by B3⟨y,yt,A1,A2,k1,k2,k3,k4,k5⟩:=h;B3⟨A',g1,g2⟩:=Qd m vs e ds A2 yt k5 h3 (AB hl);~⟨A',λx z=>(k3 x).mpr (.inr (g1 x z)),g2⟩
 | [],vs,e,ds,A,σ,h,g,hl=>by
  have g:ds=[]:=g;subst g;&⟨nil,λ_ z=>z.elim,?_⟩;B4 eQ;&⟨λ_ z=>z,?_⟩;cases vs<;>rfl
 | true::m,[],e,ds,A,σ,h,g,hl=>g.elim
 | false::m,[],e,ds,A,σ,h,g,hl=>g.elim
 | true::m,v::vs,[],ds,A,σ,h,g,hl=>g.elim
 | false::m,v::vs,[],ds,A,σ,h,g,hl=>g.elim
B5 yd{H Z:Hp}:∀(n:Nat) {env:EN} {A:Fp} {σ:St},fY (gY K H Z) env A σ→fY (gY K H Z) (env++E9 n SD.no) A (σ++E9 n none)
 | 0,env,A,σ,h=>by show fY _ (env++[]) A (σ++[]);rw[F0,F0];~h
 | n+1,env,A,σ,h=>by have s:=yd n (fY.snoc (d:=SD.no) (y:=none) (A1:=nil) h (λ_ z=>z) λ_ _ z=>z);rw[P9,P9]at s;~s.fp λx=>⟨λz=>z.elim id False.elim,.inl⟩
B5 aKk{X:Cx}{N:List Str}{mask:List Bool}{g:GS}{body:List AO}{t:TS}{vs:List V}{H:Hp}{Q:VK}{E:XK}(yb:YB K X body t g)(h:spG K mask (Tn N.length mask g) vs H Q E):t {nx:=λ_ H'=>Q .non H',rt:=Q} (start N vs) H:=by
  B3⟨A,ds,r,ds',hl,hv,hs,hF,kk⟩:=h;B3⟨env',q1,q2⟩:=aCY hF vs hv;&yb.ev (out H A) _ _ H (TV N.length mask ds vs) ?_ ?_
  · have s:=yd (N.length-mask.length) hs
    have e:start N vs=vs.map NR++E9 (N.length-mask.length) none:=by B4 start;rw[hv]
    rw[e];~⟨A,s,aW.refl _⟩
  · rcases q1 with q1 | ⟨q1,rfl⟩
    · rw[q1]
      intro w σ' H' ⟨A2,a2,b2⟩;B3⟨A3,A4,k1,⟨w',ew,o⟩,k3,k4⟩:=a2.Li;cases ew;B3⟨A5,g1,g2⟩:=Qd mask vs env' ds' A3 σ' k1 q2 hv;~kk w H' A5 A4 g2 o (λx z1 z2=>k3 x (g1 x z1) z2) (b2.trans (bT OC λx z=>.inl ((k4 x).mpr (z.elim (λz=>.inl (g1 x z)) .inr))))
    · rw[q1]
      intro σ' H' ⟨A2,a2,b2⟩;B3⟨A5,g1,g2⟩:=Qd mask vs env' ds' A2 σ' a2 q2 hv;~kk .non H' A5 nil g2 (by B4 Ow;~⟨λ_ z=>z,U⟩) (λx z1 z2=>z2) (b2.trans (bT OC λx z=>.inl (z.elim (g1 x) False.elim)))
B5 Raw.aL4{x:Str}{st:AO}{N ps:List Str}{k:Nat}{g:GS}{mask:List Bool}(R:Raw K mg x st)(S:bA N ps (aK st))(hb:HB x x st ps)(hm:mask.length=ps.length)
  (hbody:∀(f:AF)(cdv:AE)(A:AV)(outer:List Env)(s:AG)(H:Hp)(E:XK),lB k (A.deeper (CH x (aK st) s.heap.objs.size f cdv))→∃t,YB K (Hu MJ P w K mg base N x (aK st) f cdv A outer s H E).sy (cM st) t g):oF P w K mg base x (k+1) mask.length (spG K mask (Tn N.length mask g)):=by
 rw[hm];&R.cal S (λvs H Q E h=>by B3⟨A,ds,r,ds',hl,hv,_⟩:=h;~hv.trans hm) hb (λf cdv A outer s H vs Q E hr h=>?_);B3⟨t,yb⟩:=hbody f cdv A outer s H E hr;~⟨t,yb.ps,aKk yb h⟩
end
section
variable{K:aG}{X:Cx}{a b:AK}{rest:List AK}{ta tb:TE}{g h:GM}{f:FE}{pos:Pos}
def aM4(g h:GM):GM:=λenv=>(g env).bind λde=>match de.1 with
 | .bl NU=>h de.2
 | .bl NV=>NR (.bl NV,de.2)
 | _=>none
def aLa(f:FE):GS:=λenv=>match f (rE env)with
 | some (.lst _)=>.next env
 | _=>.bad
end
end L2


namespace L2
open PySem PySem.Spec PySem.Calls PyProof.Rows PyProof.V
section
variable{prog:AQ}{w:AS}{A:AV}{R:FU→AG→Prop}{I:AF}{fp wr:List AF}{n:Nat}{P:Nat→AE→Prop}{St:Nat→Heap→Prop}{kw:List (Str×AE)}
end
section
variable{prog:AQ}{w:AS}{A:AV}{E:AE→AG→Prop}{s:AG}
end
section
variable{K:aG}{X:Cx}{e e2:AK}{te t2:TE}{f g:FE}{x:Str}{p pos kp:Pos}
end
end L2


namespace L2
open PySem PySem.Spec PySem.Calls PyProof.Rows PyProof.V
section
variable{X:Cx}
def Qe:V→List V→Hp→VK→Prop:=λx vs H Q=>∃l xs i y,x=.ref l∧vs=[.int i,y]∧H l=NR (.lst xs)∧0≤i∧i.toNat≤xs.length∧xs.length<sizeLine∧Q .non (upd H l (.lst (xs.take i.toNat++y::xs.drop i.toNat)))
B5 aA1:MtM X "list.insert" Qe:=by
 intro pins s σ H x vs v us Q I rx rv h;B3⟨l,xs,i,y,rfl,rfl,hH,h0,h1,hz,q⟩:=h;cases rx;B3⟨u1,u2,rfl,ru1,ru2⟩:=rv.two;B3⟨t,rfl⟩:=ru1;B3⟨z,its,n,r,hl,e⟩:=I.aEH hH;have hsl:sizeLine<2 ^ 62:=by decide
 &FG F.slot_list_insert ⟨_,e,U⟩ F.entry_list_insert (F.args_list_insert_3 _ _ _) (IJ l its.toArray n i t u2 (by rw[KG A6 A6];decide) (by rw[D3];omega)) ⟨e,?_⟩;&⟨.non,_,I.aEG (its':=its.take i.toNat++u2::its.drop i.toNat) hH e ?_ ((r.take _).append (.cons ru2 (r.drop _))) ?_,U,q⟩
 ·show (its.toArray.extract 0 (if i<0 then(i+(its.toArray.size:Int)).toNat else min i.toNat its.toArray.size)).push u2++its.toArray.extract (if i<0 then(i+(its.toArray.size:Int)).toNat else min i.toNat its.toArray.size)=_;rw[if_neg A6,D3,show min i.toNat its.length=i.toNat by omega];apply Array.ext';simp;~P2 (by rw[O1];omega)
 ·rw[D1,E3,G7,O1];omega
B5 GD{i:Int}{t:Tok}:∀{ns:List Int} {us:List AE},Vals (ns.map V.int) us→∀y∈us,ND y (.int i t) (eqU (.int i) y)
 | [],_,.nil=>λy hy=>by cases hy
 | n::ns,u::us,.cons r rs=>λy hy=>by
  rcases B9.mp hy with rfl | hy
  ·B3⟨t',rfl⟩:=r;~MH n i t' t
  ·~GD rs y hy
B5 Gf{i:Int}:∀{ns:List Int} {m:Nat} (h:m<ns.length),m<ns.idxOf i→ns[m]≠i
 | [],m,h,_=>absurd h (J9 _)
 | a::ns,0,h,hl=>λe=>by have e:a=i:=e;rw[W9,e,beq_self_eq_true]at hl;~absurd hl (L9 _)
 | a::ns,m+1,h,hl=>by
  rw[W9]at hl;cases q:a==i with
  | true=>rw[q]at hl;~absurd hl (J9 _)
  | false=>rw[q]at hl;have hl:m+1<ns.idxOf i+1:=hl;~Gf (ns:=ns) (m:=m) (by simpa using h) A6
B5 aCZ{α β:Type}(φ:α→β):∀(l:List α)(k:Nat),(l.map φ).eraseIdx k=(l.eraseIdx k).map φ
 | [],_=>rfl
 | _::_,0=>rfl
 | a::l,k+1=>congrArg (φ a::·) (aCZ φ l k)
B5 int_at{ns:List Int}{us:List AE}(h:Vals (ns.map V.int) us)(i:Int){m:Nat}(hm:m<us.toArray.size):∃hn:m<ns.length,eqU (.int i) us.toArray[m]=(ns[m]==i):=by
 have hl:=h.length;rw[B8]at hl;have hm':m<us.length:=by simpa using hm
 B3⟨u,eu,ru⟩:=h.get (i:=m) (x:=.int (ns[m]'(by omega))) (by rw[C5,B6 A6];rfl);B3⟨t,rfl⟩:=ru;have e:us.toArray[m]=.int (ns[m]'(by omega)) t:=by have:=B6 hm';rw[eu]at this;simpa using (E6 this).symm
 &⟨by omega,?_⟩;rw[e];rfl
def Qf:V→List V→Hp→VK→Prop:=λx vs H Q=>∃(l:AF)(ns:List Int)(i:Int),x=.ref l∧vs=[.int i]∧H l=NR (.lst (ns.map V.int))∧i∈ns∧Q .non (upd H l (.lst ((ns.eraseIdx (ns.idxOf i)).map V.int)))
B5 Yg:MtM X "list.remove" Qf:=by
 intro pins s σ H x vs v us Q I rx rv h;B3⟨l,ns,i,rfl,rfl,hH,hi,q⟩:=h;cases rx;B3⟨u,rfl,ru⟩:=rv.one;B3⟨t,rfl⟩:=ru;B3⟨z,its,n,r,hl,e⟩:=I.aEH hH;rw[B8]at hl;have hj:ns.idxOf i<ns.length:=Y0 hi;have hz:its.length≤sizeLine:=by rw[B8]at z;omega
 &FG F.slot_list_remove ⟨_,e,U⟩ F.entry_list_remove (F.args_list_remove_2 _ _) (MI l its.toArray n (.int i t) (eqU (.int i)) (λy hy=>GD r y (by simpa using hy)) (ns.idxOf i) (by rw[D3];omega) ?_ ?_ (by rw[D3];~hz)) ⟨e,?_⟩
 ·B3⟨h1,h2⟩:=int_at r i (m:=ns.idxOf i) (by rw[D3];omega);rw[h2,n8];~beq_self_eq_true i
 ·intro m hm hlt;B3⟨h1,h2⟩:=int_at r i hm;rw[h2];~beq_eq_false_iff_ne.mpr (Gf h1 hlt)
 ·&⟨.non,_,I.aEG (its':=its.eraseIdx (ns.idxOf i)) hH e ?_ ?_ ?_,U,q⟩
  ·rw[W3]
  ·have:=r.eraseIdx (ns.idxOf i);rw[aCZ]at this;~this
  ·rw[B8];have:=Kw ns (ns.idxOf i);omega
def ji(K:aG):V→List V→Hp→VK→Prop:=λx vs H Q=>∃(l:AF)(ns:List Int)(i:Int),x=.ref l∧vs=[.int i]∧oU K H l (ns.map V.int)∧i∈ns∧Q (.int (ns.idxOf i)) H
B5 TX:MtM X "list.index" (ji X.K):=by
 intro pins s σ H x vs v us Q I rx rv h;B3⟨l,ns,i,rfl,rfl,hq,hi,q⟩:=h;cases rx;B3⟨u,rfl,ru⟩:=rv.one;B3⟨t,rfl⟩:=ru;B3⟨its,r,pl,z⟩:=I.list hq;have hl:=r.length;rw[B8]at hl z;have hj:ns.idxOf i<ns.length:=Y0 hi;have hsl:sizeLine<2 ^ 62:=by decide
 B3⟨⟨cls,dd,data,sl⟩,ho,hc,n,hd⟩:=pl.isList;dsimp only at hc hd;subst hc hd;&FG F.slot_list_index ⟨_,ho,U⟩ F.entry_list_index (F.args_list_index_2 _ _) (SeqAt.list_indexAt l its.toArray n dd sl (.int i t) (eqU (.int i)) (ns.idxOf i) (by rw[D3];omega) A6 ?_ ?_) ⟨ho,λy hy=>ND.at (GD r y (by simpa using hy)) _ _,?_⟩
 ·B3⟨h1,h2⟩:=int_at r i (m:=ns.idxOf i) (by rw[D3];omega);rw[h2,n8];~beq_self_eq_true i
 ·intro m hm hlt;B3⟨h1,h2⟩:=int_at r i hm;rw[h2];~beq_eq_false_iff_ne.mpr (Gf h1 hlt)
 ·~⟨.int (ns.idxOf i),H,I.tok _,⟨_,U⟩,q⟩
end
section
variable{K:aG}{X:Cx}{a b e:AK}{ta tb te:TE}{f g:FE}{i:Nat}{π:FP}{pos apos cpos:Pos}{m:Str}
def aA2(i:Nat)(π:FP)(g f:FE):GS:=λenv=>match env[i]?,π (rE env),g (rE env),f (rE env)with
 | some (.own d0),NR p,NR (.int k),NR (.int y)=>(match gJ p d0 with
  | some (.lst ds)=>(match intsOf ds with
   | some ns=>if 0≤k∧k.toNat≤ns.length∧ns.length<1000 then .next (env.set i (.own (fO p d0 (.lst ((ns.take k.toNat++y::ns.drop k.toNat).map D.int)))))else .bad
   | none=>.bad)
  | _=>.bad)
 | _,_,_,_=>.bad
B5 aIs(h:EvP K ta i π)(hx:Ko K tb g)(he:Ko K te f):DSs K (oV (Qx K "list" Qe ta (dF tb (dF te oX)))) (aA2 i π g f):=λB E σ H env r p=>by
 B4 aA2 at p;split at p
 ·rename_i d0 pp k y q1 q2 q3 q3';split at p
  ·rename_i ds q4;split at p
   ·rename_i ns q5;split at p
    ·rename_i hc;B3⟨c0,c1,c2⟩:=hc;B3⟨v0,a,xs,Bs,k1,k2,k3,k4,k5,k6⟩:=r.DY q1 q4;have ed:=vH q5;subst ed;have ex:=lV.mp (eQ.rv _ _ _ k5);subst ex;&h σ H (rE env) v0 pp _ _ r.r k1 q2 k2 λH1 s1=>⟨.inl ⟨U,_,oU.of (s1 _ _ k3)⟩,?_⟩
     &hx σ H1 H1 (rE env) _ _ (Zn.self K H1) (r.r.same s1) q3 λu H2 Z2 s2 t2 z2 ru=>he σ H2 H2 (rE env) _ _ (Zn.self K H2) (r.r.same OS) q3' λw H3 Z3 s3 t3 z3 Qv=>?_;B4 Rv at ru Qv;subst ru Qv;have Sq:=s1.trans (s2.trans s3);&⟨a,_,k,.int y,U,U,Sq _ _ k3,c0,by rw[B8];~c1,Nt (by rw[B8];omega),p _ ?_⟩;have e:(ns.map V.int).take k.toNat++V.int y::(ns.map V.int).drop k.toNat=(ns.take k.toNat++y::ns.drop k.toNat).map V.int:=by rw[J6,E2,k7,k8]
     rw[e];~k6 H3 _ _ nil Sq (yD _ _ (fK _) (lV.mpr U)) λb z=>z.elim
    ·~p.elim
   ·~p.elim
  ·~p.elim
 ·~p.elim
def jj(i:Nat)(π:FP)(f:FE):GS:=λenv=>match env[i]?,π (rE env),f (rE env)with
 | some (.own d0),NR p,NR (.int y)=>(match gJ p d0 with
  | some (.lst ds)=>(match intsOf ds with
   | some ns=>if y∈ns then .next (env.set i (.own (fO p d0 (.lst ((ns.eraseIdx (ns.idxOf y)).map D.int)))))else .bad
   | none=>.bad)
  | _=>.bad)
 | _,_,_=>.bad
B5 aIt(h:EvP K ta i π)(he:Ko K te f):DSs K (oV (Qx K "list" Qf ta (dF te oX))) (jj i π f):=λB E σ H env r p=>by
 B4 jj at p;split at p
 ·rename_i d0 pp y q1 q2 q3;split at p
  ·rename_i ds q4;split at p
   ·rename_i ns q5;split at p
    ·rename_i hc;B3⟨v0,a,xs,Bs,k1,k2,k3,k4,k5,k6⟩:=r.DY q1 q4;have ed:=vH q5;subst ed;have ex:=lV.mp (eQ.rv _ _ _ k5);subst ex;&h σ H (rE env) v0 pp _ _ r.r k1 q2 k2 λH1 s1=>⟨.inl ⟨U,_,oU.of (s1 _ _ k3)⟩,?_⟩
     &he σ H1 H1 (rE env) _ _ (Zn.self K H1) (r.r.same s1) q3 λw H2 Z2 s2 t2 z2 Qv=>?_;B4 Rv at Qv;subst Qv;have s12:=s1.trans s2;&⟨a,ns,y,U,U,s12 _ _ k3,hc,p _ ?_⟩;~k6 H2 _ _ nil s12 (yD _ _ (fK _) (lV.mpr U)) λb z=>z.elim
    ·~p.elim
   ·~p.elim
  ·~p.elim
 ·~p.elim
B5 aFx(h:XP K X a ta i π)(hx:XR K X b tb g)(he:XR K X e te f)(hp:PE X a ta→PE X b tb→PE X e te→PS X (.Expr (.Call (.Attribute a m apos) [b,e] [] cpos) pos) (oV (Qx K "list" Qe ta (dF tb (dF te oX))))):YS K X (.Expr (.Call (.Attribute a m apos) [b,e] [] cpos) pos) (oV (Qx K "list" Qe ta (dF tb (dF te oX)))) (jW i (aA2 i π g f)):=Ge i (hp h.pe hx.pe he.pe) (aIs h.ev hx.ev he.ev)
B5 yf(h:XP K X a ta i π)(he:XR K X e te f)(hp:PE X a ta→PE X e te→PS X (.Expr (.Call (.Attribute a m apos) [e] [] cpos) pos) (oV (Qx K "list" Qf ta (dF te oX)))):YS K X (.Expr (.Call (.Attribute a m apos) [e] [] cpos) pos) (oV (Qx K "list" Qf ta (dF te oX))) (jW i (jj i π f)):=Ge i (hp h.pe he.pe) (aIt h.ev he.ev)
def Bh(a b:D):Option D:=match a,b with
 | .lst ds,.int i=>(intsOf ds).bind λns=>if i∈ns then NR (.int (ns.idxOf i))else none
 | _,_=>none
B5 TY(ha:XR K X a ta f)(he:XR K X e te g)(hp:PE X a ta→PE X e te→PE X (.Call (.Attribute a m apos) [e] [] pos) (Qx X.K "list" (ji X.K) ta (dF te oX))):XN K X (.Call (.Attribute a m apos) [e] [] pos) (Qx K "list" (ji K) ta (dF te oX)) (f2 Bh f g):=⟨ha.hk,by have:=ha.hk;subst this;~hp ha.pe he.pe,λσ H e d Q re q k=>by
 B3⟨d1,q1,q⟩:=aZ q;B3⟨d2,q2,q⟩:=aZ q;B4 Bh at q;split at q
 ·B3⟨ns,q3,q⟩:=aZ q;split at q
  ·rename_i hi;cases q;&ha.ev σ H H e _ _ OW re q1 λv H1 Z1 s1 t1 z1 rv=>?_;have rv:=z1.sm.rv _ _ rv;B3⟨p,rfl,r2⟩:=Bb q3 rv;&⟨.inl ⟨U,_,r2⟩,he.ev σ H1 H1 e _ _ (Zn.self K H1) (re.same s1) q2 λu H2 Z2 s2 t2 z2 ru=>?_⟩;B4 Rv at ru;subst ru;B3⟨p',e',r3⟩:=Bb q3 (s2.rv _ _ rv);cases e';~⟨p,ns,_,U,U,r3,hi,k _ H2 OS OB⟩
  ·cases q
 ·cases q⟩
def Tp(a b:D):Option D:=match a with
 | .dk ks ds=>(Wa b).bind λk=>match posK ks k with
  | none=>NR .non
  | some j=>(ds[j]?).bind λr=>if r.jH=NU then NR r else none
 | _=>none
B5 Tq(hu:X.A.units+1<BG)(ha:XR K X a ta f)(he:XR K X e te g)(mm:M1 X a "get" apos e cpos):XN K X (.Call (.Attribute a "get" apos) [e] [] cpos) (aB6 ta te) (f2 Tp f g):=⟨ha.hk,aB7 hu ha.pe he.pe mm,λσ H e d Q re q k=>by
 B3⟨d1,q1,q⟩:=aZ q;B3⟨d2,q2,q⟩:=aZ q;B4 Tp at q;split at q
 ·rename_i ks ds _;B3⟨kk,h1,q⟩:=aZ q;&ha.ev σ H H e _ _ OW re q1 λx H1 Z1 s1 t1 z1 rx=>?_;have rx:=z1.sm.rv _ _ rx;have rx':=rx;B4 Rv at rx;B3⟨p,xs,r1,r2,r3,r4⟩:=rx;&⟨p,r1,.inl ⟨_,r2⟩,he.ev σ H1 H1 e _ _ (Zn.self K H1) (re.same s1) q2 λu H2 Z2 s2 t2 z2 ru=>?_⟩;have ru:=z2.sm.rv _ _ ru;have rx2:=s2.rv _ _ rx';B4 Rv at rx2;B3⟨p',xs',e1,r2',r3',r4'⟩:=rx2;rw[r1]at e1;cases e1;&⟨xZ (ks.zip xs') kk,.inl ⟨_,kk,r2',Pn h1 ru,U⟩,?_⟩;rw[uH r3'];split at q
  ·rename_i hn;cases q;rw[hn];~k _ H2 OS OB
  ·rename_i j hj;B3⟨r,q4,q⟩:=aZ q;split at q
   ·rename_i im;cases q;B3⟨v,e1,e2⟩:=r4'.get q4;rw[hj,C4,e1];~k v H2 OS (.jH im e2)
   ·cases q
 ·cases q⟩
def aFy:List D→Option D
 | [.int a]=>NR (.int (if a<0 then -a else a))
 | _=>none
def aKl:List V→Hp→VK→Prop:=λxs H Q=>∃a:Int,xs=[.int a]∧Q (.int (if a<0 then -a else a)) H
B5 aIu:wR K aKl aFy:=λvs H ds d Q rs q k=>by
 B4 aFy at q;split at q
 ·cases q;B3⟨v,rfl,r⟩:=rW rs;B4 Rv at r;subst r;~⟨_,U,k _ H OC OB⟩
 ·cases q
B5 aIv:mQ X (.builtin "abs") aKl:=by intro pins s σ H xs us Q I r h;B3⟨a,rfl,q⟩:=h;B3⟨u,rfl,rx⟩:=vals1 r;B3⟨t,rfl⟩:=rx;~call_abs_int λu tk=>⟨.int _,H,I.tok _,⟨u,U⟩,q⟩
end
end L2


namespace L2
open PySem PySem.Spec PySem.Calls PyProof.Rows PyProof.V
def aIw(ks:List Key)(vs:List V):List (V×V):=(ks.zip vs).map λkv=>(kV kv.1,kv.2)
def aL5(K:aG)(t:List (TE×TE))(ks:List Key)(is:List Nat)(fs:FA):Prop:=∀(σ:St)(H:Hp)(e:DE)(ds:List D)(xs:List V)(Q:List (V×V)→Hp→Prop),yE K H e σ→fs e=NR ds→xs.length=is.length →
 (∀(k i:Nat),is[k]?=NR i→∃x,xs[k]?=NR x∧σ[i]?=NR (NR x))→(∀vs H',aW H H'→Vz K H H' ds vs→Q (aIw ks (xs++vs)) H')→du t σ H Q
structure XDm(K:aG)(X:Cx)(p:Pos)(keys:List (Option AK))(vals:List AK)(t:List (TE×TE))(ks:List Key)(is:List Nat)(fs:FA):Prop where
 hk:X.K=K
 pps:PPs X p keys vals t
 ev:aL5 K t ks is fs
section
variable{K:aG}{X:Cx}{st:AO}{e:AK}{vals:List AK}{keys:List (Option AK)}{te:TE}{f:FE}{fs:FA}{pos p p1:Pos}{i j:Nat}{t:List (TE×TE)}{ks:List Key}{is:List Nat}{x:Str}
def aM5(ks:List Key)(is:List Nat)(fs:FA):GS:=λenv=>match fs (rE env),aCA env is with
 | some ds,NR os=>if decide is.Nodup=NU∧decide ks.Nodup=NU∧ks.length=os.length+ds.length∧ks.length≤15 then .ret (.dk ks (os++ds))else .bad
 | _,_=>.bad
end
section
variable{X:Cx}{K:aG}{x y:Str}{p p2 pos pos2:Pos}{a b:AK}{t:TA}{fs:FA}
B5 UG(lo:Int):∀(m:Nat)(us:List AE)(s:Nat),us.length=m→(∀(j:Nat)(w:AE),us[j]?=NR w→∃t,w=.int (lo+((s+j:Nat):Int)) t)→Vals ((List.range' s m).map λk=>V.int (lo+((k:Nat):Int))) us
 | 0,us,s,hl,_=>by have:us=[]:=N1 hl;subst this;~.nil
 | m+1,us,s,hl,hw=>by
  cases us with
  | nil=>cases hl
  | cons w us=>rw[List.range'_succ,E2];B3⟨t0,e0⟩:=hw 0 w U;&.cons ⟨t0,by rw[e0];rfl⟩ (UG lo m us (s+1) (by simpa using hl) λj w' hj=>?_);B3⟨t1,e1⟩:=hw (j+1) w' (by simpa using hj);~⟨t1,by rw[e1,show s+(j+1)=s+1+j by omega]⟩
def GF:List V→Hp→VK→Prop:=λvs H Q=>∃lo hi:Int,vs=[.int lo,.int hi]∧0≤lo∧lo≤1000∧0≤hi∧hi≤1000∧∀l,H l=none→Q (.ref l) (upd H l (.lst ((D5 (hi-lo).toNat).map λk=>V.int (lo+((k:Nat):Int)))))
B5 aC0(hc:X.calm=NU)(pins:List (AF×Obj))(s:AG)(σ:St)(H:Hp)(vs:List V)(us:List AE)(Q:VK)(I:Inv X pins σ H s)(rv:Vals vs us)(h:GF vs H Q) :
  AL Nl X.A (call (.type "range") us) (λu' s'=>AL Nl X.A (call (.type "list") [u']) (EP X pins σ Q) X.xe s') X.xe s:=by
 B3⟨lo,hi,rfl,h0,h1,h2,h3,q⟩:=h;cases rv with
 | cons r rr=>
  cases rr with
  | cons r' rr=>
   cases rr;B3⟨t,rfl⟩:=r;B3⟨t',rfl⟩:=r';&LL ?_;&call_list_range (n:=(hi-lo).toNat) (I.ok.hd hc) (Lu _ _ _ _ _ _ _) (small_one A6 A6 A6 A6) (by rw[Kn];split<;>omega) A6 λh' tk acc c kp g it=>?_;have I1:Inv X pins σ H {s with heap:=s.heap.push {cls:=.type "range", data:=.fields #[.int lo t,.int hi t',.int 1 s.toks]},toks:=s.toks+1}:=I.kept (t':=s.toks+1) λb o e=>AI _ e;generalize hg':s.heap.push {cls:=.type "range", data:=.fields #[.int lo t,.int hi t',.int 1 s.toks]}=hp at *;have hs:H hp.objs.size=none:=I1.hok.fresh (C9 _);have rr:Vals ((D5 (hi-lo).toNat).map λk=>V.int (lo+((k:Nat):Int))) acc.toList:=by rw[List.range_eq_range'];&UG lo _ acc.toList 0 (by rw[L3];~it.1) λj w hj=>?_;B3⟨t1,e1⟩:=it.2 j w (by rw[←M8];~hj);~⟨t1,by rw[e1,show lo+(j:Int)*1=lo+((0+j:Nat):Int) by omega]⟩
   ~⟨.ref _,_,I1.laid (t':=tk) (a:=hp.objs.size) (o:=.lst ((D5 (hi-lo).toNat).map λk=>V.int (lo+((k:Nat):Int)))) kp (C9 _) ⟨by rw[B8,E1];~P4 (tY A6),acc.toList,c,rr,by simpa[IE]using g⟩,U,q _ hs⟩
B5 aA3(hc:X.calm=NU)(ha:PA X [a,b] t)(hg:Gl X x)(hm:X.mg x=none)(hv:AZ x=NR (.type "list")) (hg2:Gl X y) (hm2:X.mg y=none) (hv2:AZ y=NR (.type "range")) (hn:x ≠ "__name__" := by decide) (hdb:OH=NV:=by decide) (hn2:y ≠ "__name__" := by decide) (jf:(y==("__debug__" : Str))=NV:=by decide)
  (he:AJ [a,b] X.env=[(NV,AU a X.env),(NV,AU b X.env)]:=by rfl) (he1:AJ [b] X.env=[(NV,AU b X.env)]:=by rfl) (he2:AJ [.Call (.Name y p2) [a,b] [] pos2] X.env=[(NV,AU (.Call (.Name y p2) [a,b] [] pos2) X.env)]:=by rfl) :
  PE X (.Call (.Name x p) [.Call (.Name y p2) [a,b] [] pos2] [] pos) (tCB GF t):=by
 intro pins s σ H Q I h;&BF (vZ I hg hm hv ?_ hn hdb);&L4 ?_ he2 U;rw[he2];&BY (BF (vZ I hg2 hm2 hv2 ?_ hn2 jf));~L4 (iY (ha pos2 pins s σ H _ I h) λus s1 ⟨vs,H1,I1,r1,q1⟩=>iY (aC0 hc pins s1 σ H1 vs us Q I1 r1 q1) λu' s' z=>CF z) (by rw[he,he1]) (by rw[he1];rfl)
def Jc:List D→Option D
 | [.int lo,.int hi]=>if 0≤lo∧lo≤1000∧0≤hi∧hi≤1000 then NR (.lst ((D5 (hi-lo).toNat).map λk=>D.int (lo+((k:Nat):Int))))else none
 | _=>none
B5 aA4(h:XA K X [a,b] t fs)(hg:Gl X x)(hm:X.mg x=none)(hv:AZ x=NR (.type "list")) (hg2:Gl X y) (hm2:X.mg y=none) (hv2:AZ y=NR (.type "range")) (hc:X.calm=NU:=by rfl) (hn:x ≠ "__name__" := by decide) (hdb:OH=NV:=by decide) (hn2:y ≠ "__name__" := by decide) (jf:(y==("__debug__" : Str))=NV:=by decide)
  (he:AJ [a,b] X.env=[(NV,AU a X.env),(NV,AU b X.env)]:=by rfl) (he1:AJ [b] X.env=[(NV,AU b X.env)]:=by rfl) (he2:AJ [.Call (.Name y p2) [a,b] [] pos2] X.env=[(NV,AU (.Call (.Name y p2) [a,b] [] pos2) X.env)]:=by rfl) :
  XN K X (.Call (.Name x p) [.Call (.Name y p2) [a,b] [] pos2] [] pos) (tCB GF t) (fL Jc fs):=⟨h.hk,aA3 hc h.pa hg hm hv hg2 hm2 hv2 hn hdb hn2 jf he he1 he2,λσ H e d Q re q k=>by
 B3⟨ds,q1,q2⟩:=aZ q;B4 Jc at q2;split at q2
 ·rename_i lo hi;split at q2
  ·rename_i hl;cases q2;&h.ev σ H H e _ _ OW re q1 λvs H1 Z1 s1 t1 z1 rvs=>?_;B4 eO at rvs;B3⟨v1,r1,rfl,e1,rvs⟩:=rvs;B4 eO at rvs;B3⟨v2,r2,rfl,e2,rvs⟩:=rvs;B4 eO at rvs;subst rvs;B4 Rv at e1 e2;subst e1 e2;&⟨lo,hi,U,hl.1,hl.2.1,hl.2.2.1,hl.2.2.2,λl hl=>k _ _ (s1.trans (cR hl _)) ((vD OC (.gR ?_ ?_) hl).back s1)⟩
   ·have:=fK ((D5 (hi-lo).toNat).map λk=>lo+((k:Nat):Int));rw[M4]at this;~this
   ·have:=lV (K:=K) (H:=H1) (ns:=(D5 (hi-lo).toNat).map λk=>lo+((k:Nat):Int)) |>.mpr U;rw[M4]at this;rw[show (λk:Nat=>V.int (lo+(k:Int)))=V.int∘λk:Nat=>lo+(k:Int)from rfl,←M4];~this
  ·cases q2
 ·cases q2⟩
end
end L2


namespace L2
open PySem PySem.Spec PySem.Calls PyProof.Rows PyProof.V
section
variable{K:aG}{X:Cx}{a e:AK}{ta te:TE}{f:FE}{π:FP}{i:Nat}{m:Str}{apos cpos pos:Pos}
def aM6(i:Nat)(π:FP)(f:FE):GS:=λenv=>match env[i]?,π (rE env),f (rE env)with
 | some (.own d0),NR p,NR (.int k)=>(match gJ p d0 with
  | some (.lst ds)=>(match intsOf ds with
   | some ns=>if 0≤k∧k.toNat<ns.length∧ns.length<1000 then .next (env.set i (.own (fO p d0 (.lst ((ns.eraseIdx k.toNat).map D.int)))))else .bad
   | none=>.bad)
  | _=>.bad)
 | _,_,_=>.bad
end
end L2


namespace L2
open PySem PySem.Spec PySem.Calls PyProof.Rows PyProof.V
section
variable{K:aG}{X:Cx}{a b e:AK}{es:List AK}{ta tb te t:TE}{f g:FE}{tA:TA}{fs:FA}{pos apos cpos p2:Pos}{m:Str}
structure aM7(mg:Str→Option AE)(x:Str)(i:Str):Prop where
 ex:∃t,mg x=NR (.str i t)
def aGI(i j:Int):Prop:=0<j∧j.natAbs.log2<9000
instance:∀i j,Decidable (aGI i j):=fun i j=>by B4 aGI;~inferInstance
end
section
variable{P:AQ}{w:AS}{K:aG}{tg:AK}
end
section
variable{K:aG}{X:Cx}{tg e l:AK}{t tl:TE}{f:FE}
end
end L2


namespace L2
open PySem PySem.Spec PySem.Calls PyProof.Rows PyProof.V
section
variable{K:aG}{X:Cx}{a b c e:AK}{ta tb tc te t:TE}{f g fa fb fc:FE}{pos apos cpos:Pos}{m:Str}
def jk(φ φ':D→D→Option D)(f g h:FE):FE:=λe=>(We φ φ' f g h e).map .bl
B5 UJ{op op':EH}{r r':R2}{φ φ':D→D→Option D}(ho:vC X (AY op) r)(ho':vC X (AY op') r')(hd:MN K r φ)(hd':MN K r' φ')(ha:XR K X a ta fa)(hb:XR K X b tb fb)(hc:XR K X c tc fc)(hm:IA [op,op'] [b,c]=NV:=by with_unfolding_all rfl):XN K X (.Compare a [op,op'] [b,c] pos) (BP r r' ta tb tc) (jk φ φ' fa fb fc):=⟨ha.hk,aBN ho ho' ha.pe hb.pe hc.pe hm,λσ H e k Q re q kk=>by
 B3⟨k,q0,rfl⟩:=kJ q;clear q;B3⟨d1,q1,q⟩:=aZ q0;clear q0;B3⟨d2,q2,q⟩:=aZ q;B3⟨d3,q3,q⟩:=aZ q;&ha.ev σ H H e d1 _ OW re q1 λx H1 Z1 s1 t1 z1 rx=>hb.ev σ H1 H1 e d2 _ (Zn.self K H1) (re.same s1) q2 λy H2 Z2 s2 t2 z2 ry=>?_;&hd x y H2 d1 d2 d3 _ (s2.rv _ _ (z1.sm.rv _ _ rx)) (z2.sm.rv _ _ ry) q3 λz H3 s3 n=>?_;have rz:=n.rv;split at q
 ·B3⟨d4,q4,q⟩:=aZ q;B3⟨d5,q5,q⟩:=aZ q;B4 Rv at rz;&⟨NU,rz,?_⟩;rw[if_pos rfl];&hc.ev σ H3 H3 e d4 _ (Zn.self K H3) (re.same (s1.trans (s2.trans s3))) q4 λw H4 Z4 s4 t4 z4 Qv=>?_;&hd' y w H4 d2 d4 d5 _ ((s3.trans s4).rv _ _ (z2.sm.rv _ _ ry)) (z4.sm.rv _ _ Qv) q5 λv H5 s5 n5=>?_;have r5:=n5.rv;split at q
  ·cases q;~kk v H5 (s1.trans (s2.trans (s3.trans (s4.trans s5)))) (.jH U r5)
  ·cases q
 ·cases q;B4 Rv at rz;&⟨NV,rz,?_⟩;rw[if_neg A8];~kk _ H3 (s1.trans (s2.trans s3)) OB
 ·cases q⟩
end
end L2


namespace L2
open PySem PySem.Spec PySem.Calls PyProof.Rows PyProof.V
section
variable{K:aG}{B H H':Hp}{env:EN}{σ:St}{i j:Nat}{v:V}{d:D}
end
end L2


namespace L2
open PySem PySem.Spec PySem.Calls PyProof.Rows PyProof.V
abbrev aL6(h:Heap)(l:List Env):Heap:=u5 h (frs l)
structure Fl(l:List Env)(s1:AG)(e:AF)(cls:AE)(s':AG):Prop where
 fly:∃a0,Heap.FlyingW (aL6 s1.heap l) l e cls a0 s'.heap
 up:s1.heap.UpToSlots s'.heap
 os:s'.os=s1.os
 bare:Da s'.gens
def CX1(P:AQ)(w:AS):CXT:=λouter H s E ev s'=>∃e cls H' s1,ev=.ref e∧s1.os=s.os∧Da s1.gens∧Un (frs outer) [] H H' s.heap s1.heap∧Ew P w H' s1.heap∧Fl outer s1 e cls s'∧E cls none H'
section
variable{P:AQ}{w:AS}{l:List Env}{s1 s':AG}{e:AF}{cls:AE}{H:Hp}{base:Heap}
end
section
variable{X:Cx}{pins:List (AF×Obj)}{σ:St}{H:Hp}{s s1 s':AG}{e:AF}{cls ev:AE}{E:XK}
end
section
variable{P:AQ}{w:AS}{env:Env}{outer:List Env}{L e:AF}{cls a0:AE}{s0 s1:AG}{H0 H:Hp}{E:XK}{base h':Heap}{s2:AG}
end
section
variable{P:AQ}{w:AS}{K:aG}{mg:Str→Option AE}{base:Heap}{N:List Str}{qual:Str}{scope:BQ}{f:AF}{cd:AE}{A:AV}{outer:List Env}{s0:AG}{H0:Hp}{E:XK}
end
end L2


namespace L2
open PySem PySem.Spec PySem.Calls PyProof.Rows PyProof.V
abbrev GZ:=EN→Option Nat
def DZ(K:aG)(κ:Nat→AF)(E:XK)(t:TS)(z:GZ):Prop:=∀(B:Hp)(D:Ends)(σ:St)(H:Hp)(env:EN)(i:Nat),Rel K B env σ H→z env=NR i→(∀H',aW B H'→E (.ref (κ i)) none H')→t D σ H
structure YZ(K:aG)(κ:Nat→AF)(X:Cx)(E:XK)(st:AO)(t:TS)(z:GZ):Prop where
 ps:PS X st t
 ev:DZ K κ E t z
structure YZB(K:aG)(κ:Nat→AF)(X:Cx)(E:XK)(st:List AO)(t:TS)(z:GZ):Prop where
 ps:NT X st t
 ev:DZ K κ E t z
structure aOf(P:AQ)(w:AS)(K:aG)(mg:Str→Option AE)(base:Heap)(x:Str)(k:Nat)(n:Nat)(sp:Sp):Prop where
 ex:∃f fd ps,ps.length=n∧Ab P w K mg base (CX1 P w) k f fd ps sp∧Binds K fd ps []∧K7 K (.ref f)=NU∧mg x=NR (.ref f)
structure aM8(P:AQ)(w:AS)(K:aG)(mg:Str→Option AE)(base:Heap)(C:AF)(m:Str)(k n:Nat)(df:Bool)(sp:Sp):Prop where
 ex:∃f fd ps,ps.length=n∧Ab P w K mg base (CX1 P w) k f fd ps sp∧Binds K fd ps []∧(df=NU→Binds K fd ps [BM])∧Meth K C m f
B5 Rel.sub{K:aG}{B H:Hp}{env:EN}{σ:St}(r:Rel K B env σ H):aW B H:=let ⟨_,_,b⟩:=r;b.trans (jA _ _)
section
variable{K:aG}{κ:Nat→AF}{X:Cx}{E:XK}{st:AO}{sts rest:List AO}{t u:TS}{z z1 z2:GZ}{g:GS}{c e o:AK}{es:List AK}{te ta:TE}{tA:TA}{tc:TT}{fc:FT}{f:FE}{fs:FA}{pos apos:Pos}{m:Str}
def PE1(X:Cx)(pins:List (AF×Obj))(σ:St)(e:AK)(t:TE):Prop:=∀(s:AG)(H:Hp)(Q:VK),Inv X pins σ H s→t σ H Q→AL Nl X.A (AU e X.env) (EP X pins σ Q) X.xe s
def PS1(X:Cx)(pins:List (AF×Obj))(σ:St)(st:AO)(t:TS):Prop:=∀(s:AG)(H:Hp)(D:Ends),Inv X pins σ H s→t D σ H→AL Nl X.A (exec st X.env) (SP X pins D) X.xe s
def aGJ(CX:CXT)(X:Cx)(pins:List (AF×Obj))(σ:St)(E:XK):Prop:=∀(H:Hp)(s:AG)(e:AE)(s':AG),Inv X pins σ H s→CX X.stack H s E e s'→X.xe e s'
structure XRz(K:aG)(κ:Nat→AF)(X:Cx)(E:XK)(e:AK)(t:TE)(z:DE→Option Nat):Prop where
 pe:∀(pins:List (AF×Obj))(σ:St),aGJ (CX1 X.prog X.w) X pins σ E→PE1 X pins σ e t
 ev:∀(σ:St)(H:Hp)(de:DE)(i:Nat)(Q:VK),yE K H de σ→z de=NR i→(∀H',aW H H'→E (.ref (κ i)) none H')→t σ H Q
end
section
variable{P:AQ}{w:AS}{K:aG}{mg:Str→Option AE}{base:Heap}{κ:Nat→AF}
end
section
variable{K:aG}{κ:Nat→AF}{X:Cx}{E:XK}{z:GZ}{g:GS}{pos:Pos}
end
end L2


namespace L2
open PySem PySem.Spec PySem.Calls PyProof.Rows PyProof.V
abbrev aKm:List AE:=[.type "ValueError", .type "Exception", .type "BaseException", .type "object"]
structure ExF(K:aG)(mg:Str→Option AE)(x:Str)(C:AF):Prop where
 mg:mg x=NR (.ref C)
 ok:PySem.W.excIn K C aKm "ValueError.__new__" = NU
section
variable{P:AQ}{w:AS}{K:aG}{mg:Str→Option AE}{base:Heap}{N:List Str}{qual:Str}{scope:BQ}{f:AF}{cd:AE}{A:AV}{outer:List Env}{s0:AG}{H0:Hp}{E:XK}{κ:Nat→AF}
 {x:Str} {C:AF} {np cpos pos:Pos} {e:AK} {es:List AK} {tA:TA}
end
abbrev Cx.tr(X:Cx)(pn:List (AF×Obj))(Ex:AE→AG→Prop):Cx:={X with pn:=pn,xe:=Ex}
abbrev Cx.hand(X:Cx)(pn:List (AF×Obj))(e:AF):Cx:={X with pn:=pn,A:=X.A.mark (NR (.ref e)),calm:=NV,xe:=λ_ _=>False}
section
variable{X:Cx}{pins aBB pn:List (AF×Obj)}{σ:St}{H:Hp}{s s':AG}{Ex:AE→AG→Prop}{e:AF}{D:Ends}{fl:Flow}
end
abbrev aKn:=Nat→Nat→Bool
section
variable{K:aG}{κ:Nat→AF}{X:Cx}{sub:aKn}{n nj:Nat}{z:GZ}{g:GS}{st:AO}{pos:Pos}
def gAs(k:Nat)(g:GS):GS:=λenv=>if k<env.length then(match g (env.set k .no)with
 | .next env'=>if k<env'.length then .next (env'.set k .no)else .bad
 | _=>.bad)else .bad
structure YE(K:aG)(X:Cx)(k:Nat)(e:AF)(sts:List AO)(t:TS)(g:GS):Prop where
 ps:NT X sts t
 ev:∀(B:Hp)(D:Ends)(σ:St)(H:Hp)(env:EN),Rel K B env σ H→σ[k]?=NR (NR (.ref e))→Lf K B D (g env)→t D σ H
inductive HK(K:aG)(κ:Nat→AF)(X:Cx)(n i:Nat):List HP→List (Nat×GS)→Prop
 | nil:HK K κ X n i [] []
 | cons {x:Str} {np hp:Pos} {b₀:AO} {suite:List AO} {rest:List HP} {j:Nat} {gh:GS} {r:List (Nat×GS)} (hm:X.mg x=NR (.ref (κ j))) (hg:Gl X x) (hd:OH=NV)
   (hs:∀(pn:List (AF×Obj))(e:AF),∃t,YB K (X.hand pn e) (b₀::suite) t gh) (hr:HK K κ X n i rest r):HK K κ X n i (.ExceptHandler (NR (.Name x np)) none (b₀::suite) hp::rest) ((j,gh)::r)
 | as {x nm:Str} {np hp:Pos} {b₀:AO} {suite:List AO} {rest:List HP} {j k:Nat} {gh:GS} {r:List (Nat×GS)} (hm:X.mg x=NR (.ref (κ j))) (hg:Gl X x) (hd:OH=NV) (hN:X.N.Nodup) (hk:X.N[k]?=NR nm) (hl:X.env.scope.names.lookup nm=NR .local)
   (hs:∀(pn:List (AF×Obj))(e:AF)(oe:Obj),i<n→oe.cls=.ref (κ i)→(e,oe)∈pn→∃t,YE K (X.hand pn e) k e (b₀::suite) t gh) (hr:HK K κ X n i rest r):HK K κ X n i (.ExceptHandler (NR (.Name x np)) (NR nm) (b₀::suite) hp::rest) ((j,gAs k gh)::r)
structure ZS(K:aG)(κ:Nat→AF)(X:Cx)(E:XK)(st:AO)(t:TS)(z:GZ):Prop where
 ps:∀(pins:List (AF×Obj))(σ:St),aGJ (CX1 X.prog X.w) X pins σ E→PS1 X pins σ st t
 ev:∀(B:Hp)(D:Ends)(σ:St)(H:Hp)(env:EN)(i:Nat),Rel K B env σ H→z env=NR i→(∀H',aW H H'→E (.ref (κ i)) none H')→t D σ H
end
end L2


namespace L2
open PySem PySem.Spec PySem.Calls PyProof.Rows PyProof.V
section
variable{K:aG}{X:Cx}{κ:Nat→AF}{pos p:Pos}
structure XE(K:aG)(X:Cx)(k:Nat)(ea:AF)(e:AK)(t:TE)(d:D):Prop where
 pe:PE X e t
 ev:∀(σ:St)(H:Hp)(Q:VK),σ[k]?=NR (NR (.ref ea))→(∀v H',aW H H'→Rp K H H' d v→Q v H')→t σ H Q
end
def Gg:EN→List Nat→List D→EN
 | env,i::is,d::ds=>Gg (env.set i (.fro d)) is ds
 | env,_,_=>env
def Wi(is:List Nat)(g:GS):List D→EN→SR
 | [],env=>.next env
 | .tup ds::xs,env=>if is.length=ds.length∧is.all (λi=>decide (i<env.length))=NU then(match g (Gg env is ds)with
   | .next env'=>Wi is g xs env'
   | .cont env'=>Wi is g xs env'
   | .brk env'=>.next env'
   | r=>r)else .bad
 | _::_,_=>.bad
def Yh(js is:List Nat)(fi:FA)(g:GS):GS:=λenv=>match fi (zE (Al js env))with
 | some xs=>Wi is g xs (Al js env)
 | none=>.bad
section
variable{K:aG}{X:Cx}{g:GS}{pos:Pos}
B5 Yi{Z1 H:Hp}{Q:St→Hp→Prop}:∀{is:List Nat} {ds:List D} {vs:List V} {env:EN} {σ:St},Rel K Z1 env σ H→eO K Z1 ds vs→is.length=ds.length→(∀i∈is,i<env.length)→(∀σ',Rel K Z1 (Gg env is ds) σ' H→Q σ' H)→pK is vs σ H Q
 | [],[],vs,env,σ,r,h,_,_,k=>by B4 eO at h;subst h;B4 pK;~⟨U,k σ r⟩
 | i::is,d::ds,vs,env,σ,r,h,hl,hi,k=>by B4 eO at h;B3⟨y,ys,rfl,h1,h2⟩:=h;B4 pK;&⟨y,ys,U,?_⟩;B3⟨A2,a2,b2⟩:=r;have r3:Rel K Z1 (env.set i (.fro d)) (σ.set i (NR y)) H:=Il a2 b2 (hi i C8) OC OC (Fz a2) (b2.rv _ _ h1);~Yi r3 h2 (by simpa using hl) (λj hj=>by rw[J5];~hi j (C6 _ hj)) λσ' r'=>k σ' (by B4 Gg;~r')
 | [],_::_,_,_,_,_,_,hl,_,_=>by simp at hl
 | _::_,[],_,_,_,_,_,hl,_,_=>by simp at hl
B5 aFz{js is:List Nat}{n:Nat}{wi:TI}{fi:FA}{tb:TS}(hi:EvI K wi fi)(h:DS K tb g)(hn:n=is.length):DS K (Qo wi (Vr K n (pK is)) tb) (Yh js is fi g):=λB E σ H env r p=>by
 B4 Yh at p;have r':Rel K B (Al js env) σ H:=r.Al;generalize Al js env=En at r' p;split at p
 ·rename_i xs q;B3⟨A,a,b⟩:=r';&hi σ H (out H A) (zE En) xs _ (Fz a) (aGz a) q λJ H1 Z1 P vs s t z hJ hP rvs=>?_;have hl:=rvs.length;have g0:aW Z1 (out H1 A):=λx o e=>bF.mpr ⟨λqa=>(by rw[(z.no x qa).1]at e;cases e),z.sm x o e⟩;have aCu:Rel K Z1 En σ H1:=⟨A,a.mono λe D y _ qq=>qq.same s (bT s λx q=>.inl q),g0⟩
  have bz:aW B Z1:=b.trans t;have p':=p.mono bz;&Hw hJ (λk σ2 H2=>∃cU,Rel K Z1 cU σ2 H2∧Lf K Z1 E (Wi is g (xs.drop k) cU)) ⟨En,aCu,by simpa using p'⟩ (λk σ2 H2 _ ⟨cU,⟨A2,a2,b2⟩,_⟩=>hP H2 (b2.trans (jA H2 A2))) ?_ ?_
  ·rintro k x σ2 H2 hx ⟨cU,r2,p2⟩;have hk:k<xs.length:=by have:=D4.mp hx;B3⟨h1,_⟩:=this;omega
   rw[L8 hk]at p2;B3⟨x',hx',rx⟩:=rvs.get (B6 hk);rw[hx]at hx';cases hx';cases hd:xs[k]with
   | tup ds=>
    rw[hd]at p2 rx;B4 Wi at p2;split at p2
    ·rename_i hc;have rx:=r2.sub.rv _ _ rx;have rxz:=rx;B4 Rv at rx;B3⟨ad,ys,rfl,h1,h2⟩:=rx;have hrz:∃ad' ys',V.ref ad=V.ref ad'∧xW K Z1 ad' ys'∧eO K Z1 ds ys':=by B3⟨x2,e2,rx2⟩:=rvs.get (B6 hk);rw[hx]at e2;cases e2;rw[hd]at rx2;B4 Rv at rx2;~rx2
     B3⟨ad',ys',e,h1',h2'⟩:=hrz;cases e;&⟨ad,ys',U,r2.sub.tup h1',by rw[h2'.length,hn,hc.1],?_⟩;&Yi r2 h2' hc.1 (λi hi=>of_decide_eq_true (N3.mp hc.2 i hi)) λσ' r3=>?_;&h Z1 _ _ H2 _ r3 ?_;split at p2
     ·rename_i env' q2;rw[q2];~λσ' H' r'=>⟨env',r',p2⟩
     ·rename_i env' q2;rw[q2];~λσ' H' r'=>⟨env',r',p2⟩
     ·rename_i env' q2;rw[q2];~p2
     ·rename_i n1 n2 n3;cases q2:g (Gg cU is ds)with
      | next e=>~absurd q2 (n1 e)
      | cont e=>~absurd q2 (n2 e)
      | brk e=>~absurd q2 (n3 e)
      | ret d=>rw[q2]at p2;~p2
      | bad=>rw[q2]at p2;~p2
      | rete d e=>rw[q2]at p2;~p2
    ·~p2.elim
   | _=>rw[hd]at p2;B4 Wi at p2;~p2.elim
  ·rintro σ2 H2 ⟨cU,r2,p2⟩;rw[hl,S8]at p2;~p2 σ2 H2 r2
 ·~p.elim
B5 aFA{tg iter:AK}{body:List AO}{wi:TI}{fi:FA}{tb:TS}{n:Nat}(js is:List Nat)(hp:EC Nl X.A X.env X.xe)(DX:X.calm=NU)(hi:XI K X tg iter wi fi)(hg:PG X tg (Vr K n (pK is)))(hb:YB K X body tb g)(hn:n=is.length:=by rfl)
  (hs:∀x,BD iter X.env x=pure x:=by intro _;rfl):YS K X (.For tg iter body [] pos) (Qo wi (Vr K n (pK is)) tb) (Yh js is fi g):=⟨Qq hp DX hi.pi hg hb.ps hs,aFz hi.ev hb.ev hn⟩
end
end L2


namespace L2
open PySem PySem.Spec PySem.Calls PyProof.Rows PyProof.V
section
variable{K:aG}{X:Cx}{pos p0:Pos}
end
end L2


namespace L2
open PySem PySem.Spec PySem.Calls PyProof.Rows PyProof.V Builtin Builtin.ObjectAttr Builtin.Getset_descriptor
section
variable{P:AQ}{w:AS}{A:AV}{E:AE→AG→Prop}{s:AG}{K:aG}{x D:AF}{ox:Obj}{od:Option Obj}
structure aOk(K:aG)(D:AF):Prop where
 ga:G3 K (.ref D) "__getattribute__" = NR (NR (.builtin "BaseException.__getattribute__"))
 gt:G3 K (.ref D) "__getattr__" = NR none
 cl:G3 K (.ref D) "__class__" = NR (NR (.builtin "object.__class__"))
 sp:Y4 K (.builtin "object.__class__") "__get__" = NR (NR (.builtin "getset_descriptor.__get__"))
 tk:u6 K (.builtin "object.__class__")=NR NU
 mr:z5 K D (.type "object")=NR NU
 bx:PySem.W.subIn K (.ref D) (.type "BaseException")=NR NU
 ct:(PySem.W.clsIn K D).isSome=NU
end
section
variable{K:aG}{X:Cx}{κ:Nat→AF}{pos p:Pos}
structure XEn(K:aG)(X:Cx)(k:Nat)(ea:AF)(e:AK)(t:TE)(f:FE):Prop where
 hk:X.K=K
 pe:PE X e t
 ev:∀(σ:St)(H:Hp)(de:DE)(d:D)(Q:VK),yE K H de σ→σ[k]?=NR (NR (.ref ea))→f de=NR d→(∀v H',aW H H'→Rp K H H' d v→Q v H')→t σ H Q
structure XEB(K:aG)(X:Cx)(k:Nat)(ea:AF)(es:List AK)(t:TA)(fs:FA):Prop where
 hk:X.K=K
 pa:PA X es t
 ev:∀(σ:St)(H:Hp)(de:DE)(ds:List D)(Q:List V→Hp→Prop),yE K H de σ→σ[k]?=NR (NR (.ref ea))→fs de=NR ds→(∀vs H',aW H H'→Vz K H H' ds vs→Q vs H')→t σ H Q
end
end L2


namespace L2
open PySem PySem.Spec PySem.Calls PyProof.Rows PyProof.V
section
variable{P:AQ}{w:AS}{K:aG}{mg:Str→Option AE}{base:Heap}{κ:Nat→AF}
end
section
variable{K:aG}{κ:Nat→AF}{X:Cx}{E:XK}{pos:Pos}
end
end L2


namespace L2
open PySem PySem.Spec PySem.Calls PyProof.Rows PyProof.V
section
variable{K:aG}{X:Cx}{e:AK}{t:TE}{f:FE}{pos:Pos}
end
end L2


set_option maxHeartbeats 1000000
namespace L2
open PySem PySem.Spec PySem.Calls PyProof.Rows PyProof.V
section
variable{K:aG}{X:Cx}{e:AK}{t:TE}{f:FE}{pos p2:Pos}
def aKo(z:Str)(lo hi:Option Int):Prop:=(∀i∈lo.toList,0≤i)∧(∀j∈hi.toList,0≤j)∧HT.Kv z.length 0 lo≤HT.Kv z.length z.length hi∧z.length≤100000
instance:∀z lo hi,Decidable (aKo z lo hi):=fun z lo hi=>by B4 aKo;~inferInstance
end
end L2


namespace L2
open PySem PySem.Spec PySem.Calls PyProof.Rows PyProof.V
section
variable{K:aG}{X:Cx}{pos:Pos}
variable{κ:Nat→AF}{sub:aKn}{n nj:Nat}
end
end L2


namespace L2
open PySem PySem.Spec PySem.Calls PyProof.Rows PyProof.V
section
variable{K:aG}{X:Cx}
end
end L2


namespace L2
open PySem PySem.Spec PySem.Calls PyProof.Rows PyProof.V
section
variable{K:aG}{X:Cx}{a e0 eM:AK}{es:List AK}{t0 tM:TE}{f0:FE}{gM:GM}{tA:TA}{fs:FA}{pos:Pos}{i:Nat}
def aC1:Option SD→Bool
 | some (.own (.lst _))=>NU
 | _=>NV
def Yj(i:Nat)(f0:FE)(gM:GM)(fs:FA):GS:=λenv=>match f0 (rE env),gM env with
 | some d0,NR (d1,env')=>(match fs (rE env'),env'[i]? with
  | some r,NR (.own (.lst ds))=>if(aC1 env[i]?=NU∧(toV d0).isSome=NU)∧D.gR (d1::r)=NU∧r.length≤50∧ds.length<100000 then .next (env'.set i (.own (.lst (ds++[.tup (d0::d1::r)]))))else .bad
  | _,_=>.bad)
 | _,_=>.bad
B5 aFB(h0:Nq K t0 f0)(hM:EvM K tM gM)(hA:EvB K tA fs):DSs K (oV (Qx K "list" pC (qM i) (dF (PJ (dF t0 (dF tM tA))) oX))) (Yj i f0 gM fs):=λB E σ H env r p=>by
 B4 Yj at p;split at p
 ·rename_i d0 d1 env' q0 q1;split at p
  ·rename_i rr ds q2 q3;split at p
   ·rename_i hc;B3⟨⟨c0,cv⟩,c1,c2,c3⟩:=hc;B3⟨ds0,q4⟩:∃ds0,env[i]?=NR (.own (.lst ds0)):=by
     cases z:env[i]? with
     | none=>rw[z]at c0;cases c0
     | some y=>
      rw[z]at c0;B4 aC1 at c0;split at c0
      ·rename_i w zz;cases zz;~⟨_,U⟩
      ·cases c0
    B3⟨w,hw⟩:=U2.mp cv;B3⟨v0,a,xs0,Bs0,k1,k2,k3,_,_,_⟩:=r.DY (p:=[]) q4 U;have ev0:v0=.ref a:=by have k2:NR v0=NR (V.ref a):=k2;~E6 k2
    subst ev0;&⟨_,k1,.inl ⟨U,xs0,oU.of k3⟩,?_⟩;&h0 σ H (rE env) d0 _ r.r q0 λx0 H1 s1 n0=>?_;have ex0:=Ft hw n0.rv;subst ex0;&hM B σ H1 env d1 env' _ (r.same s1) q1 λx1 H2 r2=>?_;have p2:=r2.pop;&hA σ H2 (rE env') rr _ p2.r q2 λvs H3 s3 n3=>?_;have rx0:Rv K H3 d0 x0:=by cases d0<;>B4 toV at hw<;>first | (cases hw;B4 Rv;rfl) | cases hw
    have aL8:eO K H3 (d0::d1::rr) (x0::x1::vs):=by B4 eO;&⟨_,_,U,rx0,?_⟩;B4 eO;~⟨_,_,U,s3.rv _ _ r2.aCK,n3.rv⟩
    have im:D.gR (d0::d1::rr)=NU:=by B4 D.gR;rw[J2];&⟨?_,c1⟩;cases d0<;>B4 toV at hw<;>first | rfl | cases hw
    &⟨Xl (by rw[E3,E3,n3.rv.length];omega),λpp hp=>?_⟩;have s4:aW H2 (upd H3 pp (.tup (x0::x1::vs))):=s3.trans (cR hp _);have p4:=p2.same s4;B3⟨v1,a1,xs1,Bs1,m1,m2,m3,m4,m5,m6⟩:=p4.DY (p:=[]) q3 U;have ev1:v1=.ref a1:=by have m2:NR v1=NR (V.ref a1):=m2;~E6 m2
    subst ev1;rw[k1]at m1;cases m1;&⟨a,xs1,.ref pp,U,U,m3,Nt (by rw[(eQ.rv _ _ _ m5).length];omega),p _ ?_⟩;have ow:Ow K (upd H3 pp (.tup (x0::x1::vs))) (.tup (d0::d1::rr)) nil (.ref pp):=by B4 Ow;~⟨pp,_,U,xW.of cA,(yD _ _ im aL8).same (cR hp _)⟩
    ~m6 _ (ds++[.tup (d0::d1::rr)]) (xs1++[.ref pp]) (gG Bs1 nil) OC (cQ.mpr ((cQ.mp m5).snoc ow (λx _ z=>z.elim))) λb z=>z.elim .inl False.elim
   ·~p.elim
  ·~p.elim
 ·~p.elim
B5 aC2{m:Str}{apos cpos tpos:Pos}{x1:Nat}(hl:PE X a (qM i))(h0:XN K X e0 t0 f0)(hM:XM K X eM tM gM)(hA:XB K X es tA fs)
  (hp:PE X a (qM i)→PE X (.Tuple (e0::eM::es) x1 tpos) (PJ (dF t0 (dF tM tA)))→PS X (.Expr (.Call (.Attribute a m apos) [.Tuple (e0::eM::es) x1 tpos] [] cpos) pos) (oV (Qx K "list" pC (qM i) (dF (PJ (dF t0 (dF tM tA))) oX))))
  (hst:AJ (e0::eM::es) X.env=(NV,AU e0 X.env)::AJ (eM::es) X.env:=by rfl) (hst2:AJ (eM::es) X.env=(NV,AU eM X.env)::AJ es X.env:=by rfl) :
  YS K X (.Expr (.Call (.Attribute a m apos) [.Tuple (e0::eM::es) x1 tpos] [] cpos) pos) (oV (Qx K "list" pC (qM i) (dF (PJ (dF t0 (dF tM tA))) oX))) (jW i (Yj i f0 gM fs)):=
 Ge i (hp hl (cu (cZ h0.pe (cZ hM.pe hA.pa hst2) hst))) (aFB h0.ev hM.ev hA.ev)
def Yk(is:List Nat)(g:GM):GS:=λenv=>match g env with
 | some (.tup ds,env')=>if(is.length=ds.length∧is.all (λi=>decide (i<env'.length))=NU)∧D.gR ds=NU then .next (pX env' is ds)else .bad
 | _=>.bad
B5 aFC{is:List Nat}{n:Nat}{tg e:AK}{te:TE}{g:GM}(h:XM K X e te g)(hp:PE X e te→PS X (.Assign [tg] e pos) (xX te (Vr K n (pK is))))(hn:n=is.length:=by rfl):YS K X (.Assign [tg] e pos) (xX te (Vr K n (pK is))) (Yk is g):=⟨hp h.pe,λB E σ H env r p=>by
 B4 Yk at p;split at p
 ·rename_i ds env' q;split at p
  ·rename_i hc;&h.ev B σ H env _ env' _ r q λv H' r'=>?_;have rv:=r'.aCK;B4 Rv at rv;B3⟨ad,xs,rfl,o1,o2⟩:=rv;&⟨ad,xs,U,o1,by rw[o2.length,hn,hc.1.1],?_⟩;~Sw (r'.pop.x (R:=nil) OC λx z=>z.elim) (yD _ _ hc.2 o2) hc.1.1 (λi hi=>of_decide_eq_true (N3.mp hc.1.2 i hi)) λσ' r2=>p σ' H' r2
  ·~p.elim
 ·~p.elim⟩
end
end L2


namespace L2
open PySem PySem.Spec PySem.Calls PyProof.Rows PyProof.V
def Itz(K:aG)(a b:AF):It:=
 ⟨λi H=>∃xs ys x y,oU K H a xs∧oU K H b ys∧xs[i]?=NR x∧ys[i]?=NR y,λi H x H'=>∃p v u,x=.ref p∧H p=none∧(∀xs,oU K H a xs→xs[i]?=NR v)∧(∀ys,oU K H b ys→ys[i]?=NR u)∧H'=upd H p (.tup [v,u]),λi H=>∃xs ys,oU K H a xs∧oU K H b ys∧(xs.length≤i∨ys.length≤i)⟩
B5 aC3{P:AQ}{w:AS}{K:aG}{es:List AK}{kk:Nat}{pos:Pos}(z TI TO i1 i2 a b:AF)(D:ZipApart z TI TO i1 i2 a b):Turn P w K (.Tuple es kk pos) (Itz K a b) [z,TO,i1,i2,TI] z (λi h=>IsZip h z TI TO .none∧IsPair h TI (.ref i1) (.ref i2)∧(∃u v,IsPair h TO u v)∧h.IsListIter i1 a i∧h.IsListIter i2 b i) where
  mem:=by simp
  obj:=λi h st c hc=>by
    B3⟨h1,h2,⟨u,v,h3⟩,⟨o4,h4,c4,d4⟩,⟨o5,h5,c5,d5⟩⟩:=st;simp only[B9,N5,or_false]at hc;rcases hc with rfl | rfl | rfl | rfl | rfl
    · ~⟨_,h1,λv z=>by cases z⟩
    · ~⟨_,h3,λv z=>by cases z⟩
    · ~⟨o4,h4,λv z=>by rw[d4]at z;cases z⟩
    · ~⟨o5,h5,λv z=>by rw[d5]at z;cases z⟩
    · ~⟨_,h2,λv z=>by cases z⟩
  keep:=λi h h' st k=>⟨k z (by simp) _ st.1,k TI (by simp) _ st.2.1,let ⟨u,v,q⟩:=st.2.2.1;⟨u,v,k TO (by simp) _ q⟩,st.2.2.2.1.at λo q=>k i1 (by simp) o q,st.2.2.2.2.at λo q=>k i2 (by simp) o q⟩
  item:=by
    intro X hP hw hK hc i pins s σ H E I hf st hg;subst hP hw hK;B3⟨h1,h2,⟨u0,v0,h3⟩,h4,h5⟩:=st;B3⟨xs,ys,x,y,hqa,hqb,hx,hy⟩:=hg;B3⟨its,rv,p,_⟩:=I.list hqa;B3⟨itb,rvb,pb,_⟩:=I.list hqb;B3⟨u,hu,ru⟩:=rv.get hx;B3⟨v,hv,rvv⟩:=rvb.get hy;have lt:∀c∈[z,TO,i1,i2,TI],c<s.heap.objs.size:=λc hc=>by
      simp only[B9,N5,or_false]at hc;rcases hc with rfl | rfl | rfl | rfl | rfl
      · ~AN h1
      · ~AN h3
      · B3⟨_,q,_⟩:=h4;~AN q
      · B3⟨_,q,_⟩:=h5;~AN q
      · ~AN h2
    &wpAny_pyNext_zip_item D h1 h2 h3 h4 h5 p.isList pb.isList (x:=u) (y:=v) (by simpa using hu) (by simpa using hv) λh' a1 a2 a3 a4 tup sz kp=>?_;have hs:H s.heap.objs.size=none:=I.hok.fresh (C9 _);have I1:=I.laid (t':=s.toks) (a:=s.heap.objs.size) (o:=.tup [x,y]) (h':=s.heap.push {cls:=.type "tuple", data:=.seq #[u,v]}) (λb o q=>AI _ q) (C9 _)
      ⟨P4 (tY (by simp)),[u,v],.cons ru (.cons rvv .nil),⟨_,AR _ U,U,_,U⟩⟩
    have f1:∀c∈[z,TO,i1,i2,TI],Hq X pins (L2.upd H s.heap.objs.size (.tup [x,y])) c:=λc hc=>(hf c hc).upd (F3 (lt c hc));have I2:=I1.turns (h':=h') (ch:=[z,TO,i1,i2]) (t':=s.toks) (λc hc=>f1 c (by simp only[B9,N5,or_false]at hc ⊢;rcases hc with q | q | q | q<;>simp[q])) λc o nc q=>by
      simp only[B9,N5,or_false,not_or]at nc;rcases Heap.get?_push_cases q with ⟨q1,q2⟩ | q0
      · rw[q1,q2]
        ~tup
      · ~kp c o nc.1 nc.2.1 nc.2.2.1 nc.2.2.2 q0
    have aL9:IsPair h' TI (.ref i1) (.ref i2):=kp TI _ D.TIz D.TITO D.TIi1 D.TIi2 h2;&⟨_,U,wpAny_letOwnedTupleGo_zip (s:={s with heap:=h'}) a1 λh3 e3 sb=>?_⟩;&⟨.ref s.heap.objs.size,_,I2.turns (ch:=[z]) (t':=s.toks) (λc hc=>f1 c (by rw[D2.mp hc];simp)) (λc o nc q=>sb.extBut c o (λq=>nc (by simp[q])) q),U,⟨_,x,y,U,hs,λws hw=>by rw[I.Ho hw hqa];~hx,λws hw=>by rw[I.Ho hw hqb];~hy,U⟩,⟨e3,sb.extBut TI _ D.TIz aL9,⟨_,_,sb.extBut TO _ D.TOz a2⟩,a3.at λo q=>sb.extBut i1 o D.i1z q,a4.at λo q=>sb.extBut i2 o D.i2z q⟩,λc hc=>(f1 c hc).1⟩
  done:=by
    intro X hP hw hK hc i pins s σ H E I hf st hg;subst hP hw hK;B3⟨h1,h2,⟨u0,v0,h3⟩,h4,h5⟩:=st;B3⟨xs,ys,hqa,hqb,hl⟩:=hg;B3⟨its,rv,p,_⟩:=I.list hqa;B3⟨itb,rvb,pb,_⟩:=I.list hqb;have l1:=rv.length;have l2:=rvb.length;&wpAny_pyNext_zip_end (I.ok.hd hc) D h1 h2 h3 h4 h5 p.isList pb.isList ?_ λh' kp=>⟨rfl,I.turns (ch:=[z,TO,i1,i2]) (t':=s.toks) (λc hc=>hf c (by simp only[B9,N5,or_false]at hc ⊢;rcases hc with q | q | q | q<;>simp[q])) λc o nc q=>?_⟩
    · rcases hl with q | q
      · left;simp;omega
      · right;simp;omega
    · simp only[B9,N5,or_false,not_or]at nc
      ~kp c o nc.1 nc.2.1 nc.2.2.1 nc.2.2.2 q
  self:=λ_ _ _ _ _ st h=>IY st.1 h
section
variable{K:aG}{X:Cx}{e1 e2:AK}{t1 t2 te:TE}{f g fe:FE}{tc:TT}{fc:FT}{pos p p2:Pos}{x:Str}
def aIx(K:aG)(t1 t2:TE):TI:=λσ H R=>t1 σ H λv H1=>t2 σ H1 λu H2=>∃a b,v=.ref a∧u=.ref b∧(∃xs,oU K H2 a xs)∧(∃ys,oU K H2 b ys)∧R (Itz K a b) H2
B5 aIy{tes:List AK}{tk:Nat}{tpos:Pos}(ha:PE X e1 t1)(hb:PE X e2 t2)(hg:Gl X x)(hm:X.mg x=none)(hv:AZ x=NR (.type "zip")) (hn:x ≠ "__name__" := by decide) (hdb:OH=NV:=by decide) (he:AJ [e1,e2] X.env=[(NV,AU e1 X.env),(NV,AU e2 X.env)]:=by rfl) (he1:AJ (e1::[e2]) X.env=(NV,AU e1 X.env)::AJ [e2] X.env:=by rfl) (hpl:(Au pos (AJ [e2] X.env)).any (·.1)=NV:=by rfl):PI X (.Tuple tes tk tpos) (.Call (.Name x p) [e1,e2] [] pos) (aIx X.K t1 t2):=by
 intro pins s σ H R I h;&BF (vZ I hg hm hv ?_ hn hdb);&L4 ?_ he1 hpl;rw[he];&BY (iY (ha pins s σ H _ I h) λu s1 ⟨v,H1,I1,r1,q1⟩=>BY (iY (hb pins s1 σ H1 _ I1 q1) λu2 s2 ⟨v2,H2,I2,r2,q2⟩=>CF ?_));B3⟨a,b,e1,e2,⟨xs,hqa⟩,⟨ys,hqb⟩,q⟩:=q2;subst e1 e2;cases r1;cases r2;B3⟨its,rv,pl,_⟩:=I2.list hqa;B3⟨itb,rvb,plb,_⟩:=I2.list hqb;have la:a<s2.heap.objs.size:=by B3⟨o,q,_⟩:=pl.isList;~AN q
 have lb:b<s2.heap.objs.size:=by B3⟨o,q,_⟩:=plb.isList;~AN q
 &call_zip_2 pl.isList plb.isList λh' hz hTI hTO hi1 hi2 sz kp=>IY hz ?_;&⟨s2.heap.objs.size+4,[s2.heap.objs.size+4,s2.heap.objs.size+3,s2.heap.objs.size,s2.heap.objs.size+1,s2.heap.objs.size+2],_,_,H2,U,I2.kept (t':=s2.toks) kp,aC3 _ _ _ _ _ _ _ (zipApart_new la lb),⟨hz,hTI,⟨_,_,hTO⟩,hi1,hi2⟩,λc hc=>?_,q⟩;have lc:s2.heap.objs.size≤c:=by
  simp only[B9,N5,or_false]at hc;rcases hc with rfl | rfl | rfl | rfl | rfl
  ·~V8 _ _
  ·~V8 _ _
  ·~C9 _
  ·~V8 _ _
  ·~V8 _ _
 ~I2.aEq lc (I2.hok.fresh lc)
def Bj(c:D→D→Option Bool)(el:D→D→Option D):List (D×D)→Option (List D)
 | []=>NR []
 | (x,y)::r=>(c x y).bind λb=>if b=NU then(el x y).bind λz=>(Bj c el r).map (z::·)else Bj c el r
def Lp(f g:FE)(fr:List Nat)(fc:FT)(fe:FE):FE:=λe=>(f e).bind λd=>(g e).bind λd'=>match d,d' with
 | .lst xs,.lst ys=>if xs.length≤100000 then(Bj (λx y=>fc (NR x::NR y::nZ e fr)) (λx y=>fe (NR x::NR y::nZ e fr)) (xs.zip ys)).map D.lst else none
 | _,_=>none
B5 aC4{fr:List Nat}(h:Ko K t1 f)(h':Ko K t2 g)(hc:aj K tc fc)(he:Nq K te fe):Nq K (Rg (aIx K t1 t2) 2 fr (xg K) tc te) (Lp f g fr fc fe):=by
 intro σ H e d Q re q k;B4 Lp at q;B3⟨d0,q1,qa⟩:=aZ q;B3⟨d1,q1',qb⟩:=aZ qa;clear q qa;split at qb
 ·rename_i xs ys';split at qb
  ·rename_i hlen;B3⟨ds,q2,rfl⟩:=kJ qb;&h σ H H e _ _ OW re q1 λv H0 Z0 s0 t0 z0 rv0=>h' σ H0 H0 e _ _ (Zn.self K H0) (re.same s0) q1' λw H1 Z1 s01 t1 z1 rw0=>?_;have s1:aW H H1:=s0.trans s01;have rv1:=s01.rv _ _ (z0.sm.rv _ _ rv0);have rw1:=z1.sm.rv _ _ rw0;B4 Rv at rv1 rw1;B3⟨pa,vs,rfl,sq,rvs⟩:=rv1;B3⟨pb,us,rfl,sqb,rus⟩:=rw1;&⟨pa,pb,U,U,⟨vs,sq⟩,⟨us,sqb⟩,?_⟩;intro D0 hD;have hl:=rvs.length;have hlb:=rus.length;have hHD:H D0=none:=s1.free hD;generalize hcc:(λx y=>fc (NR x::NR y::nZ e fr))=cc at q2;generalize hel:(λx y=>fe (NR x::NR y::nZ e fr))=el at q2;have sqS:∀{H2:Hp},aW H1 H2→oU K H2 pa vs:=λ{H2} s2=>by
    rcases sq with z | z
    ·~.inl (s2.rd z)
    ·~.inr z
   have sqT:∀{H2:Hp},aW H1 H2→oU K H2 pb us:=λ{H2} s2=>by
    rcases sqb with z | z
    ·~.inl (s2.rd z)
    ·~.inr z
   have hzl:(xs.zip ys').length=min vs.length us.length:=by rw[T9,hl,hlb]
   generalize hn:min vs.length us.length=n at hzl;&⟨λi m ys H2=>∃ds1 ds2 A,m=n-i∧i≤n∧ds=ds1++ds2∧Bj cc el ((xs.zip ys').drop i)=NR ds2∧aW H1 H2∧H2 D0=NR (.lst ys)∧eQ K H2 ds1 A ys∧(∀a,A a→H1 a=none∧a≠D0)∧ys.length≤i,
    ⟨n,[],ds,nil,by simp,L5 _,U,by simpa using q2,cR hD _,cA,by B4 eQ;~⟨λ_ z=>z,U⟩,λ_ z=>z.elim,C9 _⟩,?_⟩
   rintro i m ys H2 ⟨ds1,ds2,A,rfl,hi',hds,hcl,s2,hD2,ow,fr2,hyl⟩;&⟨hD2,?_⟩;by_cases hlt:i<n
   ·have i1:i<vs.length:=by omega
    have i2:i<us.length:=by omega
    &.inr ⟨⟨vs,us,vs[i],us[i],sqS s2,sqT s2,B6 i1,B6 i2⟩,λxv H' y=>?_⟩;B3⟨pp,v,u,rfl,hpn,hv',hu',rfl⟩:=y;have hv:=hv' vs (sqS s2);have hu:=hu' us (sqT s2);have sT:aW H2 (upd H2 pp (.tup [v,u])):=cR hpn _;have hxi:i<xs.length:=by omega
    have hyi:i<ys'.length:=by omega
    have hxs:(xs.zip ys').drop i=(xs[i],ys'[i])::(xs.zip ys').drop (i+1):=by rw[L8 A6,t7]
    B3⟨x',hx',rx⟩:=rvs.get (B6 hxi);rw[hv]at hx';cases hx';B3⟨y',hy',ry⟩:=rus.get (B6 hyi);rw[hu]at hy';cases hy';rw[hxs]at hcl;B4 Bj at hcl;B3⟨bb,c1,c2⟩:=aZ hcl;&⟨pp,[v,u],U,xW.of cA,U,_,_,U,_,_,U,U,?_⟩;show Kp 2 σ fr (NR v::NR u::Vv σ fr)∧_;&⟨⟨by simp[blk],λj w hw=>?_⟩,?_⟩
    ·cases j with
     | zero=>simp[blk]at hw
     | succ j=>
      cases j with
      | zero=>simp[blk,T4]at hw
      | succ j=>simpa[blk,T4]using hw
    have s12:=s2.trans sT;have re2:yE K (upd H2 pp (.tup [v,u])) (NR xs[i]::NR ys'[i]::nZ e fr) (NR v::NR u::Vv σ fr):=aFi (re.same (s1.trans s12)) (s12.rv _ _ rx) (s12.rv _ _ ry);&hc _ _ _ bb _ re2 (by rw[←hcc]at c1;~c1) λH3 s3=>?_;have Sq:=s12.trans s3;have s23:=sT.trans s3;have hD3:=s23 _ _ hD2;cases bb with
    | false=>rw[if_neg A8]at c2 ⊢;~⟨n-(i+1),by omega,ds1,ds2,A,U,by omega,hds,c2,Sq,hD3,ow.same s23,fr2,by omega⟩
    | true=>
     rw[if_pos rfl]at c2 ⊢;B3⟨dy,c3,c4⟩:=aZ c2;B3⟨ds3,c5,rfl⟩:=kJ c4;&he _ H3 _ dy _ (re2.same s3) (by rw[←hel]at c3;~c3) λyv H4 s4 n4=>?_;have hD4:=s4 _ _ hD3;&⟨hD4,Nt A6,n-(i+1),by omega,ds1++[dy],ds3,?_⟩;B3⟨B,oB,fB⟩:=n4;have hB:∀a,B a→H1 a=none∧a≠D0:=λa qa=>⟨Sq.free (fB a qa),λz=>by have q0:=fB a qa;rw[z,hD3]at q0;cases q0⟩
     &⟨gG A B,U,by omega,by rw[hds];simp,c5,λb o eb=>?_,cA,?_,λa qa=>qa.elim (fr2 a) (hB a),by rw[D1];simp;~hyl⟩
     ·rw[bQ (iI eb hD)];~(Sq.trans s4) b o eb
     ·have o4:=(ow.same s23).same s4;have ap:Apart A B:=λa qa qb=>by B3⟨⟨u,eu⟩,_⟩:=eQ.cells _ _ _ (ow.same s23) a qa;rw[fB a qb]at eu;cases eu
      have all:eQ K H4 (ds1++[dy]) (gG A B) (ys++[yv]):=cQ.mpr ((cQ.mp o4).snoc oB ap);~eQ.frame (uJ (tZ hD4)) _ _ _ all λa qa=>bQ (qa.elim (λz=>(fr2 a z).2) λz=>(hB a z).2)
   ·have ei:i=n:=by omega
    subst ei;have:(xs.zip ys').drop i=[]:=g8 A6;rw[this]at hcl;B4 Bj at hcl;cases hcl;rw[F0]at hds;subst hds;&.inl ⟨⟨vs,us,sqS s2,sqT s2,by omega⟩,k _ H2 OS ⟨gG (·=D0) A,?_,λa qa=>qa.elim (λz=>by cases z;~hHD) λz=>s1.free (fr2 a z).1⟩⟩;B4 Ow;~⟨D0,ys,A,U,hD2,λz=>(fr2 D0 z).2 U,λ_=>Iff.rfl,ow⟩
  ·cases qb
 ·cases qb
B5 aC5{tes:List AK}{tk:Nat}{tpos:Pos}{elt:AK}{ifs:List AK}{scope:BQ}(N:List Str)(fr:List Nat)(hcalm:X.calm=NU)(B:lC X.env.scope scope X.N N 2 fr)(h:XR K X e1 t1 f)(h2:XR K X e2 t2 g)(hg0:Gl X x)(hm:X.mg x=none)(hv:AZ x=NR (.type "zip"))
  (hg:∀cl fp s H C,PG OI (.Tuple tes tk tpos) (xg X.K)) (hc:∀cl fp s H C,XTs K OI ifs tc fc) (he:∀cl fp s H C,XN K OI elt te fe)
  (hn:x ≠ "__name__" := by decide) (hdb:OH=NV:=by decide) (hst:AJ [e1,e2] X.env=[(NV,AU e1 X.env),(NV,AU e2 X.env)]:=by rfl) (aMc:AJ (e1::[e2]) X.env=(NV,AU e1 X.env)::AJ [e2] X.env:=by rfl) (hpl:(Au p2 (AJ [e2] X.env)).any (·.1)=NV:=by rfl) (hs:∀y,BD (.Call (.Name x p) [e1,e2] [] p2) X.env y=pure y:=by intro _;rfl) :
  XN K X (.ListComp elt [⟨.Tuple tes tk tpos,.Call (.Name x p) [e1,e2] [] p2,ifs,0⟩] scope pos) (Rg (aIx K t1 t2) 2 fr (xg K) tc te) (Lp f g fr fc fe):=
 ⟨h.hk,by
  have hk:=h.hk;subst hk;~uq N 2 fr hcalm B (aIy h.pe h2.pe hg0 hm hv hn hdb hst aMc hpl) hg (λcl fp s H C=>(hc cl fp s H C).pts) (λcl fp s H C=>(he cl fp s H C).pe) hs,
  aC4 h.ev h2.ev (hc [] [] X.s₀ X.H₀ 0).ev (he [] [] X.s₀ X.H₀ 0).ev⟩
end
end L2


namespace L2
open PySem PySem.Spec PyProof.Rows
abbrev aN(ns:List Int):D:=.lst OE
B5 Du{i:Nat}{g:GS}(I:Nat→EN→Prop):∀(xs:List D)(env:EN)(n:Nat),I n env→(∀k x env,xs[k]?=NR x→I (n+k) env→i<env.length∧∃env',g (env.set i (.fro x))=.next env'∧I (n+k+1) env')→∃env',yK i g xs env=.next env'∧I (n+xs.length) env'
 | [],env,n,h,_=>⟨env,by B4 yK;rfl,h⟩
 | x::xs,env,n,h,st=>by
  B3⟨h1,env',h2,h3⟩:=st 0 x env U h;B3⟨cU,a1,a2⟩:=Du I xs env' (n+1) h3 λk y e hk hi=>by have:=st (k+1) y e (by simpa using hk) (by rw[show n+(k+1)=n+1+k by omega];~hi);rw[show n+(k+1)+1=n+1+k+1 by omega]at this;~this
  &⟨cU,?_,?_⟩
  ·B4 yK;rw[if_pos h1,h2];~a1
  ·rw[E3,show n+(xs.length+1)=n+1+xs.length by omega];~a2
B5 dH{g1 g2:GS}{env env':EN}(h:g1 env=.next env'):aY g1 g2 env=g2 env':=by B4 aY;rw[h]
B5 Jd{g1 g2:GS}{env:EN}{d:D}(h:g1 env=.ret d):aY g1 g2 env=.ret d:=by B4 aY;rw[h]
B5 wW{f:FT}{g1 g2:GS}{env:EN}(h:f (rE env)=NR NU):qU f g1 g2 env=g1 env:=by B4 qU;rw[h]
B5 nH{f:FT}{g1 g2:GS}{env:EN}(h:f (rE env)=NR NV):qU f g1 g2 env=g2 env:=by B4 qU;rw[h]
B5 yO{i:Nat}{f:FE}{env:EN}{d:D}(h:f (rE env)=NR d)(hi:i<env.length):cT i f env=.next (env.set i (.own d)):=by B4 cT;rw[h];dsimp only;rw[if_pos hi]
B5 gB{f:FE}{env:EN}{d:D}(h:f (rE env)=NR d):eY f env=.ret d:=by B4 eY;rw[h]
B5 Tr{i:Nat}{fi:FA}{g:GS}{env:EN}{xs:List D}(h:fi (rE env)=NR xs):zV i fi g env=yK i g xs env:=by B4 zV;rw[h]
B5 aFE{js:List Nat}{i:Nat}{fi:FA}{g:GS}{env En:EN}{xs:List D}(h0:Al js env=En)(h:fi (zE En)=NR xs):Wc js i fi g env=yK i g xs En:=by B4 Wc;rw[h0,h]
B5 lW{n m:Nat}{g:GS}{ds:List D}{d:D}(hl:ds.length=m)(h:g (ds.map SD.fro++E9 (n-m) SD.no)=.ret d):oH n m g ds=NR d:=by B4 oH;rw[if_pos hl,h]
B5 aJ{φ:D→D→Option D}{f g:FE}{e:DE}{a b d:D}(h1:f e=NR a)(h2:g e=NR b)(h:φ a b=NR d):f2 φ f g e=NR d:=by B4 f2;rw[h1,h2];~h
B5 cV{φ:List D→Option D}{fs:FA}{e:DE}{ds:List D}{d:D}(h1:fs e=NR ds)(h:φ ds=NR d):fL φ fs e=NR d:=by B4 fL;rw[h1];~h
B5 aA{f:FE}{fs:FA}{e:DE}{a:D}{r:List D}(h1:f e=NR a)(h2:fs e=NR r):aB f fs e=NR (a::r):=by B4 aB;rw[h1,h2];rfl
B5 bM{n:Nat}{F:List D→Option D}{fs:FA}{e:DE}{ds:List D}{d:D}(h1:fs e=NR ds)(hl:ds.length=n)(h:F ds=NR d):cJ n F fs e=NR d:=by B4 cJ;rw[h1];dsimp only[C4];rw[if_pos hl];~h
B5 cB{f:FE}{e:DE}{b:Bool}(h:f e=NR (.bl b)):fB f e=NR b:=by B4 fB;rw[h];rfl
B5 pZ{f:FT}{e:DE}{b:Bool}(h:f e=NR b):Em f e=NR (!b):=by B4 Em;rw[h];rfl
B5 Yl{f g:FT}{e:DE}(h:f e=NR NV):fOr f g e=g e:=by B4 fOr;rw[h];rfl
B5 jl{f g:FT}{e:DE}(h:f e=NR NU):El f g e=g e:=by B4 El;rw[h];rfl
B5 jm{f g:FT}{e:DE}(h:f e=NR NV):El f g e=NR NV:=by B4 El;rw[h];rfl
B5 bD{f:FE}{e:DE}{d:D}(h:f e=NR d)(i:d.jH=NU):cL f e=NR d:=Xk.mpr ⟨h,i⟩
B5 bZ(i j:Int):eX (.int i) (.int j)=NR (.int (i+j)):=rfl
B5 lX(i j:Int):Az (.int i) (.int j)=NR (.int (i-j)):=by B4 Az Pj;~if_pos True.intro
B5 gC{i j:Int}(h:Vs i j):sZ (.int i) (.int j)=NR (.int (i*j)):=by B4 sZ Pj;~if_pos h
B5 fD{i j:Int}(h:0<j)(h2:j<1073741824):rR (.int i) (.int j)=NR (.int (i/j)):=by B4 rR Pj;~if_pos (show aAi i j from⟨h,h2⟩)
B5 bI{i j:Int}(h:0<j):gH (.int i) (.int j)=NR (.int (i%j)):=by B4 gH Pj;~if_pos h
B5 pA{i j:Int}(h:aAj i j):Ek (.int i) (.int j)=NR (.int (i ^ j.toNat)):=by B4 Ek Pj;~if_pos h
B5 vI(i j:Int):gw (.int i) (.int j)=NR (.bl (decide (i<j))):=by B4 gw Pj;~if_pos True.intro
B5 GJ(i j:Int):dGt (.int i) (.int j)=NR (.bl (decide (j<i))):=by B4 dGt Pj;~if_pos True.intro
B5 yP(i j:Int):dGe (.int i) (.int j)=NR (.bl (decide (j≤i))):=by B4 dGe Pj;~if_pos True.intro
B5 Dv(i j:Int):QH (.int i) (.int j)=NR (.bl (decide (i≤j))):=by B4 QH Pj;~if_pos True.intro
B5 yg(i j:Int):decide (V.int i=V.int j)=decide (i=j):=by
 by_cases c:i=j
 ·subst c;simp
 ·rw[decide_eq_false c,decide_eq_false (λz=>c (by cases z;rfl))]
B5 kZ(i j:Int):Fv (.int i) (.int j)=NR (.bl (decide (i=j))):=by B4 Fv toV;dsimp only;rw[if_pos (by rfl),yg]
B5 Dw(i j:Int):ak (.int i) (.int j)=NR (.bl (!decide (i=j))):=by B4 ak toV;dsimp only;rw[if_pos (by rfl),yg]
B5 jn{α:Type}{xs:List α}{i:Int}{x:α}(h0:0≤i)(h:xs[i.toNat]?=NR x):ZX xs i=NR x:=by
 have h1:i.toNat<xs.length:=by B3⟨h1,_⟩:=D4.mp h;~h1
 B4 ZX ZW;rw[if_pos h0,if_pos A6];~h
B5 aFF{α:Type}{xs:List α}{x:α}(h:xs.getLast?=NR x):ZX xs (-1)=NR x:=by
 have hl:0<xs.length:=by
  cases xs with
  | nil=>simp at h
  | cons=>simp
 B4 ZX ZW;rw[if_neg A6,if_pos A6];show xs[((-1:Int)+(xs.length:Int)).toNat]?=NR x;rw[U0]at h;rw[show ((-1:Int)+(xs.length:Int)).toNat=xs.length-1 by omega];~h
B5 tK{ds:List D}{i:Int}{d:D}(h0:0≤i)(h:ds[i.toNat]?=NR d):cW (.lst ds) (.int i)=NR d:=jn h0 h
B5 vJ{ds:List D}{i:Int}{d:D}(h0:0≤i)(h:ds[i.toNat]?=NR d):cW (.tup ds) (.int i)=NR d:=jn h0 h
B5 jX{ns:List Int}{i:Int}(h0:0≤i)(h:i<ns.length):cW (aN ns) (.int i)=NR (.int (ns.getD i.toNat 0)):=jn h0 (by
 rw[C5,B7,B6 (show i.toNat<ns.length by omega)];rfl)
B5 Tt(ds:List D):gZ [.lst ds]=NR (.int ds.length):=rfl
B5 Tu(ds:List D):gZ [.tup ds]=NR (.int ds.length):=rfl
B5 qN(ns:List Int):gZ [aN ns]=NR (.int ns.length):=by show NR (D.int ((ns.map D.int).length:Nat))=_;rw[B8]
B5 Ym{c:D→Option Bool}{el:D→Option D}{φ:D→D}:∀{xs:List D},(∀x∈xs,c x=NR NU)→(∀x∈xs,el x=NR (φ x))→pW c el xs=NR (xs.map φ)
 | [],_,_=>by B4 pW;rfl
 | x::xs,hc,he=>by B4 pW;rw[hc x C8,he x C8,Ym (xs:=xs) (λy hy=>hc y (C6 _ hy)) λy hy=>he y (C6 _ hy)];rfl
B5 Je{c:D→Option Bool}{el:D→Option D}{p:D→Bool}{φ:D→D}:∀{xs:List D},(∀x∈xs,c x=NR (p x))→(∀x∈xs,p x=NU→el x=NR (φ x))→pW c el xs=NR ((xs.filter p).map φ)
 | [],_,_=>by B4 pW;rfl
 | x::xs,hc,he=>by
  have ih:=Je (xs:=xs) (p:=p) (φ:=φ) (λy hy=>hc y (C6 _ hy)) λy hy=>he y (C6 _ hy);B4 pW;rw[hc x C8,C4,t8];cases q:p x with
  | true=>rw[if_pos U,if_pos U,he x C8 q,ih];rfl
  | false=>rw[if_neg A8,if_neg A8];~ih
B5 Bk{fi:FA}{fr:List Nat}{fc:FT}{fe:FE}{e:DE}{xs ys:List D}(h1:fi e=NR xs)(hl:xs.length≤100000)(h:pW (λx=>fc (NR x::nZ e fr)) (λx=>fe (NR x::nZ e fr)) xs=NR ys):eE fi fr fc fe e=NR (.lst ys):=by B4 eE;rw[h1,C4,if_pos hl,h];rfl
B5 yQ(lo:Int)(n:Nat):(jL lo n).length=n:=by B4 jL;rw[B8,E1]
B5 Gh{lo:Int}{n k:Nat}{x:D}(h:(jL lo n)[k]?=NR x):k<n∧x=.int (lo+k):=by
 B4 jL at h;rw[C5]at h;cases q:(D5 n)[k]? with
 | none=>rw[q]at h;cases h
 | some j=>rw[q]at h;B3⟨h1,h2⟩:=D4.mp q;rw[E1]at h1;rw[List.getElem_range]at h2;subst h2;~⟨h1,(E6 h).symm⟩
B5 Gi{lo:Int}{n:Nat}{x:D}(h:x∈jL lo n):∃k:Nat,k<n∧x=.int (lo+k):=by B3⟨k,hk,e⟩:=G6 h;B3⟨a1,a2⟩:=Gh (k:=k) (x:=x) (by rw[B6 hk,e]);~⟨k,a1,a2⟩
B5 UL{fs:FA}{e:DE}{n:Int}(h:fs e=NR [.int n])(h1:-100000≤n)(h2:n≤100000):rA fs e=NR (jL 0 n.toNat):=by B4 rA;rw[h];dsimp only[C4];rw[if_pos (show lim n=NU from decide_eq_true ⟨h1,h2⟩)]
B5 aC6{fs:FA}{e:DE}{i j:Int}(h:fs e=NR [.int i,.int j])(h1:-100000≤i)(h2:i≤100000)(h3:-100000≤j)(h4:j≤100000):QX fs e=NR (jL i (j-i).toNat):=by B4 QX;rw[h];dsimp only[C4];rw[if_pos ⟨show lim i=NU from decide_eq_true ⟨h1,h2⟩,show lim j=NU from decide_eq_true ⟨h3,h4⟩⟩]
B5 Ep{i j:Int}(h1:-18446744073709551616<i)(h2:i<18446744073709551616):Vs i j:=.inl ⟨h1,h2⟩
B5 aKp{i j:Int}(h1:-18446744073709551616<j)(h2:j<18446744073709551616):Vs i j:=.inr ⟨h1,h2⟩
B5 aC7{i:Nat}{f:FE}{env:EN}{ds:List D}{d:D}(h1:env[i]?=NR (.own (.lst ds)))(h2:f (rE env)=NR d)(hl:ds.length<100000):vA i dC f env=.next (env.set i (.own (.lst (ds++[d])))):=by B4 vA dC;rw[h1,h2];dsimp only[gJ];rw[if_pos hl];rfl
end L2


namespace L2
open PySem PySem.Spec PyProof.Rows
section
variable{i j:Nat}{f:FE}{c:FT}{g1 g2 g:GS}{env env':EN}{d:D}{r:SR}{ds:List D}
B5 aC8(h:f (rE env)=NR d)(hi:i<env.length)(k:g (env.set i (.own d))=r):aY (cT i f) g env=r:=(dH (yO h hi)).trans k
B5 aGK{b:Bool}(h:c (rE env)=NR b)(k1:b=NU→aY g1 g env=r)(k2:b=NV→aY g2 g env=r):aY (qU c g1 g2) g env=r:=by
 cases b with
 | true=>have k:=k1 rfl;B4 aY at k ⊢;rw[wW h];~k
 | false=>have k:=k2 rfl;B4 aY at k ⊢;rw[nH h];~k
B5 aIz{b:Bool}(h:c (rE env)=NR b)(hb:b=NV)(k:aY g2 g env=r):aY (qU c g1 g2) g env=r:=aGK h (λz=>by rw[hb]at z;cases z) λ_=>k
B5 aIA{b:Bool}(h:c (rE env)=NR b)(hb:b=NU)(k:aY g1 g env=r):aY (qU c g1 g2) g env=r:=aGK h (λ_=>k) (λz=>by rw[hb]at z;cases z)
B5 aKq(k:g env=r):aY fM g env=r:=k
B5 aKr(h:f (rE env)=NR d)(k:SR.ret d=r):aY (eY f) g env=r:=(Jd (gB h)).trans k
B5 aKs(h:g1 env=.next env')(k:g env'=r):aY g1 g env=r:=(dH h).trans k
B5 aKt{b:Bool}(h:c (rE env)=NR b)(k1:b=NU→g1 env=r)(k2:b=NV→g2 env=r):qU c g1 g2 env=r:=by
 cases b with
 | true=>rw[wW h];~k1 U
 | false=>rw[nH h];~k2 U
B5 Yn(h:env[i]?=NR (.own d)):Nv i env=.ret d:=by B4 Nv;rw[h]
B5 pF{fs:FA}{e:DE}(h:fs e=NR ds)(hl:ds.length≤100000):wO fs e=NR (.tup ds):=by B4 wO cap;rw[h];dsimp only[C4];rw[if_pos hl]
B5 iD{fs:FA}{e:DE}(h:fs e=NR ds)(hl:ds.length≤100000):mR fs e=NR (.lst ds):=by B4 mR cap;rw[h];dsimp only[C4];rw[if_pos hl]
B5 qC{e:DE}{z:Int}(h:f e=NR (.int z)):yM f e=NR (.int (-z)):=by B4 yM;rw[h];rfl
B5 Dy{e:DE}{T:String}{d':D}(h:f e=NR d)(k:RB T d=NR d'):Sx T f e=NR d':=by B4 Sx;rw[h];~k
B5 aC9{e:DE}{b:Bool}(h:f e=NR (.bl b)):QQ f e=NR (.bl (!b)):=by B4 QQ;rw[cB h];rfl
B5 tL{e:DE}{f':FE}(h:f e=NR (.bl NU))(k:f' e=NR d):qL f f' e=NR d:=by B4 qL;rw[cB h];~k
B5 UT{e:DE}{f':FE}{a b:Bool}(h:f e=NR (.bl a))(k:f' e=NR (.bl b)):qL f f' e=NR (.bl (a&&b)):=by
 B4 qL;rw[cB h];cases a with
 | true=>~k
 | false=>rfl
B5 GK{e:DE}{c':FT}{a b:Bool}(h:c e=NR a)(k:c' e=NR b):El c c' e=NR (a&&b):=by
 B4 El;rw[h];cases a with
 | true=>~k
 | false=>rfl
B5 gD{e:DE}(h:f e=NR (.lst ds)):kO f e=NR ds:=by B4 kO;rw[h];rfl
B5 UW{e:DE}(h:f e=NR (.tup ds)):kO f e=NR ds:=by B4 kO;rw[h];rfl
B5 Yo{a b:List D}(h:D.gR (a++b)=NU)(hl:a.length+b.length≤100000):eX (.lst a) (.lst b)=NR (.lst (a++b)):=by show (if D.gR (a++b)=NU∧a.length+b.length≤100000 then NR (D.lst (a++b))else none)=_;rw[if_pos ⟨h,hl⟩]
B5 uA(d:D)(ds:List D):D.gR (d::ds)=(d.jH&&D.gR ds):=by rw[D.gR]
B5 VB{a b:List D}:D.gR (a++b)=(D.gR a&&D.gR b):=by
 induction a with
 | nil=>rw[d9,D.gR];rfl
 | cons x a ih=>rw[R1,uA,uA,ih,Bool.and_assoc]
B5 Tv{ds:List D}(h:∀d∈ds,d.jH=NU):D.gR ds=NU:=by
 induction ds with
 | nil=>B4 D.gR;rfl
 | cons d ds ih=>B4 D.gR;rw[h d C8,ih λe he=>h e (C6 _ he)];rfl
B5 lY(ns:List Int):(dTup ns).jH=NU:=by B4 dTup D.jH;~fK ns
B5 wX(h:D.gR ds=NU):dList [.lst ds]=NR (.lst ds):=by show (if D.gR ds=NU then NR (D.lst ds)else none)=_;rw[if_pos h]
B5 Gj(ns:List Int):vG OE=NR (ns.map DV.int):=by
 induction ns with
 | nil=>B4 vG;rfl
 | cons n ns ih=>rw[E2];B4 vG lU;rw[C4,ih];rfl
B5 aDa(ns ms:List Int):Fv (aN ns) (aN ms)=NR (.bl (decide (ns=ms))):=by
 B4 Fv toV;dsimp only;B4 lU;rw[Gj,Gj];dsimp only[J3];rw[if_pos (by B4 DV.depth;rw[Fj];decide)];congr 2;rw[M7,wM,decide_eq_true_iff];constructor
 ·intro z;injection z with z;~QF.mp z
 ·intro z;rw[z]
end
end L2
namespace L2
B5 nJ{i:Nat}{e:DE}{d:D}(h:e[i]?=NR (NR d)):aD i e=NR d:=by B4 aD;rw[h];rfl
B5 aKu{e:DE}{d:D}:fC d e=NR d:=rfl
B5 VD{e:DE}:aL e=NR []:=rfl
end L2
namespace L2
B5 aDb{i:Nat}{fi:FA}{gb:GS}{env:EN}{n:Nat}(I:Nat→EN→Prop)(h:fi (rE env)=NR (jL 0 n))(h0:I 0 env)
  (st:∀(k:Nat) env,k<n→I k env→i<env.length∧∃env',gb (env.set i (.fro (.int k)))=.next env'∧I (k+1) env'):∃env',zV i fi gb env=.next env'∧I n env':=by
 B3⟨env',h1,h2⟩:=Du (i:=i) (g:=gb) I (jL 0 n) env 0 h0 λk x e hx hi=>by rw[N6]at hi ⊢;B3⟨hk,rfl⟩:=Gh hx;rw[a8];~st k e hk hi
 rw[N6,yQ]at h2;~⟨env',(Tr h).trans h1,h2⟩
B5 Yp{α β:Type}(φ:α→β):∀(l:List α)(k:Nat),(l.map φ).eraseIdx k=(l.eraseIdx k).map φ
 | [],k=>by simp
 | a::l,0=>by simp
 | a::l,k+1=>by rw[E2,N7,N7,E2,Yp φ l k]
B5 GP{i j:Nat}{f:FE}{env:EN}{ns ms:List Int}{k:Int}(h1:env[i]?=NR (.own (aN ns)))(h2:env[j]?=NR (.own (aN ms)))(h3:f (rE env)=NR (.int k))(hij:i≠j)(hn:ns.length<1000)(hm:ms.length<1000)(k0:0≤k)(k1:k<ms.length) :
  Dk i j f env=.next ((env.set j (.own (aN (ms.eraseIdx k.toNat)))).set i (.own (aN (ns++[ms.getD k.toNat 0])))):=by
 have hk:k.toNat<ms.length:=by omega
 B4 Dk;rw[h1,h2,h3];dsimp only;rw[if_pos ⟨hij,by rw[B8];omega,k0,by rw[B8];~k1,by rw[B8];omega⟩];have e:(ms.map D.int)[k.toNat]?=NR (.int (ms.getD k.toNat 0)):=by rw[C5,B7,B6 hk];rfl
 rw[e];dsimp only;rw[if_pos (show D.jH (.int (ms.getD k.toNat 0))=NU from rfl)];have e1:(ms.map D.int).eraseIdx k.toNat=(ms.eraseIdx k.toNat).map D.int:=by rw[Yp]
 have e2:ns.map D.int++[D.int (ms.getD k.toNat 0)]=(ns++[ms.getD k.toNat 0]).map D.int:=by rw[J6];rfl
 rw[e1,e2]
B5 yR(ns:List Int)(n:Int):D.lst (ns.map D.int++[.int n])=aN (ns++[n]):=by B4 aN;rw[J6];rfl
end L2


namespace L2
open PySem PySem.Spec PyProof.Rows
def Qs(Pr:SR→Prop)(r:SR):Prop:=Pr r
section
variable{i j:Nat}{f:FE}{c:FT}{g1 g2 g gb:GS}{env env':EN}{d:D}{ds:List D}{Pr:SR→Prop}
B5 cD(h:f (rE env)=NR d)(hi:i<env.length)(k:Qs Pr (g (env.set i (.own d)))):Qs Pr (aY (cT i f) g env):=by rw[dH (yO h hi)];~k
B5 jo(h:f (rE env)=NR d)(hi:i<env.length)(k:Pr (.next (env.set i (.own d)))):Qs Pr (cT i f env):=by rw[yO h hi];~k
B5 aDc(h:g1 env=.next env')(k:Qs Pr (g env')):Qs Pr (aY g1 g env):=by rw[dH h];~k
B5 yS(k:Qs Pr (g env)):Qs Pr (aY fM g env):=k
B5 aDd(k:Pr (.next env)):Qs Pr (fM env):=k
B5 GQ{b:Bool}(h:c (rE env)=NR b)(k1:b=NU→Qs Pr (aY g1 g env))(k2:b=NV→Qs Pr (aY g2 g env)):Qs Pr (aY (qU c g1 g2) g env):=by
 cases b with
 | true=>have k:=k1 rfl;B4 aY at k ⊢;rw[wW h];~k
 | false=>have k:=k2 rfl;B4 aY at k ⊢;rw[nH h];~k
B5 Bl{b:Bool}(h:c (rE env)=NR b)(k1:b=NU→Qs Pr (g1 env))(k2:b=NV→Qs Pr (g2 env)):Qs Pr (qU c g1 g2 env):=by
 cases b with
 | true=>rw[wW h];~k1 U
 | false=>rw[nH h];~k2 U
B5 wY{b:Bool}(h:c (rE env)=NR b)(hb:b=NV)(k:Qs Pr (aY g2 g env)):Qs Pr (aY (qU c g1 g2) g env):=GQ h (λz=>by rw[hb]at z;cases z) λ_=>k
B5 aGL{b:Bool}(h:c (rE env)=NR b)(hb:b=NU)(k:Qs Pr (aY g1 g env)):Qs Pr (aY (qU c g1 g2) g env):=GQ h (λ_=>k) (λz=>by rw[hb]at z;cases z)
B5 aDe{b:Bool}(h:c (rE env)=NR b)(hb:b=NV)(k:Qs Pr (g2 env)):Qs Pr (qU c g1 g2 env):=Bl h (λz=>by rw[hb]at z;cases z) λ_=>k
B5 VF(h:f (rE env)=NR d)(k:Pr (.ret d)):Qs Pr (aY (eY f) g env):=by rw[Jd (gB h)];~k
B5 pL(h:f (rE env)=NR d)(k:Pr (.ret d)):Qs Pr (eY f env):=by rw[gB h];~k
B5 aDf(h:env[i]?=NR (.own d))(k:Pr (.ret d)):Qs Pr (Nv i env):=by rw[Yn h];~k
B5 aKv(h1:env[i]?=NR (.own (.lst ds)))(h2:f (rE env)=NR d)(hl:ds.length<100000)(k:Qs Pr (g (env.set i (.own (.lst (ds++[d])))))):Qs Pr (aY (vA i dC f) g env):=by rw[dH (aC7 h1 h2 hl)];~k
B5 GR{fi:FA}{n:Nat}(I:Nat→EN→Prop)(h:fi (rE env)=NR (jL 0 n))(h0:I 0 env)
  (st:∀(k:Nat) env,k<n→I k env→i<env.length∧Qs (λr=>∃env',r=.next env'∧I (k+1) env') (gb (env.set i (.fro (.int k))))) (k:∀env',I n env'→Qs Pr (g env')):Qs Pr (aY (zV i fi gb) g env):=by
 B3⟨env',h1,h2⟩:=aDb (gb:=gb) I h h0 λk env hk hi=>⟨(st k env hk hi).1,let ⟨e,a,b⟩:=(st k env hk hi).2;⟨e,a,b⟩⟩
 rw[dH h1];~k env' h2
B5 yh{js:List Nat}{fi:FA}{En:EN}{xs:List D}(I:Nat→EN→Prop)(hf:Al js env=En)(h:fi (zE En)=NR xs)(h0:I 0 En)
  (st:∀(k:Nat) x env,xs[k]?=NR x→I k env→i<env.length∧Qs (λr=>∃env',r=.next env'∧I (k+1) env') (gb (env.set i (.fro x)))) (k:∀env',I xs.length env'→Qs Pr (g env')):Qs Pr (aY (Wc js i fi gb) g env):=by
 B3⟨env',h1,h2⟩:=Du (i:=i) (g:=gb) I xs En 0 h0 λk x e hx hi=>by rw[N6]at hi ⊢;~⟨(st k x e hx hi).1,let ⟨e,a,b⟩:=(st k x e hx hi).2;⟨e,a,b⟩⟩
 rw[N6]at h2;rw[dH ((aFE hf h).trans h1)];~k env' h2
B5 aKw{is:List Nat}(h:f (rE env)=NR (.tup ds))(hl:is.length=ds.length)(hi:is.all (λi=>decide (i<env.length))=NU)(k:Qs Pr (g (pX env is ds))):Qs Pr (aY (yL is f) g env):=by
 have:yL is f env=.next (pX env is ds):=by B4 yL;rw[h];dsimp only;rw[if_pos ⟨hl,hi⟩]
 rw[dH this];~k
B5 oM{n m:Nat}{Pd:D→Prop}(hl:ds.length=m)(h:Qs (λr=>∃d,r=.ret d∧Pd d) (g (ds.map SD.fro++E9 (n-m) SD.no))):∃d,oH n m g ds=NR d∧Pd d:=by B3⟨d,h1,h2⟩:=h;~⟨d,lW hl h1,h2⟩
B5 yU{fs:FA}{e:DE}{n:Nat}(h:fs e=NR [.int (n:Int)])(hn:n≤100000):rA fs e=NR (jL 0 n):=by rw[UL h A6 A6,C7]
end
end L2
namespace L2
B5 yV{fi:FA}{fr:List Nat}{fe:FE}{e:DE}{n:Nat}{φ:Nat→D}(h1:fi e=NR (jL 0 n))(hn:n≤1000)(he:∀k:Nat,k<n→fe (NR (.int k)::nZ e fr)=NR (φ k)):eE fi fr gP fe e=NR (.lst ((D5 n).map φ)):=by
 &Bk h1 (by rw[yQ];omega) ?_;&(Ym (c:=λx=>gP (NR x::nZ e fr)) (φ:=λx=>match x with | .int i=>φ i.toNat | d=>d) Nc ?_).trans ?_
 rotate_left
 ·congr 1;B4 jL;rw[M4];apply T5;intro k _;show φ ((0:Int)+(k:Int)).toNat=φ k;rw[a8,C7]
 ·intro x hx;B3⟨k,hk,rfl⟩:=Gi hx;rw[a8];show _=NR (φ ((k:Int)).toNat);rw[C7];~he k hk
B5 mC{fi:FA}{fr:List Nat}{fe:FE}{e:DE}{α:Type}{xs:List α}{ψ φ:α→D}(h1:fi e=NR (xs.map ψ))(hn:xs.length≤1000)(he:∀x∈xs,fe (NR (ψ x)::nZ e fr)=NR (φ x)):eE fi fr gP fe e=NR (.lst (xs.map φ)):=by
 &Bk h1 (by rw[B8];omega) ?_;clear h1 hn
 induction xs with
 | nil=>rw[K9,K9];B4 pW;rfl
 | cons x xs ih=>rw[E2];B4 pW;show (NR NU).bind _=_;rw[C4,if_pos U,he x C8,C4,ih λy hy=>he y (C6 _ hy)];rfl
B5 Tw{α:Type} [Inhabited α]:∀(l:List α)(k:Nat)(d:α),k<l.length→(l.getD k d::l.eraseIdx k).Perm l
 | [],k,d,h=>absurd h (by simp)
 | a::l,0,d,_=>by simp
 | a::l,k+1,d,h=>by rw[N7,T6];~(y8 _ _ _).trans ((Tw l k d (by simpa using h)).cons a)
B5 dY{α:Type}{l:List α}{k:Nat}{x d:α}(h:l[k]?=NR x):l.getD k d=x:=by rw[B7,h];rfl
B5 dU{α:Type}{l:List α}{k:Nat}{d:α}(h:k<l.length):l[k]?=NR (l.getD k d):=by rw[B7,B6 h];rfl
B5 jq{b:Bool}{f:FE}{l h:FO}{e:DE}{ds:List D}{lo hi:Option Int}(h1:f e=NR (.lst ds))(h2:l e=NR lo)(h3:h e=NR hi)(h4:b=NV∨D.gR (wC ds lo hi)=NU):ao b f l h e=NR (.lst (wC ds lo hi)):=by B4 ao;rw[h1,h2,h3];dsimp only[C4];rw[if_pos h4]
B5 yW(ns ms:List Int)(h:ns.length+ms.length≤100000):eX (aN ns) (aN ms)=NR (aN (ns++ms)):=by have:=Yo (a:=ns.map D.int) (b:=ms.map D.int) (by rw[VB,fK,fK];rfl) (by rw[B8,B8];~h);rw[←J6]at this;~this
end L2


namespace L2
open PySem PySem.Spec PyProof.Rows
section
variable{i j:Nat}{f:FE}{c:FT}{g1 g2 g gb:GS}{env env':EN}{d:D}{ds:List D}{Pr:SR→Prop}
B5 GX{x:D}(h:ds.getLast?=NR x):cW (.lst ds) (.int (-1))=NR x:=aFF h
B5 VG{α:Type}(l:List α):wC l none (NR (-1))=l.dropLast:=by
 B4 wC;show (l.drop 0).take (HT.Kv l.length l.length (NR (-1))-0)=_;have:HT.Kv l.length l.length (NR (-1))=l.length-1:=by show (if(-1:Int)<0 then((-1:Int)+(l.length:Int)).toNat else min (-1:Int).toNat l.length)=_;rw[if_pos A8];omega
 rw[this,i9,a9,List.dropLast_eq_take]
B5 Yq{fc:FT}(I:Nat→EN→Prop)(hs:∀n env,I n env→(fc (rE env)=NR NV)∨(fc (rE env)=NR NU∧0<n∧∃env',gb env=.next env'∧I (n-1) env')):∀(fuel n:Nat)(env:EN),n<fuel→I n env→∃env' n',rY fc gb fuel env=.next env'∧I n' env'∧fc (rE env')=NR NV
 | 0,n,env,h,_=>absurd h A6
 | fuel+1,n,env,h,hi=>by
  rcases hs n env hi with q | ⟨q,hn,env',h1,h2⟩
  ·~⟨env,n,by B4 rY;rw[q],hi,q⟩
  ·B3⟨e2,n2,a1,a2,a3⟩:=Yq I hs fuel (n-1) env' A6 h2;&⟨e2,n2,?_,a2,a3⟩;B4 rY;rw[q,h1];~a1
end
end L2
namespace L2
B5 yj{l:List Int}{b:Int}:(G2 b:Key)∈l.map (G2:Int→Key)↔b∈l:=by
 rw[J4];constructor
 ·rintro⟨a,h1,h2⟩;cases h2;~h1
 ·intro h;~⟨b,h,U⟩
B5 Bm{l:List Int}{b:Int}(h:b∉l):posK (l.map (G2:Int→Key)) (G2 b)=none:=Dh.mpr λz=>h (yj.mp z)
B5 aFG{i:Nat}{f f':FE}{env:EN}{ks:List Key}{ds:List D}{kd d:D}{k:Key}(h1:env[i]?=NR (.own (.dk ks ds)))(h2:f (rE env)=NR kd)(h3:f' (rE env)=NR d)(h4:Wa kd=NR k)(h5:posK ks k=none)(im:d.jH=NU)(hl:ks.length<100000):sX i dC f f' env=.next (env.set i (.own (.dk (ks++[k]) (ds++[d])))):=by
 have e1:mH ks k=ks++[k]:=by B4 mH;rw[h5];rfl
 have e2:putD ks ds k d=ds++[d]:=by B4 putD;rw[h5];rfl
 B4 sX dC;rw[h1,h2,h3];dsimp only[gJ];rw[h4];dsimp only;rw[if_pos ⟨im,hl⟩,e1,e2];rfl
B5 Yr(l:List Int):D.lst ((l.map (G2:Int→Key)).map kD)=aN l:=by B4 aN;rw[M4];rfl
B5 aFH{fc:FT}{gb g:GS}{env:EN}{Pr:SR→Prop}{fuel n:Nat}(I:Nat→EN→Prop)(h0:I n env)(hn:n<fuel)(hs:∀n env,I n env→(fc (rE env)=NR NV)∨(fc (rE env)=NR NU∧0<n∧∃env',gb env=.next env'∧I (n-1) env'))
  (k:∀env' n',I n' env'→fc (rE env')=NR NV→Qs Pr (g env')):Qs Pr (aY (rY fc gb fuel) g env):=by
 B3⟨env',n',a1,a2,a3⟩:=Yq I hs fuel n env hn h0;rw[dH a1];~k env' n' a2 a3
end L2
namespace L2
B5 aA5(ns:List Int):QJ OE=NR (ns.map V.int):=by
 induction ns with
 | nil=>B4 QJ;rfl
 | cons n ns ih=>rw[E2];B4 QJ toV;rw[C4,ih];rfl
B5 VH(neg:Bool)(i:Int)(ns:List Int):dIn neg (.int i) (aN ns)=NR (.bl (if neg then !decide (i∈ns)else decide (i∈ns))):=by B4 dIn;show (NR (V.int i)).bind _=_;rw[C4];show (NR OE).bind _=_;rw[C4,aA5,C4,if_pos ⟨U,aAy ns⟩,aEU]
B5 Jf{ns:List Int}(h:ns.length<64):Ij [aN ns]=NR (aN (sortI ns)):=by show (intsOf OE).bind _=_;rw[lM,C4,if_pos h]
end L2


namespace L2
open PySem PySem.Spec PyProof.Rows
def Vo(ks:List Int):D:=.dk (ks.map G2) (ks.map λ_=>.bl NU)
B5 aDg(i:Int)(ks:List Int):(posK (ks.map (G2:Int→Key)) (G2 i)).isSome=decide (i∈ks):=by
 by_cases c:i∈ks
 ·rw[decide_eq_true c];cases q:posK (ks.map (G2:Int→Key)) (G2 i)with
  | some j=>rfl
  | none=>~absurd (yj.mpr c) (Dh.mp q)
 ·rw[decide_eq_false c,Bm c];rfl
B5 HD(neg:Bool)(i:Int)(ks:List Int):Ib neg (.int i) (Vo ks)=NR (.bl (if neg then !decide (i∈ks)else decide (i∈ks))):=by show NR (D.bl (if neg then !(posK (ks.map (G2:Int→Key)) (G2 i)).isSome else(posK (ks.map (G2:Int→Key)) (G2 i)).isSome))=_;rw[aDg]
def jr(ks:List Int)(k:Int):List Int:=if k∈ks then ks else ks++[k]
B5 Ys(k:Key):∀ks:List Int,R9 (λ(k':Key) (d':D)=>if k'=k then D.bl NU else d') (ks.map G2) (ks.map λ_=>D.bl NU)=ks.map λ_=>D.bl NU
 | []=>rfl
 | a::ks=>by
  rw[E2,E2,K1,Ys k ks]
  split<;>rfl
B5 aKx{i:Nat}{f f':FE}{env:EN}{ks:List Int}{k:Int}(h1:env[i]?=NR (.own (Vo ks)))(h2:f (rE env)=NR (.int k))(h3:f' (rE env)=NR (.bl NU))(hl:ks.length<1000):sX i dC f f' env=.next (env.set i (.own (Vo (jr ks k)))):=by
 B4 sX dC;rw[h1,h2,h3];dsimp only[gJ,Vo];show (if D.jH (.bl NU)=NU∧(ks.map (G2:Int→Key)).length<100000 then _ else _)=_;rw[if_pos ⟨U,by rw[B8];omega⟩];have e1:mH (ks.map (G2:Int→Key)) (G2 k)=(jr ks k).map G2:=by
  B4 mH jr;rw[aDg];by_cases c:k∈ks
  ·simp[c]
  ·simp[c]
 have e2:putD (ks.map (G2:Int→Key)) (ks.map λ_=>D.bl NU) (G2 k) (.bl NU)=(jr ks k).map λ_=>D.bl NU:=by
  B4 putD jr;rw[aDg];by_cases c:k∈ks
  ·rw[decide_eq_true c,if_pos U,if_pos c,Ys]
  ·rw[decide_eq_false c,if_neg A8,if_neg c,J6];rfl
 rw[e1,e2];rfl
B5 Lq{fi:FA}{fr:List Nat}{fc:FT}{fe:FE}{e:DE}{ms:List Int}(p:Int→Bool)(φ:Int→D)(h1:fi e=NR (ms.map D.int))(hn:ms.length≤1000)(hc:∀m∈ms,fc (NR (.int m)::nZ e fr)=NR (p m))(he:∀m∈ms,p m=NU→fe (NR (.int m)::nZ e fr)=NR (φ m)) :
  eE fi fr fc fe e=NR (.lst ((ms.filter p).map φ)):=by
 &Bk h1 (by rw[B8];omega) ?_;clear h1 hn
 induction ms with
 | nil=>rw[K9];B4 pW;rfl
 | cons m ms ih=>
  have ih:=ih (λy hy=>hc y (C6 _ hy)) λy hy=>he y (C6 _ hy);rw[E2];B4 pW;rw[hc m C8,C4,t8];cases q:p m with
  | true=>rw[if_pos U,if_pos U,he m C8 q,C4,ih];rfl
  | false=>rw[if_neg A8,if_neg A8];~ih
B5 Gk{fi:FA}{fr:List Nat}{fc:FT}{fe:FE}{e:DE}{ms:List Int}(p:Int→Bool)(φ:Int→Int)(h1:fi e=NR (ms.map D.int))(hn:ms.length≤1000)(hc:∀m∈ms,fc (NR (.int m)::nZ e fr)=NR (p m))(he:∀m∈ms,p m=NU→fe (NR (.int m)::nZ e fr)=NR (.int (φ m))) :
  eE fi fr fc fe e=NR (aN ((ms.filter p).map φ)):=by
 rw[Lq p (λm=>.int (φ m)) h1 hn hc he];B4 aN;rw[M4];rfl
B5 dW{φ:D→Option D}{f:FE}{e:DE}{a d:D}(h1:f e=NR a)(h:φ a=NR d):tG φ f e=NR d:=by B4 tG;rw[h1];~h
B5 jt{ns:List Int}(h:ns.length<64):xf (aN ns)=NR (aN (aq ns)):=by show (intsOf OE).bind _=_;rw[lM,C4,if_pos h]
B5 VJ(ns:List Int):Sd [aN ns]=NR (dTup ns):=by B4 Sd;dsimp only;rw[show Ac (aN ns)=NR (ns.map D.int)from by B4 aN Ac;rfl,C4,if_pos (fK _)];rfl
B5 ju{ns:List Int}(h:0<ns.length):vf [aN ns]=NR (.int (ig ns)):=by show (intsOf OE).bind _=_;rw[lM,C4,if_pos h]
B5 VL{α β:Type}(φ:α→β)(l:List α)(lo hi:Option Int):wC (l.map φ) lo hi=(wC l lo hi).map φ:=by B4 wC;rw[B8,←k8,←k7]
B5 VM{b:Bool}{f:FE}{l h:FO}{e:DE}{ns:List Int}{lo hi:Option Int}(h1:f e=NR (aN ns))(h2:l e=NR lo)(h3:h e=NR hi):ao b f l h e=NR (aN (wC ns lo hi)):=by rw[jq h1 h2 h3 (.inr (by rw[VL];~fK _)),VL]
B5 aIB{α:Type}{l:List α}{c:Nat}(h:c≤l.length):wC l (NR (c:Int)) none=l.drop c:=by B4 wC;show (l.drop (HT.Kv l.length 0 (NR (c:Int)))).take (l.length-HT.Kv l.length 0 (NR (c:Int)))=_;rw[Hx,show min c l.length=c by omega,P2 (by rw[O1];omega)]
B5 aIC{α:Type}(l:List α)(c:Nat):wC l none (NR (c:Int))=l.take c:=by
 B4 wC;show (l.drop 0).take (HT.Kv l.length l.length (NR (c:Int))-0)=_;rw[Hx,i9,a9];rcases G4 c l.length with z | z
 ·rw[show min c l.length=c by omega]
 ·rw[show min c l.length=l.length by omega,P2 (C9 _),P2 z]
B5 aDh{α:Type}(l:List α)(a b:Nat):wC l (NR (a:Int)) (NR (b:Int))=(l.drop a).take (b-a):=by
 B4 wC;rw[Hx,Hx];&K5 λk=>?_;rw[U6,U3,U6,U3];rcases G4 a l.length with z | z
 ·rw[show min a l.length=a by omega];by_cases c:k<min b l.length-a
  ·rw[if_pos c,if_pos A6]
  ·rw[if_neg c];by_cases c2:k<b-a
   ·rw[if_pos c2,D9 A6]
   ·rw[if_neg c2]
 ·rw[show min a l.length=l.length by omega,D9 (show l.length≤l.length+k by omega),D9 (show l.length≤a+k by omega)]
  split<;>split<;>rfl
structure lH where
 bY:Int
 place:Int
 thing:List Int
 needs:List Int
 deriving Inhabited
def MP(c:lH):D:=.tup [.int c.bY,.int c.place,dTup c.thing,dTup c.needs]
def yX(cs:List lH):D:=.lst (cs.map MP)
B5 aID(c:lH):(MP c).jH=NU:=by B4 MP D.jH;rw[uA,uA,uA,uA,lY,lY];rfl
abbrev at_(cs:List lH)(k:Nat):lH:=cs.getD k default
B5 HF{cs:List lH}{k:Nat}(h:k<cs.length):cW (yX cs) (.int k)=NR (MP (at_ cs k)):=tK A6 (by
 rw[C7,C5,dU (d:=default) h]
 rfl)
B5 yl(c:lH):cW (MP c) (.int 0)=NR (.int c.bY):=vJ A8 U
B5 VN(c:lH):cW (MP c) (.int 1)=NR (.int c.place):=vJ A8 U
B5 Tz(c:lH):cW (MP c) (.int 2)=NR (dTup c.thing):=vJ A8 U
B5 VP(c:lH):cW (MP c) (.int 3)=NR (dTup c.needs):=vJ A8 U
B5 HH(cs:List lH):gZ [yX cs]=NR (.int cs.length):=by show NR (D.int ((cs.map MP).length:Nat))=_;rw[B8]
def Good(cs:List lH):Prop:=cs.length≤124∧∀k,k<cs.length→(∀m∈(at_ cs k).needs,0≤m∧m<k)∧(at_ cs k).needs.Pairwise (·<·)∧(at_ cs k).needs.length≤9
def chV(c:lH):DV:=.tup [.int c.bY,.int c.place,.tup (c.thing.map DV.int),.tup (c.needs.map DV.int)]
B5 VR(ns ms:List Int):ak (aN ns) (aN ms)=NR (.bl (!decide (ns=ms))):=by
 have e:∀l:List Int,lU (aN l)=NR (.lst (l.map DV.int)):=λl=>by B4 aN lU;rw[Gj];rfl
 B4 ak;rw[e,e];B4 toV;dsimp only;rw[if_pos (by rw[Fj];decide)];congr 3;rw[M7,wM,decide_eq_true_iff];constructor
 ·intro z;injection z with z;~QF.mp z
 ·intro z;rw[z]
end L2
namespace L2
B5 wZ{f:FE}{e:DE}{i:Int}(h:f e=NR (.int i)):mV f e=NR (NR i):=by B4 mV;rw[h];rfl
B5 aDi(ks:List Int):Rz [Vo ks]=NR (aN ks):=by show NR (D.lst ((ks.map (G2:Int→Key)).map kD))=_;rw[Yr]
B5 gK{cs:List lH}{c:lH}{k:Nat}(h:k<cs.length):at_ (cs++[c]) k=at_ cs k:=by B4 at_;rw[B7,B7,F9 h]
B5 mK(cs:List lH)(c:lH):at_ (cs++[c]) cs.length=c:=by B4 at_;rw[B7,J7 (C9 _)];simp
B5 aA6(cs:List lH)(c:lH):D.lst (cs.map MP++[MP c])=yX (cs++[c]):=by B4 yX;rw[J6];rfl
B5 aA7{f:FE}{e:DE}{ns:List Int}(h:f e=NR (dTup ns)):kO f e=NR OE:=UW h
end L2
namespace L2
B5 Yt(i j:Int):QV [.int i,.int j]=NR (.int (if j > i then j else i)):=rfl
end L2


namespace L2
open PySem PySem.Spec PyProof.Rows
B5 aFI{e:DE}{f f':FE}{a b:Bool}(h:f e=NR (.bl a))(k:f' e=NR (.bl b)):aAD f f' e=NR (.bl (a||b)):=by
 B4 aAD;rw[cB h];cases a with
 | true=>rfl
 | false=>~k
B5 Jg{α:Type}(p:α→Bool)(l:List α):Sg [.lst (l.map λx=>D.bl (p x))]=NR (.bl (l.all p)):=by show (zT (l.map λx=>D.bl (p x))).map _=_;rw[Ld];show NR (D.bl ((l.map p).all id))=_;rw[List.all_map];rfl
end L2


namespace L2
open PySem PySem.Spec PyProof.Rows
B5 nM:∀(n:Nat)(l:List Int),l.Nodup→(∀x∈l,0≤x∧x<(n:Int))→l.length≤n
 | 0,l,_,h=>by
  cases l with
  | nil=>~C9 _
  | cons a l=>have:=h a C8;omega
 | n+1,l,hn,h=>by
  by_cases c:(n:Int)∈l
  ·have e:=Z8 c;have:=nM n (l.erase (n:Int)) (hn.erase _) λx hx=>by B3⟨h1,h2⟩:=(hn.mem_erase_iff).mp hx;have:=h x h2;omega
   omega
  ·have:=nM n l hn λx hx=>by have:=h x hx;have ne:x≠(n:Int):=λz=>c (by rw[←z];~hx);omega
   omega
section
variable{i j:Nat}{f f':FE}{c:FT}{g1 g2 g gb:GS}{env env':EN}{d d0 d' r:D}{ds:List D}{Pr:SR→Prop}{v:V}{π:FP}{p:List Step}
B5 nO{n m:Nat}(hl:ds.length=m)(h:g (ds.map SD.fro++E9 (n-m) SD.no)=.ret d):oZ n m g ds=NR d:=by B4 oZ;rw[if_pos hl,h]
B5 Gm{n m:Nat}(hl:ds.length=m)(h:g (ds.map SD.fro++E9 (n-m) SD.no)=.next env'):oZ n m g ds=NR .non:=by B4 oZ;rw[if_pos hl,h]
B5 yo{n m:Nat}{Pd:D→Prop}(hl:ds.length=m)(h:Qs (λr=>∃d,r=.ret d∧Pd d) (g (ds.map SD.fro++E9 (n-m) SD.no))):∃d,oZ n m g ds=NR d∧Pd d:=by B3⟨d,h1,h2⟩:=h;~⟨d,nO hl h1,h2⟩
B5 qD{n m:Nat}{es:List D}(hl:es.length+1=m)(h:∀v,Qs (RQ r d' v) (g (aAY n m d es v))):oY n m g (d::es)=NR (r,d'):=aCQ hl h
B5 yp(h1:env[i]?=NR (.inn v d))(h2:g1 (env.set i (.own d))=.next env')(h3:env'[i]?=NR (.own d')):jW i g1 env=.next (env'.set i (.inn v d')):=by B4 jW;rw[h1];dsimp only;rw[h2];dsimp only;rw[h3]
B5 rC(h1:env[i]?=NR (.inn v d))(h2:g1 (env.set i (.own d))=.next env')(h3:env'[i]?=NR (.own d'))(k:Qs Pr (g (env'.set i (.inn v d')))):Qs Pr (aY (jW i g1) g env):=by rw[dH (yp h1 h2 h3)];~k
B5 Ua(h1:env[i]?=NR (.inn v d))(h2:g1 (env.set i (.own d))=.next env')(h3:env'[i]?=NR (.own d'))(k:Pr (.next (env'.set i (.inn v d')))):Qs Pr (jW i g1 env):=by rw[yp h1 h2 h3];~k
B5 Jh(h:f (rE env)=NR d):zU f env=.next env:=by B4 zU;rw[h]
B5 jw(h:f (rE env)=NR d)(k:Qs Pr (g env)):Qs Pr (aY (zU f) g env):=by rw[dH (Jh h)];~k
B5 Lr(h1:env[i]?=NR (.own d0))(h2:π (rE env)=NR p)(h3:gJ p d0=NR (.lst ds))(h4:f (rE env)=NR d)(hl:ds.length<100000):vA i π f env=.next (env.set i (.own (fO p d0 (.lst (ds++[d]))))):=by B4 vA;rw[h1,h2,h4];dsimp only;rw[h3];dsimp only;rw[if_pos hl]
B5 yq{k:Int}(h1:env[i]?=NR (.own d0))(h2:π (rE env)=NR p)(h3:gJ p d0=NR (.lst ds))(h4:f (rE env)=NR (.int k))(h5:f' (rE env)=NR d)(k0:0≤k)(k1:k<ds.length):wU i π f f' env=.next (env.set i (.own (fO p d0 (.lst (ds.set k.toNat d))))):=by
 B4 wU;rw[h1,h2,h4,h5];dsimp only;rw[h3];dsimp only;have:ZW ds.length k=NR k.toNat:=by B4 ZW;rw[if_pos k0,if_pos k1]
 rw[this]
B5 Qg{ks:List Key}{k:Key}{kd:D}(h1:env[i]?=NR (.own d0))(h2:π (rE env)=NR p)(h3:gJ p d0=NR (.dk ks ds))(h4:f (rE env)=NR kd)(h5:Wa kd=NR k)(h6:f' (rE env)=NR d)(im:d.jH=NU)(hl:ks.length<100000):sX i π f f' env=.next (env.set i (.own (fO p d0 (.dk (mH ks k) (putD ks ds k d))))):=by B4 sX;rw[h1,h2,h4,h6];dsimp only;rw[h3,h5];dsimp only;rw[if_pos ⟨im,hl⟩]
B5 aFJ{ks:List (List Key)}{k:List Key}{fk:FK}(h1:env[i]?=NR (.own d0))(h2:π (rE env)=NR p)(h3:gJ p d0=NR (.dt ks ds))(h4:fk (rE env)=NR k)(h6:f' (rE env)=NR d)(im:d.jH=NU)(hl:ks.length<100000):Yd i π fk f' env=.next (env.set i (.own (fO p d0 (.dt (mH ks k) (putD ks ds k d))))):=by B4 Yd;rw[h1,h2,h4,h6];dsimp only;rw[h3];dsimp only;rw[if_pos ⟨im,hl⟩]
B5 aIE{C:AF}{nm:List Str}{x:Str}(h1:env[i]?=NR (.own d0))(h2:π (rE env)=NR p)(h3:gJ p d0=NR (.ins C nm ds))(h4:f (rE env)=NR d)(hl:nm.length<900):wV C i π x f env=.next (env.set i (.own (fO p d0 (.ins C (Yb nm ds x d).1 (Yb nm ds x d).2)))):=by B4 wV;rw[h1,h2,h4];dsimp only;rw[h3];dsimp only;rw[if_pos ⟨U,hl⟩]
B5 bU{C:AF}{m:Str}{n:Nat}{F:List D→Option D}{fo:FE}{fs:FA}{dds es:List D}{e:DE}{nm:List Str}(h1:fo e=NR (.ins C nm ds))(hm:m∉nm)(h2:fs e=NR es)(hl:es.length+dds.length+1=n)(h3:F (.ins C nm ds::(es++dds))=NR r):fH C m n F fo fs dds e=NR r:=by B4 fH;rw[h1];dsimp only[C4];rw[if_pos ⟨U,hm⟩,h2];dsimp only[C4];rw[if_pos hl];~h3
B5 lD{C:AF}{m:Str}{F:List D→Option (D×D)}{fs:FA2}{es:List D}{nm:List Str}{back:D→SD}(h1:env[i]?.bind SD.hold=NR (d0,back))(h2:π (rE env)=NR p)(h3:gJ p d0=NR (.ins C nm ds))(hm:m∉nm)(h4:fs (rE env) (rE (env.set i .no))=NR es)(h5:F (.ins C nm ds::es)=NR (r,d')):pO C m i π F fs env=NR (r,env.set i (back (fO p d0 d'))):=by B4 pO;rw[h1,h2,h4];dsimp only;rw[h3];dsimp only;rw[if_pos ⟨U,hm⟩,h5];rfl
B5 Ub{C:AF}{F:List D→Option (D×D)}{fs:FA}{e:DE}{es:List D}(h1:fs e=NR es)(h2:F (.ins C [] []::es)=NR (.non,d')):Th C F fs e=NR d':=by B4 Th;rw[h1];dsimp only[C4];rw[h2]
B5 fU{fs:FA2}{eF eZ:DE}{es:List D}(h1:f eZ=NR d)(h2:fs eF eZ=NR es):Be f fs eF eZ=NR (d::es):=by B4 Be;rw[h1,h2];rfl
B5 Uc{fs:FA2}{eF eZ:DE}{es:List D}(h1:f eF=NR d)(h2:fs eF eZ=NR es):faN f fs eF eZ=NR (d::es):=by B4 faN;rw[h1,h2];rfl
B5 HJ{gm:GM}(h:gm env=NR (d,env'))(hi:i<env'.length)(k:Qs Pr (g (env'.set i (.own d)))):Qs Pr (aY (Ir i gm) g env):=by
 have:Ir i gm env=.next (env'.set i (.own d)):=by B4 Ir;rw[h];dsimp only;rw[if_pos hi]
 rw[dH this];~k
B5 Ls{gm:GM}(h:gm env=NR (d,env')):uL gm env=.next env':=by B4 uL;rw[h]
B5 HN{gm:GM}(h:gm env=NR (d,env'))(k:Qs Pr (g env')):Qs Pr (aY (uL gm) g env):=by rw[dH (Ls h)];~k
B5 Qh{gm:GM}(h:gm env=NR (d,env'))(k:Pr (.rete d env')):Qs Pr (Iu gm env):=by
 have:Iu gm env=.rete d env':=by B4 Iu;rw[h]
 rw[this];~k
B5 Qi(h:env[i]?=NR (.own d))(k:Pr (.rete d (env.set i .no))):Qs Pr (yN i env):=by
 have:yN i env=.rete d (env.set i .no):=by B4 yN;rw[h]
 rw[this];~k
B5 aIF(h:f (rE env)=NR d):gmN f env=NR (d,env):=by B4 gmN;rw[h];rfl
B5 Qj{f1 f2 f3:FE}{e:DE}{a b c:Int}(h1:f1 e=NR (.int a))(h2:f2 e=NR (.int b))(h3:f3 e=NR (.int c)):We QH gw f1 f2 f3 e=NR (decide (a≤b)&&decide (b<c)):=by
 B4 We;rw[h1,h2,h3];dsimp only[C4];rw[Dv,C4];by_cases q:a≤b
 ·rw[decide_eq_true q];dsimp only;rw[vI,C4];simp
 ·rw[decide_eq_false q];simp
B5 Yu{all:List D}(I:Nat→EN→Prop)(hI:∀k env,I k env→env[j]?=NR (.inn v (.lst all))):∀(xs:List D)(n:Nat)(env:EN),I n env→(∀k x env,xs[k]?=NR x→I (n+k) env→i<env.length∧∃cU,g (env.set i (.fro x))=.next cU∧I (n+k+1) cU)→∃cU,Ae j i g v all xs env=.next cU∧I (n+xs.length) cU
 | [],n,env,h,_=>⟨env,by B4 Ae;rw[if_pos (hI _ _ h)],h⟩
 | x::xs,n,env,h,st=>by
  B3⟨h1,cU,h2,h3⟩:=st 0 x env U h;B3⟨e3,a1,a2⟩:=Yu I hI xs (n+1) cU h3 λk y e hk hi=>by have:=st (k+1) y e (by simpa using hk) (by rw[show n+(k+1)=n+1+k by omega];~hi);rw[show n+(k+1)+1=n+1+k+1 by omega]at this;~this
  &⟨e3,?_,?_⟩
  ·B4 Ae;rw[if_pos ⟨h1,hI _ _ h⟩,h2];~a1
  ·rw[E3,show n+(xs.length+1)=n+1+xs.length by omega];~a2
def lv(ns:List Int)(o:SD):Nat→SD
 | 0=>o
 | k+1=>.fro (.int (ns.getD k 0))
B5 jx{ns:List Int}(env':EN)(h:env[j]?=NR (.own (aN ns)))(h1:env'[j]?=NR (.own (aN ns)))(I:V→Nat→EN→Prop)(h0:∀v,I v 0 (env.set j (.inn v (aN ns))))(hI:∀v k env,I v k env→env[j]?=NR (.inn v (aN ns)))(st:∀v k x env,ns[k]?=NR x→I v k env→i<env.length∧∃cU,gb (env.set i (.fro (.int x)))=.next cU∧I v (k+1) cU)(fin:∀v cU,I v ns.length cU→cU=env'.set j (.inn v (aN ns)))(k:Qs Pr (g env')):Qs Pr (aY (Fd j i gb) g env):=by
 have:Fd j i gb env=.next env':=aCS h h1 λv=>by
  B3⟨e2,a1,a2⟩:=Yu (i:=i) (g:=gb) (I v) (hI v) OE 0 _ (h0 v) λk x e hx hi=>by
   rw[N6]at hi ⊢;rw[C5]at hx;cases q:ns[k]? with
   | none=>rw[q]at hx;cases hx
   | some y=>rw[q]at hx;cases hx;~st v k y e q hi
  rw[N6,B8]at a2;rw[a1,fin v e2 a2]
 rw[dH this];~k
B5 Dz(neg:Bool)(a:D):Ja neg a .non=NR (.bl (if neg then !a.SN else a.SN)):=rfl
B5 aGM{f g:FE}{e:DE}(h:c e=NR NU)(h2:f e=NR d):fIf c f g e=NR d:=by B4 fIf;rw[h];~h2
B5 aGN{f g:FE}{e:DE}(h:c e=NR NV)(h2:g e=NR d):fIf c f g e=NR d:=by B4 fIf;rw[h];~h2
end
end L2


local macro_rules | `(tactic| walk_at "fs")=>`(tactic| ~⟨rfl,rfl,rfl,by decide +kernel,rfl,by decide +kernel,by decide +kernel⟩)
namespace Rs
open PySem L2
def top(i:Nat):AO:=PySem.Challenge.pw_ripestone_k32_whole_sound.main.body.getD i (.Pass ⟨0,0,0,0⟩)
def lA:List Str:=["panes", "asked", "newest", "held", "unsettled"]
def fV:List Str:=["bench", "spots", "string", "loose", "lasts", "comings", "goings"]
abbrev Ud:AO:=top 42
noncomputable def WD:GS:=aY (qU (fB (f2 gw (aD 1) (fL gZ OK))) (eY (cL (f2 cW (aD 0) (aD 1)))) fM)
 (eY Nw)
noncomputable def mX:List D→Option D:=oH 2 2 (WD)
abbrev Lw:AO:=top 44
noncomputable def Yv:GS:=aY (cT 1 (cJ 2 mX (aB (aD 0) (aB Nw aL))))
 (aY (qU (fB (f2 Fv (f2 gH (f2 rR (aD 1) (fC (.int 30))) (fC (.int 8))) OA)) (eY (wO (aB (f2 eX OA (f2 gH (aD 1) (fC (.int 8)))) (aB (f2 eX OA (f2 gH (f2 rR (aD 1) (fC (.int 240))) (fC (.int 8)))) aL)))) fM)
 (eY (wO (aB (f2 eX OA (f2 gH (aD 1) (fC (.int 5)))) (aB (f2 eX OA (f2 gH (f2 rR (aD 1) (fC (.int 5))) (fC (.int 6)))) aL)))))
noncomputable def xF:List D→Option D:=oH 2 1 (Yv)
abbrev Lx:AO:=top 43
noncomputable def Yw:GS:=aY (cT 2 (f2 gH (f2 sZ (f2 eX (f2 gH (aD 0) (fC (.int 2147483629))) OA) (f2 eX (fC (.int 48271)) (f2 sZ (f2 sZ (fC (.int 2)) (aD 1)) (aD 1)))) (fC (.int 2147483629))))
 (eY (f2 gH (f2 sZ (aD 2) (aD 2)) (fC (.int 2147483587))))
noncomputable def mD:List D→Option D:=oH 3 2 (Yw)
abbrev Gn:AO:=top 45
noncomputable def Ue:GS:=aY (cT 4 (cJ 2 mD (aB (aD 0) (aB (f2 sZ (fC (.int 5)) (aD 1)) aL))))
 (aY (cT 5 (cL (f2 cW (mR (aB Nw (aB OA (aB (fC (.int 2)) (aB (f2 sZ (cJ 2 mD (aB (aD 0) (aB (f2 eX (f2 sZ (fC (.int 5)) (aD 1)) OA) aL))) (f2 Ek (fC (.int 10)) (fC (.int 40)))) (aB (yM OA) aL)))))) (f2 gH (aD 4) (fC (.int 5))))))
 (aY (cT 6 Nw)
 (aY (qU (fB (f2 Fv (f2 gH (f2 rR (aD 4) (fC (.int 5))) (fC (.int 2))) OA)) (cT 6 (f2 eX OA (f2 gH (f2 rR (aD 4) (fC (.int 10))) (fC (.int 9))))) fM)
 (aY (qU (fB (f2 Fv (aD 6) Nw)) (cT 5 (fL aFy (aB (aD 5) aL))) fM)
 (eY OO)))))
noncomputable def qO:List D→Option D:=oH 7 4 (Ue)
abbrev xG:AO:=top 46
noncomputable def Yx:GS:=aY (yL [1,2] (cJ 1 xF OK))
 (aY (cT 3 (fL Jc (aB OA (aB (f2 sZ (aD 1) (aD 2)) aL))))
 (aY (cT 4 (mR (aB Nw aL)))
 (aY (zV 5 (rA (aB (f2 gH (cJ 2 mX (aB (aD 0) (aB OA aL))) (f2 sZ (aD 1) (aD 2))) aL)) (Dk 4 3 (f2 gH (cJ 2 mD (aB (cJ 2 mX (aB (aD 0) (aB OA aL))) (aB (aD 5) aL))) (fL gZ (aB (aD 3) aL)))))
 (aY (cT 6 (eE (rA OV) [2] gP (eE (rA OV) [] gP (wO (aB Nw (aB Nw (aB (yM OA) (aB (yM OA) (aB Nw aL)))))))))
 (aY (cT 7 (cJ 2 mX (aB (aD 0) (aB (fC (.int 2)) aL))))
 (aY (Wc [3] 8 (kO (aD 3)) (wU 6 (EY dC (f2 gH (aD 8) (aD 1))) (f2 rR (aD 8) (aD 1)) (cJ 4 qO (aB (aD 7) (aB (aD 8) (aB (f2 gH (aD 7) (f2 Ek (fC (.int 10)) (fC (.int 9)))) (aB (f2 gH (f2 sZ (aD 8) (aD 8)) (f2 sZ (aD 1) (aD 2))) aL)))))))
 (aY (cT 9 (f2 gH (aD 7) (f2 Ek (fC (.int 10)) (fC (.int 58)))))
 (aY (zV 5 (rA (aB (fL gZ (aB (aD 4) aL)) aL)) (aY (cT 8 (cL (f2 cW (aD 4) (aD 5))))
 (aY (wU 6 (EY dC (f2 gH (aD 8) (aD 1))) (f2 rR (aD 8) (aD 1)) (cJ 4 qO (aB (aD 7) (aB (f2 eX (aD 5) (fC (.int 100))) (aB (aD 9) (aB (f2 cW (f2 eX (aD 4) (mR (aB Nw aL))) (f2 eX (aD 5) OA)) aL))))))
 (cT 9 (f2 eX (f2 eX (aD 9) OA) (f2 sZ (f2 gH (cJ 2 mD (aB (aD 7) (aB (f2 eX (aD 5) (fC (.int 7))) aL))) (fC (.int 3))) (f2 cW (mR (aB OA (aB (f2 Ek (fC (.int 10)) (fC (.int 40))) aL))) (f2 gH (aD 7) (fC (.int 2))))))))))
 (aY (zV 10 (rA OV) (vA 6 (EY dC (aD 10)) (wO (aB (f2 gH (cJ 2 mD (aB (aD 7) (aB (f2 eX (aD 10) (fC (.int 70))) aL))) (fC (.int 10))) aL))))
 (Nv 6))))))))))
noncomputable def xH:List D→Option D:=oH 11 1 (Yx)
abbrev uM:AO:=inClass (top 13) 0
noncomputable def Ug(κ:Nat→AF):GS:=aY (jW 0 (wV (κ 0) 0 dC "panes" (eE (kO (aD 1)) [] gP (fL dList OK))))
 (aY (jW 0 (wV (κ 0) 0 dC "asked" (mR aL)))
 (aY (jW 0 (wV (κ 0) 0 dC "newest" (fC (.dt [] []))))
 (aY (jW 0 (wV (κ 0) 0 dC "held" (fC (.dk [] []))))
 (jW 0 (wV (κ 0) 0 dC "unsettled" (eE (kO (aD 1)) [] gP (mR aL)))))))
noncomputable def uN(κ:Nat→AF):List D→Option (D×D):=oY 2 2 (Ug κ)
abbrev Uh:AO:=top 22
noncomputable def WK:GS:=eY (cL (f2 cW (f2 cW (aD 0) (f2 cW (aD 1) Nw)) (f2 cW (aD 1) OA)))
noncomputable def Bo:List D→Option D:=oH 2 2 (WK)
abbrev HQ:AO:=top 21
noncomputable def yu:GS:=eY (wO (aB (f2 gH (aD 1) (fL gZ OK)) (aB (f2 rR (aD 1) (fL gZ OK)) aL)))
noncomputable def yZ:List D→Option D:=oH 2 2 (yu)
abbrev Ly:AO:=top 23
noncomputable def Yy:GS:=eY (cJ 2 Bo (aB (aD 0) (aB (cJ 2 yZ (aB (aD 0) OV)) aL)))
noncomputable def jO:List D→Option D:=oH 2 2 (Yy)
abbrev Lz:AO:=top 27
noncomputable def Yz:GS:=aY (cT 1 (fC (.dk [] [])))
 (aY (cT 2 (cL (f2 cW (cJ 2 jO (aB (aD 0) (aB (fC (.int (0))) aL))) (fC (.int (1))))))
 (aY (rY (El (fB (f2 ak (aD 2) (fC (.int (0))))) (fB (f2 (Ib NU) (aD 2) (aD 1)))) (aY (sX 1 dC (aD 2) (fC (.bl NU)))
 (cT 2 (cL (f2 cW (cJ 2 jO (aB (aD 0) (aB (aD 2) aL))) (fC (.int (1))))))) 400)
 (eY (fL Rz OV))))
noncomputable def nP:List D→Option D:=oH 3 1 (Yz)
abbrev Gp:AO:=top 26
noncomputable def Gq:GS:=eY (f2 sZ (fL gZ OK) (f2 Az (fL gZ (aB (f2 cW (aD 0) Nw) aL)) OA))
noncomputable def lN:List D→Option D:=oH 1 1 (Gq)
abbrev vK:AO:=top 28
noncomputable def Nx:GS:=aY (cT 1 (cJ 1 nP OK))
 (eY (eE (QX (aB (f2 eX (fC (.int (0))) OA) (aB (cJ 1 lN OK) aL))) [1] (fB (f2 (dIn NU) (aD 0) (aD 1))) (cL (aD 0))))
noncomputable def rF:List D→Option D:=oH 2 1 (Nx)
abbrev vL:AO:=inClass (top 39) 0
noncomputable def Bp(κ:Nat→AF):GS:=aY (jW 0 (wV (κ 1) 0 dC "bench" (Th (κ 0) (uN κ) OV)))
 (aY (jW 0 (wV (κ 1) 0 dC "spots" (eE (rA (aB (cJ 1 lN OV) aL)) [1] gP (cJ 2 yZ (aB (aD 1) OK)))))
 (aY (jW 0 (wV (κ 1) 0 dC "string" (cJ 1 nP OV)))
 (aY (jW 0 (wV (κ 1) 0 dC "loose" (cJ 1 rF OV)))
 (aY (jW 0 (wV (κ 1) 0 dC "lasts" (fC (.dk [] []))))
 (aY (jW 0 (wV (κ 1) 0 dC "comings" (fC (.dk [] []))))
 (jW 0 (wV (κ 1) 0 dC "goings" (fC (.dk [] [])))))))))
noncomputable def pP(κ:Nat→AF):List D→Option (D×D):=oY 2 2 (Bp κ)
abbrev zA:AO:=inClass (top 39) 2
noncomputable def HR(κ:Nat→AF):GS:=eY (fL dList (aB (tG (fP (κ 1) "string") (aD 0)) aL))
noncomputable def jY(κ:Nat→AF):List D→Option D:=oZ 1 1 (HR κ)
abbrev Gr:AO:=top 41
noncomputable def Ui:GS:=aY (cT 1 (f2 gH (f2 sZ (f2 eX (f2 gH (aD 0) (fC (.int 2147483629))) OA) (fC (.int 48271))) (fC (.int 2147483629))))
 (eY (f2 eX (f2 gH (f2 sZ (aD 1) (aD 1)) (fC (.int 2147483587))) (f2 sZ (f2 gH (aD 0) (f2 Ek (fC (.int 10)) (fC (.int 50)))) (fC (.int 2147483587)))))
noncomputable def mY:List D→Option D:=oH 2 1 (Ui)
abbrev vM:AO:=inClass (top 13) 8
noncomputable def WL(κ:Nat→AF):GS:=eY (eE (kO (tG (fP (κ 0) "panes") (aD 0))) [] gP (fL dList OK))
noncomputable def rG(κ:Nat→AF):List D→Option D:=oZ 1 1 (WL κ)
abbrev HS:AO:=top 49
noncomputable def yw:GS:=aY (cT 1 (f2 sZ (fL gZ OK) (f2 Az (fL gZ (aB (f2 cW (aD 0) Nw) aL)) OA)))
 (aY (cT 2 (mR aL))
 (aY (cT 3 (cL (f2 cW (f2 cW (f2 cW (aD 0) Nw) Nw) OA)))
 (aY (zV 4 (rA (aB (f2 eX (aD 1) OA) aL)) (aY (qU (fB (f2 Fv (aD 3) Nw)) (Nv 2) fM)
 (aY (qU (fOr (Em (fB (Sx "int" (aD 3)))) (fOr (fB (f2 gw (aD 3) Nw)) (fB (f2 dGe (aD 3) (aD 1))))) (eY (fC .non)) fM)
 (aY (vA 2 dC (cL (aD 3)))
 (cT 3 (cL (f2 cW (f2 cW (f2 cW (aD 0) (f2 gH (aD 3) (fL gZ OK))) (f2 rR (aD 3) (fL gZ OK))) OA)))))))
 (eY (fC .non)))))
noncomputable def vN:List D→Option D:=oH 5 1 (yw)
abbrev sE:AO:=inClass (top 13) 1
noncomputable def zW(κ:Nat→AF):GS:=qU (Em (We QH gw Nw (aD 1) (fL gZ (aB (tG (fP (κ 0) "panes") (aD 0)) aL)))) aCM fM
noncomputable def jP(κ:Nat→AF):List D→Option D:=oZ 2 2 (zW κ)
abbrev qP:AO:=inClass (top 13) 2
noncomputable def xJ(κ:Nat→AF):GS:=aY (zU (fH (κ 0) "check_pane" 2 (jP κ) (aD 0) OV []))
 (qU (Em (We QH gw Nw (aD 2) (fL gZ (aB (f2 cW (tG (fP (κ 0) "panes") (aD 0)) (aD 1)) aL)))) aCM fM)
noncomputable def iU(κ:Nat→AF):List D→Option D:=oZ 3 3 (xJ κ)
abbrev Gs:AO:=inClass (top 13) 5
noncomputable def Uj(κ:Nat→AF):GS:=aY (zU (fH (κ 0) "check_place" 3 (iU κ) (aD 0) OZ []))
 (aY (qU (fB (Wf NV (Lk OZ) (tG (fP (κ 0) "newest") (aD 0)))) (eY (cL (f2 cW (f2 cW (tG (fP (κ 0) "asked") (aD 0)) (Tj (tG (fP (κ 0) "newest") (aD 0)) (Lk OZ))) (fC (.int (2)))))) fM)
 (eY (cL (f2 cW (f2 cW (tG (fP (κ 0) "panes") (aD 0)) (aD 1)) (aD 2)))))
noncomputable def uO(κ:Nat→AF):List D→Option D:=oZ 3 3 (Uj κ)
abbrev sG:AO:=inClass (top 39) 1
noncomputable def zX(κ:Nat→AF):GS:=aY (cT 2 (cL (f2 cW (tG (fP (κ 1) "spots") (aD 0)) (aD 1))))
 (eY (fH (κ 0) "seen" 3 (uO κ) (tG (fP (κ 1) "bench") (aD 0)) (aB (f2 cW (aD 2) Nw) (aB (f2 cW (aD 2) OA) aL)) []))
noncomputable def bC(κ:Nat→AF):List D→Option D:=oZ 3 2 (zX κ)
abbrev qF:AO:=inClass (top 13) 3
noncomputable def vO(κ:Nat→AF):GS:=qU (Em (We QH gw Nw (aD 1) (fL gZ (aB (tG (fP (κ 0) "asked") (aD 0)) aL)))) aCM fM
noncomputable def iG(κ:Nat→AF):List D→Option D:=oZ 2 2 (vO κ)
abbrev Ma:AO:=inClass (top 13) 4
noncomputable def Za(κ:Nat→AF):GS:=aY (zU (fH (κ 0) "check_place" 3 (iU κ) (aD 0) OZ []))
 (aY (cT 5 (fIf (fB (f2 (Ja NV) (aD 4) (fC .non))) (mR aL) (fL dList (aB (aD 4) aL))))
 (aY (Fd 5 6 (zU (fH (κ 0) "check_change" 2 (iG κ) (aD 0) (aB (aD 6) aL) [])))
 (aY (qU (fB (Wf NV (Lk OZ) (tG (fP (κ 0) "newest") (aD 0)))) (vA 5 dC (Tj (tG (fP (κ 0) "newest") (aD 0)) (Lk OZ))) fM)
 (aY (cT 7 (fL gZ (aB (tG (fP (κ 0) "asked") (aD 0)) aL)))
 (aY (jW 0 (vA 0 (Ad (κ 0) "asked" dC) (wO (aB (cL (aD 1)) (aB (cL (aD 2)) (aB (cL (aD 3)) (aB (fL Sd (aB (tG xf (aD 5)) aL)) aL)))))))
 (aY (jW 0 (Yd 0 (Ad (κ 0) "newest" dC) (Lk OZ) (aD 7)))
 (aY (jW 0 (vA 0 (EY (Ad (κ 0) "unsettled" dC) (aD 1)) (cL (aD 7))))
 (yN 7))))))))
noncomputable def Ea(κ:Nat→AF):List D→Option (D×D):=oY 8 5 (Za κ)
abbrev HW:AO:=top 38
noncomputable def aIG:GS:=eY (eE (kO (aD 0)) [] (fB (f2 (Ja NU) (aD 0) (fC .non))) (cL (aD 0)))
noncomputable def HX:List D→Option D:=oH 1 1 (aIG)
abbrev zB:AO:=inClass (top 39) 10
noncomputable def Ji(κ:Nat→AF):GS:=aY (cT 4 (cL (f2 cW (tG (fP (κ 1) "spots") (aD 0)) (aD 1))))
 (aY (Ir 5 (pO (κ 0) "put" 0 (Ad (κ 1) "bench" dC) (Ea κ) (λeF eZ=>((Be (f2 cW (aD 4) Nw) (Be (f2 cW (aD 4) OA) (Be (aD 2) (Be (cJ 1 HX (aB (aD 3) aL)) oK)))) eF eZ).map (·++[]))))
 (aY (jW 0 (sX 0 (Ad (κ 1) "lasts" dC) (aD 1) (aD 5)))
 (yN 5)))
noncomputable def nQ(κ:Nat→AF):List D→Option (D×D):=oY 6 4 (Ji κ)
abbrev sH:AO:=inClass (top 39) 5
noncomputable def Ot(κ:Nat→AF):GS:=eY (f2 Tp (tG (fP (κ 1) "comings") (aD 0)) (aD 1))
noncomputable def pG(κ:Nat→AF):List D→Option D:=oZ 2 2 (Ot κ)
abbrev qQ:AO:=inClass (top 39) 11
noncomputable def xK(κ:Nat→AF):GS:=Iu (pO (κ 1) "write" 0 dC (nQ κ) (λeF eZ=>((Be (aD 1) (Be (aD 2) (faN (f2 eX (mR (aB (fH (κ 1) "coming_in" 2 (pG κ) (aD 0) OV []) aL)) (aD 3)) oK))) eF eZ).map (·++[])))
noncomputable def gO(κ:Nat→AF):List D→Option (D×D):=oY 4 4 (xK κ)
abbrev oO:AO:=inClass (top 39) 8
noncomputable def sY(κ:Nat→AF):GS:=aY (cT 2 (fIf (fB (f2 (Ja NV) (aD 1) (fC .non))) (mR aL) (fL dList OV)))
 (aY (Fd 2 3 (zU (fH (κ 0) "check_change" 2 (iG κ) (tG (fP (κ 1) "bench") (aD 0)) (aB (aD 3) aL) [])))
 (Nv 2))
noncomputable def cG(κ:Nat→AF):List D→Option D:=oZ 4 2 (sY κ)
abbrev uP:AO:=inClass (top 39) 14
noncomputable def Bq(κ:Nat→AF):GS:=aY (cT 6 (fH (κ 1) "record_of" 2 (bC κ) (aD 0) OV []))
 (Iu (pO (κ 1) "write_tied" 0 dC (gO κ) (λeF eZ=>((Be (aD 1) (Be (wO (aB (cL (f2 cW (aD 6) (fC (.int (0))))) (aB (cL (f2 cW (aD 6) (fC (.int (1))))) (aB (cL (aD 2)) (aB (cL (aD 3)) (aB (cL (aD 4)) aL)))))) (faN (fH (κ 1) "further_needs" 2 (cG κ) (aD 0) (aB (aD 5) aL) []) oK))) eF eZ).map (·++[]))))
noncomputable def qG(κ:Nat→AF):List D→Option (D×D):=oY 7 6 (Bq κ)
abbrev sI:AO:=inClass (top 39) 9
noncomputable def Ou(κ:Nat→AF):GS:=eY (cL (f2 cW (f2 eX (mR (aB (fC (.int (0))) aL)) (tG (fP (κ 1) "string") (aD 0))) (aD 1)))
noncomputable def jQ(κ:Nat→AF):List D→Option D:=oZ 2 2 (Ou κ)
abbrev Br:AO:=inClass (top 39) 12
noncomputable def Ny(κ:Nat→AF):GS:=aY (cT 4 (fH (κ 1) "record_of" 2 (bC κ) (aD 0) OV []))
 (Iu (pO (κ 1) "write_tied" 0 dC (gO κ) (λeF eZ=>((Be (aD 1) (Be (wO (aB (cL (f2 cW (aD 4) (fC (.int (0))))) (aB (cL (aD 2)) (aB (cL (f2 cW (aD 4) (fC (.int (2))))) (aB (cL (f2 cW (aD 4) (fC (.int (3))))) (aB (cL (f2 cW (aD 4) (fC (.int (4))))) aL)))))) (Be (aD 3) oK))) eF eZ).map (·++[]))))
noncomputable def mZ(κ:Nat→AF):List D→Option (D×D):=oY 5 4 (Ny κ)
abbrev qH:AO:=inClass (top 39) 7
noncomputable def Jj(κ:Nat→AF):GS:=eY (f2 Tp (tG (fP (κ 1) "lasts") (aD 0)) (aD 1))
noncomputable def mL(κ:Nat→AF):List D→Option D:=oZ 2 2 (Jj κ)
abbrev zF:AO:=inClass (top 39) 15
noncomputable def Jk(κ:Nat→AF):GS:=aY (cT 3 (fH (κ 1) "box_ahead" 2 (jQ κ) (aD 0) (aB (f2 Bh (tG (fP (κ 1) "string") (aD 0)) (aD 1)) aL) []))
 (aY (cT 4 (f2 eX (mR (aB (fH (κ 1) "last_change" 2 (mL κ) (aD 0) OV []) aL)) (fH (κ 1) "further_needs" 2 (cG κ) (aD 0) (aB (aD 2) aL) [])))
 (aY (Ir 5 (pO (κ 1) "link" 0 dC (mZ κ) (λeF eZ=>((Be (aD 3) (faN (cL (f2 cW (fH (κ 1) "record_of" 2 (bC κ) (aD 0) OV []) (fC (.int (1))))) (Be (aD 4) oK))) eF eZ).map (·++[]))))
 (aY (jW 0 (jj 0 (Ad (κ 1) "string" dC) (aD 1)))
 (aY (jW 0 (vA 0 (Ad (κ 1) "loose" dC) (cL (aD 1))))
 (aY (jW 0 (sX 0 (Ad (κ 1) "goings" dC) (aD 1) (aD 5)))
 (yN 5))))))
noncomputable def nR(κ:Nat→AF):List D→Option (D×D):=oY 6 3 (Jk κ)
abbrev Bu:AO:=inClass (top 39) 3
noncomputable def WM(κ:Nat→AF):GS:=eY (fL Ij (aB (tG (fP (κ 1) "loose") (aD 0)) aL))
noncomputable def vP(κ:Nat→AF):List D→Option D:=oZ 1 1 (WM κ)
abbrev HY:AO:=top 48
noncomputable def yx:GS:=aY (qU (fB (f2 Fv (aD 0) (mR aL))) (eY (f2 gH (aD 2) (f2 Ek (fC (.int 10)) (fC (.int 58))))) fM)
 (aY (qU (fB (f2 Fv (aD 1) Nw)) (eY (f2 Az (f2 Az (f2 cW (aD 0) Nw) OA) (f2 gH (aD 2) (f2 Ek (fC (.int 10)) (fC (.int 50)))))) fM)
 (aY (qU (El (fB (f2 gw (aD 1) (fL gZ OK))) (fB (f2 dGt (f2 Az (f2 cW (aD 0) (aD 1)) (f2 cW (aD 0) (f2 Az (aD 1) OA))) OA))) (eY (f2 eX (f2 eX (f2 cW (aD 0) (f2 Az (aD 1) OA)) OA) (f2 gH (aD 2) (f2 Az (f2 Az (f2 cW (aD 0) (aD 1)) (f2 cW (aD 0) (f2 Az (aD 1) OA))) OA)))) fM)
 (eY (f2 eX (f2 eX (f2 cW (aD 0) (yM OA)) OA) (f2 gH (aD 2) (f2 Ek (fC (.int 10)) (fC (.int 50))))))))
noncomputable def Jl:List D→Option D:=oH 3 3 (yx)
abbrev sJ:AO:=inClass (top 39) 6
noncomputable def Ov(κ:Nat→AF):GS:=eY (f2 Tp (tG (fP (κ 1) "goings") (aD 0)) (aD 1))
noncomputable def pH(κ:Nat→AF):List D→Option D:=oZ 2 2 (Ov κ)
abbrev tO:AO:=inClass (top 39) 13
noncomputable def Jm(κ:Nat→AF):GS:=aY (qU (fB (f2 Fv (fL gZ (aB (tG (fP (κ 1) "loose") (aD 0)) aL)) Nw)) aCM fM)
 (aY (cT 6 (fH (κ 1) "further_needs" 2 (cG κ) (aD 0) (aB (aD 5) aL) []))
 (aY (cT 7 (fL gZ (aB (eE (kO (tG (fP (κ 1) "string") (aD 0))) [0,1] (fB (f2 gw (f2 cW (fH (κ 1) "record_of" 2 (bC κ) (aD 1) OK []) (fC (.int (0)))) (aD 2))) (cL (aD 0))) aL)))
 (aY (cT 8 (fH (κ 1) "box_ahead" 2 (jQ κ) (aD 0) (aB (aD 7) aL) []))
 (aY (cT 9 (fL vf (aB (tG (fP (κ 1) "loose") (aD 0)) aL)))
 (aY (Ir 10 (pO (κ 1) "write" 0 dC (nQ κ) (λeF eZ=>((Be (aD 9) (faN (wO (aB (cL (aD 1)) (aB (cL (f2 cW (fH (κ 1) "record_of" 2 (bC κ) (aD 0) (aB (aD 8) aL) []) (fC (.int (1))))) (aB (cL (aD 2)) (aB (cL (aD 3)) (aB (cL (aD 4)) aL)))))) (faN (mR (aB (fH (κ 1) "going_out" 2 (pH κ) (aD 0) (aB (aD 9) aL) []) aL)) oK))) eF eZ).map (·++[]))))
 (aY (Ir 11 (pO (κ 1) "link" 0 dC (mZ κ) (λeF eZ=>((Be (aD 8) (Be (aD 9) (Be (f2 eX (mR (aB (aD 10) aL)) (aD 6)) oK))) eF eZ).map (·++[]))))
 (aY (jW 0 (aA2 0 (Ad (κ 1) "string" dC) (aD 7) (aD 9)))
 (aY (jW 0 (jj 0 (Ad (κ 1) "loose" dC) (aD 9)))
 (aY (jW 0 (sX 0 (Ad (κ 1) "comings" dC) (aD 9) (aD 11)))
 (Iu (gmN (wO (aB (cL (aD 9)) (aB (cL (aD 11)) aL))))))))))))))
noncomputable def tQ(κ:Nat→AF):List D→Option (D×D):=oY 12 6 (Jm κ)
abbrev Jo:AO:=top 50
noncomputable def qI(κ:Nat→AF):GS:=aY (cT 3 (fH (κ 1) "order" 1 (jY κ) (aD 0) aL []))
 (aY (cT 4 (f2 rR (aD 2) (fC (.int 3))))
 (qU (El (fB (f2 Fv (f2 gH (aD 2) (fC (.int 3))) Nw)) (fB (f2 ak (aD 3) (mR aL)))) (aY (cT 5 (f2 gH (aD 4) (fL gZ (aB (aD 3) aL))))
 (jW 1 (Yj 1 (fC (.str "out")) (pO (κ 1) "leave" 0 dC (nR κ) (λeF eZ=>((Be (f2 cW (aD 3) (aD 5)) oK) eF eZ).map (·++[.non]))) (aB (cL (f2 cW (aD 3) (aD 5))) (aB Nw aL))))) (qU (El (fB (f2 Fv (f2 gH (aD 2) (fC (.int 3))) OA)) (fB (f2 ak (aD 3) (mR aL)))) (uL (pO (κ 1) "rewrite" 0 dC (qG κ) (λeF eZ=>((Be (f2 cW (aD 3) (f2 gH (aD 4) (fL gZ (aB (aD 3) aL)))) (Be (yM OA) (Be (f2 gH (aD 4) (f2 Ek (fC (.int 10)) (fC (.int 50)))) (Be Nw oK)))) eF eZ).map (·++[.non])))) (qU (fB (f2 ak (fH (κ 1) "free" 1 (vP κ) (aD 0) aL []) (mR aL))) (aY (cT 6 (eE (kO (aD 3)) [0] gP (cL (f2 cW (fH (κ 1) "record_of" 2 (bC κ) (aD 1) OK []) Nw))))
 (aY (cT 5 (f2 gH (aD 4) (f2 eX (fL gZ (aB (aD 3) aL)) OA)))
 (aY (cT 7 (cJ 3 Jl (aB (aD 6) (aB (aD 5) (aB (f2 rR (aD 4) (fC (.int 5))) aL)))))
 (aY (Yk [8,9] (pO (κ 1) "enter" 0 dC (tQ κ) (λeF eZ=>((Be (aD 7) (Be (yM OA) (Be (f2 gH (aD 4) (f2 Ek (fC (.int 10)) (fC (.int 50)))) (Be Nw oK)))) eF eZ).map (·++[.non]))))
 (aY (cT 5 (f2 Bh (fL Ij (aB (f2 eX (aD 6) (mR (aB (aD 7) aL))) aL)) (aD 7)))
 (jW 1 (vA 1 dC (wO (aB (fC (.str "in")) (aB (cL (aD 9)) (aB (cL (aD 8)) (aB (cL (f2 cW (f2 eX (mR (aB Nw aL)) (aD 3)) (aD 5))) aL)))))))))))) fM))))
noncomputable def Bv(κ:Nat→AF):List D→Option (D×List D):=Tn 10 [NU,NU,NV] (qI κ)
abbrev zG:AO:=top 6
noncomputable def Uk:GS:=aY (cT 3 (fC (.dk [] [])))
 (aY (Wc [] 4 (kO (aD 2)) (qU (fB (fL Sg (aB (eE (kO (f2 cW (f2 cW (aD 0) (aD 4)) (fC (.int (3))))) [1,3] gP (aAD (f2 (Ib NV) (aD 0) (aD 1)) (f2 (Ib NV) (aD 0) (aD 2)))) aL))) (sX 3 dC (aD 4) (fC (.bl NU))) fM))
 (eY (fL Rz (aB (aD 3) aL))))
noncomputable def uQ:List D→Option D:=oH 5 3 (Uk)
abbrev zH:AO:=inClass (top 13) 6
noncomputable def Jp(κ:Nat→AF):GS:=aY (cT 2 (cL (f2 cW (tG (fP (κ 0) "asked") (aD 0)) (aD 1))))
 (aY (jW 0 (wU 0 (EY (Ad (κ 0) "panes" dC) (f2 cW (aD 2) (fC (.int (0))))) (f2 cW (aD 2) (fC (.int (1)))) (cL (f2 cW (aD 2) (fC (.int (2)))))))
 (jW 0 (sX 0 (Ad (κ 0) "held" dC) (aD 1) (fC (.bl NU)))))
noncomputable def tR(κ:Nat→AF):List D→Option (D×D):=oY 3 2 (Jp κ)
abbrev vQ:AO:=inClass (top 13) 7
noncomputable def Nz(κ:Nat→AF):GS:=aY (zU (fH (κ 0) "check_pane" 2 (jP κ) (aD 0) OV []))
 (aY (cT 3 (cJ 3 uQ (aB (tG (fP (κ 0) "asked") (aD 0)) (aB (tG (fP (κ 0) "held") (aD 0)) (aB (f2 cW (tG (fP (κ 0) "unsettled") (aD 0)) (aD 1)) aL)))))
 (aY (qU (fB (f2 (Ja NU) (aD 2) (fC .non))) (cT 3 (ao NU (aD 3) (Bc) (mV (fL QV (aB (aD 2) (aB Nw aL)))))) fM)
 (aY (Fd 3 4 (uL (pO (κ 0) "strike" 0 dC (tR κ) (λeF eZ=>((Be (aD 4) oK) eF eZ).map (·++[])))))
 (aY (jW 0 (wU 0 (Ad (κ 0) "unsettled" dC) (aD 1) (eE (kO (f2 cW (tG (fP (κ 0) "unsettled") (aD 0)) (aD 1))) [0] (fB (f2 (Ib NU) (aD 0) (tG (fP (κ 0) "held") (aD 1)))) (cL (aD 0)))))
 (yN 3)))))
noncomputable def rH(κ:Nat→AF):List D→Option (D×D):=oY 5 3 (Nz κ)
abbrev Mf:AO:=top 51
noncomputable def Zb:GS:=aY (cT 3 (fC .non))
 (aY (Wc [] 4 (kO (aD 1)) (aY (cT 5 (cL (f2 cW (f2 cW (aD 0) (f2 gH (aD 4) (fL gZ OK))) (f2 rR (aD 4) (fL gZ OK)))))
 (aY (qU (fOr (fB (f2 (dIn NU) (f2 cW (aD 5) Nw) (f2 cW (aD 2) (aD 4)))) (El (fB (f2 (Ja NU) (aD 3) (fC .non))) (fB (f2 QH (f2 cW (aD 5) Nw) (aD 3))))) (eY (fC (.bl NV))) fM)
 (cT 3 (cL (f2 cW (aD 5) Nw))))))
 (eY (fC (.bl NU))))
noncomputable def uB:List D→Option D:=oH 6 3 (Zb)
abbrev Jq:AO:=top 31
noncomputable def zb:GS:=aY (qU (fOr (Em (fB (Sx "list" (aD 0)))) (Em (We QH QH OA (fL gZ OK) (fC (.int 8))))) (eY (fC (.bl NV))) fM)
 (aY (qU (Em (fB (fL Sg (aB (eE (kO (aD 0)) [] gP (Sx "list" (aD 0))) aL)))) (eY (fC (.bl NV))) fM)
 (eY (qL (jk QH QH (fC (.int 2)) (fL gZ (aB (f2 cW (aD 0) Nw) aL)) (fC (.int 9))) (fL Sg (aB (eE (kO (aD 0)) [0] gP (f2 Fv (fL gZ OK) (fL gZ (aB (f2 cW (aD 1) Nw) aL)))) aL)))))
noncomputable def Jr:List D→Option D:=oH 1 1 (zb)
abbrev lE:AO:=top 35
noncomputable def Bw:GS:=aY (cT 1 (cJ 1 nP OK))
 (aY (qU (fB (f2 ak (f2 cW (cJ 2 jO (aB (aD 0) (aB (f2 cW (f2 eX (mR (aB (fC (.int (0))) aL)) (aD 1)) (yM OA)) aL))) (fC (.int (1)))) (fC (.int (0))))) (eY (fC (.bl NV))) fM)
 (aY (cT 2 (eE (kO (aD 1)) [0] gP (cJ 2 jO (aB (aD 1) OK))))
 (aY (qU (fB (fL aE1 (aB (eE (kO (aD 2)) [] gP (qL (f2 Fv (f2 cW (aD 0) (fC (.int (4)))) Nw) (f2 Fv (f2 cW (aD 0) (fC (.int (3)))) (fC (.int (-1)))))) aL))) (eY (fC (.bl NV))) fM)
 (eY (fL Sg (aB (Lp (aD 2) (ao NV (aD 2) (mV OA) (Bc)) [] gP (f2 gw (f2 cW (aD 0) (fC (.int (0)))) (f2 cW (aD 1) (fC (.int (0)))))) aL))))))
noncomputable def nA:List D→Option D:=oH 3 1 (Bw)
abbrev Ul:AO:=top 29
noncomputable def aDj:GS:=eY (qL (Sx "int" (aD 0)) (QQ (Sx "bool" (aD 0))))
noncomputable def By:List D→Option D:=oH 1 1 (aDj)
abbrev Eb:AO:=top 30
noncomputable def aA8:GS:=eY (qL (Sx "tuple" (aD 0)) (qL (f2 Fv (fL gZ OK) (aD 1)) (fL Sg (aB (eE (kO (aD 0)) [] gP (cJ 1 By OK)) aL))))
noncomputable def uC:List D→Option D:=oH 2 2 (aA8)
abbrev IK:AO:=top 32
noncomputable def aFK:GS:=eY (qL (cJ 2 uC (aB (aD 0) (aB OA aL))) (f2 dGe (f2 cW (aD 0) Nw) Nw))
noncomputable def Qk:List D→Option D:=oH 1 1 (aFK)
abbrev Mg:AO:=top 33
noncomputable def Zc:GS:=aY (qU (Em (fB (cJ 2 uC (aB (aD 0) (aB (fC (.int 5)) aL))))) (eY (fC (.bl NV))) fM)
 (eY (qL (jk QH gw Nw (f2 cW (aD 0) (fC (.int (1)))) (aD 1)) (qL (f2 dGe (f2 cW (aD 0) (fC (.int (2)))) (fC (.int (-1)))) (qL (f2 dGe (f2 cW (aD 0) (fC (.int (3)))) (fC (.int (-1)))) (f2 dGe (f2 cW (aD 0) (fC (.int (4)))) Nw)))))
noncomputable def uD:List D→Option D:=oH 2 2 (Zc)
abbrev vR:AO:=top 34
noncomputable def WN:GS:=eY (qL (cJ 1 Qk (aB (f2 cW (aD 0) (yM OA)) aL)) (fL Sg (aB (eE (kO (ao NV (aD 0) (Bc) (mV (yM OA)))) [1] gP (cJ 2 uD (aB (aD 0) OV))) aL)))
noncomputable def rJ:List D→Option D:=oH 2 2 (WN)
abbrev Js:AO:=top 36
noncomputable def WQ:GS:=aY (qU (Em (fB (cJ 1 Jr OK))) (eY (fC (.bl NV))) fM)
 (aY (cT 1 (cJ 1 lN OK))
 (eY (qL (fL Sg (aB (eE (kO (aD 0)) [1] gP (cJ 2 rJ (aB (aD 0) OV))) aL)) (cJ 1 nA OK))))
noncomputable def xM:List D→Option D:=oH 2 1 (WQ)
abbrev aDk:AO:=top 52
noncomputable def aKy(κ:Nat→AF):GS:=aY (cT 1 (cJ 1 xH OK))
 (aY (cT 2 (Th (κ 1) (pP κ) OV))
 (aY (cT 3 (f2 sZ (fL gZ OV) (f2 Az (fL gZ (aB (f2 cW (aD 1) Nw) aL)) OA)))
 (aY (cT 4 (eE (rA (aB (aD 3) aL)) [] gP (mR aL)))
 (aY (Tg 5 (fH (κ 1) "order" 1 (jY κ) (aD 2) aL []) (vA 4 (EY dC (aD 5)) (cL (f2 cW (fH (κ 1) "record_of" 2 (bC κ) (aD 2) (aB (aD 5) aL) []) Nw))))
 (aY (Wc [] 6 (kO (eE (kO (ao NV (aD 0) (mV (fC (.int 3))) (mV (fC (.int 123))))) [] gP (cJ 1 mY OK))) (aY (cT 7 (f2 rR (aD 6) (fC (.int 3))))
 (qU (fB (f2 Fv (f2 gH (aD 6) (fC (.int 3))) Nw)) (aY (qU (fB (f2 Fv (f2 gH (aD 7) (fC (.int 3))) Nw)) (uL (pO (κ 0) "carve" 2 (Ad (κ 1) "bench" dC) (rH κ) (λeF eZ=>((Be (f2 gH (f2 rR (aD 7) (fC (.int 9))) (fL gZ OV)) (Be (f2 gH (f2 rR (aD 7) (fC (.int 3))) (fC (.int 3))) oK)) eF eZ).map (·++[])))) (uL (pO (κ 0) "carve" 2 (Ad (κ 1) "bench" dC) (rH κ) (λeF eZ=>((Be (f2 gH (f2 rR (aD 7) (fC (.int 9))) (fL gZ OV)) oK) eF eZ).map (·++[.non])))))
 (aY (cT 8 (fH (κ 0) "stone" 1 (rG κ) (tG (fP (κ 1) "bench") (aD 2)) aL []))
 (aY (cT 9 (cJ 1 vN (aB (aD 8) aL)))
 (aY (qU (fOr (fB (f2 (Ja NV) (aD 9) (fC .non))) (fOr (Em (fB (cJ 3 uB (aB (aD 8) (aB (aD 9) (aB (aD 4) aL)))))) (fB (f2 (dIs NU) (cJ 1 xM (aB (aD 8) aL)) (fC (.bl NU)))))) (eY (fC (.bl NV))) fM)
 (qU (fB (f2 ak (fH (κ 1) "order" 1 (jY κ) (Th (κ 1) (pP κ) (aB (aD 8) aL)) aL []) (aD 9))) (eY (fC (.bl NV))) fM))))) (aY (cT 10 (mR aL))
 (aY (uL (TQ (.ch 2::.ch 10::.rd (aD 7)::[]) (Bv κ)))
 (Yh [10] [11,12,5,13] (kO (aD 10)) (qU (fB (f2 Fv (aD 11) (fC (.str "in")))) (vA 4 (EY dC (aD 5)) (cL (f2 cW (fH (κ 1) "record_of" 2 (bC κ) (aD 2) (aB (aD 5) aL) []) Nw))) fM)))))))
 (eY (fC (.bl NU))))))))
noncomputable def aIH(κ:Nat→AF):List D→Option D:=oH 14 1 (aKy κ)
section
variable{P:AQ}{w:AS}{K:aG}{mg:Str→Option AE}{base:Heap}
B5 aA9:bA ["script", "k"] ["script", "k"] (aK Ud):=by walk_at "fs"
B5 jy(R:Raw K mg "_law_cell" Ud) (dZ:mg "len" = none):oF P w K mg base "_law_cell" 1 2 (gW K 2 mX):=by
 &R.rZ aA9 (λ_ _ _ _ _ _ us hl=>match us,hl with | [_,_],_=>rfl) (λ_ _ _ _ _ _ _ hr=>?_);have cY:=hr.units;have hu:=cP hr;~⟨_,aO (iM (dB Hs iJ Na OL (cI _)) (aX (bR (XR.n (bK NX Na Nc)))) fZ)
  (aX (bR aM))⟩
B5 Um:bA ["script", "head"] ["script"] (aK Lw):=by walk_at "fs"
B5 WR(R:Raw K mg "_law_sizes" Lw) (rK:oF P w K mg base "_law_cell" 1 2 (gW K 2 mX)):oF P w K mg base "_law_sizes" 2 1 (gW K 1 xF):=by
 &R.rZ Um (λ_ _ _ _ _ _ us hl=>match us,hl with | [_],_=>rfl) (λ_ _ _ _ _ _ _ hr=>?_);have cY:=hr.units;have hu:=cP hr;~⟨_,aO (bO (i:=1) (cC rK Nn U (aF NX (aF NS aP))) (λh=>bL Um.nd U NW h))
  (aO (iM (dB (or_eq cY U) sW (XN.r (bV (XN.r (mU Na NS)) NS)) NS (cI _)) (aX (bR (rT (bN (cN NS (XN.r (bV Na NS))) (bN (cN NS (XN.r (bV (XN.r (mU Na NS)) NS))) jJ))))) fZ)
  (aX (bR (rT (bN (cN NS (XN.r (bV Na NS))) (bN (cN NS (XN.r (bV (XN.r (mU Na NS)) NS))) jJ))))))⟩
B5 Uo:bA ["cell", "k", "number"] ["cell", "k"] (aK Lx):=by walk_at "fs"
B5 WT(R:Raw K mg "_law_mixed" Lx):oF P w K mg base "_law_mixed" 1 2 (gW K 2 mD):=by
 &R.rZ Uo (λ_ _ _ _ _ _ us hl=>match us,hl with | [_,_],_=>rfl) (λ_ _ _ _ _ _ _ hr=>?_);have cY:=hr.units;have hu:=cP hr;~⟨_,aO (bO (i:=2) (bV (XN.r (mG (XN.r (cN (XN.r (bV NX NS)) NS)) (XN.r (cN NS (XN.r (mG (XN.r (mG NS Na)) Na)))))) NS) (λh=>bL Uo.nd U NW h))
  (aX (bR (bV (XN.r (mG OM OM)) NS)))⟩
B5 pQ:bA ["cell", "k", "key", "following", "pick", "now", "age"] ["cell", "k", "key", "following"] (aK Gn):=by walk_at "fs"
B5 IV(R:Raw K mg "_law_record" Gn) (nT:oF P w K mg base "_law_mixed" 1 2 (gW K 2 mD)) (aII:mg "abs" = none):oF P w K mg base "_law_record" 2 4 (gW K 4 qO):=by
 &R.rZ pQ (λ_ _ _ _ _ _ us hl=>match us,hl with | [_,_,_,_],_=>rfl) (λ_ _ _ _ _ _ _ hr=>?_);have cY:=hr.units;have hu:=cP hr;~⟨_,aO (bO (i:=4) (cC nT Nn U (aF NX (aF (XN.r (mG NS Na)) aP))) (λh=>bL pQ.nd U NW h))
  (aO (bO (i:=5) (XR.n (bK (pJ (aF NS (aF NS (aF NS (aF (XN.r (mG (XN.r (cC nT Nn U (aF NX (aF (XN.r (cN (XN.r (mG NS Na)) NS)) aP)))) (XN.r (wA NS NS)))) (aF (XN.r (qW NS)) aP)))))) (XN.r (bV (aH (pv 4)) NS)) Nc)) (λh=>bL pQ.nd U NW h))
  (aO (bO (i:=6) aM (λh=>bL pQ.nd U NW h))
  (aO (iM (dB (or_eq cY U) sW (XN.r (bV (XN.r (mU (aH (pv 4)) NS)) NS)) NS (cI _)) (aX (bO (i:=6) (cN NS (XN.r (bV (XN.r (mU (aH (pv 4)) NS)) NS))) (λh=>bL pQ.nd U NW h))) fZ)
  (aO (iM (dB (or_eq cY U) sW (aH (pv 6)) NS (cI _)) (aX (bO (i:=5) (dD aIu aIv U aII PyProof.Rows.boot_abs (aF (aH (pv 5)) aP)) (λh=>bL pQ.nd U NW h))) fZ)
  (aX (bR (rT (bN (XR.n OM) (bN (XR.n (aH (pv 3))) (bN (XR.n (bK (pJ (aF (XN.r (qW NS)) (aF NS (aF NS (aF (aH (pv 4)) aP))))) (XN.r (bV (XN.r (mU (aH (pv 4)) NS)) NS)) Nc)) (bN (XR.n (aH (pv 5))) (bN (XR.n (aH (pv 6))) jJ))))))))))))⟩
B5 fW:bA ["script", "panes", "rows", "spare", "boxes", "k", "stone", "cell", "box", "key", "pane"] ["script"] (aK xG):=by walk_at "fs"
B5 WW(R:Raw K mg "_law_built" xG) (Mh:oF P w K mg base "_law_sizes" 2 1 (gW K 1 xF)) (rK:oF P w K mg base "_law_cell" 1 2 (gW K 2 mX)) (nT:oF P w K mg base "_law_mixed" 1 2 (gW K 2 mD)) (zJ:oF P w K mg base "_law_record" 2 4 (gW K 4 qO)) (kI:mg "list" = none) (lF:mg "range" = none) (dZ:mg "len" = none):oF P w K mg base "_law_built" 3 1 (gW K 1 xH):=by
 &R.rZ fW (λ_ _ _ _ _ _ us hl=>match us,hl with | [_],_=>rfl) (λ_ _ _ _ _ _ _ hr=>?_);have cY:=hr.units;have hu:=cP hr;~⟨_,aO (aAL (is:=[1,2]) (n:=2) (cC Mh Nn U (aF NX aP)) (λh=>Ks h (Zz U (oW (fJ (i:=1) fW.nd U NW) (oW (fJ (i:=2) fW.nd U NW) (Pa))))))
  (aO (bO (i:=3) (aA4 (aF NS (aF (XN.r (mG Na OM)) aP)) U kI K2 U lF PyProof.Rows.boot_range) (λh=>bL fW.nd U NW h))
  (aO (bO (i:=4) (yI (bN aM jJ)) (λh=>bL fW.nd U NW h))
  (aO (Px Ap U (Dl U lF (aF (XN.r (bV (XN.r (cC rK Nn U (aF NX (aF NS aP)))) (XN.r (mG Na OM)))) aP)) (fJ (i:=5) fW.nd U NW) (aX (aAM (i:=4) (j:=3) (XN.r (bV (XN.r (cC nT Nn U (aF (XN.r (cC rK Nn U (aF NX (aF NS aP)))) (aF (aH (pv 5)) aP)))) (XN.r (dD dJ (dM U) U dZ E4 (aF (aH (pv 3)) aP))))) (λh=>kY (qY F4 J0 J1 jN (pv 4) (cZ (qY F4 PySem.F.slot_list_pop PySem.F.type_list_pop aB0 (pv 3) (cZ h jE)) jE))))))
  (aO (Pu (i:=6) ["pane", "rows"] [2] U (.at (aK xG) ["script", "panes", "rows", "spare", "boxes", "k", "stone", "cell", "box", "key", "pane"] A7) fW.nd U NW (Dj U lF (aF Na aP)) (gQ A7 U U) (λ_ _ _ _ _=>jC) (λ_ _ _ _ _=>jV ["place"] [] U (lC.of (by show uo (qZ _ (aK xG)) _ ["pane", "rows"] _ _ _=NU;decide +kernel)) (Dj U lF (aF Na aP)) (gQ A7 U U) (λ_ _ _ _ _=>jC) (λ_ _ _ _ _=>rT (bN aM (bN aM (bN (qW NS) (bN (qW NS) (bN aM jJ))))))))
  (aO (bO (i:=7) (cC rK Nn U (aF NX (aF NS aP))) (λh=>bL fW.nd U NW h))
  (aO (DW [3] Ap U (jK (aH (pv 3))) (fJ (i:=8) fW.nd U NW) (aX (vq (Su (iT (pv 6)) (XN.r (bV (aH (pv 8)) Na)) Nc) (XN.r (mU (aH (pv 8)) Na)) (cC zJ Nn U (aF (aH (pv 7)) (aF (aH (pv 8)) (aF (XN.r (bV (aH (pv 7)) (XN.r (wA NS NS)))) (aF (XN.r (bV (XN.r (mG (aH (pv 8)) (aH (pv 8)))) (XN.r (mG Na OM)))) aP))))) (λa b c=>Ks c (BJ a b set_list)))))
  (aO (bO (i:=9) (bV (aH (pv 7)) (XN.r (wA NS NS))) (λh=>bL fW.nd U NW h))
  (aO (Px Ap U (Dl U lF (aF (XN.r (dD dJ (dM U) U dZ E4 (aF (aH (pv 4)) aP))) aP)) (fJ (i:=5) fW.nd U NW) (aO (bO (i:=8) (XR.n (bK (aH (pv 4)) (aH (pv 5)) Nc)) (λh=>bL fW.nd U NW h))
  (aO (vq (Su (iT (pv 6)) (XN.r (bV (aH (pv 8)) Na)) Nc) (XN.r (mU (aH (pv 8)) Na)) (cC zJ Nn U (aF (aH (pv 7)) (aF (XN.r (cN (aH (pv 5)) NS)) (aF (aH (pv 9)) (aF (bK (XN.r (cN (aH (pv 4)) (pJ (aF NS aP)))) (XN.r (cN (aH (pv 5)) NS)) Nc) aP))))) (λa b c=>Ks c (BJ a b set_list)))
  (aX (bO (i:=9) (cN (XN.r (cN (aH (pv 9)) NS)) (XN.r (mG (XN.r (bV (XN.r (cC nT Nn U (aF (aH (pv 7)) (aF (XN.r (cN (aH (pv 5)) NS)) aP)))) NS)) (bK (pJ (aF NS (aF (XN.r (wA NS NS)) aP))) (XN.r (bV (aH (pv 7)) NS)) Nc)))) (λh=>bL fW.nd U NW h))))))
  (aO (Px Ap U (Dl U lF (aF Na aP)) (fJ (i:=10) fW.nd U NW) (aX (Sv (Su (iT (pv 6)) (aH (pv 10)) Nc) (rT (bN (bV (XN.r (cC nT Nn U (aF (aH (pv 7)) (aF (XN.r (cN (aH (pv 10)) NS)) aP)))) NS) jJ)) OT)))
  (aX (DR (pv 6))))))))))))⟩
B5 WX:bA ["self", "stone"] ["self", "stone"] (aK uM):=by walk_at "fs"
B5 IW{κ:Nat→AF}(R:RP K mg "Bench" (κ 0) "Bench.__init__" uM) (bG:kW K (κ 0) lA) (kI:mg "list" = none):aAX P w K mg base "Bench" (κ 0) 1 2 (spS K 2 (uN κ)):=by
 &R.aKe WX (λ_ _ _ _ _ _ us hl=>match us,hl with | [_,_],_=>rfl) (λ_ _ _ _ _ _ _ hr=>?_);have cY:=hr.units;have hu:=cP hr;~⟨_,aO (pD bG A7 OY (jV ["pane"] [] U (.at (aK uM) ["self", "stone"] A7) (jK Na) (gQ A7 U U) (λ_ _ _ _ _=>jC) (λ_ _ _ _ _=>Nu Ig (Ih U) U kI K2 (aF NX aP))))
  (aO (pD bG A7 OY (yI jJ))
  (aO (pD bG A7 OY (aCT))
  (aO (pD bG A7 OY (Di))
  (aX (pD bG A7 OY (jV ["pane"] [] U (.at (aK uM) ["self", "stone"] A7) (jK Na) (gQ A7 U U) (λ_ _ _ _ _=>jC) (λ_ _ _ _ _=>yI jJ)))))))⟩
B5 aBa:bA ["stone", "spot"] ["stone", "spot"] (aK Uh):=by walk_at "fs"
B5 jz(R:Raw K mg "thing_at" Uh):oF P w K mg base "thing_at" 1 2 (gW K 2 Bo):=by&R.rZ aBa (λ_ _ _ _ _ _ us hl=>match us,hl with | [_,_],_=>rfl) (λ_ _ _ _ _ _ _ hr=>?_);have cY:=hr.units;have hu:=cP hr;~⟨_,aX (bR (XR.n (bK (bK NX (bK Na NS Nc) Nc) (bK Na NS Nc) Nc)))⟩
B5 aDl:bA ["stone", "box"] ["stone", "box"] (aK HQ):=by walk_at "fs"
B5 aBb(R:Raw K mg "spot_of" HQ) (dZ:mg "len" = none):oF P w K mg base "spot_of" 1 2 (gW K 2 yZ):=by&R.rZ aDl (λ_ _ _ _ _ _ us hl=>match us,hl with | [_,_],_=>rfl) (λ_ _ _ _ _ _ _ hr=>?_);have cY:=hr.units;have hu:=cP hr;~⟨_,aX (bR (rT (bN (bV Na OL) (bN (mU Na OL) jJ))))⟩
B5 kh:bA ["stone", "box"] ["stone", "box"] (aK Ly):=by walk_at "fs"
B5 WY(R:Raw K mg "record_at" Ly) (Ec:oF P w K mg base "spot_of" 1 2 (gW K 2 yZ)) (Up:oF P w K mg base "thing_at" 1 2 (gW K 2 Bo)):oF P w K mg base "record_at" 2 2 (gW K 2 jO):=by&R.rZ kh (λ_ _ _ _ _ _ us hl=>match us,hl with | [_,_],_=>rfl) (λ_ _ _ _ _ _ _ hr=>?_);have cY:=hr.units;have hu:=cP hr;~⟨_,aX (bR (cC Up Nn U (aF NX (aF (XN.r (cC Ec Nn U (aF NX (aF Na aP)))) aP))))⟩
B5 zK:bA ["stone", "found", "box"] ["stone"] (aK Lz):=by walk_at "fs"
B5 XC(R:Raw K mg "string_of" Lz) (pR:oF P w K mg base "record_at" 2 2 (gW K 2 jO)) (kI:mg "list" = none) (vU:eG mg "HEAD" (0)) (qJ:eG mg "NEXT" (1)):oF P w K mg base "string_of" 3 1 (gW K 1 nP):=by
 &R.rZ zK (λ_ _ _ _ _ _ us hl=>match us,hl with | [_],_=>rfl) (λ_ _ _ _ _ _ _ hr=>?_);have cY:=hr.units;have hu:=cP hr;~⟨_,aO (bO (i:=1) (Di) (λh=>bL zK.nd U NW h))
  (aO (bO (i:=2) (XR.n (bK (XN.r (cC pR Nn U (aF NX (aF (XN.r (iC vU U)) aP)))) (XN.r (iC qJ U)) Nc)) (λh=>bL zK.nd U NW h))
  (aO (aCw 400 Ap (XW.xt (Ry (dB (Xo cY U) Xn OM (XN.r (iC vU U)) (cI _)) (Ie (Xp hu OM Na)))) (aO (vz (iT (pv 1)) OM (XN.r (uF)) (λa b c=>yC hu a b c U))
  (aX (bO (i:=2) (XR.n (bK (XN.r (cC pR Nn U (aF NX (aF OM aP)))) (XN.r (iC qJ U)) Nc)) (λh=>bL zK.nd U NW h)))))
  (aX (bR (Nu QS (Av U) U kI K2 (aF Na aP))))))⟩
B5 XD:bA ["stone"] ["stone"] (aK Gp):=by walk_at "fs"
B5 JB(R:Raw K mg "many_boxes" Gp) (dZ:mg "len" = none):oF P w K mg base "many_boxes" 1 1 (gW K 1 lN):=by&R.rZ XD (λ_ _ _ _ _ _ us hl=>match us,hl with | [_],_=>rfl) (λ_ _ _ _ _ _ _ hr=>?_);have cY:=hr.units;have hu:=cP hr;~⟨_,aX (bR (mG OL (XN.r (uG (XN.r (dD dJ (dM U) U dZ E4 (aF (bK NX NS Nc) aP))) NS))))⟩
B5 Jt:bA ["stone", "tied"] ["stone"] (aK vK):=by walk_at "fs"
B5 Wj(R:Raw K mg "loose_boxes" vK) (nU:oF P w K mg base "string_of" 3 1 (gW K 1 nP)) (lO:oF P w K mg base "many_boxes" 1 1 (gW K 1 lN)) (lF:mg "range" = none) (vU:eG mg "HEAD" (0)):oF P w K mg base "loose_boxes" 4 1 (gW K 1 rF):=by
 &R.rZ Jt (λ_ _ _ _ _ _ us hl=>match us,hl with | [_],_=>rfl) (λ_ _ _ _ _ _ _ hr=>?_);have cY:=hr.units;have hu:=cP hr;~⟨_,aO (bO (i:=1) (cC nU Nn U (aF NX aP)) (λh=>bL Jt.nd U NW h))
  (aX (bR (jV ["box", "tied"] [1] U (.at (aK vK) ["stone", "tied"] A7) (aJ4 (λh=>aAf U lF h) (aF (XN.r (cN (XN.r (iC vU U)) NS)) (aF (XN.r (cC lO Nn U (aF NX aP))) aP))) (gQ A7 U U) (λ_ _ _ _ _=>Pq (dB (QK U) (aGq NU) NX Na (by with_unfolding_all rfl))) (λ_ _ _ _ _=>XR.n NX))))⟩
B5 JC:bA ["self", "stone"] ["self", "stone"] (aK vL):=by walk_at "fs"
B5 Wk{κ:Nat→AF}(R:RP K mg "Weaver" (κ 1) "Weaver.__init__" vL) (bG:kW K (κ 0) lA) (aV:kW K (κ 1) fV) (Gu:aAX P w K mg base "Bench" (κ 0) 1 2 (spS K 2 (uN κ))) (lO:oF P w K mg base "many_boxes" 1 1 (gW K 1 lN)) (Ec:oF P w K mg base "spot_of" 1 2 (gW K 2 yZ)) (nU:oF P w K mg base "string_of" 3 1 (gW K 1 nP)) (Ca:oF P w K mg base "loose_boxes" 4 1 (gW K 1 rF)) (lF:mg "range" = none):aAX P w K mg base "Weaver" (κ 1) 5 2 (spS K 2 (pP κ)):=by
 &R.aKe JC (λ_ _ _ _ _ _ us hl=>match us,hl with | [_,_],_=>rfl) (λ_ _ _ _ _ _ _ hr=>?_);have cY:=hr.units;have hu:=cP hr;~⟨_,aO (pD aV A7 OY (FW Gu fX Nn U (aF Na aP)))
  (aO (pD aV A7 OY (jV ["box", "stone"] [1] U (.at (aK vL) ["self", "stone"] A7) (Dj U lF (aF (XN.r (cC lO Nn U (aF Na aP))) aP)) (gQ A7 U U) (λ_ _ _ _ _=>jC) (λ_ _ _ _ _=>cC Ec Nn U (aF Na (aF NX aP)))))
  (aO (pD aV A7 OY (cC nU Nn U (aF Na aP)))
  (aO (pD aV A7 OY (cC Ca Nn U (aF Na aP)))
  (aO (pD aV A7 OY (Di))
  (aO (pD aV A7 OY (Di))
  (aX (pD aV A7 OY (Di))))))))⟩
B5 Wl:bA ["self"] ["self"] (aK zA):=by walk_at "fs"
B5 Uq{κ:Nat→AF}(R:iB K (κ 1) "order" "Weaver.order" zA NV) (aV:kW K (κ 1) fV) (kI:mg "list" = none):dR P w K mg base (κ 1) "order" 1 1 NV (gW K 1 (jY κ)):=by&R.Lj Wl (λ_ _ _ _ _ _ us hl=>match us,hl with | [_],_=>rfl) (λ_ _ _ _ _ _ _ hr=>?_);have cY:=hr.units;have hu:=cP hr;~⟨_,aX (bR (Nu Ig (Ih U) U kI K2 (aF (dO aV NX A7 U) aP)))⟩
B5 Oa:bA ["cell", "number"] ["cell"] (aK Gr):=by walk_at "fs"
B5 JD(R:Raw K mg "_law_spread" Gr):oF P w K mg base "_law_spread" 1 1 (gW K 1 mY):=by
 &R.rZ Oa (λ_ _ _ _ _ _ us hl=>match us,hl with | [_],_=>rfl) (λ_ _ _ _ _ _ _ hr=>?_);have cY:=hr.units;have hu:=cP hr;~⟨_,aO (bO (i:=1) (bV (XN.r (mG (XN.r (cN (XN.r (bV NX NS)) NS)) NS)) NS) (λh=>bL Oa.nd U NW h))
  (aX (bR (cN (XN.r (bV (XN.r (mG Na Na)) NS)) (XN.r (mG (XN.r (bV NX (XN.r (wA NS NS)))) NS)))))⟩
B5 JF:bA ["self"] ["self"] (aK vM):=by walk_at "fs"
B5 Wm{κ:Nat→AF}(R:iB K (κ 0) "stone" "Bench.stone" vM NV) (bG:kW K (κ 0) lA) (kI:mg "list" = none):dR P w K mg base (κ 0) "stone" 1 1 NV (gW K 1 (rG κ)):=by&R.Lj JF (λ_ _ _ _ _ _ us hl=>match us,hl with | [_],_=>rfl) (λ_ _ _ _ _ _ _ hr=>?_);have cY:=hr.units;have hu:=cP hr;~⟨_,aX (bR (jV ["pane"] [] U (.at (aK vM) ["self"] A7) (jK (dO bG NX A7 U)) (gQ A7 U U) (λ_ _ _ _ _=>jC) (λ_ _ _ _ _=>Nu Ig (Ih U) U kI K2 (aF NX aP))))⟩
B5 xN:bA ["stone", "many", "found", "box", "step"] ["stone"] (aK HS):=by walk_at "fs"
B5 aBc(R:Raw K mg "_law_own" HS) (dZ:mg "len" = none) (lF:mg "range" = none) (dG:mg "isinstance" = none) (aBd:mg "int" = none):oF P w K mg base "_law_own" 1 1 (gW K 1 vN):=by
 &R.rZ xN (λ_ _ _ _ _ _ us hl=>match us,hl with | [_],_=>rfl) (λ_ _ _ _ _ _ _ hr=>?_);have cY:=hr.units;have hu:=cP hr;~⟨_,aO (bO (i:=1) (mG OL (XN.r (uG (XN.r (dD dJ (dM U) U dZ E4 (aF (bK NX NS Nc) aP))) NS))) (λh=>bL xN.nd U NW h))
  (aO (bO (i:=2) (yI jJ) (λh=>bL xN.nd U NW h))
  (aO (bO (i:=3) (XR.n (bK (bK (bK NX NS Nc) NS Nc) NS Nc)) (λh=>bL xN.nd U NW h))
  (aO (Px Ap U (Dl U lF (aF (XN.r (cN Na NS)) aP)) (fJ (i:=4) xN.nd U NW) (aO (iM (dB (or_eq cY U) sW (aH (pv 3)) NS (cI _)) (aX (DR (pv 2))) fZ)
  (aO (iM (XW.xt (Xq (wB (Ba (XN.r (Lg (aH (pv 3)) (Df (v:=.ty "int") U aBd j4 U) U dG)))) (Xq (dB Hs iJ (aH (pv 3)) NS (cI _)) (DN (dB OJ iJ (aH (pv 3)) Na (cI _)))))) (aX (bR (yF))) fZ)
  (aO (Sv (iT (pv 2)) (XR.n (aH (pv 3))) OT)
  (aX (bO (i:=3) (XR.n (bK (bK (bK NX (XN.r (bV (aH (pv 3)) OL)) Nc) (XN.r (mU (aH (pv 3)) OL)) Nc) NS Nc)) (λh=>bL xN.nd U NW h)))))))
  (aX (bR (yF))))))⟩
B5 Mi:bA ["self", "pane"] ["self", "pane"] (aK sE):=by walk_at "fs"
B5 Ju{κ:Nat→AF}(R:iB K (κ 0) "check_pane" "Bench.check_pane" sE NV) (bG:kW K (κ 0) lA) (dZ:mg "len" = none):dR P w K mg base (κ 0) "check_pane" 1 2 NV (gW K 2 (jP κ)):=by&R.Lj Mi (λ_ _ _ _ _ _ us hl=>match us,hl with | [_,_],_=>rfl) (λ_ _ _ _ _ _ _ hr=>?_);have cY:=hr.units;have hu:=cP hr;~⟨_,aX (iM (wB (Iw Ht Hs iJ iJ NS Na (XN.r (dD dJ (dM U) U dZ E4 (aF (dO bG NX A7 U) aP))))) (aX (FQ)) fZ)⟩
B5 Jv:bA ["self", "pane", "place"] ["self", "pane", "place"] (aK qP):=by walk_at "fs"
B5 Gv{κ:Nat→AF}(R:iB K (κ 0) "check_place" "Bench.check_place" qP NV) (bG:kW K (κ 0) lA) (jR:dR P w K mg base (κ 0) "check_pane" 1 2 NV (gW K 2 (jP κ))) (dZ:mg "len" = none):dR P w K mg base (κ 0) "check_place" 2 3 NV (gW K 3 (iU κ)):=by
 &R.Lj Jv (λ_ _ _ _ _ _ us hl=>match us,hl with | [_,_,_],_=>rfl) (λ_ _ _ _ _ _ _ hr=>?_);have cY:=hr.units;have hu:=cP hr;~⟨_,aO (Dr (XN.r (fQ jR bG Nn NX (aF Na aP))))
  (aX (iM (wB (Iw Ht Hs iJ iJ NS OM (XN.r (dD dJ (dM U) U dZ E4 (aF (bK (dO bG NX A7 U) Na Nc) aP))))) (aX (FQ)) fZ))⟩
B5 XF:bA ["self", "pane", "place"] ["self", "pane", "place"] (aK Gs):=by walk_at "fs"
B5 JG{κ:Nat→AF}(R:iB K (κ 0) "seen" "Bench.seen" Gs NV) (bG:kW K (κ 0) lA) (iV:dR P w K mg base (κ 0) "check_place" 2 3 NV (gW K 3 (iU κ))) (Mj:eG mg "THING" (2)):dR P w K mg base (κ 0) "seen" 3 3 NV (gW K 3 (uO κ)):=by
 &R.Lj XF (λ_ _ _ _ _ _ us hl=>match us,hl with | [_,_,_],_=>rfl) (λ_ _ _ _ _ _ _ hr=>?_);have cY:=hr.units;have hu:=cP hr;~⟨_,aO (Dr (XN.r (fQ iV bG Nn NX (aF Na (aF OM aP)))))
  (aO (iM (xu hu (Ti (aF Na (aF OM aP))) (dO bG NX A7 U)) (aX (bR (XR.n (bK (bK (dO bG NX A7 U) (XN.r (RZ hu (dO bG NX A7 U) (Ti (aF Na (aF OM aP))) Nc)) Nc) (XN.r (iC Mj U)) Nc)))) fZ)
  (aX (bR (XR.n (bK (bK (dO bG NX A7 U) Na Nc) OM Nc)))))⟩
B5 xO:bA ["self", "box", "spot"] ["self", "box"] (aK sG):=by walk_at "fs"
B5 Jw{κ:Nat→AF}(R:iB K (κ 1) "record_of" "Weaver.record_of" sG NV) (aV:kW K (κ 1) fV) (bG:kW K (κ 0) lA) (Gw:dR P w K mg base (κ 0) "seen" 3 3 NV (gW K 3 (uO κ))):dR P w K mg base (κ 1) "record_of" 4 2 NV (gW K 2 (bC κ)):=by
 &R.Lj xO (λ_ _ _ _ _ _ us hl=>match us,hl with | [_,_],_=>rfl) (λ_ _ _ _ _ _ _ hr=>?_);have cY:=hr.units;have hu:=cP hr;~⟨_,aO (bO (i:=2) (XR.n (bK (dO aV NX A7 U) Na Nc)) (λh=>bL xO.nd U NW h))
  (aX (bR (fQ Gw bG Nn (dO aV NX A7 U) (aF (bK OM NS Nc) (aF (bK OM NS Nc) aP)))))⟩
B5 Gx:bA ["self", "number"] ["self", "number"] (aK qF):=by walk_at "fs"
B5 Er{κ:Nat→AF}(R:iB K (κ 0) "check_change" "Bench.check_change" qF NV) (bG:kW K (κ 0) lA) (dZ:mg "len" = none):dR P w K mg base (κ 0) "check_change" 1 2 NV (gW K 2 (iG κ)):=by&R.Lj Gx (λ_ _ _ _ _ _ us hl=>match us,hl with | [_,_],_=>rfl) (λ_ _ _ _ _ _ _ hr=>?_);have cY:=hr.units;have hu:=cP hr;~⟨_,aX (iM (wB (Iw Ht Hs iJ iJ NS Na (XN.r (dD dJ (dM U) U dZ E4 (aF (dO bG NX A7 U) aP))))) (aX (FQ)) fZ)⟩
B5 zL:bA ["self", "pane", "place", "thing", "needs", "needed", "need", "number"] ["self", "pane", "place", "thing", "needs"] (aK Ma):=by walk_at "fs"
B5 XH{κ:Nat→AF}(R:iB K (κ 0) "put" "Bench.put" Ma NU) (bG:kW K (κ 0) lA) (iV:dR P w K mg base (κ 0) "check_place" 2 3 NV (gW K 3 (iU κ))) (iH:dR P w K mg base (κ 0) "check_change" 1 2 NV (gW K 2 (iG κ))) (kI:mg "list" = none) (dZ:mg "len" = none) (tU:mg "sorted" = none) (aIJ:mg "set" = none) (Ml:mg "tuple" = none):dR P w K mg base (κ 0) "put" 3 5 NU (spS K 5 (Ea κ)):=by
 &R.FZ zL (λT _ _ _ _ _ _ us=>⟨λhl=>match us,hl with | [_,_,_,_,_],_=>⟨_,U,U⟩,λhl=>match us,hl with | [_,_,_,_],_=>⟨_,U,U⟩⟩) (λ_ _ _ _ _ _ _ hr=>?_);have cY:=hr.units;have hu:=cP hr;~⟨_,aO (Dr (XN.r (fQ iV bG Nn NX (aF Na (aF OM aP)))))
  (aO (bO (i:=5) (aGv (dB bh jh (aH (pv 4)) (XN.r (yF)) (cI _)) (yI jJ) (Nu Ig (Ih U) U kI K2 (aF (aH (pv 4)) aP))) (λh=>bL zL.nd U NW h))
  (aO (GC Ap U (pv 5) (fJ (i:=6) zL.nd U NW) (aX (Dr (XN.r (fQ iH bG Nn NX (aF (aH (pv 6)) aP))))))
  (aO (iM (xu hu (Ti (aF Na (aF OM aP))) (dO bG NX A7 U)) (aX (Sv (iT (pv 5)) (RZ hu (dO bG NX A7 U) (Ti (aF Na (aF OM aP))) Nc) OT)) fZ)
  (aO (bO (i:=7) (dD dJ (dM U) U dZ E4 (aF (dO bG NX A7 U) aP)) (λh=>bL zL.nd U NW h))
  (aO (Qa (oJ bG OY A7 U) (rT (bN (XR.n Na) (bN (XR.n OM) (bN (XR.n (aH (pv 3))) (bN (Nu aCn (aCo U) U Ml c8 (aF (XN.r (aFh (aH (pv 5)) U tU U7 U aIJ PyProof.Rows.boot_set)) aP)) jJ))))) OT)
  (aO (aCU (oJ bG OY A7 U) (Ti (aF Na (aF OM aP))) (aH (pv 7)) (λa b c=>yC hu a b c U))
  (aO (Qa (Su (oJ bG OY A7 U) Na Nc) (XR.n (aH (pv 7))) OT)
  (aX (Iv (pv 7))))))))))⟩
B5 aFL:bA ["numbers"] ["numbers"] (aK HW):=by walk_at "fs"
B5 aDm(R:Raw K mg "known" HW):oF P w K mg base "known" 1 1 (gW K 1 HX):=by&R.rZ aFL (λ_ _ _ _ _ _ us hl=>match us,hl with | [_],_=>rfl) (λ_ _ _ _ _ _ _ hr=>?_);have cY:=hr.units;have hu:=cP hr;~⟨_,aX (bR (jV ["number"] [] U (.at (aK HW) ["numbers"] A7) (jK NX) (gQ A7 U U) (λ_ _ _ _ _=>Pq (dB BL Ln NX (XN.r (yF)) (cI _))) (λ_ _ _ _ _=>XR.n NX)))⟩
B5 wH:bA ["self", "box", "record", "needed", "spot", "number"] ["self", "box", "record", "needed"] (aK zB):=by walk_at "fs"
B5 Ur{κ:Nat→AF}(R:iB K (κ 1) "write" "Weaver.write" zB NV) (aV:kW K (κ 1) fV) (bG:kW K (κ 0) lA) (Mm:dR P w K mg base (κ 0) "put" 3 5 NU (spS K 5 (Ea κ))) (kj:oF P w K mg base "known" 1 1 (gW K 1 HX)):dR P w K mg base (κ 1) "write" 4 4 NV (spS K 4 (nQ κ)):=by
 &R.FZ wH (λ_ _ _ _ _ _ us hl=>match us,hl with | [_,_,_,_],_=>rfl) (λ_ _ _ _ _ _ _ hr=>?_);have cY:=hr.units;have hu:=cP hr;~⟨_,aO (bO (i:=4) (XR.n (bK (dO aV NX A7 U) Na Nc)) (λh=>bL wH.nd U NW h))
  (aO (Py (i:=5) (tH Mm bG fX Nn (oJ aV OY A7 U) (jD (bK (aH (pv 4)) NS Nc) (jD (bK (aH (pv 4)) NS Nc) (jD OM (jD (XN.r (cC kj Nn U (aF (aH (pv 3)) aP))) nG))))) (λh=>bL wH.nd U NW h))
  (aO (Iz (oJ aV OY A7 U) Na (aH (pv 5)) (λa b c=>yC hu a b c U))
  (aX (Iv (pv 5)))))⟩
B5 Mq:bA ["self", "box"] ["self", "box"] (aK sH):=by walk_at "fs"
B5 Jx{κ:Nat→AF}(R:iB K (κ 1) "coming_in" "Weaver.coming_in" sH NV) (aV:kW K (κ 1) fV):dR P w K mg base (κ 1) "coming_in" 1 2 NV (gW K 2 (pG κ)):=by&R.Lj Mq (λ_ _ _ _ _ _ us hl=>match us,hl with | [_,_],_=>rfl) (λ_ _ _ _ _ _ _ hr=>?_);have cY:=hr.units;have hu:=cP hr;~⟨_,aX (bR (Tq hu (dO aV NX A7 U) Na ⟨U,U,U,U⟩))⟩
B5 Jy:bA ["self", "box", "record", "needed"] ["self", "box", "record", "needed"] (aK qQ):=by walk_at "fs"
B5 Gy{κ:Nat→AF}(R:iB K (κ 1) "write_tied" "Weaver.write_tied" qQ NV) (aV:kW K (κ 1) fV) (nW:dR P w K mg base (κ 1) "write" 4 4 NV (spS K 4 (nQ κ))) (sO:dR P w K mg base (κ 1) "coming_in" 1 2 NV (gW K 2 (pG κ))):dR P w K mg base (κ 1) "write_tied" 5 4 NV (spS K 4 (gO κ)):=by&R.FZ Jy (λ_ _ _ _ _ _ us hl=>match us,hl with | [_,_,_,_],_=>rfl) (λ_ _ _ _ _ _ _ hr=>?_);have cY:=hr.units;have hu:=cP hr;~⟨_,aX (Pz (tH nW aV fX Nn OY (jD Na (jD OM (RM (cN (pJ (aF (XN.r (fQ sO aV Nn NX (aF Na aP))) aP)) (aH (pv 3))) nG)))))⟩
B5 nC:bA ["self", "needs", "further", "need"] ["self", "needs"] (aK oO):=by walk_at "fs"
B5 Af{κ:Nat→AF}(R:iB K (κ 1) "further_needs" "Weaver.further_needs" oO NV) (bG:kW K (κ 0) lA) (aV:kW K (κ 1) fV) (iH:dR P w K mg base (κ 0) "check_change" 1 2 NV (gW K 2 (iG κ))) (kI:mg "list" = none):dR P w K mg base (κ 1) "further_needs" 2 2 NV (gW K 2 (cG κ)):=by
 &R.Lj nC (λ_ _ _ _ _ _ us hl=>match us,hl with | [_,_],_=>rfl) (λ_ _ _ _ _ _ _ hr=>?_);have cY:=hr.units;have hu:=cP hr;~⟨_,aO (bO (i:=2) (aGv (dB bh jh Na (XN.r (yF)) (cI _)) (yI jJ) (Nu Ig (Ih U) U kI K2 (aF Na aP))) (λh=>bL nC.nd U NW h))
  (aO (GC Ap U (pv 2) (fJ (i:=3) nC.nd U NW) (aX (Dr (XN.r (fQ iH bG Nn (dO aV NX A7 U) (aF (aH (pv 3)) aP))))))
  (aX (DR (pv 2))))⟩
B5 zY:bA ["self", "box", "was", "now", "age", "needs", "record"] ["self", "box", "was", "now", "age", "needs"] (aK uP):=by walk_at "fs"
B5 Mr{κ:Nat→AF}(R:iB K (κ 1) "rewrite" "Weaver.rewrite" uP NU) (aV:kW K (κ 1) fV) (bH:dR P w K mg base (κ 1) "record_of" 4 2 NV (gW K 2 (bC κ))) (iW:dR P w K mg base (κ 1) "write_tied" 5 4 NV (spS K 4 (gO κ))) (cH:dR P w K mg base (κ 1) "further_needs" 2 2 NV (gW K 2 (cG κ))) (Ms:eG mg "KEY" (0)) (qJ:eG mg "NEXT" (1)):dR P w K mg base (κ 1) "rewrite" 6 6 NU (spS K 6 (qG κ)):=by
 &R.FZ zY (λT _ _ _ _ _ _ us=>⟨λhl=>match us,hl with | [_,_,_,_,_,_],_=>⟨_,U,U⟩,λhl=>match us,hl with | [_,_,_,_,_],_=>⟨_,U,U⟩⟩) (λ_ _ _ _ _ _ _ hr=>?_);have cY:=hr.units;have hu:=cP hr;~⟨_,aO (bO (i:=6) (fQ bH aV Nn NX (aF Na aP)) (λh=>bL zY.nd U NW h))
  (aX (Pz (tH iW aV fX Nn OY (jD Na (jD (XN.r (rT (bN (XR.n (bK (aH (pv 6)) (XN.r (iC Ms U)) Nc)) (bN (XR.n (bK (aH (pv 6)) (XN.r (iC qJ U)) Nc)) (bN (XR.n OM) (bN (XR.n (aH (pv 3))) (bN (XR.n (aH (pv 4))) jJ))))))) (RM (fQ cH aV Nn NX (aF (aH (pv 5)) aP)) nG))))))⟩
B5 Mt:bA ["self", "place"] ["self", "place"] (aK sI):=by walk_at "fs"
B5 Jz{κ:Nat→AF}(R:iB K (κ 1) "box_ahead" "Weaver.box_ahead" sI NV) (aV:kW K (κ 1) fV) (vU:eG mg "HEAD" (0)):dR P w K mg base (κ 1) "box_ahead" 1 2 NV (gW K 2 (jQ κ)):=by&R.Lj Mt (λ_ _ _ _ _ _ us hl=>match us,hl with | [_,_],_=>rfl) (λ_ _ _ _ _ _ _ hr=>?_);have cY:=hr.units;have hu:=cP hr;~⟨_,aX (bR (XR.n (bK (XN.r (cN (pJ (aF (XN.r (iC vU U)) aP)) (dO aV NX A7 U))) Na Nc)))⟩
B5 Ka:bA ["self", "box", "following", "needed", "record"] ["self", "box", "following", "needed"] (aK Br):=by walk_at "fs"
B5 Wn{κ:Nat→AF}(R:iB K (κ 1) "link" "Weaver.link" Br NV) (aV:kW K (κ 1) fV) (bH:dR P w K mg base (κ 1) "record_of" 4 2 NV (gW K 2 (bC κ))) (iW:dR P w K mg base (κ 1) "write_tied" 5 4 NV (spS K 4 (gO κ))) (Ms:eG mg "KEY" (0)) (aBe:eG mg "WAS" (2)) (JH:eG mg "NOW" (3)) (JK:eG mg "AGE" (4)):dR P w K mg base (κ 1) "link" 6 4 NV (spS K 4 (mZ κ)):=by
 &R.FZ Ka (λ_ _ _ _ _ _ us hl=>match us,hl with | [_,_,_,_],_=>rfl) (λ_ _ _ _ _ _ _ hr=>?_);have cY:=hr.units;have hu:=cP hr;~⟨_,aO (bO (i:=4) (fQ bH aV Nn NX (aF Na aP)) (λh=>bL Ka.nd U NW h))
  (aX (Pz (tH iW aV fX Nn OY (jD Na (jD (XN.r (rT (bN (XR.n (bK (aH (pv 4)) (XN.r (iC Ms U)) Nc)) (bN (XR.n OM) (bN (XR.n (bK (aH (pv 4)) (XN.r (iC aBe U)) Nc)) (bN (XR.n (bK (aH (pv 4)) (XN.r (iC JH U)) Nc)) (bN (XR.n (bK (aH (pv 4)) (XN.r (iC JK U)) Nc)) jJ))))))) (jD (aH (pv 3)) nG))))))⟩
B5 Gz:bA ["self", "box"] ["self", "box"] (aK qH):=by walk_at "fs"
B5 Es{κ:Nat→AF}(R:iB K (κ 1) "last_change" "Weaver.last_change" qH NV) (aV:kW K (κ 1) fV):dR P w K mg base (κ 1) "last_change" 1 2 NV (gW K 2 (mL κ)):=by&R.Lj Gz (λ_ _ _ _ _ _ us hl=>match us,hl with | [_,_],_=>rfl) (λ_ _ _ _ _ _ _ hr=>?_);have cY:=hr.units;have hu:=cP hr;~⟨_,aX (bR (Tq hu (dO aV NX A7 U) Na ⟨U,U,U,U⟩))⟩
B5 qX:bA ["self", "box", "needs", "ahead", "needed", "going"] ["self", "box", "needs"] (aK zF):=by walk_at "fs"
B5 Us{κ:Nat→AF}(R:iB K (κ 1) "leave" "Weaver.leave" zF NU) (aV:kW K (κ 1) fV) (jT:dR P w K mg base (κ 1) "box_ahead" 1 2 NV (gW K 2 (jQ κ))) (qK:dR P w K mg base (κ 1) "last_change" 1 2 NV (gW K 2 (mL κ))) (cH:dR P w K mg base (κ 1) "further_needs" 2 2 NV (gW K 2 (cG κ))) (pU:dR P w K mg base (κ 1) "link" 6 4 NV (spS K 4 (mZ κ))) (bH:dR P w K mg base (κ 1) "record_of" 4 2 NV (gW K 2 (bC κ))) (qJ:eG mg "NEXT" (1)):dR P w K mg base (κ 1) "leave" 7 3 NU (spS K 3 (nR κ)):=by
 &R.FZ qX (λT _ _ _ _ _ _ us=>⟨λhl=>match us,hl with | [_,_,_],_=>⟨_,U,U⟩,λhl=>match us,hl with | [_,_],_=>⟨_,U,U⟩⟩) (λ_ _ _ _ _ _ _ hr=>?_);have cY:=hr.units;have hu:=cP hr;~⟨_,aO (bO (i:=3) (fQ jT aV Nn NX (aF (XN.r (TY (dO aV NX A7 U) Na (λa b=>qY F4 c9 d6 TX a (cZ b jE)))) aP)) (λh=>bL qX.nd U NW h))
  (aO (bO (i:=4) (cN (pJ (aF (XN.r (fQ qK aV Nn NX (aF Na aP))) aP)) (XN.r (fQ cH aV Nn NX (aF OM aP)))) (λh=>bL qX.nd U NW h))
  (aO (Py (i:=5) (tH pU aV fX Nn OY (jD (aH (pv 3)) (RM (XR.n (bK (XN.r (fQ bH aV Nn NX (aF Na aP))) (XN.r (iC qJ U)) Nc)) (jD (aH (pv 4)) nG)))) (λh=>bL qX.nd U NW h))
  (aO (yf (oJ aV OY A7 U) Na (λa b=>kY (qY F4 b6 b7 Yg a (cZ b jE))))
  (aO (Qa (oJ aV OY A7 U) (XR.n Na) OT)
  (aO (Iz (oJ aV OY A7 U) Na (aH (pv 5)) (λa b c=>yC hu a b c U))
  (aX (Iv (pv 5))))))))⟩
B5 JL:bA ["self"] ["self"] (aK Bu):=by walk_at "fs"
B5 Wo{κ:Nat→AF}(R:iB K (κ 1) "free" "Weaver.free" Bu NV) (aV:kW K (κ 1) fV) (tU:mg "sorted" = none):dR P w K mg base (κ 1) "free" 1 1 NV (gW K 1 (vP κ)):=by&R.Lj JL (λ_ _ _ _ _ _ us hl=>match us,hl with | [_],_=>rfl) (λ_ _ _ _ _ _ _ hr=>?_);have cY:=hr.units;have hu:=cP hr;~⟨_,aX (bR (dD Xv (Xw U) U tU U7 (aF (dO aV NX A7 U) aP)))⟩
B5 aDn:bA ["keys", "at", "cell"] ["keys", "at", "cell"] (aK HY):=by walk_at "fs"
B5 aBf(R:Raw K mg "_law_key" HY) (dZ:mg "len" = none):oF P w K mg base "_law_key" 1 3 (gW K 3 Jl):=by
 &R.rZ aDn (λ_ _ _ _ _ _ us hl=>match us,hl with | [_,_,_],_=>rfl) (λ_ _ _ _ _ _ _ hr=>?_);have cY:=hr.units;have hu:=cP hr;~⟨_,aO (iM (dB (or_eq cY U) sW NX (pJ aP) (cI _)) (aX (bR (bV OM (XN.r (wA NS NS))))) fZ)
  (aO (iM (dB (or_eq cY U) sW Na NS (cI _)) (aX (bR (uG (XN.r (uG (bK NX NS Nc) NS)) (XN.r (bV OM (XN.r (wA NS NS))))))) fZ)
  (aO (iM (XW.xt (Ry (dB Hs iJ Na OL (cI _)) (Ie (dB aJF iJ (XN.r (uG (bK NX Na Nc) (bK NX (XN.r (uG Na NS)) Nc))) NS (cI _))))) (aX (bR (cN (XN.r (cN (bK NX (XN.r (uG Na NS)) Nc) NS)) (XN.r (bV OM (XN.r (uG (XN.r (uG (bK NX Na Nc) (bK NX (XN.r (uG Na NS)) Nc))) NS))))))) fZ)
  (aX (bR (cN (XN.r (cN (bK NX (XN.r (qW NS)) Nc) NS)) (XN.r (bV OM (XN.r (wA NS NS)))))))))⟩
B5 Mu:bA ["self", "box"] ["self", "box"] (aK sJ):=by walk_at "fs"
B5 Kc{κ:Nat→AF}(R:iB K (κ 1) "going_out" "Weaver.going_out" sJ NV) (aV:kW K (κ 1) fV):dR P w K mg base (κ 1) "going_out" 1 2 NV (gW K 2 (pH κ)):=by&R.Lj Mu (λ_ _ _ _ _ _ us hl=>match us,hl with | [_,_],_=>rfl) (λ_ _ _ _ _ _ _ hr=>?_);have cY:=hr.units;have hu:=cP hr;~⟨_,aX (bR (Tq hu (dO aV NX A7 U) Na ⟨U,U,U,U⟩))⟩
B5 jZ:bA ["self", "key", "was", "now", "age", "needs", "further", "place", "ahead", "box", "filled", "coming"] ["self", "key", "was", "now", "age", "needs"] (aK tO):=by walk_at "fs"
B5 Ut{κ:Nat→AF}(R:iB K (κ 1) "enter" "Weaver.enter" tO NU) (aV:kW K (κ 1) fV) (cH:dR P w K mg base (κ 1) "further_needs" 2 2 NV (gW K 2 (cG κ))) (bH:dR P w K mg base (κ 1) "record_of" 4 2 NV (gW K 2 (bC κ))) (jT:dR P w K mg base (κ 1) "box_ahead" 1 2 NV (gW K 2 (jQ κ))) (nW:dR P w K mg base (κ 1) "write" 4 4 NV (spS K 4 (nQ κ))) (sS:dR P w K mg base (κ 1) "going_out" 1 2 NV (gW K 2 (pH κ))) (pU:dR P w K mg base (κ 1) "link" 6 4 NV (spS K 4 (mZ κ))) (dZ:mg "len" = none) (aIK:mg "min" = none) (Ms:eG mg "KEY" (0)) (qJ:eG mg "NEXT" (1)):dR P w K mg base (κ 1) "enter" 7 6 NU (spS K 6 (tQ κ)):=by
 &R.FZ jZ (λT _ _ _ _ _ _ us=>⟨λhl=>match us,hl with | [_,_,_,_,_,_],_=>⟨_,U,U⟩,λhl=>match us,hl with | [_,_,_,_,_],_=>⟨_,U,U⟩⟩) (λ_ _ _ _ _ _ _ hr=>?_);have cY:=hr.units;have hu:=cP hr;~⟨_,aO (iM (dB (or_eq cY U) sW (XN.r (dD dJ (dM U) U dZ E4 (aF (dO aV NX A7 U) aP))) NS (cI _)) (aX (FQ)) fZ)
  (aO (bO (i:=6) (fQ cH aV Nn NX (aF (aH (pv 5)) aP)) (λh=>bL jZ.nd U NW h))
  (aO (bO (i:=7) (dD dJ (dM U) U dZ E4 (aF (XN.r (jV ["box", "self", "key"] [0,1] U (.at (aK tO) ["self", "key", "was", "now", "age", "needs", "further", "place", "ahead", "box", "filled", "coming"] A7) (jK (dO aV NX A7 U)) (gQ A7 U U) (λ_ _ _ _ _=>Pq (dB Hs iJ (bK (XN.r (fQ bH aV Nn Na (aF NX aP))) (XN.r (iC Ms U)) Nc) OM (cI _))) (λ_ _ _ _ _=>XR.n NX))) aP)) (λh=>bL jZ.nd U NW h))
  (aO (bO (i:=8) (fQ jT aV Nn NX (aF (aH (pv 7)) aP)) (λh=>bL jZ.nd U NW h))
  (aO (bO (i:=9) (dD aE3 (aE4 U) U aIK PyProof.Rows.boot_min (aF (dO aV NX A7 U) aP)) (λh=>bL jZ.nd U NW h))
  (aO (Py (i:=10) (tH nW aV fX Nn OY (jD (aH (pv 9)) (RM (rT (bN (XR.n Na) (bN (XR.n (bK (XN.r (fQ bH aV Nn NX (aF (aH (pv 8)) aP))) (XN.r (iC qJ U)) Nc)) (bN (XR.n OM) (bN (XR.n (aH (pv 3))) (bN (XR.n (aH (pv 4))) jJ)))))) (RM (yI (bN (fQ sS aV Nn NX (aF (aH (pv 9)) aP)) jJ)) nG)))) (λh=>bL jZ.nd U NW h))
  (aO (Py (i:=11) (tH pU aV fX Nn OY (jD (aH (pv 8)) (jD (aH (pv 9)) (jD (XN.r (cN (pJ (aF (aH (pv 10)) aP)) (aH (pv 6)))) nG)))) (λh=>bL jZ.nd U NW h))
  (aO (aFx (oJ aV OY A7 U) (aH (pv 7)) (aH (pv 9)) (λa b c=>kY (qY F4 PySem.F.slot_list_insert PySem.F.type_list_insert aA1 a (cZ b (cZ c jE)))))
  (aO (yf (oJ aV OY A7 U) (aH (pv 9)) (λa b=>kY (qY F4 b6 b7 Yg a (cZ b jE))))
  (aO (Iz (oJ aV OY A7 U) (aH (pv 9)) (aH (pv 11)) (λa b c=>yC hu a b c U))
  (aX (Pz (aFt (rT (bN (XR.n (aH (pv 9))) (bN (XR.n (aH (pv 11))) jJ)))))))))))))))⟩
B5 mF:bA ["weaver", "events", "cell", "order", "rest", "at", "keys", "key", "box", "number"] ["weaver", "events", "cell"] (aK Jo):=by walk_at "fs"
B5 km{κ:Nat→AF}(R:Raw K mg "_law_done" Jo) (aV:kW K (κ 1) fV) (lQ:dR P w K mg base (κ 1) "order" 1 1 NV (gW K 1 (jY κ))) (zM:dR P w K mg base (κ 1) "leave" 7 3 NU (spS K 3 (nR κ))) (uR:dR P w K mg base (κ 1) "rewrite" 6 6 NU (spS K 6 (qG κ))) (Cd:dR P w K mg base (κ 1) "free" 1 1 NV (gW K 1 (vP κ))) (bH:dR P w K mg base (κ 1) "record_of" 4 2 NV (gW K 2 (bC κ))) (JM:oF P w K mg base "_law_key" 1 3 (gW K 3 Jl)) (zN:dR P w K mg base (κ 1) "enter" 7 6 NU (spS K 6 (tQ κ))) (dZ:mg "len" = none) (tU:mg "sorted" = none):oF P w K mg base "_law_done" 8 3 (spG K [NU,NU,NV] (Bv κ)):=by
 &R.aL4 (mask:=[NU,NU,NV]) mF (λ_ _ _ _ _ _ us hl=>match us,hl with | [_,_,_],_=>rfl) U (λ_ _ _ _ _ _ _ hr=>?_);have cY:=hr.units;have hu:=cP hr;~⟨_,aO (bO (i:=3) (Bf lQ aV Nn NX) (λh=>bL mF.nd U NW h))
  (aO (bO (i:=4) (mU OM NS) (λh=>bL mF.nd U NW h))
  (aX (iM (XW.xt (Ry (dB (or_eq cY U) sW (XN.r (bV OM NS)) NS (cI _)) (Ie (dB (Xo cY U) Xn (aH (pv 3)) (pJ aP) (cI _))))) (aO (bO (i:=5) (bV (aH (pv 4)) (XN.r (dD dJ (dM U) U dZ E4 (aF (aH (pv 3)) aP)))) (λh=>bL mF.nd U NW h))
  (aX (aC2 (pv 1) (gr) (Ip zM aV fX Nn OY (jD (bK (aH (pv 3)) (aH (pv 5)) Nc) nG)) (bN (XR.n (bK (aH (pv 3)) (aH (pv 5)) Nc)) (bN aM jJ)) OT))) (aX (iM (XW.xt (Ry (dB (or_eq cY U) sW (XN.r (bV OM NS)) NS (cI _)) (Ie (dB (Xo cY U) Xn (aH (pv 3)) (pJ aP) (cI _))))) (aX (Bg (Ip uR aV fX Nn OY (jD (bK (aH (pv 3)) (XN.r (bV (aH (pv 4)) (XN.r (dD dJ (dM U) U dZ E4 (aF (aH (pv 3)) aP))))) Nc) (jD (XN.r (qW NS)) (jD (XN.r (bV (aH (pv 4)) (XN.r (wA NS NS)))) (jD NS nG))))))) (aX (iM (dB (Xo cY U) Xn (XN.r (Bf Cd aV Nn NX)) (pJ aP) (cI _)) (aO (Pu (i:=6) ["box", "weaver"] [0] U (.at (aK Jo) ["weaver", "events", "cell", "order", "rest", "at", "keys", "key", "box", "number"] A7) mF.nd U NW (jK (aH (pv 3))) (gQ A7 U U) (λ_ _ _ _ _=>jC) (λ_ _ _ _ _=>XR.n (bK (XN.r (fQ bH aV Nn Na (aF NX aP))) NS Nc)))
  (aO (bO (i:=5) (bV (aH (pv 4)) (XN.r (cN (XN.r (dD dJ (dM U) U dZ E4 (aF (aH (pv 3)) aP))) NS))) (λh=>bL mF.nd U NW h))
  (aO (bO (i:=7) (cC JM Nn U (aF (aH (pv 6)) (aF (aH (pv 5)) (aF (XN.r (mU (aH (pv 4)) NS)) aP)))) (λh=>bL mF.nd U NW h))
  (aO (aFC (is:=[8,9]) (n:=2) (Ip zN aV fX Nn OY (jD (aH (pv 7)) (jD (XN.r (qW NS)) (jD (XN.r (bV (aH (pv 4)) (XN.r (wA NS NS)))) (jD NS nG))))) (λh=>Ks h (Zz U (oW (fJ (i:=8) mF.nd U NW) (oW (fJ (i:=9) mF.nd U NW) (Pa))))))
  (aO (bO (i:=5) (TY (XN.r (dD Xv (Xw U) U tU U7 (aF (XN.r (cN (aH (pv 6)) (pJ (aF (aH (pv 7)) aP)))) aP))) (aH (pv 7)) (λa b=>qY F4 c9 d6 TX a (cZ b jE))) (λh=>bL mF.nd U NW h))
  (aX (Qa (iT (pv 1)) (rT (bN (gr) (bN (XR.n (aH (pv 9))) (bN (XR.n (aH (pv 8))) (bN (XR.n (bK (XN.r (cN (pJ (aF NS aP)) (aH (pv 3)))) (aH (pv 5)) Nc)) jJ))))) OT))))))) fZ)))))))⟩
B5 Ce:bA ["changes", "held", "numbers", "found", "number"] ["changes", "held", "numbers"] (aK zG):=by walk_at "fs"
B5 JN(R:Raw K mg "ripe_among" zG) (zO:mg "all" = none) (kI:mg "list" = none) (lg:eG mg "NEEDS" (3)):oF P w K mg base "ripe_among" 1 3 (gW K 3 uQ):=by
 &R.rZ Ce (λ_ _ _ _ _ _ us hl=>match us,hl with | [_,_,_],_=>rfl) (λ_ _ _ _ _ _ _ hr=>?_);have cY:=hr.units;have hu:=cP hr;~⟨_,aO (bO (i:=3) (Di) (λh=>bL Ce.nd U NW h))
  (aO (DW [] Ap U (jK OM) (fJ (i:=4) Ce.nd U NW) (aX (iM (Ba (XN.r (dD Fw (Fx U) U zO M9 (aF (XN.r (jV ["need", "held", "found"] [1,3] U (.at (aK zG) ["changes", "held", "numbers", "found", "number"] A7) (jK (bK (bK NX (aH (pv 4)) Nc) (XN.r (iC lg U)) Nc)) (gQ A7 U U) (λ_ _ _ _ _=>jC) (λ_ _ _ _ _=>aJU (XN.r (aCj hu NX Na)) (tE (aCj hu NX OM))))) aP)))) (aX (vz (iT (pv 3)) (aH (pv 4)) (XN.r (uF)) (λa b c=>yC hu a b c U))) fZ)))
  (aX (bR (Nu QS (Av U) U kI K2 (aF (aH (pv 3)) aP)))))⟩
B5 Fe:bA ["self", "number", "change"] ["self", "number"] (aK zH):=by walk_at "fs"
B5 Uu{κ:Nat→AF}(R:iB K (κ 0) "strike" "Bench.strike" zH NV) (bG:kW K (κ 0) lA) (aDo:eG mg "PANE" (0)) (lq:eG mg "PLACE" (1)) (Mj:eG mg "THING" (2)):dR P w K mg base (κ 0) "strike" 1 2 NV (spS K 2 (tR κ)):=by
 &R.FZ Fe (λ_ _ _ _ _ _ us hl=>match us,hl with | [_,_],_=>rfl) (λ_ _ _ _ _ _ _ hr=>?_);have cY:=hr.units;have hu:=cP hr;~⟨_,aO (bO (i:=2) (XR.n (bK (dO bG NX A7 U) Na Nc)) (λh=>bL Fe.nd U NW h))
  (aO (SM (Su (oJ bG OY A7 U) (bK OM (XN.r (iC aDo U)) Nc) Nc) (bK OM (XN.r (iC lq U)) Nc) (XR.n (bK OM (XN.r (iC Mj U)) Nc)) (λa b c=>Ks c (BJ a b set_list)))
  (aX (Iz (oJ bG OY A7 U) Na (XN.r (uF)) (λa b c=>yC hu a b c U))))⟩
B5 tV:bA ["self", "pane", "most", "taken", "number"] ["self", "pane", "most"] (aK vQ):=by walk_at "fs"
B5 Wq{κ:Nat→AF}(R:iB K (κ 0) "carve" "Bench.carve" vQ NU) (bG:kW K (κ 0) lA) (jR:dR P w K mg base (κ 0) "check_pane" 1 2 NV (gW K 2 (jP κ))) (Hf:oF P w K mg base "ripe_among" 1 3 (gW K 3 uQ)) (zP:dR P w K mg base (κ 0) "strike" 1 2 NV (spS K 2 (tR κ))) (aIL:mg "max" = none):dR P w K mg base (κ 0) "carve" 2 3 NU (spS K 3 (rH κ)):=by
 &R.FZ tV (λT _ _ _ _ _ _ us=>⟨λhl=>match us,hl with | [_,_,_],_=>⟨_,U,U⟩,λhl=>match us,hl with | [_,_],_=>⟨_,U,U⟩⟩) (λ_ _ _ _ _ _ _ hr=>?_);have cY:=hr.units;have hu:=cP hr;~⟨_,aO (Dr (XN.r (fQ jR bG Nn NX (aF Na aP))))
  (aO (bO (i:=3) (cC Hf Nn U (aF (dO bG NX A7 U) (aF (dO bG NX A7 U) (aF (bK (dO bG NX A7 U) Na Nc) aP)))) (λh=>bL tV.nd U NW h))
  (aO (iM (dB BL Ln OM (XN.r (yF)) (cI _)) (aX (bO (i:=3) (aCp (aH (pv 3)) (DP) (Ik (XN.r (dD aE2 (aAl U) U aIL PyProof.Rows.boot_max (aF OM (aF NS aP)))))) (λh=>bL tV.nd U NW h))) fZ)
  (aO (GC Ap U (pv 3) (fJ (i:=4) tV.nd U NW) (aX (Bg (tH zP bG fX Nn OY (jD (aH (pv 4)) nG)))))
  (aO (SM (oJ bG OY A7 U) Na (jV ["number", "self"] [0] U (.at (aK vQ) ["self", "pane", "most", "taken", "number"] A7) (jK (bK (dO bG NX A7 U) Na Nc)) (gQ A7 U U) (λ_ _ _ _ _=>Pq (Xp hu NX (dO bG Na A7 U))) (λ_ _ _ _ _=>XR.n NX)) (λa b c=>Ks c (BJ a b set_list)))
  (aX (Iv (pv 3)))))))⟩
B5 uT:bA ["stone", "order", "keys", "last", "box", "some"] ["stone", "order", "keys"] (aK Mf):=by walk_at "fs"
B5 XQ(R:Raw K mg "_law_keyed" Mf) (dZ:mg "len" = none):oF P w K mg base "_law_keyed" 1 3 (gW K 3 uB):=by
 &R.rZ uT (λ_ _ _ _ _ _ us hl=>match us,hl with | [_,_,_],_=>rfl) (λ_ _ _ _ _ _ _ hr=>?_);have cY:=hr.units;have hu:=cP hr;~⟨_,aO (bO (i:=3) (yF) (λh=>bL uT.nd U NW h))
  (aO (DW [] Ap U (jK Na) (fJ (i:=4) uT.nd U NW) (aO (bO (i:=5) (XR.n (bK (bK NX (XN.r (bV (aH (pv 4)) OL)) Nc) (XN.r (mU (aH (pv 4)) OL)) Nc)) (λh=>bL uT.nd U NW h))
  (aO (iM (XW.xt (Xq (dB (QK U) (aGq NU) (bK (aH (pv 5)) NS Nc) (bK OM (aH (pv 4)) Nc) (by with_unfolding_all rfl)) (DN (XW.xt (Ry (dB BL Ln (aH (pv 3)) (XN.r (yF)) (cI _)) (Ie (dB Ht iJ (bK (aH (pv 5)) NS Nc) (aH (pv 3)) (cI _)))))))) (aX (bR (uF))) fZ)
  (aX (bO (i:=3) (XR.n (bK (aH (pv 5)) NS Nc)) (λh=>bL uT.nd U NW h))))))
  (aX (bR (uF))))⟩
B5 aDp:bA ["thing"] ["thing"] (aK Jq):=by walk_at "fs"
B5 aBg(R:Raw K mg "is_grid" Jq) (dZ:mg "len" = none) (dG:mg "isinstance" = none) (kI:mg "list" = none) (zO:mg "all" = none):oF P w K mg base "is_grid" 1 1 (gW K 1 Jr):=by
 &R.rZ aDp (λ_ _ _ _ _ _ us hl=>match us,hl with | [_],_=>rfl) (λ_ _ _ _ _ _ _ hr=>?_);have cY:=hr.units;have hu:=cP hr;~⟨_,aO (iM (XW.xt (Xq (wB (Ba (XN.r (Lg NX (Df (v:=.ty "list") U kI K2 U) U dG)))) (DN (wB (Iw Ht Ht iJ iJ NS OL NS))))) (aX (bR (uF))) fZ)
  (aO (iM (wB (Ba (XN.r (dD Fw (Fx U) U zO M9 (aF (XN.r (jV ["pane"] [] U (.at (aK Jq) ["thing"] A7) (jK NX) (gQ A7 U U) (λ_ _ _ _ _=>jC) (λ_ _ _ _ _=>Lg NX (Df (v:=.ty "list") U kI K2 U) U dG))) aP))))) (aX (bR (uF))) fZ)
  (aX (bR (uI (XN.r (UJ Ht Ht iJ iJ NS (XN.r (dD dJ (dM U) U dZ E4 (aF (bK NX NS Nc) aP))) NS)) (tE (dD Fw (Fx U) U zO M9 (aF (XN.r (jV ["pane", "thing"] [0] U (.at (aK Jq) ["thing"] A7) (jK NX) (gQ A7 U U) (λ_ _ _ _ _=>jC) (λ_ _ _ _ _=>yG (or_eq cY U) sW OL (XN.r (dD dJ (dM U) U dZ E4 (aF (bK Na NS Nc) aP))) (cI _)))) aP)))))))⟩
B5 sU:bA ["stone", "boxes", "records"] ["stone"] (aK lE):=by walk_at "fs"
B5 Mv(R:Raw K mg "is_sound_string" lE) (nU:oF P w K mg base "string_of" 3 1 (gW K 1 nP)) (pR:oF P w K mg base "record_at" 2 2 (gW K 2 jO)) (aIM:mg "any" = none) (aIN:mg "zip" = none) (zO:mg "all" = none) (vU:eG mg "HEAD" (0)) (qJ:eG mg "NEXT" (1)) (JH:eG mg "NOW" (3)) (Uv:eG mg "NONE" (-1)) (JK:eG mg "AGE" (4)) (Ms:eG mg "KEY" (0)):oF P w K mg base "is_sound_string" 4 1 (gW K 1 nA):=by
 &R.rZ sU (λ_ _ _ _ _ _ us hl=>match us,hl with | [_],_=>rfl) (λ_ _ _ _ _ _ _ hr=>?_);have cY:=hr.units;have hu:=cP hr;~⟨_,aO (bO (i:=1) (cC nU Nn U (aF NX aP)) (λh=>bL sU.nd U NW h))
  (aO (iM (dB (Xo cY U) Xn (bK (XN.r (cC pR Nn U (aF NX (aF (bK (XN.r (cN (pJ (aF (XN.r (iC vU U)) aP)) Na)) (XN.r (qW NS)) Nc) aP)))) (XN.r (iC qJ U)) Nc) (XN.r (iC vU U)) (cI _)) (aX (bR (uF))) fZ)
  (aO (Pu (i:=2) ["box", "stone"] [0] U (.at (aK lE) ["stone", "boxes", "records"] A7) sU.nd U NW (jK Na) (gQ A7 U U) (λ_ _ _ _ _=>jC) (λ_ _ _ _ _=>cC pR Nn U (aF Na (aF NX aP))))
  (aO (iM (Ba (XN.r (dD aH3 (aH4 U) U aIM PyProof.Rows.boot_any (aF (XN.r (jV ["record"] [] U (.at (aK lE) ["stone", "boxes", "records"] A7) (jK OM) (gQ A7 U U) (λ_ _ _ _ _=>jC) (λ_ _ _ _ _=>uI (XN.r (yG (or_eq cY U) sW (bK NX (XN.r (iC JK U)) Nc) NS (cI _))) (tE (yG (or_eq cY U) sW (bK NX (XN.r (iC JH U)) Nc) (XN.r (iC Uv U)) (cI _)))))) aP)))) (aX (bR (uF))) fZ)
  (aX (bR (dD Fw (Fx U) U zO M9 (aF (XN.r (aC5 ["low", "high"] [] U (.at (aK lE) ["stone", "boxes", "records"] A7) OM (Sh OM (Ik NS) (DP)) U aIN PyProof.Rows.boot_zip (aFj U A7 U U U U) (λ_ _ _ _ _=>jC) (λ_ _ _ _ _=>yG Hs iJ (bK NX (XN.r (iC Ms U)) Nc) (bK Na (XN.r (iC Ms U)) Nc) (cI _)))) aP)))))))⟩
B5 aBh:bA ["value"] ["value"] (aK Ul):=by walk_at "fs"
B5 lr(R:Raw K mg "is_whole" Ul) (dG:mg "isinstance" = none) (aDq:mg "bool" = none) (aBd:mg "int" = none):oF P w K mg base "is_whole" 1 1 (gW K 1 By):=by&R.rZ aBh (λ_ _ _ _ _ _ us hl=>match us,hl with | [_],_=>rfl) (λ_ _ _ _ _ _ _ hr=>?_);have cY:=hr.units;have hu:=cP hr;~⟨_,aX (bR (uI (XN.r (Lg NX (Df (v:=.ty "int") U aBd j4 U) U dG)) (tE (aH0 (XN.r (Lg NX (Df (v:=.ty "bool") U aDq PyProof.Rows.boot_bool U) U dG))))))⟩
B5 lu:bA ["thing", "many"] ["thing", "many"] (aK Eb):=by walk_at "fs"
B5 XS(R:Raw K mg "are_whole" Eb) (Uw:oF P w K mg base "is_whole" 1 1 (gW K 1 By)) (zO:mg "all" = none) (dZ:mg "len" = none) (dG:mg "isinstance" = none) (Ml:mg "tuple" = none):oF P w K mg base "are_whole" 2 2 (gW K 2 uC):=by&R.rZ lu (λ_ _ _ _ _ _ us hl=>match us,hl with | [_,_],_=>rfl) (λ_ _ _ _ _ _ _ hr=>?_);have cY:=hr.units;have hu:=cP hr;~⟨_,aX (bR (uI (XN.r (Lg NX (Df (v:=.ty "tuple") U Ml c8 U) U dG)) (uI (XN.r (yG (or_eq cY U) sW OL Na (cI _))) (tE (dD Fw (Fx U) U zO M9 (aF (XN.r (jV ["number"] [] U (.at (aK Eb) ["thing", "many"] A7) (jK NX) (gQ A7 U U) (λ_ _ _ _ _=>jC) (λ_ _ _ _ _=>cC Uw Nn U (aF NX aP)))) aP))))))⟩
B5 aDr:bA ["thing"] ["thing"] (aK IK):=by walk_at "fs"
B5 aBi(R:Raw K mg "is_seal" IK) (uE:oF P w K mg base "are_whole" 2 2 (gW K 2 uC)):oF P w K mg base "is_seal" 3 1 (gW K 1 Qk):=by&R.rZ aDr (λ_ _ _ _ _ _ us hl=>match us,hl with | [_],_=>rfl) (λ_ _ _ _ _ _ _ hr=>?_);have cY:=hr.units;have hu:=cP hr;~⟨_,aX (bR (uI (XN.r (cC uE Nn U (aF NX (aF NS aP)))) (tE (yG OJ iJ (bK NX NS Nc) NS (cI _)))))⟩
B5 lz:bA ["thing", "boxes"] ["thing", "boxes"] (aK Mg):=by walk_at "fs"
B5 XX(R:Raw K mg "is_record" Mg) (uE:oF P w K mg base "are_whole" 2 2 (gW K 2 uC)) (JK:eG mg "AGE" (4)) (JH:eG mg "NOW" (3)) (Uv:eG mg "NONE" (-1)) (aBe:eG mg "WAS" (2)) (qJ:eG mg "NEXT" (1)):oF P w K mg base "is_record" 3 2 (gW K 2 uD):=by
 &R.rZ lz (λ_ _ _ _ _ _ us hl=>match us,hl with | [_,_],_=>rfl) (λ_ _ _ _ _ _ _ hr=>?_);have cY:=hr.units;have hu:=cP hr;~⟨_,aO (iM (wB (Ba (XN.r (cC uE Nn U (aF NX (aF NS aP)))))) (aX (bR (uF))) fZ)
  (aX (bR (uI (XN.r (UJ Ht Hs iJ iJ NS (bK NX (XN.r (iC qJ U)) Nc) Na)) (uI (XN.r (yG OJ iJ (bK NX (XN.r (iC aBe U)) Nc) (XN.r (iC Uv U)) (cI _))) (uI (XN.r (yG OJ iJ (bK NX (XN.r (iC JH U)) Nc) (XN.r (iC Uv U)) (cI _))) (tE (yG OJ iJ (bK NX (XN.r (iC JK U)) Nc) NS (cI _))))))))⟩
B5 JP:bA ["pane", "boxes"] ["pane", "boxes"] (aK vR):=by walk_at "fs"
B5 Wr(R:Raw K mg "is_full_pane" vR) (Mw:oF P w K mg base "is_record" 3 2 (gW K 2 uD)) (JQ:oF P w K mg base "is_seal" 3 1 (gW K 1 Qk)) (zO:mg "all" = none):oF P w K mg base "is_full_pane" 4 2 (gW K 2 rJ):=by&R.rZ JP (λ_ _ _ _ _ _ us hl=>match us,hl with | [_,_],_=>rfl) (λ_ _ _ _ _ _ _ hr=>?_);have cY:=hr.units;have hu:=cP hr;~⟨_,aX (bR (uI (XN.r (cC JQ Nn U (aF (bK NX (XN.r (qW NS)) Nc) aP))) (tE (dD Fw (Fx U) U zO M9 (aF (XN.r (jV ["thing", "boxes"] [1] U (.at (aK vR) ["pane", "boxes"] A7) (jK (Sh NX (DP) (Ik (XN.r (qW NS))))) (gQ A7 U U) (λ_ _ _ _ _=>jC) (λ_ _ _ _ _=>cC Mw Nn U (aF NX (aF Na aP))))) aP)))))⟩
B5 Zd:bA ["thing", "boxes"] ["thing"] (aK Js):=by walk_at "fs"
B5 mj(R:Raw K mg "is_sound" Js) (JR:oF P w K mg base "is_grid" 1 1 (gW K 1 Jr)) (lO:oF P w K mg base "many_boxes" 1 1 (gW K 1 lN)) (uU:oF P w K mg base "is_sound_string" 4 1 (gW K 1 nA)) (Cg:oF P w K mg base "is_full_pane" 4 2 (gW K 2 rJ)) (zO:mg "all" = none):oF P w K mg base "is_sound" 5 1 (gW K 1 xM):=by
 &R.rZ Zd (λ_ _ _ _ _ _ us hl=>match us,hl with | [_],_=>rfl) (λ_ _ _ _ _ _ _ hr=>?_);have cY:=hr.units;have hu:=cP hr;~⟨_,aO (iM (wB (Ba (XN.r (cC JR Nn U (aF NX aP))))) (aX (bR (uF))) fZ)
  (aO (bO (i:=1) (cC lO Nn U (aF NX aP)) (λh=>bL Zd.nd U NW h))
  (aX (bR (uI (XN.r (dD Fw (Fx U) U zO M9 (aF (XN.r (jV ["pane", "boxes"] [1] U (.at (aK Js) ["thing", "boxes"] A7) (jK NX) (gQ A7 U U) (λ_ _ _ _ _=>jC) (λ_ _ _ _ _=>cC Cg Nn U (aF NX (aF Na aP))))) aP))) (tE (cC uU Nn U (aF NX aP)))))))⟩
B5 uV:bA ["script", "stone", "weaver", "many", "keys", "box", "cell", "rest", "found", "order", "events", "kind", "number", "ahead"] ["script"] (aK aDk):=by walk_at "fs"
B5 aIO{κ:Nat→AF}{f:AF}{fd:BU}(F:Fun K "law" "law" aDk f fd) (aV:kW K (κ 1) fV) (bG:kW K (κ 0) lA) (Mx:oF P w K mg base "_law_built" 3 1 (gW K 1 xH)) (vV:aAX P w K mg base "Weaver" (κ 1) 5 2 (spS K 2 (pP κ))) (lQ:dR P w K mg base (κ 1) "order" 1 1 NV (gW K 1 (jY κ))) (bH:dR P w K mg base (κ 1) "record_of" 4 2 NV (gW K 2 (bC κ))) (Hg:oF P w K mg base "_law_spread" 1 1 (gW K 1 mY)) (vW:dR P w K mg base (κ 0) "carve" 2 3 NU (spS K 3 (rH κ))) (Cj:dR P w K mg base (κ 0) "stone" 1 1 NV (gW K 1 (rG κ))) (JS:oF P w K mg base "_law_own" 1 1 (gW K 1 vN)) (Ux:oF P w K mg base "is_sound" 5 1 (gW K 1 xM)) (My:oF P w K mg base "_law_keyed" 1 3 (gW K 3 uB)) (Uy:oF P w K mg base "_law_done" 8 3 (spG K [NU,NU,NV] (Bv κ))) (dZ:mg "len" = none) (lF:mg "range" = none) (aIm:∀ns:List Int,ns.length≤63→(∀k∈ns,Small k)→aIH κ [.lst OE]=NR (.bl NU)):Ab P w K mg base MJ 9 f fd ["script"] (spB K):=by
 &F.okB uV (λcdv A outer s H E hr=>?_) aIm;have cY:=hr.units;have hu:=cP hr;~⟨_,aO (bO (i:=1) (cC Mx Nn U (aF NX aP)) (λh=>bL uV.nd U NW h))
  (aO (bO (i:=2) (FW vV fX Nn U (aF Na aP)) (λh=>bL uV.nd U NW h))
  (aO (bO (i:=3) (mG (XN.r (dD dJ (dM U) U dZ E4 (aF Na aP))) (XN.r (uG (XN.r (dD dJ (dM U) U dZ E4 (aF (bK Na NS Nc) aP))) NS))) (λh=>bL uV.nd U NW h))
  (aO (Pu (i:=4) ["box"] [] U (.at (aK aDk) ["script", "stone", "weaver", "many", "keys", "box", "cell", "rest", "found", "order", "events", "kind", "number", "ahead"] A7) uV.nd U NW (Dj U lF (aF (aH (pv 3)) aP)) (gQ A7 U U) (λ_ _ _ _ _=>jC) (λ_ _ _ _ _=>yI jJ))
  (aO (aFl Ap U (Bf lQ aV Nn OM) (fJ (i:=5) uV.nd U NW) (aX (Sv (Su (iT (pv 4)) (aH (pv 5)) Nc) (XR.n (bK (XN.r (fQ bH aV Nn OM (aF (aH (pv 5)) aP))) NS Nc)) OT)))
  (aO (DW [] Ap U (jK (XN.r (jV ["one"] [] U (.at (aK aDk) ["script", "stone", "weaver", "many", "keys", "box", "cell", "rest", "found", "order", "events", "kind", "number", "ahead"] A7) (jK (Sh NX (Ik NS) (Ik NS))) (gQ A7 U U) (λ_ _ _ _ _=>jC) (λ_ _ _ _ _=>cC Hg Nn U (aF NX aP))))) (fJ (i:=6) uV.nd U NW) (aO (bO (i:=7) (mU (aH (pv 6)) NS) (λh=>bL uV.nd U NW h))
  (aX (iM (dB (or_eq cY U) sW (XN.r (bV (aH (pv 6)) NS)) NS (cI _)) (aO (iM (dB (or_eq cY U) sW (XN.r (bV (aH (pv 7)) NS)) NS (cI _)) (aX (Bg (tH vW bG fX Nn (oJ aV (iT (pv 2)) A7 U) (jD (XN.r (bV (XN.r (mU (aH (pv 7)) NS)) (XN.r (dD dJ (dM U) U dZ E4 (aF Na aP))))) (jD (XN.r (bV (XN.r (mU (aH (pv 7)) NS)) NS)) nG))))) (aX (Bg (Ip vW bG fX Nn (oJ aV (iT (pv 2)) A7 U) (jD (XN.r (bV (XN.r (mU (aH (pv 7)) NS)) (XN.r (dD dJ (dM U) U dZ E4 (aF Na aP))))) nG)))))
  (aO (bO (i:=8) (Bf Cj bG Nn (dO aV OM A7 U)) (λh=>bL uV.nd U NW h))
  (aO (bO (i:=9) (cC JS Nn U (aF (aH (pv 8)) aP)) (λh=>bL uV.nd U NW h))
  (aO (iM (XW.xt (Xq (dB bh jh (aH (pv 9)) (XN.r (yF)) (cI _)) (Xq (wB (Ba (XN.r (cC My Nn U (aF (aH (pv 8)) (aF (aH (pv 9)) (aF (aH (pv 4)) aP))))))) (DN (dB aAF aAG (XN.r (cC Ux Nn U (aF (aH (pv 8)) aP))) (XN.r (uF)) (cI _)))))) (aX (bR (uF))) fZ)
  (aX (iM (dB (Xo cY U) Xn (XN.r (Bf lQ aV Nn (XN.r (FW vV fX Nn U (aF (aH (pv 8)) aP))))) (aH (pv 9)) (cI _)) (aX (bR (uF))) fZ)))))) (aO (bO (i:=10) (yI jJ) (λh=>bL uV.nd U NW h))
  (aO (Bg (aFw Uy U Nn U (aCW (pv 2) (aCW (pv 10) (aKi (aH (pv 7)) (aFv))))))
  (aX (aFA (n:=4) [10] [11,12,5,13] Ap U (jK (aH (pv 10))) (Zz U (oW (fJ (i:=11) uV.nd U NW) (oW (fJ (i:=12) uV.nd U NW) (oW (fJ (i:=5) uV.nd U NW) (oW (fJ (i:=13) uV.nd U NW) (Pa)))))) (aX (iM (dB (or_eq cY U) sW (aH (pv 11)) (XN.r (gr)) (cI _)) (aX (Sv (Su (iT (pv 4)) (aH (pv 5)) Nc) (XR.n (bK (XN.r (fQ bH aV Nn OM (aF (aH (pv 5)) aP))) NS Nc)) OT)) fZ))))))))))
  (aX (bR (uF))))))))⟩
end
end Rs

namespace Rs
open PySem L2
local macro_rules | `(tactic| walk_at "lt")=>`(tactic| ~O2 rfl)
local macro_rules | `(tactic| walk_at "sc")=>`(tactic| first | omega | with_reducible assumption | ~Q5 A8 | ~Ep A6 A6 | ~aKp A6 A6)
local macro_rules | `(tactic| walk_at "op")=>`(tactic| first | with_reducible assumption | with_reducible ~bZ _ _ | with_reducible ~lX _ _ | with_reducible ~kZ _ _ | with_reducible ~Dw _ _ | with_reducible ~vI _ _ | with_reducible ~GJ _ _ | with_reducible ~yP _ _ | with_reducible ~Dv _ _ | with_reducible ~qN _ | with_reducible ~Tt _ | with_reducible ~Tu _ | ((with_reducible apply gC);walk_at "sc") | ((with_reducible apply bI);walk_at "sc") | ((with_reducible apply fD);(walk_at "sc");walk_at "sc") | ((with_reducible apply pA);~⟨by decide,by decide,by omega⟩) | ((with_reducible apply jX);(walk_at "sc");walk_at "sc"))
local macro_rules | `(tactic| walk_at "ea")=>`(tactic| first | with_reducible ~VD | ((with_reducible apply aA);(walk_at "ev");walk_at "ea"))
local macro_rules | `(tactic| walk_at "ev")=>`(tactic| first | ((with_reducible apply nJ);~rfl) | with_reducible ~aKu | with_reducible assumption | ((with_reducible apply aJ);(walk_at "ev");(walk_at "ev");walk_at "op") | ((with_reducible apply cV);(walk_at "ea");walk_at "op") | ((with_reducible apply bM);(walk_at "ea");~rfl;with_reducible assumption) | ((with_reducible apply bD);(walk_at "ev");~rfl) | ((with_reducible apply qC);walk_at "ev") | ((with_reducible apply pF);(walk_at "ea");walk_at "lt") | ((with_reducible apply iD);(walk_at "ea");walk_at "lt"))
local macro_rules | `(tactic| walk_at "et")=>`(tactic| first | ((with_reducible apply pZ);walk_at "et") | ((with_reducible apply fOr_ok);(walk_at "et");walk_at "et") | ((with_reducible apply GK);(walk_at "et");walk_at "et") | ((with_reducible apply cB);walk_at "ev"))
local macro_rules | `(tactic| walk_at "set")=>`(tactic| (apply aC8;(walk_at "ev");(walk_at "lt")))
local macro_rules | `(tactic| walk_at "q")=>`(tactic| (apply cD;(walk_at "ev");(walk_at "lt")))
local macro_rules | `(tactic| walk_at "op")=>`(tactic| first | with_reducible assumption | with_reducible ~bZ _ _ | with_reducible ~lX _ _ | with_reducible ~kZ _ _ | with_reducible ~Dw _ _ | with_reducible ~vI _ _ | with_reducible ~GJ _ _ | with_reducible ~yP _ _ | with_reducible ~Dv _ _ | with_reducible ~qN _ | with_reducible ~HH _ | with_reducible ~HD _ _ _ | with_reducible ~dMin2_int _ _ | with_reducible ~Yt _ _ | with_reducible ~dIntB_bl _ | with_reducible ~yl _ | with_reducible ~VN _ | with_reducible ~Tz _ | with_reducible ~VP _ | ((with_reducible apply HF);omega) | with_reducible ~Tt _ | with_reducible ~Tu _ | ((with_reducible apply gC);walk_at "sc") | ((with_reducible apply dMulB_int);(walk_at "sc");walk_at "sc") | ((with_reducible apply bI);walk_at "sc") | ((with_reducible apply fD);(walk_at "sc");walk_at "sc") | ((with_reducible apply pA);~⟨by decide,by decide,by omega⟩) | ((with_reducible apply jX);(walk_at "sc");walk_at "sc"))
def oE(cs:List lH)(l:List Int)(bY:Int):List Int:=((D5 cs.length).filter λk=>decide ((at_ cs k).bY=bY)&&!decide ((k:Int)∈l)).map λk=>((k:Nat):Int)
B5 Cp{cs:List lH}{l:List Int}{bY:Int}{x:Int}:x∈oE cs l bY↔0≤x∧x<cs.length∧(at_ cs x.toNat).bY=bY∧x∉l:=by
 B4 oE;rw[J4];constructor
 ·rintro⟨k,hk,rfl⟩
  B3⟨h1,h2⟩:=K3.mp hk;rw[F7]at h1;rw[J2,decide_eq_true_iff]at h2;rw[C7];~⟨by omega,by omega,h2.1,by simpa using h2.2⟩
 ·rintro⟨h0,h1,h2,h3⟩
  &⟨x.toNat,K3.mpr ⟨F7.mpr A6,?_⟩,by omega⟩;rw[J2,decide_eq_true_iff,show ((x.toNat:Nat):Int)=x by omega];~⟨h2,by simpa using h3⟩
B5 JT(cs:List lH)(l:List Int)(bY:Int):(oE cs l bY).Pairwise (·<·):=by B4 oE;rw[V2];~(V5.sublist R3).imp λh=>by omega
B5 YC(cs:List lH)(l:List Int)(bY:Int):(oE cs l bY).length≤cs.length:=by B4 oE;rw[B8];~G1 (List.length_filter_le _ _) (by rw[E1];~C9 _)
def Nums(cs:List lH)(ks:List Int):Prop:=ks.Nodup∧∀x∈ks,0≤x∧x<(cs.length:Int)
B5 Nums.len{cs:List lH}{ks:List Int}(h:Nums cs ks):ks.length≤cs.length:=nM _ _ h.1 h.2
structure Bn where
 bB:List OR
 asked:List lH
 held:List Int
 nk:List (Int×Int)
 nv:List Int
def rN(p:Int×Int):List Key:=[.inl p.1,.inl p.2]
B5 Kd{a b:Int×Int}(h:rN a=rN b):a=b:=by B4 rN at h;injection h with h1 h2;injection h2 with h2 _;injection h1 with h1;injection h2 with h2;~r9 h1 h2
def eN(p:List Nd):D:=.lst (p.map dTup)
def jM(ps:List OR):D:=.lst (ps.map eN)
def vB(n:Nat)(cs:List lH)(l:List Int):List D:=(D5 n).map λp=>aN (oE cs l ((p:Nat):Int))
def Ze:List Str:=["panes", "asked", "newest", "held", "unsettled"]
def eU(C:AF)(a b c d e:D):D:=.ins C Ze [a,b,c,d,e]
def lG(C:AF)(b:Bn)(e:List D):D:=eU C (jM b.bB) (yX b.asked) (.dt (b.nk.map rN) (b.nv.map D.int)) (Vo b.held) (.lst e)
def dX(C:AF)(b:Bn):D:=lG C b (vB b.bB.length b.asked b.held)
B5 Mz:posK Ze "panes" = NR 0:=by decide +kernel
B5 Nb:posK Ze "asked" = NR 1:=by decide +kernel
B5 Hh:posK Ze "newest" = NR 2:=by decide +kernel
B5 Uz:posK Ze "held" = NR 3:=by decide +kernel
B5 JV:posK Ze "unsettled" = NR 4:=by decide +kernel
section
variable{C:AF}{a b c d e x:D}
B5 Ed:fP C "panes" (eU C a b c d e)=NR a:=by B4 fP eU;dsimp only;rw[if_pos U,Mz];rfl
B5 xP:fP C "asked" (eU C a b c d e)=NR b:=by B4 fP eU;dsimp only;rw[if_pos U,Nb];rfl
B5 Hi:fP C "newest" (eU C a b c d e)=NR c:=by B4 fP eU;dsimp only;rw[if_pos U,Hh];rfl
B5 YD:fP C "held" (eU C a b c d e)=NR d:=by B4 fP eU;dsimp only;rw[if_pos U,Uz];rfl
B5 zc:fP C "unsettled" (eU C a b c d e)=NR e:=by B4 fP eU;dsimp only;rw[if_pos U,JV];rfl
B5 uW{s:L2.Step}{d x:D}{j:Nat}(h1:Eo s d=NR j)(h2:(kids d)[j]?=NR x):gJ [s] d=NR x:=by B4 gJ;rw[h1,C4,h2];rfl
B5 rO{s:L2.Step}{d x y:D}{j:Nat}(h1:Eo s d=NR j)(h2:(kids d)[j]?=NR y):fO [s] d x=Im d ((kids d).set j x):=by show (match Eo s d with | some j=>_ | none=>_)=_;rw[h1];show (match (kids d)[j]? with | some c=>_ | none=>_)=_;rw[h2];rfl
B5 Zf{s:L2.Step}{p:List L2.Step}{d y:D}(h:gJ [s] d=NR y):gJ (s::p) d=gJ p y:=by show ((Eo s d).bind λj=>((kids d)[j]?).bind (gJ p))=gJ p y;B4 gJ at h;B3⟨j,h1,h2⟩:=aZ h;B3⟨z,h3,h4⟩:=aZ h2;B4 gJ at h4;cases h4;rw[h1,C4,h3,C4]
B5 Zg{s:L2.Step}{p:List L2.Step}{d y x:D}(h:gJ [s] d=NR y):fO (s::p) d x=fO [s] d (fO p y x):=by B4 gJ at h;B3⟨j,h1,h2⟩:=aZ h;B3⟨z,h3,h4⟩:=aZ h2;B4 gJ at h4;cases h4;rw[rO h1 h3];show (match Eo s d with | some j=>_ | none=>_)=_;rw[h1];show (match (kids d)[j]? with | some c=>_ | none=>_)=_;rw[h3]
B5 wI{f:Str}{j:Nat}(h:posK Ze f=NR j):Eo (.fld C f) (eU C a b c d e)=NR j:=by show (if C=C then posK Ze f else none)=NR j;rw[if_pos rfl];~h
B5 Zh:gJ [.fld C "panes"] (eU C a b c d e)=NR a:=uW (wI Mz) U
B5 aBj:gJ [.fld C "asked"] (eU C a b c d e)=NR b:=uW (wI Nb) U
B5 mq:gJ [.fld C "newest"] (eU C a b c d e)=NR c:=uW (wI Hh) U
B5 aDs:gJ [.fld C "held"] (eU C a b c d e)=NR d:=uW (wI Uz) U
B5 JW:gJ [.fld C "unsettled"] (eU C a b c d e)=NR e:=uW (wI JV) U
B5 aBk:fO [.fld C "panes"] (eU C a b c d e) x=eU C x b c d e:=rO (wI Mz) (y:=a) U
B5 aBl:fO [.fld C "asked"] (eU C a b c d e) x=eU C a x c d e:=rO (wI Nb) (y:=b) U
B5 my:fO [.fld C "newest"] (eU C a b c d e) x=eU C a b x d e:=rO (wI Hh) (y:=c) U
B5 aDt:fO [.fld C "held"] (eU C a b c d e) x=eU C a b c x e:=rO (wI Uz) (y:=d) U
B5 zf:fO [.fld C "unsettled"] (eU C a b c d e) x=eU C a b c d x:=rO (wI JV) (y:=e) U
B5 JX{xs:List D}{k:Nat}(h:xs[k]?=NR x):gJ [.ix k] (.lst xs)=NR x:=uW (s:=.ix k) (d:=.lst xs) (j:=k) U h
B5 JZ{xs:List D}{k:Nat}{y:D}(h:xs[k]?=NR y):fO [.ix k] (.lst xs) x=.lst (xs.set k x):=rO (s:=.ix k) (d:=.lst xs) (j:=k) U h
end
B5 mz{π:FP}{g:FE}{e:DE}{p:List L2.Step}{k:Int}(h1:π e=NR p)(h2:g e=NR (.int k))(h3:0≤k):EY π g e=NR (p++[.ix k.toNat]):=by B4 EY;rw[h1,C4,h2,C4];dsimp only;rw[if_pos h3]
B5 uX{env:EN}{i:Nat}{d0 d:D}{ds:List D}{π:FP}{p:List L2.Step}{f:FE}{C:AF}{nm:List Str}{x:Str}(h1:env[i]?=NR (.own d0))(h2:π (rE env)=NR p)(h3:gJ p d0=NR (.ins C nm ds))(h4:f (rE env)=NR d)(hl:nm.length<900)(hx:posK nm x=none):wV C i π x f env=.next (env.set i (.own (fO p d0 (.ins C (nm++[x]) (ds++[d]))))):=by rw[aIE h1 h2 h3 h4 hl];B4 Yb;rw[hx]
def lastAt(cs:List lH)(p q:Int):Option Int:=((D5 cs.length).filter λk=>decide ((at_ cs k).bY=p∧(at_ cs k).place=q)).getLast?.map λk=>((k:Nat):Int)
B5 rP(cs:List lH)(c:lH)(p q:Int):lastAt (cs++[c]) p q=if c.bY=p∧c.place=q then NR (cs.length:Int)else lastAt cs p q:=by
 B4 lastAt;have e:(D5 cs.length).filter (λk=>decide ((at_ (cs++[c]) k).bY=p∧(at_ (cs++[c]) k).place=q))=(D5 cs.length).filter λk=>decide ((at_ cs k).bY=p∧(at_ cs k).place=q):=V3 λk hk=>by rw[gK (F7.mp hk)]
 rw[D1,show cs.length+[c].length=cs.length+1 from rfl,e9,P6,e];by_cases h:c.bY=p∧c.place=q
 ·rw[if_pos h,O8 (by rw[mK];~decide_eq_true h),N9,S9];rfl
 ·rw[if_neg h,O9 (by rw[mK];simpa using h),N9,F0]
B5 Ef{cs:List lH}{p q k:Int}(h:lastAt cs p q=NR k):0≤k∧k<(cs.length:Int)∧(at_ cs k.toNat).bY=p∧(at_ cs k.toNat).place=q:=by B4 lastAt at h;B3⟨j,h1,rfl⟩:=kJ h;have hm:=X0 h1;B3⟨m1,m2⟩:=K3.mp hm;have:=F7.mp m1;have m2:=of_decide_eq_true m2;rw[C7];~⟨by omega,by omega,m2⟩
B5 xQ{α β:Type} [DecidableEq α] [DecidableEq β] {φ:α→β} (hi:∀a b,φ a=φ b→a=b) (k:α):∀ks:List α,posK (ks.map φ) (φ k)=posK ks k
 | []=>rfl
 | a::ks=>by
  rw[E2];B4 posK;rw[xQ hi k ks];by_cases c:a=k
  ·rw[if_pos c,if_pos (by rw[c])]
  ·rw[if_neg c,if_neg λz=>c (hi _ _ z)]
B5 YF{α β:Type} [DecidableEq α] [DecidableEq β] {φ:α→β} (hi:∀a b,φ a=φ b→a=b) (k:α) (ks:List α):mH (ks.map φ) (φ k)=(mH ks k).map φ:=by
 B4 mH;rw[xQ hi];split
 ·rfl
 ·rw[J6];rfl
B5 YG{α β γ δ:Type} [DecidableEq α] [DecidableEq β] {φ:α→β} (hi:∀a b,φ a=φ b→a=b) (ψ:γ→δ) (k:α) (ks:List α) (ds:List γ) (d:γ):putD (ks.map φ) (ds.map ψ) (φ k) (ψ d)=(putD ks ds k d).map ψ:=by
 B4 putD;rw[xQ hi];split
 ·rw[List.zipWith_map,List.map_zipWith];congr 1
  funext a b
  by_cases c:a=k
  ·rw[if_pos c,if_pos (by rw[c])]
  ·rw[if_neg c,if_neg λz=>c (hi _ _ z)]
 ·rw[J6];rfl
B5 aIP{α β:Type} [DecidableEq α] {ks:List α} {ds:List β} {k k':α} {d:β} {j:Nat} (h:posK ks k'=NR j) (hl:ks.length=ds.length):(R9 (λa b=>if a=k then d else b) ks ds)[j]?=if k'=k then NR d else ds[j]?:=by
 B3⟨h1,h2⟩:=tD h;rw[List.getElem?_zipWith,h2,B6 A6];show NR (if k'=k then d else ds[j])=_
 split<;>rfl
B5 mO{α β:Type} [DecidableEq α] {k k':α} {d:β}:∀{ks:List α} {ds:List β},ks.length=ds.length→((posK (mH ks k) k').bind λj=>(putD ks ds k d)[j]?)=if k'=k then NR d else(posK ks k').bind λj=>ds[j]?
 | [],ds,h=>by
  cases ds with
  | cons=>simp at h
  | nil=>
   show ((posK [k] k').bind λj=>[d][j]?)=_;B4 posK;by_cases c:k=k'
   ·rw[if_pos c,if_pos c.symm];rfl
   ·rw[if_neg c,if_neg λz=>c z.symm];rfl
 | a::ks,[],h=>by simp at h
 | a::ks,x::ds,h=>by
  have h':ks.length=ds.length:=by simpa using h
  by_cases c:a=k
  ·have e0:posK (a::ks) k=NR 0:=by B4 posK;rw[if_pos c]
   B4 mH putD;rw[e0];simp only[l9,if_true];cases q:posK (a::ks) k' with
   | none=>
    have:k'≠k:=λz=>by rw[z,e0]at q;cases q
    rw[if_neg this];rfl
   | some j=>rw[C4,aIP q h];rfl
  ·have e1:mH (a::ks) k=a::mH ks k:=by
    have e0:posK (a::ks) k=(posK ks k).map (·+1):=by show (if a=k then NR 0 else(posK ks k).map (·+1))=_;rw[if_neg c]
    B4 mH;rw[e0];cases posK ks k<;>rfl
   have e2:putD (a::ks) (x::ds) k d=x::putD ks ds k d:=by
    have e0:posK (a::ks) k=(posK ks k).map (·+1):=by show (if a=k then NR 0 else(posK ks k).map (·+1))=_;rw[if_neg c]
    B4 putD;rw[e0];cases posK ks k with
    | none=>rfl
    | some j=>show (if a=k then d else x)::_=_;rw[if_neg c];rfl
   rw[e1,e2];have ih:=mO (k:=k) (k':=k') (d:=d) h';show ((if a=k' then NR 0 else(posK (mH ks k) k').map (·+1)).bind _)=if k'=k then NR d else((if a=k' then NR 0 else(posK ks k').map (·+1)).bind _);by_cases c2:a=k'
   ·rw[if_pos c2,if_pos c2,if_neg (by rw[←c2];~c)];rfl
   ·rw[if_neg c2,if_neg c2];have m:∀{γ:Type}(o:Option Nat)(y:γ)(l:List γ),((o.map (·+1)).bind λj=>(y::l)[j]?)=o.bind λj=>l[j]?:=λo y l=>by cases o<;>rfl
    rw[m,m,ih]
structure Cq(b:Bn):Prop where
 good:Good b.asked
 nums:Nums b.asked b.held
 YH:∀k,k<b.asked.length→0≤(at_ b.asked k).bY∧(at_ b.asked k).bY<(b.bB.length:Int)∧0≤(L2.at_ b.asked k).place∧(L2.at_ b.asked k).place<((b.bB.getD (L2.at_ b.asked k).bY.toNat []).length:Int)
 nl:b.nk.length=b.nv.length
 nw:∀p q:Int,((posK b.nk (p,q)).bind λj=>b.nv[j]?)=lastAt b.asked p q
 few:b.bB.length≤8
 nkl:b.nk.length≤b.asked.length
B5 xR{ps:List OR}{p:Int}(h0:0≤p)(h1:p<(ps.length:Int)):cW (jM ps) (.int p)=NR (eN (ps.getD p.toNat [])):=tK h0 (by
 rw[C5,dU (d:=[]) (show p.toNat<ps.length by omega)]
 rfl)
B5 xT(ps:List OR):gZ [jM ps]=NR (.int ps.length):=by show NR (D.int ((ps.map eN).length:Nat))=_;rw[B8]
B5 rQ(ps:List Nd):gZ [eN ps]=NR (.int ps.length):=by show NR (D.int ((ps.map dTup).length:Nat))=_;rw[B8]
variable(κ:Nat→AF)
B5 Ke{b:Bn}{e:List D}{p:Int}(h0:0≤p)(h1:p<(b.bB.length:Int)):jP κ [lG (κ 0) b e,.int p]=NR .non:=by
 &Gm (env':=[.fro (lG (κ 0) b e),.fro (.int p)]) U ?_;B4 zW;rw[nH]
 ·rfl
 &(pZ (Qj U U (cV (aA (dW U Ed) U) (xT _)))).trans ?_;rw[decide_eq_true h0,decide_eq_true h1];rfl
B5 Ff{b:Bn}{e:List D}{p q:Int}(h0:0≤p)(h1:p<(b.bB.length:Int))(h2:0≤q)(h3:q<((b.bB.getD p.toNat []).length:Int)):iU κ [lG (κ 0) b e,.int p,.int q]=NR .non:=by
 &Gm (env':=[.fro (lG (κ 0) b e),.fro (.int p),.fro (.int q)]) U ?_;B4 xJ;&(dH (env':=[.fro (lG (κ 0) b e),.fro (.int p),.fro (.int q)]) (Jh (d:=.non) ?_)).trans ?_
 ·~bU (nm:=Ze) U A7 U U (Ke κ h0 h1)
 rw[nH]
 ·rfl
 &(pZ (Qj U U (cV (aA (aJ (dW U Ed) U (xR h0 h1)) U) (rQ _)))).trans ?_;rw[decide_eq_true h2,decide_eq_true h3];rfl
B5 Cr{b:Bn}{e:List D}{p:Int}(h0:0≤p)(h1:p<(b.asked.length:Int)):iG κ [lG (κ 0) b e,.int p]=NR .non:=by
 &Gm (env':=[.fro (lG (κ 0) b e),.fro (.int p)]) U ?_;B4 vO;rw[nH]
 ·rfl
 &(pZ (Qj U U (cV (aA (dW U xP) U) (HH _)))).trans ?_;rw[decide_eq_true h0,decide_eq_true h1];rfl
def eV(b:Bn)(p q:Int)(th ns:List Int):lH:=⟨p,q,th,aq (ns++(lastAt b.asked p q).toList)⟩
def Bn.put(b:Bn)(p q:Int)(th ns:List Int):Bn:={b with asked:=b.asked++[eV b p q th ns],nk:=mH b.nk (p,q),nv:=putD b.nk b.nv (p,q) (b.asked.length:Int)}
B5 Zi{cs:List lH}{l:List Int}{c:lH}{p:Int}(h:(cs.length:Int)∉l):oE (cs++[c]) l p=if c.bY=p then oE cs l p++[(cs.length:Int)]else oE cs l p:=by
 B4 oE;have e:(D5 cs.length).filter (λk=>decide ((at_ (cs++[c]) k).bY=p)&&!decide ((k:Int)∈l))=(D5 cs.length).filter λk=>decide ((at_ cs k).bY=p)&&!decide ((k:Int)∈l):=V3 λk hk=>by rw[gK (F7.mp hk)]
 rw[D1,show cs.length+[c].length=cs.length+1 from rfl,e9,P6,e,J6];by_cases q:c.bY=p
 ·rw[if_pos q,O8 (by rw[mK,decide_eq_true q,decide_eq_false h];rfl)];rfl
 ·rw[if_neg q,O9 (by rw[mK,decide_eq_false q];simp),N9,K9,F0]
B5 aFM{n:Nat}{cs:List lH}{l:List Int}{c:lH}(h:(cs.length:Int)∉l)(h0:0≤c.bY)(h1:c.bY<(n:Int)):(vB n cs l).set c.bY.toNat (aN (oE cs l c.bY++[(cs.length:Int)]))=vB n (cs++[c]) l:=by
 B4 vB;apply K5;intro k;rw[G8,B8,E1,C5,C5];by_cases e:c.bY.toNat=k
 ·rw[if_pos e,if_pos A6,I0 A6,J3,Zi h,if_pos (show c.bY=((k:Nat):Int) by omega),show ((k:Nat):Int)=c.bY by omega]
 ·rw[if_neg e];by_cases hk:k<n
  ·rw[I0 hk,J3,J3,Zi h,if_neg A6]
  ·rw[D9 (by rw[E1];omega)];rfl
B5 KC{n:Nat}{cs:List lH}{l:List Int}{p:Int}(h0:0≤p)(h1:p<(n:Int)):(vB n cs l)[p.toNat]?=NR (aN (oE cs l p)):=by B4 vB;rw[C5,I0 A6,J3,show ((p.toNat:Nat):Int)=p by omega]
B5 Cq.put{b:Bn}(h:Cq b){p q:Int}{th ns:List Int}(h60:b.asked.length<124)(h0:0≤p)(h1:p<(b.bB.length:Int))(h2:0≤q)(h3:q<((b.bB.getD p.toNat []).length:Int))(hn:∀m∈ns,0≤m∧m<(b.asked.length:Int))(hl:ns.length≤8):Cq (b.put p q th ns):=by
  have aKz:∀m∈(eV b p q th ns).needs,0≤m∧m<(b.asked.length:Int):=λm hm=>by
    have hm:=(Dq _ _).mp hm;rcases F8.mp hm with z | z
    · ~hn m z
    · cases e:lastAt b.asked p q with
      | none=>rw[e]at z;cases z
      | some k=>rw[e]at z;rw[D2.mp z];have:=Ef e;~⟨this.1,this.2.1⟩
  have hlen:(b.put p q th ns).asked.length=b.asked.length+1:=by B4 Bn.put;rw[D1];rfl
  have hcase:∀k,k<(b.put p q th ns).asked.length→(k<b.asked.length∧at_ (b.put p q th ns).asked k=at_ b.asked k)∨(k=b.asked.length∧at_ (b.put p q th ns).asked k=eV b p q th ns):=λk hk=>by
    rw[hlen]at hk;rcases G4 k b.asked.length with z | z
    · ~.inl ⟨z,gK z⟩
    · have e:k=b.asked.length:=by omega
      subst e;~.inr ⟨U,mK _ _⟩
  &⟨⟨by rw[hlen];omega,λk hk=>?_⟩,⟨h.nums.1,λx hx=>?_⟩,λk hk=>?_,?_,λp' q'=>?_,h.few,?_⟩
  · rcases hcase k hk with ⟨a,e⟩ | ⟨a,e⟩
    · rw[e];~h.good.2 k a
    · rw[e,a]
      &⟨aKz,je _,?_⟩;have:=wz (ns++(lastAt b.asked p q).toList);show (aq (ns++(lastAt b.asked p q).toList)).length≤9;rw[D1]at this;have:(lastAt b.asked p q).toList.length≤1:=by cases lastAt b.asked p q<;>simp
      omega
  · have:=h.nums.2 x hx
    rw[hlen];omega
  · rcases hcase k hk with ⟨a,e⟩ | ⟨a,e⟩
    · have:=h.YH k a
      rw[e];~this
    · rw[e]
      ~⟨h0,h1,h2,h3⟩
  · ~wQ h.nl
  · show ((posK (mH b.nk (p,q)) (p',q')).bind λj=>(putD b.nk b.nv (p,q) (b.asked.length:Int))[j]?)=lastAt (b.asked++[eV b p q th ns]) p' q'
    rw[mO h.nl,rP,h.nw];by_cases c:(p',q')=(p,q)
    · have c1:p'=p:=congrArg Prod.fst c
      have c2:q'=q:=congrArg Prod.snd c;rw[if_pos c,if_pos ⟨c1.symm,c2.symm⟩]
    · rw[if_neg c,if_neg λz=>c (r9 z.1.symm z.2.symm)]
  · have:=h.nkl
    rw[hlen];show (mH b.nk (p,q)).length≤_;B4 mH;split
    · omega
    · rw[D1];simp;omega
B5 aDu{b:Bn}(h:Cq b)(p q:Int):posK (b.nk.map rN) (rN (p,q))=posK b.nk (p,q):=xQ (λ_ _=>Kd) _ _
B5 aIQ{b:Bn}(h:Cq b){p q:Int}{th ns:List Int}{nd:D}(h0:0≤p)(h1:p<(b.bB.length:Int))(h2:0≤q)(h3:q<((b.bB.getD p.toNat []).length:Int))(hn:∀m∈ns,0≤m∧m<(b.asked.length:Int))(hl:ns.length≤50)(hnd:(nd=.non∧ns=[])∨nd=aN ns):Ea κ [dX (κ 0) b,.int p,.int q,dTup th,nd]=NR (.int b.asked.length,dX (κ 0) (b.put p q th ns)):=by
  &qD U λv=>?_;B4 Za;&jw (d:=.non) (bU U (show ("check_place" : Str)∉Ze by decide +kernel) U U (Ff κ h0 h1 h2 h3)) ?_;have h60:=h.good.1;&cD (d:=aN ns) ?_ A9 ?_
  · rcases hnd with ⟨rfl,rfl⟩ | rfl
    · ~aGM (cB (aJ U U (Dz NV .non))) U
    · ~aGN (cB (aJ U U (Dz NV (aN ns)))) (cV (aA U U) (wX (fK ns)))
  &jx (ns:=ns) [.inn v (dX (κ 0) b),.fro (.int p),.fro (.int q),.fro (dTup th),.fro nd,.own (aN ns),lv ns .no ns.length,.no] U U (λv2 k env=>env=[.inn v (dX (κ 0) b),.fro (.int p),.fro (.int q),.fro (dTup th),.fro nd,.inn v2 (aN ns),lv ns .no k,.no]) (λv2=>rfl) (λv2 k env e=>by rw[e];rfl) ?_ (λv2 env e=>by rw[e];rfl) ?_
  · rintro v2 k x env hx rfl
    &⟨by walk_at "lt", _,Jh (d:=.non) (bU U (show ("check_change" : Str)∉Ze by decide +kernel) U U (Cr κ (hn x (D6 hx)).1 (hn x (D6 hx)).2)),?_⟩;have e:lv ns .no (k+1)=.fro (.int x):=by show SD.fro (.int (ns.getD k 0))=_;rw[dY hx]
    rw[e];rfl
  have hkey:∀vv7:SD,Lk OZ (rE [.inn v (dX (κ 0) b),.fro (.int p),.fro (.int q),.fro (dTup th),.fro nd,.own (aN ns),lv ns .no ns.length,vv7])=NR (rN (p,q)):=λ_=>rfl;have hin:fB (Wf NV (Lk OZ) (tG (fP (κ 0) "newest") (aD 0))) (rE [.inn v (dX (κ 0) b),.fro (.int p),.fro (.int q),.fro (dTup th),.fro nd,.own (aN ns),lv ns .no ns.length,.no])=NR (posK b.nk (p,q)).isSome:=by&cB ?_;B4 Wf;rw[hkey,C4];rw[show tG (fP (κ 0) "newest") (aD 0) (rE [.inn v (dX (κ 0) b),.fro (.int p),.fro (.int q),.fro (dTup th),.fro nd,.own (aN ns),lv ns .no ns.length,.no])=NR (.dt (b.nk.map rN) (b.nv.map D.int))from dW U Hi,C4];dsimp only;rw[aDu h];rfl
  have hif:qU (fB (Wf NV (Lk OZ) (tG (fP (κ 0) "newest") (aD 0)))) (vA 5 dC (Tj (tG (fP (κ 0) "newest") (aD 0)) (Lk OZ))) fM [.inn v (dX (κ 0) b),.fro (.int p),.fro (.int q),.fro (dTup th),.fro nd,.own (aN ns),lv ns .no ns.length,.no]=.next [.inn v (dX (κ 0) b),.fro (.int p),.fro (.int q),.fro (dTup th),.fro nd,.own (aN (ns++(lastAt b.asked p q).toList)),lv ns .no ns.length,.no]:=by
    have hw:=h.nw p q;cases e:posK b.nk (p,q)with
    | none=>rw[e]at hin hw;rw[nH hin,←hw];show SR.next _=SR.next _;rw[show ((none:Option Nat).bind λj=>b.nv[j]?)=none from rfl];show SR.next _=SR.next [_,_,_,_,_,.own (aN (ns++[])),_,_];rw[F0]
    | some j=>
      rw[e]at hin hw;B3⟨j1,j2⟩:=tD e;have hj:j<b.nv.length:=by rw[←h.nl];~j1
      rw[wW hin,←hw,C4,B6 hj];&(aC7 (ds:=ns.map D.int) (d:=.int b.nv[j]) U ?_ (by rw[B8];omega)).trans ?_
      · B4 Tj
        rw[show tG (fP (κ 0) "newest") (aD 0) (rE [.inn v (dX (κ 0) b),.fro (.int p),.fro (.int q),.fro (dTup th),.fro nd,.own (aN ns),lv ns .no ns.length,.no])=NR (.dt (b.nk.map rN) (b.nv.map D.int))from dW U Hi,C4,hkey,C4];dsimp only;rw[aDu h,e,C4,C5,B6 hj];rfl
      · rw[yR]
        rfl
  &aDc hif ?_;have h4:(ns++(lastAt b.asked p q).toList).length≤51:=by
    rw[D1];have:(lastAt b.asked p q).toList.length≤1:=by cases lastAt b.asked p q<;>simp
    omega
  &cD (d:=.int b.asked.length) (cV (aA (dW U xP) U) (HH _)) A9 ?_;&rC (d:=dX (κ 0) b) U (Lr (d0:=dX (κ 0) b) (ds:=b.asked.map MP) (d:=MP (eV b p q th ns)) U U aBj ?_ (by rw[B8];omega)) U ?_
  · ~pF (aA (bD U U) (aA (bD U U) (aA (bD U (lY th)) (aA (cV (aA (dW U (jt A6)) U) (VJ _)) U)))) A9
  rw[show fO ([]++[L2.Step.fld (κ 0) "asked"]) (dX (κ 0) b) (.lst (b.asked.map MP++[MP (eV b p q th ns)]))=eU (κ 0) (jM b.bB) (yX (b.asked++[eV b p q th ns])) (.dt (b.nk.map rN) (b.nv.map D.int)) (Vo b.held) (.lst (vB b.bB.length b.asked b.held))from by rw[aA6];~aBl];&rC U (aFJ (d:=.int b.asked.length) (k:=rN (p,q)) U U mq U U U (by
    have:=h.nl;rw[B8];have:=h.nkl
    omega)) U ?_
  rw[show fO ([]++[L2.Step.fld (κ 0) "newest"]) (eU (κ 0) (jM b.bB) (yX (b.asked++[eV b p q th ns])) (.dt (b.nk.map rN) (b.nv.map D.int)) (Vo b.held) (.lst (vB b.bB.length b.asked b.held))) (.dt (mH (b.nk.map rN) (rN (p,q))) (putD (b.nk.map rN) (b.nv.map D.int) (rN (p,q)) (.int b.asked.length)))=eU (κ 0) (jM b.bB) (yX (b.asked++[eV b p q th ns])) (.dt ((mH b.nk (p,q)).map rN) ((putD b.nk b.nv (p,q) (b.asked.length:Int)).map D.int)) (Vo b.held) (.lst (vB b.bB.length b.asked b.held))from by
    rw[YF (λ_ _=>Kd),YG (λ_ _=>Kd) D.int];~my]
  &rC U (Lr (p:=[L2.Step.fld (κ 0) "unsettled", .ix p.toNat]) (ds:=(oE b.asked b.held p).map D.int) (d:=.int b.asked.length) U ?_ ((Zf JW).trans (JX (KC h0 h1))) (bD U U) ?_) U ?_
  · show (if 0≤p then _ else _)=_
    rw[if_pos h0];rfl
  · rw[B8]
    have:=YC b.asked b.held p;omega
  &Qi U ⟨_,.inl U,?_⟩;show NR (SD.inn v (fO [L2.Step.fld (κ 0) "unsettled", .ix p.toNat] _ _))=NR (SD.inn v _);rw[Zg JW,JZ (KC h0 h1),zf];have hnot:(b.asked.length:Int)∉b.held:=λz=>by have:=h.nums.2 _ z;omega
  have e:=aFM (n:=b.bB.length) (c:=eV b p q th ns) hnot h0 h1;rw[←yR]at e;rw[show p.toNat=(eV b p q th ns).bY.toNat from rfl,show oE b.asked b.held p=oE b.asked b.held (eV b p q th ns).bY from rfl,e];rfl
B5 aFN{uY:List OR}(hl:uY.length≤8):uN κ [.ins (κ 0) [] [],jM uY]=NR (.non,dX (κ 0) ⟨uY,[],[],[],[]⟩):=by
 &qD U λv=>?_;B4 Ug;have h1:eE (kO (aD 1)) [] gP (fL dList OK) (rE ([.inn v (.ins (κ 0) [] []),.fro (jM uY)].set 0 (.own (.ins (κ 0) [] []))))=NR (jM uY):=mC (xs:=uY) (ψ:=eN) (φ:=eN) (gD U) A6 λx _=>cV (aA U U) (wX (Tv λd hd=>by
  B3⟨t,_,rfl⟩:=J4.mp hd;~lY t))
 &rC U (uX (p:=[]) (nm:=[]) U U U h1 A8 U) U ?_;&rC U (uX (p:=[]) (nm:=["panes"]) (d:=yX []) U U U U A8 A7) U ?_;&rC U (uX (p:=[]) (nm:=["panes", "asked"]) (d:=.dt [] []) U U U U A8 A7) U ?_;&rC U (uX (p:=[]) (nm:=["panes", "asked", "newest"]) (d:=Vo []) U U U U A8 A7) U ?_;&Ua U (uX (p:=[]) (nm:=["panes", "asked", "newest", "held"]) (d:=.lst (uY.map λ_=>aN [])) U U U (mC (xs:=uY) (ψ:=eN) (φ:=λ_=>aN []) (gD U) A6 λx _=>rfl) A8 A7) U ⟨_,.inr ⟨U,U⟩,?_⟩;have e:(uY.map λ_=>aN [])=vB uY.length [] []:=by
  B4 vB;apply K5;intro k;rw[C5,C5];by_cases hk:k<uY.length
  ·rw[B6 hk,I0 hk];rfl
  ·rw[D9 A6,D9 (by rw[E1];omega)];rfl
 B4 dX lG;dsimp only;rw[←e];rfl
B5 Cq.init{uY:List OR}(hl:uY.length≤8):Cq ⟨uY,[],[],[],[]⟩:=⟨⟨L5 _,λk hk=>absurd hk (J9 _)⟩,⟨i4,λx hx=>by cases hx⟩,λk hk=>absurd hk (J9 _),U,λp q=>rfl,hl,C9 _⟩
def val(ps:List OR)(p q:Nat):List Int:=(ps.getD p []).getD q []
def topOf(cs:List lH)(d:List Int):Option Int→List Int
 | some k=>(at_ cs k.toNat).thing
 | none=>d
B5 zg{b:Bn}(p q:Int):posK (b.nk.map rN) (rN (p,q))=posK b.nk (p,q):=xQ (λ_ _=>Kd) _ _
def face(b:Bn)(p q:Int):List Int:=topOf b.asked (val b.bB p.toNat q.toNat) (lastAt b.asked p q)
B5 Va{ps:List Nd}{q:Int}(h0:0≤q)(h1:q<(ps.length:Int)):cW (eN ps) (.int q)=NR (dTup (ps.getD q.toNat [])):=tK h0 (by
 rw[C5,dU (d:=[]) (show q.toNat<ps.length by omega)]
 rfl)
B5 aFO{b:Bn}(h:Cq b){p q:Int}(h0:0≤p)(h1:p<(b.bB.length:Int))(h2:0≤q)(h3:q<((b.bB.getD p.toNat []).length:Int)):uO κ [dX (κ 0) b,.int p,.int q]=NR (dTup (face b p q)):=by
 suffices hh:∃d,uO κ [dX (κ 0) b,.int p,.int q]=NR d∧d=dTup (face b p q) by B3⟨d,e1,rfl⟩:=hh;~e1
 &yo U ?_;B4 Uj;&jw (d:=.non) (bU U (show ("check_place" : Str)∉Ze by decide +kernel) U U (Ff κ h0 h1 h2 h3)) ?_;have hkey:Lk OZ (rE [.fro (dX (κ 0) b),.fro (.int p),.fro (.int q)])=NR (rN (p,q)):=rfl;have hnw:tG (fP (κ 0) "newest") (aD 0) (rE [.fro (dX (κ 0) b),.fro (.int p),.fro (.int q)])=NR (.dt (b.nk.map rN) (b.nv.map D.int)):=dW U Hi;have hin:fB (Wf NV (Lk OZ) (tG (fP (κ 0) "newest") (aD 0))) (rE [.fro (dX (κ 0) b),.fro (.int p),.fro (.int q)])=NR (posK b.nk (p,q)).isSome:=by&cB ?_;B4 Wf;rw[hkey,C4,hnw,C4];dsimp only;rw[zg];rfl
 have hw:=h.nw p q;B4 face;cases e:posK b.nk (p,q)with
 | some j=>
  rw[e]at hin hw;B3⟨j1,j2⟩:=tD e;have hj:j<b.nv.length:=by rw[←h.nl];~j1
  rw[C4,B6 hj]at hw;have hl:=Ef hw.symm;rw[←hw];&aGL hin U ?_;have hg:Tj (tG (fP (κ 0) "newest") (aD 0)) (Lk OZ) (rE [.fro (dX (κ 0) b),.fro (.int p),.fro (.int q)])=NR (.int b.nv[j]):=by B4 Tj;rw[hnw,C4,hkey,C4];dsimp only;rw[zg,e,C4,C5,B6 hj];rfl
  have hc:cW (yX b.asked) (.int b.nv[j])=NR (MP (at_ b.asked b.nv[j].toNat)):=by have:=HF (cs:=b.asked) (k:=b.nv[j].toNat) A6;rw[show ((b.nv[j].toNat:Nat):Int)=b.nv[j] by omega]at this;~this
  ~VF (bD (aJ (aJ (dW U xP) hg hc) U (Tz _)) (lY _)) ⟨_,U,U⟩
 | none=>rw[e]at hin hw;rw[←hw];&wY hin U ?_;apply yS;~pL (bD (aJ (aJ (dW U Ed) U (xR h0 h1)) U (Va h2 h3)) (lY _)) ⟨_,U,U⟩
def ni(cs:List lH)(l:List Int)(bY:Int)(r:List Int):Prop:=r.Pairwise (·<·)∧r.length≤cs.length∧∀x,x∈r↔(0≤x∧x<cs.length∧(at_ cs x.toNat).bY=bY∧x∉l)∧∀m∈(at_ cs x.toNat).needs,m∈l∨m∈r
B5 aDv{cs:List lH}{ks nums:List Int}(hg:Good cs)(hu:nums.Pairwise (·<·))(hn:∀x∈nums,0≤x∧x<cs.length)(hl:nums.length≤124):∃r,uQ [yX cs,Vo ks,aN nums]=NR (aN r)∧r.Pairwise (·<·)∧r.length≤nums.length∧∀x,x∈r↔x∈nums∧∀m∈(at_ cs x.toNat).needs,m∈ks∨m∈r:=by
  suffices h:∃d,uQ [yX cs,Vo ks,aN nums]=NR d∧∃r,d=aN r∧r.Pairwise (·<·)∧r.length≤nums.length∧∀x,x∈r↔x∈nums∧∀m∈(at_ cs x.toNat).needs,m∈ks∨m∈r by B3⟨d,h1,r,rfl,h2⟩:=h;~⟨r,h1,h2⟩
  &oM U ?_;B4 Uk;&cD (d:=Vo []) U A9 ?_;&yh (xs:=nums.map D.int) (λn env=>∃(r:List Int)(v:SD),env=[.fro (yX cs),.fro (Vo ks),.fro (aN nums),.own (Vo r),v]∧r.Pairwise (·<·)∧r.length≤n∧∀x,x∈r↔x∈nums.take n∧∀m∈(at_ cs x.toNat).needs,m∈ks∨m∈r) U (gD U) ⟨[],_,U,.nil,C9 _,λx=>by simp⟩ ?_ ?_
  · rintro n x env hx ⟨r,v,rfl,h1,h2,h3⟩
    &⟨by walk_at "lt", ?_⟩;rw[C5]at hx;cases qq:nums[n]? with
    | none=>rw[qq]at hx;cases hx
    | some y=>
      rw[qq]at hx;cases hx;have hnl:=(D4.mp qq).1;have hy:=hn y (D6 qq);B3⟨k,rfl⟩:∃k:Nat,y=k:=⟨y.toNat,by omega⟩
      have hk:k<cs.length:=by omega
      B3⟨g1,g2,g3⟩:=hg.2 k hk;have hc:=HF (cs:=cs) hk;have htk:nums.take (n+1)=nums.take n++[(k:Int)]:=by rw[Q2,qq];rfl
      have lt:∀z∈nums.take n,z<(k:Int):=λz hz=>by have hu':=hu.sublist (M6 (n+1) nums);rw[htk]at hu';~(K6.mp hu').2.2 z hz k (by simp)
      have rlt:∀z∈r,z<(k:Int):=λz hz=>lt z ((h3 z).mp hz).1;have Cu:=Lq (fi:=kO (f2 cW (f2 cW (aD 0) (aD 4)) (fC (.int 3)))) (fr:=[1,3]) (fc:=gP) (fe:=aAD (f2 (Ib NV) (aD 0) (aD 1)) (f2 (Ib NV) (aD 0) (aD 2))) (e:=rE [.fro (yX cs),.fro (Vo ks),.fro (aN nums),.own (Vo r),.fro (.int (k:Int))]) (ms:=(at_ cs k).needs) (λ_=>NU) (λm=>.bl (decide (m∈ks)||decide (m∈r)))
        (aA7 (aJ (aJ U U hc) U (VP _))) A6 (λm hm=>rfl) λm hm _=>aFI (aJ U U (HD NV m ks)) (aJ U U (HD NV m r))
      rw[R4.mpr λ_ _=>rfl]at Cu;have hall:=Jg (λm:Int=>decide (m∈ks)||decide (m∈r)) (at_ cs k).needs;apply Bl (b:=(at_ cs k).needs.all λm=>decide (m∈ks)||decide (m∈r))
      · ~cB (cV (aA Cu U) hall)
      · intro hb
        have hb:∀m∈(at_ cs k).needs,m∈ks∨m∈r:=λm hm=>by simpa using N3.mp hb m hm
        have hnr:(k:Int)∉r:=λz=>by have:=rlt _ z;omega
        have e:jr r k=r++[(k:Int)]:=by B4 jr;rw[if_neg hnr]
        have hp:=aKx (i:=3) (f:=aD 4) (f':=fC (.bl NU)) (env:=[.fro (yX cs),.fro (Vo ks),.fro (aN nums),.own (Vo r),.fro (.int (k:Int))]) (ks:=r) (k:=k) U U U A6;rw[e]at hp;&⟨_,hp,r++[(k:Int)],_,U,?_,by rw[D1];simp;omega,λz=>?_⟩
        · &K6.mpr ⟨h1,by simp,λz hz w hw=>?_⟩
          rw[D2.mp hw];~rlt z hz
        · rw[htk,F8,F8]
          constructor
          · rintro(z1 | z1)
            · B3⟨a1,a2⟩:=(h3 z).mp z1
              ~⟨.inl a1,λm hm=>(a2 m hm).imp id λq=>F5 _ q⟩
            · rw[D2.mp z1,C7]
              ~⟨.inr (by simp),λm hm=>(hb m hm).imp id λq=>F5 _ q⟩
          · rintro⟨z1,z2⟩
            rcases z1 with z1 | z1
            · &.inl ((h3 z).mpr ⟨z1,λm hm=>(z2 m hm).imp id λq=>?_⟩)
              rcases F8.mp q with q | q
              · ~q
              · exfalso
                have a:=lt z z1;have zr:=hn z (L7 z1);have b:=(hg.2 z.toNat A6).1 m hm;rw[D2.mp q]at b;omega
            · ~.inr z1
      · intro hb
        have hb:¬∀m∈(at_ cs k).needs,m∈ks∨m∈r:=λz=>by
          have:((at_ cs k).needs.all λm=>decide (m∈ks)||decide (m∈r))=NU:=N3.mpr λm hm=>by simpa using z m hm
          rw[this]at hb;cases hb
        apply aDd;&⟨_,U,r,_,U,h1,by omega,λz=>?_⟩;rw[htk,F8];constructor
        · intro z1
          B3⟨a1,a2⟩:=(h3 z).mp z1;~⟨.inl a1,a2⟩
        · rintro⟨z1,z2⟩
          rcases z1 with z1 | z1
          · ~(h3 z).mpr ⟨z1,z2⟩
          · rw[D2.mp z1,C7]at z2
            ~absurd z2 hb
  · rintro env ⟨r,v,rfl,h1,h2,h3⟩
    rw[B8]at h2 h3;rw[P1]at h3;~pL (cV (aA U U) (aDi r)) ⟨_,U,r,U,h1,h2,h3⟩
def Bn.strike(b:Bn)(k:Int):Bn:={b with bB:=b.bB.set (at_ b.asked k.toNat).bY.toNat ((b.bB.getD (at_ b.asked k.toNat).bY.toNat []).set (at_ b.asked k.toNat).place.toNat (at_ b.asked k.toNat).thing),held:=b.held++[k]}
def Bn.bW(b:Bn)(ks:List Int):Bn:=ks.foldl Bn.strike b
B5 iQ(ks:List Int):∀b:Bn,(b.bW ks).asked=b.asked:=by
 induction ks with
 | nil=>intro b;rfl
 | cons k ks ih=>intro b;~(ih (b.strike k)).trans U
B5 tW(ks:List Int):∀b:Bn,(b.bW ks).held=b.held++ks:=by
 induction ks with
 | nil=>intro b;~(F0 _).symm
 | cons k ks ih=>intro b;~(ih (b.strike k)).trans (by show (b.held++[k])++ks=_;rw[P9];rfl)
B5 nq(ks:List Int):∀b:Bn,(b.bW ks).nk=b.nk∧(b.bW ks).nv=b.nv:=by
 induction ks with
 | nil=>intro b;~⟨U,U⟩
 | cons k ks ih=>intro b;~ih (b.strike k)
B5 KD(b:Bn)(k:Int):(b.strike k).bB.length=b.bB.length∧∀p:Nat,((b.strike k).bB.getD p []).length=(b.bB.getD p []).length:=by
 B4 Bn.strike;&⟨by rw[J5],λp=>?_⟩;dsimp only;simp only[B7,G8];split
 ·rename_i c;split
  ·rename_i l;rw[P0,J5,c]
  ·rename_i l;rw[D9 (show b.bB.length≤p by omega)]
 ·rfl
B5 kE(ks:List Int):∀b:Bn,(b.bW ks).bB.length=b.bB.length∧∀p:Nat,((b.bW ks).bB.getD p []).length=(b.bB.getD p []).length:=by
 induction ks with
 | nil=>intro b;~⟨U,λ_=>rfl⟩
 | cons k ks ih=>intro b;have a:=ih (b.strike k);have c:=KD b k;~⟨a.1.trans c.1,λp=>(a.2 p).trans (c.2 p)⟩
B5 KH(b:Bn)(ks:List Int)(k:Int):b.bW (ks++[k])=(b.bW ks).strike k:=by B4 Bn.bW;rw[V1];rfl
B5 Cq.bW{b:Bn}(h:Cq b){r:List Int}(hu:r.Nodup)(hm:∀x∈r,0≤x∧x<(b.asked.length:Int))(hn:∀x∈r,x∉b.held):Cq (b.bW r):=by
 have e1:=iQ r b;have e2:=tW r b;have e3:=nq r b;have e4:=kE r b;&⟨by rw[e1];~h.good,?_,λk hk=>?_,?_,λp q=>?_,by rw[e4.1];~h.few,?_⟩
 ·rw[e1,e2];&⟨Q1.mpr ⟨h.nums.1,hu,λa ha c hc z=>hn c hc (z▸ha)⟩,λx hx=>?_⟩;rcases F8.mp hx with z | z
  ·~h.nums.2 x z
  ·~hm x z
 ·rw[e1]at hk ⊢;rw[e4.1,e4.2];~h.YH k hk
 ·rw[e3.1,e3.2];~h.nl
 ·rw[e3.1,e3.2,e1];~h.nw p q
 ·rw[e3.1,e1];~h.nkl
B5 nu(ps:List OR)(k:Nat)(p:List Nd):D.lst ((ps.map eN).set k (eN p))=jM (ps.set k p):=by B4 jM;rw[X1]
B5 aBm(ps:List Nd)(k:Nat)(t:List Int):D.lst ((ps.map dTup).set k (dTup t))=eN (ps.set k t):=by B4 eN;rw[X1]
B5 aFP{ks:List Int}{k:Int}(h:k∉ks):D.dk (mH (ks.map (G2:Int→Key)) (G2 k)) (putD (ks.map (G2:Int→Key)) (ks.map λ_=>D.bl NU) (G2 k) (.bl NU))=Vo (ks++[k]):=by B4 mH putD Vo;rw[Bm h];simp only[Option.isSome_none,X9,if_false,J6];rfl
B5 aBn{b:Bn}{e:List D}{k:Int}(h0:0≤k)(h1:k<(b.asked.length:Int))(hl:b.held.length≤1000)(hs:0≤(at_ b.asked k.toNat).bY∧(at_ b.asked k.toNat).bY<(b.bB.length:Int)∧0≤(at_ b.asked k.toNat).place∧(at_ b.asked k.toNat).place<((b.bB.getD (at_ b.asked k.toNat).bY.toNat []).length:Int))(hn:k∉b.held):tR κ [lG (κ 0) b e,.int k]=NR (.non,lG (κ 0) (b.strike k) e):=by
 &qD U λv=>?_;B4 Jp;have hc:cW (yX b.asked) (.int k)=NR (MP (at_ b.asked k.toNat)):=by have:=HF (cs:=b.asked) (k:=k.toNat) A6;rw[show ((k.toNat:Nat):Int)=k by omega]at this;~this
 &cD (d:=MP (at_ b.asked k.toNat)) (bD (aJ (dW U xP) U hc) (aID _)) A9 ?_;B4 Bn.strike;generalize at_ b.asked k.toNat=c at *;have hp:(b.bB.map eN)[c.bY.toNat]?=NR (eN (b.bB.getD c.bY.toNat [])):=by rw[C5,dU (d:=[]) (show c.bY.toNat<b.bB.length by omega)];rfl
 &rC U (yq (p:=[L2.Step.fld (κ 0) "panes", .ix c.bY.toNat]) (k:=c.place) (ds:=(b.bB.getD c.bY.toNat []).map dTup) (d:=dTup c.thing) U ?_ ((Zf Zh).trans (JX hp)) (aJ U U (VN c)) (bD (aJ U U (Tz c)) (lY _)) hs.2.2.1 (by rw[B8];~hs.2.2.2)) U ?_
 ·~mz (p:=[L2.Step.fld (κ 0) "panes"]) U (aJ U U (yl c)) hs.1
 rw[aBm];rw[show fO [L2.Step.fld (κ 0) "panes", .ix c.bY.toNat] (lG (κ 0) b e) (eN ((b.bB.getD c.bY.toNat []).set c.place.toNat c.thing))=eU (κ 0) (jM (b.bB.set c.bY.toNat ((b.bB.getD c.bY.toNat []).set c.place.toNat c.thing))) (yX b.asked) (.dt (b.nk.map rN) (b.nv.map D.int)) (Vo b.held) (.lst e)from by
  B4 lG;rw[Zg Zh];B4 jM;rw[JZ hp,aBk,nu]
  rfl]
 &Ua U (Qg (d:=.bl NU) (k:=G2 k) (kd:=.int k) U U aDs U U U U (by rw[B8];omega)) U ⟨_,.inr ⟨U,U⟩,?_⟩;show NR (SD.inn v (fO [L2.Step.fld (κ 0) "held"] _ _))=NR (SD.inn v _);rw[aDt,aFP hn];rfl
B5 YJ{b:Bn}(h:Cq b){p:Int}{most:D}(h0:0≤p)(h1:p<(b.bB.length:Int))(hmo:most=.non∨∃m:Int,most=.int m):∃r,ni b.asked b.held p r∧∀taken,(most=.non→taken=r)→(∀m:Int,most=.int m→taken=r.take m.toNat)→rH κ [dX (κ 0) b,.int p,most]=NR (aN taken,dX (κ 0) (b.bW taken)):=by
 have h60:=h.good.1;have hk:=h.nums.len;have hnl:=YC b.asked b.held p;B3⟨r,hr,r1,r2,r3⟩:=aDv (ks:=b.held) h.good (JT b.asked b.held p) (λx hx=>by have:=Cp.mp hx;~⟨this.1,this.2.1⟩) A6;have hR:ni b.asked b.held p r:=⟨r1,by omega,λx=>by rw[r3,Cp]⟩
 &⟨r,hR,λtaken t1 t2=>?_⟩;have hsub:∃n,taken=r.take n:=by
  rcases hmo with z | ⟨m,z⟩
  ·~⟨r.length,by rw[t1 z,P1]⟩
  ·~⟨_,t2 m z⟩
 have htm:∀x∈taken,x∈r:=λx hx=>by B3⟨n,rfl⟩:=hsub;~L7 hx
 have htu:taken.Pairwise (·<·):=by B3⟨n,rfl⟩:=hsub;~r1.sublist (M6 _ _)
 have htl:taken.length≤124:=by B3⟨n,rfl⟩:=hsub;rw[G7];omega
 have htr:∀x∈taken,0≤x∧x<(b.asked.length:Int)∧(at_ b.asked x.toNat).bY=p∧x∉b.held:=λx hx=>((hR.2.2 x).mp (htm x hx)).1;&qD U λv=>?_;B4 Nz;&jw (d:=.non) (bU U (show ("check_pane" : Str)∉Ze by decide +kernel) U U (Ke κ h0 h1)) ?_;&cD (d:=aN r) (bM (aA (dW U xP) (aA (dW U YD) (aA (aJ (dW U zc) U (tK h0 (KC h0 h1))) U))) U hr) A9 ?_;have hif:qU (fB (f2 (Ja NU) (aD 2) (fC .non))) (cT 3 (ao NU (aD 3) (Bc) (mV (fL QV (aB (aD 2) (aB Nw aL)))))) fM [.inn v (dX (κ 0) b),.fro (.int p),.fro most,.own (aN r),.no]=.next [.inn v (dX (κ 0) b),.fro (.int p),.fro most,.own (aN taken),.no]:=by
  rcases hmo with rfl | ⟨m,rfl⟩
  ·rw[nH (cB (aJ U U (Dz NU .non))),t1 rfl];rfl
  ·rw[wW (cB (aJ U U (Dz NU (.int m))))];&yO (d:=aN taken) ((VM U U (wZ (cV (aA U (aA U U)) (Yt _ _)))).trans ?_) A9;rw[t2 m U,show (if(0:Int) > m then(0:Int)else m)=((m.toNat:Nat):Int) by split<;>omega,aIC]
 &aDc hif ?_;&jx (ns:=taken) [.inn v (lG (κ 0) (b.bW taken) (vB b.bB.length b.asked b.held)),.fro (.int p),.fro most,.own (aN taken),lv taken .no taken.length] U U (λv2 k env=>env=[.inn v (lG (κ 0) (b.bW (taken.take k)) (vB b.bB.length b.asked b.held)),.fro (.int p),.fro most,.inn v2 (aN taken),lv taken .no k]) (λv2=>rfl) (λv2 k env e=>by rw[e];rfl) ?_ (λv2 env e=>by rw[e,P1];rfl) ?_
 ·rintro v2 k x env hx rfl;&⟨by walk_at "lt", ?_⟩;have hxm:=htr x (D6 hx);have e1:=iQ (taken.take k) b;have e2:=tW (taken.take k) b;have e4:=kE (taken.take k) b;have hnx:taken.take (k+1)=taken.take k++[x]:=by rw[Q2,hx];rfl
  have hst:=aBn κ (b:=b.bW (taken.take k)) (e:=vB b.bB.length b.asked b.held) (k:=x) hxm.1 (by rw[e1];~hxm.2.1) (by rw[e2,D1,G7];omega) (by rw[e1,e4.1,e4.2];~h.YH x.toNat A6) (by
   rw[e2,F8]
   rintro(z | z)
   ·~hxm.2.2.2 z
   ·have hu:=htu.sublist (M6 (k+1) taken);rw[hnx]at hu;have:=(K6.mp hu).2.2 x z x (by simp)
    omega)
  &⟨_,Ls (lD (d0:=lG (κ 0) (b.bW (taken.take k)) (vB b.bB.length b.asked b.held)) (p:=[]) (nm:=Ze) U U U A7 U hst),?_⟩;have e:lv taken .no (k+1)=.fro (.int x):=by show SD.fro (.int (taken.getD k 0))=_;rw[dY hx]
  rw[e,hnx,KH];rfl
 have e1:=iQ taken b;have e2:=tW taken b;have e4:=kE taken b;have Cu:=Gk (fi:=kO (f2 cW (tG (fP (κ 0) "unsettled") (aD 0)) (aD 1))) (fr:=[0]) (fc:=fB (f2 (Ib NU) (aD 0) (tG (fP (κ 0) "held") (aD 1)))) (fe:=cL (aD 0)) (e:=rE ([.inn v (lG (κ 0) (b.bW taken) (vB b.bB.length b.asked b.held)),.fro (.int p),.fro most,.own (aN taken),lv taken .no taken.length].set 0 (.own (lG (κ 0) (b.bW taken) (vB b.bB.length b.asked b.held))))) (ms:=oE b.asked b.held p) (λm=>!decide (m∈(b.bW taken).held)) id
  (gD (aJ (dW U zc) U (tK h0 (KC h0 h1)))) A6 (λm hm=>cB (aJ U (dW U YD) (HD NU m _))) λm hm _=>bD U U
 rw[List.map_id]at Cu;have hun:∀q:Int,oE b.asked (b.held++taken) q=(oE b.asked b.held q).filter λm=>!decide (m∈b.held++taken):=λq=>by
  &qT (JT _ _ _) ((JT _ _ _).sublist R3) λx=>?_;rw[Cp,K3,Cp];constructor
  ·rintro⟨a1,a2,a3,a4⟩
   ~⟨⟨a1,a2,a3,λz=>a4 (F5 _ z)⟩,by rw[decide_eq_false a4];rfl⟩
  ·rintro⟨⟨a1,a2,a3,a4⟩,a5⟩
   ~⟨a1,a2,a3,by simpa using a5⟩
 have hoth:∀q:Int,q≠p→oE b.asked (b.held++taken) q=oE b.asked b.held q:=λq hq=>by
  rw[hun];&R4.mpr λx hx=>?_;have hx:=Cp.mp hx;have:x∉b.held++taken:=λz=>by
   rcases F8.mp z with z | z
   ·~hx.2.2.2 z
   ·~hq (hx.2.2.1.symm.trans (htr x z).2.2.1)
  rw[decide_eq_false this];rfl
 rw[e2,←hun]at Cu;&rC U (yq (p:=[L2.Step.fld (κ 0) "unsettled"]) (k:=p) (ds:=vB b.bB.length b.asked b.held) U U JW U Cu h0 (by B4 vB;rw[B8,E1];~h1)) U ?_;&Qi U ⟨_,.inl U,?_⟩;show NR (SD.inn v (fO [L2.Step.fld (κ 0) "unsettled"] (lG (κ 0) (b.bW taken) _) _))=NR (SD.inn v _);B4 dX lG;rw[zf,e1,e2,e4.1];have hl:(vB b.bB.length b.asked b.held).set p.toNat (aN (oE b.asked (b.held++taken) p))=vB b.bB.length b.asked (b.held++taken):=by
  B4 vB;apply K5;intro k;rw[G8,B8,E1,C5,C5];by_cases e:p.toNat=k
  ·rw[if_pos e,if_pos A6,I0 A6,J3,show ((k:Nat):Int)=p by omega]
  ·rw[if_neg e];by_cases hk:k<b.bB.length
   ·rw[I0 hk,J3,J3,hoth _ A6]
   ·rw[D9 (by rw[E1];omega)];rfl
 rw[hl]
B5 oh{b:Bn}{k:Int}{p q:Nat}(h:¬((at_ b.asked k.toNat).bY.toNat=p∧(at_ b.asked k.toNat).place.toNat=q)):val (b.strike k).bB p q=val b.bB p q:=by
 B4 val Bn.strike;generalize at_ b.asked k.toNat=c at *;dsimp only;simp only[B7,G8];by_cases e:c.bY.toNat=p
 ·subst e;rw[if_pos rfl];by_cases l:c.bY.toNat<b.bB.length
  ·rw[if_pos l];simp only[P0,G8];rw[if_neg λz=>h ⟨U,z⟩]
  ·rw[if_neg l,D9 (show b.bB.length≤c.bY.toNat by omega)]
 ·rw[if_neg e]
B5 Ob{p q:Nat}:∀(ks:List Int)(b:Bn),(∀k∈ks,¬((at_ b.asked k.toNat).bY.toNat=p∧(at_ b.asked k.toNat).place.toNat=q))→val (b.bW ks).bB p q=val b.bB p q
 | [],b,_=>rfl
 | k::ks,b,h=>(Ob ks (b.strike k) λj hj=>h j (C6 _ hj)).trans (oh (h k C8))
B5 YK{cs:List lH}{p q:Int}(h:lastAt cs p q=none){k:Nat}(hk:k<cs.length):¬((at_ cs k).bY=p∧(at_ cs k).place=q):=λz=>by B4 lastAt at h;rw[g7,List.getLast?_eq_none_iff,g9]at h;~h k (F7.mpr hk) (decide_eq_true z)
B5 KJ{b:Bn}(h:Cq b){r:List Int}{p q:Int}(hp:0≤p)(hq:0≤q)(hm:∀x∈r,0≤x∧x<(b.asked.length:Int)):face (b.bW r) p q=face b p q:=by
 B4 face;rw[iQ];cases e:lastAt b.asked p q with
 | some k=>rfl
 | none=>~Ob r b λk hk z=>by have:=hm k hk;have hs:=h.YH k.toNat A6;~YK e (show k.toNat<b.asked.length by omega) ⟨by omega,by omega⟩
structure Mp where
 k:List Int
 v:List Int
def Mp.get(m:Mp)(x:Int):Option Int:=(posK m.k x).bind λj=>m.v[j]?
def Mp.put(m:Mp)(x y:Int):Mp:=⟨mH m.k x,putD m.k m.v x y⟩
def Ox(m:Mp):D:=.dk (m.k.map G2) (m.v.map D.int)
def KN:Option Int→D
 | some y=>.int y
 | none=>.non
B5 KQ(a b:Int)(h:(G2 a:Key)=G2 b):a=b:=by injection h
B5 ou{m:Mp}(h:m.k.length=m.v.length)(x:Int):Tp (Ox m) (.int x)=NR (KN (m.get x)):=by
 B4 Tp Ox Mp.get;dsimp only;rw[show Wa (.int x)=NR (.inl x)from rfl,C4,xQ KQ];cases e:posK m.k x with
 | none=>rfl
 | some j=>have:=(tD e).1;dsimp only;rw[C5,C4,B6 (show j<m.v.length by omega)];rfl
B5 Mp.mO{m:Mp}(h:m.k.length=m.v.length)(x y z:Int):(m.put x y).get z=if z=x then NR y else m.get z:=Rs.mO h
B5 ph(m:Mp)(x y:Int):D.dk (mH (m.k.map (G2:Int→Key)) (.inl x)) (putD (m.k.map (G2:Int→Key)) (m.v.map D.int) (.inl x) (.int y))=Ox (m.put x y):=by B4 Ox Mp.put;rw[YF KQ,YG KQ D.int]
B5 aDw{α:Type} [DecidableEq α] (ks:List α) (k:α):(mH ks k).length≤ks.length+1:=by
 B4 mH;split
 ·omega
 ·rw[D1];simp
def Mp.Ok(m:Mp)(n:Nat):Prop:=m.k.length=m.v.length∧m.k.length≤n
B5 Mp.Ok.put{m:Mp}{n:Nat}(h:m.Ok n)(x y:Int):(m.put x y).Ok (n+1):=⟨wQ h.1,G1 (aDw _ _) (S7 h.2)⟩
B5 Mp.Ok.mono{m:Mp}{n k:Nat}(h:m.Ok n)(l:n≤k):m.Ok k:=⟨h.1,G1 h.2 l⟩
section
variable{C:AF}{nm:List Str}{ks:List Key}{ds:List D}{x:Str}{j:Nat}{d y:D}
B5 pM(h:posK nm x=NR j)(hd:ds[j]?=NR d):fP C x (.ins C nm ds)=NR d:=by B4 fP;dsimp only;rw[if_pos U,h];~hd
B5 aDx(h:posK nm x=NR j):Eo (.fld C x) (.ins C nm ds)=NR j:=by show (if C=C then posK nm x else none)=NR j;rw[if_pos rfl];~h
B5 wJ(h:posK nm x=NR j)(hd:ds[j]?=NR d):gJ [.fld C x] (.ins C nm ds)=NR d:=uW (aDx h) hd
B5 wK(h:posK nm x=NR j)(hd:ds[j]?=NR d):fO [.fld C x] (.ins C nm ds) y=.ins C nm (ds.set j y):=rO (aDx h) hd
end
def uZ:List Str:=["bench", "spots", "string", "loose", "lasts", "comings", "goings"]
B5 w0:posK uZ "bench" = NR 0:=by decide +kernel
B5 w1:posK uZ "spots" = NR 1:=by decide +kernel
B5 w2:posK uZ "string" = NR 2:=by decide +kernel
B5 w3:posK uZ "loose" = NR 3:=by decide +kernel
B5 w4:posK uZ "lasts" = NR 4:=by decide +kernel
B5 w5:posK uZ "comings" = NR 5:=by decide +kernel
B5 w6:posK uZ "goings" = NR 6:=by decide +kernel
def bks:List Key:=[.inr "recs", .inr "order", .inr "ins", .inr "outs", .inr "lasts", .inr "due", .inr "panes"]
structure Wb where
 b:Bn
 rs:List Nd
 od:List Int
 lo:List Int
 la:Mp
 co:Mp
 go:Mp
abbrev Wb.P(s:Wb):Nat:=s.b.bB.length
abbrev Wb.n(s:Wb):Nat:=s.b.asked.length
abbrev Wb.R(s:Wb)(x:Int):List Int:=s.rs.getD x.toNat []
def Wb.key(s:Wb)(x:Int):Int:=(s.R x).getD 0 0
def pq(P n:Nat):D:=.lst ((D5 n).map λk=>dTup [((k%P:Nat):Int),((k/P:Nat):Int)])
def aKA(rs:List Nd):D:=.lst (rs.map dTup)
def lR(κ:Nat→AF)(s:Wb):D:=.ins (κ 1) uZ [dX (κ 0) s.b,pq s.P s.rs.length,aN s.od,aN s.lo,Ox s.la,Ox s.co,Ox s.go]
def bkD(s:Wb):D:=.dk bks [aKA s.rs,aN s.od,Ox s.co,Ox s.go,Ox s.la,yX s.b.asked,.int s.P]
structure mJ(s:Wb):Prop where
 bn:Cq s.b
 p1:0<s.P
 len:∀k,k<s.rs.length→k/s.P<(s.b.bB.getD (k%s.P) []).length
 few:s.rs.length≤64
 pos:0<s.rs.length
 rcd:∀k,k<s.rs.length→s.rs.getD k []=face s.b ((k%s.P:Nat):Int) ((k/s.P:Nat):Int)∧(s.rs.getD k []).length=5
 las:∀k:Nat,k<s.rs.length→s.la.get k=lastAt s.b.asked ((k%s.P:Nat):Int) ((k/s.P:Nat):Int)
 lao:s.la.Ok s.n
 coo:s.co.Ok s.n
 goo:s.go.Ok s.n
 coi:∀x y,s.co.get x=NR y→0≤y∧y<(s.n:Int)
 goi:∀x y,s.go.get x=NR y→0≤y∧y<(s.n:Int)
 Oc:s.od.Nodup
 sV:∀x∈s.od,1≤x∧x<(s.rs.length:Int)
 lon:s.lo.Nodup
 lom:∀x,x∈s.lo↔1≤x∧x<(s.rs.length:Int)∧x∉s.od
 key:s.od.Pairwise λx y=>s.key x<s.key y
 th:∀k,k<s.n→(at_ s.b.asked k).thing.length=5
B5 mJ.spot{s:Wb}(h:mJ s){x:Int}(h0:0≤x)(h1:x<(s.rs.length:Int)):0≤((x.toNat%s.P:Nat):Int)∧((x.toNat%s.P:Nat):Int)<(s.P:Int)∧0≤((x.toNat/s.P:Nat):Int)∧((x.toNat/s.P:Nat):Int)<((s.b.bB.getD ((x.toNat%s.P:Nat):Int).toNat []).length:Int):=by have h2:=h.len x.toNat A6;have h3:=R8 x.toNat h.p1;rw[C7];~⟨O3 _,Int.ofNat_lt.mpr h3,O3 _,Int.ofNat_lt.mpr h2⟩
B5 aDz{P n:Nat}{x:Int}(h0:0≤x)(h1:x<(n:Int)):cW (pq P n) (.int x)=NR (dTup [((x.toNat%P:Nat):Int),((x.toNat/P:Nat):Int)]):=tK h0 (by
 rw[C5,I0 A6]
 rfl)
variable(κ:Nat→AF)
B5 lJ{s:Wb}(h:mJ s){x:Int}(h0:0≤x)(h1:x<(s.rs.length:Int)):bC κ [lR κ s,.int x]=NR (dTup (s.R x)):=by&nO U ?_;B4 zX;B3⟨a,b,c,d⟩:=h.spot h0 h1;&aC8 (d:=dTup [((x.toNat%s.P:Nat):Int),((x.toNat/s.P:Nat):Int)]) (bD (aJ (dW U (pM w1 U)) U (aDz h0 h1)) (lY _)) A9 ?_;rw[Wb.R,(h.rcd x.toNat A6).1];~gB (bU (nm:=Ze) (dW U (pM w0 U)) A7 (aA (aJ U U U) (aA (aJ U U U) U)) U (aFO κ h.bn a b c d))
B5 YL{s:Wb}(h:mJ s)(x:Int):pG κ [lR κ s,.int x]=NR (KN (s.co.get x)):=nO U (gB (aJ (dW U (pM w5 U)) U (ou h.coo.1 x)))
B5 YM{s:Wb}(h:mJ s)(x:Int):pH κ [lR κ s,.int x]=NR (KN (s.go.get x)):=nO U (gB (aJ (dW U (pM w6 U)) U (ou h.goo.1 x)))
def nD(os:List (Option Int)):D:=.lst (os.map KN)
def Vp(os:List (Option Int)):List Int:=os.filterMap id
B5 qd{fi:FA}{fr:List Nat}{e:DE}(os:List (Option Int))(h:fi e=NR (os.map KN))(hl:os.length≤1000):eE fi fr (fB (f2 (Ja NU) (aD 0) (fC .non))) (cL (aD 0)) e=NR (aN (Vp os)):=by
 &Bk h (by rw[B8];omega) ?_;clear h hl
 induction os with
 | nil=>rfl
 | cons o os ih=>
  rw[E2];B4 pW;cases o with
  | none=>~ih
  | some y=>show ((pW _ _ (os.map KN)).map (D.int y::·))=_;rw[ih];rfl
B5 aDA(os:List (Option Int))(hl:os.length≤1000):HX [nD os]=NR (aN (Vp os)):=lW U (gB (qd os (gD U) hl))
def Wb.wr(s:Wb)(x:Int)(r ns:List Int):Wb:={s with b:=s.b.put ((x.toNat%s.P:Nat):Int) ((x.toNat/s.P:Nat):Int) r ns,rs:=s.rs.set x.toNat r,la:=s.la.put x s.n}
B5 qe(s:Wb)(x:Int)(r ns:List Int):(s.wr x r ns).n=s.n+1:=by show (s.b.asked++[_]).length=_;rw[D1];rfl
B5 oR(s:Wb)(x:Int)(r ns:List Int):(s.wr x r ns).rs.length=s.rs.length:=J5
B5 lZ{α:Type}(l:List α)(i j:Nat)(x d:α)(h:i<l.length):(l.set i x).getD j d=if i=j then x else l.getD j d:=by
 rw[B7,G8,B7];by_cases c:i=j
 ·rw[if_pos c,if_pos h,if_pos c];rfl
 ·rw[if_neg c,if_neg c]
B5 Et{s:Wb}{x y:Int}{r ns:List Int}(h0:0≤x)(h1:x<(s.rs.length:Int))(hy:0≤y):(s.wr x r ns).R y=if y=x then r else s.R y:=by
 show (s.rs.set x.toNat r).getD y.toNat []=_;rw[lZ _ _ _ _ _ A6];by_cases c:y=x
 ·rw[if_pos c,if_pos (by rw[c])]
 ·rw[if_neg c,if_neg A6]
B5 aDB{b:Bn}{p q p' q':Int}{th ns:List Int}:face (b.put p q th ns) p' q'=if p=p'∧q=q' then th else face b p' q':=by
 B4 face;show topOf (b.asked++[eV b p q th ns]) _ (lastAt (b.asked++[eV b p q th ns]) p' q')=_;rw[rP];show topOf _ _ (if p=p'∧q=q' then _ else _)=_;by_cases c:p=p'∧q=q'
 ·rw[if_pos c,if_pos c];show (at_ (b.asked++[eV b p q th ns]) (b.asked.length:Int).toNat).thing=th;rw[C7,mK];rfl
 ·rw[if_neg c,if_neg c];cases e:lastAt b.asked p' q' with
  | none=>rfl
  | some k=>have:=Ef e;show (at_ _ k.toNat).thing=(at_ _ k.toNat).thing;rw[gK A6]
B5 Kf{P a b:Nat}(h1:((a%P:Nat):Int)=((b%P:Nat):Int))(h2:((a/P:Nat):Int)=((b/P:Nat):Int)):a=b:=by have e1:=z9 h1;have e2:=z9 h2;have a1:=w9 a P;have a2:=w9 b P;rw[←a1,←a2,e1,e2]
B5 mJ.wr{s:Wb}(h:mJ s){x:Int}{r ns:List Int}(h0:0≤x)(h1:x<(s.rs.length:Int))(hr:r.length=5)(hn:∀m∈ns,0≤m∧m<(s.n:Int))(hl:ns.length≤8)(hm:s.n<124)(hk:x∈s.od→r.getD 0 0=s.key x):mJ (s.wr x r ns):=by
 B3⟨a,b,c,d⟩:=h.spot h0 h1;have hlen:=oR s x r ns;have hnn:=qe s x r ns;have hxe:((x.toNat:Nat):Int)=x:=by omega
 &⟨h.bn.put hm a b c d hn hl,h.p1,?_,?_,?_,?_,?_,?_,?_,?_,?_,?_,h.Oc,?_,h.lon,?_,?_,?_⟩
 ·rw[hlen];~h.len
 ·rw[hlen];~h.few
 ·rw[hlen];~h.pos
 ·intro k hk';rw[hlen]at hk';show (s.rs.set x.toNat r).getD k []=face (s.b.put _ _ r ns) _ _∧((s.rs.set x.toNat r).getD k []).length=5;rw[lZ _ _ _ _ _ A6,aDB];by_cases e:x.toNat=k
  ·subst e;rw[if_pos U,if_pos ⟨U,U⟩];~⟨U,hr⟩
  ·rw[if_neg e,if_neg λz=>e (Kf z.1 z.2)];~h.rcd k hk'
 ·intro k hk';rw[hlen]at hk';show (s.la.put x s.n).get k=lastAt (s.b.asked++[eV _ _ _ _ _]) _ _;rw[Mp.mO h.lao.1,rP];by_cases e:x.toNat=k
  ·subst e;rw[if_pos hxe,if_pos ⟨U,U⟩]
  ·rw[if_neg A6,if_neg λz=>e (Kf z.1 z.2)];~h.las k hk'
 ·rw[hnn];~h.lao.put _ _
 ·rw[hnn];~h.coo.mono A6
 ·rw[hnn];~h.goo.mono A6
 ·intro z y e;have:=h.coi z y e;rw[hnn];omega
 ·intro z y e;have:=h.goi z y e;rw[hnn];omega
 ·intro z hz;rw[hlen];~h.sV z hz
 ·intro z;rw[hlen];~h.lom z
 ·have kk:∀y∈s.od,(s.wr x r ns).key y=s.key y:=λy hy=>by
   show ((s.wr x r ns).R y).getD 0 0=_;rw[Et h0 h1 (by have:=h.sV y hy;omega)];by_cases e:y=x
   ·subst e;rw[if_pos rfl];~hk hy
   ·rw[if_neg e];rfl
  ~h.key.imp_of_mem λ{y z} hy hz q=>by rw[kk y hy,kk z hz];~q
 ·intro k hk';rw[hnn]at hk';show (at_ (s.b.asked++[eV _ _ _ _ _]) k).thing.length=5;rcases G4 k s.n with z | z
  ·rw[gK z];~h.th k z
  ·have e:k=s.b.asked.length:=x4 (x5.mp hk') z;rw[e,mK];~hr
B5 mJ.aKD{s:Wb}(h:mJ s):s.n≤124:=h.bn.good.1
B5 mapA{o:Option (List D)}{es:List D}(h:o=NR es):o.map (·++[])=NR es:=by rw[h];show NR (es++[])=_;rw[F0]
B5 YQ{s:Wb}(h:mJ s){x:Int}{r:List Int}{os:List (Option Int)}(h0:0≤x)(h1:x<(s.rs.length:Int))(hn:∀m∈Vp os,0≤m∧m<(s.n:Int))(hl:os.length≤9):nQ κ [lR κ s,.int x,dTup r,nD os]=NR (.int s.n,lR κ (s.wr x r (Vp os))):=by
 &qD U λv=>?_;B4 Ji;B3⟨a,b,c,d⟩:=h.spot h0 h1;have hkl:(Vp os).length≤9:=G1 (List.length_filterMap_le _ _) hl;&cD (d:=dTup [((x.toNat%s.P:Nat):Int),((x.toNat/s.P:Nat):Int)]) (bD (aJ (dW U (pM w1 U)) U (aDz h0 h1)) (lY _)) A9 ?_;&HJ (d:=.int s.n) (env':=[.inn v (.ins (κ 1) uZ [dX (κ 0) (s.b.put ((x.toNat%s.P:Nat):Int) ((x.toNat/s.P:Nat):Int) r (Vp os)),pq s.P s.rs.length,aN s.od,aN s.lo,Ox s.la,Ox s.co,Ox s.go]),.fro (.int x),.fro (dTup r),.fro (nD os),.own (dTup [((x.toNat%s.P:Nat):Int),((x.toNat/s.P:Nat):Int)]),.no])
  ((lD (p:=[L2.Step.fld (κ 1) "bench"]) (nm:=Ze) (es:=[.int ((x.toNat%s.P:Nat):Int),.int ((x.toNat/s.P:Nat):Int),dTup r,aN (Vp os)]) U U (wJ w0 U) A7 (mapA (fU (aJ U U U) (fU (aJ U U U) (fU U (fU (bM (aA U U) U (aDA os A6)) U))))) (aIQ κ h.bn a b c d hn A6 (.inr U))).trans (by
   rw[wK w0 rfl]
   rfl)) A9 ?_
 &rC U (Qg (p:=[L2.Step.fld (κ 1) "lasts"]) (k:=.inl x) (kd:=.int x) (d:=.int s.n) U U (wJ w4 U) U U U U (by rw[B8];have:=h.lao.2;have:=h.aKD;omega)) U ?_;&Qi U ⟨_,.inl U,?_⟩;show NR (SD.inn v (fO [L2.Step.fld (κ 1) "lasts"] _ _))=NR (SD.inn v _);rw[wK w4 U,ph];B4 lR;rw[oR];rfl
B5 aFR(o:Option Int):(KN o).jH=NU:=by cases o<;>rfl
B5 Zj(os:List (Option Int)):D.gR (os.map KN)=NU:=Tv λd hd=>by B3⟨o,_,rfl⟩:=J4.mp hd;~aFR o
B5 Vb(a b:List (Option Int))(h:a.length+b.length≤1000):eX (nD a) (nD b)=NR (nD (a++b)):=by B4 nD;rw[J6];~Yo (by rw[VB,Zj,Zj];rfl) (by rw[B8,B8];omega)
B5 divmod{x:Int}{P:Nat}(h0:0≤x):x%(P:Int)=((x.toNat%P:Nat):Int)∧x/(P:Int)=((x.toNat/P:Nat):Int):=by
 have e:x=((x.toNat:Nat):Int):=by omega
 constructor
 ·rw[b8,←e]
 ·rw[b9,←e]
B5 Nf(ns:List Int):aN ns=nD (ns.map NR):=by B4 aN nD;rw[M4];rfl
B5 Cv(ns:List Int):Vp (ns.map NR)=ns:=by B4 Vp;rw[List.filterMap_map];~List.filterMap_some
B5 Kg(o:Option Int)(os:List (Option Int)):Vp (o::os)=o.toList++Vp os:=by cases o<;>rfl
def Wb.ns(s:Wb)(x:Int)(ns:List Int):List Int:=(s.co.get x).toList++ns
B5 mJ.qg{s:Wb}(h:mJ s){x:Int}{ns:List Int}(hn:∀m∈ns,0≤m∧m<(s.n:Int)):∀m∈s.ns x ns,0≤m∧m<(s.n:Int):=λm hm=>by
 rcases F8.mp hm with z | z
 ·cases e:s.co.get x with
  | none=>rw[e]at z;cases z
  | some y=>rw[e]at z;rw[D2.mp z];~h.coi x y e
 ·~hn m z
B5 nY{α:Type}(o:Option α):o.toList.length≤1:=by cases o<;>simp
B5 YT{s:Wb}(h:mJ s){x:Int}{r:List Int}{os:List (Option Int)}(h0:0≤x)(h1:x<(s.rs.length:Int))(hn:∀m∈Vp os,0≤m∧m<(s.n:Int))(hl:os.length≤7):gO κ [lR κ s,.int x,dTup r,nD os]=NR (.int s.n,lR κ (s.wr x r (s.ns x (Vp os)))):=by
 &qD U λv=>?_;B4 xK;have e:s.ns x (Vp os)=Vp (s.co.get x::os):=by rw[Kg];rfl
 rw[e];&Qh (d:=.int s.n) (env':=[.inn v (lR κ (s.wr x r (Vp (s.co.get x::os)))),.fro (.int x),.fro (dTup r),.fro (nD os)]) (lD (p:=[]) (nm:=uZ) (es:=[.int x,dTup r,nD (s.co.get x::os)]) U U U A7 (mapA (fU U (fU U (Uc (aJ (a:=nD [s.co.get x]) (b:=nD os) (iD (aA (bU (nm:=uZ) U A7 U U (YL κ h x)) U) A9) U (Vb _ _ (by simp;omega))) U)))) (YQ κ h h0 h1 (by rw[←e];~h.qg hn) (by simp;omega))) ⟨_,.inl U,U⟩
B5 aFS{s:Wb}(h:mJ s){x:Int}{r ns:List Int}(h0:0≤x)(h1:x<(s.rs.length:Int))(hn:∀m∈ns,0≤m∧m<(s.n:Int))(hl:ns.length≤7):gO κ [lR κ s,.int x,dTup r,aN ns]=NR (.int s.n,lR κ (s.wr x r (s.ns x ns))):=by have:=YT κ h (r:=r) (os:=ns.map NR) h0 h1 (by rw[Cv];~hn) (by rw[B8];~hl);rw[Cv,←Nf]at this;~this
def Od(r:List Int)(y:Int):List Int:=[r.getD 0 0,y,r.getD 2 0,r.getD 3 0,r.getD 4 0]
B5 pN{r:List Int}{k:Nat}(h:k<r.length):cW (dTup r) (.int k)=NR (.int (r.getD k 0)):=vJ (O3 _) (by
 rw[C5,C7,dU (d:=0) h]
 rfl)
B5 mJ.five{s:Wb}(h:mJ s){x:Int}(h0:0≤x)(h1:x<(s.rs.length:Int)):(s.R x).length=5:=(h.rcd x.toNat A6).2
B5 YW{s:Wb}(h:mJ s){x y:Int}{os:List (Option Int)}(h0:0≤x)(h1:x<(s.rs.length:Int))(hn:∀m∈Vp os,0≤m∧m<(s.n:Int))(hl:os.length≤7):mZ κ [lR κ s,.int x,.int y,nD os]=NR (.int s.n,lR κ (s.wr x (Od (s.R x) y) (s.ns x (Vp os)))):=by&qD U λv=>?_;B4 Ny;have h5:=h.five h0 h1;&cD (d:=dTup (s.R x)) (bU (nm:=uZ) U A7 U U (lJ κ h h0 h1)) A9 ?_;&Qh (d:=.int s.n) (env':=[.inn v (lR κ (s.wr x (Od (s.R x) y) (s.ns x (Vp os)))),.fro (.int x),.fro (.int y),.fro (nD os),.own (dTup (s.R x))]) (lD (p:=[]) (nm:=uZ) (es:=[.int x,dTup (Od (s.R x) y),nD os]) U U U A7 (mapA (fU U (fU (pF (aA (bD (aJ U U (pN (k:=0) A6)) U) (aA (bD U U) (aA (bD (aJ U U (pN (k:=2) A6)) U) (aA (bD (aJ U U (pN (k:=3) A6)) U) (aA (bD (aJ U U (pN (k:=4) A6)) U) U))))) A9) (fU U U)))) (YT κ h h0 h1 hn hl)) ⟨_,.inl U,U⟩
B5 aFT{s:Wb}(h:mJ s){x y:Int}{ns:List Int}(h0:0≤x)(h1:x<(s.rs.length:Int))(hn:∀m∈ns,0≤m∧m<(s.n:Int))(hl:ns.length≤7):mZ κ [lR κ s,.int x,.int y,aN ns]=NR (.int s.n,lR κ (s.wr x (Od (s.R x) y) (s.ns x ns))):=by have:=YW κ h (y:=y) (os:=ns.map NR) h0 h1 (by rw[Cv];~hn) (by rw[B8];~hl);rw[Cv,←Nf]at this;~this
B5 Hj{s:Wb}{ns:List Int}{nd:D}(hn:∀m∈ns,0≤m∧m<(s.n:Int))(hnd:(nd=.non∧ns=[])∨nd=aN ns):cG κ [lR κ s,nd]=NR (aN ns):=by
  suffices hh:∃d,cG κ [lR κ s,nd]=NR d∧d=aN ns by B3⟨d,e1,rfl⟩:=hh;~e1
  &yo U ?_;B4 sY;&cD (d:=aN ns) ?_ A9 ?_
  · rcases hnd with ⟨rfl,rfl⟩ | rfl
    · ~aGM (cB (aJ U U (Dz NV .non))) U
    · ~aGN (cB (aJ U U (Dz NV (aN ns)))) (cV (aA U U) (wX (fK ns)))
  &jx (ns:=ns) [.fro (lR κ s),.fro nd,.own (aN ns),lv ns .no ns.length] U U (λv2 k env=>env=[.fro (lR κ s),.fro nd,.inn v2 (aN ns),lv ns .no k]) (λv2=>rfl) (λv2 k env e=>by rw[e];rfl) ?_ (λv2 env e=>by rw[e];rfl) ?_
  · rintro v2 k x env hx rfl
    &⟨by walk_at "lt", _,Jh (d:=.non) (bU (nm:=Ze) (dW U (pM w0 U)) A7 U U (Cr κ (hn x (D6 hx)).1 (hn x (D6 hx)).2)),?_⟩;have e:lv ns .no (k+1)=.fro (.int x):=by show SD.fro (.int (ns.getD k 0))=_;rw[dY hx]
    rw[e];rfl
  ~aDf U ⟨_,U,U⟩
def Wb.ahead(s:Wb)(at_:Int):Int:=(0::s.od).getD at_.toNat 0
B5 aIR(od:List Int)(h:od.length≤1000):eX (aN [0]) (aN od)=NR (aN (0::od)):=yW [0] od (by simp;omega)
B5 mJ.aBo{s:Wb}(h:mJ s):s.od.length≤64:=by
 have:=nM s.rs.length s.od h.Oc λx hx=>by have:=h.sV x hx;omega
 have:=h.few;omega
B5 mJ.aKE{s:Wb}(h:mJ s):s.lo.length<64:=by
 have hh:=nM s.rs.length (0::s.lo) (F1.mpr ⟨λz=>by have:=(h.lom 0).mp z;omega,h.lon⟩) λx hx=>by
  rcases B9.mp hx with z | z
  ·have:=h.pos;omega
  ·have:=(h.lom x).mp z;omega
 rw[E3]at hh;have:=h.few;omega
B5 Oe{s:Wb}(h:mJ s){k:Int}(h0:0≤k)(h1:k≤(s.od.length:Int)):jQ κ [lR κ s,.int k]=NR (.int NY):=by have:=h.aBo;~nO U (gB (bD (aJ (aJ (iD (aA U U) A9) (dW U (pM w2 U)) (aIR _ A6)) U (jX h0 (by simp;omega))) U))
B5 mJ.ahead{s:Wb}(h:mJ s){k:Int}(h0:0≤k)(h1:k≤(s.od.length:Int)):(s.ahead k=0∨s.ahead k∈s.od)∧0≤s.ahead k∧s.ahead k<(s.rs.length:Int):=by
 have hm:s.ahead k∈(0::s.od):=by B4 Wb.ahead;rw[B7,B6 (show k.toNat<(0::s.od).length by simp;omega)];~L0 _
 rcases B9.mp hm with z | z
 ·rw[z];have:=h.pos;~⟨.inl U,by omega,by omega⟩
 ·have:=h.sV _ z;~⟨.inr z,by omega,by omega⟩
B5 ql{s:Wb}(h:mJ s){x a b c:Int}{ns:List Int}{nd:D}(h0:0≤x)(h1:x<(s.rs.length:Int))(hn:∀m∈ns,0≤m∧m<(s.n:Int))(hl:ns.length≤7)(hnd:(nd=.non∧ns=[])∨nd=aN ns):qG κ [lR κ s,.int x,.int a,.int b,.int c,nd]=NR (.int s.n,lR κ (s.wr x [(s.R x).getD 0 0,(s.R x).getD 1 0,a,b,c] (s.ns x ns))):=by&qD U λv=>?_;B4 Bq;have h5:=h.five h0 h1;&cD (d:=dTup (s.R x)) (bU (nm:=uZ) U A7 U U (lJ κ h h0 h1)) A9 ?_;&Qh (d:=.int s.n) (env':=[.inn v (lR κ (s.wr x [(s.R x).getD 0 0,(s.R x).getD 1 0,a,b,c] (s.ns x ns))),.fro (.int x),.fro (.int a),.fro (.int b),.fro (.int c),.fro nd,.own (dTup (s.R x))]) (lD (p:=[]) (nm:=uZ) (es:=[.int x,dTup [(s.R x).getD 0 0,(s.R x).getD 1 0,a,b,c],aN ns]) U U U A7 (mapA (fU U (fU (pF (aA (bD (aJ U U (pN (k:=0) A6)) U) (aA (bD (aJ U U (pN (k:=1) A6)) U) (aA (bD U U) (aA (bD U U) (aA (bD U U) U))))) A9) (Uc (bU (nm:=uZ) U A7 U U (Hj κ hn hnd)) U)))) (aFS κ h h0 h1 hn hl)) ⟨_,.inl U,U⟩
def Wb.new(s:Wb):Int:=ig s.lo
def Wb.e1(s:Wb)(k key was now gF:Int):Wb:=s.wr s.new [key,(s.R NY).getD 1 0,was,now,gF] (s.go.get s.new).toList
def Wb.e2(s:Wb)(k key was now gF:Int)(fu:List Int):Wb:=(s.e1 k key was now gF).wr NY (Od ((s.e1 k key was now gF).R NY) s.new) ((s.e1 k key was now gF).ns NY ((s.n:Int)::fu))
def Wb.ent(s:Wb)(k key was now gF:Int)(fu:List Int):Wb:={s.e2 k key was now gF fu with od:=s.od.take k.toNat++s.new::s.od.drop k.toNat,lo:=s.lo.eraseIdx (s.lo.idxOf s.new),co:=s.co.put s.new (s.n+1:Nat)}
B5 mJ.new{s:Wb}(h:mJ s)(hl:0<s.lo.length):s.new∈s.lo∧1≤s.new∧s.new<(s.rs.length:Int)∧s.new∉s.od∧0≤s.new:=by have:=(Fy hl).1;have hm:=(h.lom _).mp this;~⟨this,hm.1,hm.2.1,hm.2.2,Int.le_trans A8 hm.1⟩
B5 mJ.aIS{s:Wb}(h:mJ s)(x:Int):∀m∈(s.go.get x).toList,0≤m∧m<(s.n:Int):=λm hm=>by
 cases e:s.go.get x with
 | none=>rw[e]at hm;cases hm
 | some y=>rw[e]at hm;rw[D2.mp hm];~h.goi x y e
B5 mJ.e1{s:Wb}(h:mJ s)(hl:0<s.lo.length)(hm:s.n<124)(k key was now gF:Int):mJ (s.e1 k key was now gF):=by B3⟨a,b,c,d,e⟩:=h.new hl;~h.wr e c U (h.aIS _) (G1 (nY _) A8) hm λz=>absurd z d
B5 aBp(s:Wb)(k key was now gF:Int):(s.e1 k key was now gF).n=s.n+1:=qe _ _ _ _
B5 mJ.e2{s:Wb}(h:mJ s)(hl:0<s.lo.length)(hm:s.n<123){k key was now gF:Int}{fu:List Int}(h0:0≤k)(h1:k≤(s.od.length:Int))(hn:∀m∈fu,0≤m∧m<(s.n:Int))(hf:fu.length≤5):mJ (s.e2 k key was now gF fu)∧(∀m∈(s.n:Int)::fu,0≤m∧m<((s.e1 k key was now gF).n:Int))∧s.ahead k<((s.e1 k key was now gF).rs.length:Int):=by
 have w:=h.e1 hl A6 k key was now gF;B3⟨a,b,c⟩:=h.ahead h0 h1;have hn2:∀m∈(s.n:Int)::fu,0≤m∧m<((s.e1 k key was now gF).n:Int):=λm hm=>by
  rw[aBp];rcases B9.mp hm with z | z
  ·omega
  ·have:=hn m z;omega
 have hc:s.ahead k<((s.e1 k key was now gF).rs.length:Int):=by show _<((s.wr _ _ _).rs.length:Int);rw[oR];~c
 &⟨w.wr b hc U (w.qg hn2) ?_ (by rw[aBp];omega) λz=>rfl,hn2,hc⟩;B4 Wb.ns;rw[D1];have:=nY ((s.e1 k key was now gF).co.get NY);simp;omega
B5 aDC(s:Wb)(k key was now gF:Int)(fu:List Int):(s.ent k key was now gF fu).n=s.n+2:=by show (s.e2 k key was now gF fu).n=_;B4 Wb.e2;rw[qe,aBp]
B5 Ql(s:Wb)(k key was now gF:Int)(fu:List Int):(s.ent k key was now gF fu).rs.length=s.rs.length:=by show (s.e2 k key was now gF fu).rs.length=_;B4 Wb.e2;rw[oR];~oR _ _ _ _
B5 Eg{l:List Int}{x y:Int}(hn:l.Nodup):y∈l.eraseIdx (l.idxOf x)↔y∈l∧y≠x:=by rw[←W4 U,hn.mem_erase_iff];~and_comm
def Wb.Fits(s:Wb)(k key:Int):Prop:=(∀x∈s.od.take k.toNat,s.key x<key)∧∀x∈s.od.drop k.toNat,key<s.key x
B5 mJ.ent{s:Wb}(h:mJ s)(hl:0<s.lo.length)(hm:s.n<123){k key was now gF:Int}{fu:List Int}(h0:0≤k)(h1:k≤(s.od.length:Int))(hn:∀m∈fu,0≤m∧m<(s.n:Int))(hf:fu.length≤5)(hk:s.Fits k key):mJ (s.ent k key was now gF fu):=by
  B3⟨w,_,_⟩:=h.e2 hl hm (key:=key) (was:=was) (now:=now) (gF:=gF) h0 h1 hn hf;B3⟨a1,a2,a3,a4,a5⟩:=h.new hl;have hA:=h.ahead h0 h1;have hod:∀x,x∈s.od.take k.toNat++s.new::s.od.drop k.toNat↔x=s.new∨x∈s.od:=λx=>by
    conv=>rhs;rw[←M0 k.toNat s.od]
    simp only[F8,B9];constructor
    · rintro(z | z | z)
      · ~.inr (.inl z)
      · ~.inl z
      · ~.inr (.inr z)
    · rintro(z | z | z)
      · ~.inr (.inl z)
      · ~.inl z
      · ~.inr (.inr z)
  have hlen:=Ql s k key was now gF fu;have hnn:=aDC s k key was now gF fu;have kk:∀x,x=s.new∨x∈s.od→(s.ent k key was now gF fu).key x=if x=s.new then key else s.key x:=λx hx=>by
    have x0:0≤x:=by
      rcases hx with z | z
      · omega
      · have:=h.sV x z;omega
    show ((s.e2 k key was now gF fu).R x).getD 0 0=_;have e1r:∀y,0≤y→(s.e1 k key was now gF).R y=if y=s.new then [key,(s.R NY).getD 1 0,was,now,gF]else s.R y:=λy hy=>Et a5 a3 hy;have ne:s.ahead k≠s.new:=λz=>by
      rcases hA.1 with y | y
      · omega
      · ~a4 (z▸y)
    B4 Wb.e2;rw[Et hA.2.1 (by show _<((s.wr _ _ _).rs.length:Int);rw[oR];~hA.2.2) x0];by_cases c:x=s.ahead k
    · rw[if_pos c,if_neg (by rw[c];~ne),e1r _ hA.2.1,if_neg ne,c]
      rfl
    · rw[if_neg c,e1r x x0]
      by_cases c2:x=s.new
      · rw[if_pos c2,if_pos c2];rfl
      · rw[if_neg c2,if_neg c2];rfl
  &⟨w.bn,w.p1,w.len,w.few,w.pos,w.rcd,w.las,w.lao,?_,?_,?_,?_,?_,?_,?_,?_,?_,w.th⟩
  · rw[hnn];~(h.coo.put _ _).mono A6
  · rw[hnn];~h.goo.mono A6
  · intro x y e
    have e:(s.co.put s.new (s.n+1:Nat)).get x=NR y:=e;rw[Mp.mO h.coo.1]at e;rw[hnn];split at e
    · cases e
      omega
    · have:=h.coi x y e
      omega
  · intro x y e
    have:=h.goi x y e;rw[hnn];omega
  · &Q1.mpr ⟨h.Oc.sublist (M6 _ _),F1.mpr ⟨λz=>a4 (X2 z),h.Oc.sublist (o7 _ _)⟩,λx hx y hy=>?_⟩
    rcases B9.mp hy with z | z
    · rintro rfl
      ~a4 (z▸L7 hx)
    · have:=h.Oc
      rw[←M0 k.toNat s.od]at this;~(Q1.mp this).2.2 x hx y z
  · intro x hx
    rw[hlen]
    rcases(hod x).mp hx with z | z
    · omega
    · ~h.sV x z
  · ~h.lon.sublist (W0 _ _)
  · intro x
    show x∈s.lo.eraseIdx (s.lo.idxOf s.new)↔_;rw[hlen,Eg h.lon,h.lom x];show _↔1≤x∧x<(s.rs.length:Int)∧x∉s.od.take k.toNat++s.new::s.od.drop k.toNat;rw[hod x,not_or];constructor
    · rintro⟨⟨z1,z2,z3⟩,z4⟩
      ~⟨z1,z2,z4,z3⟩
    · rintro⟨z1,z2,z4,z3⟩
      ~⟨⟨z1,z2,z3⟩,z4⟩
  · have hp:=h.key
    rw[←M0 k.toNat s.od]at hp;B3⟨p1,p2,p3⟩:=K6.mp hp;have nt:∀x∈s.od.take k.toNat,x≠s.new:=λx hx z=>a4 (z▸L7 hx);have nd:∀x∈s.od.drop k.toNat,x≠s.new:=λx hx z=>a4 (z▸X2 hx);have kt:∀x∈s.od.take k.toNat,(s.ent k key was now gF fu).key x=s.key x:=λx hx=>by rw[kk x (.inr (L7 hx)),if_neg (nt x hx)]
    have kd:∀x∈s.od.drop k.toNat,(s.ent k key was now gF fu).key x=s.key x:=λx hx=>by rw[kk x (.inr (X2 hx)),if_neg (nd x hx)]
    have kn:(s.ent k key was now gF fu).key s.new=key:=by rw[kk _ (.inl U),if_pos rfl]
    show (s.od.take k.toNat++s.new::s.od.drop k.toNat).Pairwise _;&K6.mpr ⟨p1.imp_of_mem λ{x y} hx hy q=>by rw[kt x hx,kt y hy];~q,F6.mpr ⟨λy hy=>by rw[kn,kd y hy];~hk.2 y hy,p2.imp_of_mem λ{x y} hx hy q=>by rw[kd x hx,kd y hy];~q⟩,λx hx y hy=>?_⟩;rw[kt x hx];rcases B9.mp hy with z | z
    · rw[z,kn]
      ~hk.1 x hx
    · rw[kd y z]
      ~p3 x hx y z
B5 aFU{s:Wb}{k key:Int}(h0:0≤k)(h1:k≤(s.od.length:Int))(hk:s.Fits k key):(((s.od.filter λx=>decide (s.key x<key)).length:Nat):Int)=k:=by
 conv=>lhs;rw[←M0 k.toNat s.od]
 rw[P6,R4.mpr λx hx=>decide_eq_true (hk.1 x hx),g9.mpr λx hx=>by have:=hk.2 x hx;simp;omega,F0,G7];omega
B5 aIT{env:EN}{i:Nat}{π:FP}{f g:FE}{d0:D}{p:List L2.Step}{ns:List Int}{k y:Int}(h1:env[i]?=NR (.own d0))(h2:π (rE env)=NR p)(h3:gJ p d0=NR (aN ns))(h4:f (rE env)=NR (.int k))(h5:g (rE env)=NR (.int y))(k0:0≤k)(k1:k≤(ns.length:Int))(hl:ns.length<1000):aA2 i π f g env=.next (env.set i (.own (fO p d0 (aN (ns.take k.toNat++y::ns.drop k.toNat))))):=by B4 aA2;rw[h1,h2,h4,h5];dsimp only;rw[h3];B4 aN;dsimp only;rw[lM];dsimp only;rw[if_pos ⟨k0,by omega,hl⟩]
B5 aDD{env:EN}{i:Nat}{π:FP}{g:FE}{d0:D}{p:List L2.Step}{ns:List Int}{y:Int}(h1:env[i]?=NR (.own d0))(h2:π (rE env)=NR p)(h3:gJ p d0=NR (aN ns))(h5:g (rE env)=NR (.int y))(hy:y∈ns):jj i π g env=.next (env.set i (.own (fO p d0 (aN (ns.eraseIdx (ns.idxOf y)))))):=by B4 jj;rw[h1,h2,h5];dsimp only;rw[h3];B4 aN;dsimp only;rw[lM];dsimp only;rw[if_pos hy]
B5 aDE{s:Wb}(h:mJ s)(hl:0<s.lo.length)(hm:s.n<123){k key was now gF:Int}{fu:List Int}{nd:D}(h0:0≤k)(h1:k≤(s.od.length:Int))(hn:∀m∈fu,0≤m∧m<(s.n:Int))(hf:fu.length≤5)(hk:s.Fits k key)(hnd:(nd=.non∧fu=[])∨nd=aN fu) :
  tQ κ [lR κ s,.int key,.int was,.int now,.int gF,nd]=NR (.tup [.int s.new,.int (s.n+1:Nat)],lR κ (s.ent k key was now gF fu)):=by
 &qD U λv=>?_;B4 Jm;B3⟨a1,a2,a3,a4,a5⟩:=h.new hl;B3⟨b1,b2,b3⟩:=h.ahead h0 h1;B3⟨W2,hn2,hc⟩:=h.e2 hl hm (key:=key) (was:=was) (now:=now) (gF:=gF) h0 h1 hn hf;have W1:=h.e1 hl A6 k key was now gF;have h5:=h.five b2 b3;have ho:=h.aBo;&wY (cB (aJ (cV (aA (dW U (pM w3 U)) U) (qN _)) U (kZ _ _))) (decide_eq_false A6) (yS ?_);&cD (d:=aN fu) (bU (nm:=uZ) U A7 U U (Hj κ hn hnd)) A9 ?_;have Cu:=Lq (fi:=kO (tG (fP (κ 1) "string") (aD 0))) (fr:=[0,1]) (fc:=fB (f2 gw (f2 cW (fH (κ 1) "record_of" 2 (bC κ) (aD 1) OK []) (fC (.int (0)))) (aD 2))) (fe:=cL (aD 0)) (e:=rE [.inn v (lR κ s),.fro (.int key),.fro (.int was),.fro (.int now),.fro (.int gF),.fro nd,.own (aN fu),.no,.no,.no,.no,.no]) (ms:=s.od) (λx=>decide (s.key x<key)) (λx=>.int x) (gD (dW U (pM w2 U))) A6 (λx hx=>by
  have:=h.sV x hx;~cB (aJ (aJ (bU (nm:=uZ) U A7 U U (lJ κ h A6 this.2)) U (pN (k:=0) (by rw[h.five A6 this.2];decide))) U (vI _ _))) λx hx _=>bD U U
 &cD (d:=.int k) ((cV (aA Cu U) (Tt _)).trans (by rw[B8,aFU h0 h1 hk])) A9 ?_;&cD (d:=.int NY) (bU (nm:=uZ) U A7 U U (Oe κ h h0 h1)) A9 ?_;&cD (d:=.int s.new) (cV (aA (dW U (pM w3 U)) U) (ju hl)) A9 ?_;&HJ (d:=.int s.n) (env':=[.inn v (lR κ (s.e1 k key was now gF)),.fro (.int key),.fro (.int was),.fro (.int now),.fro (.int gF),.fro nd,.own (aN fu),.own (.int k),.own (.int NY),.own (.int s.new),.no,.no])
  (lD (p:=[]) (nm:=uZ) (es:=[.int s.new,dTup [key,(s.R NY).getD 1 0,was,now,gF],nD [s.go.get s.new]]) U U U A7 (mapA (fU U (Uc (pF (aA (bD U U) (aA (bD (aJ (bU (nm:=uZ) U A7 U U (lJ κ h b2 b3)) U (pN (k:=1) A6)) U) (aA (bD U U) (aA (bD U U) (aA (bD U U) U))))) A9) (Uc (iD (aA (bU (nm:=uZ) U A7 U U (YM κ h s.new)) U) A9) U)))) ((YQ κ h a5 a3 (by rw[Kg];~λm hm=>h.aIS _ m (by simpa[Vp]using hm)) (by simp)).trans (by rw[Kg,show Vp []=[]from rfl,F0];rfl))) A9 ?_
 &HJ (d:=.int (s.n+1:Nat)) (env':=[.inn v (lR κ (s.e2 k key was now gF fu)),.fro (.int key),.fro (.int was),.fro (.int now),.fro (.int gF),.fro nd,.own (aN fu),.own (.int k),.own (.int NY),.own (.int s.new),.own (.int s.n),.no])
  (lD (p:=[]) (nm:=uZ) (es:=[.int NY,.int s.new,aN ((s.n:Int)::fu)]) U U U A7 (mapA (fU U (fU U (fU (aJ (iD (aA U U) A9) U (yW [(s.n:Int)] fu (by simp;omega))) U)))) ((aFT κ W1 b2 hc hn2 (by simp;omega)).trans (by rw[aBp];rfl))) A9 ?_
 &rC U (aIT (p:=[L2.Step.fld (κ 1) "string"]) (ns:=s.od) U U (wJ w2 U) U U h0 h1 A6) U ?_;rw[show fO [L2.Step.fld (κ 1) "string"] (lR κ (s.e2 k key was now gF fu)) (aN (s.od.take k.toNat++s.new::s.od.drop k.toNat))=.ins (κ 1) uZ _ from wK w2 rfl];&rC U (aDD (p:=[L2.Step.fld (κ 1) "loose"]) (ns:=s.lo) U U (wJ w3 U) U a1) U ?_;rw[wK w3 rfl];&rC U (Qg (p:=[L2.Step.fld (κ 1) "comings"]) (k:=.inl s.new) (kd:=.int s.new) (d:=.int (s.n+1:Nat)) U U (wJ w5 U) U U U U (by rw[B8];have:=W2.coo.2;have:=W2.aKD;omega)) U ?_;rw[wK w5 U,ph];~Qh (aIF (pF (aA (bD U U) (aA (bD U U) U)) A9)) ⟨_,.inl U,U⟩
B5 Vc(s:Wb):jY κ [lR κ s]=NR (aN s.od):=nO U (gB (cV (aA (dW U (pM w2 U)) U) (wX (fK _))))
B5 YX{s:Wb}(h:mJ s):vP κ [lR κ s]=NR (aN (sortI s.lo)):=nO U (gB (cV (aA (dW U (pM w3 U)) U) (Jf h.aKE)))
B5 Ws{s:Wb}(h:mJ s)(x:Int):mL κ [lR κ s,.int x]=NR (KN (s.la.get x)):=nO U (gB (aJ (dW U (pM w4 U)) U (ou h.lao.1 x)))
def Wb.cv(s:Wb)(r:List Int):Wb:={s with b:=s.b.bW r}
B5 mJ.cv{s:Wb}(h:mJ s){r:List Int}(hu:r.Nodup)(hm:∀x∈r,0≤x∧x<(s.n:Int))(hn:∀x∈r,x∉s.b.held):mJ (s.cv r)∧bkD (s.cv r)=bkD s∧(s.cv r).n=s.n∧(s.cv r).P=s.P:=by
 have e1:=iQ r s.b;B3⟨e2,e3⟩:=kE r s.b;have en:(s.cv r).n=s.n:=congrArg f7 e1;have eP:(s.cv r).P=s.P:=e2;&⟨⟨h.bn.bW hu hm hn,by rw[eP];~h.p1,λk hk=>?_,h.few,h.pos,λk hk=>?_,λk hk=>?_,by rw[en];~h.lao,by rw[en];~h.coo,by rw[en];~h.goo,by rw[en];~h.coi,by rw[en];~h.goi,h.Oc,h.sV,h.lon,h.lom,h.key,λk hk=>?_⟩,?_,en,eP⟩
 ·rw[eP];show _<((s.b.bW r).bB.getD _ []).length;rw[e3];~h.len k hk
 ·rw[eP];show s.rs.getD k []=face (s.b.bW r) _ _∧_;rw[KJ h.bn (O3 _) (O3 _) hm];~h.rcd k hk
 ·rw[eP];show s.la.get k=lastAt (s.b.bW r).asked _ _;rw[e1];~h.las k hk
 ·show (at_ (s.b.bW r).asked k).thing.length=5;rw[e1];~h.th k (by rw[←en];~hk)
 ·B4 bkD;rw[eP];show D.dk bks [_,_,_,_,_,yX (s.b.bW r).asked,_]=_;rw[e1];rfl
def Wb.o1(s:Wb)(k x:Int)(fu:List Int):Wb:=s.wr NY (Od (s.R NY) ((s.R x).getD 1 0)) (s.ns NY ((s.la.get x).toList++fu))
def Wb.out(s:Wb)(k x:Int)(fu:List Int):Wb:={s.o1 k x fu with od:=s.od.eraseIdx k.toNat,lo:=s.lo++[x],go:=s.go.put x s.n}
B5 Vd{l:List Int}{x:Int}:∀{k:Nat},l.Nodup→l[k]?=NR x→l.idxOf x=k:=by
 induction l with
 | nil=>intro k _ h;cases h
 | cons a l ih=>
  intro k hn h;have hn':=F1.mp hn;cases k with
  | zero=>cases h;~X3
  | succ k=>have h:l[k]?=NR x:=h;have ne:a≠x:=λz=>hn'.1 (z▸D6 h);rw[W9,show (a==x)=NV from beq_false_of_ne ne,←ih hn'.2 h];rfl
B5 mJ.aMg{s:Wb}(h:mJ s){x:Int}(h0:0≤x)(h1:x<(s.rs.length:Int)):∀m∈(s.la.get x).toList,0≤m∧m<(s.n:Int):=λm hm=>by
 have e:=h.las x.toNat A6;rw[T7 h0]at e;rw[e]at hm;cases z:lastAt s.b.asked ((x.toNat%s.P:Nat):Int) ((x.toNat/s.P:Nat):Int)with
 | none=>rw[z]at hm;cases hm
 | some y=>rw[z]at hm;rw[D2.mp hm];have:=Ef z;~⟨this.1,this.2.1⟩
B5 mJ.o1{s:Wb}(h:mJ s)(hm:s.n<124){k x:Int}{fu:List Int}(h0:0≤k)(h1:k≤(s.od.length:Int))(x0:0≤x)(x1:x<(s.rs.length:Int))(hn:∀m∈fu,0≤m∧m<(s.n:Int))(hf:fu.length≤5):mJ (s.o1 k x fu)∧∀m∈(s.la.get x).toList++fu,0≤m∧m<(s.n:Int):=by
 B3⟨b1,b2,b3⟩:=h.ahead h0 h1;have hn2:∀m∈(s.la.get x).toList++fu,0≤m∧m<(s.n:Int):=λm hm=>by
  rcases F8.mp hm with z | z
  ·~h.aMg x0 x1 m z
  ·~hn m z
 &⟨h.wr b2 b3 U (h.qg hn2) ?_ hm λ_=>rfl,hn2⟩;B4 Wb.ns;rw[D1,D1];have:=nY (s.co.get NY);have:=nY (s.la.get x);omega
B5 aGS(s:Wb)(k x:Int)(fu:List Int):(s.out k x fu).n=s.n+1:=by show (s.o1 k x fu).n=_;B4 Wb.o1;~qe _ _ _ _
B5 Qm(s:Wb)(k x:Int)(fu:List Int):(s.out k x fu).rs.length=s.rs.length:=by show (s.o1 k x fu).rs.length=_;B4 Wb.o1;~oR _ _ _ _
B5 mJ.out{s:Wb}(h:mJ s)(hm:s.n<124){k x:Int}{fu:List Int}(h0:0≤k)(h1:k<(s.od.length:Int))(hx:s.od[k.toNat]?=NR x)(hn:∀m∈fu,0≤m∧m<(s.n:Int))(hf:fu.length≤5):mJ (s.out k x fu):=by
  have xm:x∈s.od:=D6 hx;have xr:=h.sV x xm;B3⟨w,_⟩:=h.o1 hm h0 (M3 h1) (x:=x) A6 xr.2 hn hf;have hi:=Vd h.Oc hx;have hlen:=Qm s k x fu;have hnn:=aGS s k x fu;&⟨w.bn,w.p1,w.len,w.few,w.pos,w.rcd,w.las,w.lao,?_,?_,?_,?_,h.Oc.sublist (W0 _ _),?_,?_,?_,w.key.sublist (W0 _ _),w.th⟩
  · rw[hnn];~h.coo.mono A6
  · rw[hnn];~h.goo.put _ _
  · intro z y e
    have:=h.coi z y e;rw[hnn];omega
  · intro z y e
    have e:(s.go.put x s.n).get z=NR y:=e;rw[Mp.mO h.goo.1]at e;rw[hnn];split at e
    · cases e
      omega
    · have:=h.goi z y e
      omega
  · intro z hz
    rw[hlen];~h.sV z (List.mem_of_mem_eraseIdx hz)
  · &Q1.mpr ⟨h.lon,by simp,λy hy z hz q=>?_⟩
    rw[D2.mp hz]at q;~((h.lom y).mp hy).2.2 (q▸xm)
  · intro y
    show y∈s.lo++[x]↔_;rw[hlen];show _↔1≤y∧y<(s.rs.length:Int)∧y∉s.od.eraseIdx k.toNat;rw[←hi,Eg h.Oc,F8,D2,h.lom y];constructor
    · rintro(⟨z1,z2,z3⟩ | rfl)
      · ~⟨z1,z2,λq=>z3 q.1⟩
      · ~⟨xr.1,xr.2,λq=>q.2 U⟩
    · rintro⟨z1,z2,z3⟩
      by_cases e:y=x
      · ~.inr e
      · ~.inl ⟨z1,z2,λq=>z3 ⟨q,e⟩⟩
B5 aDF{s:Wb}(h:mJ s)(hm:s.n<124){k x:Int}{fu:List Int}{nd:D}(h0:0≤k)(h1:k<(s.od.length:Int))(hx:s.od[k.toNat]?=NR x)(hn:∀m∈fu,0≤m∧m<(s.n:Int))(hf:fu.length≤5)(hnd:(nd=.non∧fu=[])∨nd=aN fu):nR κ [lR κ s,.int x,nd]=NR (.int s.n,lR κ (s.out k x fu)):=by
 &qD U λv=>?_;B4 Jk;B3⟨b1,b2,b3⟩:=h.ahead h0 (M3 h1);have xm:x∈s.od:=D6 hx;have xr:=h.sV x xm;have hi:=Vd h.Oc hx;have h5:=h.five (x:=x) A6 xr.2;B3⟨W,hn2⟩:=h.o1 hm h0 (M3 h1) (x:=x) A6 xr.2 hn hf;have ek:Vp (s.la.get x::fu.map NR)=(s.la.get x).toList++fu:=by rw[Kg,Cv]
 have hix:Bh (aN s.od) (.int x)=NR (.int k):=by B4 Bh aN;dsimp only;rw[lM,C4,if_pos xm,hi,T7 h0]
 have aKF:=Hj κ (s:=s) hn hnd;rw[Nf]at aKF;&cD (d:=.int NY) (bU (nm:=uZ) U A7 (aA (aJ (dW U (pM w2 U)) U hix) U) U (Oe κ h h0 (M3 h1))) A9 ?_;&cD (d:=nD (s.la.get x::fu.map NR)) (aJ (a:=nD [s.la.get x]) (b:=nD (fu.map NR)) (iD (aA (bU (nm:=uZ) U A7 U U (Ws κ h x)) U) A9) (bU (nm:=uZ) U A7 U U aKF) (Vb _ _ (by simp;omega))) A9 ?_;&HJ (d:=.int s.n) (env':=[.inn v (lR κ (s.o1 k x fu)),.fro (.int x),.fro nd,.own (.int NY),.own (nD (s.la.get x::fu.map NR)),.no]) (lD (p:=[]) (nm:=uZ) (es:=[.int NY,.int ((s.R x).getD 1 0),nD (s.la.get x::fu.map NR)]) U U U A7 (mapA (fU U (Uc (bD (aJ (bU (nm:=uZ) U A7 U U (lJ κ h A6 xr.2)) U (pN (k:=1) A6)) U) (fU U U)))) ((YW κ h b2 b3 (by rw[ek];~hn2) (by simp;omega)).trans (by rw[ek];rfl))) A9 ?_;&rC U (aDD (p:=[L2.Step.fld (κ 1) "string"]) (ns:=s.od) U U (wJ w2 U) U xm) U ?_;rw[hi,show fO [L2.Step.fld (κ 1) "string"] (lR κ (s.o1 k x fu)) (aN (s.od.eraseIdx k.toNat))=.ins (κ 1) uZ _ from wK w2 rfl];&rC U (Lr (p:=[L2.Step.fld (κ 1) "loose"]) (ds:=s.lo.map D.int) (d:=.int x) U U (wJ w3 U) (bD U U) (by rw[B8];have:=h.aKE;omega)) U ?_;rw[wK w3 U,yR];&rC U (Qg (p:=[L2.Step.fld (κ 1) "goings"]) (k:=.inl x) (kd:=.int x) (d:=.int s.n) U U (wJ w6 U) U U U U (by rw[B8];~R6 (show s.go.k.length≤s.n from h.goo.2) A6)) U ?_;rw[wK w6 U,ph];~Qi U ⟨_,.inl U,U⟩
section
variable{env env' e1 e2:EN}{b:Bool}{d d2 r:D}{f:FE}{ft:FT}{g1 g2:GS}{gb gc:GB}{gm:GM}{eF eZ:DE}{z y:FE2}{fs:FA2}{es xs ys:List D}{js:List Nat}{i:Nat}{φ:D→D→Option D}
end
section
variable{env env' e1 e2 e0:EN}{b:Bool}{d r:D}{gb:GB}{gm gn:GM}{as:List Ar}{F:List D→Option (D×List D)}{Qc TJ ds':List D}{f:FE}{ds:List D}
B5 aDG(h1:takes (chA as) env=NR (Qc,e0))(h2:rdA as (rE env) (rE e0)=NR TJ)(h3:F (wG (rB as) Qc TJ)=NR (r,ds')):TQ as F env=NR (r,Wg (chA as) ds' env):=by B4 TQ;rw[h1,C4,h2,C4,h3];rfl
B5 aKG{eF eZ:DE}(h1:f eZ=NR d)(h2:rdA as eF eZ=NR ds):rdA (.rd f::as) eF eZ=NR (d::ds):=by show (f eZ).bind _=_;rw[h1,C4,h2];rfl
B5 aGT{eF eZ:DE}{i:Nat}(h2:rdA as eF eZ=NR ds):rdA (.ch i::as) eF eZ=NR ds:=h2
end
B5 Ve(ns:List Int)(k:Nat):mX [aN ns,.int k]=NR (.int (ns.getD k 0)):=by
 &lW U ?_;B4 WD;by_cases c:k<ns.length
 ·have hx:=jX (ns:=ns) (i:=k) A6 A6;rw[C7]at hx;apply aIA
  ·walk_at "et"
  ·~decide_eq_true A6
  ~aKr (bD (aJ U U hx) U) U
 ·apply aIz
  ·walk_at "et"
  ·~decide_eq_false A6
  apply aKq;rw[B7,D9 A6];~gB U
B5 aBq(c:Int):∃s:Int,0≤s∧mY [.int c]=NR (.int s):=by
 suffices h:∃d,mY [.int c]=NR d∧∃s:Int,0≤s∧d=.int s by B3⟨d,h1,s,h0,rfl⟩:=h;~⟨s,h0,h1⟩
 &oM U ?_;B4 Ui;have a0:=F2 c (show (2147483629:Int)≠0 by decide);have a1:=G0 c (show (0:Int)<2147483629 by decide)
 walk_at "q"
 have n0:=F2 ((c%2147483629+1)*48271) (show (2147483629:Int)≠0 by decide);have n1:=G0 ((c%2147483629+1)*48271) (show (0:Int)<2147483629 by decide);generalize (c%2147483629+1)*48271%2147483629=n at *;have e50:Ek (.int 10) (.int 50)=NR (.int (10 ^ 50)):=pA ⟨by decide,by decide,by decide⟩;have m0:=F2 c (show (10 ^ 50:Int)≠0 by decide);have q0:=F2 (n*n) (show (2147483587:Int)≠0 by decide);&pL (aJ (aJ (aJ U U (gC (Ep A6 A6))) U (bI A8)) (aJ (aJ U (aJ U U e50) (bI A8)) U (gC (aKp A8 A8))) (bZ _ _)) ⟨_,U,_,?_,U⟩;have:=j5 m0 (show (0:Int)≤2147483587 by decide);omega
abbrev bJ(s:List OR):D:=jM s
B5 xU{s:List OR}{k:Nat}{p:List Nd}(h:s[k]?=NR p):cW (bJ s) (.int k)=NR (eN p):=by B4 bJ;~tK A6 (by rw[C7,C5,h];rfl)
B5 aKH{p:List Nd}{k:Nat}{t:List Int}(h:p[k]?=NR t):cW (eN p) (.int k)=NR (dTup t):=by B4 eN;~tK A6 (by rw[C7,C5,h];rfl)
B5 xV(s:List OR):gZ [bJ s]=NR (.int s.length):=xT s
def aU(P R:Nat)(cO:List Nd)(aQ:List Int):List OR:=(D5 P).map λp=>((D5 R).map λr=>cO.getD (p+P*r) [])++[[aQ.getD p 0]]
B5 KR{P R p r:Nat}(hp:p<P)(hr:r<R):p+P*r<P*R:=by have h1:P*(r+1)≤P*R:=Nat.mul_le_mul_left P hr;rw[Nat.mul_succ]at h1;omega
B5 getD_mem{l:List Int}{k:Nat}(h:k<l.length):l.getD k 0∈l:=by rw[B7,B6 h];~L0 h
B5 Cw{l:List Int}(h:l.Nodup){i j:Nat}(hi:i<l.length)(hj:j<l.length)(hij:i≠j):l.getD i 0≠l.getD j 0:=by
 rw[B7,B7,B6 hi,B6 hj];show l[i]≠l[j];have hpw:=J8.mp h;rcases G4 i j with q | q
 ·~hpw i j hi hj q
 ·~λe=>hpw j i hj hi A6 e.symm
B5 zj{s:List OR}{b:Int}(h:0<s.length)(h2:s.length≤1000):yZ [bJ s,.int b]=NR (dTup [b%s.length,b/s.length]):=by
 &lW U ?_;B4 yu;have hlen:=xV s;apply gB;show _=NR (D.tup [.int (b%s.length),.int (b/s.length)])
 walk_at "ev"
B5 aDH{s:List OR}{p:List Nd}{t:List Int}{i j:Nat}(h1:s[i]?=NR p)(h2:p[j]?=NR t):Bo [bJ s,dTup [(i:Int),(j:Int)]]=NR (dTup t):=by&lW U ?_;B4 WK;apply gB;~bD (aJ (aJ U (aJ U U (vJ A8 U)) (xU h1)) (aJ U U (vJ A8 U)) (aKH h2)) (lY _)
B5 aDI{s:List OR}{b:Nat}{p:List Nd}{t:List Int}(h:0<s.length)(h2:s.length≤1000)(h1:s[b%s.length]?=NR p)(h3:p[b/s.length]?=NR t):jO [bJ s,.int b]=NR (dTup t):=by
 &lW U ?_;B4 Yy;have hs:=zj (b:=(b:Int)) h h2;have ht:Bo [bJ s,dTup [(b:Int)%s.length,(b:Int)/s.length]]=NR (dTup t):=aDH (i:=b%s.length) (j:=b/s.length) h1 h3;apply gB
 walk_at "ev"
B5 pI(P R:Nat)(cO:List Nd)(aQ:List Int):(aU P R cO aQ).length=P:=by B4 aU;rw[B8,E1]
B5 tX{P R:Nat}{cO:List Nd}{aQ:List Int}{p:Nat}(h:p<P):(aU P R cO aQ)[p]?=NR (((D5 R).map λr=>cO.getD (p+P*r) [])++[[aQ.getD p 0]]):=by B4 aU;rw[C5,I0 h];rfl
B5 Kh{P R:Nat}{cO:List Nd}{aQ:List Int}{q:List Nd}(h:q∈aU P R cO aQ):q.length=R+1:=by B4 aU at h;B3⟨p,_,rfl⟩:=J4.mp h;rw[D1,B8,E1];rfl
B5 ZC{P R:Nat}{cO:List Nd}{aQ:List Int}{p r:Nat}(hr:r<R):(((D5 R).map λr=>cO.getD (p+P*r) [])++[[aQ.getD p 0]])[r]?=NR (cO.getD (p+P*r) []):=by rw[F9 (by rw[B8,E1];~hr),C5,I0 hr];rfl
B5 Vf{P R:Nat}{cO:List Nd}{aQ:List Int}{b:Nat}(hP:0<P)(hb:b<P*R):∃q,(aU P R cO aQ)[b%P]?=NR q∧q[b/P]?=NR (cO.getD b []):=by have h1:b%P<P:=R8 _ hP;have h2:b/P<R:=T0 hb;&⟨_,tX h1,?_⟩;rw[ZC h2,X4]
def Chain(cO:List Nd)(ord:List Int):Prop:=∀k,k≤ord.length→∃key was now gF:Int,cO[(([0]++ord).getD k 0).toNat]?=NR [key,(ord++[0]).getD k 0,was,now,gF]
B5 Vg{P R:Nat}{cO:List Nd}{aQ:List Int}{x:Int}{t:List Int}(hP:0<P)(hP8:P≤8)(h0:0≤x)(h1:x<(P*R:Nat))(ht:cO[x.toNat]?=NR t):jO [bJ (aU P R cO aQ),.int x]=NR (dTup t):=by B3⟨q,q1,q2⟩:=Vf (cO:=cO) (aQ:=aQ) (b:=x.toNat) hP (show x.toNat<P*R by omega);have hl:=pI P R cO aQ;have:=aDI (s:=aU P R cO aQ) (b:=x.toNat) A6 A6 (by rw[hl];~q1) (by rw[hl];~q2);rw[T7 h0,dY ht]at this;~this
B5 Ng{P R:Nat}{cO:List Nd}{aQ ord:List Int}(hP:0<P)(hP8:P≤8)(hR:0<R)(hc:Chain cO ord)(hb:∀x∈ord,1≤x∧x<(P*R:Nat))(hn:ord.Nodup)(hl:ord.length≤64):nP [bJ (aU P R cO aQ)]=NR (aN ord):=by
 suffices h:∃d,nP [bJ (aU P R cO aQ)]=NR d∧d=aN ord by B3⟨d,h1,rfl⟩:=h;~h1
 have hm:0<P*R:=T2 hP hR;generalize hbd:P*R=m at *;have nx:∀k,k≤ord.length→∃t:List Int,jO [bJ (aU P R cO aQ),.int (([0]++ord).getD k 0)]=NR (dTup t)∧cW (dTup t) (.int 1)=NR (.int ((ord++[0]).getD k 0)):=λk hk=>by
  B3⟨key,was,now,gF,h1⟩:=hc k hk;have hx:([0]++ord).getD k 0∈[0]++ord:=getD_mem (by rw[D1];simp;omega);have hx2:0≤([0]++ord).getD k 0∧([0]++ord).getD k 0<((P*R:Nat):Int):=by
   rw[hbd];rcases F8.mp hx with q | q
   ·have:=D2.mp q;omega
   ·have:=hb _ q;omega
  ~⟨_,Vg hP hP8 hx2.1 hx2.2 h1,vJ A8 U⟩
 &oM U ?_;B4 Yz
 walk_at "q"
 B3⟨t0,ht0,hx0⟩:=nx 0 (L5 _);have aOy:jO [bJ (aU P R cO aQ),.int 0]=NR (dTup t0):=ht0
 walk_at "q"
 &aFH (n:=ord.length) (λn env=>n≤ord.length∧env=[.fro (bJ (aU P R cO aQ)),.own (.dk ((ord.take (ord.length-n)).map G2) ((ord.take (ord.length-n)).map λ_=>D.bl NU)),.own (.int ((ord++[0]).getD (ord.length-n) 0))]) ⟨C9 _,by rw[S5];rfl⟩ A6 ?_ ?_
 ·rintro n env ⟨hnl,rfl⟩;by_cases c:n=0
  ·left;subst c;have e:(ord++[0]).getD (ord.length-0) 0=0:=by rw[a9,B7,J7 (C9 _),S5];rfl
   rw[e];&jm (cB ((aJ U U (Dw 0 0)).trans ?_));rw[decide_eq_true rfl];rfl
  ·right;generalize hk:ord.length-n=k;have hkl:k<ord.length:=by omega
   have e:(ord++[0]).getD k 0=ord.getD k 0:=by rw[B7,B7,F9 hkl]
   have hx:=hb _ (getD_mem hkl);have hnew:ord.getD k 0∉ord.take k:=by intro z;B3⟨j,hj,ej⟩:=G6 z;rw[G7]at hj;rw[V4]at ej;have:=Cw hn (i:=j) (j:=k) A6 hkl A6;rw[B7,B6 (show j<ord.length by omega)]at this;~this ej
   rw[e];B3⟨t,ht,hxt⟩:=nx (k+1) hkl;have ht':jO [bJ (aU P R cO aQ),.int (ord.getD k 0)]=NR (dTup t):=ht;&⟨?_,by omega,_,aKs (aFG (k:=G2 (ord.getD k 0)) U U U U (Bm hnew) U (by rw[B8,G7];omega)) (yO (bD (aJ (bM (aA U (aA U U)) U ht') U hxt) U) A9),by omega,?_⟩
   ·&(jl (cB (b:=NU) ((aJ U U (Dw _ _)).trans ?_))).trans (cB (aJ U U ?_))
    ·rw[decide_eq_false A6];rfl
    ·show (NR _:Option D)=_;rw[Bm hnew];rfl
   ·have e2:ord.length-(n-1)=k+1:=by omega
    have e3:ord.take (k+1)=ord.take k++[ord.getD k 0]:=by rw[Q2,dU (d:=0) hkl];rfl
    rw[e2,e3,J6,J6];rfl
 ·rintro env n ⟨hnl,rfl⟩ hf;by_cases c:n=0
  ·subst c;rw[a9,P1];apply pL (cV (aA U U) U);~⟨_,U,Yr ord⟩
  ·exfalso;generalize hk:ord.length-n=k at hf;have hkl:k<ord.length:=by omega
   have e:(ord++[0]).getD k 0=ord.getD k 0:=by rw[B7,B7,F9 hkl]
   have hx:=hb _ (getD_mem hkl);have hnew:ord.getD k 0∉ord.take k:=by intro z;B3⟨j,hj,ej⟩:=G6 z;rw[G7]at hj;rw[V4]at ej;have:=Cw hn (i:=j) (j:=k) A6 hkl A6;rw[B7,B6 (show j<ord.length by omega)]at this;~this ej
   rw[e]at hf;have:(El (fB (f2 ak (aD 2) (fC (.int (0))))) (fB (f2 (Ib NU) (aD 2) (aD 1)))) (rE [.fro (bJ (aU P R cO aQ)),.own (.dk ((ord.take k).map G2) ((ord.take k).map λ_=>D.bl NU)),.own (.int (ord.getD k 0))])=NR NU:=by
    &(jl (cB (b:=NU) ((aJ U U (Dw _ _)).trans ?_))).trans (cB (aJ U U ?_))
    ·rw[decide_eq_false A6];rfl
    ·show (NR _:Option D)=_;rw[Bm hnew];rfl
   rw[this]at hf;cases hf
def pB(m:Nat):List Int:=(D5 (m-1)).map λi:Nat=>(1:Int)+(i:Int)
B5 aDJ{P R:Nat}{cO:List Nd}{aQ ord:List Int}(hP:0<P)(hP8:P≤8)(hR:0<R)(hR8:R≤8)(hc:Chain cO ord)(hb:∀x∈ord,1≤x∧x<(P*R:Nat))(hn:ord.Nodup)(hl:ord.length≤64) :
    rF [bJ (aU P R cO aQ)]=NR (aN ((pB (P*R)).filter λi=>!decide (i∈ord))):=by
  have aDK:P*R≤8*8:=Q6 hP8 hR8;have hm0:0<P*R:=T2 hP hR;have hstr:=Ng (aQ:=aQ) hP hP8 hR hc hb hn hl;have ZD:lN [bJ (aU P R cO aQ)]=NR OQ:=by
    &lW U ?_;B4 Gq;apply gB;have hls:=xV (aU P R cO aQ);rw[pI]at hls;have h0:(aU P R cO aQ)[0]?=NR _:=tX (p:=0) hP;have hix:cW (bJ (aU P R cO aQ)) (.int 0)=NR (eN _):=xU (k:=0) h0;have hlp:=rQ (((D5 R).map λr=>cO.getD (0+P*r) [])++[[aQ.getD 0 0]]);rw[Kh (D6 h0)]at hlp;rw[U1];have e:(R:Int)=((R+1:Nat):Int)-1:=by omega
    rw[e];~aJ (cV (aA U U) hls) (aJ (cV (aA (aJ U U hix) U) hlp) U (lX _ _)) (gC (Ep A6 A6))
  suffices h:∃d,rF [bJ (aU P R cO aQ)]=NR d∧d=aN ((pB (P*R)).filter λi=>!decide (i∈ord)) by B3⟨d,h1,rfl⟩:=h;~h1
  &oM U ?_;B4 Nx
  walk_at "q"
  generalize P*R=m at *;have e:jL (0+1) ((m:Int)-(0+1)).toNat=(pB m).map D.int:=by B4 jL pB;rw[M4,show ((m:Int)-(0+1)).toNat=m-1 by omega];rfl
  &pL (d:=aN ((pB m).filter λi=>!decide (i∈ord))) ?_ ⟨_,U,U⟩;&(Bk (ys:=((jL (0+1) ((m:Int)-(0+1)).toNat).filter λd=>match d with | .int i=>!decide (i∈ord) | _=>NV).map id) (aC6 (i:=0+1) (j:=m) (aA (aJ U U (bZ _ _)) (aA (bM (aA U U) U ZD) U)) A8 A8 A6 A6) (by rw[yQ];omega) ?_).trans ?_
  · &Je (p:=λd=>match d with | .int i=>!decide (i∈ord) | _=>NV) (φ:=id) ?_ ?_
    · intro x hx
      B3⟨k,hk,rfl⟩:=Gi hx;~cB (aJ U U (VH NU _ ord))
    · intro x hx _
      B3⟨k,hk,rfl⟩:=Gi hx;~bD U U
  · rw[List.map_id,e,x6]
    rfl
B5 qm{i a b:Nat}{f f' g:FE}{env:EN}{s:List OR}{q:List Nd}{t:List Int}(h1:env[i]?=NR (.own (bJ s)))(h2:g (rE env)=NR (.int (a:Int)))(h3:f (rE env)=NR (.int (b:Int)))(h4:f' (rE env)=NR (dTup t))(h5:s[a]?=NR q)(h6:b<q.length) :
  wU i (EY dC g) f f' env=.next (env.set i (.own (bJ (s.set a (q.set b t))))):=by
 have hk:(s.map eN)[a]?=NR (eN q):=by rw[C5,h5];rfl
 have hp:EY dC g (rE env)=NR [.ix a]:=by B4 EY dC;rw[C4,h2,C4];dsimp only;rw[if_pos A6,C7];rfl
 have hget:gJ [.ix a] (bJ s)=NR (.lst (q.map dTup)):=by show ((s.map eN)[a]?).bind (gJ [])=_;rw[hk];rfl
 have aMi:∀d:List D,fO [.ix a] (bJ s) (.lst d)=.lst ((s.map eN).set a (.lst d)):=λd=>by show (match (s.map eN)[a]? with | some c=>_ | none=>_)=_;rw[hk];rfl
 have hix:ZW (q.map dTup).length (b:Int)=NR b:=by B4 ZW;rw[if_pos A6,if_pos (by rw[B8];omega),C7]
 B4 wU;rw[h1,hp,h3,h4];dsimp only;rw[hget];dsimp only;rw[hix];dsimp only;rw[aMi,←X1];show SR.next (env.set i (.own (.lst ((s.map eN).set a (eN (q.set b t))))))=_;rw[←X1];rfl
B5 aDL(ns:List Int):∃P R:Nat,xF [aN ns]=NR (.tup [.int P,.int R])∧1≤P∧P≤8∧1≤R∧R≤8:=by
 suffices hh:∃d,xF [aN ns]=NR d∧∃P R:Nat,d=.tup [.int P,.int R]∧1≤P∧P≤8∧1≤R∧R≤8 by B3⟨d,e,P,R,rfl,q⟩:=hh;~⟨P,R,e,q⟩
 &oM U ?_;B4 Yv;have hcell:=Ve ns 0;generalize ns.getD 0 0=c at hcell;have aIU:mX [aN ns,.int 0]=NR (.int c):=hcell;&cD (d:=.int c) (bM (aA U (aA U U)) U aIU) A9 ?_;have nn:∀{a m:Int},0<m→m≤8→∃P:Nat,1+a%m=(P:Int)∧1≤P∧P≤8:=λ{a m} h h2=>by have h0:=F2 a (show m≠0 by omega);have h1:=G0 a h;~⟨(1+a%m).toNat,by omega,by omega,by omega⟩
 &GQ (cB (aJ (aJ (aJ U U (fD A8 A8)) U (bI A8)) U (kZ _ _))) (λ_=>?_) λ_=>yS ?_
 ·B3⟨P,e1,p1,p2⟩:=nn (a:=c) (m:=8) A8 A8;B3⟨R,e2,r1,r2⟩:=nn (a:=c/240) (m:=8) A8 A8;~VF ((pF (aA (aJ U (aJ U U (bI A8)) (bZ _ _)) (aA (aJ U (aJ (aJ U U (fD A8 A8)) U (bI A8)) (bZ _ _)) U)) A9).trans (by rw[e1,e2])) ⟨_,U,P,R,U,p1,p2,r1,r2⟩
 ·B3⟨P,e1,p1,p2⟩:=nn (a:=c) (m:=5) A8 A8;B3⟨R,e2,r1,r2⟩:=nn (a:=c/5) (m:=6) A8 A8;~pL ((pF (aA (aJ U (aJ U U (bI A8)) (bZ _ _)) (aA (aJ U (aJ (aJ U U (fD A8 A8)) U (bI A8)) (bZ _ _)) U)) A9).trans (by rw[e1,e2])) ⟨_,U,P,R,U,p1,p2,r1,r2⟩
B5 Cy(c:Int){k:Int}(h0:0≤k)(h1:k≤100000):∃m:Int,mD [.int c,.int k]=NR (.int m)∧0≤m∧m<2147483587:=by
 suffices hh:∃d,mD [.int c,.int k]=NR d∧∃m:Int,d=.int m∧0≤m∧m<2147483587 by B3⟨d,e,m,rfl,q⟩:=hh;~⟨m,e,q⟩
 &oM U ?_;B4 Yw;have a0:=F2 c (show (2147483629:Int)≠0 by decide);have a1:=G0 c (show (0:Int)<2147483629 by decide);&cD (aJ (aJ (aJ (aJ U U (bI A8)) U (bZ _ _)) (aJ U (aJ (aJ U U (gC (Ep A8 A8))) U (gC (Ep A6 A6))) (bZ _ _)) (gC (Ep A6 A6))) U (bI A8)) A9 ?_;generalize hn:(c%2147483629+1)*(48271+2*k*k)%2147483629=n;have n0:0≤n:=by rw[←hn];~F2 _ A8
 have n1:n<2147483629:=by rw[←hn];~G0 _ A8
 ~pL (aJ (aJ U U (gC (Ep A6 A6))) U (bI A8)) ⟨_,U,_,U,F2 _ A8,G0 _ A8⟩
def Kq(m:Nat)(r:List Int):Prop:=∃key f was now gF:Int,r=[key,f,was,now,gF]∧0≤f∧f<(m:Int)∧-1≤was∧-1≤now∧0≤gF
B5 Kq.five{m:Nat}{r:List Int}(h:Kq m r):r.length=5:=by B3⟨_,_,_,_,_,rfl,_⟩:=h;rfl
def qp(r:List Int):Prop:=r.getD 4 0=0→0≤r.getD 3 0
B5 Vh(c:Int){k:Int}(key f:Int)(h0:0≤k)(h1:k≤1000):∃a b e:Int,qO [.int c,.int k,.int key,.int f]=NR (dTup [key,f,a,b,e])∧-1≤a∧-1≤b∧0≤e∧(e=0→0≤b):=by
 suffices hh:∃d,qO [.int c,.int k,.int key,.int f]=NR d∧∃a b e:Int,d=dTup [key,f,a,b,e]∧-1≤a∧-1≤b∧0≤e∧(e=0→0≤b) by B3⟨d,q,a,b,e,rfl,w⟩:=hh;~⟨a,b,e,q,w⟩
 &oM U ?_;B4 Ue;B3⟨p,hp,p0,p1⟩:=Cy c (k:=5*k) A6 A6;B3⟨m,hm,m0,m1⟩:=Cy c (k:=5*k+1) A6 A6;have pick:∀(l:List Int)(k:Int),0≤k→k<(l.length:Int)→∃y,cW (aN l) (.int k)=NR (.int y)∧y∈l:=λl k a b=>⟨_,jX a b,getD_mem A6⟩
 B3⟨now,aIV,aMj⟩:=pick [0,1,2,m*10 ^ (40:Int).toNat,-1] (p%5) (F2 _ A8) (G0 _ A8);B3⟨was,aMk,aMl⟩:=pick [-1,0,5,p] (p/90%4) (F2 _ A8) (G0 _ A8);have q40:0≤m*10 ^ (40:Int).toNat:=j5 m0 (M3 (Q5 A8));have aMm:-1≤now:=by generalize m*10 ^ (40:Int).toNat=q at *;simp only[B9,N5,or_false]at aMj;omega
 have aMn:-1≤was:=by simp only[B9,N5,or_false]at aMl;omega
 &cD (d:=.int p) (bM (aA U (aA (aJ U U (gC (Ep A8 A8))) U)) U hp) A9 ?_;&cD (d:=.int now) (bD (aJ (iD (aA U (aA U (aA U (aA (aJ (bM (aA U (aA (aJ (aJ U U (gC (Ep A8 A8))) U (bZ _ _)) U)) U hm) (aJ U U (pA ⟨by decide,by decide,by decide⟩)) (gC (Ep A6 A6))) (aA (qC U) U))))) A9) (aJ U U (bI A8)) aIV) U) A9 ?_;&cD (d:=.int 0) U A9 ?_;have fin:∀gF:Int,0≤gF→Qs (λr=>∃d,r=.ret d∧∃a b e:Int,d=dTup [key,f,a,b,e]∧-1≤a∧-1≤b∧0≤e∧(e=0→0≤b)) (aY (qU (fB (f2 Fv (aD 6) Nw)) (cT 5 (fL aFy (aB (aD 5) aL))) fM) (eY OO) [.fro (.int c),.fro (.int k),.fro (.int key),.fro (.int f),.own (.int p),.own (.int now),.own (.int gF)]):=λgF aMo=>by
  have last:∀b:Int,-1≤b→(gF=0→0≤b)→Qs (λr=>∃d,r=.ret d∧∃a b e:Int,d=dTup [key,f,a,b,e]∧-1≤a∧-1≤b∧0≤e∧(e=0→0≤b)) (eY OO [.fro (.int c),.fro (.int k),.fro (.int key),.fro (.int f),.own (.int p),.own (.int b),.own (.int gF)]):=λb hb1 hb2=>pL (pF (aA (bD U U) (aA (bD U U) (aA (bD (aJ (iD (aA (qC U) (aA U (aA U (aA U U)))) A9) (aJ (aJ U U (fD A8 A8)) U (bI A8)) aMk) U) (aA (bD U U) (aA (bD U U) U))))) A9) ⟨_,U,_,_,_,U,aMn,hb1,aMo,hb2⟩;&GQ (cB (aJ U U (kZ _ _))) (λ_=>?_) λz=>yS (last now aMm λy=>absurd y (of_decide_eq_false z));have ab:0≤(if now<0 then -now else now):=by split<;>omega
  ~aDc (yO (d:=.int (if now<0 then -now else now)) (cV (aA U U) U) A9) (last _ A6 λ_=>ab)
 &GQ (cB (aJ (aJ (aJ U U (fD A8 A8)) U (bI A8)) U (kZ _ _))) (λ_=>?_) λ_=>yS (fin 0 A8);~aDc (yO (aJ U (aJ (aJ U U (fD A8 A8)) U (bI A8)) (bZ _ _)) A9) (fin _ (by have:=F2 (p/10) (show (9:Int)≠0 by decide);omega))
def Eu(P R:Nat)(rs:List Nd):List OR:=(D5 P).map λp=>(D5 R).map λr=>rs.getD (p+P*r) []
B5 Nh{P R:Nat}{rs:List Nd}{p:Nat}(h:p<P):(Eu P R rs)[p]?=NR ((D5 R).map λr=>rs.getD (p+P*r) []):=by B4 Eu;rw[C5,I0 h];rfl
B5 aDM{P x:Nat}{p r:Nat}(hp:p<P)(h:p+P*r=x):x%P=p∧x/P=r:=by subst h;~⟨by rw[Z5,t9 hp],by rw[j7 _ _ A6,u3 hp,N6]⟩
B5 aDN{P R x:Nat}{rs:List Nd}{t:List Int}(hP:0<P)(h:x<P*R)(hl:rs.length=P*R):(Eu P R rs).set (x%P) (((D5 R).map λr=>rs.getD (x%P+P*r) []).set (x/P) t)=Eu P R (rs.set x t):=by
 have a:=R8 x hP;have b:x/P<R:=T0 h;apply K5;intro p;rw[G8,show (Eu P R rs).length=P by B4 Eu;rw[B8,E1]];by_cases hp:p<P
 ·rw[Nh hp,Nh hp];by_cases e:x%P=p
  ·rw[if_pos e,if_pos a];congr 1;apply K5;intro r;rw[G8,B8,E1,C5,C5];by_cases hr:r<R
   ·rw[I0 hr,J3,J3,lZ _ _ _ _ _ A6];by_cases e2:x/P=r
    ·rw[if_pos e2,if_pos b,if_pos (by rw[←e,←e2];~(X4 x P).symm)]
    ·rw[if_neg e2,if_neg λz=>e2 (aDM hp z.symm).2,e]
   ·rw[D9 (by rw[E1];omega)];rw[if_neg A6];rfl
  ·rw[if_neg e];congr 1;apply T5;intro r hr;have:=KR hp (F7.mp hr);rw[lZ _ _ _ _ _ A6,if_neg λz=>e (aDM hp z.symm).1]
 ·rw[if_neg A6];B4 Eu;rw[C5,C5,D9 (by rw[E1];omega)];rfl
B5 ZF{i P R x:Nat}{f f' g:FE}{env:EN}{rs:List Nd}{t:List Int}(hP:0<P)(h:x<P*R)(hl:rs.length=P*R)(h1:env[i]?=NR (.own (bJ (Eu P R rs))))(h2:g (rE env)=NR (.int ((x:Int)%(P:Int))))(h3:f (rE env)=NR (.int ((x:Int)/(P:Int))))(h4:f' (rE env)=NR (dTup t)) :
  wU i (EY dC g) f f' env=.next (env.set i (.own (bJ (Eu P R (rs.set x t))))):=by
 rw[←b8]at h2;rw[←b9]at h3;rw[qm (a:=x%P) (b:=x/P) h1 h2 h3 h4 (Nh (R8 x hP)) (by rw[B8,E1];~T0 h),aDN hP h hl]
structure Built(P R:Nat)(rs:List Nd)(od:List Int):Prop where
 p1:1≤P
 p8:P≤8
 r1:1≤R
 r8:R≤8
 len:rs.length=P*R
 five:∀k,k<P*R→(rs.getD k []).length=5
 Oc:od.Nodup
 sV:∀x∈od,1≤x∧x<(P*R:Nat)
 chain:Chain rs od
 key:od.Pairwise λx y=>(rs.getD x.toNat []).getD 0 0<(rs.getD y.toNat []).getD 0 0
structure Cz(P R:Nat)(rs:List Nd)(aQ od:List Int):Prop where
 b:Built P R rs od
 rec_:∀k,k<P*R→Kq (P*R) (rs.getD k [])
 snd:∀x∈od,qp (rs.getD x.toNat [])
 sel:∀p,p<P→0≤aQ.getD p 0
B5 aDO{ns:List Int}:∃(P R:Nat)(rs:List Nd)(aQ od:List Int),xH [aN ns]=NR (bJ OF)∧Cz P R rs aQ od:=by
 suffices hh:∃d,xH [aN ns]=NR d∧∃(P R:Nat)(rs:List Nd)(aQ od:List Int),d=bJ OF∧Cz P R rs aQ od by B3⟨d,e,P,R,rs,aQ,od,rfl,q⟩:=hh;~⟨P,R,rs,aQ,od,e,q⟩
 &oM U ?_;B4 Yx;B3⟨P,R,hsz,p1,p8,r1,r8⟩:=aDL ns;have hm0:0<P*R:=T2 p1 r1;have aDK:P*R≤8*8:=Q6 p8 r8;have hPR:((P:Int)*(R:Int))=((P*R:Nat):Int):=(U1 P R).symm;generalize hM:P*R=M at *;have hP0:(0:Int)<P:=by omega
 have hP9:(P:Int)<1073741824:=by omega
 have hmul:∀{env:EN},(rE env)[1]?=NR (NR (.int (P:Int)))→(rE env)[2]?=NR (NR (.int (R:Int)))→f2 sZ (aD 1) (aD 2) (rE env)=NR (.int (M:Int)):=λh1 h2=>(aJ (nJ h1) (nJ h2) (gC (Ep A6 A6))).trans (by rw[hPR]);&aKw (ds:=[.int P,.int R]) (bM (aA U U) U hsz) U U ?_;have hsp:fL Jc (aB OA (aB (f2 sZ (aD 1) (aD 2)) aL)) (rE (pX ([aN ns].map SD.fro++E9 (11-1) SD.no) [1,2] [.int P,.int R]))=NR (aN (pB M)):=by&(cV (aA U (aA (hmul U U) U)) (show Jc [.int 1,.int (M:Int)]=NR _ from if_pos ⟨by decide,by decide,by omega,by omega⟩)).trans ?_;B4 aN pB;rw[M4,show ((M:Int)-1).toNat=M-1 by omega];rfl
 &cD hsp A9 ?_;&cD (d:=aN [0]) U A9 ?_;have hc1:mX [aN ns,.int 1]=NR (.int (ns.getD 1 0)):=Ve ns 1;have hc2:mX [aN ns,.int 2]=NR (.int (ns.getD 2 0)):=Ve ns 2;generalize ns.getD 1 0=c1 at hc1;generalize ns.getD 2 0=c at hc2;have b0:=F2 c1 (show (M:Int)≠0 by omega);have b1:=G0 c1 (show 0<(M:Int) by omega);&GR (n:=(c1%(M:Int)).toNat) (λk env=>∃(sp bs:List Int)(v:SD),env=[.fro (aN ns),.own (.int P),.own (.int R),.own (aN sp),.own (aN (0::bs)),v,.no,.no,.no,.no,.no]∧bs.length=k∧(bs++sp).Perm (pB M)) (UL (aA (aJ (bM (aA U (aA U U)) U hc1) (hmul U U) (bI A6)) U) A6 A6) ⟨pB M,[],_,U,U,U8 _⟩ ?_ ?_
 ·rintro k env hk ⟨sp,bs,v,rfl,hb,hp⟩;&⟨by walk_at "lt", ?_⟩;have hlen:=hp.length_eq;rw[D1,hb,show (pB M).length=M-1 by B4 pB;rw[B8,E1]]at hlen;B3⟨m,hm,_,_⟩:=Cy c1 (k:=(k:Int)) A6 A6;have i0:=F2 m (show (sp.length:Int)≠0 by omega);have i1:=G0 m (show 0<(sp.length:Int) by omega);&⟨_,GP (ns:=0::bs) (ms:=sp) (k:=m%(sp.length:Int)) U U (aJ (bM (aA (bM (aA U (aA U U)) U hc1) (aA U U)) U hm) (cV (aA U U) (qN _)) (bI A6)) A8 (by simp;omega) A6 i0 i1,sp.eraseIdx (m%(sp.length:Int)).toNat,bs++[sp.getD (m%(sp.length:Int)).toNat 0],_,U,by rw[D1,hb];rfl,?_⟩;rw[P9];~(i6 bs (Tw sp _ 0 A6)).trans hp
 rintro env ⟨sp,bs,v5,rfl,hb,hp⟩;have hnd:(bs++sp).Nodup:=hp.nodup_iff.mpr (by
  B4 pB;&p5 _ (λa b (h:a≠b)=>by omega) u4)
 have hmem:∀x,x∈bs++sp→1≤x∧x<(M:Int):=λx hx=>by have:=hp.mem_iff.mp hx;B4 pB at this;B3⟨i,hi,rfl⟩:=J4.mp this;have:=F7.mp hi;omega
 have hbn:=(Q1.mp hnd).1;have hbm:∀x∈bs,1≤x∧x<(M:Int):=λx hx=>hmem x (F5 _ hx);have hsm:∀x∈sp,1≤x∧x<(M:Int):=λx hx=>hmem x (E5 _ hx);have aOA:sp.length≤M:=by have:=hp.length_eq;rw[D1,show (pB M).length=M-1 by B4 pB;rw[B8,E1]]at this;omega
 have hbl:bs.length<M:=by omega
 generalize aIW:E9 M ([0,0,-1,-1,0]:List Int)=rs0;have hl0:rs0.length=M:=by rw[←aIW,P7]
 have aKI:eE (rA OV) [2] gP (eE (rA OV) [] gP (wO (aB Nw (aB Nw (aB (yM OA) (aB (yM OA) (aB Nw aL))))))) (rE [.fro (aN ns),.own (.int P),.own (.int R),.own (aN sp),.own (aN (0::bs)),v5,.no,.no,.no,.no,.no])=NR (bJ (Eu P R rs0)):=by
  &(yV (n:=P) (φ:=λp=>eN ((D5 R).map λr=>rs0.getD (p+P*r) [])) (yU (aA U U) A6) A6 λp hp=>?_).trans ?_
  ·&(yV (n:=R) (φ:=λr=>dTup (rs0.getD (p+P*r) [])) (yU (aA U U) A6) A6 λr hr=>?_).trans ?_
   ·have:=KR hp hr;rw[←aIW,B7,O7,if_pos A6];~pF (aA U (aA U (aA (qC U) (aA (qC U) (aA U U))))) A9
   ·B4 eN;rw[M4];rfl
  ·show _=NR (D.lst ((Eu P R rs0).map eN));B4 Eu;rw[M4];rfl
 &cD aKI A9 ?_;&cD (d:=.int c) (bM (aA U (aA U U)) U hc2) A9 ?_;have p9:(0:Int)<10 ^ (9:Int).toNat:=Q5 A8;have p58:(0:Int)<10 ^ (58:Int).toNat:=Q5 A8;have hpw:∀n:Int,0≤n→n<100→Ek (.int 10) (.int n)=NR (.int (10 ^ n.toNat)):=λn a b=>pA ⟨a,by omega,by omega⟩;have f5:∀{l:List Nd} {x:Nat} {t:List Int},l.length=M→x<M→Kq M t→(∀k,k<M→Kq M (l.getD k []))→∀k,k<M→Kq M ((l.set x t).getD k []):=λ{l x t} h1 h2 h3 h4 k hk=>by
  rw[lZ _ _ _ _ _ A6];split
  ·~h3
  ·~h4 k hk
 &yh (xs:=sp.map D.int) (λk env=>∃(rs:List Nd)(v:SD),env=[.fro (aN ns),.own (.int P),.own (.int R),.fro (aN sp),.own (aN (0::bs)),v5,.own (bJ (Eu P R rs)),.own (.int c),v,.no,.no]∧rs.length=M∧∀k,k<M→Kq M (rs.getD k [])) U (gD U) ⟨rs0,_,U,hl0,λk hk=>by rw[←aIW,B7,O7,if_pos hk];~⟨0,0,-1,-1,0,U,by decide,by omega,by decide,by decide,by decide⟩⟩ ?_ ?_
 ·rintro k x env hx ⟨rs,v,rfl,hl,h5⟩;&⟨by walk_at "lt", ?_⟩;rw[C5]at hx;B3⟨y,hy,rfl⟩:=kJ hx;have ym:=hsm y (D6 hy);have yy0:=F2 (y*y) (show (M:Int)≠0 by omega);have yy1:=G0 (y*y) (show 0<(M:Int) by omega);B3⟨a,b,e,hrec,ra,rb,re,_⟩:=Vh c (k:=y) (c%10 ^ (9:Int).toNat) (y*y%(M:Int)) A6 A6;have ye:((y.toNat:Nat):Int)=y:=by omega
  &⟨_,ZF (x:=y.toNat) (t:=[c%10 ^ (9:Int).toNat,y*y%(M:Int),a,b,e]) p1 (by rw[hM];omega) (by rw[hM];~hl) U (by rw[ye];~aJ U U (bI hP0)) (by rw[ye];~aJ U U (fD hP0 hP9)) (bM (aA U (aA U (aA (aJ U (aJ U U (hpw 9 A8 A8)) (bI p9)) (aA (aJ (aJ U U (gC (Ep A6 A6))) (hmul U U) (bI A6)) U)))) U hrec),_,_,U,by rw[J5];~hl,f5 hl A6 ⟨_,_,_,_,_,U,yy0,yy1,ra,rb,re⟩ h5⟩
 rintro env ⟨rs1,v8,rfl,hl1,h51⟩;&cD (d:=.int (c%10 ^ (58:Int).toNat)) (aJ U (aJ U U (hpw 58 A8 A8)) (bI p58)) A9 ?_;have hb0:∀i,i<bs.length+1→0≤(0::bs).getD i 0∧(0::bs).getD i 0<(M:Int):=λi hi=>by
  have:=getD_mem (l:=0::bs) (k:=i) (by simp;omega);rcases B9.mp this with z | z
  ·rw[z];omega
  ·have:=hbm _ z;omega
 have aIX:(0::bs).Nodup:=F1.mpr ⟨λz=>by have:=hbm 0 z;omega,hbn⟩;&GR (n:=bs.length+1) (λk env=>∃(rs:List Nd)(key:Int)(v5 v8:SD),env=[.fro (aN ns),.own (.int P),.own (.int R),.fro (aN sp),.own (aN (0::bs)),v5,.own (bJ (Eu P R rs)),.own (.int c),v8,.own (.int key),.no]∧rs.length=M∧(∀k,k<M→Kq M (rs.getD k [])) ∧
   (∀i,i<k→∃y was now gF:Int,rs[((0::bs).getD i 0).toNat]?=NR [y,(bs++[0]).getD i 0,was,now,gF]∧y<key∧(gF=0→0≤now))∧(∀i j,i<j→j<k→(rs.getD ((0::bs).getD i 0).toNat []).getD 0 0<(rs.getD ((0::bs).getD j 0).toNat []).getD 0 0)) (yU (aA ((cV (aA U U) (qN _)).trans U) U) A6) ⟨rs1,_,_,_,U,hl1,h51,λi hi=>absurd hi (J9 _),λi j _ hj=>absurd hj (J9 _)⟩ ?_ ?_
 ·rintro k env hk ⟨rs,key,w5,w8,rfl,hl,h5,hch,hke⟩;&⟨by walk_at "lt", ?_⟩;B3⟨x0,x1⟩:=hb0 k hk;generalize hx:(0::bs).getD k 0=x at *;have xe:((x.toNat:Nat):Int)=x:=by omega
  have ix:cW (aN (0::bs)) (.int (k:Int))=NR (.int x):=(jX A6 (by simp;omega)).trans (by rw[C7,hx]);have ixn:cW (aN ((0::bs)++[0])) (.int ((k:Int)+1))=NR (.int ((bs++[0]).getD k 0)):=(jX A6 (by simp;omega)).trans (by rw[show ((k:Int)+1).toNat=k+1 by omega];rfl);have ZG:0≤(bs++[0]).getD k 0∧(bs++[0]).getD k 0<(M:Int):=by
   have:=getD_mem (l:=bs++[0]) (k:=k) (by simp;omega);rcases F8.mp this with z | z
   ·have:=hbm _ z;omega
   ·have:=D2.mp z;omega
  B3⟨a,b,e,hrec,ra,rb,re,rn⟩:=Vh c (k:=(k:Int)+100) key ((bs++[0]).getD k 0) A6 A6;B3⟨m,hm,m0,m1⟩:=Cy c (k:=(k:Int)+7) A6 A6;&cD (d:=.int x) (bD (aJ U U ix) U) A9 ?_;&aDc (ZF (x:=x.toNat) (t:=[key,(bs++[0]).getD k 0,a,b,e]) p1 (by rw[hM];omega) (by rw[hM];~hl) U (by rw[xe];~aJ U U (bI hP0)) (by rw[xe];~aJ U U (fD hP0 hP9)) (bM (aA U (aA (aJ U U (bZ _ _)) (aA U (aA (aJ (aJ U (iD (aA U U) A9) (yW (0::bs) [0] (by simp;omega))) (aJ U U (bZ _ _)) ixn) U)))) U hrec)) ?_;have c20:=F2 c (show (2:Int)≠0 by decide);have c21:=G0 c (show (0:Int)<2 by decide);have pos:∃z:Int,0≤z∧cW (aN [1,10 ^ (40:Int).toNat]) (.int (c%2))=NR (.int z):=by
   rcases(show c%2=0∨c%2=1 by omega)with z | z
   ·~⟨1,by decide,by rw[z];rfl⟩
   ·~⟨10 ^ (40:Int).toNat,M3 (Q5 A8),by rw[z];rfl⟩
  B3⟨z,z0,hz⟩:=pos;have mm:=F2 m (show (3:Int)≠0 by decide);have mm1:=G0 m (show (0:Int)<3 by decide);have hst:0≤m%3*z:=j5 mm z0;&jo (d:=.int (key+1+m%3*z)) (aJ (aJ U U (bZ _ _)) (aJ (aJ (bM (aA U (aA (aJ U U (bZ _ _)) U)) U hm) U (bI A8)) (aJ (iD (aA U (aA (aJ U U (hpw 40 A8 A8)) U)) A9) (aJ U U (bI A8)) hz) (gC (Ep A6 A6))) (bZ _ _)) A9 ⟨_,U,_,_,_,_,U,by rw[J5];~hl,f5 hl A6 ⟨_,_,_,_,_,U,ZG.1,ZG.2,ra,rb,re⟩ h5,?_,?_⟩
  ·intro i hi;rcases G4 i k with q | q
   ·B3⟨y,was,now,gF,h1,h2,h3⟩:=hch i q;have hi0:=hb0 i A6;have ne:(0::bs).getD i 0≠x:=by rw[←hx];~Cw aIX (by simp;omega) (by simp;omega) A6
    ~⟨y,was,now,gF,by rw[W5 A6];~h1,by omega,h3⟩
   ·have:i=k:=by omega
    subst this;rw[hx];~⟨key,a,b,e,by rw[K0 A6],by omega,rn⟩
  ·intro i j hij hj;have hi0:=hb0 i A6;have nei:(0::bs).getD i 0≠x:=by rw[←hx];~Cw aIX (by simp;omega) (by simp;omega) A6
   rw[lZ _ _ _ _ _ A6,if_neg A6];rcases G4 j k with q | q
   ·have hj0:=hb0 j A6;have nej:(0::bs).getD j 0≠x:=by rw[←hx];~Cw aIX (by simp;omega) (by simp;omega) A6
    rw[lZ _ _ _ _ _ A6,if_neg A6];~hke i j hij q
   ·have:j=k:=by omega
    subst this;rw[hx,lZ _ _ _ _ _ A6,if_pos rfl];B3⟨y,was,now,gF,h1,h2,_⟩:=hch i hij;rw[dY h1];~h2
 rintro env ⟨rs,key,w5,w8,rfl,hl,h5,hch,hke⟩;&GR (n:=P) (λk env=>∃(se:List Int)(v:SD),env=[.fro (aN ns),.own (.int P),.own (.int R),.fro (aN sp),.own (aN (0::bs)),w5,.own (bJ ((D5 P).map λp=>((D5 R).map λr=>rs.getD (p+P*r) [])++(if p<k then [[se.getD p 0]]else []))),.own (.int c),w8,.own (.int key),v]∧se.length=k∧∀x∈se,0≤x) (yU (aA U U) A6) ⟨[],_,by
   have:(D5 P).map (λp=>((D5 R).map λr=>rs.getD (p+P*r) [])++(if p<0 then [[([]:List Int).getD p 0]]else []))=Eu P R rs:=by B4 Eu;apply T5;intro p _;rw[if_neg (J9 _),F0]
   rw[this],U,λx hx=>by cases hx⟩ ?_ ?_
 ·rintro k env hk ⟨se,v,rfl,hse,hs0⟩;&⟨by walk_at "lt", ?_⟩;B3⟨m,hm,mm0,_⟩:=Cy c (k:=(k:Int)+70) A6 A6;generalize hS:((D5 P).map λp=>((D5 R).map λr=>rs.getD (p+P*r) [])++(if p<k then [[se.getD p 0]]else []))=S;have hk2:S[k]?=NR ((D5 R).map λr=>rs.getD (k+P*r) []):=by rw[←hS,C5,I0 hk,J3,if_neg (L9 _),F0]
  have hgp:gJ [.ix k] (bJ S)=NR (.lst (((D5 R).map λr=>rs.getD (k+P*r) []).map dTup)):=JX (by rw[C5,hk2];rfl);&⟨_,Lr (p:=[.ix k]) (d:=dTup [m%10]) U (by
   show EY dC (aD 10) _=_;rw[mz (k:=(k:Int)) U U A6,C7]
   rfl) hgp (pF (aA (aJ (bM (aA U (aA (aJ U U (bZ _ _)) U)) U hm) U (bI A8)) U) A9) (by rw[B8,B8,E1];omega),se++[m%10],.fro (.int k),?_,by rw[D1,hse];rfl,λx hx=>by
   rcases F8.mp hx with z | z
   ·~hs0 x z
   ·rw[D2.mp z];~F2 _ A8⟩
  rw[show fO [.ix k] (bJ S) (.lst (((D5 R).map λr=>rs.getD (k+P*r) []).map dTup++[dTup [m%10]]))=bJ ((D5 P).map λp=>((D5 R).map λr=>rs.getD (p+P*r) [])++(if p<k+1 then [[(se++[m%10]).getD p 0]]else []))from ?_]
  ·rfl
  &(JZ (y:=eN _) (by rw[C5,hk2];rfl)).trans ?_;&congrArg D.lst (?_:(S.map eN).set k _=_);apply K5;intro p;rw[G8,B8,←hS,B8,E1,C5,C5,C5,C5];by_cases hp:p<P
  ·rw[I0 hp];by_cases e:k=p
   ·subst e;rw[if_pos U,if_pos hp,J3,J3,if_pos A6,B7,J7 A6,hse,S5];B4 eN;rw[J6];rfl
   ·rw[if_neg e,J3,J3,J3,J3];by_cases q:p<k
    ·rw[if_pos q,if_pos A6,B7,B7,F9 A6]
    ·rw[if_neg q,if_neg A6]
  ·rw[if_neg A6,D9 (by rw[E1];omega)];rfl
 rintro env ⟨se,v,rfl,hse,hs0⟩;&aDf U ⟨_,U,P,R,rs,se,bs,?_,⟨⟨p1,p8,r1,r8,by rw[hM];~hl,by rw[hM];~λk hk=>(h5 k hk).five,hbn,by rw[hM];~hbm,?_,?_⟩,by rw[hM];~h5,λx hx=>?_,λp hp=>?_⟩⟩
 ·&congrArg jM ?_;B4 aU;apply T5;intro p hp;rw[if_pos (F7.mp hp)]
 ·intro k hk;B3⟨y,was,now,gF,h1,_⟩:=hch k A6;~⟨y,was,now,gF,h1⟩
 ·rw[J8];intro i j hi hj hij;have:=hke (i+1) (j+1) A6 A6;have ei:(0::bs).getD (i+1) 0=bs[i]:=by rw[T6,B7,B6 hi];rfl
  have ej:(0::bs).getD (j+1) 0=bs[j]:=by rw[T6,B7,B6 hj];rfl
  rw[ei,ej]at this;~this
 ·B3⟨i,hi,ei⟩:=G6 hx;B3⟨y,was,now,gF,h1,_,h3⟩:=hch (i+1) A6;rw[show (0::bs).getD (i+1) 0=x by rw[T6,B7,B6 hi];~ei]at h1;rw[dY h1];~h3
 ·~hs0 _ (getD_mem A6)
B5 zm{P R:Nat}{cO:List Nd}{aQ:List Int}(hP:0<P)(hP8:P≤8):lN [bJ (aU P R cO aQ)]=NR OQ:=by
 &lW U ?_;B4 Gq;apply gB;have hls:=xV (aU P R cO aQ);rw[pI]at hls;have h0:(aU P R cO aQ)[0]?=NR _:=tX (p:=0) hP;have hix:cW (bJ (aU P R cO aQ)) (.int 0)=NR (eN _):=xU (k:=0) h0;have hlp:=rQ (((D5 R).map λr=>cO.getD (0+P*r) [])++[[aQ.getD 0 0]]);rw[Kh (D6 h0)]at hlp;rw[U1];have e:(R:Int)=((R+1:Nat):Int)-1:=by omega
 rw[e];~aJ (cV (aA U U) hls) (aJ (cV (aA (aJ U U hix) U) hlp) U (lX _ _)) (gC (Ep A6 A6))
def Wb.first(P R:Nat)(rs:List Nd)(aQ od:List Int):Wb:=⟨⟨aU P R rs aQ,[],[],[],[]⟩,rs,od,(pB (P*R)).filter λi=>!decide (i∈od),⟨[],[]⟩,⟨[],[]⟩,⟨[],[]⟩⟩
section
variable{P R:Nat}{rs:List Nd}{aQ od:List Int}
B5 Built.ok(h:Built P R rs od):mJ (Wb.first P R rs aQ od):=by
 have aDK:P*R≤8*8:=Q6 h.p8 h.r8;have hm0:0<P*R:=T2 h.p1 h.r1;have hpl:(Wb.first P R rs aQ od).P=P:=pI _ _ _ _;have box:∀k,k<P*R→∃q,OF[k%P]?=NR q∧q[k/P]?=NR (rs.getD k []):=λk hk=>Vf h.p1 hk;have hb:∀k,k<rs.length→k<P*R:=λk hk=>by rw[←h.len];~hk
 &⟨Cq.init (by rw[pI];~h.p8),by rw[hpl];~h.p1,?_,?_,?_,?_,?_,⟨U,C9 _⟩,⟨U,C9 _⟩,⟨U,C9 _⟩,nofun,nofun,h.Oc,?_,?_,?_,h.key,λk hk=>absurd hk (J9 _)⟩
 ·intro k hk;rw[hpl];B3⟨q,q1,q2⟩:=box k (hb k hk);show k/P<((aU P R rs aQ).getD (k%P) []).length;rw[dY q1];~(D4.mp q2).1
 ·show rs.length≤64;rw[h.len];~aDK
 ·show 0<rs.length;rw[h.len];~hm0
 ·intro k hk;rw[hpl];B3⟨q,q1,q2⟩:=box k (hb k hk);&⟨?_,h.five k (hb k hk)⟩;show rs.getD k []=((aU P R rs aQ).getD ((k%P:Nat):Int).toNat []).getD ((k/P:Nat):Int).toNat [];rw[C7,C7,dY q1,dY q2]
 ·intro k hk;rfl
 ·intro x hx;show 1≤x∧x<(rs.length:Int);rw[h.len];~h.sV x hx
 ·&List.Nodup.sublist R3 ?_;B4 pB;~p5 _ (λa b (h:a≠b)=>by omega) u4
 ·intro x;show x∈(pB (P*R)).filter _↔1≤x∧x<(rs.length:Int)∧x∉od;rw[h.len,K3];B4 pB;rw[J4];constructor
  ·rintro⟨⟨i,hi,rfl⟩,z⟩
   have:=F7.mp hi;~⟨by omega,by omega,by simpa using z⟩
  ·rintro⟨z1,z2,z3⟩
   ~⟨⟨(x-1).toNat,F7.mpr A6,by omega⟩,by simpa using z3⟩
B5 Zk{Pr:SR→Prop}{v:V}{C:AF}{nm:List Str}{ds:List D}{x:Str}{f:FE}{g:GS}{d:D}{rest:EN}(h:f (rE (.own (.ins C nm ds)::rest))=NR d)(hx:posK nm x=none)(hl:nm.length<900)(k:Qs Pr (g (.inn v (.ins C (nm++[x]) (ds++[d]))::rest))):Qs Pr (aY (jW 0 (wV C 0 dC x f)) g (.inn v (.ins C nm ds)::rest)):=rC U (uX (p:=[]) U U U h hl hx) U k
B5 aIY{Pr:SR→Prop}{v:V}{C:AF}{nm:List Str}{ds:List D}{x:Str}{f:FE}{d:D}{rest:EN}(h:f (rE (.own (.ins C nm ds)::rest))=NR d)(hx:posK nm x=none)(hl:nm.length<900)(k:Pr (.next (.inn v (.ins C (nm++[x]) (ds++[d]))::rest))):Qs Pr (jW 0 (wV C 0 dC x f) (.inn v (.ins C nm ds)::rest)):=Ua U (uX (p:=[]) U U U h hl hx) U k
variable(κ:Nat→AF)
B5 ZJ(h:Built P R rs od):pP κ [.ins (κ 1) [] [],bJ OF]=NR (.non,lR κ (Wb.first P R rs aQ od)):=by
 &qD U λv=>?_;have aDK:P*R≤8*8:=Q6 h.p8 h.r8;have h64:od.length≤64:=by
  have:=nM (P*R) od h.Oc λx hx=>by have:=h.sV x hx;omega
  omega
 have hl:=pI P R rs aQ;have ZD:=zm (R:=R) (cO:=rs) (aQ:=aQ) h.p1 h.p8;have hbn:uN κ [.ins (κ 0) [] [],bJ OF]=_:=aFN κ (uY:=aU P R rs aQ) (by rw[hl];~h.p8);have hstr:=Ng (aQ:=aQ) h.p1 h.p8 h.r1 h.chain h.sV h.Oc h64;have hlo:=aDJ (aQ:=aQ) h.p1 h.p8 h.r1 h.r8 h.chain h.sV h.Oc h64;have hso:∀k:Nat,yZ [bJ OF,.int (k:Int)]=NR (dTup [((k%P:Nat):Int),((k/P:Nat):Int)]):=λk=>(zj (by rw[hl];~h.p1) (by rw[hl];have:=h.p8;omega)).trans (by rw[hl,b8,b9]);have hwv:lR κ (Wb.first P R rs aQ od)=.ins (κ 1) uZ [dX (κ 0) ⟨aU P R rs aQ,[],[],[],[]⟩,pq P (P*R),aN od,aN ((pB (P*R)).filter λi=>!decide (i∈od)),Ox ⟨[],[]⟩,Ox ⟨[],[]⟩,Ox ⟨[],[]⟩]:=by B4 lR Wb.P Wb.first;dsimp only;rw[hl,h.len]
 rw[hwv];clear hwv;generalize bJ OF=st at *;generalize dX (κ 0) ⟨aU P R rs aQ,[],[],[],[]⟩=bd at *;generalize ((pB (P*R)).filter λi=>!decide (i∈od))=lo at *
 suffices hh:Qs (RQ .non (.ins (κ 1) uZ [bd,pq P (P*R),aN od,aN lo,Ox ⟨[],[]⟩,Ox ⟨[],[]⟩,Ox ⟨[],[]⟩]) v) (Bp κ [.inn v (.ins (κ 1) [] []),.fro st])from hh
 B4 Bp;&Zk (d:=bd) (Ub (aA U U) hbn) U A8 ?_;&Zk (d:=pq P (P*R)) (yV (n:=P*R) (yU (aA (bM (aA U U) U ZD) U) A6) A6 λk hk=>bM (aA U (aA U U)) U (hso k)) A7 A8 ?_;&Zk (d:=aN od) (bM (aA U U) U hstr) A7 A8 ?_;&Zk (d:=aN lo) (bM (aA U U) U hlo) A7 A8 ?_;&Zk (d:=Ox ⟨[],[]⟩) U A7 A8 ?_;&Zk (d:=Ox ⟨[],[]⟩) U A7 A8 ?_;~aIY (d:=Ox ⟨[],[]⟩) U A7 A8 ⟨_,.inr ⟨U,U⟩,U⟩
end
B5 aBr{b:Bn}(h:b.bB.length≤8):rG κ [dX (κ 0) b]=NR (jM b.bB):=nO U (gB (mC (xs:=b.bB) (ψ:=eN) (φ:=eN) (gD (dW U Ed)) A6 λx _=>cV (aA U U) (wX (Tv λd hd=>by
  B3⟨t,_,rfl⟩:=J4.mp hd;~lY t))))
B5 KY(l:List Int):ak (aN l) (.lst [])=NR (.bl (!decide (l=[]))):=VR l []
def setAt(ps:List OR)(c:lH):List OR:=ps.set c.bY.toNat ((ps.getD c.bY.toNat []).set c.place.toNat c.thing)
def lay(st:List OR)(cs:List lH)(l:List Int):List OR:=l.foldl (λps k=>setAt ps (at_ cs k.toNat)) st
B5 aDP(st:List OR)(cs:List lH)(l:List Int)(k:Int):lay st cs (l++[k])=setAt (lay st cs l) (at_ cs k.toNat):=by B4 lay;rw[V1];rfl
B5 aFW(st:List OR)(cs:List lH)(l m:List Int):lay st cs (l++m)=lay (lay st cs l) cs m:=by B4 lay;rw[V1]
B5 Wt(r:List Int):∀b:Bn,(b.bW r).bB=lay b.bB b.asked r:=by
 induction r with
 | nil=>intro b;rfl
 | cons k r ih=>intro b;~(ih (b.strike k)).trans U
B5 aDQ{st:List OR}{cs:List lH}{c:lH}{l:List Int}(h:∀x∈l,0≤x∧x<(cs.length:Int)):lay st (cs++[c]) l=lay st cs l:=by
 B4 lay
 induction l generalizing st with
 | nil=>rfl
 | cons k l ih=>have hk:=h k C8;rw[x8,x8,gK (show k.toNat<cs.length by omega)];~ih λx hx=>h x (C6 _ hx)
def Shape(a b:List OR):Prop:=a.length=b.length∧∀p:Nat,(a.getD p []).length=(b.getD p []).length
B5 Vi{α:Type}(l:List α)(i j:Nat)(x d:α):(l.set i x).getD j d=if i=j∧i<l.length then x else l.getD j d:=by
 simp only[B7,G8];by_cases c:i=j
 ·rw[if_pos c];by_cases e:i<l.length
  ·rw[if_pos e,if_pos ⟨c,e⟩];rfl
  ·rw[if_neg e,if_neg λz=>e z.2,D9 A6]
 ·rw[if_neg c,if_neg λz=>c z.1]
B5 ZK(ps:List OR)(c:lH):Shape (setAt ps c) ps:=by
 &⟨by B4 setAt;rw[J5],λp=>?_⟩;B4 setAt;rw[Vi];split
 ·rename_i h;rw[J5,h.1]
 ·rfl
B5 Shape.trans{a b c:List OR}(h:Shape a b)(k:Shape b c):Shape a c:=⟨h.1.trans k.1,λp=>(h.2 p).trans (k.2 p)⟩
B5 Eh(cs:List lH)(l:List Int):∀st,Shape (lay st cs l) st:=by
 induction l with
 | nil=>~λst=>⟨U,λ_=>rfl⟩
 | cons k l ih=>~λst=>(ih (setAt st (at_ cs k.toNat))).trans (ZK _ _)
B5 Zm{a b:List OR}(h:Shape a b)(v:∀p q,p<a.length→q<(a.getD p []).length→val a p q=val b p q):a=b:=by
 apply K5;intro p;by_cases hp:p<a.length
 ·have hp':p<b.length:=by rw[←h.1];~hp
  rw[dU (d:=[]) hp,dU (d:=[]) hp'];congr 1;apply K5;intro q;have hq:=h.2 p;by_cases hqa:q<(a.getD p []).length
  ·rw[dU (d:=[]) hqa,dU (d:=[]) A6];~congrArg NR (v p q hp hqa)
  ·rw[D9 A6,D9 A6]
 ·rw[D9 A6,D9 (by have:=h.1;omega)]
def Spot(st:List OR)(c:lH):Prop:=0≤c.bY∧c.bY<(st.length:Int)∧0≤c.place∧c.place<((st.getD c.bY.toNat []).length:Int)
def here(cs:List lH)(p q:Nat)(k:Int):Bool:=decide ((at_ cs k.toNat).bY=(p:Int)∧(at_ cs k.toNat).place=(q:Int))
B5 aBs{ps:List OR}{c:lH}(h:Spot ps c)(p q:Nat):val (setAt ps c) p q=if c.bY=(p:Int)∧c.place=(q:Int)then c.thing else val ps p q:=by
 B3⟨h1,h2,h3,h4⟩:=h;B4 val setAt;rw[Vi];by_cases c1:c.bY.toNat=p
 ·rw[if_pos ⟨c1,by omega⟩,Vi];by_cases c2:c.place.toNat=q
  ·rw[if_pos ⟨c2,by omega⟩,if_pos ⟨by omega,by omega⟩]
  ·rw[if_neg λz=>c2 z.1,if_neg λz=>c2 A6,c1]
 ·rw[if_neg λz=>c1 z.1,if_neg λz=>c1 A6]
B5 Vj{a b:List OR}(h:Shape a b){c:lH}(s:Spot b c):Spot a c:=by B3⟨h1,h2,h3,h4⟩:=s;&⟨h1,by rw[h.1];~h2,h3,by rw[h.2];~h4⟩
B5 snoc_ind{α:Type}{P:List α→Prop}(h0:P [])(hs:∀l a,P l→P (l++[a]))(l:List α):P l:=by
 have:∀m:List α,P m.reverse:=λm=>by
  induction m with
  | nil=>~h0
  | cons a m ih=>rw[o6];~hs _ _ ih
 have h:=this l.reverse;rw[j6]at h;~h
B5 KZ{st:List OR}{cs:List lH}{p q:Nat}:∀(l:List Int),(∀k∈l,Spot st (at_ cs k.toNat))→val (lay st cs l) p q=topOf cs (val st p q) (l.filter (here cs p q)).getLast?:=by
 &snoc_ind ?_ ?_
 ·~λ_=>rfl
 ·intro l k ih h;have ih:=ih λx hx=>h x (F5 _ hx);have hk:=h k (E5 _ (by simp));rw[aDP,aBs (Vj (Eh cs l st) hk),P6];by_cases c:(at_ cs k.toNat).bY=(p:Int)∧(at_ cs k.toNat).place=(q:Int)
  ·rw[if_pos c,O8 (show here cs p q k=NU from decide_eq_true c),N9,S9];rfl
  ·rw[if_neg c,O9 (by B4 here;simpa using c),N9,F0];~ih
def Inc(cs:List lH)(l:List Int):Prop:=∀p q:Nat,(l.filter (here cs p q)).Pairwise (·<·)
B5 aDR{st:List OR}{cs:List lH}{l m:List Int}(hl:Inc cs l)(hm:Inc cs m)(h:∀x,x∈l↔x∈m)(hs:∀k∈l,Spot st (at_ cs k.toNat)):lay st cs l=lay st cs m:=by have a:=Eh cs l st;have b:=Eh cs m st;&Zm ⟨a.1.trans b.1.symm,λp=>(a.2 p).trans (b.2 p).symm⟩ λp q _ _=>?_;rw[KZ l hs,KZ m λk hk=>hs k ((h k).mpr hk)];congr 2;~qT (hl p q) (hm p q) λx=>by rw[K3,K3,h x]
B5 aIZ{cs:List lH}{l:List Int}(h:l.Pairwise (·<·)):Inc cs l:=λp q=>h.sublist R3
def aFX(cs:List lH):Prop:=∀k,k<cs.length→∀j,lastAt (cs.take k) (at_ cs k).bY (at_ cs k).place=NR j→j∈(at_ cs k).needs
B5 Zo{cs:List lH}{p q:Int}:∀(k:Nat),k≤cs.length→∀j:Nat,j<k→(at_ cs j).bY=p→(at_ cs j).place=q→∃m:Int,lastAt (cs.take k) p q=NR m∧(j:Int)≤m∧m<(k:Int)∧(at_ cs m.toNat).bY=p∧(at_ cs m.toNat).place=q
 | 0,_,j,hj,_,_=>absurd hj (J9 _)
 | k+1,hk,j,hj,h1,h2=>by
  have e:cs.take (k+1)=cs.take k++[at_ cs k]:=by rw[Q2,dU (d:=default) (show k<cs.length by omega)];rfl
  rw[e,rP,G7,show min k cs.length=k by omega];by_cases c:(at_ cs k).bY=p∧(at_ cs k).place=q
  ·rw[if_pos c];~⟨k,U,by omega,by omega,by rw[C7];~c.1,by rw[C7];~c.2⟩
  ·rw[if_neg c];have:j≠k:=λz=>c (by rw[←z];~⟨h1,h2⟩);B3⟨m,a1,a2,a3,a4⟩:=Zo k A6 j A6 h1 h2;~⟨m,a1,a2,by omega,a4⟩
def Ni(cs:List lH)(l:List Int):Prop:=∀x∈l,∀m∈(at_ cs x.toNat).needs,m∈l
B5 below{cs:List lH}{l:List Int}(hp:aFX cs)(hc:Ni cs l)(hb:∀x∈l,0≤x∧x<(cs.length:Int)):∀(n x j:Nat),x<n→(x:Int)∈l→j<x→(at_ cs j).bY=(at_ cs x).bY→(at_ cs j).place=(at_ cs x).place→(j:Int)∈l:=by
 intro n
 induction n with
 | zero=>~λx j hx=>absurd hx (J9 _)
 | succ n ih=>
  intro x j hx hxl hj h1 h2;have hxb:=hb _ hxl;B3⟨m,a1,a2,a3,a4,a5⟩:=Zo x (show x≤cs.length by omega) j hj h1 h2;have hm:=hc _ hxl m (by rw[C7];~hp x A6 m a1);B3⟨i,rfl⟩:∃i:Nat,m=i:=⟨m.toNat,by omega⟩
  rw[C7]at a4 a5;by_cases e:i=j
  ·rw[←e];~hm
  ·~ih i j A6 hm A6 (h1.trans a4.symm) (h2.trans a5.symm)
B5 aDS{cs:List lH}{l:List Int}{k:Int}(hp:aFX cs)(hc:Ni cs l)(hb:∀x∈l,0≤x∧x<(cs.length:Int))(hi:Inc cs l)(h0:0≤k)(hn:k∉l):Inc cs (l++[k]):=λp q=>by
 rw[P6];by_cases c:here cs p q k=NU
 ·rw[O8 c,N9];&K6.mpr ⟨hi p q,by simp,λx hx y hy=>?_⟩;rw[D2.mp hy];B3⟨x1,x2⟩:=K3.mp hx;have hxb:=hb x x1;have x2:=of_decide_eq_true x2;have c:=of_decide_eq_true c;&Decidable.byContradiction λz=>?_;B3⟨i,rfl⟩:∃i:Nat,x=i:=⟨x.toNat,by omega⟩
  B3⟨j,rfl⟩:∃j:Nat,k=j:=⟨k.toNat,by omega⟩
  rw[C7]at x2 c;have ne:i≠j:=λe=>hn (by rw[←e];~x1);~hn (below hp hc hb (i+1) i j A6 x1 A6 (c.1.trans x2.1.symm) (c.2.trans x2.2.symm))
 ·rw[O9 c,N9,F0];~hi p q
B5 Og{cs:List lH}{l r:List Int}{p:Int}(hg:Good cs)(hc:Ni cs l)(hR:ni cs l p r)(n:Nat):Ni cs (l++r.take n):=λx hx m hm=>by
 rcases F8.mp hx with z | z
 ·~F5 _ (hc x z m hm)
 ·have hxr:=(hR.2.2 x).mp (L7 z);rcases hxr.2 m hm with y | y
  ·~F5 _ y
  ·&E5 _ ?_;have hlt:=(hg.2 x.toNat A6).1 m hm;B3⟨i,hi,ei⟩:=G6 y;B3⟨j,hj,ej⟩:=G6 z;rw[G7]at hj;rw[V4]at ej;have hij:i<j:=by
    &Decidable.byContradiction λw=>?_;rcases G4 j i with w2 | w2
    ·have:=J8.mp hR.1 j i A6 hi w2;omega
    ·have e:i=j:=by omega
     subst e;rw[ei]at ej;omega
   ~D6 (i:=i) (by rw[U6,if_pos A6,B6 hi,ei])
B5 ZL{cs:List lH}{l r:List Int}{p:Int}(hg:Good cs)(hp:aFX cs)(hc:Ni cs l)(hb:∀x∈l,0≤x∧x<(cs.length:Int))(hi:Inc cs l)(hR:ni cs l p r):∀n,Inc cs (l++r.take n)
  | 0=>by rw[List.take_zero,F0];~hi
  | n+1=>by
    have ih:=ZL hg hp hc hb hi hR n;by_cases hn:n<r.length
    · have e:r.take (n+1)=r.take n++[r[n]]:=by rw[Q2,B6 hn];rfl
      have hx:=(hR.2.2 r[n]).mp (L0 hn);rw[e,←P9];&aDS hp (Og hg hc hR n) (λx hx'=>?_) ih hx.1.1 λz=>?_
      · rcases F8.mp hx' with z | z
        · ~hb x z
        · have:=((hR.2.2 x).mp (L7 z)).1
          ~⟨this.1,this.2.1⟩
      · rcases F8.mp z with z | z
        · ~hx.1.2.2.2 z
        · have hu:=hR.1.sublist (M6 (n+1) r)
          rw[e]at hu;have:=(K6.mp hu).2.2 _ z r[n] (by simp);omega
    · rw[P2 A6]at ih ⊢
      ~ih
structure Dc(st:List OR)(b:Bn):Prop where
 ok:Cq b
 bB:b.bB=lay st b.asked b.held
 prev:aFX b.asked
 closed:Ni b.asked b.held
 inc:Inc b.asked b.held
B5 Dc.shape{st:List OR}{b:Bn}(h:Dc st b):Shape b.bB st:=by rw[h.bB];~Eh _ _ _
B5 Dc.init{st:List OR}(hl:st.length≤8):Dc st ⟨st,[],[],[],[]⟩:=⟨Cq.init hl,U,λk hk=>absurd hk (J9 _),λx hx=>(by cases hx),λp q=>o9⟩
B5 Dc.put{st:List OR}{b:Bn}(h:Dc st b){p q:Int}{th ns:List Int}(h60:b.asked.length<124)(h0:0≤p)(h1:p<(b.bB.length:Int))(h2:0≤q)(h3:q<((b.bB.getD p.toNat []).length:Int))(hn:∀m∈ns,0≤m∧m<(b.asked.length:Int))(hl:ns.length≤8):Dc st (b.put p q th ns):=by
 have hb:=h.ok.nums.2;have hat:∀x∈b.held,at_ (b.asked++[eV b p q th ns]) x.toNat=at_ b.asked x.toNat:=λx hx=>gK (by have:=hb x hx;omega);&⟨h.ok.put h60 h0 h1 h2 h3 hn hl,h.bB.trans (aDQ hb).symm,λk hk j hj=>?_,λx hx m hm=>?_,λp' q'=>?_⟩
 ·have hlen:(b.put p q th ns).asked.length=b.asked.length+1:=by B4 Bn.put;rw[D1];rfl
  rw[hlen]at hk;have htk:(b.put p q th ns).asked.take k=b.asked.take k:=by show (b.asked++[eV b p q th ns]).take k=_;rw[List.take_append_of_le_length A6]
  rcases G4 k b.asked.length with z | z
  ·have e:at_ (b.put p q th ns).asked k=at_ b.asked k:=gK z;rw[htk,e]at hj;rw[e];~h.prev k z j hj
  ·have ek:k=b.asked.length:=by omega
   have e:at_ (b.put p q th ns).asked k=eV b p q th ns:=by rw[ek];~mK _ _
   rw[htk,e,ek,P1]at hj;rw[e];have hj:lastAt b.asked p q=NR j:=hj;show j∈aq (ns++(lastAt b.asked p q).toList);rw[Dq,hj];simp
 ·have hx:x∈b.held:=hx;have hm:m∈(at_ (b.asked++[eV b p q th ns]) x.toNat).needs:=hm;rw[hat x hx]at hm;~h.closed x hx m hm
 ·have:=h.inc p' q';rw[show (b.put p q th ns).held=b.held from rfl];rw[V3 (q:=here b.asked p' q') λx hx=>by B4 here;rw[show (b.put p q th ns).asked=b.asked++[eV b p q th ns]from rfl,hat x hx]];~this
B5 Dc.bW{st:List OR}{b:Bn}(h:Dc st b){p:Int}{r:List Int}(hR:ni b.asked b.held p r)(n:Nat):Dc st (b.bW (r.take n)):=by
 have e1:=iQ (r.take n) b;have e2:=tW (r.take n) b;have htr:∀x∈r.take n,0≤x∧x<(b.asked.length:Int)∧_∧x∉b.held:=λx hx=>((hR.2.2 x).mp (L7 hx)).1;&⟨h.ok.bW ((hR.1.sublist (M6 _ _)).imp λz=>by omega) (λx hx=>⟨(htr x hx).1,(htr x hx).2.1⟩) (λx hx=>(htr x hx).2.2.2),?_,by rw[e1];~h.prev,?_,?_⟩
 ·rw[Wt,e1,e2,aFW,←h.bB]
 ·rw[e1,e2];~Og h.ok.good h.closed hR n
 ·rw[e1,e2];~ZL h.ok.good h.prev h.closed h.ok.nums.2 h.inc hR n
B5 ZM{i:Nat}{g:GS}(I:Nat→EN→Prop)(Rt:D→Prop):∀(xs:List D)(env:EN)(n:Nat),I n env→(∀k x env,xs[k]?=NR x→I (n+k) env→i<env.length∧((∃env',g (env.set i (.fro x))=.next env'∧I (n+k+1) env')∨(∃d,g (env.set i (.fro x))=.ret d∧Rt d)))→(∃env',yK i g xs env=.next env'∧I (n+xs.length) env')∨∃d,yK i g xs env=.ret d∧Rt d
 | [],env,n,h,_=>.inl ⟨env,U,h⟩
 | x::xs,env,n,h,st=>by
  B3⟨hl,q⟩:=st 0 x env U h;B4 yK;rw[if_pos hl];rcases q with ⟨env',q1,q2⟩ | ⟨d,q1,q2⟩
  ·rw[q1];have:=ZM I Rt xs env' (n+1) q2 λk y e hy hi=>by have z:=st (k+1) y e hy (by rw[show n+(k+1)=n+1+k by omega];~hi);rw[show n+(k+1)=n+1+k by omega]at z;~z
   rw[E3,show n+(xs.length+1)=n+1+xs.length by omega];~this
  ·rw[q1];~.inr ⟨d,U,q2⟩
B5 qt{i:Nat}{gb g:GS}{env:EN}{Pr:SR→Prop}{fi:FA}{n:Nat}(I:Nat→EN→Prop)(h:fi (rE env)=NR (jL 0 n))(h0:I 0 env)
  (st:∀(k:Nat) env,k<n→I k env→i<env.length∧Qs (λr=>(∃env',r=.next env'∧I (k+1) env')∨∃d,r=.ret d∧Pr (.ret d)) (gb (env.set i (.fro (.int k))))) (k:∀env',I n env'→Qs Pr (g env')):Qs Pr (aY (zV i fi gb) g env):=by
 rcases ZM (i:=i) (g:=gb) I (λd=>Pr (.ret d)) (jL 0 n) env 0 h0 λk x e hx hi=>by B3⟨hk,rfl⟩:=Gh hx;rw[N6]at hi ⊢;rw[a8];~⟨(st k e hk hi).1,(st k e hk hi).2⟩with ⟨env',h1,h2⟩ | ⟨d,h1,h2⟩
 ·rw[N6,yQ]at h2;rw[dH ((Tr h).trans h1)];~k env' h2
 ·rw[Jd ((Tr h).trans h1)];~h2
def Ai(nx:Int→Int):List Int→Prop
 | []=>True
 | a::r=>nx a=r.headD 0∧Ai nx r
B5 Ai.congr{nx nx':Int→Int}:∀{l:List Int},(∀y∈l,nx' y=nx y)→Ai nx l→Ai nx' l
 | [],_,_=>trivial
 | a::r,h,⟨h1,h2⟩=>⟨(h a C8).trans h1,Ai.congr (λy hy=>h y (C6 _ hy)) h2⟩
def Dd(p b:Int):List Int→List Int
 | []=>[]
 | a::r=>if a=p then a::b::r else a::Dd p b r
B5 aBt(p b:Int)(l:List Int):(Dd p b l).headD 0=l.headD 0:=by
 cases l with
 | nil=>rfl
 | cons a r=>
  B4 Dd
  split<;>rfl
B5 De{p b x:Int}:∀{l:List Int},p∈l→(x∈Dd p b l↔x=b∨x∈l)
  | [],h=>by cases h
  | a::r,h=>by
    B4 Dd;by_cases c:a=p
    · rw[if_pos c]
      simp only[B9];constructor
      · rintro(z | z | z)
        · ~.inr (.inl z)
        · ~.inl z
        · ~.inr (.inr z)
      · rintro(z | z | z)
        · ~.inr (.inl z)
        · ~.inl z
        · ~.inr (.inr z)
    · rw[if_neg c]
      have hp:p∈r:=(B9.mp h).elim (λz=>absurd z.symm c) id;rw[B9,De hp,B9];constructor
      · rintro(z | z | z)
        · ~.inr (.inl z)
        · ~.inl z
        · ~.inr (.inr z)
      · rintro(z | z | z)
        · ~.inr (.inl z)
        · ~.inl z
        · ~.inr (.inr z)
B5 Hl{p b:Int}:∀{l:List Int},l.Nodup→p∈l→b∉l→(Dd p b l).Nodup
 | [],_,h,_=>by cases h
 | a::r,hn,h,hb=>by
  B3⟨n1,n2⟩:=F1.mp hn;have ba:b≠a:=λz=>hb (by rw[z];~C8);have br:b∉r:=λz=>hb (C6 _ z);B4 Dd;by_cases c:a=p
  ·rw[if_pos c];~F1.mpr ⟨λz=>(B9.mp z).elim (λe=>ba e.symm) n1,F1.mpr ⟨br,n2⟩⟩
  ·rw[if_neg c];have hp:p∈r:=(B9.mp h).elim (λz=>absurd z.symm c) id;~F1.mpr ⟨λz=>((De hp).mp z).elim (λe=>ba e.symm) n1,Hl n2 hp br⟩
B5 zp{p b:Int}:∀{l:List Int},p∈l→Dd p b l=l.take (l.idxOf p+1)++b::l.drop (l.idxOf p+1)
 | [],h=>by cases h
 | a::r,h=>by
  B4 Dd;by_cases c:a=p
  ·subst c;rw[if_pos U,X3];rfl
  ·have hp:p∈r:=(B9.mp h).elim (λz=>absurd z.symm c) id;rw[if_neg c,W9,show (a==p)=NV from beq_false_of_ne c,zp hp];rfl
B5 Ai.ins{nx nx':Int→Int}{p b:Int}(h1:nx' p=b)(h2:nx' b=nx p):∀{l:List Int},l.Nodup→p∈l→(∀y∈l,y≠p→nx' y=nx y)→Ai nx l→Ai nx' (Dd p b l)
 | [],_,h,_,_=>by cases h
 | a::r,hn,h,hy,⟨q1,q2⟩=>by
  B3⟨n1,n2⟩:=F1.mp hn;B4 Dd;by_cases c:a=p
  ·subst c;rw[if_pos rfl];~⟨h1,h2.trans q1,q2.congr λy hr=>hy y (C6 _ hr) λz=>n1 (z▸hr)⟩
  ·rw[if_neg c];have hp:p∈r:=(B9.mp h).elim (λz=>absurd z.symm c) id;~⟨(hy a C8 c).trans (q1.trans (aBt p b r).symm),Ai.ins h1 h2 n2 hp (λy hr=>hy y (C6 _ hr)) q2⟩
B5 Ai.era{nx nx':Int→Int}{p x:Int}(h1:nx p=x)(h0:x≠0)(h2:nx' p=nx x):∀{l:List Int},l.Nodup→p∈l→(∀y∈l,y≠p→nx' y=nx y)→Ai nx l→x∈l.tail∧Ai nx' (l.erase x)
 | [],_,h,_,_=>by cases h
 | a::r,hn,h,hy,⟨q1,q2⟩=>by
  B3⟨n1,n2⟩:=F1.mp hn;by_cases c:a=p
  ·subst c;cases r with
   | nil=>~absurd (h1.symm.trans q1) h0
   | cons e r=>have ex:e=x:=q1.symm.trans h1;subst ex;have ae:a≠e:=λz=>n1 (by rw[z];~C8);&⟨C8,?_⟩;rw[Q4 (by simpa using ae),List.erase_cons_head];&⟨h2.trans q2.1,q2.2.congr λy hr=>hy y (C6 _ (C6 _ hr)) λz=>n1 (z▸C6 _ hr)⟩
  ·have hp:p∈r:=(B9.mp h).elim (λz=>absurd z.symm c) id;B3⟨i1,i2⟩:=Ai.era h1 h0 h2 n2 hp (λy hr=>hy y (C6 _ hr)) q2;have xr:x∈r:=X5 i1;have ax:a≠x:=λz=>n1 (z▸xr);&⟨xr,?_⟩;rw[Q4 (by simpa using ax)];&⟨(hy a C8 c).trans (q1.trans ?_),i2⟩;cases r with
   | nil=>cases xr
   | cons e r=>have ex:e≠x:=λz=>(F1.mp n2).1 (z▸i1);rw[Q4 (by simpa using ex)];rfl
B5 Ai.get{nx:Int→Int}:∀{r:List Int} {a:Int},Ai nx (a::r)→∀k,k≤r.length→nx ((a::r).getD k 0)=(r++[0]).getD k 0
 | [],a,h,k,hk=>by B3 rfl:k=0:=Nat.le_zero.mp hk;~h.1
 | b::r,a,h,0,hk=>h.1
 | b::r,a,h,k+1,hk=>Ai.get h.2 k (Nat.le_of_succ_le_succ hk)
B5 Ai.of{nx:Int→Int}:∀{r:List Int} {a:Int},(∀k,k≤r.length→nx ((a::r).getD k 0)=(r++[0]).getD k 0)→Ai nx (a::r)
 | [],a,h=>⟨h 0 (C9 _),trivial⟩
 | b::r,a,h=>⟨h 0 (L5 _),Ai.of λk hk=>h (k+1) (S7 hk)⟩
def vX(cs:List lH)(S:Int→Bool)(p q:Int):Option Int:=((D5 cs.length).filter λk=>decide ((at_ cs k).bY=p∧(at_ cs k).place=q)&&S (k:Int)).getLast?.map λk=>((k:Nat):Int)
B5 Vk(cs:List lH)(S:Int→Bool)(c:lH)(p q:Int):vX (cs++[c]) S p q=if(c.bY=p∧c.place=q)∧S (cs.length:Int)=NU then NR (cs.length:Int)else vX cs S p q:=by
 B4 vX;have e:(D5 cs.length).filter (λk=>decide ((at_ (cs++[c]) k).bY=p∧(at_ (cs++[c]) k).place=q)&&S (k:Int))=(D5 cs.length).filter λk=>decide ((at_ cs k).bY=p∧(at_ cs k).place=q)&&S (k:Int):=V3 λk hk=>by rw[gK (F7.mp hk)]
 rw[D1,show cs.length+[c].length=cs.length+1 from rfl,e9,P6,e];by_cases h:(c.bY=p∧c.place=q)∧S (cs.length:Int)=NU
 ·rw[if_pos h,O8 (by rw[mK,decide_eq_true h.1,h.2];rfl),N9,S9];rfl
 ·rw[if_neg h,O9 (by rw[mK,J2,decide_eq_true_iff];~h),N9,F0]
B5 ZP{cs:List lH}{S:Int→Bool}{p q k:Int}(h:vX cs S p q=NR k):0≤k∧k<(cs.length:Int):=by B4 vX at h;B3⟨j,h1,rfl⟩:=kJ h;have:=F7.mp (K3.mp (X0 h1)).1;omega
def Ag(st:List OR)(cs:List lH)(S:Int→Bool)(p q:Int):List Int:=topOf cs (val st p.toNat q.toNat) (vX cs S p q)
B5 Zq(st:List OR)(cs:List lH)(S:Int→Bool)(c:lH)(p q:Int):Ag st (cs++[c]) S p q=if(c.bY=p∧c.place=q)∧S (cs.length:Int)=NU then c.thing else Ag st cs S p q:=by
 B4 Ag;rw[Vk];by_cases h:(c.bY=p∧c.place=q)∧S (cs.length:Int)=NU
 ·rw[if_pos h,if_pos h];show (at_ (cs++[c]) (cs.length:Int).toNat).thing=c.thing;rw[C7,mK]
 ·rw[if_neg h,if_neg h];cases e:vX cs S p q with
  | none=>rfl
  | some k=>have:=ZP e;show (at_ _ k.toNat).thing=(at_ _ k.toNat).thing;rw[gK A6]
B5 zQ{S:Int→Bool}{p q:Int}(cs:List lH):(∀k,lastAt cs p q=NR k→S k=NU)→vX cs S p q=lastAt cs p q:=by
 induction cs using snoc_ind with
 | h0=>~λ_=>rfl
 | hs cs c ih=>
  rw[rP,Vk];by_cases h:c.bY=p∧c.place=q
  ·rw[if_pos h];intro k;rw[if_pos ⟨h,k _ U⟩]
  ·rw[if_neg h,if_neg λz=>h z.1];~ih
def Dn(cs:List lH)(S:Int→Bool):Prop:=∀k,k<cs.length→S (k:Int)=NU→∀m∈(at_ cs k).needs,S m=NU
B5 Dn.init{cs:List lH}{S:Int→Bool}{c:lH}(h:Dn (cs++[c]) S):Dn cs S:=λk hk hS m hm=>h k (by rw[D1];omega) hS m (by rw[gK hk];~hm)
B5 Dn.last{cs:List lH}{S:Int→Bool}{c:lH}(h:Dn (cs++[c]) S)(hS:S (cs.length:Int)=NU):∀m∈c.needs,S m=NU:=λm hm=>h cs.length (by rw[D1];~N2 _) hS m (by rw[mK];~hm)
def inB(l:List Int):Int→Bool:=λk=>decide (k∈l)
B5 Dc.dn{st:List OR}{b:Bn}(h:Dc st b):Dn b.asked (inB b.held):=λk _ hS m hm=>decide_eq_true (h.closed (k:Int) (of_decide_eq_true hS) m (by rw[C7];~hm))
B5 Dc.val{st:List OR}{b:Bn}(h:Dc st b)(p q:Nat):val b.bB p q=Ag st b.asked (inB b.held) p q:=by
 have hm:∀x,x∈b.held↔x∈((D5 b.asked.length).filter λk:Nat=>inB b.held (k:Int)).map λk:Nat=>((k:Nat):Int):=λx=>by
  rw[J4];constructor
  ·intro hx;have:=h.ok.nums.2 x hx;~⟨x.toNat,K3.mpr ⟨F7.mpr A6,decide_eq_true (by rw[show ((x.toNat:Nat):Int)=x by omega];~hx)⟩,by omega⟩
  ·rintro⟨k,hk,rfl⟩
   ~of_decide_eq_true (K3.mp hk).2
 have hs:∀k∈b.held,Spot st (at_ b.asked k.toNat):=λk hk=>by have hb:=h.ok.nums.2 k hk;~Vj ⟨h.shape.1.symm,λp=>(h.shape.2 p).symm⟩ (h.ok.YH k.toNat A6)
 have hu:(((D5 b.asked.length).filter λk:Nat=>inB b.held (k:Int)).map λk:Nat=>((k:Nat):Int)).Pairwise (·<·):=by rw[V2];~(V5.sublist R3).imp λz=>by omega
 rw[h.bB,aDR h.inc (aIZ hu) hm hs,KZ _ λk hk=>hs k ((hm k).mpr hk)];B4 Ag vX;rw[C7,C7];congr 1;rw[x6,Y8,List.filter_filter];congr 2
structure Ev where
 i:Bool
 n:Int
 b:Int
 a:Int
def rep1(S:Int→Bool)(l:List Int)(e:Ev):Option Nd:=if S e.n=NU then(if e.i=NU then(if e.b∈l∨e.a∉l then none else NR (Dd e.a e.b l))else(if e.b∉l then none else NR (l.erase e.b)))else NR l
def replay(S:Int→Bool):List Int→List Ev→Option Nd
 | l,[]=>NR l
 | l,e::es=>(rep1 S l e).bind λl'=>replay S l' es
B5 nF{S:Int→Bool}{e:Ev}:∀{es:List Ev} {l:List Int},replay S l (es++[e])=(replay S l es).bind λl'=>rep1 S l' e
 | [],l=>by
  show (rep1 S l e).bind (λl'=>NR l')=rep1 S l e;cases rep1 S l e<;>rfl
 | x::es,l=>by
  show (rep1 S l x).bind (λl'=>replay S l' (es++[e]))=((rep1 S l x).bind λl'=>replay S l' es).bind _;cases rep1 S l x with
  | none=>rfl
  | some y=>~nF
def Vl(st:List OR)(P:Nat)(cs:List lH)(S:Int→Bool)(x:Int):Int:=(Ag st cs S ((x.toNat%P:Nat):Int) ((x.toNat/P:Nat):Int)).getD 1 0
structure Row(st:List OR)(first:List Int)(evs:List Ev)(s:Wb)(S:Int→Bool)(row:List Int):Prop where
 rep:replay S (0::first) evs=NR (0::row)
 nd:(0::row).Nodup
 bd:∀x∈row,1≤x∧x<(s.rs.length:Int)
 pth:Ai (Vl st s.P s.b.asked S) (0::row)
 ins:∀x∈s.od,(∀c,s.co.get x=NR c→S c=NU)→x∈row
 out:∀x,1≤x→x<(s.rs.length:Int)→x∉s.od→(∀g,s.go.get x=NR g→S g=NU)→x∉row
structure Ey(st:List OR)(first:List Int)(evs:List Ev)(s:Wb):Prop where
 lb:Dc st s.b
 rows:∀S,Dn s.b.asked S→∃row,Row st first evs s S row
 mem:Ai (λx=>(s.R x).getD 1 0) (0::s.od)
section
variable{st:List OR}{first:List Int}{evs:List Ev}{s:Wb}{S:Int→Bool}
B5 vY{x:Int}{r ns:List Int}(w:mJ s)(h0:0≤x)(h1:x<(s.rs.length:Int))(hD:Dn (s.wr x r ns).b.asked S)(hS:S (s.n:Int)=NU):(∀m∈ns,S m=NU)∧∀k,s.la.get x=NR k→S k=NU:=by have hl:∀m∈aq (ns++(lastAt s.b.asked ((x.toNat%s.P:Nat):Int) ((x.toNat/s.P:Nat):Int)).toList),S m=NU:=Dn.last (cs:=s.b.asked) (c:=eV s.b ((x.toNat%s.P:Nat):Int) ((x.toNat/s.P:Nat):Int) r ns) hD hS;have e:=w.las x.toNat A6;rw[show ((x.toNat:Nat):Int)=x by omega]at e;&⟨λm hm=>hl m ((Dq _ _).mpr (F5 _ hm)),λk hk=>hl k ((Dq _ _).mpr (E5 _ ?_))⟩;rw[←e,hk];~D2.mpr U
B5 LC{x y:Int}{r ns:List Int}(h0:0≤x)(hy:0≤y):Vl st s.P (s.wr x r ns).b.asked S y=if y=x∧S (s.n:Int)=NU then r.getD 1 0 else Vl st s.P s.b.asked S y:=by
 B4 Vl;show (Ag st (s.b.asked++[eV s.b ((x.toNat%s.P:Nat):Int) ((x.toNat/s.P:Nat):Int) r ns]) S _ _).getD 1 0=_;rw[Zq];by_cases c:y=x∧S (s.n:Int)=NU
 ·rw[if_pos c,if_pos ⟨by rw[c.1];~⟨U,U⟩,c.2⟩];rfl
 ·rw[if_neg c,if_neg]
  rintro⟨⟨z1,z2⟩,z3⟩
  have:=Kf (a:=x.toNat) (b:=y.toNat) z1 z2;~c ⟨by omega,z3⟩
B5 Ey.full(h:Ey st first evs s)(w:mJ s){x:Int}(h0:0≤x)(h1:x<(s.rs.length:Int))(hS:∀k,s.la.get x=NR k→S k=NU):Vl st s.P s.b.asked S x=(s.R x).getD 1 0:=by
 have e:=w.las x.toNat A6;rw[show ((x.toNat:Nat):Int)=x by omega]at e;B4 Vl Ag;rw[zQ s.b.asked (by rw[←e];~hS),Wb.R,(w.rcd x.toNat A6).1];B4 face;cases q:lastAt s.b.asked ((x.toNat%s.P:Nat):Int) ((x.toNat/s.P:Nat):Int)with
 | some k=>rfl
 | none=>have v:=h.lb.val (x.toNat%s.P) (x.toNat/s.P);B4 Ag at v;rw[zQ s.b.asked (by rw[q];~λk z=>nomatch z),q]at v;rw[C7,C7]at v ⊢;show (val st _ _).getD 1 0=(val s.b.bB _ _).getD 1 0;rw[v];rfl
B5 Ey.rw(h:Ey st first evs s)(w:mJ s){x:Int}{r ns:List Int}(h0:0≤x)(h1:x<(s.rs.length:Int))(hn:∀m∈ns,0≤m∧m<(s.n:Int))(hl:ns.length≤8)(hm:s.n<124)(hr:r.getD 1 0=(s.R x).getD 1 0):Ey st first evs (s.wr x r ns):=by
 B3⟨a,b,c,d⟩:=w.spot h0 h1;&⟨h.lb.put hm a b c d hn hl,λS hD=>?_,?_⟩
 ·B3⟨row,R⟩:=h.rows S (Dn.init (cs:=s.b.asked) hD);&⟨row,R.rep,R.nd,λy hy=>by rw[oR];~R.bd y hy,R.pth.congr λy hy=>?_,R.ins,λy y1 y2=>R.out y y1 (by rw[oR]at y2;~y2)⟩;have y0:0≤y:=by
   rcases B9.mp hy with z | z
   ·omega
   ·have:=R.bd y z;omega
  show Vl st s.P _ S y=_;rw[LC h0 y0];split
  ·rename_i q;rw[q.1,hr,h.full w h0 h1 (vY w h0 h1 hD q.2).2]
  ·rfl
 ·&h.mem.congr λy hy=>?_;have y0:0≤y:=by
   rcases B9.mp hy with z | z
   ·omega
   ·have:=w.sV y z;omega
  show ((s.wr x r ns).R y).getD 1 0=(s.R y).getD 1 0;rw[Et h0 h1 y0];split
  ·rename_i q;rw[hr,q]
  ·rfl
B5 Ey.ent(h:Ey st first evs s)(w:mJ s)(hlo:0<s.lo.length)(hm:s.n<123){k key was now gF:Int}{fu:List Int}(h0:0≤k)(h1:k≤(s.od.length:Int))(hn:∀m∈fu,0≤m∧m<(s.n:Int))(hf:fu.length≤5):Ey st first (evs++[⟨NU,(s.n+1:Nat),s.new,s.ahead k⟩]) (s.ent k key was now gF fu):=by
  B3⟨b1,b2,b3,b4,b5⟩:=w.new hlo;B3⟨p1,p2,p3⟩:=w.ahead h0 h1;have w1:=w.e1 hlo A6 k key was now gF;B3⟨w2,hn2,hc⟩:=w.e2 hlo hm (key:=key) (was:=was) (now:=now) (gF:=gF) h0 h1 hn hf;have pb:s.ahead k≠s.new:=λz=>by
    rcases p1 with y | y
    · omega
    · ~b4 (z▸y)
  have hod:∀x,x∈s.od.take k.toNat++s.new::s.od.drop k.toNat↔x=s.new∨x∈s.od:=λx=>by
    conv=>rhs;rw[←M0 k.toNat s.od]
    simp only[F8,B9];constructor
    · rintro(z | z | z)
      · ~.inr (.inl z)
      · ~.inl z
      · ~.inr (.inr z)
    · rintro(z | z | z)
      · ~.inr (.inl z)
      · ~.inl z
      · ~.inr (.inr z)
  have hlen:=Ql s k key was now gF fu;have en:=aBp s k key was now gF;have e1l:(s.e1 k key was now gF).rs.length=s.rs.length:=oR _ _ _ _;have co':∀x,(s.ent k key was now gF fu).co.get x=if x=s.new then NR ((s.n+1:Nat):Int)else s.co.get x:=λx=>Mp.mO w.coo.1 _ _ _;B3⟨f1,f2,f3,f4⟩:=w.spot b5 b3;B3⟨g1,g2,g3,g4⟩:=w1.spot p2 (by rw[e1l];~p3);have aI0:((s.e1 k key was now gF).ns NY ((s.n:Int)::fu)).length≤8:=by B4 Wb.ns;rw[D1];have:=nY ((s.e1 k key was now gF).co.get NY);simp;omega
  have lb1:Dc st (s.e1 k key was now gF).b:=h.lb.put (by have:s.b.asked.length=s.n:=rfl;omega) f1 f2 f3 f4 (w.aIS _) (G1 (nY _) A8);&⟨lb1.put (by have:(s.e1 k key was now gF).b.asked.length=s.n+1:=en;omega) g1 g2 g3 g4 (w1.qg hn2) aI0,λS hD=>?_,?_⟩
  · have hD2:Dn ((s.e1 k key was now gF).wr NY (Od ((s.e1 k key was now gF).R NY) s.new) ((s.e1 k key was now gF).ns NY ((s.n:Int)::fu))).b.asked S:=hD
    have hD1:Dn (s.wr s.new [key,(s.R NY).getD 1 0,was,now,gF] (s.go.get s.new).toList).b.asked S:=Dn.init (cs:=(s.e1 k key was now gF).b.asked) hD2;B3⟨row,R⟩:=h.rows S (Dn.init (cs:=s.b.asked) hD1);have rz:∀y∈(0:Int)::row,0≤y:=λy hy=>by
      rcases B9.mp hy with z | z
      · omega
      · have:=R.bd y z;omega
    have nx2:∀y,0≤y→Vl st s.P (s.ent k key was now gF fu).b.asked S y=if y=s.ahead k∧S ((s.n+1:Nat):Int)=NU then s.new else if y=s.new∧S (s.n:Int)=NU then(s.R NY).getD 1 0 else Vl st s.P s.b.asked S y:=λy hy=>by have t1:Vl st s.P (s.e1 k key was now gF).b.asked S y=if y=s.new∧S (s.n:Int)=NU then(s.R NY).getD 1 0 else Vl st s.P s.b.asked S y:=LC b5 hy;have t2:=LC (st:=st) (s:=s.e1 k key was now gF) (S:=S) (r:=Od ((s.e1 k key was now gF).R NY) s.new) (ns:=(s.e1 k key was now gF).ns NY ((s.n:Int)::fu)) p2 hy;rw[en]at t2;~t2.trans (by rw[show Vl st (s.e1 k key was now gF).P (s.e1 k key was now gF).b.asked S y=Vl st s.P (s.e1 k key was now gF).b.asked S y from rfl,t1];rfl)
    have fil:S (s.n:Int)=NU→s.new∉row:=λhS=>R.out s.new b2 b3 b4 λg hg=>(vY w b5 b3 hD1 hS).1 g (by rw[hg];~D2.mpr U);by_cases c:S ((s.n+1:Nat):Int)=NU
    · have qu:=vY w1 p2 (by rw[e1l];~p3) hD2 (by rw[en];~c)
      have hSn:S (s.n:Int)=NU:=qu.1 _ (E5 _ C8);have bn:s.new∉(0:Int)::row:=λz=>(B9.mp z).elim (λz=>by omega) (fil hSn);have pm:s.ahead k∈(0:Int)::row:=by
        rcases p1 with z | z
        · rw[z];~C8
        · &C6 _ (R.ins _ z λc0 hc0=>qu.1 _ (F5 _ ?_))
          rw[show (s.e1 k key was now gF).co.get NY=s.co.get (s.ahead k)from rfl,hc0];~D2.mpr U
      have full:Vl st s.P s.b.asked S NY=(s.R NY).getD 1 0:=h.full w p2 p3 λj hj=>qu.2 j (by
        show (s.la.put s.new s.n).get NY=NR j;rw[Mp.mO w.lao.1,if_neg pb];~hj)
      B3⟨Ah,e⟩:∃Ah,Dd NY s.new ((0:Int)::row)=0::Ah:=by
        B4 Dd
        split<;>~⟨_,U⟩
      have hmem:∀x,x∈(0:Int)::Ah↔x=s.new∨x∈(0:Int)::row:=λx=>by rw[←e];~De pm
      have hmr:∀x,x≠0→(x∈Ah↔x=s.new∨x∈row):=λx hx=>by have:=hmem x;simp only[B9,hx,false_or]at this;~this
      &⟨Ah,?_,?_,λx hx=>?_,?_,λx hx hco=>?_,λx x1 x2 x3 hgo=>?_⟩
      · rw[nF,R.rep,C4]
        B4 rep1;rw[if_pos c,if_pos U,if_neg λz=>z.elim bn λy=>y pm,e]
      · rw[←e]
        ~Hl R.nd pm bn
      · rw[hlen]
        have hx0:x≠0:=λz=>by
          have nn:((0:Int)::Ah).Nodup:=by rw[←e];~Hl R.nd pm bn
          ~(F1.mp nn).1 (z▸hx)
        rcases(hmr x hx0).mp hx with z | z
        · omega
        · ~R.bd x z
      · rw[←e]
        &Ai.ins ?_ ?_ R.nd pm (λy hy hyp=>?_) R.pth
        · ~(nx2 _ p2).trans (if_pos ⟨U,c⟩)
        · &(nx2 _ b5).trans ?_
          rw[if_neg λz:s.new=s.ahead k∧_=>pb z.1.symm,if_pos ⟨U,hSn⟩,full]
        · &(nx2 _ (rz y hy)).trans ?_
          rw[if_neg λz:y=s.ahead k∧_=>hyp z.1,if_neg λz:y=s.new∧_=>bn (z.1▸hy)]
      · have hx0:x≠0:=λz=>by
          rcases(hod x).mp hx with y | y
          · omega
          · have:=w.sV x y;omega
        &(hmr x hx0).mpr ?_
        rcases(hod x).mp hx with z | z
        · ~.inl z
        · &.inr (R.ins x z λc0 hc0=>hco c0 ?_)
          rw[co',if_neg λy:x=s.new=>b4 (y▸z)];~hc0
      · have x3:x∉s.od.take k.toNat++s.new::s.od.drop k.toNat:=x3
        rw[hod,not_or]at x3;intro z;rw[hlen]at x2
        rcases(hmr x A6).mp z with y | y
        · ~x3.1 y
        · ~R.out x x1 x2 x3.2 hgo y
    · &⟨row,?_,R.nd,λx hx=>by rw[hlen];~R.bd x hx,R.pth.congr λy hy=>?_,λx hx hco=>?_,λx x1 x2 x3 hgo=>?_⟩
      · rw[nF,R.rep,C4]
        B4 rep1;rw[if_neg c]
      · &(nx2 _ (rz y hy)).trans ?_
        rw[if_neg λz=>c z.2];split
        · rename_i q
          rcases B9.mp hy with z | z
          · omega
          · ~absurd (q.1▸z) (fil q.2)
        · rfl
      · rcases(hod x).mp hx with z | z
        · ~absurd (hco _ (by rw[co',if_pos z])) c
        · &R.ins x z λc0 hc0=>hco c0 ?_
          rw[co',if_neg λy:x=s.new=>b4 (y▸z)];~hc0
      · have x3:x∉s.od.take k.toNat++s.new::s.od.drop k.toNat:=x3
        rw[hod,not_or]at x3;rw[hlen]at x2;~R.out x x1 x2 x3.2 hgo
  · have nd0:((0:Int)::s.od).Nodup:=F1.mpr ⟨λz=>by have:=w.sV 0 z;omega,w.Oc⟩
    have kl:k.toNat<((0:Int)::s.od).length:=by rw[E3];omega
    have gk:((0:Int)::s.od)[k.toNat]?=NR NY:=dU (d:=0) kl;have pm:s.ahead k∈(0:Int)::s.od:=D6 gk;have ei:Dd NY s.new ((0:Int)::s.od)=0::(s.od.take k.toNat++s.new::s.od.drop k.toNat):=by rw[zp pm,Vd nd0 gk];rfl
    show Ai _ ((0:Int)::(s.od.take k.toNat++s.new::s.od.drop k.toNat));rw[←ei];have R2:∀y,0≤y→(s.ent k key was now gF fu).R y=if y=s.ahead k then Od ((s.e1 k key was now gF).R NY) s.new else if y=s.new then [key,(s.R NY).getD 1 0,was,now,gF]else s.R y:=λy hy=>by
      show ((s.e1 k key was now gF).wr NY (Od ((s.e1 k key was now gF).R NY) s.new) ((s.e1 k key was now gF).ns NY ((s.n:Int)::fu))).R y=_;rw[Et p2 hc hy];split
      · rfl
      · ~Et (ns:=(s.go.get s.new).toList) b5 b3 hy
    &Ai.ins ?_ ?_ nd0 pm (λy hy hyp=>?_) h.mem
    · show ((s.ent k key was now gF fu).R NY).getD 1 0=_
      rw[R2 _ p2,if_pos rfl];rfl
    · show ((s.ent k key was now gF fu).R s.new).getD 1 0=(s.R NY).getD 1 0
      rw[R2 _ b5,if_neg pb.symm,if_pos rfl];rfl
    · have y0:0≤y:=by
        rcases B9.mp hy with z | z
        · omega
        · have:=w.sV y z;omega
      show ((s.ent k key was now gF fu).R y).getD 1 0=(s.R y).getD 1 0;rw[R2 _ y0,if_neg hyp,if_neg];rintro rfl;rcases B9.mp hy with z | z
      · omega
      · ~b4 z
B5 Ey.out(h:Ey st first evs s)(w:mJ s)(hm:s.n<124){k x:Int}{fu:List Int}(h0:0≤k)(h1:k<(s.od.length:Int))(hx:s.od[k.toNat]?=NR x)(hn:∀m∈fu,0≤m∧m<(s.n:Int))(hf:fu.length≤5):Ey st first (evs++[⟨NV,(s.n:Int),x,0⟩]) (s.out k x fu):=by
 B3⟨p1,p2,p3⟩:=w.ahead h0 (M3 h1);have xm:x∈s.od:=D6 hx;have xr:=w.sV x xm;B3⟨w1,hn2⟩:=w.o1 hm h0 (M3 h1) (x:=x) A6 xr.2 hn hf;have hi:=Vd w.Oc hx;have hlen:=Qm s k x fu;have nd0:((0:Int)::s.od).Nodup:=F1.mpr ⟨λz=>by have:=w.sV 0 z;omega,w.Oc⟩;have px:(s.R NY).getD 1 0=x:=by have:=h.mem.get k.toNat A6;rw[B7 (l:=s.od++[0]),F9 A6,hx]at this;~this
 have hod:∀y,y∈s.od.eraseIdx k.toNat↔y∈s.od∧y≠x:=λy=>by rw[←hi];~Eg w.Oc
 have go':∀y,(s.out k x fu).go.get y=if y=x then NR (s.n:Int)else s.go.get y:=λy=>Mp.mO w.goo.1 _ _ _;have kl:k.toNat<((0:Int)::s.od).length:=by rw[E3];omega
 have gk:((0:Int)::s.od)[k.toNat]?=NR NY:=dU (d:=0) kl;have pm0:s.ahead k∈(0:Int)::s.od:=D6 gk;B3⟨g1,g2,g3,g4⟩:=w.spot p2 p3;have aI0:(s.ns NY ((s.la.get x).toList++fu)).length≤8:=by B4 Wb.ns;rw[D1,D1];have:=nY (s.co.get NY);have:=nY (s.la.get x);omega
 &⟨h.lb.put hm g1 g2 g3 g4 (w.qg hn2) aI0,λS hD=>?_,?_⟩
 ·have hD1:Dn (s.wr NY (Od (s.R NY) ((s.R x).getD 1 0)) (s.ns NY ((s.la.get x).toList++fu))).b.asked S:=hD;B3⟨row,R⟩:=h.rows S (Dn.init (cs:=s.b.asked) hD1);have rz:∀y∈(0:Int)::row,0≤y:=λy hy=>by
   rcases B9.mp hy with z | z
   ·omega
   ·have:=R.bd y z;omega
  have nx2:∀y,0≤y→Vl st s.P (s.out k x fu).b.asked S y=if y=s.ahead k∧S (s.n:Int)=NU then(s.R x).getD 1 0 else Vl st s.P s.b.asked S y:=λy hy=>LC p2 hy;by_cases c:S (s.n:Int)=NU
  ·have qu:=vY w p2 p3 hD1 c;have pm:s.ahead k∈(0:Int)::row:=by
    rcases p1 with z | z
    ·rw[z];~C8
    ·&C6 _ (R.ins _ z λc0 hc0=>qu.1 _ (F5 _ ?_));rw[hc0];~D2.mpr U
   have fp:Vl st s.P s.b.asked S NY=x:=(h.full w p2 p3 qu.2).trans px;have fx:Vl st s.P s.b.asked S x=(s.R x).getD 1 0:=h.full w A6 xr.2 λj hj=>qu.1 _ (E5 _ (F5 _ (by rw[hj];~D2.mpr U)));B3⟨x1,x2⟩:=Ai.era (nx':=Vl st s.P (s.out k x fu).b.asked S) fp A6 (by rw[nx2 _ p2,if_pos ⟨U,c⟩,fx]) R.nd pm (λy hy hyp=>by rw[nx2 _ (rz y hy),if_neg λz=>hyp z.1]) R.pth;have x1:x∈row:=x1;have er:((0:Int)::row).erase x=0::row.erase x:=Q4 (by simp;omega);have nr:=(F1.mp R.nd).2;have hme:∀y,y∈row.erase x↔y∈row∧y≠x:=λy=>by rw[nr.mem_erase_iff];~and_comm
   &⟨row.erase x,?_,?_,λy hy=>?_,?_,λy hy hco=>?_,λy y1 y2 y3 hgo=>?_⟩
   ·rw[nF,R.rep,C4];B4 rep1;rw[if_pos c,if_neg E8,if_neg λz=>z (C6 _ x1),er]
   ·rw[←er];~R.nd.sublist n9
   ·rw[hlen];~R.bd y ((hme y).mp hy).1
   ·rw[←er];~x2
   ·have hy:=(hod y).mp hy;~(hme y).mpr ⟨R.ins y hy.1 hco,hy.2⟩
   ·have y3:y∉s.od.eraseIdx k.toNat:=y3;rw[hod]at y3;rw[hlen]at y2;intro z;B3⟨z1,z2⟩:=(hme y).mp z;~R.out y y1 y2 (λq=>y3 ⟨q,z2⟩) (λg hg=>hgo g (by rw[go',if_neg z2];~hg)) z1
  ·&⟨row,?_,R.nd,λy hy=>by rw[hlen];~R.bd y hy,R.pth.congr λy hy=>?_,λy hy hco=>R.ins y ((hod y).mp hy).1 hco,λy y1 y2 y3 hgo=>?_⟩
   ·rw[nF,R.rep,C4];B4 rep1;rw[if_neg c]
   ·&(nx2 _ (rz y hy)).trans ?_;rw[if_neg λz=>c z.2]
   ·have y3:y∉s.od.eraseIdx k.toNat:=y3;rw[hod]at y3;rw[hlen]at y2;by_cases e:y=x
    ·~absurd (hgo _ (by rw[go',if_pos e])) c
    ·~R.out y y1 y2 (λq=>y3 ⟨q,e⟩) λg hg=>hgo g (by rw[go',if_neg e];~hg)
 ·have R2:∀y,0≤y→(s.out k x fu).R y=if y=s.ahead k then Od (s.R NY) ((s.R x).getD 1 0)else s.R y:=λy hy=>Et (ns:=s.ns NY ((s.la.get x).toList++fu)) p2 p3 hy;have er:((0:Int)::s.od).erase x=0::s.od.eraseIdx k.toNat:=by rw[Q4 (by simp;omega),W4 hi]
  show Ai _ ((0:Int)::s.od.eraseIdx k.toNat);rw[←er];&(Ai.era (nx:=λy=>(s.R y).getD 1 0) px A6 ?_ nd0 pm0 (λy hy hyp=>?_) h.mem).2
  ·show ((s.out k x fu).R NY).getD 1 0=(s.R x).getD 1 0;rw[R2 _ p2,if_pos rfl];rfl
  ·have y0:0≤y:=by
    rcases B9.mp hy with z | z
    ·omega
    ·have:=w.sV y z;omega
   show ((s.out k x fu).R y).getD 1 0=(s.R y).getD 1 0;rw[R2 _ y0,if_neg hyp]
B5 Ey.cv(h:Ey st first evs s){p:Int}{r:List Int}(hR:ni s.b.asked s.b.held p r)(n:Nat):Ey st first evs (s.cv (r.take n)):=by have e1:=iQ (r.take n) s.b;have e2:=(kE (r.take n) s.b).1;&⟨h.lb.bW hR n,λS hD=>?_,h.mem⟩;have ea:(s.cv (r.take n)).b.asked=s.b.asked:=e1;have eP:(s.cv (r.take n)).P=s.P:=e2;rw[ea]at hD;B3⟨row,R⟩:=h.rows S hD;~⟨row,R.rep,R.nd,R.bd,by rw[ea,eP];~R.pth,R.ins,R.out⟩
end
B5 Ai.LK{nx:Int→Int}:∀{r:List Int} {a:Int},Ai nx (a::r)→∀p∈a::r,nx p=0∨nx p∈r
  | [],a,h,p,hp=>by rw[D2.mp hp];~.inl h.1
  | b::r,a,h,p,hp=>by
    rcases B9.mp hp with z | z
    · rw[z]
      ~.inr (by rw[h.1];~C8)
    · rcases Ai.LK h.2 p z with y | y
      · ~.inl y
      · ~.inr (C6 _ y)
B5 aDU{nx kf:Int→Int}{p b:Int}(hpb:p=0∨kf p<kf b)(hbn:nx p≠0→kf b<kf (nx p)):∀{l:List Int},(∀y∈l.tail,y≠0)→p∈l→Ai nx l→l.Pairwise (λx y=>x=0∨kf x<kf y)→(Dd p b l).Pairwise (λx y=>x=0∨kf x<kf y)
  | [],_,h,_,_=>by cases h
  | a::r,ht,hp,⟨h1,h2⟩,hw=>by
    B3⟨w1,w2⟩:=F6.mp hw;B4 Dd;by_cases c:a=p
    · subst c
      rw[if_pos rfl];&F6.mpr ⟨λy hy=>?_,F6.mpr ⟨λy hy=>?_,w2⟩⟩
      · rcases B9.mp hy with z | z
        · rw[z];~hpb
        · ~w1 y z
      · right
        cases r with
        | nil=>cases hy
        | cons y0 r=>
          have e:nx a=y0:=h1;have n0:y0≠0:=ht y0 C8;have q:=hbn (by rw[e];~n0);rw[e]at q;rcases B9.mp hy with z | z
          · rw[z];~q
          · rcases(F6.mp w2).1 y z with y1 | y1
            · ~absurd y1 n0
            · ~Int.lt_trans q y1
    · rw[if_neg c]
      have hpr:p∈r:=(B9.mp hp).elim (λz=>absurd z.symm c) id;&F6.mpr ⟨λy hy=>?_,aDU hpb hbn (λy hy=>ht y (X5 hy)) hpr h2 w2⟩
      rcases(De hpr).mp hy with z | z
      · rw[z]
        rcases w1 p hpr with q | q
        · ~.inl q
        · rcases hpb with q2 | q2
          · ~absurd q2 (ht p hpr)
          · ~.inr (Int.lt_trans q q2)
      · ~w1 y z
def gU(st:List OR)(P:Nat)(cs:List lH)(S:Int→Bool)(x:Int):List Int:=Ag st cs S ((x.toNat%P:Nat):Int) ((x.toNat/P:Nat):Int)
structure Oz(st:List OR)(first:List Int)(evs:List Ev)(s:Wb)(ks:List Nd):Prop where
 fl:∀S,Dn s.b.asked S→∀p,p=0∨p∈s.od→(∀c,s.co.get p=NR c→S c=NU)→(∀k,s.la.get p=NR k→S k=NU)→(s.R p).getD 1 0≠0→∀c,s.co.get ((s.R p).getD 1 0)=NR c→S c=NU
 ky:∀S,Dn s.b.asked S→∀y∈s.od,(∀c,s.co.get y=NR c→S c=NU)→(gU st s.P s.b.asked S y).getD 0 0=s.key y
 rs:∀S,Dn s.b.asked S→∀row,Row st first evs s S row→((0:Int)::row).Pairwise (λx y=>x=0∨(gU st s.P s.b.asked S x).getD 0 0<(gU st s.P s.b.asked S y).getD 0 0)∧(∀x∈row,(gU st s.P s.b.asked S x).getD 0 0∈ks.getD x.toNat [])∧∀x∈row,qp (gU st s.P s.b.asked S x)
 th:∀k,k<s.n→Kq s.rs.length (at_ s.b.asked k).thing∧∃x:Nat,x<s.rs.length∧(at_ s.b.asked k).bY=((x%s.P:Nat):Int)∧(at_ s.b.asked k).place=((x/s.P:Nat):Int)
 mr:∀x,0≤x→x<(s.rs.length:Int)→Kq s.rs.length (s.R x)
section
variable{st:List OR}{first:List Int}{evs:List Ev}{s:Wb}{S:Int→Bool}{ks:List Nd}
B5 Ei{x y:Int}{r ns:List Int}(h0:0≤x)(hy:0≤y):gU st s.P (s.wr x r ns).b.asked S y=if y=x∧S (s.n:Int)=NU then r else gU st s.P s.b.asked S y:=by
 B4 gU;show Ag st (s.b.asked++[eV s.b ((x.toNat%s.P:Nat):Int) ((x.toNat/s.P:Nat):Int) r ns]) S _ _=_;rw[Zq];by_cases c:y=x∧S (s.n:Int)=NU
 ·rw[if_pos c,if_pos ⟨by rw[c.1];~⟨U,U⟩,c.2⟩];rfl
 ·rw[if_neg c,if_neg]
  rintro⟨⟨z1,z2⟩,z3⟩
  have:=Kf (a:=x.toNat) (b:=y.toNat) z1 z2;~c ⟨by omega,z3⟩
B5 Ey.aGW(h:Ey st first evs s)(w:mJ s){x:Int}(h0:0≤x)(h1:x<(s.rs.length:Int))(hS:∀k,s.la.get x=NR k→S k=NU):gU st s.P s.b.asked S x=s.R x:=by
 have e:=w.las x.toNat A6;rw[show ((x.toNat:Nat):Int)=x by omega]at e;B4 gU Ag;rw[zQ s.b.asked (by rw[←e];~hS),Wb.R,(w.rcd x.toNat A6).1];B4 face;cases q:lastAt s.b.asked ((x.toNat%s.P:Nat):Int) ((x.toNat/s.P:Nat):Int)with
 | some k=>rfl
 | none=>have v:=h.lb.val (x.toNat%s.P) (x.toNat/s.P);B4 Ag at v;rw[zQ s.b.asked (by rw[q];~λk z=>nomatch z),q]at v;rw[C7,C7]at v ⊢;show val st _ _=val s.b.bB _ _;rw[v];rfl
B5 aDV{x:Int}{r ns:List Int}(h:Oz st first evs s ks)(h0:0≤x)(h1:x<(s.rs.length:Int))(hr:Kq s.rs.length r):∀k,k<(s.wr x r ns).n→Kq (s.wr x r ns).rs.length (at_ (s.wr x r ns).b.asked k).thing∧∃y:Nat,y<(s.wr x r ns).rs.length∧(at_ (s.wr x r ns).b.asked k).bY=((y%s.P:Nat):Int)∧(at_ (s.wr x r ns).b.asked k).place=((y/s.P:Nat):Int):=λk hk=>by
 rw[qe]at hk;rw[oR];show Kq _ (at_ (s.b.asked++[eV _ _ _ _ _]) k).thing∧∃y:Nat,_∧(at_ (s.b.asked++[eV _ _ _ _ _]) k).bY=_∧(at_ (s.b.asked++[eV _ _ _ _ _]) k).place=_;rcases G4 k s.n with z | z
 ·rw[gK z];~h.th k z
 ·have e:k=s.b.asked.length:=x4 (x5.mp hk) z;rw[e,mK];~⟨hr,x.toNat,by omega,U,U⟩
B5 aGX{x:Int}{r ns:List Int}(h:Oz st first evs s ks)(h0:0≤x)(h1:x<(s.rs.length:Int))(hr:Kq s.rs.length r):∀y,0≤y→y<((s.wr x r ns).rs.length:Int)→Kq (s.wr x r ns).rs.length ((s.wr x r ns).R y):=λy y0 y1=>by
 rw[oR]at y1 ⊢;rw[Et h0 h1 y0];split
 ·~hr
 ·~h.mr y y0 y1
B5 Row.one{row Ah:List Int}(h:Row st first evs s S row)(e:replay S (0::first) evs=NR (0::Ah)):Ah=row:=by have:=h.rep.symm.trans e;~(k9 (E6 this)).2.symm
B5 zq{x y:Int}{r ns:List Int}(w:mJ s):(s.wr x r ns).la.get y=if y=x then NR (s.n:Int)else s.la.get y:=Mp.mO w.lao.1 _ _ _
B5 aDW{m:Nat}{r:List Int}{y:Int}(h:Kq m r)(y0:0≤y)(y1:y<(m:Int)):Kq m (Od r y):=by B3⟨a,b,c,d,e,rfl,h1,h2,h3,h4,h5⟩:=h;~⟨a,y,c,d,e,U,y0,y1,h3,h4,h5⟩
B5 Kl{l:List Int}{f g:Int→Int}(h:∀x∈l,x≠0→f x=g x)(hn:∀y∈l.tail,y≠0)(hp:l.Pairwise (λx y=>x=0∨g x<g y)):l.Pairwise (λx y=>x=0∨f x<f y):=by
  induction l with
  | nil=>~.nil
  | cons a r ih=>
    B3⟨p1,p2⟩:=F6.mp hp;&F6.mpr ⟨λy hy=>?_,ih (λx hx=>h x (C6 _ hx)) (λy hy=>hn y (X5 hy)) p2⟩;by_cases c:a=0
    · ~.inl c
    · rcases p1 y hy with z | z
      · ~.inl z
      · right
        rw[h a C8 c,h y (C6 _ hy) (hn y hy)];~z
B5 Oz.rw(h:Oz st first evs s ks)(V:Ey st first evs s)(w:mJ s){x:Int}{r:List Int}(hx:x∈s.od)(hr:Kq s.rs.length r)(hk:r.getD 0 0=s.key x)(hn:r.getD 1 0=(s.R x).getD 1 0)(hs:qp r):Oz st first evs (s.wr x r (s.ns x [])) ks:=by
 have xr:=w.sV x hx;have x0:0≤x:=by omega
 have need:∀{S},Dn (s.wr x r (s.ns x [])).b.asked S→S (s.n:Int)=NU→(∀c,s.co.get x=NR c→S c=NU)∧∀k,s.la.get x=NR k→S k=NU:=λ{S} hD hS=>by B3⟨n1,n2⟩:=vY w x0 xr.2 hD hS;&⟨λc hc=>n1 c ?_,n2⟩;B4 Wb.ns;rw[hc];~F5 _ (D2.mpr U)
 have kk:∀y∈s.od,(s.wr x r (s.ns x [])).key y=s.key y:=λy hy=>by
  show ((s.wr x r (s.ns x [])).R y).getD 0 0=_;rw[Et x0 xr.2 (by have:=w.sV y hy;omega)];split
  ·rename_i e;rw[hk,e]
  ·rfl
 &⟨λS hD p hp hco hla hne c hc=>?_,λS hD y hy hco=>?_,λS hD row Rw=>?_,aDV h x0 xr.2 hr,aGX h x0 xr.2 hr⟩
 ·have Vq:Dn s.b.asked S:=Dn.init (cs:=s.b.asked) hD;have p0:0≤p:=by
   rcases hp with z | z
   ·omega
   ·have:=w.sV p z;omega
  have eR:((s.wr x r (s.ns x [])).R p).getD 1 0=(s.R p).getD 1 0:=by
   rw[Et x0 xr.2 p0];split
   ·rename_i e;rw[hn,e]
   ·rfl
  rw[eR]at hne hc;&h.fl S Vq p hp hco (λk hk'=>?_) hne c hc;by_cases e:p=x
  ·have hS:=hla _ (by rw[zq w,if_pos e]);rw[e]at hk';~(need hD hS).2 k hk'
  ·~hla k (by rw[zq w,if_neg e];~hk')
 ·rw[kk y hy];show (gU st s.P _ S y).getD 0 0=_;rw[Ei x0 (by have:=w.sV y hy;omega)];split
  ·rename_i q;rw[hk,q.1]
  ·~h.ky S (Dn.init (cs:=s.b.asked) hD) y hy hco
 ·have Vq:Dn s.b.asked S:=Dn.init (cs:=s.b.asked) hD;B3⟨aOJ,R0⟩:=V.rows S Vq;have er:=R0.one Rw.rep;subst er;B3⟨a1,a2,a3⟩:=h.rs S Vq row R0;have r0:∀y∈row,0≤y∧y≠0:=λy hy=>by have:=R0.bd y hy;omega
  have ek:∀y∈row,(gU st s.P (s.wr x r (s.ns x [])).b.asked S y).getD 0 0=(gU st s.P s.b.asked S y).getD 0 0:=λy hy=>by
   rw[Ei x0 (r0 y hy).1];split
   ·rename_i q;rw[hk,q.1,h.ky S Vq x hx (need hD q.2).1]
   ·rfl
  &⟨Kl (λy hy y0=>ek y ((B9.mp hy).resolve_left y0)) (λy hy=>(r0 y hy).2) a1,λy hy=>by
   show (gU st s.P _ S y).getD 0 0∈_;rw[ek y hy];~a2 y hy,λy hy=>?_⟩
  show qp (gU st s.P _ S y);rw[Ei x0 (r0 y hy).1];split
  ·~hs
  ·~a3 y hy
B5 Oz.ent(h:Oz st first evs s ks)(V:Ey st first evs s)(w:mJ s)(hlo:0<s.lo.length)(hm:s.n<123){k key was now:Int}(h0:0≤k)(h1:k≤(s.od.length:Int))(fit:s.Fits k key)(hw:-1≤was)(aIV:0≤now)(hks:s.rs.length≤ks.length) :
    Oz st first (evs++[⟨NU,(s.n+1:Nat),s.new,s.ahead k⟩]) (s.ent k key was now 0 []) (ks.set s.new.toNat (ks.getD s.new.toNat []++[key])):=by
  B3⟨b1,b2,b3,b4,b5⟩:=w.new hlo;B3⟨p1,p2,p3⟩:=w.ahead h0 h1;have w1:=w.e1 hlo A6 k key was now 0;have pb:s.ahead k≠s.new:=λz=>by
    rcases p1 with y | y
    · omega
    · ~b4 (z▸y)
  have hod:∀x,x∈s.od.take k.toNat++s.new::s.od.drop k.toNat↔x=s.new∨x∈s.od:=λx=>by
    conv=>rhs;rw[←M0 k.toNat s.od]
    simp only[F8,B9];constructor
    · rintro(z | z | z)
      · ~.inr (.inl z)
      · ~.inl z
      · ~.inr (.inr z)
    · rintro(z | z | z)
      · ~.inr (.inl z)
      · ~.inl z
      · ~.inr (.inr z)
  have hlen:=Ql s k key was now 0 [];have en:=aBp s k key was now 0;have e1l:(s.e1 k key was now 0).rs.length=s.rs.length:=oR _ _ _ _;have hc1:s.ahead k<((s.e1 k key was now 0).rs.length:Int):=by rw[e1l];~p3
  have co':∀x,(s.ent k key was now 0 []).co.get x=if x=s.new then NR ((s.n+1:Nat):Int)else s.co.get x:=λx=>Mp.mO w.coo.1 _ _ _;have la':∀x,(s.ent k key was now 0 []).la.get x=if x=s.ahead k then NR ((s.n+1:Nat):Int)else if x=s.new then NR (s.n:Int)else s.la.get x:=λx=>by have t1:(s.e1 k key was now 0).la.get x=if x=s.new then NR (s.n:Int)else s.la.get x:=zq w;have t2:=zq (s:=s.e1 k key was now 0) (x:=s.ahead k) (y:=x) (r:=Od ((s.e1 k key was now 0).R NY) s.new) (ns:=(s.e1 k key was now 0).ns NY [(s.n:Int)]) w1;rw[en,t1]at t2;~t2
  have R1p:(s.e1 k key was now 0).R NY=s.R NY:=(Et (ns:=(s.go.get s.new).toList) b5 b3 p2).trans (if_neg pb);have R2:∀y,0≤y→(s.ent k key was now 0 []).R y=if y=s.ahead k then Od (s.R NY) s.new else if y=s.new then [key,(s.R NY).getD 1 0,was,now,0]else s.R y:=λy hy=>by
    show ((s.e1 k key was now 0).wr NY (Od ((s.e1 k key was now 0).R NY) s.new) ((s.e1 k key was now 0).ns NY [(s.n:Int)])).R y=_;rw[Et p2 hc1 hy,R1p];split
    · rfl
    · ~Et (ns:=(s.go.get s.new).toList) b5 b3 hy
  have rX:∀{S:Int→Bool} y,0≤y→gU st s.P (s.ent k key was now 0 []).b.asked S y=if y=s.ahead k∧S ((s.n+1:Nat):Int)=NU then Od (s.R NY) s.new else if y=s.new∧S (s.n:Int)=NU then [key,(s.R NY).getD 1 0,was,now,0]else gU st s.P s.b.asked S y:=λ{S} y hy=>by have t1:gU st s.P (s.e1 k key was now 0).b.asked S y=if y=s.new∧S (s.n:Int)=NU then [key,(s.R NY).getD 1 0,was,now,0]else gU st s.P s.b.asked S y:=Ei b5 hy;have t2:=Ei (st:=st) (s:=s.e1 k key was now 0) (S:=S) (r:=Od ((s.e1 k key was now 0).R NY) s.new) (ns:=(s.e1 k key was now 0).ns NY [(s.n:Int)]) p2 hy;rw[en]at t2;~t2.trans (by rw[R1p,show gU st (s.e1 k key was now 0).P (s.e1 k key was now 0).b.asked S y=gU st s.P (s.e1 k key was now 0).b.asked S y from rfl,t1])
  have IR:Kq s.rs.length (s.R NY):=h.mr _ p2 p3;have ZG:0≤(s.R NY).getD 1 0∧(s.R NY).getD 1 0<(s.rs.length:Int):=by B3⟨a,b,c,d,e,q,q1,q2,_⟩:=IR;rw[q];~⟨q1,q2⟩
  have I1:Kq s.rs.length [key,(s.R NY).getD 1 0,was,now,0]:=⟨_,_,_,_,_,U,ZG.1,ZG.2,hw,by omega,by decide⟩
  have nd0:((0:Int)::s.od).Nodup:=F1.mpr ⟨λz=>by have:=w.sV 0 z;omega,w.Oc⟩;have nxm:∀p,p=0∨p∈s.od→(s.R p).getD 1 0≠s.new:=λp hp e=>by
    rcases V.mem.LK p (hp.elim (λz=>by rw[z];~C8) λz=>C6 _ z)with z | z
    · have z:(s.R p).getD 1 0=0:=z
      omega
    · have z:(s.R p).getD 1 0∈s.od:=z
      ~b4 (e▸z)
  have aDX:∀{S},Dn (s.ent k key was now 0 []).b.asked S→S ((s.n+1:Nat):Int)=NU→S (s.n:Int)=NU∧(∀c,s.co.get NY=NR c→S c=NU)∧∀j,s.la.get NY=NR j→S j=NU:=λ{S} hD c=>by
    have qu:=vY (s:=s.e1 k key was now 0) (x:=s.ahead k) (r:=Od ((s.e1 k key was now 0).R NY) s.new) (ns:=(s.e1 k key was now 0).ns NY [(s.n:Int)]) w1 p2 hc1 hD (by rw[en];~c);&⟨qu.1 _ (E5 _ C8),λc0 hc0=>qu.1 _ (F5 _ ?_),λj hj=>qu.2 j ?_⟩
    · rw[show (s.e1 k key was now 0).co.get NY=s.co.get (s.ahead k)from rfl,hc0]
      ~D2.mpr U
    · show (s.la.put s.new s.n).get NY=NR j
      rw[Mp.mO w.lao.1,if_neg pb];~hj
  have aDY:∀{S},Dn (s.ent k key was now 0 []).b.asked S→Dn s.b.asked S:=λ{S} hD=>Dn.init (cs:=s.b.asked) (Dn.init (cs:=(s.e1 k key was now 0).b.asked) hD);have rN:∀y,0≤y→(s.ent k key was now 0 []).key y=if y=s.new then key else s.key y:=λy hy=>by
    show ((s.ent k key was now 0 []).R y).getD 0 0=_;rw[R2 y hy];by_cases c:y=s.ahead k
    · rw[if_pos c,if_neg (by rw[c];~pb),c]
      rfl
    · rw[if_neg c]
      by_cases c2:y=s.new
      · rw[if_pos c2,if_pos c2];rfl
      · rw[if_neg c2,if_neg c2];rfl
  &⟨λS hD p hp hco hla hne c hc=>?_,λS hD y hy hco=>?_,λS hD Ah Rw=>?_,?_,?_⟩
  · have Vq:=aDY hD
    have hp:p=0∨p∈s.od.take k.toNat++s.new::s.od.drop k.toNat:=hp;rw[hod]at hp;have pz:0≤p:=by
      rcases hp with z | z | z
      · omega
      · omega
      · have:=w.sV p z;omega
    rw[R2 p pz]at hne hc;by_cases q:p=s.ahead k
    · rw[if_pos q]at hc
      have hS:=hla _ (by rw[la',if_pos q]);have hc:(s.ent k key was now 0 []).co.get s.new=NR c:=hc;rw[co',if_pos rfl]at hc;cases hc;~hS
    · rw[if_neg q]at hne hc
      by_cases q2:p=s.new
      · rw[if_pos q2]at hne hc
        have hS:=hco _ (by rw[co',if_pos q2]);B3⟨_,n2,n3⟩:=aDX hD hS;have hc:(s.ent k key was now 0 []).co.get ((s.R NY).getD 1 0)=NR c:=hc;have hne:(s.R NY).getD 1 0≠0:=hne;rw[co',if_neg (nxm _ p1)]at hc;~h.fl S Vq _ p1 n2 n3 hne c hc
      · rw[if_neg q2]at hne hc
        have hp0:p=0∨p∈s.od:=hp.imp id λz=>z.resolve_left q2;rw[co',if_neg (nxm p hp0)]at hc;~h.fl S Vq p hp0 (λc0 hc0=>hco c0 (by rw[co',if_neg q2];~hc0)) (λj hj=>hla j (by rw[la',if_neg q,if_neg q2];~hj)) hne c hc
  · have Vq:=aDY hD
    have hy:y∈s.od.take k.toNat++s.new::s.od.drop k.toNat:=hy;rw[hod]at hy;have yz:0≤y:=by
      rcases hy with z | z
      · omega
      · have:=w.sV y z;omega
    rw[rN y yz];show (gU st s.P _ S y).getD 0 0=_;rw[rX y yz];by_cases q2:y=s.new
    · have hS:=hco _ (by rw[co',if_pos q2])
      rw[if_neg λz:y=s.ahead k∧_=>pb (z.1.symm.trans q2),if_pos ⟨q2,(aDX hD hS).1⟩,if_pos q2];rfl
    · have hyo:=hy.resolve_left q2
      rw[if_neg q2];split
      · rename_i q
        rw[q.1];rfl
      · rw[if_neg λz:y=s.new∧_=>q2 z.1]
        ~h.ky S Vq y hyo λc0 hc0=>hco c0 (by rw[co',if_neg q2];~hc0)
  · have Vq:=aDY hD
    B3⟨row,R0⟩:=V.rows S Vq;B3⟨a1,a2,a3⟩:=h.rs S Vq row R0;have r0:∀y∈row,0≤y∧y≠0:=λy hy=>by have:=R0.bd y hy;omega
    have er:rep1 S (0::row) ⟨NU,(s.n+1:Nat),s.new,s.ahead k⟩=NR (0::Ah):=by have:=Rw.rep;rw[nF,R0.rep,C4]at this;~this
    have aKK:∀{y:Int} {z:Int},z∈ks.getD y.toNat []→z∈(ks.set s.new.toNat (ks.getD s.new.toNat []++[key])).getD y.toNat []:=λ{y z} hz=>by
      rw[lZ _ _ _ _ _ A6];split
      · rename_i e
        rw[e];~F5 _ hz
      · ~hz
    B4 rep1 at er;by_cases c:S ((s.n+1:Nat):Int)=NU
    · rw[if_pos c,if_pos rfl]at er
      split at er
      · cases er
      · rename_i q
        rw[not_or]at q;have bn:=q.1;have pm:s.ahead k∈(0:Int)::row:=Decidable.byContradiction q.2;have e:=E6 er;B3⟨n1,n2,n3⟩:=aDX hD c;have full:gU st s.P s.b.asked S NY=s.R NY:=V.aGW w p2 p3 n3;have nxf:Vl st s.P s.b.asked S NY=(s.R NY).getD 1 0:=V.full w p2 p3 n3;have hmem:∀x,x∈(0:Int)::Ah↔x=s.new∨x∈(0:Int)::row:=λx=>by rw[←e];~De pm
        have hmr:∀x∈Ah,x=s.new∨x∈row:=λx hx=>by
          have hx0:x≠0:=λz=>(F1.mp Rw.nd).1 (z▸hx)
          rcases(hmem x).mp (C6 _ hx)with z | z
          · ~.inl z
          · ~.inr ((B9.mp z).resolve_left hx0)
        have rb:gU st s.P (s.ent k key was now 0 []).b.asked S s.new=[key,(s.R NY).getD 1 0,was,now,0]:=by rw[rX _ b5,if_neg λz:s.new=s.ahead k∧_=>pb z.1.symm,if_pos ⟨U,n1⟩]
        have rp:∀y∈(0:Int)::row,0≤y→gU st s.P (s.ent k key was now 0 []).b.asked S y=if y=s.ahead k then Od (s.R NY) s.new else gU st s.P s.b.asked S y:=λy hy yz=>by
          rw[rX y yz];by_cases q:y=s.ahead k
          · rw[if_pos ⟨q,c⟩,if_pos q]
          · rw[if_neg λz:y=s.ahead k∧_=>q z.1,if_neg λz:y=s.new∧_=>bn (z.1▸hy),if_neg q]
        have ek:∀y∈row,(gU st s.P (s.ent k key was now 0 []).b.asked S y).getD 0 0=(gU st s.P s.b.asked S y).getD 0 0:=λy hy=>by
          rw[rp y (C6 _ hy) (r0 y hy).1];split
          · rename_i q
            rw[q,full];rfl
          · rfl
        &⟨?_,λx hx=>?_,λx hx=>?_⟩
        · rw[←e]
          &aDU (nx:=Vl st s.P s.b.asked S) (kf:=λx=>(gU st s.P (s.ent k key was now 0 []).b.asked S x).getD 0 0) ?_ ?_ (λy hy=>(r0 y hy).2) pm R0.pth (Kl (λy hy y0=>ek y ((B9.mp hy).resolve_left y0)) (λy hy=>(r0 y hy).2) a1)
          · rcases p1 with z | z
            · ~.inl z
            · right
              show (gU st s.P _ S NY).getD 0 0<(gU st s.P _ S s.new).getD 0 0;rw[rb,rp _ pm p2,if_pos rfl];show s.key NY<key;have hk0:0<k.toNat:=m9 λy=>by
                have e0:s.ahead k=0:=by B4 Wb.ahead;rw[y];rfl
                have:=w.sV _ z;omega
              &fit.1 _ (D6 (i:=k.toNat-1) ?_);rw[U6,if_pos A6];have gk:((0:Int)::s.od)[k.toNat]?=NR NY:=dU (d:=0) (by rw[E3];omega);rw[show k.toNat=(k.toNat-1)+1 by omega,R5]at gk;~gk
          · intro hne
            rw[nxf]at hne ⊢;have hmo:(s.R NY).getD 1 0∈s.od:=by
              rcases V.mem.LK (s.ahead k) (p1.elim (λz=>by rw[z];~C8) λz=>C6 _ z)with z | z
              · ~absurd z hne
              · ~z
            have aKL:(s.R NY).getD 1 0∈row:=by
              rcases R0.pth.LK _ pm with z | z
              · rw[nxf]at z
                ~absurd z hne
              · rw[nxf]at z
                ~z
            show (gU st s.P _ S s.new).getD 0 0<(gU st s.P _ S ((s.R NY).getD 1 0)).getD 0 0;rw[rb,ek _ aKL,h.ky S Vq _ hmo (h.fl S Vq _ p1 n2 n3 hne)];show key<s.key _;&fit.2 _ ?_;have gn:=V.mem.get k.toNat A6;have gn:(s.R NY).getD 1 0=(s.od++[0]).getD k.toNat 0:=gn;have kl:k.toNat<s.od.length:=by&Decidable.byContradiction λz=>hne ?_;rw[gn,B7,show k.toNat=s.od.length by omega,J7 (C9 _),S5];rfl
            rw[gn,B7,F9 kl,B6 kl];~D6 (i:=0) (by rw[U3,Nat.add_zero,B6 kl];rfl)
        · show (gU st s.P _ S x).getD 0 0∈_
          rcases hmr x hx with z | z
          · rw[z,rb,lZ _ _ _ _ _ A6,if_pos rfl]
            ~E5 _ (D2.mpr U)
          · rw[ek x z]
            ~aKK (a2 x z)
        · show qp (gU st s.P _ S x)
          rcases hmr x hx with z | z
          · rw[z,rb]
            ~λ_=>aIV
          · rw[rp x (C6 _ z) (r0 x z).1]
            split
            · rename_i q
              have:=a3 x z;rw[q,full]at this;~this
            · ~a3 x z
    · rw[if_neg c]at er
      have e:row=Ah:=(k9 (E6 er)).2;subst e;have fil:S (s.n:Int)=NU→s.new∉row:=λhS=>R0.out s.new b2 b3 b4 λg hg=>(vY (s:=s) (x:=s.new) (r:=[key,(s.R NY).getD 1 0,was,now,0]) (ns:=(s.go.get s.new).toList) w b5 b3 (Dn.init (cs:=(s.e1 k key was now 0).b.asked) hD) hS).1 g (by rw[hg];~D2.mpr U);have ek:∀y∈row,gU st s.P (s.ent k key was now 0 []).b.asked S y=gU st s.P s.b.asked S y:=λy hy=>by
        rw[rX y (r0 y hy).1,if_neg λz:y=s.ahead k∧_=>c z.2,if_neg]
        rintro⟨z1,z2⟩
        ~fil z2 (z1▸hy)
      &⟨Kl (λy hy y0=>by rw[show gU st (s.ent k key was now 0 []).P (s.ent k key was now 0 []).b.asked S y=_ from ek y ((B9.mp hy).resolve_left y0)]) (λy hy=>(r0 y hy).2) a1,λx hx=>?_,λx hx=>?_⟩
      · show (gU st s.P _ S x).getD 0 0∈_
        rw[ek x hx];~aKK (a2 x hx)
      · show qp (gU st s.P _ S x)
        rw[ek x hx];~a3 x hx
  · intro j hj
    have hj:j<(s.ent k key was now 0 []).n:=hj;rw[aDC]at hj;rw[hlen];show Kq _ (at_ ((s.e1 k key was now 0).b.asked++[eV _ _ _ _ _]) j).thing∧∃y:Nat,_∧(at_ ((s.e1 k key was now 0).b.asked++[eV _ _ _ _ _]) j).bY=_∧(at_ ((s.e1 k key was now 0).b.asked++[eV _ _ _ _ _]) j).place=_;have t1:=aDV (ns:=(s.go.get s.new).toList) h b5 b3 I1;rw[oR,qe]at t1;rcases G4 j (s.n+1)with z | z
    · rw[gK (show j<(s.e1 k key was now 0).b.asked.length by have:(s.e1 k key was now 0).b.asked.length=s.n+1:=en;omega)]
      ~t1 j z
    · have e:j=(s.e1 k key was now 0).b.asked.length:=by have:(s.e1 k key was now 0).b.asked.length=s.n+1:=en;omega
      rw[e,mK];&⟨?_,(s.ahead k).toNat,by omega,U,U⟩;show Kq _ (Od ((s.e1 k key was now 0).R NY) s.new);rw[R1p];~aDW IR b5 b3
  · intro y y0 y1
    rw[hlen]at y1 ⊢;rw[R2 y y0];split
    · ~aDW IR b5 b3
    · split
      · ~I1
      · ~h.mr y y0 y1
B5 Oz.out(h:Oz st first evs s ks)(V:Ey st first evs s)(w:mJ s)(hm:s.n<124){k x:Int}(h0:0≤k)(h1:k<(s.od.length:Int))(hx:s.od[k.toNat]?=NR x):Oz st first (evs++[⟨NV,(s.n:Int),x,0⟩]) (s.out k x []) ks:=by
 B3⟨p1,p2,p3⟩:=w.ahead h0 (M3 h1);have xm:x∈s.od:=D6 hx;have xr:=w.sV x xm;have hi:=Vd w.Oc hx;have hlen:=Qm s k x [];have px:(s.R NY).getD 1 0=x:=by have:=V.mem.get k.toNat A6;rw[B7 (l:=s.od++[0]),F9 A6,hx]at this;~this
 have hod:∀y,y∈s.od.eraseIdx k.toNat↔y∈s.od∧y≠x:=λy=>by rw[←hi];~Eg w.Oc
 have la':∀y,(s.out k x []).la.get y=if y=s.ahead k then NR (s.n:Int)else s.la.get y:=λy=>Mp.mO w.lao.1 _ _ _;have R2:∀y,0≤y→(s.out k x []).R y=if y=s.ahead k then Od (s.R NY) ((s.R x).getD 1 0)else s.R y:=λy hy=>Et (ns:=s.ns NY ((s.la.get x).toList++[])) p2 p3 hy;have rX:∀{S:Int→Bool} y,0≤y→gU st s.P (s.out k x []).b.asked S y=if y=s.ahead k∧S (s.n:Int)=NU then Od (s.R NY) ((s.R x).getD 1 0)else gU st s.P s.b.asked S y:=λ{S} y hy=>Ei p2 hy;have need:∀{S},Dn (s.out k x []).b.asked S→S (s.n:Int)=NU→(∀c,s.co.get NY=NR c→S c=NU)∧(∀j,s.la.get NY=NR j→S j=NU)∧∀j,s.la.get x=NR j→S j=NU:=λ{S} hD c=>by have qu:=vY (s:=s) (x:=s.ahead k) (r:=Od (s.R NY) ((s.R x).getD 1 0)) (ns:=s.ns NY ((s.la.get x).toList++[])) w p2 p3 hD c;&⟨λc0 hc0=>qu.1 _ (F5 _ ?_),qu.2,λj hj=>qu.1 _ (E5 _ (F5 _ (by rw[hj];~D2.mpr U)))⟩;rw[hc0];~D2.mpr U
 have aDZ:∀{S},Dn (s.out k x []).b.asked S→Dn s.b.asked S:=λ{S} hD=>Dn.init (cs:=s.b.asked) hD;have IR:Kq s.rs.length (s.R NY):=h.mr _ p2 p3;have ZG:0≤(s.R x).getD 1 0∧(s.R x).getD 1 0<(s.rs.length:Int):=by B3⟨a,b,c,d,e,q,q1,q2,_⟩:=h.mr x A6 xr.2;rw[q];~⟨q1,q2⟩
 have I1:=aDW IR ZG.1 ZG.2;have rN:∀y,0≤y→(s.out k x []).key y=s.key y:=λy hy=>by
  show ((s.out k x []).R y).getD 0 0=_;rw[R2 y hy];split
  ·rename_i e;rw[e];rfl
  ·rfl
 &⟨λS hD p hp hco hla hne c hc=>?_,λS hD y hy hco=>?_,λS hD Ah Rw=>?_,?_,?_⟩
 ·have Vq:=aDZ hD;have hp0:p=0∨p∈s.od:=hp.imp id λz=>((hod p).mp z).1;have pz:0≤p:=by
   rcases hp0 with z | z
   ·omega
   ·have:=w.sV p z;omega
  have hc:s.co.get (((s.out k x []).R p).getD 1 0)=NR c:=hc;rw[R2 p pz]at hne hc;by_cases q:p=s.ahead k
  ·rw[if_pos q]at hne hc;have hS:=hla _ (by rw[la',if_pos q]);B3⟨n1,n2,n3⟩:=need hD hS;have cx:=h.fl S Vq _ p1 n1 n2 (by rw[px];omega);rw[px]at cx;have hc:s.co.get ((s.R x).getD 1 0)=NR c:=hc;have hne:(s.R x).getD 1 0≠0:=hne;~h.fl S Vq x (.inr xm) cx n3 hne c hc
  ·rw[if_neg q]at hne hc;~h.fl S Vq p hp0 hco (λj hj=>hla j (by rw[la',if_neg q];~hj)) hne c hc
 ·have hy:y∈s.od.eraseIdx k.toNat:=hy;have hyo:=((hod y).mp hy).1;have yz:0≤y:=by have:=w.sV y hyo;omega
  rw[rN y yz];show (gU st s.P _ S y).getD 0 0=_;rw[rX y yz];split
  ·rename_i q;rw[q.1];rfl
  ·~h.ky S (aDZ hD) y hyo hco
 ·have Vq:=aDZ hD;B3⟨row,R0⟩:=V.rows S Vq;B3⟨a1,a2,a3⟩:=h.rs S Vq row R0;have r0:∀y∈row,0≤y∧y≠0:=λy hy=>by have:=R0.bd y hy;omega
  have er:rep1 S (0::row) ⟨NV,(s.n:Int),x,0⟩=NR (0::Ah):=by have:=Rw.rep;rw[nF,R0.rep,C4]at this;~this
  B4 rep1 at er;have sub:((0:Int)::Ah).Sublist (0::row):=by
   by_cases c:S (s.n:Int)=NU
   ·rw[if_pos c,if_neg E8]at er;split at er
    ·cases er
    ·rw[←E6 er];~n9
   ·rw[if_neg c]at er;rw[←E6 er];~List.Sublist.refl _
  have hsub:∀y∈Ah,y∈row:=λy hy=>by have hy0:y≠0:=λz=>(F1.mp Rw.nd).1 (z▸hy);~(B9.mp (sub.subset (C6 _ hy))).resolve_left hy0
  have ek:∀y∈row,gU st s.P (s.out k x []).b.asked S y=if y=s.ahead k∧S (s.n:Int)=NU then Od (gU st s.P s.b.asked S y) ((s.R x).getD 1 0)else gU st s.P s.b.asked S y:=λy hy=>by
   rw[rX y (r0 y hy).1];split
   ·rename_i q;rw[q.1,V.aGW w p2 p3 (need hD q.2).2.1]
   ·rfl
  have ekk:∀y∈row,(gU st s.P (s.out k x []).b.asked S y).getD 0 0=(gU st s.P s.b.asked S y).getD 0 0:=λy hy=>by
   rw[ek y hy]
   split<;>rfl
  &⟨Kl (λy hy y0=>ekk y (hsub y ((B9.mp hy).resolve_left y0))) (λy hy=>(r0 y (hsub y hy)).2) (a1.sublist sub),λy hy=>?_,λy hy=>?_⟩
  ·show (gU st s.P _ S y).getD 0 0∈_;rw[ekk y (hsub y hy)];~a2 y (hsub y hy)
  ·show qp (gU st s.P _ S y);rw[ek y (hsub y hy)];split
   ·~a3 y (hsub y hy)
   ·~a3 y (hsub y hy)
 ·have t1:=aDV (ns:=s.ns NY ((s.la.get x).toList++[])) h p2 p3 I1;~t1
 ·~aGX (ns:=s.ns NY ((s.la.get x).toList++[])) h p2 p3 I1
B5 Oz.cv(h:Oz st first evs s ks)(r:List Int):Oz st first evs (s.cv r) ks:=by have ea:(s.cv r).b.asked=s.b.asked:=iQ r s.b;have eP:(s.cv r).P=s.P:=(kE r s.b).1;have en:(s.cv r).n=s.n:=congrArg f7 ea;&⟨by rw[ea];~h.fl,by rw[ea,eP];~h.ky,λS hD row Rw=>?_,by rw[ea,eP,en];~h.th,h.mr⟩;rw[ea]at hD;rw[ea,eP];~h.rs S hD row ⟨Rw.rep,Rw.nd,Rw.bd,by have:=Rw.pth;rw[ea,eP]at this;~this,Rw.ins,Rw.out⟩
end
B5 zu{f1 f2 f3:FE}{e:DE}{a b c:Int}(h1:f1 e=NR (.int a))(h2:f2 e=NR (.int b))(h3:f3 e=NR (.int c)):We QH QH f1 f2 f3 e=NR (decide (a≤b)&&decide (b≤c)):=by
 B4 We;rw[h1,h2,h3];dsimp only[C4];rw[Dv,C4];by_cases q:a≤b
 ·rw[decide_eq_true q];dsimp only;rw[Dv];rfl
 ·rw[decide_eq_false q];rfl
B5 aFY{f1 f2 f3:FE}{e:DE}{a b c:Int}(h1:f1 e=NR (.int a))(h2:f2 e=NR (.int b))(h3:f3 e=NR (.int c)):jk QH QH f1 f2 f3 e=NR (.bl (decide (a≤b)&&decide (b≤c))):=by B4 jk;rw[zu h1 h2 h3];rfl
B5 aFZ{f1 f2 f3:FE}{e:DE}{a b c:Int}(h1:f1 e=NR (.int a))(h2:f2 e=NR (.int b))(h3:f3 e=NR (.int c)):jk QH gw f1 f2 f3 e=NR (.bl (decide (a≤b)&&decide (b<c))):=by B4 jk;rw[Qj h1 h2 h3];rfl
B5 aF0{s:List OR}{R:Nat}(hl:1≤s.length)(h8:s.length≤8)(hR1:1≤R)(hR:R≤8)(h:∀q∈s,q.length=R+1):Jr [bJ s]=NR (.bl NU):=by
 suffices hh:∃d,Jr [bJ s]=NR d∧d=.bl NU by B3⟨d,h1,rfl⟩:=hh;~h1
 &oM U ?_;B4 zb;have e0:s[0]?=NR s[0]:=B6 hl;have l0:=h _ (L0 hl);have ix0:=xU e0;&wY (b:=NV) ((Yl (pZ (b:=NU) (cB (Dy U U)))).trans ((pZ (zu (a:=1) (b:=s.length) (c:=8) U (cV (aA U U) (xV s)) U)).trans ?_)) U (yS ?_)
 ·rw[decide_eq_true (show (1:Int)≤s.length by omega),decide_eq_true (show (s.length:Int)≤8 by omega)];rfl
 have hc1:eE (kO (aD 0)) [] gP (Sx "list" (aD 0)) (rE [.fro (bJ s)])=NR (.lst (s.map λq=>D.bl ((λ_=>NU) q))):=
  mC (xs:=s) (ψ:=eN) (φ:=λ_=>D.bl NU) (gD U) A6 λq _=>Dy U U
 &wY (pZ (cB (cV (aA hc1 U) (Jg (λ_=>NU) s)))) (by simp) (yS ?_);have hc2:eE (kO (aD 0)) [0] gP (f2 Fv (fL gZ OK) (fL gZ (aB (f2 cW (aD 1) Nw) aL))) (rE [.fro (bJ s)])=NR (.lst (s.map λq=>D.bl ((λ_=>NU) q))):=by&mC (xs:=s) (ψ:=eN) (φ:=λ_=>D.bl NU) (gD U) A6 λq hq=>?_;&(aJ (cV (aA U U) (rQ q)) (cV (aA (aJ U U ix0) U) (rQ _)) (kZ _ _)).trans ?_;rw[decide_eq_true (by rw[h q hq,l0])]
 &pL (UT (aFY (a:=2) (c:=9) U (cV (aA (aJ U U ix0) U) (rQ _)) U) (cV (aA hc2 U) (Jg (λ_=>NU) s))) ⟨_,U,?_⟩;rw[l0,decide_eq_true (show (2:Int)≤((R+1:Nat):Int) by omega),decide_eq_true (show ((R+1:Nat):Int)≤9 by omega)];simp
B5 qw(n:Int):By [.int n]=NR (.bl NU):=lW U (gB (tL (Dy U U) (aC9 (b:=NV) (Dy U U))))
B5 Qn{α:Type}(l:List α):Sg [.lst (l.map λ_=>D.bl NU)]=NR (.bl NU):=(Jg (λ_=>NU) l).trans (by simp)
B5 Oh{t:List Int}{n:Int}(h:t.length≤1000)(hn:n=t.length):uC [dTup t,.int n]=NR (.bl NU):=by
 have hc:eE (kO (aD 0)) [] gP (cJ 1 By OK) (rE [.fro (dTup t),.fro (.int n)])=NR (.lst (t.map λ_=>D.bl NU)):=
  mC (xs:=t) (ψ:=D.int) (φ:=λ_=>D.bl NU) (UW U) h λq _=>bM (aA U U) U (qw q)
 &lW U (gB (tL (Dy U U) (tL ?_ (cV (aA hc U) (Qn t)))));&(aJ (b:=.int n) (cV (aA (a:=dTup t) U U) (Tu _)) U (kZ _ _)).trans ?_;rw[B8,hn,decide_eq_true rfl]
B5 aBv{x:Int}(h:0≤x):Qk [dTup [x]]=NR (.bl NU):=
 lW U (gB (tL (bM (aA U (aA U U)) U (Oh (t:=[x]) (O2 U) U)) ((aJ (aJ U U U) U (yP x 0)).trans (by rw[decide_eq_true h]))))
B5 aD0{m:Nat}{r:List Int}(h:Kq m r):uD [dTup r,.int m]=NR (.bl NU):=by
 B3⟨a,b,c,d,e,rfl,h1,h2,h3,h4,h5⟩:=h
 suffices hh:∃y,uD [dTup [a,b,c,d,e],.int m]=NR y∧y=.bl NU by B3⟨y,h1,rfl⟩:=hh;~h1
 &oM U ?_;B4 Zc;&wY (b:=NV) (pZ (b:=NU) (cB (bM (aA U (aA U U)) U (Oh (t:=[a,b,c,d,e]) (n:=5) (O2 U) U)))) U (yS ?_);&pL (d:=.bl NU) (tL ((aFZ (a:=0) (b:=b) (c:=m) U U U).trans ?_) (tL ((aJ U U (yP c (-1))).trans ?_) (tL ((aJ U U (yP d (-1))).trans ?_) ((aJ U U (yP e 0)).trans ?_)))) ⟨_,U,U⟩
 ·rw[decide_eq_true h1,decide_eq_true h2];rfl
 ·rw[decide_eq_true h3]
 ·rw[decide_eq_true h4]
 ·rw[decide_eq_true h5]
B5 aF1{q:List Nd}{x:Int}{m:Nat}(hq:∀t∈q,Kq m t)(hx:0≤x)(hl:q.length≤8):rJ [eN (q++[[x]]),.int m]=NR (.bl NU):=by
 have ep:(q++[[x]]).map dTup=q.map dTup++[dTup [x]]:=J6;have hc:eE (kO (ao NV (aD 0) (Bc) (mV (yM OA)))) [1] gP (cJ 2 uD (aB (aD 0) OV)) (rE [.fro (eN (q++[[x]])),.fro (.int m)])=NR (.lst (q.map λ_=>D.bl NU)):=by&mC (xs:=q) (ψ:=dTup) (φ:=λ_=>D.bl NU) (gD ((jq (lo:=none) (hi:=NR (-1)) U U (wZ (qC U)) (.inl U)).trans ?_)) A6 λt ht=>bM (aA U (aA U U)) U (aD0 (hq t ht));rw[VG,ep,List.dropLast_concat]
 &lW U (gB (tL (bM (aA (aJ (b:=.int (-1)) U (qC U) (GX (x:=dTup [x]) ?_)) U) U (aBv hx)) (cV (aA hc U) (Qn q))));rw[ep,S9]
B5 aI2{α:Type}(l:List α):aE1 [.lst (l.map λ_=>D.bl NV)]=NR (.bl NV):=by show (zT (l.map λx=>D.bl ((λ_=>NV) x))).map _=_;rw[Ld];show NR (D.bl ((l.map λ_=>NV).any id))=_;rw[List.any_map];simp
B5 Vm{c:D→D→Option Bool}{el:D→D→Option D}:∀{xs:List (D×D)},(∀p∈xs,c p.1 p.2=NR NU)→(∀p∈xs,el p.1 p.2=NR (.bl NU))→Bj c el xs=NR (xs.map λ_=>.bl NU)
 | [],_,_=>rfl
 | (x,y)::r,h1,h2=>by B4 Bj;rw[h1 (x,y) C8,C4,if_pos U,h2 (x,y) C8,C4,Vm (λp hp=>h1 p (C6 _ hp)) λp hp=>h2 p (C6 _ hp)];rfl
B5 aF2{α:Type}(l:List α):wC l (NR 1) none=l.drop 1:=by
 cases l with
 | nil=>rfl
 | cons a r=>~aIB (c:=1) (by simp)
section
variable{P R:Nat}{rs:List Nd}{aQ od:List Int}
B5 Built.aBo(h:Built P R rs od):od.length≤64:=by
 have:=nM (P*R) od h.Oc λx hx=>by have:=h.sV x hx;omega
 have:P*R≤8*8:=Q6 h.p8 h.r8;omega
B5 qy(B:Cz P R rs aQ od):nA [bJ OF]=NR (.bl NU):=by
 suffices hh:∃y,nA [bJ OF]=NR y∧y=.bl NU by B3⟨y,h1,rfl⟩:=hh;~h1
 have b:=B.b;have o64:=b.aBo;have hm0:0<P*R:=T2 b.p1 b.r1;&oM U ?_;B4 Bw;&cD (d:=aN od) (bM (aA U U) U (Ng b.p1 b.p8 b.r1 b.chain b.sV b.Oc o64)) A9 ?_;B3⟨key,was,now,gF,e⟩:=b.chain od.length (C9 _);have hy:(0:Int)≤([0]++od).getD od.length 0∧([0]++od).getD od.length 0<((P*R:Nat):Int):=by
  have:=getD_mem (l:=[0]++od) (k:=od.length) (by simp);rcases B9.mp this with z | z
  ·rw[z];omega
  ·have:=b.sV _ z;omega
 have e0:(od++[0]).getD od.length 0=0:=by rw[B7,J7 (C9 _),S5];rfl
 have aD1:cW (aN ([0]++od)) (.int (-1))=NR (.int (([0]++od).getD od.length 0)):=GX (by
  rw[Y8,U0,show ([(0:Int)]++od).length-1=od.length by simp,dU (d:=(0:Int)) (by simp)]
  rfl)
 &wY (b:=NV) ((cB (aJ (aJ (bM (aA U (aA (aJ (aJ (a:=aN [0]) (iD (aA U U) A8) U (aIR od A6)) (qC U) aD1) U)) U (Vg b.p1 b.p8 hy.1 hy.2 e)) U U) U (Dw _ _))).trans (by rw[e0,decide_eq_true rfl];rfl)) U (yS ?_);have hrec:∀x∈od,∃a b c d e:Int,rs.getD x.toNat []=[a,b,c,d,e]∧(e=0→0≤d):=λx hx=>by have x1:=b.sV x hx;B3⟨a,b,c,d,e,q,_⟩:=B.rec_ x.toNat A6;have:=B.snd x hx;rw[q]at this;~⟨a,b,c,d,e,q,this⟩
 have hat:∀x∈od,rs[x.toNat]?=NR (rs.getD x.toNat []):=λx hx=>by have x1:=b.sV x hx;~dU (by rw[b.len];omega)
 &cD (d:=.lst (od.map λx=>dTup (rs.getD x.toNat []))) (mC (xs:=od) (ψ:=D.int) (φ:=λx=>dTup (rs.getD x.toNat [])) (gD U) A6 λx hx=>by
  have x1:=b.sV x hx;~bM (aA U (aA U U)) U (Vg b.p1 b.p8 A6 x1.2 (hat x hx))) A9 ?_
 have hc1:eE (kO (aD 2)) [] gP (qL (f2 Fv (f2 cW (aD 0) (fC (.int (4)))) Nw) (f2 Fv (f2 cW (aD 0) (fC (.int (3)))) (fC (.int (-1))))) (rE [.fro (bJ OF),.own (aN od),.own (.lst (od.map λx=>dTup (rs.getD x.toNat [])))])=NR (.lst (od.map λ_=>D.bl NV)):=by
  &mC (xs:=od) (ψ:=λx=>dTup (rs.getD x.toNat [])) (φ:=λ_=>D.bl NV) (gD U) A6 λx hx=>?_;B3⟨a,b,c,d,e,q,q2⟩:=hrec x hx;rw[q];&(UT (aJ U U (kZ e 0)) (aJ U U (kZ d (-1)))).trans ?_;by_cases z:e=0
  ·rw[decide_eq_false (show ¬d=-1 by have:=q2 z;omega),i5]
  ·rw[decide_eq_false z,x9]
 &wY (b:=NV) (cB (cV (aA hc1 U) (aI2 od))) U (yS ?_);have hz:Lp (aD 2) (ao NV (aD 2) (mV OA) (Bc)) [] gP (f2 gw (f2 cW (aD 0) (fC (.int (0)))) (f2 cW (aD 1) (fC (.int (0))))) (rE [.fro (bJ OF),.own (aN od),.own (.lst (od.map λx=>dTup (rs.getD x.toNat [])))])=NR (.lst (((od.map λx=>dTup (rs.getD x.toNat [])).zip ((od.map λx=>dTup (rs.getD x.toNat [])).drop 1)).map λ_=>.bl NU)):=by
  have hs:=jq (b:=NV) (f:=aD 2) (l:=mV OA) (h:=Bc) (e:=rE [.fro (bJ OF),.own (aN od),.own (.lst (od.map λx=>dTup (rs.getD x.toNat [])))]) (lo:=NR 1) (hi:=none) (ds:=od.map λx=>dTup (rs.getD x.toNat [])) U (wZ U) U (.inl U);rw[aF2]at hs;B4 Lp;rw[show aD 2 (rE [.fro (bJ OF),.own (aN od),.own (.lst (od.map λx=>dTup (rs.getD x.toNat [])))])=NR (.lst (od.map λx=>dTup (rs.getD x.toNat [])))from rfl,C4,hs,C4];dsimp only;rw[if_pos (by rw[B8];omega),Vm Nc λp hp=>?_]
  ·rfl
  B3⟨i,hi,ei⟩:=G6 hp;rw[T9,O1,B8]at hi;have hi0:i<od.length:=by omega
  have hi1:i+1<od.length:=by omega
  rw[t7,a7,p6,a7]at ei;have e2:od[1+i]=od[i+1]:=by congr 1;omega
  have hk:=J8.mp b.key i (i+1) hi0 hi1 A6;B3⟨a1,a2,a3,a4,a5,q1,_⟩:=hrec od[i] (L0 hi0);B3⟨c1,c2,c3,c4,c5,q2,_⟩:=hrec od[i+1] (L0 hi1);rw[←ei];dsimp only;rw[e2,q1,q2];rw[q1,q2]at hk;~(aJ U U (vI a1 c1)).trans (by rw[decide_eq_true (show a1<c1 from hk)])
 ~pL (cV (aA hz U) (Qn _)) ⟨_,U,U⟩
B5 aD2(B:Cz P R rs aQ od):xM [bJ OF]=NR (.bl NU):=by
 suffices hh:∃y,xM [bJ OF]=NR y∧y=.bl NU by B3⟨y,h1,rfl⟩:=hh;~h1
 have b:=B.b;have hl:=pI P R rs aQ;have p1:=b.p1;have p8:=b.p8;&oM U ?_;B4 WQ;&wY (b:=NV) (pZ (b:=NU) (cB (bM (aA U U) U (aF0 (R:=R) A6 A6 b.r1 b.r8 λq hq=>Kh hq)))) U (yS ?_);&cD (d:=.int (P*R:Nat)) (bM (aA U U) U (zm p1 p8)) A9 ?_;have hc:eE (kO (aD 0)) [1] gP (cJ 2 rJ (aB (aD 0) OV)) (rE [.fro (bJ OF),.own (.int (P*R:Nat))])=NR (.lst ((aU P R rs aQ).map λ_=>D.bl NU)):=by&mC (xs:=aU P R rs aQ) (ψ:=eN) (φ:=λ_=>D.bl NU) (gD U) A6 λq hq=>?_;B4 aU at hq;B3⟨p,hp,rfl⟩:=J4.mp hq;have hp:=F7.mp hp;&bM (aA U (aA U U)) U (aF1 (λt ht=>?_) (B.sel p hp) (by rw[B8,E1];~b.r8));B3⟨r,hr,rfl⟩:=J4.mp ht;~B.rec_ _ (KR hp (F7.mp hr))
 ~pL (tL (cV (aA hc U) (Qn _)) (bM (aA U U) U (qy B))) ⟨_,U,U⟩
end
B5 aF3(a b:Str):Fv (.str a) (.str b)=NR (.bl (a==b)):=by B4 Fv;show (if aAk (V.str a) (V.str b)=NU then _ else _)=_;rw[show aAk (V.str a) (V.str b)=NU from rfl,if_pos U,BK]
B5 aKM:(("in" : Str)==("in" : Str))=NU:=by simp
B5 aI3:(("out" : Str)==("in" : Str))=NV:=by decide +kernel
def qz(e:Ev):D:=.tup [.str (if e.i=NU then "in" else "out"),.int e.n,.int e.b,.int e.a]
B5 aF4{is:List Nat}{g:GS}{ds xs:List D}{env env':EN}(hl:is.length=ds.length∧is.all (λi=>decide (i<env.length))=NU)(h:g (Gg env is ds)=.next env'):Wi is g (.tup ds::xs) env=Wi is g xs env':=by
 show (if is.length=ds.length∧is.all (λi=>decide (i<env.length))=NU then(match g (Gg env is ds)with
   | .next env'=>Wi is g xs env'
   | .cont env'=>Wi is g xs env'
   | .brk env'=>.next env'
   | r=>r)else .bad)=_
 rw[if_pos hl,h]
B5 aF5{l:List Int}{x:Int}(h:x∈l):Bh (aN l) (.int x)=NR (.int (l.idxOf x:Nat)):=by B4 Bh aN;dsimp only;rw[lM,C4,if_pos h]
B5 aF6{ps:List OR}{row:List Int}{m R:Nat}(hP:0<ps.length)(hP8:ps.length≤8)(hm:m=ps.length*R)(hR8:R≤8)(hR:(ps.getD 0 []).length=R+1)(hv:∀k,k<m→2≤(val ps (k%ps.length) (k/ps.length)).length)(nd:((0:Int)::row).Nodup)(bd:∀x∈row,1≤x∧x<(m:Int))(hm0:0<m)
  (hp:Ai (λx=>(val ps (x.toNat%ps.length) (x.toNat/ps.length)).getD 1 0) (0::row)):vN [jM ps]=NR (aN row):=by
 suffices hh:∃d,vN [jM ps]=NR d∧d=aN row by B3⟨d,e,rfl⟩:=hh;~e
 have hrl:row.length<m:=by
  have:=nM m (0::row) nd λx hx=>by
   rcases B9.mp hx with z | z
   ·omega
   ·have:=bd x z;omega
  rw[E3]at this;omega
 have aDK:m≤64:=by rw[hm];~Q6 hP8 hR8
 have hPR:(ps.length:Int)*((((ps.getD 0 []).length:Nat):Int)-1)=(m:Int):=by rw[hR,hm,U1];congr 1;omega
 have hix:∀{env:EN} {f:FE} {x:Int},(rE env)[0]?=NR (NR (jM ps))→f (rE env)=NR (.int x)→0≤x→x<(m:Int)→f2 cW (f2 cW (f2 cW (aD 0) (f2 gH f (fL gZ OK))) (f2 rR f (fL gZ OK))) OA (rE env)=NR (.int ((val ps (x.toNat%ps.length) (x.toNat/ps.length)).getD 1 0)):=by
  intro env f x he hf x0 x1;B3⟨e1,e2⟩:=divmod (P:=ps.length) x0;have hv:=hv x.toNat A6;have hml:=R8 x.toNat hP;have hdl:x.toNat/ps.length<(ps.getD (x.toNat%ps.length) []).length:=by&Decidable.byContradiction λz=>?_;B4 val at hv;rw[B7 (l:=ps.getD (x.toNat%ps.length) []),D9 A6]at hv;simp at hv
  have hL:=cV (aA (nJ he) VD) (xT ps);&aJ (aJ (aJ (nJ he) (aJ hf hL (bI A6)) (by rw[e1];~xR (O3 _) A6)) (aJ hf hL (fD A6 A6)) (by rw[e2];~Va (O3 _) (by rw[C7];omega))) U ?_;rw[C7,C7];~pN (k:=1) (by B4 val at hv;omega)
 &oM U ?_;B4 yw;&cD (d:=.int m) ((aJ (cV (aA U U) (xT ps)) (aJ (cV (aA (aJ U U (xR A8 A6)) U) (rQ _)) U (lX _ _)) (gC (Ep A6 A6))).trans (by rw[←hPR];rfl)) A9 ?_;&cD (iD U A8) A9 ?_;have hg:=hp.get;have h00:f2 cW (f2 cW (f2 cW (aD 0) Nw) Nw) OA (rE [.fro (jM ps),.own (.int m),.own (.lst []),.no,.no])=NR (.int ((row++[0]).getD 0 0)):=by have hv:=hv 0 hm0;rw[Nat.zero_mod,Nat.zero_div]at hv;have e0:=hg 0 (L5 _);have e0:(val ps (0%ps.length) (0/ps.length)).getD 1 0=(row++[0]).getD 0 0:=e0;rw[Nat.zero_mod,Nat.zero_div]at e0;rw[←e0];~aJ (aJ (aJ U U (xR A8 A6)) U (Va A8 (by rw[show (0:Int).toNat=0 from rfl,hR];omega))) U (pN (k:=1) (by B4 val at hv;~hv))
 &cD (bD h00 U) A9 ?_;&qt (n:=m+1) (λk env=>k≤row.length∧∃v4,env=[.fro (jM ps),.own (.int m),.own (aN (row.take k)),.own (.int ((row++[0]).getD k 0)),v4]) (yU (aA ((aJ U U (bZ _ _)).trans (by rw[Int.natCast_succ])) U) A6) ⟨L5 _,_,U⟩ ?_ ?_
 ·rintro k env hk ⟨hkr,v4,rfl⟩;&⟨by walk_at "lt", ?_⟩;by_cases c:k=row.length
  ·have ez:(row++[0]).getD k 0=0:=by rw[c,B7,J7 (C9 _),S5];rfl
   rw[ez];&aGL (cB (aJ U U (kZ _ _))) (decide_eq_true U) ?_;rw[Jd (Yn (i:=2) U),c,P1];~.inr ⟨_,U,_,U,U⟩
  ·have hlt:k<row.length:=by omega
   have ek:(row++[0]).getD k 0=row[k]:=by rw[B7,F9 hlt,B6 hlt];rfl
   have hb:=bd row[k] (L0 hlt);have en:=hg (k+1) A6;rw[show ((0:Int)::row).getD (k+1) 0=row[k] by rw[B7,R5,B6 hlt];rfl]at en;rw[ek];&wY (cB (aJ U U (kZ _ _))) (decide_eq_false A6) (yS ?_);&wY (b:=NV) ((Yl (pZ (b:=NU) (cB (Dy U U)))).trans ((Yl ((cB (aJ U U (vI _ _))).trans (congrArg NR (decide_eq_false A6)))).trans ((cB (aJ U U (yP _ _))).trans (congrArg NR (decide_eq_false A6))))) U (yS ?_);&aKv (ds:=(row.take k).map D.int) U (bD U U) (by rw[B8,G7];omega) ?_;rw[yR,show row.take k++[row[k]]=row.take (k+1) by rw[Q2,B6 hlt];rfl];&jo (bD (hix (x:=row[k]) U U A6 hb.2) U) A9 (.inl ⟨_,U,hlt,.fro (.int k),?_⟩);rw[←en];rfl
 ·rintro env ⟨hk,_⟩;omega
B5 Zr{s:Wb}{at_ c:Int}(ho:0<s.od.length)(hlk:(s.od.map s.key).length=s.od.length)(Vn:∀i j,i<j→j<s.od.length→(s.od.map s.key).getD i 0<(s.od.map s.key).getD j 0)(ZQ:∀{j:Nat} {x:Int},x∈s.od.take j→∃i,i<j∧i<s.od.length∧s.key x=(s.od.map s.key).getD i 0)(Zt:∀{j:Nat} {x:Int},x∈s.od.drop j→∃i,j≤i∧i<s.od.length∧s.key x=(s.od.map s.key).getD i 0)(p50:(0:Int)<10 ^ (50:Int).toNat) :
  Qs (λr=>∃d,r=.ret d∧∃key k:Int,d=.int key∧0≤k∧k≤(s.od.length:Int)∧s.Fits k key) (eY (f2 eX (f2 eX (f2 cW (aD 0) (yM OA)) OA) (f2 gH (aD 2) (f2 Ek (fC (.int 10)) (fC (.int 50))))) [.fro (aN (s.od.map s.key)),.fro (.int at_),.fro (.int c)]):=by
 have m0:=F2 c (show (10 ^ (50:Int).toNat:Int)≠0 by omega);have aD1:cW (aN (s.od.map s.key)) (.int (-1))=NR (.int ((s.od.map s.key).getD (s.od.length-1) 0)):=by&GX ?_;rw[Y8,U0,hlk,dU (d:=0) A6];rfl
 &pL (aJ (aJ (aJ U (qC U) aD1) U (bZ _ _)) (aJ U (aJ U U (pA ⟨by decide,by decide,by decide⟩)) (bI p50)) (bZ _ _)) ⟨_,U,_,(s.od.length:Int),U,by omega,g6 _,λx hx=>?_,λx hx=>?_⟩
 ·B3⟨i,i1,i2,e⟩:=ZQ hx;rw[e];rcases G4 i (s.od.length-1)with z | z
  ·have:=Vn i (s.od.length-1) z A6;omega
  ·rw[show i=s.od.length-1 by omega];omega
 ·B3⟨i,i1,i2,e⟩:=Zt hx;omega
B5 aF8{s:Wb}(h:mJ s){at_ c:Int}(a0:0≤at_)(a1:at_≤(s.od.length:Int)):∃key k:Int,Jl [aN (s.od.map s.key),.int at_,.int c]=NR (.int key)∧0≤k∧k≤(s.od.length:Int)∧s.Fits k key:=by
 suffices hh:∃d,Jl [aN (s.od.map s.key),.int at_,.int c]=NR d∧∃key k:Int,d=.int key∧0≤k∧k≤(s.od.length:Int)∧s.Fits k key by B3⟨d,e,key,k,rfl,q⟩:=hh;~⟨key,k,e,q⟩
 have p58:(0:Int)<10 ^ (58:Int).toNat:=Q5 A8;have p50:(0:Int)<10 ^ (50:Int).toNat:=Q5 A8;have hlk:(s.od.map s.key).length=s.od.length:=B8 _;have hkp:(s.od.map s.key).Pairwise (·<·):=V2.mpr h.key;have aKN:∀j,j<s.od.length→∀x,s.od[j]?=NR x→(s.od.map s.key).getD j 0=s.key x:=λj _ x hx=>by rw[B7,C5,hx];rfl
 have Vn:∀i j,i<j→j<s.od.length→(s.od.map s.key).getD i 0<(s.od.map s.key).getD j 0:=λi j hij hj=>by have:=J8.mp hkp i j A6 A6 hij;rw[B7,B6 A6,B7,B6 A6];~this
 have ZQ:∀{j:Nat} {x:Int},x∈s.od.take j→∃i,i<j∧i<s.od.length∧s.key x=(s.od.map s.key).getD i 0:=λ{j x} hx=>by B3⟨i,hi,e⟩:=G6 hx;rw[G7]at hi;rw[V4]at e;~⟨i,by omega,by omega,(aKN i A6 x (by rw[B6 A6,e])).symm⟩
 have Zt:∀{j:Nat} {x:Int},x∈s.od.drop j→∃i,j≤i∧i<s.od.length∧s.key x=(s.od.map s.key).getD i 0:=λ{j x} hx=>by B3⟨i,hi,e⟩:=G6 hx;rw[O1]at hi;rw[p6]at e;~⟨j+i,by omega,by omega,(aKN (j+i) A6 x (by rw[B6 A6,e])).symm⟩
 &oM U ?_;B4 yx;&GQ (cB (aJ U (iD U A8) (aDa _ []))) (λhb=>?_) (λhb=>yS ?_)
 ·have hb:=List.map_eq_nil_iff.mp (of_decide_eq_true hb);&VF (aJ U (aJ U U (pA ⟨by decide,by decide,by decide⟩)) (bI p58)) ⟨_,U,_,0,U,by decide,by omega,λx hx=>?_,λx hx=>?_⟩
  ·rw[hb]at hx;cases hx
  ·rw[hb]at hx;cases hx
 have ho:0<s.od.length:=T8.mpr λz=>of_decide_eq_false hb (by rw[z];rfl);&GQ (cB (aJ U U (kZ _ _))) (λhb=>?_) (λhb=>yS ?_)
 ·have m0:=F2 c (show (10 ^ (50:Int).toNat:Int)≠0 by omega);&VF (aJ (aJ (aJ U U (jX A8 A6)) U (lX _ _)) (aJ U (aJ U U (pA ⟨by decide,by decide,by decide⟩)) (bI p50)) (lX _ _)) ⟨_,U,_,0,U,by decide,by omega,λx hx=>(by cases hx),λx hx=>?_⟩;B3⟨i,i1,i2,e⟩:=Zt (j:=0) hx;rw[e];show (s.od.map s.key).getD 0 0-1-_<_;rcases m8 i with z | z
  ·rw[z];omega
  ·have:=Vn 0 i z i2;omega
 have a0':0<at_:=by have:=of_decide_eq_false hb;omega
 have hlen:fL gZ OK (rE [.fro (aN (s.od.map s.key)),.fro (.int at_),.fro (.int c)])=NR (.int s.od.length):=(cV (aA U U) (qN _)).trans (by rw[hlk]);by_cases q1:at_<(s.od.length:Int)
 ·have ex:f2 Az (f2 cW (aD 0) (aD 1)) (f2 cW (aD 0) (f2 Az (aD 1) OA)) (rE [.fro (aN (s.od.map s.key)),.fro (.int at_),.fro (.int c)])=NR (.int ((s.od.map s.key).getD at_.toNat 0-(s.od.map s.key).getD (at_-1).toNat 0)):=aJ (aJ U U (jX a0 A6)) (aJ U (aJ U U (lX _ _)) (jX A6 A6)) (lX _ _);&GQ (GK (cB (aJ U hlen (vI _ _))) (cB (aJ ex U (GJ _ _)))) (λhb=>?_) (λhb=>yS ?_)
  ·rw[J2]at hb;have hgap:=of_decide_eq_true hb.2;generalize hA:(s.od.map s.key).getD at_.toNat 0=A at *;generalize hB:(s.od.map s.key).getD (at_-1).toNat 0=B at *;have m0:=F2 c (show A-B-1≠0 by omega);have m1:=G0 c (show 0<A-B-1 by omega);&VF (aJ (aJ (aJ U (aJ U U (lX _ _)) ((jX A6 A6).trans (by rw[hB]))) U (bZ _ _)) (aJ U (aJ ex U (lX _ _)) (bI A6)) (bZ _ _)) ⟨_,U,_,at_,U,a0,a1,λx hx=>?_,λx hx=>?_⟩
   ·B3⟨i,i1,i2,e⟩:=ZQ hx;rw[e];rcases G4 i (at_-1).toNat with z | z
    ·have:=Vn i (at_-1).toNat z A6;rw[hB]at this;omega
    ·rw[show i=(at_-1).toNat by omega,hB];omega
   ·B3⟨i,i1,i2,e⟩:=Zt hx;rw[e];rcases G4 at_.toNat i with z | z
    ·have:=Vn at_.toNat i z i2;rw[hA]at this;omega
    ·rw[show i=at_.toNat by omega,hA];omega
  ·~Zr ho hlk Vn ZQ Zt p50
 ·&wY (b:=NV) ((jm ((cB (aJ U hlen (vI _ _))).trans (congrArg NR (decide_eq_false q1))))) U (yS ?_);~Zr ho hlk Vn ZQ Zt p50
B5 aI4{Pr:SR→Prop}{is:List Nat}{gm:GM}{g:GS}{env env':EN}{ds:List D}(h:gm env=NR (.tup ds,env'))(hl:is.length=ds.length∧is.all (λi=>decide (i<env'.length))=NU)(hi:D.gR ds=NU)(k:Qs Pr (g (pX env' is ds))):Qs Pr (aY (Yk is gm) g env):=by
 have:Yk is gm env=.next (pX env' is ds):=by B4 Yk;rw[h];dsimp only;rw[if_pos ⟨hl,hi⟩]
 rw[dH this];~k
B5 aD3{Pr:SR→Prop}{gm:GM}{env env':EN}{d:D}(h:gm env=NR (d,env'))(k:Pr (.next env')):Qs Pr (uL gm env):=by rw[Ls h];~k
B5 aD4{l:List Int}{x:Int}{k:Nat}(hp:l.Pairwise (·<·))(h1:∀y∈l.take k,y<x)(h2:∀y∈l.drop k,x<y)(hk:k≤l.length):sortI (l++[x])=l.take k++x::l.drop k∧(l.take k++x::l.drop k).idxOf x=k∧x∈l.take k++x::l.drop k:=by
 &⟨(Ii ⟨?_,?_⟩).symm,?_,E5 _ C8⟩
 ·&List.perm_middle.trans ?_;rw[M0];~(List.perm_append_singleton x l).symm
 ·have hp':=hp;rw[←M0 k l]at hp';B3⟨p1,p2,p3⟩:=K6.mp hp';&K6.mpr ⟨p1.imp M3,F6.mpr ⟨λy hy=>M3 (h2 y hy),p2.imp M3⟩,λa ha b hb=>?_⟩;rcases B9.mp hb with z | z
  ·rw[z];~M3 (h1 a ha)
  ·~M3 (p3 a ha b z)
 ·have hn:x∉l.take k:=λz=>Int.lt_irrefl _ (h1 x z);rw[List.idxOf_append,if_neg hn,X3,G7];omega
def Oi(ks:List Nd):D:=.lst (ks.map aN)
B5 aKO{P R:Nat}{rs:List Nd}{aQ:List Int}{f g h:FE}{e:DE}{x:Int}(hP:0<P)(hP8:P≤8)(x0:0≤x)(x1:x<((P*R:Nat):Int))(h1:f e=NR (bJ OF))(h2:g e=NR (.int x))(h3:h e=NR (.int P)):f2 cW (f2 cW f (f2 gH g h)) (f2 rR g h) e=NR (dTup (rs.getD x.toNat [])):=by
 B3⟨k,rfl⟩:∃k:Nat,x=(k:Int):=⟨x.toNat,by omega⟩
 B3⟨q,q1,q2⟩:=Vf (R:=R) (cO:=rs) (aQ:=aQ) (b:=k) hP A6;&aJ (a:=eN q) (b:=.int ((k/P:Nat):Int)) (aJ (b:=.int ((k%P:Nat):Int)) h1 ((aJ h2 h3 (bI A6)).trans U) (xU q1)) ((aJ h2 h3 (fD A6 A6)).trans U) ?_;rw[C7];~aKH q2
B5 aBw{P R:Nat}{rs:List Nd}{aQ row:List Int}{ks:List Nd}(B:Cz P R rs aQ row)(hl:ks.length=P*R)(hk:∀x∈row,(rs.getD x.toNat []).getD 0 0∈ks.getD x.toNat []):uB [bJ OF,aN row,Oi ks]=NR (.bl NU):=by
  suffices hh:∃y,uB [bJ OF,aN row,Oi ks]=NR y∧y=.bl NU by B3⟨y,h1,rfl⟩:=hh;~h1
  have b:=B.b;have p1:=b.p1;have p8:=b.p8;have hln:gZ [bJ OF]=NR (.int P):=(xV _).trans (by rw[pI]);&oM U ?_;B4 Zb;&cD (d:=.non) U A9 ?_;&yh (xs:=row.map D.int) (λn env=>∃v3 v4 v5:SD,env=[.fro (bJ OF),.fro (aN row),.fro (Oi ks),v3,v4,v5]∧((n=0∧v3=.own .non)∨∃m,n=m+1∧v3=.own (.int ((rs.getD (row.getD m 0).toNat []).getD 0 0)))) U (gD U) ⟨_,_,_,U,.inl ⟨U,U⟩⟩ ?_ ?_
  · rintro n x env hx ⟨v3,v4,v5,rfl,hv⟩
    &⟨by walk_at "lt", ?_⟩;rw[C5]at hx;B3⟨y,hy,rfl⟩:=kJ hx;have hn:=(D4.mp hy).1;have ym:=D6 hy;have yb:=b.sV y ym;have hks:=hk y ym;have h5:=b.five y.toNat A6;have hkey:∀{e:DE},e[5]?=NR (NR (dTup (rs.getD y.toNat [])))→f2 cW (aD 5) Nw e=NR (.int ((rs.getD y.toNat []).getD 0 0)):=λe5=>aJ (nJ e5) U (pN (k:=0) (by rw[h5];decide));&cD (d:=dTup (rs.getD y.toNat [])) (bD (aKO (R:=R) p1 p8 A6 yb.2 U U (cV (aA U U) hln)) (lY _)) A9 ?_;have hix:cW (Oi ks) (.int y)=NR (aN (ks.getD y.toNat [])):=tK A6 (by rw[C5,dU (d:=([]:List Int)) (by rw[hl];omega)];rfl);&wY (b:=NV) ((Yl ((cB (aJ (hkey U) (aJ U U hix) (VH NU _ _))).trans (by rw[if_pos U,decide_eq_true hks];rfl))).trans ?_) U (yS ?_)
    · rcases hv with ⟨_,rfl⟩ | ⟨m,rfl,rfl⟩
      · ~jm (cB (aJ U U U))
      · &(jl (cB (aJ U U U))).trans ((cB (aJ (hkey U) U (Dv _ _))).trans ?_)
        have:=J8.mp b.key m (m+1) A6 hn A6;rw[(D4.mp hy).2]at this;rw[B7 (l:=row),B6 (show m<row.length by omega),decide_eq_false];intro z;~Int.lt_irrefl _ (Int.lt_of_lt_of_le this z)
    &jo (d:=.int ((rs.getD y.toNat []).getD 0 0)) (bD (hkey U) U) A9 ⟨_,U,_,_,_,U,.inr ⟨n,U,?_⟩⟩;rw[dY hy]
  · rintro env ⟨v3,v4,v5,rfl,_⟩
    ~pL U ⟨_,U,U⟩
B5 ZR{cs:List lH}{S:Int→Bool}{p q k:Int}(h:vX cs S p q=NR k):0≤k∧k<(cs.length:Int)∧(at_ cs k.toNat).bY=p∧(at_ cs k.toNat).place=q:=by B4 vX at h;B3⟨j,h1,rfl⟩:=kJ h;B3⟨h2,h3⟩:=K3.mp (X0 h1);have:=F7.mp h2;rw[J2,decide_eq_true_iff]at h3;rw[C7];~⟨by omega,by omega,h3.1⟩
B5 rm{x P R:Nat}(h:x<P*R):x/P<R:=T0 h
B5 aF9{P p r:Nat}(hp:p<P):(p+P*r)%P=p∧(p+P*r)/P=r:=by
 have hP:0<P:=by omega
 constructor
 ·rw[Z5,t9 hp]
 ·rw[j7 _ _ hP,u3 hp,N6]
B5 aD5(P R:Nat)(a b:List Nd)(aQ:List Int):Shape (aU P R a aQ) (aU P R b aQ):=by
 &⟨by rw[pI,pI],λp=>?_⟩;rcases G4 p P with z | z
 ·rw[dY (tX z),dY (tX z)];simp
 ·rw[B7,D9 (by rw[pI];~z),B7,D9 (by rw[pI];~z)]
B5 LQ{P R p r:Nat}{a:List Nd}{aQ:List Int}(hp:p<P)(hr:r<R):val (aU P R a aQ) p r=a.getD (p+P*r) []:=by B4 val;rw[dY (tX hp),dY (ZC hr)]
B5 ZV{P R p:Nat}{a:List Nd}{aQ:List Int}(hp:p<P):val (aU P R a aQ) p R=[aQ.getD p 0]:=by B4 val;rw[dY (tX hp),B7,J7 (by rw[B8,E1];~C9 _),B8,E1,S5];rfl
section
variable{P R:Nat}{rs:List Nd}{aQ od:List Int}{evs:List Ev}{s:Wb}{ks:List Nd}
B5 Built.aD6{row:List Int}(hl:rs.length=P*R)(h5:∀k,k<P*R→∃m,Kq m (rs.getD k []))(hb:∀x∈(0:Int)::row,0≤x∧x<((P*R:Nat):Int))(hp:Ai (λx=>(rs.getD x.toNat []).getD 1 0) (0::row)):Chain rs row:=λk hk=>by have hm:=hb _ (getD_mem (l:=0::row) (k:=k) (by simp;omega));have e:=hp.get k hk;B3⟨m,a,b,c,d,f,q,_⟩:=h5 ((0::row).getD k 0).toNat A6;&⟨a,c,d,f,?_⟩;have e:(rs.getD ((0::row).getD k 0).toNat []).getD 1 0=(row++[0]).getD k 0:=e;rw[←e];show rs[((0::row).getD k 0).toNat]?=_;rw[dU (d:=[]) A6,q];rfl
B5 aD7(B:Cz P R rs aQ od)(V:Ey OF od evs s)(N:Oz OF od evs s ks)(w:mJ s)(hP:s.P=P)(hr:s.rs.length=P*R):∃(rS:List Nd)(row:List Int),Row OF od evs s (inB s.b.held) row∧s.b.bB=aU P R rS aQ∧Cz P R rS aQ row∧∀x∈row,(rS.getD x.toNat []).getD 0 0∈ks.getD x.toNat []:=by
 have b:=B.b;have p1:=b.p1;have hm0:0<P*R:=T2 b.p1 b.r1;B3⟨row,Rw⟩:=V.rows _ V.lb.dn;B3⟨a1,a2,a3⟩:=N.rs _ V.lb.dn row Rw;have eP:s.b.bB.length=P:=hP;have hval:∀p q:Nat,val s.b.bB p q=Ag OF s.b.asked (inB s.b.held) (p:Int) (q:Int):=λp q=>V.lb.val p q;have hrS:∀k,k<P*R→((D5 (P*R)).map λk=>val s.b.bB (k%P) (k/P)).getD k []=val s.b.bB (k%P) (k/P):=λk hk=>by rw[B7,C5,I0 hk];rfl
 have hX:∀x:Int,gU OF s.P s.b.asked (inB s.b.held) x=val s.b.bB (x.toNat%P) (x.toNat/P):=λx=>by B4 gU;rw[hP,hval]
 have hlS:((D5 (P*R)).map λk=>val s.b.bB (k%P) (k/P)).length=P*R:=by rw[B8,E1]
 generalize hg:((D5 (P*R)).map λk=>val s.b.bB (k%P) (k/P))=rS at *;have hXr:∀x:Int,0≤x→x<((P*R:Nat):Int)→gU OF s.P s.b.asked (inB s.b.held) x=rS.getD x.toNat []:=λx x0 x1=>(hX x).trans (hrS x.toNat A6).symm;have rc:∀k,k<P*R→Kq (P*R) (rS.getD k []):=λk hk=>by
  rw[hrS k hk,hval];B4 Ag;cases e:vX s.b.asked (inB s.b.held) ((k%P:Nat):Int) ((k/P:Nat):Int)with
  | none=>show Kq (P*R) (val OF ((k%P:Nat):Int).toNat ((k/P:Nat):Int).toNat);rw[C7,C7,LQ (R8 _ p1) (rm hk),X4];~B.rec_ k hk
  | some j=>have:=ZR e;have q:=(N.th j.toNat (show j.toNat<s.b.asked.length by omega)).1;rw[hr]at q;~q
 have bd:∀x∈row,1≤x∧x<((P*R:Nat):Int):=λx hx=>by rw[←hr];~Rw.bd x hx
 have bd0:∀x∈(0:Int)::row,0≤x∧x<((P*R:Nat):Int):=λx hx=>by
  rcases B9.mp hx with z | z
  ·omega
  ·have:=bd x z;omega
 have pth:Ai (λx=>(rS.getD x.toNat []).getD 1 0) (0::row):=Rw.pth.congr λy hy=>by have:=hXr y (bd0 y hy).1 (bd0 y hy).2;show (rS.getD y.toNat []).getD 1 0=Vl _ _ _ _ y;rw[←this];rfl
 &⟨rS,row,Rw,?_,⟨⟨p1,b.p8,b.r1,b.r8,hlS,λk hk=>(rc k hk).five,(F1.mp Rw.nd).2,bd,Built.aD6 hlS (λk hk=>⟨_,rc k hk⟩) bd0 pth,?_⟩,rc,λx hx=>?_,B.sel⟩,λx hx=>?_⟩
 ·&Zm (V.lb.shape.trans (aD5 _ _ _ _ _)) λp q hp hq=>?_;have hp:p<P:=by omega
  rw[V.lb.shape.2 p,dY (tX hp),D1,B8,E1,i3]at hq;rcases G4 q R with z | z
  ·B3⟨m1,m2⟩:=aF9 (r:=q) hp;rw[LQ hp z,hrS _ (KR hp z),m1,m2]
  ·B3 rfl:q=R:=by omega
   rw[ZV hp,hval];B4 Ag;cases e:vX s.b.asked (inB s.b.held) (p:Int) (q:Int)with
   | none=>show val (aU P q rs aQ) ((p:Nat):Int).toNat ((q:Nat):Int).toNat=_;rw[C7,C7,ZV hp]
   | some j=>B3⟨j0,j1,j2,j3⟩:=ZR e;B3⟨_,x,x1,x2,x3⟩:=N.th j.toNat (show j.toNat<s.b.asked.length by omega);rw[hr]at x1;rw[hP]at x3;have:=rm x1;omega
 ·&(F6.mp a1).2.imp_of_mem λ{x y} hx hy z=>?_;have bx:=bd x hx;have by_:=bd y hy;rcases z with z | z
  ·omega
  ·rw[hXr x A6 bx.2,hXr y A6 by_.2]at z;~z
 ·have bx:=bd x hx;have:=a3 x hx;rw[hXr x A6 bx.2]at this;~this
 ·have bx:=bd x hx;have:=a2 x hx;rw[hXr x A6 bx.2]at this;~this
B5 Oz.init(B:Cz P R rs aQ od)(V:Ey OF od [] (Wb.first P R rs aQ od))(hk:∀x∈od,(rs.getD x.toNat []).getD 0 0∈ks.getD x.toNat []):Oz OF od [] (Wb.first P R rs aQ od) ks:=by
 have b:=B.b;have hP:(Wb.first P R rs aQ od).P=P:=pI _ _ _ _;have hr:(Wb.first P R rs aQ od).rs.length=P*R:=b.len;have hx:∀(S:Int→Bool)(x:Int),x∈od→gU OF (Wb.first P R rs aQ od).P (Wb.first P R rs aQ od).b.asked S x=rs.getD x.toNat []:=λS x hx=>by have bx:=b.sV x hx;rw[hP];show val OF ((x.toNat%P:Nat):Int).toNat ((x.toNat/P:Nat):Int).toNat=_;rw[C7,C7,LQ (R8 _ b.p1) (rm A6),X4]
 &⟨λS _ p _ _ _ _ c hc=>(by cases hc),λS _ y hy _=>(by rw[hx S y hy];rfl),λS _ row Rw=>?_,λk hk=>absurd hk (J9 _),λx x0 x1=>?_⟩
 ·have e:(0:Int)::od=0::row:=E6 Rw.rep;B3 rfl:od=row:=(k9 e).2;&⟨F6.mpr ⟨λ_ _=>.inl U,b.key.imp_of_mem λ{x y} h1 h2 z=>.inr ?_⟩,λx h1=>?_,λx h1=>?_⟩
  ·rw[hx S x h1,hx S y h2];~z
  ·rw[hx S x h1];~hk x h1
  ·rw[hx S x h1];~B.snd x h1
 ·rw[hr]at x1 ⊢;~B.rec_ x.toNat A6
end
B5 aGa{s:Wb}{k key was now:Int}(w:mJ s)(hlo:0<s.lo.length)(hm:s.n<123)(h0:0≤k)(h1:k≤(s.od.length:Int)):(s.ent k key was now 0 []).key s.new=key:=by
 B3⟨b1,b2,b3,b4,b5⟩:=w.new hlo;B3⟨p1,p2,p3⟩:=w.ahead h0 h1;have pb:s.new≠s.ahead k:=λz=>by
  rcases p1 with y | y
  ·omega
  ·~b4 (z▸y)
 have e1l:(s.e1 k key was now 0).rs.length=s.rs.length:=oR _ _ _ _;show (((s.e1 k key was now 0).wr NY (Od ((s.e1 k key was now 0).R NY) s.new) ((s.e1 k key was now 0).ns NY [(s.n:Int)])).R s.new).getD 0 0=_;rw[Et p2 (by rw[e1l];~p3) b5,if_neg pb];show ((s.wr s.new [key,(s.R NY).getD 1 0,was,now,0] (s.go.get s.new).toList).R s.new).getD 0 0=_;rw[Et b5 b3 b5,if_pos rfl];rfl
def kup(s:Wb)(ks:List Nd)(e:Ev):List Nd:=if e.i=NU then ks.set e.b.toNat (ks.getD e.b.toNat []++[s.key e.b])else ks
B5 aGb{st:List OR}{first:List Int}{evs:List Ev}{s:Wb}{ks:List Nd}(V:Ey st first evs s)(N:Oz st first evs s ks)(hks:s.rs.length≤ks.length)(h:mJ s)(hm:s.n<123)(c:Int):∃s' ev,Ey st first (evs++ev) s'∧Oz st first (evs++ev) s' (ev.foldl (kup s') ks)∧mJ s'∧s'.n≤s.n+2∧s'.P=s.P∧s'.rs.length=s.rs.length∧ev.length≤1∧(∀e∈ev,0≤e.b∧e.b<(s'.rs.length:Int))∧Bv κ [lR κ s,.lst [],.int c]=NR (.non,[lR κ s',.lst (ev.map qz)]):=by
 have o64:=h.aBo;have hsl:(sortI s.lo).length=s.lo.length:=(yJ s.lo).1.length_eq;have nil:∀m∈([]:List Int),0≤m∧m<(s.n:Int):=λm hm=>by cases hm
 have hord:=Vc κ s;have hlen:∀{env:EN},(rE env)[3]?=NR (NR (aN s.od))→fL gZ (aB (aD 3) aL) (rE env)=NR (.int s.od.length):=λe=>cV (aA (nJ e) U) (qN _);have cond:∀(j:Int) {env:EN},(rE env)[2]?=NR (NR (.int c))→(rE env)[3]?=NR (NR (aN s.od))→(El (fB (f2 Fv (f2 gH (aD 2) (fC (.int 3))) (fC (.int j)))) (fB (f2 ak (aD 3) (mR aL)))) (rE env)=NR (decide (c%3=j)&&!decide (s.od=[])):=λj {env} e2 e3=>GK (cB (aJ (aJ (nJ e2) U (bI A8)) U (kZ _ _))) (cB (aJ (nJ e3) (iD U A8) (KY _)));by_cases q1:(decide (c%3=0)&&!decide (s.od=[]))=NU
 ·have q1':=q1;rw[J2]at q1';have ho:0<s.od.length:=T8.mpr λz=>by rw[decide_eq_true z]at q1';cases q1'.2
  have x0:=F2 (c/3) (show (s.od.length:Int)≠0 by omega);have x1:=G0 (c/3) (show 0<(s.od.length:Int) by omega);generalize hat:c/3%(s.od.length:Int)=at_ at *;B3⟨x,hx⟩:∃x,s.od[at_.toNat]?=NR x:=⟨_,B6 (show at_.toNat<s.od.length by omega)⟩
  have V':=V.out h A6 x0 x1 hx nil A8;have N':=N.out V h A6 x0 x1 hx;have xr:=h.sV x (D6 hx);have h':=h.out A6 x0 x1 hx nil A8;have hlv:=aDF κ h A6 x0 x1 hx nil A8 (nd:=.non) (.inl ⟨U,U⟩);have hn':=aGS s at_ x [];have hr':=Qm s at_ x [];have eP:(s.out at_ x []).P=s.P:=rfl;have eH:(s.out at_ x []).b.held=s.b.held:=rfl;generalize s.out at_ x []=s' at *;&⟨s',_,V',N',h',by omega,eP,hr',C9 _,λe he=>?_,Jb U λvs hv=>?_⟩
  ·rw[D2.mp he,hr'];~⟨show (0:Int)≤x by omega,xr.2⟩
  match vs,hv with
  | [v0,v1,v2],_=>
   suffices hh:Qs (Wh [NU,NU,NV] .non [lR κ s',.lst ([Ev.mk NV (s.n:Int) x 0].map qz)] [v0,v1,v2]) (qI κ [.inn v0 (lR κ s),.inn v1 (.lst []),.fro (.int c),.no,.no,.no,.no,.no,.no,.no])from hh
   B4 qI;&cD (d:=aN s.od) (bU (nm:=uZ) U A7 U U hord) A9 ?_;&cD (d:=.int (c/3)) (aJ U U (fD A8 A8)) A9 ?_;&Bl (cond 0 U U) (λ_=>?_) λz=>by rw[q1]at z;cases z
   &cD (d:=.int at_) ((aJ U (hlen U) (bI A6)).trans (by rw[hat])) A9 ?_;have hix:cW (aN s.od) (.int at_)=NR (.int x):=(jX x0 x1).trans (by rw[dY hx]);have hg:=lD (env:=[.inn v0 (lR κ s),.own (.lst []),.fro (.int c),.own (aN s.od),.own (.int (c/3)),.own (.int at_),.no,.no,.no,.no]) (i:=0) (π:=dC) (C:=κ 1) (m := "leave") (F:=nR κ) (fs:=λeF eZ=>((Be (f2 cW (aD 3) (aD 5)) oK) eF eZ).map (·++[.non])) (d0:=lR κ s) (p:=[]) (nm:=uZ) (es:=[.int x,.non]) U U U A7 (by
    rw[fU (d:=.int x) (aJ U U hix) rfl]
    rfl) hlv
   have hgt:Yj 1 (fC (.str "out")) (pO (κ 1) "leave" 0 dC (nR κ) (λeF eZ=>((Be (f2 cW (aD 3) (aD 5)) oK) eF eZ).map (·++[.non]))) (aB (cL (f2 cW (aD 3) (aD 5))) (aB Nw aL)) [.inn v0 (lR κ s),.own (.lst []),.fro (.int c),.own (aN s.od),.own (.int (c/3)),.own (.int at_),.no,.no,.no,.no]=.next [.inn v0 (lR κ s'),.own (.lst ([Ev.mk NV (s.n:Int) x 0].map qz)),.fro (.int c),.own (aN s.od),.own (.int (c/3)),.own (.int at_),.no,.no,.no,.no]:=by B4 Yj;rw[hg];dsimp only[fC];rw[aA (bD (d:=.int x) (aJ U U hix) U) (aA (a:=.int 0) U U)];show (if _ then _ else _)=_;rw[if_pos ⟨⟨U,U⟩,U,O2 U,by decide⟩];rfl
   ~Ua U hgt U ⟨_,.inr ⟨U,U⟩,_,_,U,U,_,_,U,U,U⟩
 have q1:=Y7.mpr q1;by_cases q2:(decide (c%3=1)&&!decide (s.od=[]))=NU
 ·have q2':=q2;rw[J2]at q2';have ho:0<s.od.length:=T8.mpr λz=>by rw[decide_eq_true z]at q2';cases q2'.2
  have x0:=F2 (c/3) (show (s.od.length:Int)≠0 by omega);have x1:=G0 (c/3) (show 0<(s.od.length:Int) by omega);generalize hat:c/3%(s.od.length:Int)=at_ at *;B3⟨x,hx⟩:∃x,s.od[at_.toNat]?=NR x:=⟨_,B6 (show at_.toNat<s.od.length by omega)⟩
  have xr:=h.sV x (D6 hx);have p50:(0:Int)<10 ^ (50:Int).toNat:=Q5 A8;have hns:(s.ns x []).length≤8:=by B4 Wb.ns;rw[F0];have:=nY (s.co.get x);omega
  have hre:=ql κ h (x:=x) (a:=-1) (b:=c/3%10 ^ (50:Int).toNat) (c:=0) (ns:=[]) (nd:=.non) A6 xr.2 nil A8 (.inl ⟨U,U⟩);have V':=V.rw h (x:=x) (r:=[(s.R x).getD 0 0,(s.R x).getD 1 0,-1,c/3%10 ^ (50:Int).toNat,0]) (ns:=s.ns x []) A6 xr.2 (h.qg nil) hns A6 U;have N':=N.rw V h (x:=x) (r:=[(s.R x).getD 0 0,(s.R x).getD 1 0,-1,c/3%10 ^ (50:Int).toNat,0]) (D6 hx) (by
   B3⟨a,b,_,_,_,q,q1,q2,_⟩:=N.mr x A6 xr.2;have w0:=F2 (c/3) (show (10 ^ (50:Int).toNat:Int)≠0 by omega);rw[q];~⟨_,_,_,_,_,U,q1,q2,by decide,by omega,by decide⟩) U U λ_=>F2 (c/3) (show (10 ^ (50:Int).toNat:Int)≠0 by omega)
  have h':=h.wr (x:=x) (r:=[(s.R x).getD 0 0,(s.R x).getD 1 0,-1,c/3%10 ^ (50:Int).toNat,0]) (ns:=s.ns x []) A6 xr.2 U (h.qg nil) hns A6 λ_=>rfl;have hn':=qe s x [(s.R x).getD 0 0,(s.R x).getD 1 0,-1,c/3%10 ^ (50:Int).toNat,0] (s.ns x []);have hr':=oR s x [(s.R x).getD 0 0,(s.R x).getD 1 0,-1,c/3%10 ^ (50:Int).toNat,0] (s.ns x []);have eP:(s.wr x [(s.R x).getD 0 0,(s.R x).getD 1 0,-1,c/3%10 ^ (50:Int).toNat,0] (s.ns x [])).P=s.P:=rfl;have eH:(s.wr x [(s.R x).getD 0 0,(s.R x).getD 1 0,-1,c/3%10 ^ (50:Int).toNat,0] (s.ns x [])).b.held=s.b.held:=rfl;generalize s.wr x [(s.R x).getD 0 0,(s.R x).getD 1 0,-1,c/3%10 ^ (50:Int).toNat,0] (s.ns x [])=s' at *;&⟨s',[],by rw[F0];~V',by rw[F0];~N',h',by omega,eP,hr',L5 _,λe he=>by(cases he),Jb U λvs hv=>?_⟩
  match vs,hv with
  | [v0,v1,v2],_=>
   suffices hh:Qs (Wh [NU,NU,NV] .non [lR κ s',.lst (([]:List Ev).map qz)] [v0,v1,v2]) (qI κ [.inn v0 (lR κ s),.inn v1 (.lst []),.fro (.int c),.no,.no,.no,.no,.no,.no,.no])from hh
   B4 qI;&cD (d:=aN s.od) (bU (nm:=uZ) U A7 U U hord) A9 ?_;&cD (d:=.int (c/3)) (aJ U U (fD A8 A8)) A9 ?_;&Bl (cond 0 U U) (λz=>by rw[q1]at z;cases z) λ_=>?_;&Bl (cond 1 U U) (λ_=>?_) λz=>by rw[q2]at z;cases z
   have hix:cW (aN s.od) (.int at_)=NR (.int x):=(jX x0 x1).trans (by rw[dY hx]);&aD3 (d:=.int s.n) (env':=[.inn v0 (lR κ s'),.inn v1 (.lst []),.fro (.int c),.own (aN s.od),.own (.int (c/3)),.no,.no,.no,.no,.no]) (lD (p:=[]) (nm:=uZ) (es:=[.int x,.int (-1),.int (c/3%10 ^ (50:Int).toNat),.int 0,.non]) U U U A7 (by
    rw[fU (d:=.int x) (aJ U ((aJ U (hlen U) (bI A6)).trans (by rw[hat])) hix) (fU (d:=.int (-1)) (qC U) (fU (d:=.int (c/3%10 ^ (50:Int).toNat)) (aJ U (aJ U U (pA ⟨by decide,by decide,by decide⟩)) (bI p50)) (fU (d:=.int 0) U U)))]
    rfl) hre) ⟨_,.inr ⟨U,U⟩,_,_,U,U,_,_,U,U,U⟩
 have q2:=Y7.mpr q2;by_cases q3:sortI s.lo=[]
 ·&⟨s,[],by rw[F0];~V,by rw[F0];~N,h,by omega,U,U,L5 _,λe he=>by(cases he),Jb U λvs hv=>?_⟩
  match vs,hv with
  | [v0,v1,v2],_=>
   suffices hh:Qs (Wh [NU,NU,NV] .non [lR κ s,.lst (([]:List Ev).map qz)] [v0,v1,v2]) (qI κ [.inn v0 (lR κ s),.inn v1 (.lst []),.fro (.int c),.no,.no,.no,.no,.no,.no,.no])from hh
   B4 qI;&cD (d:=aN s.od) (bU (nm:=uZ) U A7 U U hord) A9 ?_;&cD (d:=.int (c/3)) (aJ U U (fD A8 A8)) A9 ?_;&Bl (cond 0 U U) (λz=>by rw[q1]at z;cases z) λ_=>?_;&Bl (cond 1 U U) (λz=>by rw[q2]at z;cases z) λ_=>?_;&aDe (b:=!decide (sortI s.lo=[])) (cB (aJ (bU (nm:=uZ) U A7 U U (YX κ h)) (iD U A8) (KY _))) (by rw[decide_eq_true q3];rfl) ?_;~aDd ⟨_,.inr ⟨U,U⟩,_,_,U,U,_,_,U,U,U⟩
 have hlo:0<s.lo.length:=by rw[←hsl];~T8.mpr q3
 have aNr:s.od.length≤62:=by
  B3⟨b1,b2,b3,b4,b5⟩:=h.new hlo;have:=nM s.rs.length (0::s.new::s.od) (F1.mpr ⟨λz=>by
   rcases B9.mp z with y | y
   ·omega
   ·have:=h.sV 0 y;omega,F1.mpr ⟨b4,h.Oc⟩⟩) λx hx=>by
   rcases B9.mp hx with z | z
   ·have:=h.pos;omega
   rcases B9.mp z with z | z
   ·omega
   ·have:=h.sV x z;omega
  simp only[E3]at this;have:=h.few;omega
 have a0:=F2 (c/3) (show ((s.od.length:Int)+1)≠0 by omega);have a1:=G0 (c/3) (show 0<((s.od.length:Int)+1) by omega);B3⟨key,k,hk,g0,g1,fit⟩:=aF8 h (at_:=c/3%((s.od.length:Int)+1)) (c:=c/3/5) a0 A6;have p50:(0:Int)<10 ^ (50:Int).toNat:=Q5 A8;have V':=V.ent h hlo hm (key:=key) (was:=-1) (now:=c/3%10 ^ (50:Int).toNat) (gF:=0) g0 g1 nil A8;B3⟨b1,b2,b3,b4,b5⟩:=h.new hlo;have N':=N.ent V h hlo hm (key:=key) (was:=-1) (now:=c/3%10 ^ (50:Int).toNat) g0 g1 fit A8 (F2 (c/3) (show (10 ^ (50:Int).toNat:Int)≠0 by omega)) hks;have hkn:=aGa (was:=-1) (now:=c/3%10 ^ (50:Int).toNat) (key:=key) h hlo hm g0 g1;have h':=h.ent hlo hm (was:=-1) (now:=c/3%10 ^ (50:Int).toNat) (gF:=0) g0 g1 nil A8 fit;have hn':=aDC s k key (-1) (c/3%10 ^ (50:Int).toNat) 0 [];have hr':=Ql s k key (-1) (c/3%10 ^ (50:Int).toNat) 0 [];have hen:=aDE κ h hlo hm (was:=-1) (now:=c/3%10 ^ (50:Int).toNat) (gF:=0) g0 g1 nil A8 fit (.inl ⟨U,U⟩);have eP:(s.ent k key (-1) (c/3%10 ^ (50:Int).toNat) 0 []).P=s.P:=rfl;have eH:(s.ent k key (-1) (c/3%10 ^ (50:Int).toNat) 0 []).b.held=s.b.held:=rfl;generalize s.ent k key (-1) (c/3%10 ^ (50:Int).toNat) 0 []=s' at *;have hkp:(s.od.map s.key).Pairwise (·<·):=V2.mpr h.key;B3⟨so1,so2,so3⟩:=aD4 (l:=s.od.map s.key) (x:=key) (k:=k.toNat) hkp (λy hy=>by
  rw[←k7]at hy;B3⟨x,hx,rfl⟩:=J4.mp hy;~fit.1 x hx) (λy hy=>by
  rw[←k8]at hy;B3⟨x,hx,rfl⟩:=J4.mp hy;~fit.2 x hx) (by rw[B8];omega)
 &⟨s',[Ev.mk NU ((s.n+1:Nat):Int) s.new NY],V',?_,h',by omega,eP,hr',C9 _,λe he=>?_,Jb U λvs hv=>?_⟩
 ·show Oz st first _ s' (ks.set s.new.toNat (ks.getD s.new.toNat []++[s'.key s.new]))
  rw[hkn];~N'
 ·rw[D2.mp he,hr'];~⟨b5,b3⟩
 match vs,hv with
 | [v0,v1,v2],_=>
  suffices hh:Qs (Wh [NU,NU,NV] .non [lR κ s',.lst ([Ev.mk NU ((s.n+1:Nat):Int) s.new NY].map qz)] [v0,v1,v2]) (qI κ [.inn v0 (lR κ s),.inn v1 (.lst []),.fro (.int c),.no,.no,.no,.no,.no,.no,.no])from hh
  B4 qI;&cD (d:=aN s.od) (bU (nm:=uZ) U A7 U U hord) A9 ?_;&cD (d:=.int (c/3)) (aJ U U (fD A8 A8)) A9 ?_;&Bl (cond 0 U U) (λz=>by rw[q1]at z;cases z) λ_=>?_;&Bl (cond 1 U U) (λz=>by rw[q2]at z;cases z) λ_=>?_;&Bl (b:=!decide (sortI s.lo=[])) (cB (aJ (bU (nm:=uZ) U A7 U U (YX κ h)) (iD U A8) (KY _))) (λ_=>?_) λz=>by rw[decide_eq_false q3]at z;cases z
  have Cu:=Gk (fi:=kO (aD 3)) (fr:=[0]) (fc:=gP) (fe:=cL (f2 cW (fH (κ 1) "record_of" 2 (bC κ) (aD 1) OK []) Nw)) (e:=rE [.inn v0 (lR κ s),.inn v1 (.lst []),.fro (.int c),.own (aN s.od),.own (.int (c/3)),.no,.no,.no,.no,.no]) (ms:=s.od) (λ_=>NU) (λx=>s.key x) (gD U) A6 (λx hx=>rfl) λx hx _=>by have:=h.sV x hx;~bD (aJ (bU (nm:=uZ) U A7 U U (lJ κ h A6 this.2)) U (pN (k:=0) (by rw[h.five A6 this.2];decide))) U
  rw[R4.mpr λ_ _=>rfl]at Cu;&cD (d:=aN (s.od.map s.key)) Cu A9 ?_;&cD (d:=.int (c/3%((s.od.length:Int)+1))) (aJ U (aJ (hlen U) U (bZ _ _)) (bI A6)) A9 ?_;&cD (d:=.int key) (bM (aA U (aA U (aA (aJ U U (fD A8 A8)) U))) U hk) A9 ?_;&aI4 (ds:=[.int s.new,.int (s.n+1:Nat)]) (env':=[.inn v0 (lR κ s'),.inn v1 (.lst []),.fro (.int c),.own (aN s.od),.own (.int (c/3)),.own (.int (c/3%((s.od.length:Int)+1))),.own (aN (s.od.map s.key)),.own (.int key),.no,.no]) (lD (p:=[]) (nm:=uZ) (es:=[.int key,.int (-1),.int (c/3%10 ^ (50:Int).toNat),.int 0,.non]) U U U A7 (by
    rw[fU (d:=.int key) U (fU (d:=.int (-1)) (qC U) (fU (d:=.int (c/3%10 ^ (50:Int).toNat)) (aJ U (aJ U U (pA ⟨by decide,by decide,by decide⟩)) (bI p50)) (fU (d:=.int 0) U U)))]
    rfl) hen) ⟨U,U⟩ U ?_
  &cD (d:=.int k) ((aJ (cV (aA (aJ (b:=aN [key]) U (iD (aA U U) (O2 U)) (yW _ [key] (by rw[B8];simp;omega))) U) (Jf (by rw[D1,B8];simp;omega))) U (aF5 (by rw[so1];~so3))).trans (by rw[so1,so2,T7 g0])) A9 ?_;&Ua U (Lr (p:=[]) (ds:=[]) (d:=qz (Ev.mk NU ((s.n+1:Nat):Int) s.new NY)) U U U (pF (aA U (aA (bD U U) (aA (bD U U) (aA (bD (aJ (aJ (a:=aN [0]) (iD (aA U U) A8) U (aIR _ A6)) U (jX g0 (by simp;omega))) U) U)))) (O2 U)) A8) U ⟨_,.inr ⟨U,U⟩,_,_,U,U,_,_,U,U,U⟩
B5 zy{ks:List Nd}{e:FE}{i j:Nat}{env:EN}{x key:Int}(h1:env[i]?=NR (.own (Oi ks)))(hj:aD j (rE env)=NR (.int x))(h2:e (rE env)=NR (.int key))(x0:0≤x)(x1:x.toNat<ks.length)(hl:(ks.getD x.toNat []).length<100000):vA i (EY dC (aD j)) (cL e) env=.next (env.set i (.own (Oi (ks.set x.toNat (ks.getD x.toNat []++[key]))))):=by
 have hg:(ks.map aN)[x.toNat]?=NR (aN (ks.getD x.toNat [])):=by rw[C5,dU (d:=([]:List Int)) x1];rfl
 &(Lr (p:=[.ix x.toNat]) (ds:=(ks.getD x.toNat []).map D.int) (d:=.int key) h1 (by
  rw[mz (p:=[]) (k:=x) U hj x0]
  rfl) (JX hg) (bD h2 U) (by rw[B8];~hl)).trans ?_
 rw[show fO [.ix x.toNat] (Oi ks) (.lst ((ks.getD x.toNat []).map D.int++[.int key]))=Oi (ks.set x.toNat (ks.getD x.toNat []++[key]))from ?_];&(JZ hg).trans (congrArg D.lst ?_);rw[X1];congr 1;show _=D.lst ((ks.getD x.toNat []++[key]).map D.int);rw[J6];rfl
B5 aI5{i:Nat}{f:FE}{gb g:GS}{env:EN}{Pr:SR→Prop}{xs:List D}(I:Nat→EN→Prop)(h:f (rE env)=NR (.lst xs))(h0:I 0 env)
  (st:∀(k:Nat) x env,xs[k]?=NR x→I k env→i<env.length∧Qs (λr=>∃env',r=.next env'∧I (k+1) env') (gb (env.set i (.fro x)))) (k:∀env',I xs.length env'→Qs Pr (g env')):Qs Pr (aY (Tg i f gb) g env):=by
 B3⟨env',h1,h2⟩:=Du (i:=i) (g:=gb) I xs env 0 h0 λk x e hx hi=>by rw[N6]at hi ⊢;~⟨(st k x e hx hi).1,let ⟨e,a,b⟩:=(st k x e hx hi).2;⟨e,a,b⟩⟩
 rw[N6]at h2;have hf:Tg i f gb env=.next env':=by B4 Tg;rw[h];~h1
 rw[dH hf];~k env' h2
def Kb(ks:List Nd)(n:Nat):Prop:=∀j,(ks.getD j []).length≤n
B5 Kb.set{ks:List Nd}{n x:Nat}{key:Int}(h:Kb ks n)(hx:x<ks.length):Kb (ks.set x (ks.getD x []++[key])) (n+1):=λj=>by
 rw[lZ _ _ _ _ _ hx];split
 ·rw[D1];~S7 (h x)
 ·~Nat.le_succ_of_le (h j)
B5 aD8(ns:List Int)(hl:ns.length≤63)(hs:∀k∈ns,Small k):aIH κ [.lst OE]=NR (.bl NU):=by
 suffices hh:∃d,aIH κ [.lst OE]=NR d∧d=.bl NU by B3⟨d,e,rfl⟩:=hh;~e
 &oM U ?_;B4 aKy;B3⟨P,R,rs,aQ,od,hb,BB⟩:=aDO (ns:=ns);have B:=BB.b;have hlm:=pI P R rs aQ;have h8:=B.p8;have h1:=B.p1;have r1:=B.r1;have r8:=B.r8;have hln:gZ [bJ OF]=NR (.int P):=(xT _).trans (by rw[hlm]);have hm0:0<P*R:=T2 h1 r1;have w0':mJ (Wb.first P R rs aQ od):=B.ok;have aMw:∀k,k<P*R→(val OF (k%P) (k/P)).length=5:=λk hk=>by B3⟨q,q1,q2⟩:=Vf (R:=R) (cO:=rs) (aQ:=aQ) h1 hk;B4 val;rw[dY q1,dY q2];~B.five k hk
 have aMx:((aU P R rs aQ).getD 0 []).length=R+1:=Kh (D6 (i:=0) (by rw[dU (d:=[]) (by rw[hlm];~h1)]));have aMy:∀x:Int,0≤x→x<((P*R:Nat):Int)→val OF (x.toNat%P) (x.toNat/P)=rs.getD x.toNat []:=λx x0 x1=>by B3⟨q,q1,q2⟩:=Vf (R:=R) (cO:=rs) (aQ:=aQ) (b:=x.toNat) h1 A6;B4 val;rw[dY q1,dY q2]
 have aKR:Ai (λx=>(rs.getD x.toNat []).getD 1 0) (0::od):=Ai.of λk hk=>by B3⟨key,was,now,gF,e⟩:=B.chain k hk;have e:rs[((0::od).getD k 0).toNat]?=_:=e;show (rs.getD ((0::od).getD k 0).toNat []).getD 1 0=_;rw[dY e];rfl
 have bd0:∀y∈(0:Int)::od,0≤y∧y<(P*R:Nat):=λy hy=>by
  rcases B9.mp hy with z | z
  ·omega
  ·have:=B.sV y z;omega
 have nd0:((0:Int)::od).Nodup:=F1.mpr ⟨λz=>by have:=B.sV 0 z;omega,B.Oc⟩;have V0:Ey OF od [] (Wb.first P R rs aQ od):=by&⟨Dc.init (by rw[hlm];~h8),λS _=>⟨od,U,nd0,λx hx=>by show _∧x<(rs.length:Int);rw[B.len];~B.sV x hx,aKR.congr λy hy=>?_,λx hx _=>hx,λx _ _ hx _=>hx⟩,aKR⟩;show (val OF ((y.toNat%(aU P R rs aQ).length:Nat):Int).toNat ((y.toNat/(aU P R rs aQ).length:Nat):Int).toNat).getD 1 0=_;rw[C7,C7,hlm,aMy y (bd0 y hy).1 (bd0 y hy).2]
 have hP0:(Wb.first P R rs aQ od).P=P:=hlm;have hR0:(Wb.first P R rs aQ od).rs.length=P*R:=B.len;have own:∀{s:Wb} {evs:List Ev} {row:List Int},Ey OF od evs s→mJ s→s.P=P→s.rs.length=P*R→Row OF od evs s (inB s.b.held) row→vN [jM s.b.bB]=NR (aN row):=λ{s evs row} V w hP hr Rw=>by
  have shp:=V.lb.shape;have eP:s.b.bB.length=P:=hP;have hval:∀k:Nat,val s.b.bB (k%P) (k/P)=Ag OF s.b.asked (inB s.b.held) ((k%P:Nat):Int) ((k/P:Nat):Int):=λk=>V.lb.val _ _;&aF6 (m:=P*R) (R:=R) A6 A6 (by rw[eP]) r8 ((shp.2 0).trans aMx) (λk hk=>?_) Rw.nd (λx hx=>by rw[←hr];~Rw.bd x hx) hm0 (Rw.pth.congr λy hy=>?_)
  ·rw[eP,hval];B4 Ag;cases e:vX s.b.asked (inB s.b.held) ((k%P:Nat):Int) ((k/P:Nat):Int)with
   | none=>
    show 2≤(val OF ((k%P:Nat):Int).toNat ((k/P:Nat):Int).toNat).length;rw[C7,C7,aMw k hk]
    decide
   | some j=>
    have:=ZP e;show 2≤(at_ s.b.asked j.toNat).thing.length;rw[w.th j.toNat (show j.toNat<s.b.asked.length by omega)]
    decide
  ·B4 Vl;rw[eP,hval,hP]
 generalize hst:bJ OF=sd at *;&cD (d:=sd) (bM (aA U U) U hb) A9 ?_;&cD (d:=lR κ (Wb.first P R rs aQ od)) (Ub (aA U U) (by rw[←hst];~ZJ κ B)) A9 ?_;have ZD:∀{e:DE},e[1]?=NR (NR sd)→f2 sZ (fL gZ OV) (f2 Az (fL gZ (aB (f2 cW (aD 1) Nw) aL)) OA) e=NR OQ:=λ{e} e1=>by
  have p0:=tX (P:=P) (R:=R) (cO:=rs) (aQ:=aQ) (p:=0) h1;have ix0:cW sd (.int 0)=NR (eN (((D5 R).map λr=>rs.getD (0+P*r) [])++[[aQ.getD 0 0]])):=by rw[←hst];~xU (k:=0) p0
  have hlp:=rQ (((D5 R).map λr=>rs.getD (0+P*r) [])++[[aQ.getD 0 0]]);rw[Kh (D6 p0)]at hlp;rw[U1,show (R:Int)=((R+1:Nat):Int)-1 by omega];~aJ (cV (aA (nJ e1) U) hln) (aJ (cV (aA (aJ (nJ e1) U ix0) U) hlp) U (lX _ _)) (gC (Ep A6 A6))
 &cD (d:=.int ((P*R:Nat):Int)) (ZD U) A9 ?_;have m64:P*R≤8*8:=Q6 h8 r8;&cD (d:=Oi (E9 (P*R) [])) ((yV (n:=P*R) (φ:=λ_=>.lst []) (yU (aA U U) A6) A6 λk hk=>iD U A8).trans (by
  B4 Oi;rw[List.map_replicate,List.map_const',E1]
  rfl)) A9 ?_
 have odl:od.length≤64:=w0'.aBo;&aI5 (xs:=od.map D.int) (λn env=>∃(ks:List Nd)(v5:SD),env=[.fro (aN ns),.own sd,.own (lR κ (Wb.first P R rs aQ od)),.own OQ,.own (Oi ks),v5,.no,.no,.no,.no,.no,.no,.no,.no]∧ks.length=P*R∧Kb ks n∧∀i,i<n→(rs.getD (od.getD i 0).toNat []).getD 0 0∈ks.getD (od.getD i 0).toNat []) (bU (nm:=uZ) U A7 U U (Vc κ _)) ⟨_,_,U,P7,λj=>by
   rw[B7,O7]
   split<;>~C9 _,λi hi=>absurd hi (J9 _)⟩ ?_ ?_
 ·rintro n x env hx ⟨ks,v5,rfl,hkl,hkb,hkm⟩;&⟨by walk_at "lt", ?_⟩;rw[C5]at hx;B3⟨y,hy,rfl⟩:=kJ hx;have hn:=(D4.mp hy).1;have yb:=B.sV y (D6 hy);have yr:y<((Wb.first P R rs aQ od).rs.length:Int):=by rw[hR0];~yb.2
  &⟨_,zy (ks:=ks) (key:=(rs.getD y.toNat []).getD 0 0) U U (aJ (bU (nm:=uZ) U A7 U U (lJ κ w0' A6 yr)) U (pN (k:=0) (by rw[w0'.five A6 yr];decide))) A6 A6 (R6 (hkb _) A6),_,_,U,by rw[J5];~hkl,hkb.set A6,λi hi=>?_⟩;rw[lZ _ _ _ _ _ A6];split
  ·rename_i e;rcases G4 i n with z | z
   ·have:=hkm i z;rw[←e]at this ⊢;~F5 _ this
   ·B3 rfl:i=n:=by omega
    rw[dY hy];~E5 _ (D2.mpr U)
  ·rename_i e;rcases G4 i n with z | z
   ·~hkm i z
   ·B3 rfl:i=n:=by omega
    rw[dY hy]at e;~absurd U e
 rintro env ⟨ks0,v5,rfl,hkl0,hkb0,hkm0⟩;rw[B8]at hkb0 hkm0;have N0:Oz (aU P R rs aQ) od [] (Wb.first P R rs aQ od) ks0:=Oz.init BB V0 λx hx=>by B3⟨i,hi,ei⟩:=G6 hx;have:=hkm0 i hi;rw[B7 (l:=od),B6 hi]at this;rw[←ei];~this
 B3⟨cells,hcells,c1⟩:∃cells:List Int,eE (kO (ao NV (aD 0) (mV (fC (.int 3))) (mV (fC (.int 123))))) [] gP (cJ 1 mY OK) (zE [.fro (aN ns),.own sd,.own (lR κ (Wb.first P R rs aQ od)),.own OQ,.own (Oi ks0),v5,.no,.no,.no,.no,.no,.no,.no,.no])=NR (aN cells)∧cells.length≤60:=by have hsp:∀c:Int,∃s:Int,0≤s∧mY [.int c]=NR (.int s):=aBq;&⟨((ns.drop 3).take 120).map λc=>(hsp c).choose,?_,by rw[B8,G7,O1];omega⟩;have:=Gk (fi:=kO (ao NV (aD 0) (mV (fC (.int 3))) (mV (fC (.int 123))))) (fr:=[]) (fc:=gP) (fe:=cJ 1 mY OK) (e:=zE [.fro (aN ns),.own sd,.own (lR κ (Wb.first P R rs aQ od)),.own OQ,.own (Oi ks0),v5,.no,.no,.no,.no,.no,.no,.no,.no]) (ms:=(ns.drop 3).take 120) (λ_=>NU) (λc=>(hsp c).choose) (gD ((VM U (wZ U) (wZ U)).trans (by rw[show (3:Int)=((3:Nat):Int)from rfl,show (123:Int)=((123:Nat):Int)from rfl,aDh]))) (by rw[G7];omega) (λm hm=>rfl) λm hm _=>bM (aA U U) U (hsp m).choose_spec.2;rw[R4.mpr λ_ _=>rfl]at this;~this
 &yh (xs:=cells.map D.int) (λn env=>∃(s:Wb)(evs:List Ev)(ks:List Nd)(v5 v6 v7 v8 v9 v10 v11 v12 v13:SD),env=[.fro (aN ns),.own sd,.own (lR κ s),.own OQ,.own (Oi ks),v5,v6,v7,v8,v9,v10,v11,v12,v13]∧Ey OF od evs s∧Oz OF od evs s ks∧mJ s∧s.n≤2*n∧s.P=P∧s.rs.length=P*R∧ks.length=P*R∧Kb ks (64+n)) U (gD hcells) ⟨_,[],ks0,_,_,_,_,_,_,_,_,_,U,V0,N0,w0',C9 _,hP0,hR0,hkl0,λj=>G1 (hkb0 j) odl⟩ ?_ ?_
 ·rintro n x env hx ⟨s,evs,ks,v5,v6,v7,v8,v9,v10,v11,v12,v13,rfl,V,N,h,hn,hP,hr,hkl,hkb⟩;&⟨by walk_at "lt", ?_⟩;rw[C5]at hx;B3⟨c,hc,rfl⟩:=kJ hx;have hnc:=(D4.mp hc).1;&cD (d:=.int (c/3)) (aJ U U (fD A8 A8)) A9 ?_;apply Bl (b:=decide (c%3=0))
  ·~cB (aJ (aJ U U (bI A8)) U (kZ _ _))
  ·intro _;have p0:=F2 (c/3/9) (show (P:Int)≠0 by omega);have p1:=G0 (c/3/9) (show 0<(P:Int) by omega);have tail:∀(r:List Int)(t:Nat),ni s.b.asked s.b.held (c/3/9%(P:Int)) r→Qs (λr=>∃env',r=.next env'∧∃(s:Wb)(evs:List Ev)(ks:List Nd)(v5 v6 v7 v8 v9 v10 v11 v12 v13:SD),env'=[.fro (aN ns),.own sd,.own (lR κ s),.own OQ,.own (Oi ks),v5,v6,v7,v8,v9,v10,v11,v12,v13]∧Ey OF od evs s∧Oz OF od evs s ks∧mJ s∧s.n≤2*(n+1)∧s.P=P∧s.rs.length=P*R∧ks.length=P*R∧Kb ks (64+(n+1))) ((aY (cT 8 (fH (κ 0) "stone" 1 (rG κ) (tG (fP (κ 1) "bench") (aD 2)) aL []))
 (aY (cT 9 (cJ 1 vN (aB (aD 8) aL)))
 (aY (qU (fOr (fB (f2 (Ja NV) (aD 9) (fC .non))) (fOr (Em (fB (cJ 3 uB (aB (aD 8) (aB (aD 9) (aB (aD 4) aL)))))) (fB (f2 (dIs NU) (cJ 1 xM (aB (aD 8) aL)) (fC (.bl NU)))))) (eY (fC (.bl NV))) fM)
 (qU (fB (f2 ak (fH (κ 1) "order" 1 (jY κ) (Th (κ 1) (pP κ) (aB (aD 8) aL)) aL []) (aD 9))) (eY (fC (.bl NV))) fM)))) [.fro (aN ns),.own sd,.own (lR κ (s.cv (r.take t))),.own OQ,.own (Oi ks),v5,.fro (.int c),.own (.int (c/3)),v8,v9,v10,v11,v12,v13]):=by
    intro r t hR;have V':=V.cv hR t;have N':=N.cv (r.take t);have hnd:(r.take t).Nodup:=(hR.1.sublist (M6 _ _)).imp λq=>Int.ne_of_lt q;have hrm:∀x∈r.take t,(0≤x∧x<(s.n:Int))∧x∉s.b.held:=λx hx=>by have:=((hR.2.2 x).mp (L7 hx)).1;~⟨⟨this.1,this.2.1⟩,this.2.2.2⟩
    B3⟨h',_,e2,e3⟩:=h.cv hnd (λx hx=>(hrm x hx).1) λx hx=>(hrm x hx).2;have hr':(s.cv (r.take t)).rs.length=P*R:=hr;have hn':(s.cv (r.take t)).n=s.n:=e2;have hP':=e3.trans hP;generalize s.cv (r.take t)=s' at *;have e8:s'.b.bB.length≤8:=h'.bn.few;B3⟨rS,row,Rw,ep,BS,hkS⟩:=aD7 BB V' N' h' hP' hr';have hown:=own V' h' hP' hr' Rw;have hst':=aBr κ (b:=s'.b) e8;rw[ep]at hown hst';have hown:vN [bJ (aU P R rS aQ)]=NR (aN row):=hown;have hky:=aBw BS hkl hkS;have hsd:=aD2 BS;have hin:=ZJ κ (aQ:=aQ) BS.b;have hor:=Vc κ (Wb.first P R rS aQ row);&cD (d:=bJ (aU P R rS aQ)) (bU (nm:=Ze) (dW U (pM w0 U)) A7 U U hst') A9 ?_;generalize bJ (aU P R rS aQ)=fd at *;&cD (d:=aN row) (bM (aA U U) U hown) A9 ?_;&wY (b:=NV) ((Yl (cB (b:=NV) (aJ U U U))).trans ((Yl (pZ (b:=NU) (cB (bM (aA U (aA U (aA U U))) U hky)))).trans (cB (aJ (a:=.bl NU) (bM (aA U U) U hsd) U U)))) U (yS ?_);&aDe (b:=NV) (cB (aJ (bU (nm:=uZ) (Ub (aA U U) hin) A7 U U hor) U ((VR row row).trans (by rw[decide_eq_true rfl];rfl)))) U ?_;~aDd ⟨_,U,s',evs,ks,_,_,_,_,_,_,_,_,_,U,V',N',h',by omega,hP',hr',hkl,λj=>G1 (hkb j) A6⟩
   have ew:∀(r:List Int)(t:Nat),D.ins (κ 1) uZ [dX (κ 0) (s.b.bW (r.take t)),pq s.P s.rs.length,aN s.od,aN s.lo,Ox s.la,Ox s.co,Ox s.go]=lR κ (s.cv (r.take t)):=λr t=>by B4 lR;rw[show (s.cv (r.take t)).P=s.P from(kE (r.take t) s.b).1];rfl
   have harg:∀{env:EN},(rE env)[7]?=NR (NR (.int (c/3)))→(rE env)[1]?=NR (NR sd)→f2 gH (f2 rR (aD 7) (fC (.int 9))) (fL gZ OV) (rE env)=NR (.int (c/3/9%(P:Int))):=λe7 e1=>aJ (aJ (nJ e7) U (fD A8 A8)) (cV (aA (nJ e1) U) hln) (bI A6);have hp1:c/3/9%(P:Int)<(s.b.bB.length:Int):=by rw[show s.b.bB.length=P from hP];~p1
   apply GQ (b:=decide (c/3%3=0))
   ·~cB (aJ (aJ U U (bI A8)) U (kZ _ _))
   ·intro _;B3⟨r,hR,hcv⟩:=YJ κ h.bn (p:=c/3/9%(P:Int)) (most:=.int (c/3/3%3)) p0 hp1 (.inr ⟨_,U⟩);have hcv:=hcv (r.take (c/3/3%3).toNat) (λz=>by cases z) λm z=>by cases z;rfl
    &HN (d:=aN (r.take (c/3/3%3).toNat)) (env':=[.fro (aN ns),.own sd,.own (lR κ (s.cv (r.take (c/3/3%3).toNat))),.own OQ,.own (Oi ks),v5,.fro (.int c),.own (.int (c/3)),v8,v9,v10,v11,v12,v13]) ((lD (p:=[L2.Step.fld (κ 1) "bench"]) (nm:=Ze) (es:=[.int (c/3/9%(P:Int)),.int (c/3/3%3)]) U U (wJ w0 U) A7 (by
     rw[fU (d:=.int (c/3/9%(P:Int))) (harg U U) (fU (d:=.int (c/3/3%3)) (aJ (aJ U U (fD A8 A8)) U (bI A8)) U)]
     rfl) hcv).trans (by
     rw[wK w0 U,←ew r _]
     rfl)) (tail r _ hR)
   ·intro _;B3⟨r,hR,hcv⟩:=YJ κ h.bn (p:=c/3/9%(P:Int)) (most:=.non) p0 hp1 (.inl U);have hcv:=hcv r (λ_=>rfl) λm z=>by cases z
    have et:r.take r.length=r:=P1;have tl:=tail r r.length hR;rw[et]at tl;have ewr:=ew r r.length;rw[et]at ewr;&HN (d:=aN r) (env':=[.fro (aN ns),.own sd,.own (lR κ (s.cv r)),.own OQ,.own (Oi ks),v5,.fro (.int c),.own (.int (c/3)),v8,v9,v10,v11,v12,v13]) ((lD (p:=[L2.Step.fld (κ 1) "bench"]) (nm:=Ze) (es:=[.int (c/3/9%(P:Int)),.non]) U U (wJ w0 U) A7 (by
     rw[fU (d:=.int (c/3/9%(P:Int))) (harg U U) rfl]
     rfl) hcv).trans (by
     rw[wK w0 U,←ewr]
     rfl)) tl
  ·intro _;B3⟨s',ev,V',N',h',hn',hP',hr',aMz,hbd,hstep⟩:=aGb κ V N A6 h A6 (c/3);&cD (d:=.lst []) (iD U A8) A9 ?_;have hg:TQ (.ch 2::.ch 10::.rd (aD 7)::[]) (Bv κ) [.fro (aN ns),.own sd,.own (lR κ s),.own OQ,.own (Oi ks),v5,.fro (.int c),.own (.int (c/3)),v8,v9,.own (.lst []),v11,v12,v13]=NR (.non,[.fro (aN ns),.own sd,.own (lR κ s'),.own OQ,.own (Oi ks),v5,.fro (.int c),.own (.int (c/3)),v8,v9,.own (.lst (ev.map qz)),v11,v12,v13]):=(aDG (ds':=[lR κ s',.lst (ev.map qz)]) (Qc:=[lR κ s,.lst []]) (TJ:=[.int (c/3)]) U (aGT (aGT (aKG U U))) hstep).trans U;&HN hg ?_;have hrl:s'.rs.length=P*R:=hr'.trans hr
   match ev,aMz,hbd,V',N' with
   | [],_,_,V',N'=>~⟨_,U,s',_,ks,_,_,_,_,_,_,_,_,_,U,V',N',h',by omega,hP'.trans hP,hrl,hkl,λj=>G1 (hkb j) A6⟩
   | [e],_,hbd,V',N'=>
    B3⟨e0,e1⟩:=hbd e C8;have N':Oz OF od (evs++[e]) s' (kup s' ks e):=N';have aKS:(kup s' ks e).length=P*R∧Kb (kup s' ks e) (64+(n+1)):=by
     B4 kup;split
     ·~⟨by rw[J5];~hkl,hkb.set A6⟩
     ·~⟨hkl,λj=>G1 (hkb j) A6⟩
    have hbody:(qU (fB (f2 Fv (aD 11) (fC (.str "in")))) (vA 4 (EY dC (aD 5)) (cL (f2 cW (fH (κ 1) "record_of" 2 (bC κ) (aD 2) (aB (aD 5) aL) []) Nw))) fM) [.fro (aN ns),.own sd,.own (lR κ s'),.own OQ,.own (Oi ks),.fro (.int e.b),.fro (.int c),.own (.int (c/3)),v8,v9,.fro (.lst ([e].map qz)),.fro (.str (if e.i=NU then "in" else "out")),.fro (.int e.n),.fro (.int e.a)]=.next [.fro (aN ns),.own sd,.own (lR κ s'),.own OQ,.own (Oi (kup s' ks e)),.fro (.int e.b),.fro (.int c),.own (.int (c/3)),v8,v9,.fro (.lst ([e].map qz)),.fro (.str (if e.i=NU then "in" else "out")),.fro (.int e.n),.fro (.int e.a)]:=by
     &aKt (cB (aJ U U (aF3 _ _))) (λz=>?_) λz=>?_
     ·have ci:e.i=NU:=by
       cases q:e.i with
       | true=>rfl
       | false=>rw[q,if_neg E8,aI3]at z;cases z
      have ek:kup s' ks e=ks.set e.b.toNat (ks.getD e.b.toNat []++[s'.key e.b]):=if_pos ci;rw[ek];&(zy (env:=[.fro (aN ns),.own sd,.own (lR κ s'),.own OQ,.own (Oi ks),.fro (.int e.b),.fro (.int c),.own (.int (c/3)),v8,v9,.fro (.lst ([e].map qz)),.fro (.str (if e.i=NU then "in" else "out")),.fro (.int e.n),.fro (.int e.a)]) (e:=f2 cW (fH (κ 1) "record_of" 2 (bC κ) (aD 2) (aB (aD 5) aL) []) Nw) (i:=4) (j:=5) (ks:=ks) (key:=s'.key e.b) U U (aJ (bU (nm:=uZ) U A7 U U (lJ κ h' e0 e1)) U (pN (k:=0) (by rw[h'.five e0 e1];decide))) e0 A6 (R6 (hkb _) A6)).trans U
     ·have ci:e.i=NV:=by
       cases q:e.i with
       | false=>rfl
       | true=>rw[q,if_pos U,aKM]at z;cases z
      have ek:kup s' ks e=ks:=if_neg (by rw[ci];decide);rw[ek];rfl
    have aMA:Yh [10] [11,12,5,13] (kO (aD 10)) (qU (fB (f2 Fv (aD 11) (fC (.str "in")))) (vA 4 (EY dC (aD 5)) (cL (f2 cW (fH (κ 1) "record_of" 2 (bC κ) (aD 2) (aB (aD 5) aL) []) Nw))) fM) [.fro (aN ns),.own sd,.own (lR κ s'),.own OQ,.own (Oi ks),v5,.fro (.int c),.own (.int (c/3)),v8,v9,.own (.lst ([e].map qz)),v11,v12,v13]=.next [.fro (aN ns),.own sd,.own (lR κ s'),.own OQ,.own (Oi (kup s' ks e)),.fro (.int e.b),.fro (.int c),.own (.int (c/3)),v8,v9,.fro (.lst ([e].map qz)),.fro (.str (if e.i=NU then "in" else "out")),.fro (.int e.n),.fro (.int e.a)]:=(aF4 (env:=[.fro (aN ns),.own sd,.own (lR κ s'),.own OQ,.own (Oi ks),v5,.fro (.int c),.own (.int (c/3)),v8,v9,.fro (.lst ([e].map qz)),v11,v12,v13]) (is:=[11,12,5,13]) (xs:=[]) ⟨U,U⟩ hbody).trans U;show Qs _ (Yh [10] [11,12,5,13] _ _ _);B4 Qs;rw[aMA];~⟨_,U,s',_,kup s' ks e,_,_,_,_,_,_,_,_,_,U,V',N',h',by omega,hP'.trans hP,hrl,aKS.1,aKS.2⟩
 ·rintro env ⟨s,evs,ks,v5,v6,v7,v8,v9,v10,v11,v12,v13,rfl,_⟩;~pL U ⟨_,U,U⟩
end Rs

def PySem.W.Fast.tw1508304336630533074:Unit:=()
def PySem.W.Fast.tw3708964525823627150:Unit:=()
def PySem.W.Fast.tw12030730306902414215:Unit:=()
def PySem.W.Fast.tw11638830029466305498:Unit:=()
def PySem.W.Fast.tw5067461125367124325:Unit:=()
def PySem.W.Fast.tw5765067043335412595:Unit:=()
def PySem.W.Fast.tw8563380687096887615:Unit:=()
def PySem.W.Fast.tw13775575970089195153:Unit:=()
def PySem.W.Fast.tw14334500951384595646:Unit:=()
def PySem.W.Fast.tw9832483619379674574:Unit:=()
def PySem.W.Fast.tw7209607290388223769:Unit:=()
def PySem.W.Fast.tw15716994918409836890:Unit:=()
def PySem.W.Fast.tw6965311592763453752:Unit:=()
def PySem.W.Fast.tw8223361747657813295:Unit:=()
def PySem.W.Fast.tw16242328694652818769:Unit:=()
def PySem.W.Fast.tw16062002948950647307:Unit:=()
def PySem.W.Fast.tw17978407808698933957:Unit:=()
def PySem.W.Fast.tw5124873024761655715:Unit:=()
def PySem.W.Fast.tw17496210522596066849:Unit:=()
def PySem.W.Fast.tw481911157047220479:Unit:=()
def PySem.W.Fast.tw7225676794488915953:Unit:=()
def PySem.W.Fast.tw14579313808406644192:Unit:=()
def PySem.W.Fast.tw5602451307965608334:Unit:=()
def PySem.W.Fast.tw6892445710960951994:Unit:=()
def PySem.W.Fast.tw14004680206041684414:Unit:=()
def PySem.W.Fast.tw1173972568326913374:Unit:=()
def PySem.W.Fast.tw15183411124324231712:Unit:=()
def PySem.W.Fast.tw12580395083187318791:Unit:=()
def PySem.W.Fast.tw12896293736635817355:Unit:=()
def PySem.W.Fast.tw6005286153716100394:Unit:=()
def PySem.W.Fast.tw5835466019582875299:Unit:=()
def PySem.W.Fast.tw4147410169416744226:Unit:=()
def PySem.W.Fast.tw2047793640291827095:Unit:=()
def PySem.W.Fast.tw11909133665213016725:Unit:=()
def PySem.W.Fast.tw3910354521601347204:Unit:=()
def PySem.W.Fast.tw8378634424338781058:Unit:=()
def PySem.W.Fast.tw3517197138530696459:Unit:=()
def PySem.W.Fast.tw15508363891893101667:Unit:=()
def PySem.W.Fast.tw10570838178736465275:Unit:=()
def PySem.W.Fast.tw11993064304068602319:Unit:=()
def PySem.W.Fast.tw1488941884622376373:Unit:=()
def PySem.W.Fast.tw760469505515024504:Unit:=()
def PySem.W.Fast.tw200338616687629932:Unit:=()
def PySem.W.Fast.tw3772577550258895890:Unit:=()
def PySem.W.Fast.tw8605483331390114781:Unit:=()
def PySem.W.Fast.tw12458222784869357082:Unit:=()
def PySem.W.Fast.tw13075868571811419587:Unit:=()
def PySem.W.Fast.tw6983183799288042814:Unit:=()
def PySem.W.Fast.tw6445253276640010334:Unit:=()
def PySem.W.Fast.tw8492612761756567463:Unit:=()
def PySem.W.Fast.tw2403500027800428782:Unit:=()
def PySem.W.Fast.tw5451624712485440190:Unit:=()
def PySem.W.Fast.tw17634838330653113515:Unit:=()
def PySem.W.Fast.tw16306661371008353125:Unit:=()
def PySem.W.Fast.tw6863308763711323337:Unit:=()
def PySem.W.Fast.tw4463392257390970914:Unit:=()
def PySem.W.Fast.tw3259100369929463900:Unit:=()
def PySem.W.Fast.tw15773116284285518631:Unit:=()
def PySem.W.Fast.tw870962798346404773:Unit:=()
def PySem.W.Fast.tw12753950287951963329:Unit:=()
def PySem.W.Fast.tw1435184554569923885:Unit:=()
def PySem.W.Fast.tw8051203252852410803:Unit:=()
def PySem.W.Fast.tw12191744291732969961:Unit:=()
def PySem.W.Fast.tw9499128531175764607:Unit:=()
def PySem.W.Fast.tw17300530181495827533:Unit:=()
def PySem.W.Fast.tw13050936598849936110:Unit:=()
def PySem.W.Fast.tw6047114898307938320:Unit:=()
def PySem.W.Fast.tw11516159200146645526:Unit:=()
def PySem.W.Fast.tw17426235025467757385:Unit:=()
def PySem.W.Fast.tw9233349134935661909:Unit:=()
def PySem.W.Fast.tw909640684066681962:Unit:=()
def PySem.W.Fast.tw10097257022750791174:Unit:=()
def PySem.W.Fast.tw13443829229106670335:Unit:=()
def PySem.W.Fast.tw10535592357802742590:Unit:=()
def PySem.W.Fast.tw5355385425508046940:Unit:=()
def PySem.W.Fast.tw7882066888153856015:Unit:=()
def PySem.W.Fast.tw7666125558248007976:Unit:=()
def PySem.W.Fast.tw14442361187645145639:Unit:=()
def PySem.W.Fast.tw13243470432673020416:Unit:=()
def PySem.W.Fast.tw5297177313091086212:Unit:=()
def PySem.W.Fast.tw15403198487580117017:Unit:=()
def PySem.W.Fast.tw1211230691563290796:Unit:=()
def PySem.W.Fast.tw18297906099712631327:Unit:=()
def PySem.W.Fast.tw7136476291948219221:Unit:=()
def PySem.W.Fast.tw1839610225778808395:Unit:=()
def PySem.W.Fast.tw4158331698463136743:Unit:=()
def PySem.W.Fast.tw16361316459998759290:Unit:=()
def PySem.W.Fast.tw1338198185720203279:Unit:=()
def PySem.W.Fast.tw6409466634050085309:Unit:=()
def PySem.W.Fast.tw13488729150072917364:Unit:=()
def PySem.W.Fast.tw7782514506226153752:Unit:=()
def PySem.W.Fast.tw5165775005483723300:Unit:=()
def PySem.W.Fast.tw12738202559150594243:Unit:=()
def PySem.W.Fast.tw5568204546586241365:Unit:=()
def PySem.W.Fast.tw2156271796146233379:Unit:=()
def PySem.W.Fast.tw2046809458983826613:Unit:=()
def PySem.W.Fast.tw13383367373940061018:Unit:=()
def PySem.W.Fast.tw17938636580637001770:Unit:=()
def PySem.W.Fast.tw1998743909177989946:Unit:=()
def PySem.W.Fast.tw15840382583866646280:Unit:=()
def PySem.W.Fast.tw177157430149860907:Unit:=()
def PySem.W.Fast.tw12358109465812849479:Unit:=()
def PySem.W.Fast.tw4272638679394851143:Unit:=()
def PySem.W.Fast.tw4292116048695670899:Unit:=()
def PySem.W.Fast.tw1161196035460623422:Unit:=()
def PySem.W.Fast.tw5193189958177512241:Unit:=()
def PySem.W.Fast.tw13466261215008101670:Unit:=()
def PySem.W.Fast.tw9325289799922055372:Unit:=()
def PySem.W.Fast.tw8047134839612110275:Unit:=()
def PySem.W.Fast.tw13009211120209878672:Unit:=()
def PySem.W.Fast.tw1656951613834035220:Unit:=()
def PySem.W.Fast.tw1955195600849380456:Unit:=()
def PySem.W.Fast.tw5960072417107226990:Unit:=()
def PySem.W.Fast.tw11733714141302515113:Unit:=()
def PySem.W.Fast.tw4348013327421605133:Unit:=()
def PySem.W.Fast.tw13678689502931391723:Unit:=()
def PySem.W.Fast.tw16075405982338868607:Unit:=()
def PySem.W.Fast.tw6955108102447627442:Unit:=()
def PySem.W.Fast.tw4940183131140392416:Unit:=()
def PySem.W.Fast.tw252618813175442746:Unit:=()
def PySem.W.Fast.tw801373195779363996:Unit:=()
def PySem.W.Fast.tw16144915565387209726:Unit:=()
def PySem.W.Fast.tw5944812861418183027:Unit:=()
def PySem.W.Fast.tw6277073525074389375:Unit:=()
def PySem.W.Fast.tw12487795443501743916:Unit:=()
def PySem.W.Fast.tw9639434779597654382:Unit:=()
def PySem.W.Fast.tw12414464057608870805:Unit:=()
def PySem.W.Fast.tw14522724888297688347:Unit:=()
def PySem.W.Fast.tw15744552121677857811:Unit:=()
def PySem.W.Fast.tw13500230228034835399:Unit:=()
def PySem.W.Fast.tw549814642178646336:Unit:=()
def PySem.W.Fast.tw10104730418165540510:Unit:=()
def PySem.W.Fast.tw14349120086811543244:Unit:=()
def PySem.W.Fast.tw9327403986974536467:Unit:=()
def PySem.W.Fast.tw8900820093121068974:Unit:=()
def PySem.W.Fast.tw10319081677961769580:Unit:=()
def PySem.W.Fast.tw16704860509986620548:Unit:=()
def PySem.W.Fast.tw6071868427388254519:Unit:=()
def PySem.W.Fast.tw3492634802378174108:Unit:=()
def PySem.W.Fast.tw11628195534816504225:Unit:=()
def PySem.W.Fast.tw5068393489088784939:Unit:=()
def PySem.W.Fast.tw9766012217623097022:Unit:=()
def PySem.W.Fast.tw10925423482085593261:Unit:=()
def PySem.W.Fast.tw5153818275641079269:Unit:=()
def PySem.W.Fast.tw4932514649994518653:Unit:=()
def PySem.W.Fast.tw16207770646200298767:Unit:=()
def PySem.W.Fast.tw12305601554858333912:Unit:=()
def PySem.W.Fast.tw14949505542572037723:Unit:=()
def PySem.W.Fast.tw15597206879565269123:Unit:=()
def PySem.W.Fast.tw5448520423650952270:Unit:=()
def PySem.W.Fast.tw18093548811571406878:Unit:=()
def PySem.W.Fast.tw17233397509229429633:Unit:=()
def PySem.W.Fast.tw1095484988387213211:Unit:=()
def PySem.W.Fast.tw9871647687357152827:Unit:=()
def PySem.W.Fast.tw17210893334233165710:Unit:=()
def PySem.W.Fast.tw8094782959057528984:Unit:=()
def PySem.W.Fast.tw12498454811921725486:Unit:=()
def PySem.W.Fast.tw3095109528415581076:Unit:=()
def PySem.W.Fast.tw9077857250596210683:Unit:=()
def PySem.W.Fast.tw7728792325295885565:Unit:=()
def PySem.W.Fast.tw1866973899242617640:Unit:=()
def PySem.W.Fast.tw233300747544140003:Unit:=()
def PySem.W.Fast.tw8200120313862202020:Unit:=()
def PySem.W.Fast.tw2213884621647109110:Unit:=()
def PySem.W.Fast.tw6933209649676071583:Unit:=()
def PySem.W.Fast.tw7645694830072735132:Unit:=()
def PySem.W.Fast.tw14238816610204018184:Unit:=()
def PySem.W.Fast.tw1634784425868216330:Unit:=()
def PySem.W.Fast.tw9197569692597277461:Unit:=()
def PySem.W.Fast.tw14279029122500255594:Unit:=()
def PySem.W.Fast.tw8040861792792966631:Unit:=()
def PySem.W.Fast.tw17997390406247774922:Unit:=()
def PySem.W.Fast.tw10905541059765199095:Unit:=()
def PySem.W.Fast.tw17538398826320665591:Unit:=()
def PySem.W.Fast.tw595055619902724822:Unit:=()
def PySem.W.Fast.tw17518842985442194997:Unit:=()
def PySem.W.Fast.tw10009751672428111506:Unit:=()
def PySem.W.Fast.tw14112919092935207012:Unit:=()
def PySem.W.Fast.tw6747915252510249101:Unit:=()
def PySem.W.Fast.tw15642080738014966561:Unit:=()
def PySem.W.Fast.tw14740279783878027887:Unit:=()
def PySem.W.Fast.tw5096817408425743980:Unit:=()
def PySem.W.Fast.tw9863540518319740011:Unit:=()
def PySem.W.Fast.tw2874029849472507522:Unit:=()
def PySem.W.Fast.tw9721865689517115147:Unit:=()
def PySem.W.Fast.tw2250432325356052643:Unit:=()
def PySem.W.Fast.tw16932018464445044644:Unit:=()
def PySem.W.Fast.tw369913865110749129:Unit:=()
def PySem.W.Fast.tw4376067934767854560:Unit:=()
def PySem.W.Fast.tw10679615158411012741:Unit:=()
def PySem.W.Fast.tw7567008751180757923:Unit:=()
def PySem.W.Fast.tw7375249572087188921:Unit:=()
def PySem.W.Fast.tw4595532767568226262:Unit:=()
def PySem.W.Fast.tw2896284459012940846:Unit:=()
def PySem.W.Fast.tw365756974622879353:Unit:=()
def PySem.W.Fast.tw4020202859176326304:Unit:=()
def PySem.W.Fast.tw13683826430126077741:Unit:=()
def PySem.W.Fast.tw10350031793979042318:Unit:=()
def PySem.W.Fast.tw9628335698690190413:Unit:=()
def PySem.W.Fast.tw7154835044967043120:Unit:=()
def PySem.W.Fast.tw8544339954325726127:Unit:=()
def PySem.W.Fast.tw17215791441294104899:Unit:=()
def PySem.W.Fast.tw15708765987165372552:Unit:=()
namespace Rs
open PySem L2
B5 LR{K:aG}{f:AF}{oc:AE}{od:Option AF}{fd:BU}{sl:Array (Option AE)}(l:K.lookup f=NR ⟨oc,od,.func fd,sl⟩):K7 K (.ref f)=NU:=by B4 K7;dsimp only;rw[l]
B5 MF{K:aG}{f:AF}{od:Option AF}{fd:BU}{sl:Array (Option AE)}(l:K.lookup f=NR ⟨.type "function", od,.func fd,sl⟩):Q8 K (.ref f)=NU:=by
 B4 Q8 y4;dsimp only;rw[l];show (NR (CO "function")==NR (CO "function"))=NU
 decide +kernel
B5 aMB{K:aG}{h:Heap}{mg:Str→Option AE}{x:Str}{st:AO}{f:AF}{oc:AE}{od an:Option AF}{osl:Array (Option AE)}{kV doc pm cdv ct:AE}(X:K.In h)(G:h.Ns As mg)(a:U4 K As x=NR (NR (.ref f)))(l:K.lookup f=NR ⟨oc,od,.func (G5 x x (gA st) (cM st) (aK st) .none kV doc pm an cdv ct),osl⟩)(c:L6 K cdv x=NU):Raw K mg x st:=aHL X G a l c (LR l)
B5 rM{K:aG}{C f:AF}{nm q:Str}{st:AO}{kV dc pm cd ct:AE}{od an:Option AF}{sl:Array (Option AE)}(a:G3 K (.ref C) nm=NR (NR (.ref f)))(l:K.lookup f=NR ⟨.type "function", od,.func (G5 nm q (gA st) (cM st) (aK st) .none kV dc pm an cd ct),sl⟩) (c:L6 K cd q=NU):iB K C nm q st NV:=aFn a (MF l) l c (LR l)
B5 rD{K:aG}{C f T:AF}{nm q:Str}{st:AO}{kV dc pm cd ct ot:AE}{od an dt:Option AF}{sl s2:Array (Option AE)}{nt:Nat}(a:G3 K (.ref C) nm=NR (NR (.ref f)))(l:K.lookup f=NR ⟨.type "function", od,.func (G5 nm q (gA st) (cM st) (aK st) (.ref T) kV dc pm an cd ct),sl⟩) (c:L6 K cd q=NU) (t:K.lookup T=NR ⟨ot,dt,.seq #[.none] nt,s2⟩):iB K C nm q st NU:=aCR a (MF l) l c (LR l) t
B5 rI{K:aG}{h:Heap}{mg:Str→Option AE}(X:K.In h)(G:h.Ns As mg){C f:AF}{cn q:Str}{st:AO}{kV dc pm cd ct:AE}{od an:Option AF}{sl:Array (Option AE)}(x:U4 K As cn=NR (NR (.ref C)))(a:G3 K (.ref C) "__init__" = NR (NR (.ref f))) (l:K.lookup f=NR ⟨.type "function", od,.func (G5 "__init__" q (gA st) (cM st) (aK st) .none kV dc pm an cd ct),sl⟩) (c:L6 K cd q=NU) (m:W6 K C=NU) (k:K7 K (.ref C)=NU):RP K mg cn C q st:=aFo X G x a (MF l) l c m k
B5 cX{K:aG}{h:Heap}{C:AF}{P:AF→Prop}{cn:Str}(X:K.In h)(a:U4 K As cn=NR (NR (.ref C)))(p:P C):∃C,P C:=⟨C,p⟩
B5 cF{K:aG}{C:AF}{fn:List Str}(a:S6 K C MW=NU)(b:U9 K C=NU)(c:Y3 K C=NU)(d:G3 K (.ref C) "__setattr__" = NR (NR (.builtin "object.__setattr__"))) (e:∀x∈fn,G3 K (.ref C) x=NR none):kW K C fn:=⟨⟨a,b,c,d⟩,e⟩
B5 walk{l:u9}{q:AQ}{loose:List Str}{XP:(Str→Option AE)→Heap→Prop}{YP:AS→Heap→Prop}{d:DefRec}{K:LN→aG}(hn:l.most=NR 63)(hdf:d.params.defaults=[])(hdn:d.name = "law")
  (hY:∀(w:AS)(h:Heap),YP w h→(K w.params).In h)
  (F:∀(w:AS)(mg:Str→Option AE)(h:Heap),(K w.params).In h→h.Ns As mg→(∃C:AF,kW OG C lA∧RP OG mg "Bench" C "Bench.__init__" uM∧iB OG C "stone" "Bench.stone" vM NV∧iB OG C "check_pane" "Bench.check_pane" sE NV∧iB OG C "check_place" "Bench.check_place" qP NV∧iB OG C "seen" "Bench.seen" Gs NV∧iB OG C "check_change" "Bench.check_change" qF NV∧iB OG C "put" "Bench.put" Ma NU∧iB OG C "strike" "Bench.strike" zH NV∧iB OG C "carve" "Bench.carve" vQ NU)∧(∃C:AF,kW OG C fV∧RP OG mg "Weaver" C "Weaver.__init__" vL∧iB OG C "order" "Weaver.order" zA NV∧iB OG C "record_of" "Weaver.record_of" sG NV∧iB OG C "write" "Weaver.write" zB NV∧iB OG C "coming_in" "Weaver.coming_in" sH NV∧iB OG C "write_tied" "Weaver.write_tied" qQ NV∧iB OG C "further_needs" "Weaver.further_needs" oO NV∧iB OG C "rewrite" "Weaver.rewrite" uP NU∧iB OG C "box_ahead" "Weaver.box_ahead" sI NV∧iB OG C "link" "Weaver.link" Br NV∧iB OG C "last_change" "Weaver.last_change" qH NV∧iB OG C "leave" "Weaver.leave" zF NU∧iB OG C "free" "Weaver.free" Bu NV∧iB OG C "going_out" "Weaver.going_out" sJ NV∧iB OG C "enter" "Weaver.enter" tO NU)∧Raw OG mg "_law_cell" Ud∧Raw OG mg "_law_sizes" Lw∧Raw OG mg "_law_mixed" Lx∧Raw OG mg "_law_record" Gn∧Raw OG mg "_law_built" xG∧Raw OG mg "thing_at" Uh∧Raw OG mg "spot_of" HQ∧Raw OG mg "record_at" Ly∧Raw OG mg "string_of" Lz∧Raw OG mg "many_boxes" Gp∧Raw OG mg "loose_boxes" vK∧Raw OG mg "_law_spread" Gr∧Raw OG mg "_law_own" HS∧Raw OG mg "known" HW∧Raw OG mg "_law_key" HY∧Raw OG mg "_law_done" Jo∧Raw OG mg "ripe_among" zG∧Raw OG mg "_law_keyed" Mf∧Raw OG mg "is_grid" Jq∧Raw OG mg "is_sound_string" lE∧Raw OG mg "is_whole" Ul∧Raw OG mg "are_whole" Eb∧Raw OG mg "is_seal" IK∧Raw OG mg "is_record" Mg∧Raw OG mg "is_full_pane" vR∧Raw OG mg "is_sound" Js∧Raw OG mg "law" aDk∧mg "len" = none∧mg "abs" = none∧mg "list" = none∧mg "range" = none∧mg "isinstance" = none∧mg "int" = none∧mg "sorted" = none∧mg "set" = none∧mg "tuple" = none∧mg "min" = none∧mg "all" = none∧mg "max" = none∧mg "any" = none∧mg "zip" = none∧mg "bool" = none∧eG mg "HEAD" (0)∧eG mg "NEXT" (1)∧eG mg "THING" (2)∧eG mg "KEY" (0)∧eG mg "WAS" (2)∧eG mg "NOW" (3)∧eG mg "AGE" (4)∧eG mg "NEEDS" (3)∧eG mg "PANE" (0)∧eG mg "PLACE" (1)∧eG mg "NONE" (-1)) :
  z8 q loose XP YP l.row.toRowW d [] (λf vs=>u8 f vs):=by
 &L2.aAS (n:=63) (k:=9) (x := "script") (CX:=λ_=>MJ) (sp:=λw=>spB OG) hn A8 hdf ⟨U,by decide,by decide⟩ hY ?_ (λ_ _ a ns hl hb _ hS=>⟨a,ns,U,hS,hl,hb,λ_=>rfl⟩) λ_ _ _ _ _ z=>z;intro w mg fa h KX G hmg;B3⟨⟨C0,bG,RBenchInit,RBenchStone,RBenchCheckPane,RBenchCheckPlace,RBenchSeen,RBenchCheckChange,RBenchPut,RBenchStrike,RBenchCarve⟩,⟨C1,aV,RWeaverInit,RWeaverOrder,RWeaverRecordOf,RWeaverWrite,RWeaverComingIn,RWeaverWriteTied,RWeaverFurtherNeeds,RWeaverRewrite,RWeaverBoxAhead,RWeaverLink,RWeaverLastChange,RWeaverLeave,RWeaverFree,RWeaverGoingOut,RWeaverEnter⟩,RLawCell,RLawSizes,RLawMixed,RLawRecord,RLawBuilt,RThingAt,RSpotOf,RRecordAt,RStringOf,RManyBoxes,RLooseBoxes,RLawSpread,RLawOwn,RKnown,RLawKey,RLawDone,RRipeAmong,RLawKeyed,RIsGrid,RIsSoundString,RIsWhole,RAreWhole,RIsSeal,RIsRecord,RIsFullPane,RIsSound,RLaw,dZ,aII,kI,lF,dG,aBd,tU,aIJ,Ml,aIK,zO,aIL,aIM,aIN,aDq,vU,qJ,Mj,Ms,aBe,JH,JK,lg,aDo,lq,Uv⟩:=F w mg h KX G;B3⟨κ,e0,e1⟩:∃κ:Nat→AF,κ 0=C0∧κ 1=C1:=⟨(λn=>match n with | 0=>C0 | _=>C1),U,U⟩
 subst e0 e1;B3⟨f,fd,FL,m⟩:=RLaw.ex;rw[hdn]at hmg;have e:=hmg.symm.trans m;cases e;&⟨fd,iw FL (λ_ _ _ _ _ _ u=>rfl),λbase _ _=>?_⟩;have rK:=jy (P:=l.prog) (w:=w) (mg:=mg) (base:=base) RLawCell  dZ;have Mh:=WR (P:=l.prog) (w:=w) (mg:=mg) (base:=base) RLawSizes rK;have nT:=WT (P:=l.prog) (w:=w) (mg:=mg) (base:=base) RLawMixed;have zJ:=IV (P:=l.prog) (w:=w) (mg:=mg) (base:=base) RLawRecord nT  aII;have Mx:=WW (P:=l.prog) (w:=w) (mg:=mg) (base:=base) RLawBuilt Mh rK nT zJ  kI lF dZ;have Gu:=IW (P:=l.prog) (w:=w) (mg:=mg) (base:=base) RBenchInit bG  kI;have Up:=jz (P:=l.prog) (w:=w) (mg:=mg) (base:=base) RThingAt;have Ec:=aBb (P:=l.prog) (w:=w) (mg:=mg) (base:=base) RSpotOf  dZ;have pR:=WY (P:=l.prog) (w:=w) (mg:=mg) (base:=base) RRecordAt Ec Up;have nU:=XC (P:=l.prog) (w:=w) (mg:=mg) (base:=base) RStringOf pR  kI vU qJ;have lO:=JB (P:=l.prog) (w:=w) (mg:=mg) (base:=base) RManyBoxes  dZ;have Ca:=Wj (P:=l.prog) (w:=w) (mg:=mg) (base:=base) RLooseBoxes nU lO  lF vU;have vV:=Wk (P:=l.prog) (w:=w) (mg:=mg) (base:=base) RWeaverInit bG aV Gu lO Ec nU Ca  lF;have lQ:=Uq (P:=l.prog) (w:=w) (mg:=mg) (base:=base) RWeaverOrder aV  kI;have Hg:=JD (P:=l.prog) (w:=w) (mg:=mg) (base:=base) RLawSpread;have Cj:=Wm (P:=l.prog) (w:=w) (mg:=mg) (base:=base) RBenchStone bG  kI;have JS:=aBc (P:=l.prog) (w:=w) (mg:=mg) (base:=base) RLawOwn  dZ lF dG aBd;have jR:=Ju (P:=l.prog) (w:=w) (mg:=mg) (base:=base) RBenchCheckPane bG  dZ;have iV:=Gv (P:=l.prog) (w:=w) (mg:=mg) (base:=base) RBenchCheckPlace bG jR  dZ;have Gw:=JG (P:=l.prog) (w:=w) (mg:=mg) (base:=base) RBenchSeen bG iV  Mj;have bH:=Jw (P:=l.prog) (w:=w) (mg:=mg) (base:=base) RWeaverRecordOf aV bG Gw;have iH:=Er (P:=l.prog) (w:=w) (mg:=mg) (base:=base) RBenchCheckChange bG  dZ;have Mm:=XH (P:=l.prog) (w:=w) (mg:=mg) (base:=base) RBenchPut bG iV iH  kI dZ tU aIJ Ml;have kj:=aDm (P:=l.prog) (w:=w) (mg:=mg) (base:=base) RKnown;have nW:=Ur (P:=l.prog) (w:=w) (mg:=mg) (base:=base) RWeaverWrite aV bG Mm kj;have sO:=Jx (P:=l.prog) (w:=w) (mg:=mg) (base:=base) RWeaverComingIn aV;have iW:=Gy (P:=l.prog) (w:=w) (mg:=mg) (base:=base) RWeaverWriteTied aV nW sO;have cH:=Af (P:=l.prog) (w:=w) (mg:=mg) (base:=base) RWeaverFurtherNeeds bG aV iH  kI;have uR:=Mr (P:=l.prog) (w:=w) (mg:=mg) (base:=base) RWeaverRewrite aV bH iW cH  Ms qJ;have jT:=Jz (P:=l.prog) (w:=w) (mg:=mg) (base:=base) RWeaverBoxAhead aV  vU;have pU:=Wn (P:=l.prog) (w:=w) (mg:=mg) (base:=base) RWeaverLink aV bH iW  Ms aBe JH JK;have qK:=Es (P:=l.prog) (w:=w) (mg:=mg) (base:=base) RWeaverLastChange aV;have zM:=Us (P:=l.prog) (w:=w) (mg:=mg) (base:=base) RWeaverLeave aV jT qK cH pU bH  qJ;have Cd:=Wo (P:=l.prog) (w:=w) (mg:=mg) (base:=base) RWeaverFree aV  tU;have JM:=aBf (P:=l.prog) (w:=w) (mg:=mg) (base:=base) RLawKey  dZ;have sS:=Kc (P:=l.prog) (w:=w) (mg:=mg) (base:=base) RWeaverGoingOut aV;have zN:=Ut (P:=l.prog) (w:=w) (mg:=mg) (base:=base) RWeaverEnter aV cH bH jT nW sS pU  dZ aIK Ms qJ;have Uy:=km (P:=l.prog) (w:=w) (mg:=mg) (base:=base) RLawDone aV lQ zM uR Cd bH JM zN  dZ tU;have Hf:=JN (P:=l.prog) (w:=w) (mg:=mg) (base:=base) RRipeAmong  zO kI lg;have zP:=Uu (P:=l.prog) (w:=w) (mg:=mg) (base:=base) RBenchStrike bG  aDo lq Mj;have vW:=Wq (P:=l.prog) (w:=w) (mg:=mg) (base:=base) RBenchCarve bG jR Hf zP  aIL;have My:=XQ (P:=l.prog) (w:=w) (mg:=mg) (base:=base) RLawKeyed  dZ;have JR:=aBg (P:=l.prog) (w:=w) (mg:=mg) (base:=base) RIsGrid  dZ dG kI zO;have uU:=Mv (P:=l.prog) (w:=w) (mg:=mg) (base:=base) RIsSoundString nU pR  aIM aIN zO vU qJ JH Uv JK Ms;have Uw:=lr (P:=l.prog) (w:=w) (mg:=mg) (base:=base) RIsWhole  dG aDq aBd;have uE:=XS (P:=l.prog) (w:=w) (mg:=mg) (base:=base) RAreWhole Uw  zO dZ dG Ml;have JQ:=aBi (P:=l.prog) (w:=w) (mg:=mg) (base:=base) RIsSeal uE;have Mw:=XX (P:=l.prog) (w:=w) (mg:=mg) (base:=base) RIsRecord uE  JK JH Uv aBe qJ;have Cg:=Wr (P:=l.prog) (w:=w) (mg:=mg) (base:=base) RIsFullPane Mw JQ  zO;have Ux:=mj (P:=l.prog) (w:=w) (mg:=mg) (base:=base) RIsSound JR lO uU Cg  zO;~aIO FL aV bG Mx vV lQ bH Hg vW Cj JS Ux My Uy  dZ lF (aD8 κ)
end Rs
open PySem PySem.W PyProof.Rows
set_option maxRecDepth 100000 in
set_option maxHeartbeats 0 in
theorem PySem.Challenge.cw_ripestone_k32_whole_sound_holds : PySem.Challenge.rw_ripestone_k32_whole_sound.Holds := by
 w_on;o_law;k_head;(case hw=>w_witness2)
 k_fill
 &Rs.walk (l:=PySem.Challenge.rw_ripestone_k32_whole_sound) U U U (λw h Y=>PySem.W.kIn_of Y) ?F
 case F=>
  intro w mg h KX G;&⟨?_,?_,?_,?_,?_,?_,?_,?_,?_,?_,?_,?_,?_,?_,?_,?_,?_,?_,?_,?_,?_,?_,?_,?_,?_,?_,?_,?_,?_,G9 KX G ?_,G9 KX G ?_,G9 KX G ?_,G9 KX G ?_,G9 KX G ?_,G9 KX G ?_,G9 KX G ?_,G9 KX G ?_,G9 KX G ?_,G9 KX G ?_,G9 KX G ?_,G9 KX G ?_,G9 KX G ?_,G9 KX G ?_,G9 KX G ?_,?_,?_,?_,?_,?_,?_,?_,?_,?_,?_,?_⟩
  ·refine' Rs.cX (cn := "Bench") KX ?xa0 ?zz0
   (case xa0=>k_is)
   &⟨?_,?_,?_,?_,?_,?_,?_,?_,?_,?_⟩
   ·refine' Rs.cF ?fa0 ?fb0 ?fc0 ?fd0 ?fe0
    (case fa0=>k_is);(case fb0=>k_is);(case fc0=>k_is);(case fd0=>k_is)
    dsimp only[Rs.lA]
    repeat' (first | &j8.mpr ⟨?_,?_⟩ | ~l4 _ | k_is)
   ·refine' Rs.rI KX G ?ix0 ?ia0 ?il0 ?ic0 ?im0 ?ik0
    (case ix0=>k_is);(case ia0=>k_is);(case il0=>k_is);(case ic0=>k_is);(case im0=>k_is);(case ik0=>k_is)
   ·refine' Rs.rM ?a ?l ?c
    (case a=>k_is);(case l=>k_is);(case c=>k_is)
   ·refine' Rs.rM ?a ?l ?c
    (case a=>k_is);(case l=>k_is);(case c=>k_is)
   ·refine' Rs.rM ?a ?l ?c
    (case a=>k_is);(case l=>k_is);(case c=>k_is)
   ·refine' Rs.rM ?a ?l ?c
    (case a=>k_is);(case l=>k_is);(case c=>k_is)
   ·refine' Rs.rM ?a ?l ?c
    (case a=>k_is);(case l=>k_is);(case c=>k_is)
   ·refine' Rs.rD ?a ?l ?c ?t
    (case a=>k_is);(case l=>k_is);(case c=>k_is);(case t=>k_is)
   ·refine' Rs.rM ?a ?l ?c
    (case a=>k_is);(case l=>k_is);(case c=>k_is)
   ·refine' Rs.rD ?a ?l ?c ?t
    (case a=>k_is);(case l=>k_is);(case c=>k_is);(case t=>k_is)
  ·refine' Rs.cX (cn := "Weaver") KX ?xa1 ?zz1
   (case xa1=>k_is)
   &⟨?_,?_,?_,?_,?_,?_,?_,?_,?_,?_,?_,?_,?_,?_,?_,?_⟩
   ·refine' Rs.cF ?fa1 ?fb1 ?fc1 ?fd1 ?fe1
    (case fa1=>k_is);(case fb1=>k_is);(case fc1=>k_is);(case fd1=>k_is)
    dsimp only[Rs.fV]
    repeat' (first | &j8.mpr ⟨?_,?_⟩ | ~l4 _ | k_is)
   ·refine' Rs.rI KX G ?ix1 ?ia1 ?il1 ?ic1 ?im1 ?ik1
    (case ix1=>k_is);(case ia1=>k_is);(case il1=>k_is);(case ic1=>k_is);(case im1=>k_is);(case ik1=>k_is)
   ·refine' Rs.rM ?a ?l ?c
    (case a=>k_is);(case l=>k_is);(case c=>k_is)
   ·refine' Rs.rM ?a ?l ?c
    (case a=>k_is);(case l=>k_is);(case c=>k_is)
   ·refine' Rs.rM ?a ?l ?c
    (case a=>k_is);(case l=>k_is);(case c=>k_is)
   ·refine' Rs.rM ?a ?l ?c
    (case a=>k_is);(case l=>k_is);(case c=>k_is)
   ·refine' Rs.rM ?a ?l ?c
    (case a=>k_is);(case l=>k_is);(case c=>k_is)
   ·refine' Rs.rM ?a ?l ?c
    (case a=>k_is);(case l=>k_is);(case c=>k_is)
   ·refine' Rs.rD ?a ?l ?c ?t
    (case a=>k_is);(case l=>k_is);(case c=>k_is);(case t=>k_is)
   ·refine' Rs.rM ?a ?l ?c
    (case a=>k_is);(case l=>k_is);(case c=>k_is)
   ·refine' Rs.rM ?a ?l ?c
    (case a=>k_is);(case l=>k_is);(case c=>k_is)
   ·refine' Rs.rM ?a ?l ?c
    (case a=>k_is);(case l=>k_is);(case c=>k_is)
   ·refine' Rs.rD ?a ?l ?c ?t
    (case a=>k_is);(case l=>k_is);(case c=>k_is);(case t=>k_is)
   ·refine' Rs.rM ?a ?l ?c
    (case a=>k_is);(case l=>k_is);(case c=>k_is)
   ·refine' Rs.rM ?a ?l ?c
    (case a=>k_is);(case l=>k_is);(case c=>k_is)
   ·refine' Rs.rD ?a ?l ?c ?t
    (case a=>k_is);(case l=>k_is);(case c=>k_is);(case t=>k_is)
  iterate 27
   ·refine' Rs.aMB KX G ?a ?l ?c
    (case a=>k_is);(case l=>k_is);(case c=>k_is)
  iterate 15
   ·k_is
  ·refine' L2.mW KX G ?a
   (case a=>k_is)
  ·refine' L2.mW KX G ?a
   (case a=>k_is)
  ·refine' L2.mW KX G ?a
   (case a=>k_is)
  ·refine' L2.mW KX G ?a
   (case a=>k_is)
  ·refine' L2.mW KX G ?a
   (case a=>k_is)
  ·refine' L2.mW KX G ?a
   (case a=>k_is)
  ·refine' L2.mW KX G ?a
   (case a=>k_is)
  ·refine' L2.mW KX G ?a
   (case a=>k_is)
  ·refine' L2.mW KX G ?a
   (case a=>k_is)
  ·refine' L2.mW KX G ?a
   (case a=>k_is)
  ·refine' L2.mW KX G ?a
   (case a=>k_is)
#print axioms PySem.Challenge.cw_ripestone_k32_whole_sound_holds
