import PyProof.Rows.All
import Wide.All
import OpenK.AllK
import Wide.FinOn
import Lean
import PyProof.EqAt
import PyProof.EqKinds
import PyProof.TupleCall
import PySem.Challenge.RW_ripestone_k32_whole_sound
open Array renaming length_toList→L3,getElem?_toList→M8,getElem?_eq_getElem→O4,getD→Q3,getElem_toList→W8,toList_push→o8,toList→AA
open Bool renaming false_ne_true→E8,and_eq_true→J2,eq_iff_iff→M7,false_eq_true→X9,eq_false_iff→Y7,and_false→i5,or_eq_true→u7,false_and→x9,or_false→z6
open Int renaming toNat_natCast→C7,emod_nonneg→F2,emod_lt_of_pos→G0,le_of_lt→M3,natCast_nonneg→O3,pow_pos→Q5,toNat_of_nonneg→T7,natCast_mul→U1,zero_add→a8,natCast_emod→b8,natCast_ediv→b9,le_refl→g6,mul_nonneg→j5
open Int.ofNat renaming inj→z9
open List renaming getElem?_eq_getElem→B6,getD_eq_getElem?_getD→B7,length_map→B8,mem_cons→B9,getElem?_map→C5,mem_cons_of_mem→C6,mem_cons_self→C8,length_append→D1,mem_singleton→D2,size_toArray→D3,getElem?_eq_some_iff→D4,range→D5,mem_of_getElem?→D6,getElem?_eq_none→D9,length_range→E1,map_cons→E2,length_cons→E3,mem_append_right→E5,replicate→E9,append_nil→F0,nodup_cons→F1,mem_append_left→F5,pairwise_cons→F6,mem_range→F7,mem_append→F8,getElem?_append_left→F9,getElem_of_mem→G6,length_take→G7,getElem?_set→G8,getElem?_range→I0,mem_map→J4,length_set→J5,map_append→J6,getElem?_append_right→J7,pairwise_iff_getElem→J8,getElem?_set_self→K0,zipWith_cons_cons→K1,mem_filter→K3,ext_getElem?→K5,pairwise_append→K6,map_nil→K9,getElem_mem→L0,mem_of_mem_take→L7,drop_eq_getElem_cons→L8,take_append_drop→M0,map_map→M4,take_sublist→M6,eq_nil_of_length_eq_zero→N1,all_eq_true→N3,not_mem_nil→N5,eraseIdx_cons_succ→N7,filter_nil→N9,length_drop→O1,getElem?_replicate→O7,filter_cons_of_pos→O8,filter_cons_of_neg→O9,take_length→P1,take_of_length_le→P2,filter_append→P6,length_replicate→P7,find?_cons→P8,append_assoc→P9,nodup_append→Q1,take_add_one→Q2,erase_cons_tail→Q4,any_eq_true→Q9,cons_append→R1,filter_sublist→R3,filter_eq_self→R4,getElem?_cons_succ→R5,zip_cons_cons→R7,zipWith→R9,zipWith_nil_left→S0,drop_length→S8,getLast?_concat→S9,lookup→T1,filterMap_cons→T3,replicate_succ→T4,map_congr_left→T5,getD_cons_succ→T6,length_pos_iff→T8,length_zip→T9,getLast?_eq_getElem?→U0,getElem?_drop→U3,getElem?_take→U6,foldl_append→V1,pairwise_map→V2,filter_congr→V3,getElem_take→V4,pairwise_lt_range→V5,any_cons→V6,lookup_cons→V7,eraseIdx_sublist→W0,eraseIdxIfInBounds_toArray→W3,erase_eq_eraseIdx_of_idxOf→W4,getElem?_set_ne→W5,idxOf_cons→W9,mem_of_getLast?→X0,map_set→X1,mem_of_mem_drop→X2,idxOf_cons_self→X3,mem_of_mem_tail→X5,idxOf_lt_length_of_mem→Y0,length_eraseIdx_of_lt→Y1,getLast?_map→Y8,ext_getElem→Z7,length_erase_of_mem→Z8,set_set→Z9,getElem_map→a7,of_mem_zip→d8,nil_append→d9,range_succ→e9,length→f7,drop_eq_nil_of_le→g8,filter_eq_nil_iff→g9,length_singleton→i3,nodup_nil→i4,drop_zero→i9,reverse_reverse→j6,forall_mem_cons→j8,map_take→k7,map_drop→k8,take_succ_cons→l3,forall_mem_nil→l4,mem_filterMap→l6,getElem_idxOf→n8,erase_sublist→n9,reverse_cons→o6,drop_sublist→o7,getElem_drop→p6,getElem_zip→t7,filter_cons→t8,nodup_range→u4,filter_map→x6,foldl_cons→x8,all_cons→z7
open List.Pairwise renaming nil→o9,map→p5
open List.Perm renaming refl→U8,append_left→i6,swap→y8
open List.cons renaming inj→k9
open Nat renaming le_refl→C9,lt_of_lt_of_le→E7,ne_of_lt→F3,le_trans→G1,lt_or_ge→G4,not_lt_zero→J9,zero_le→L5,lt_irrefl→L9,lt_succ_self→N2,zero_add→N6,lt_succ_of_lt→N8,le_of_ble_eq_true→O2,le_succ→O5,le_of_lt→P4,mul_le_mul→Q6,ne_of_gt→Q7,lt_of_le_of_lt→R6,mod_lt→R8,sub_self→S5,succ_le_succ→S7,div_lt_of_lt_mul→T0,mul_pos→T2,le_add_right→V8,mod_add_div→X4,add_mul_mod_self_left→Z5,sub_zero→a9,add_mul_div_left→j7,le_of_eq→l7,min_self→m7,eq_zero_or_pos→m8,pos_of_ne_zero→m9,mod_eq_of_lt→t9,div_eq_of_lt→u3,div_add_mod→w9,le_antisymm→x4,lt_succ_iff→x5
open Nat.succ renaming inj→AB
open Option renaming bind_some→C4,map_some→J3,getD_some→P0,isSome_iff_exists→U2,isSome_map→Y6,map_eq_none_iff→g7,isSome_some→l9,getD_none→r6,map_map→y9,none→AD
open Option.some renaming inj→E6
open Or renaming inr→D7,inl→D8
open Prod renaming ext→r9
open PyProof.Rows renaming boot_list→K2,callWith_type1→L4,boot_all→M9,boot_sorted→U7,callWith_builtin1→W7,boot_tuple→c8,boot_int→j4
open PyProof.Rows.F renaming plain_set_update_loop→P5,entry_set_update_loop→U5
open PySem renaming boot_len→E4,mem_of_lookup→O0,Within→l5,call→u8
open PySem.F renaming plainAttrs_list→F4,slot_list_append→J0,type_list_append→J1,called_set→N4,slot_dict_get→V9,plain_extend_loop→Y9,slot_list_remove→b6,type_list_remove→b7,args_dict_get_2→c6,plain_list_iadd→c7,slot_list_index→c9,type_list_index→d6,entry_dict_get→f9,plain_set_new→i7,slot_set_iter→i8
open PySem.W renaming findIn→G3,fnOf→G5,mg_none_of→G9,kitOne→K4,keepIn→K7,kia_one→K8,codeIn→L6,emptyDict→M5,instObj→O6,isFn→Q8,plainGet→S6,nsIn→U4,hasDictIn→U9,makesIn→W6,plainGet_of→X6,lookIn→X7,callWith_K→X8,methodObj→Y2,plainOver→Y3,specialIn→Y4,kitx_list→Y5,takerIn→d7,cellsFrom_some→f6,methodCall_KW→h9,mg_of→j9,kitx_tuple→l8,kitx_dict→o0,handedIn→p7,hideAll→u5,takesIn→u6,OpenLaw→u9,typeIn→y4,kitCls→y6,mroIn→z5,WalkO→z8
open Sum renaming inl→G2,inr→Z6
def U.{u}{α:Sort u}{a:α}:a=a:=rfl
open Bool renaming true→NU,false→NV
open Option renaming some→NR
open PyProof.Rows renaming envOfC→CH,AllBare→Da,IntsAre→EL,firstMet→Fa,subscriptTail_builtinR→GH,subscriptTail→HL,firstMet_succ→HM,seqObj→IE,firstMet_length_le→II,Subscript_→JI,firstMet_zero→LF
open PySem renaming Value→AE,Addr→AF,Shared→AG,wpAny_bind→AH,starEach→AJ,Expr→AK,wpAny→AL,model→AM,Stmt→AO,Program→AQ,World→AS,eval→AU,Around→AV,compareOp→AY,bootBuiltins→AZ,mainGlobals→As,backTo→Au,wpAny_mono→BA,wpAny_truthy_bool→BC,foldedSetIterable→BD,wpAny_Call_Name_kw→BF,cLine→BG,Scope→BQ,FuncData→BU,wpAny_call_entry→CA,sysModules→CB,wpAny_passesOwn→CC,wpAny_holding→CD,wpAny_newObj_type→CI,wpAny_setState_of→CL,keywordEach→CU,wpAny_askSetting→CY,wpAny_setEntries_of→Cb,wpAny_callSpecial?_slot→Ch,codeAny→Cn,attributeBase→Co,tupleKind_room_in1→DA,scanBound→DB,codeAny_builtin→DC,wpAny_ite_split→DD,wpAny_pyIter_list→DF,holding→DI,codeAny_mono→DJ,wpAny_setField→DL,swapsWith→DO,pyNext→DU,sliceBounds→Dx,wpAny_of_eq→EA,Builtin→EB,PassesOwn→EC,binaryOp→ED,getMethod→EE,backToKw→EF,CmpOp→EH,plainId_quiet→EI,bindArgs→EJ,standAt→EK,wpAny_execs_nil→EM,assignEach→EO,letOwnedTupleGo→ER,rawInt→ES,relayAll→ET,wpAny_fieldsOf→EU,tupleKind→EV,assign→EW,wpAny_attempt→Ee,fits_of_scanBound→FD,call_meets→FG,Keyword→FH,valueAt→FI,callerA→FM,setNext→FR,Result→FU,callWith→FV,NameKind→FX,wpAny_comprehension_free→FY,wpAny_isInstance→Fk,atKey→Fs,sizeLine_eq→Fu,seqIndex_of→GA,subscripted→GG,wpAny_isTrue_Compare1→GL,BindsTo→GN,getItem→GO,relabel→GU,builtinLookup_eq_fast→GV,isSubtype_type→GW,bindL→GY,bindC→Go,setsByText→HE,wpAny_standAt→HI,ExceptHandler→HP,isTrue→HZ,pyIter→He,lastMarks→IA,seqIndex_neg→ID,pickOrder→IH,wpAny_assign_Name→IL,wpAny_storeSet_of→IM,wpAny_pyIter_slot→IP,wpAny_setEpoch_of→IQ,GenState→IT,wpAny_execs_cons→IU,wpAny_Dict_empty→IX,wpAny_pyIter_zip→IY,builtinsNs→IZ,Drawn→Ic,Model→Iq,wpAny_Name→Iy,wpAny_load→JA,wpAny_call→JE,wpAny_specialOf→JJ,intKind_is→JU,wpAny_rule→JY,codeAny_of_tree→Jn,typeLookup_type→KA,wpAny_updateSeq→KB,wpAny_Compare1→KE,recursionLimit→KF,fitsIndex_both→KG,ElemsOf→KI,wpAny_runValue→KM,entryFor_alias→KO,firstArgMember→KP,isSubtype_stop→KS,wpAny_seqItems→KU,cellsFrom→KW,seqIndex?→Ki,drawOrder→Kj,rangeSize_one→Kn,intBits_le_64→Kt,evalPart_none→Kx,call_list_seq→LA,signature?_of→LH,call_range_2→LL,call_meetsIn→LM,Params→LN,compEnvC→LO,setAddHashed→LS,entryFor→LU,argsOk→LV,wpAny_typeOf→LY
open PySem.Around renaming under_plainId→CS,under→IB
open PySem.AutoSeq1 renaming list_insert_list_int_val_1→IJ
open PySem.Builtin.Frozenset renaming updateFrom→KL,newClass→LD,addrOf→LW,sizeOf→LX,slot0→Ll
open PySem.Builtin.Int renaming intBits→Cf
open PySem.Builtin.List renaming listExtendWith→DT,listLengthHint→EX,listSameRef→Fm
open PySem.Builtin.Range renaming rangeSize→LZ
open PySem.Calls renaming spliced_cons→BY,spliced_nil→CF,Name_function_global→EZ,callWith_builtin→GI,evalArgs_plain→HA
open PySem.Code renaming isFrame→IC,frames→Lv
open PySem.DictEntry renaming refKey→Mo
open PySem.Heap renaming get?_push_of_some→AI,lt_size→AN,get?_push_size→AR,size_push→BE,get?_update_self→BN,get?_update_other→BT,SameBut→Bi
open PySem.Heap.DictOf renaming new→NG
open PySem.Heap.IsSliceOf renaming new→MX
open PySem.Heap.Ns1 renaming of_empty→Mc
open PySem.Heap.SameBut renaming update→BI,refl→Mn
open PySem.IsRange renaming new→Lu
open PySem.Manifest renaming sig_set_iterator→LJ,owners→NI
open PySem.MeetsSeq renaming list_pop_at→MG,list_remove→MI,EqGives→ND
open PySem.MeetsSeq.EqGives renaming int→MH
open PySem.NameKind renaming free→BH,cell→NM
open PySem.Obj renaming data_mapFields→BO,isFreed_of_fields→DM,mapSeq→EG,cls_mapFields→FF,putSet→JO,mapFields→LI
open PySem.Paired renaming length→HG,snoc→MA
open PySem.PassesOwn renaming never→Ap
open PySem.SeqAt renaming EqAt→MB
open PySem.SeqAt.EqAt renaming int_str→HU,str_int→HV,none_bool→MC,bool_none→MD,bool_bool→ME,none_int→ML,none_str→MM,bool_int→MO,bool_str→MQ,int_none→MR,int_bool→MS,str_none→MU,str_bool→MV,int_int→MY,str_str→MZ,same→NF
open PySem.SetTable renaming below→AX,grown→Bz,has→IF,slot→LB,toList_insertAt→LP,fits_plain_off→Lc,orStandIn→Mb,freeSlot→Md,insertAt→Me,standIn→NA,advance→NC,relaid→NH,fresh→NJ,Probe→NL,laid→NN,fits→NO
open PySem.SetTable.below renaming go→DH
open PySem.SetTable.probe renaming go→FC
open PySem.Shared renaming TypeIs→LG
open PySem.Str renaming ofString→Fh,empty→MW
open PySem.Value renaming ref→AW,none→BM,bool→CM,type→CO,int→Ct,isInt_shape→FB,str→Fn,float→IS,isStrOf→Kk,isInt→Lm,bytes→Lo
open PySem.Walks renaming list→HC
open PySem.pickOrder renaming go→IG
local macro_rules | `(tactic| walk_at "l") => `(tactic| first | exact Or.inl rfl | exact Or.inr rfl)
local macro_rules | `(tactic| walk_at "n") => `(tactic| exact Nat.le_of_ble_eq_true rfl)
open Option renaming none→sx
theorem tf{p:Prop}{i:Decidable p}(h:p):decide p=true:=decide_eq_true h
theorem tj{p:Prop}{i:Decidable p}(h:¬p):decide p=false:=decide_eq_false h
def sk.{u}{c:Prop}{i:Decidable c}(h:c){α:Sort u}{a b:α}:ite c a b=a:=if_pos h
def sv.{u}{c:Prop}{i:Decidable c}(h:¬c){α:Sort u}{a b:α}:ite c a b=b:=if_neg h
set_option hygiene false
local macro_rules | `(tactic| walk_at "h") => `(tactic| exact hr.mono (by decide))
local macro_rules | `(tactic| walk_at "k") => `(tactic| decide +kernel)
local macro_rules | `(tactic| walk_at "1") => `(tactic| ((focus exact fun _ _ _ _ _ _ us hl => match us, hl with | [_], _ => rfl); intro _ _ _ _ _ _ _ hr; have cY := hr.units; have hu := cP hr))
local macro_rules | `(tactic| walk_at "2") => `(tactic| ((focus exact fun _ _ _ _ _ _ us hl => match us, hl with | [_, _], _ => rfl); intro _ _ _ _ _ _ _ hr; have cY := hr.units; have hu := cP hr))
local macro_rules | `(tactic| walk_at "3") => `(tactic| ((focus exact fun _ _ _ _ _ _ us hl => match us, hl with | [_, _, _], _ => rfl); intro _ _ _ _ _ _ _ hr; have cY := hr.units; have hu := cP hr))
local macro_rules | `(tactic| walk_at "4") => `(tactic| ((focus exact fun _ _ _ _ _ _ us hl => match us, hl with | [_, _, _, _], _ => rfl); intro _ _ _ _ _ _ _ hr; have cY := hr.units; have hu := cP hr))
local macro_rules | `(tactic| walk_at "d3") => `(tactic| ((focus exact fun T _ _ _ _ _ _ us => ⟨fun hl => match us, hl with | [_, _, _], _ => ⟨_, rfl, rfl⟩, fun hl => match us, hl with | [_, _], _ => ⟨_, rfl, rfl⟩⟩); intro _ _ _ _ _ _ _ hr; have cY := hr.units; have hu := cP hr))
local macro_rules | `(tactic| walk_at "d5") => `(tactic| ((focus exact fun T _ _ _ _ _ _ us => ⟨fun hl => match us, hl with | [_, _, _, _, _], _ => ⟨_, rfl, rfl⟩, fun hl => match us, hl with | [_, _, _, _], _ => ⟨_, rfl, rfl⟩⟩); intro _ _ _ _ _ _ _ hr; have cY := hr.units; have hu := cP hr))
local macro_rules | `(tactic| walk_at "d6") => `(tactic| ((focus exact fun T _ _ _ _ _ _ us => ⟨fun hl => match us, hl with | [_, _, _, _, _, _], _ => ⟨_, rfl, rfl⟩, fun hl => match us, hl with | [_, _, _, _, _], _ => ⟨_, rfl, rfl⟩⟩); intro _ _ _ _ _ _ _ hr; have cY := hr.units; have hu := cP hr))
local macro_rules | `(tactic| walk_at "m") => `(tactic| (refine' Rs.rM ?a ?l ?c; (case a => k_is); (case l => k_is); (case c => k_is)))
local macro_rules | `(tactic| walk_at "e") => `(tactic| (refine' Rs.rD ?a ?l ?c ?t; (case a => k_is); (case l => k_is); (case c => k_is); (case t => k_is)))
abbrev aG:=PySem.W.Frag
def aZ{α:Type u_1}{b:α}{β:Type u_2}{x:Option β}{f:β→Option α}(h:x.bind f=NR b):∃a,x=NR a∧f a=NR b:=Option.bind_eq_some_iff.mp h
def kJ{α:Type u_1}{b:α}{β:Type u_2}{x:Option β}{f:β→α}(h:x.map f=NR b):∃a,x=NR a∧f a=b:=Option.map_eq_some_iff.mp h
set_option Elab.async false
set_option linter.all false
set_option maxRecDepth 100000
namespace L2
open PySem PySem.Spec PyProof.Rows
variable{K:aG}{i k j ep:Nat}{s:AG}{e b c tg:AK}{w:AS}{a C I dx l:AF}{A:AV}{aE:List (AF×Obj)}{E Q:AE→AG→Prop}{m q:Str}{u bX ai ct oc:AE}{p ah p2 bP ay eD:Pos}{h:Heap}{N ps iS:List Str}{mg:Str→Option AE}{κ:Nat→AF}{pl:Sem Bool}{od:Option AF}{T:String}{M:Iq}{dQ:Array (Option AE)}{nK:List AO}{S:Int→Bool}{av:List Bool}{js:List Nat}{gz:EH}{dN:Bool}
abbrev Key:=Sum Int Str
variable{ks:List Key}
def Wu:Key→AE→Bool
 | .inl k,v=>Lm k v
 | .inr x,v=>Kk x v
def aLl(w:AS):Key→Int
 | .inl k=>hashInt k
 | .inr x=>hashStr w x
def iK:∀{k:Key} {v:AE},Wu k v=NU→(∃i t,k=G2 i∧v=Ct i t)∨(∃x t,k=Z6 x∧v=Fn x t)
 | .inl i,v,h=>by obtain⟨t,e⟩:=FB (k:=i) (v:=v) h;exact .inl ⟨i,t,U,e⟩
 | .inr x,v,h=>by obtain⟨t,e⟩:=Value.isStrOf_shape (x:=x) (v:=v) h;exact .inr ⟨x,t,U,e⟩
def aAa(i:Int)(t:Tok):Wu (.inl i) (.int i t)=NU:=by simp[Wu,Lm]
def aAb(x:Str)(t:Tok):Wu (.inr x) (.str x t)=NU:=by simp[Wu,Kk]
def aGY(a b:Int):decide ((G2 a:Key)=G2 b)=(a==b):=by
 by_cases e:a=b
 ·subst e;simp
 ·have h:¬(G2 a:Key)=G2 b:=λq=>e (Sum.inl.inj q);rw[tj h];exact(beq_eq_false_iff_ne.mpr e).symm
def aGZ(a b:Str):decide ((Z6 a:Key)=Z6 b)=decide (a=b):=by
 by_cases e:a=b
 ·subst e;simp
 ·have h:¬(Z6 a:Key)=Z6 b:=λq=>e (Sum.inr.inj q);rw[tj h,tj e]
def aG0(a:Int)(b:Str):decide ((G2 a:Key)=Z6 b)=NV:=tj (λq=>nomatch q)
def aG1(a:Str)(b:Int):decide ((Z6 a:Key)=G2 b)=NV:=tj (λq=>nomatch q)
def jB(prog:AQ)(w:AS):PySem.KeyKind prog w Key where
 is:=Wu
 hash:=aLl w
 inj:=λv a b ha hb=>by
  rcases iK ha with ⟨i,t,rfl,rfl⟩ | ⟨x,t,rfl,rfl⟩
  ·rcases iK hb with ⟨j,u,rfl,e⟩ | ⟨y,u,rfl,e⟩
   ·injection e with e1 _;rw[e1]
   ·exact nomatch e
  ·rcases iK hb with ⟨j,u,rfl,e⟩ | ⟨y,u,rfl,e⟩
   ·exact nomatch e
   ·injection e with e1 _;rw[e1]
 byValue:=λk v h=>by rcases iK h with ⟨i,t,rfl,rfl⟩ | ⟨x,t,rfl,rfl⟩<;>rfl
 pyHash:=λhv h=>by
  rcases iK hv with ⟨i,t,rfl,rfl⟩ | ⟨x,t,rfl,rfl⟩
  ·exact wpAny_pyHash_int h
  ·exact wpAny_pyHash_str h
 eqBool:=λhu hv h=>by
  rcases iK hu with ⟨i,t,rfl,rfl⟩ | ⟨x,t,rfl,rfl⟩
  ·rcases iK hv with ⟨j,u,rfl,rfl⟩ | ⟨y,u,rfl,rfl⟩
   ·rw[aGY]at h;exact wpAny_eqBool_int h
   ·rw[aG0]at h;exact HU i t y u _ _ _ _ h
  ·rcases iK hv with ⟨j,u,rfl,rfl⟩ | ⟨y,u,rfl,rfl⟩
   ·rw[aG1]at h;exact HV x t j u _ _ _ _ h
   ·rw[aGZ]at h;exact wpAny_eqBool_str h
 «strs»:=λk x t v h=>by
  rcases iK h with ⟨i,u,rfl,e⟩ | ⟨y,u,rfl,e⟩
  ·exact nomatch e
  ·injection e with e1 _
   subst e1;cases v<;>rfl
def MT(prog:AQ)(w:AS)(i:Int)(t:Tok):(jB prog w).is (.inl i) (.int i t)=NU:=aAa i t
def NB(prog:AQ)(w:AS)(x:Str)(t:Tok):(jB prog w).is (.inr x) (.str x t)=NU:=aAb x t
inductive V where
 | non | bl (b:Bool) | int (i:Int) | str (x:Str) | byt (b:Array UInt8) | flt (b:UInt64) | ref (a:AF) | ty (n:String)
 deriving DecidableEq
variable{v y:V}{vs:List V}{kvs:List (List Key×V)}
def RelV:V→AE→Prop
 | .non,u=>u=BM
 | .bl b,u=>u=CM b
 | .int i,u=>∃t,u=Ct i t
 | .str x,u=>∃t,u=Fn x t
 | .byt b,u=>∃t,u=Lo b t
 | .flt b,u=>∃t,u=IS b t
 | .ref a,u=>u=AW a
 | .ty n,u=>u=CO n
abbrev Vals:List V→List AE→Prop:=Paired RelV
def Vals.length{xs:List V}{us:List AE}(r:Vals xs us):xs.length=us.length:=HG r
def Vals.get:∀{xs:List V} {us:List AE} {i:Nat} {x:V},Vals xs us→xs[i]?=NR x→∃u,us[i]?=NR u∧RelV x u
 | _,_,_,_,.nil,e=>by simp at e
 | _,_,0,_,.cons r _,e=>by simp at e;subst e;exact⟨_,rfl,r⟩
 | _,_,i+1,x,.cons _ t,e=>by obtain⟨u,h1,h2⟩:=Vals.get (i:=i) (x:=x) t (by simpa using e);exact⟨u,by simpa using h1,h2⟩
def Vals.set{x:V}(r:RelV x u):∀{xs:List V} {us:List AE} (i:Nat),Vals xs us→Vals (xs.set i x) (us.set i u)
 | _,_,_,.nil=>.nil
 | _,_,0,.cons _ t=>.cons r t
 | _,_,i+1,.cons q t=>.cons q (Vals.set r i t)
def Vals.append:∀{xs ys:List V} {us ws:List AE},Vals xs us→Vals ys ws→Vals (xs++ys) (us++ws)
 | _,_,_,_,.nil,s=>s
 | _,_,_,_,.cons r t,s=>.cons r (Vals.append t s)
def Vals.take:∀{xs:List V} {us:List AE} (n:Nat),Vals xs us→Vals (xs.take n) (us.take n)
 | _,_,0,_=>.nil
 | _,_,_+1,.nil=>.nil
 | _,_,n+1,.cons r t=>.cons r (Vals.take n t)
def Vals.drop:∀{xs:List V} {us:List AE} (n:Nat),Vals xs us→Vals (xs.drop n) (us.drop n)
 | _,_,0,r=>r
 | _,_,_+1,.nil=>.nil
 | _,_,n+1,.cons _ t=>Vals.drop n t
def zZ:Option V→Option AE→Prop
 | some v,NR u=>RelV v u
 | none,sx=>True
 | _,_=>False
def KV{κ:Type}:List (κ×V)→List (κ×AE)→Prop:=Paired λ(p:κ×V) (q:κ×AE)=>p.1=q.1∧RelV p.2 q.2
def kV:Key→V
 | .inl i=>.int i
 | .inr x=>.str x
inductive HO where
 | lst (xs:List V)
 | tup (xs:List V)
 | dK (kvs:List (Key×V)) | dT (kvs:List (List Key×V))
 | set (S:Int→Bool) (n:Nat)
 | ins (C dx:AF) (fs:List (Str×V))
 | own (x:AF)
 | xd (fs:List (Str×V))
 | met (f x:AF)
 | rng (lo hi:Int)
 | Al (o:Obj) (u:HO)
 | tbl (ps:Array AE)
 | ext (φ:Heap→Prop)
variable{o:HO}
abbrev Hp:=AF→Option HO
variable{H B Z H0:Hp}
def upd(H:Hp)(a:AF)(o:HO):Hp:=λb=>if b=a then NR o else H b
def cA:upd H a o a=NR o:=by unfold upd;rw[sk rfl]
def bQ{b:AF}(h:b≠a):upd H a o b=H b:=by unfold upd;rw[sv h]
def aJk{b:AF}{u:HO}(h:H a=NR o)(h':H b=NR u)(d:o≠u):a≠b:=by intro e;subst e;rw[h]at h';exact d (E6 h')
def iI{b:AF}(h:H a=NR o)(h':H b=sx):a≠b:=by intro e;subst e;rw[h]at h';cases h'
section
variable(P:AQ)(w:AS)
def jU(H:Hp)(h:Heap)(a:AF):HO→Prop
 | .lst xs=>xs.length≤sizeLine∧∃(af:List AE)(n:Nat),Vals xs af∧h.get? a=NR {cls:=.type "list",data:=.seq af.toArray n}
 | .tup xs=>xs.length≤sizeLine∧∃af:List AE,Vals xs af∧IsTup h a af.toArray
 | .dK kvs=>kvs.length≤sizeLine∧(a==CB)=NV∧∃vs,KV kvs vs∧h.DictOf (jB P w) a vs
 | .dT kvs=>kvs.length≤sizeLine∧(a==CB)=NV∧∃xs:List (List Key×AF×AE),
  Paired (λ(p:List Key×V) (q:List Key×AF×AE)=>p.1=q.1∧H q.2.1=NR (.tup (p.1.map kV))∧RelV p.2 q.2.2) kvs xs ∧
  ∃o es ep,h.get? a=NR o∧o.ExactDict∧o.data=.dict es ep∧es.toList=xs.map (entryOfKey (EV (jB P w)))∧(xs.map (·.1)).Nodup
 | .set S n=>h.SetOf (intKind P w) a S n
 | .ins C dx fs=>H dx=NR (.own a)∧fs.length≤1000∧dx≠a∧h.get? a=NR (O6 C dx) ∧
  ∃mA,h.Ns1 dx mA∧(∀f,zZ (fs.lookup f) (mA f))∧l5 mA (fs.map (·.1))
 | .own _=>∃o,h.get? a=NR o
 | .xd fs=>∃mA,h.Ns1 a mA∧∀f,zZ (fs.lookup f) (mA f)
 | .rng lo hi=>∃t u v,h.get? a=NR {cls:=.type "range",data:=.fields #[.int lo t,.int hi u,.int 1 v]}
 | .Al o u=>h.get? a=NR o∧jU H h a u
 | .tbl ps=>h.get? a=NR {cls:=.none,data:=.fields ps}
 | .met f x=>h.get? a=NR (Y2 (.ref f) (.ref x))
 | .ext φ=>φ h∧(∃o,h.get? a=NR o)∧∀h1 h2:Heap,φ h1→(∀o,h1.get? a=NR o→h2.get? a=NR o)→φ h2
def Ew(H:Hp)(h:Heap):Prop:=∀a o,H a=NR o→jU P w H h a o
end
section
variable{P:AQ}{H':Hp}{h':Heap}
def jU.lt(x:jU P w H h a o):a<h.objs.size:=by
 cases o with
 | lst xs=>obtain⟨_,_,_,_,e⟩:=x;exact AN e
 | tup xs=>obtain⟨_,_,_,p⟩:=x;exact p.lt
 | dK kvs=>obtain⟨_,_,_,_,o,_,_,e,_⟩:=x;exact AN e
 | dT kvs=>obtain⟨_,_,_,_,o,_,_,e,_⟩:=x;exact AN e
 | set S n=>obtain⟨o,_,_,_,e,_⟩:=x;exact AN e
 | ins C dx fs=>obtain⟨_,_,_,e,_⟩:=x;exact AN e
 | own y=>obtain⟨_,e⟩:=x;exact AN e
 | xd fs=>obtain⟨_,⟨_,_,_,e,_⟩,_⟩:=x;exact AN e
 | rng lo hi=>obtain⟨_,_,_,e⟩:=x;exact AN e
 | Al ob u=>obtain⟨e,_⟩:=x;exact AN e
 | tbl ps=>exact AN (show h.get? a=NR _ from x)
 | met f y=>exact AN (show h.get? a=NR _ from x)
 | ext φ=>obtain⟨_,⟨_,e⟩,_⟩:=x;exact AN e
def Paired.aG2{α β:Type}{F G:α→β→Prop}:∀{l₁:List α} {l₂:List β},Paired F l₁ l₂→(∀a b,F a b→G a b)→Paired G l₁ l₂
 | _,_,.nil,_=>.nil
 | _,_,.cons r t,f=>.cons (f _ _ r) (Paired.aG2 t f)
def jU.stay(x:jU P w H h a o)(k:∀b u,(b=a∨H b=NR (.own a))→h.get? b=NR u→h'.get? b=NR u)
 (ho:∀b,H b=NR (.own a)→H' b=NR (.own a)) (ht:∀b xs,H b=NR (.tup xs)→H' b=NR (.tup xs)):jU P w H' h' a o:=by
 induction o with
 | lst xs=>obtain⟨z,af,n,r,e⟩:=x;exact⟨z,af,n,r,k _ _ (.inl U) e⟩
 | tup xs=>obtain⟨z,af,r,ob,e,c⟩:=x;exact⟨z,af,r,ob,k _ _ (.inl U) e,c⟩
 | dK kvs=>obtain⟨z,y,vs,r,ob,es,ep,e,c⟩:=x;exact⟨z,y,vs,r,ob,es,ep,k _ _ (.inl U) e,c⟩
 | dT kvs=>obtain⟨z,y,xs,r,ob,es,ep,e,c⟩:=x;exact⟨z,y,xs,Paired.aG2 r λp q z=>⟨z.1,ht _ _ z.2.1,z.2.2⟩,ob,es,ep,k _ _ (.inl U) e,c⟩
 | set S n=>obtain⟨ob,es,ep,t,e,c⟩:=x;exact⟨ob,es,ep,t,k _ _ (.inl U) e,c⟩
 | ins C dx fs=>obtain⟨d,z,ne,e,mA,⟨od,es,ep,e2,c⟩,r⟩:=x;exact⟨ho _ d,z,ne,k _ _ (.inl U) e,mA,⟨od,es,ep,k _ _ (.inr d) e2,c⟩,r⟩
 | own y=>obtain⟨ob,e⟩:=x;exact⟨ob,k _ _ (.inl U) e⟩
 | xd fs=>obtain⟨mA,⟨od,es,ep,e,c⟩,r⟩:=x;exact⟨mA,⟨od,es,ep,k _ _ (.inl U) e,c⟩,r⟩
 | rng lo hi=>obtain⟨t,u,v,e⟩:=x;exact⟨t,u,v,k _ _ (.inl U) e⟩
 | Al ob u ih=>obtain⟨e,q⟩:=x;exact⟨k _ _ (.inl U) e,ih q⟩
 | tbl ps=>have e:h.get? a=NR {cls:=.none,data:=.fields ps}:=x;show h'.get? a=NR {cls:=.none,data:=.fields ps};exact k a _ (.inl U) e
 | met f y=>have e:h.get? a=NR (Y2 (.ref f) (.ref y)):=x;show h'.get? a=NR (Y2 (.ref f) (.ref y));exact k a _ (.inl U) e
 | ext φ=>obtain⟨p,⟨o,e⟩,st⟩:=x;exact⟨st _ _ p λo q=>k _ _ (.inl U) q,⟨o,k _ _ (.inl U) e⟩,st⟩
def Ew.lt(x:Ew P w H h)(e:H a=NR o):a<h.objs.size:=(x a o e).lt
def Ew.fresh(x:Ew P w H h)(e:h.objs.size≤a):H a=sx:=by
 cases q:H a with
 | none=>rfl
 | some u=>exact absurd (E7 (x.lt q) e) (L9 _)
def Ew.kept(x:Ew P w H h)(k:∀b u,h.get? b=NR u→h'.get? b=NR u):Ew P w H h':=λa o e=>
 (x a o e).stay (λb u _ q=>k b u q) (λ_ q=>q) λ_ _ q=>q
def Ew.laid(x:Ew P w H h)(k:∀b u,h.get? b=NR u→h'.get? b=NR u)(hp:h.objs.size≤a)(new:jU P w (upd H a o) h' a o):Ew P w (upd H a o) h':=λb u e=>by
 have hn:=x.fresh hp;by_cases hb:b=a
 ·subst hb;rw[cA]at e;cases e;exact new
 ·rw[bQ hb]at e;exact(x b u e).stay (λc v _ q=>k c v q) (λc q=>by rw[bQ (iI q hn)];exact q) λc xs q=>by rw[bQ (iI q hn)];exact q
end
def Rd(H:Hp)(a:AF)(u:HO):Prop:=H a=NR u∨∃o,H a=NR (.Al o u)
def Rd.ok{P:AQ}{u:HO}(r:Rd H a u)(x:Ew P w H h):jU P w H h a u:=by
 rcases r with r | ⟨o,r⟩
 ·exact x a u r
 ·obtain⟨_,q⟩:=x a _ r;exact q
def Mut:Option HO→Prop
 | some (.lst _)=>True
 | some (.dK _)=>True
 | some (.dT _)=>True
 | some (.set _ _)=>True
 | some (.ins _ _ _)=>True
 | some (.ext _)=>True
 | _=>False
section
variable{P:AQ}{h':Heap}{x e:AF}{o':HO}
def Ew.write(ok:Ew P w H h)(mu:Mut (H x))(he:e=x∨H e=NR (.own x))(k:∀b u,b≠e→h.get? b=NR u→h'.get? b=NR u)(oS:∃u,h'.get? e=NR u)
 (new:jU P w (upd H x o') h' x o'):Ew P w (upd H x o') h':=λb u q=>by
 have aJm:∀c y,H c=NR (.own y)→c≠x:=λc y r z=>by subst z;rw[r]at mu;exact mu
 have aLm:∀c xs,H c=NR (.tup xs)→c≠x:=λc xs r z=>by subst z;rw[r]at mu;exact mu
 by_cases hb:b=x
 ·subst hb;rw[cA]at q;cases q;exact new
 ·rw[bQ hb]at q;by_cases mi:b=e
  ·have q':H b=NR (.own x):=by
    rcases he with z | z
    ·exact absurd (mi.trans z) hb
    ·rw[mi];exact z
   rw[q]at q';cases q';obtain⟨v,hv⟩:=oS;exact⟨v,by rw[mi];exact hv⟩
  ·refine(ok b u q).stay (λc v hc r=>k c v ?_ r) (λc r=>by rw[bQ (aJm c b r)];exact r) λc xs r=>by rw[bQ (aLm c xs r)];exact r
   rcases hc with rfl | hc
   ·exact mi
   ·rintro rfl;rcases he with z | z
    ·exact aJm c b hc z
    ·rw[hc]at z;cases z;exact hb U
end
structure Un(fs ex:List AF)(H H':Hp)(h h':Heap):Prop where
 keep:∀b o,h.get? b=NR o→H b=sx→b∉fs→b∉ex→h'.get? b=NR o
 slot:∀b o,h.get? b=NR o→H b=sx→b∈fs→b∉ex→∃sl,h'.get? b=NR {o with slots:=sl}
 free:∀b o,h.get? b=NR o→H b=sx→b∉ex→H' b=sx
 there:∀b o,h.get? b=NR o→b∉ex→∃o',h'.get? b=NR o'
 tups:∀b xs,H b=NR (.tup xs)→H' b=NR (.tup xs)
 Zu:∀b o u,H b=NR (.Al o u)→H' b=NR (.Al o u)
 NK:∀b ps,H b=NR (.tbl ps)→∃more,H' b=NR (.tbl (ps++more))
section
variable{fs fs' ex ex':List AF}{H1 H2:Hp}{h1 h2 h':Heap}{x e:AF}
def Un.any(u:Un fs ex H H1 h h1){b:AF}(q:h.get? b=NR ob)(n:H b=sx)(hx:b∉ex):∃sl,h1.get? b=NR {ob with slots:=sl}:=by
 by_cases hb:b∈fs
 ·exact u.slot b ob q n hb hx
 ·exact⟨ob.slots,u.keep b ob q n hb hx⟩
def Un.kept(k:∀b u,h.get? b=NR u→h'.get? b=NR u):Un fs ex H H h h':=
 ⟨λb ob q _ _ _=>k b ob q,λb ob q _ _ _=>⟨ob.slots,k b ob q⟩,λ_ _ _ n _=>n,λb ob q _=>⟨ob,k b ob q⟩,λ_ _ q=>q,λ_ _ _ q=>q,λ_ ps q=>⟨#[],by rw[q];simp⟩⟩
def Un.refl:Un fs ex H H h h:=Un.kept λ_ _ q=>q
def Un.laid(k:∀b u,h.get? b=NR u→h'.get? b=NR u)(hp:h.objs.size≤a)(hn:H a=sx):Un fs ex H (upd H a o) h h' where
 keep:=λb u q _ _ _=>k b u q
 slot:=λb u q _ _ _=>⟨u.slots,k b u q⟩
 free:=λb u q n _=>by rw[bQ (F3 (E7 (AN q) hp))];exact n
 there:=λb u q _=>⟨u,k b u q⟩
 tups:=λb xs q=>by rw[bQ (iI q hn)];exact q
 Zu:=λb u xs q=>by rw[bQ (iI q hn)];exact q
 NK:=λb ps q=>⟨#[],by rw[bQ (iI q hn),q];simp⟩
def Un.write(mu:Mut (H x))(he:e=x∨H e=NR (.own x))(k:∀b u,b≠e→h.get? b=NR u→h'.get? b=NR u)(oS:∃u,h'.get? e=NR u):Un fs ex H (upd H x o) h h':=by
 have hx:∀b,H b=sx→b≠x:=λb n z=>by subst z;rw[n]at mu;exact mu
 have hb:∀b,H b=sx→b≠e:=λb n z=>by
  subst z;rcases he with r | r
  ·exact hx b n r
  ·rw[n]at r;cases r
 have hm:∀b u,H b=NR u→¬Mut (NR u)→b≠x:=λb u q nm z=>by subst z;rw[q]at mu;exact nm mu
 refine⟨λb u q n _ _=>k b u (hb b n) q,λb u q n _ _=>⟨u.slots,k b u (hb b n) q⟩,λb u q n _=>by rw[bQ (hx b n)];exact n,λb u q _=>?_,
  λb xs q=>by rw[bQ (hm b _ q λz=>z)];exact q,λb u xs q=>by rw[bQ (hm b _ q λz=>z)];exact q,λb ps q=>⟨#[],by rw[bQ (hm b _ q λz=>z),q];simp⟩⟩
 by_cases mi:b=e
 ·subst mi;exact oS
 ·exact⟨u,k b u mi q⟩
end
def trk(h:Heap)(H:Hp):List AF:=(D5 h.objs.size).filter λa=>(H a).isSome
def Zv(h:Heap)(H:Hp):Heap:=u5 h (trk h H)
def aAc(h:Heap)(H:Hp):(Zv h H).objs.size=h.objs.size:=PySem.W.hideAll_size _ _
def aBz{b:AF}{o:Obj}(e:h.get? b=NR o)(n:H b=sx):(Zv h H).get? b=NR o:=
 PySem.W.hideAll_get _ e λhm=>by have q:(H b).isSome=NU:=(K3.mp hm).2;rw[n]at q;simp at q
def aEg{b:AF}{o:Obj}(e:(Zv h H).get? b=NR o):h.get? b=NR o∧H b=sx:=by
 have e':h.get? b=NR o:=PySem.W.of_hideAll (trk h H) e;refine⟨e',?_⟩;cases q:H b with
 | none=>rfl
 | some x=>have hm:b∈trk h H:=K3.mpr ⟨F7.mpr (AN e'),by simp[q]⟩;have z:(Zv h H).get? b=sx:=PySem.W.hideAll_none (trk h H) hm;rw[z]at e;cases e
structure Mod(K:aG)(mg:Str→Option AE)(base:Heap):Prop where
 kin:K.In base
 glob:base.Ns As mg
 blt:∃mb,base.Ns IZ mb∧∀x:Str,x ≠ "__name__" → mb x=AZ x
 nolimit:base.NoLimit
structure Cx where
 prog:AQ
 w:AS
 K:aG
 mg:Str→Option AE
 base:Heap
 A:AV
 N:List Str
 s₀:AG
 H₀:Hp
 env:Env
 outer:List Env
 stack:List Env
 ex:List AF
 fn:Str→Bool
 calm:Bool
 pn:List (AF×Obj)
 xe:AE→AG→Prop
variable{X:Cx}
def frs(l:List Env):List AF:=l.filterMap (·.frame)
abbrev Cx.fs(X:Cx):List AF:=frs X.outer
def Ey(sc:BQ)(x:Str):Prop:=sc.names.lookup x=NR .local∨sc.names.lookup x=NR .cell∨sc.names.lookup x=NR .free
def Loc(sc:BQ)(x:Str):Prop:=sc.names.lookup x=NR .local∨sc.names.lookup x=NR .cell
def Look(env:Env)(h:Heap)(m:Str→Option AE)(x:Str)(u:AE):Prop:=
 (env.kindOf x=NR .local∧m x=NR u)∨((env.kindOf x=NR .cell∨env.kindOf x=NR .free)∧∃c,env.cells.lookup x=NR c∧h.IsCell c (NR u))
structure Cx.Ok(X:Cx):Prop where
 mod:Mod X.K X.mg X.base
 kind:X.env.scope.kind=.function
 glob:X.env.globals=As
 blt:X.env.builtins=IZ
 above:X.s₀.heap.objs.size≤X.env.locals
 inj:∀x y c,X.env.cells.lookup x=NR c→X.env.cells.lookup y=NR c→x=y
 has:∀x,(X.env.kindOf x=NR .cell∨X.env.kindOf x=NR .free)→∃c,X.env.cells.lookup x=NR c
 cab:∀x c,X.fn x=NU→X.env.cells.lookup x=NR c→X.s₀.heap.objs.size≤c
 hd:X.calm=NU→X.A.handled=sx
 frames:X.A.frames=NR X.stack
 stk:X.stack=X.outer∨(X.stack=X.env::X.outer∧X.env.frame=NR X.env.locals)
 exf:∀b∈X.ex,b≠X.env.locals∧∀x c,X.env.cells.lookup x=NR c→c≠b
 bs:∀b o,X.base.get? b=NR o→X.s₀.heap.get? b=NR o∧X.H₀ b=sx
 bsz:X.base.objs.size≤X.s₀.heap.objs.size
 aBA:∀b o,X.base.get? b=NR o→b∉X.ex
 aEk:∀b∈X.ex,b∉X.fs
 Oj:X.s₀.heap.FunFrames X.base X.outer
 frf:∀b∈X.fs,X.H₀ b=sx
structure Inv(X:Cx)(aE:List (AF×Obj))(σ:List (Option V))(H:Hp)(s:AG):Prop where
 ok:X.Ok
 os:s.os=X.s₀.os
 bare:Da s.gens
 base:Un X.fs X.ex X.H₀ H X.s₀.heap s.heap
 loc:∃m,s.heap.Ns X.env.locals m∧∀(i:Nat)(x:Str)(v:V),X.N[i]?=NR x→σ[i]?=NR (NR v)→Ey X.env.scope x→∃u,RelV v u∧Look X.env s.heap m x u
 cell:∀x c,X.env.cells.lookup x=NR c→∃v,s.heap.IsCell c v
 free:H X.env.locals=sx
 zR:∀x c,X.env.cells.lookup x=NR c→H c=sx
 pin:∀p∈X.pn++aE,s.heap.get? p.1=NR p.2∧H p.1=sx∧p.1≠X.env.locals∧p.1∉X.fs∧∀v,p.2.data≠.cell v
 hok:Ew X.prog X.w H s.heap
 len:σ.length=X.N.length
section
variable{σ:List (Option V)}{H':Hp}{h':Heap}
def Cx.Ok.aLn(ok:X.Ok){b:AF}{o:Obj}(e:X.base.get? b=NR o):b∉X.fs:=λhb=>by have:=(ok.Oj.mem hb).1;rw[e]at this;cases this
def Inv.bs(I:Inv X aE σ H s):∀b o,X.base.get? b=NR o→s.heap.get? b=NR o∧H b=sx:=λb o e=>
 ⟨I.base.keep b o (I.ok.bs b o e).1 (I.ok.bs b o e).2 (I.ok.aLn e) (I.ok.aBA b o e),I.base.free b o (I.ok.bs b o e).1 (I.ok.bs b o e).2 (I.ok.aBA b o e)⟩
def Inv.bk(I:Inv X aE σ H s):∀b o,X.base.get? b=NR o→s.heap.get? b=NR o:=λb o e=>(I.bs b o e).1
def Inv.mod(I:Inv X aE σ H s):Mod X.K X.mg X.base:=I.ok.mod
def Inv.Kr(I:Inv X aE σ H s):X.K.In s.heap:=I.ok.mod.kin.keeps I.bk
def Inv.lt(I:Inv X aE σ H s):X.env.locals<s.heap.objs.size:=let ⟨_,hn,_⟩:=I.loc;hn.lt
def Inv.sz(I:Inv X aE σ H s):X.s₀.heap.objs.size≤s.heap.objs.size:=G1 I.ok.above (P4 I.lt)
def Inv.aLo(I:Inv X aE σ H s)(h:s.heap.objs.size≤a):a∉X.fs:=λhb=>by obtain⟨_,o,ho,_⟩:=I.ok.Oj.mem hb;exact absurd (E7 (AN ho) (G1 I.sz h)) (L9 _)
def Inv.cne(I:Inv X aE σ H s):∀x c,X.env.cells.lookup x=NR c→c≠X.env.locals:=λx c e z=>by obtain⟨v,o,ho,hd⟩:=I.cell x c e;obtain⟨m,⟨o',es,ep,gx,kM,_⟩,_⟩:=I.loc;rw[z,gx]at ho;cases ho;rw[kM]at hd;cases hd
def Inv.Oj(I:Inv X aE σ H s):s.heap.FunFrames X.base X.outer:=by
 have all:∀(l:List Env),(∀b∈frs l,b∈X.fs)→X.s₀.heap.FunFrames X.base l→s.heap.FunFrames X.base l:=by
  intro l
  induction l with
  | nil=>intro _ _;trivial
  | cons env r ih=>intro hs hl;obtain⟨hk,⟨L,o,hf,hn,ho,hd⟩,hr⟩:=hl;have hL:L∈X.fs:=hs L (by unfold frs;rw[T3,hf];exact C8);obtain⟨sl,e⟩:=I.base.slot L o ho (I.ok.frf L hL) hL λz=>I.ok.aEk L z hL;exact⟨hk,⟨L,_,hf,hn,e,hd⟩,ih (λb hb=>hs b (by unfold frs;rw[T3,hf];exact C6 _ hb)) hr⟩
 exact all X.outer (λ_ hb=>hb) I.ok.Oj
def Inv.stack(I:Inv X aE σ H s):s.heap.FunFrames X.base X.stack:=by
 rcases I.ok.stk with e | ⟨e,hf⟩
 ·rw[e];exact I.Oj
 ·rw[e];obtain⟨m,hn,_⟩:=I.loc;refine .cons (by rw[I.ok.kind];decide) hf hn ?_ I.Oj;exact Heap.get?_none_of_le (G1 I.ok.bsz I.ok.above)
def Inv.Zw(I:Inv X aE σ H s):∀b∈frs X.stack,b∈X.env.locals::X.fs:=λb hb=>by
 rcases I.ok.stk with e | ⟨e,hf⟩
 ·rw[e]at hb;exact C6 _ hb
 ·rw[e]at hb;unfold frs at hb;rw[T3,hf]at hb;exact hb
def Inv.sr(I:Inv X aE σ H s):∀b∈frs X.stack,H b=sx:=λb hb=>by
 rcases B9.mp (I.Zw b hb)with e | hb
 ·rw[e];exact I.free
 ·obtain⟨_,o,ho,_⟩:=I.ok.Oj.mem hb;exact I.base.free b o ho (I.ok.frf b hb) λz=>I.ok.aEk b z hb
def Inv.step{g':Array IT}{t':Nat}{d':Ic}{ch:List AF}(I:Inv X aE σ H s)
 (gs:∀b∈ch,(b∈X.ex∨X.s₀.heap.objs.size≤b)∧b≠X.env.locals∧(∀x c,X.env.cells.lookup x=NR c→c≠b)∧∀p∈X.pn++aE,p.1≠b)
 (keep:∀b o,b≠X.env.locals→b∉X.fs→b∉ch→s.heap.get? b=NR o→H b=sx→h'.get? b=NR o)
 (slot:∀b o,b≠X.env.locals→b∈X.fs→b∉ch→s.heap.get? b=NR o→H b=sx→∃sl,h'.get? b=NR {o with slots:=sl}) (free:∀b o,b∉ch→s.heap.get? b=NR o→H b=sx→H' b=sx)
 (there:∀b o,b∉ch→s.heap.get? b=NR o→∃o',h'.get? b=NR o')
 (tups:∀b xs,H b=NR (.tup xs)→H' b=NR (.tup xs)) (Zu:∀b o u,H b=NR (.Al o u)→H' b=NR (.Al o u)) (NK:∀b ps,H b=NR (.tbl ps)→∃more,H' b=NR (.tbl (ps++more)))
 (ns:∀m,s.heap.Ns X.env.locals m→h'.Ns X.env.locals m) (hok:Ew X.prog X.w H' h') (hg:Da g') :
 Inv X aE σ H' {s with heap:=h',gens:=g',drawn:=d',toks:=t'}:=by
 have neL:∀b o,X.s₀.heap.get? b=NR o→b≠X.env.locals:=λb o e=>F3 (E7 (AN e) I.ok.above);have oe:∀b o,X.s₀.heap.get? b=NR o→b∉X.ex→b∉ch:=λb o e hx hb=>by
  rcases(gs b hb).1 with z | z
  ·exact hx z
  ·exact absurd (E7 (AN e) z) (L9 _)
 have cellK:∀x c,X.env.cells.lookup x=NR c→∀v,s.heap.IsCell c v→h'.IsCell c v:=λx c e v ⟨o,ho,hd⟩=>by
  have qV:c∉ch:=λz=>(gs c z).2.2.1 x c e U;by_cases hc:c∈X.fs
  ·obtain⟨sl,q⟩:=slot c o (I.cne x c e) hc qV ho (I.zR x c e);exact⟨_,q,hd⟩
  ·exact⟨o,keep c o (I.cne x c e) hc qV ho (I.zR x c e),hd⟩
 refine⟨I.ok,I.os,hg,⟨λb o e n hb hx=>?_,λb o e n hb hx=>?_,λb o e n hx=>?_,λb o e hx=>?_,λb xs e=>tups b xs (I.base.tups b xs e),λb o xs e=>Zu b o xs (I.base.Zu b o xs e),λb ps e=>?_⟩,?_,λx c e=>?_,?_,λx c e=>?_,λp hp=>?_,hok,I.len⟩
 ·exact keep b o (neL b o e) hb (oe b o e hx) (I.base.keep b o e n hb hx) (I.base.free b o e n hx)
 ·obtain⟨sl,e1⟩:=I.base.slot b o e n hb hx;obtain⟨sl',e2⟩:=slot b _ (neL b o e) hb (oe b o e hx) e1 (I.base.free b o e n hx);exact⟨sl',e2⟩
 ·obtain⟨o',e1⟩:=I.base.there b o e hx;exact free b o' (oe b o e hx) e1 (I.base.free b o e n hx)
 ·obtain⟨o',e1⟩:=I.base.there b o e hx;exact there b o' (oe b o e hx) e1
 ·obtain⟨m1,e1⟩:=I.base.NK b ps e;obtain⟨m2,e2⟩:=NK b _ e1;exact⟨m1++m2,by rw[e2,Array.append_assoc]⟩
 ·obtain⟨m,hn,hl⟩:=I.loc;refine⟨m,ns m hn,λi x v e1 e2 e3=>?_⟩;obtain⟨u,r,l⟩:=hl i x v e1 e2 e3;refine⟨u,r,?_⟩;rcases l with l | ⟨k,c,e,z⟩
  ·exact .inl l
  ·exact .inr ⟨k,c,e,cellK x c e _ z⟩
 ·obtain⟨v,z⟩:=I.cell x c e;exact⟨v,cellK x c e v z⟩
 ·obtain⟨m,⟨o,_,_,ho,_⟩,_⟩:=I.loc;exact free _ o (λz=>(gs _ z).2.1 U) ho I.free
 ·obtain⟨v,o,ho,hd⟩:=I.cell x c e;exact free c o (λz=>(gs c z).2.2.1 x c e U) ho (I.zR x c e)
 ·obtain⟨e,n,ne,nf,d⟩:=I.pin p hp;have qV:p.1∉ch:=λz=>(gs p.1 z).2.2.2 p hp U;exact⟨keep p.1 p.2 ne nf qV e n,free p.1 p.2 qV e n,ne,nf,d⟩
def Inv.un{t':Nat}(I:Inv X aE σ H s)(u:Un X.fs [] H H' s.heap h')(hok:Ew X.prog X.w H' h'):Inv X aE σ H' {s with heap:=h',toks:=t'}:=by
 obtain⟨m,⟨o,es,ep,ho,r⟩,_⟩:=id I.loc;obtain⟨sl,hL⟩:=u.any ho I.free (by simp);exact I.step (g':=s.gens) (d':=s.drawn) (ch:=[]) (λ_ z=>nomatch z) (λb o _ hb _ e n=>u.keep b o e n hb (by simp)) (λb o _ hb _ e n=>u.slot b o e n hb (by simp)) (λb o _ e n=>u.free b o e n (by simp)) (λb o _ e=>u.there b o e (by simp)) u.tups u.Zu u.NK (λm' hm=>by
  obtain⟨o',iL,ep',gx,r'⟩:=hm;rw[ho]at gx;cases gx;exact⟨_,iL,ep',hL,r'⟩) hok I.bare
def Inv.call{g':Array IT}{t':Nat}{d':Ic}{ch:List AF}(I:Inv X aE σ H s)(u:Un (frs X.stack) ch H H' s.heap h')(hok:Ew X.prog X.w H' h')(hg:Da g')
 (gs:∀b∈ch,(b∈X.ex∨X.s₀.heap.objs.size≤b)∧b≠X.env.locals∧(∀x c,X.env.cells.lookup x=NR c→c≠b)∧∀p∈X.pn++aE,p.1≠b) :
 Inv X aE σ H' {s with heap:=h',gens:=g',drawn:=d',toks:=t'}:=by
 obtain⟨m,⟨o,es,ep,ho,r⟩,_⟩:=id I.loc;obtain⟨sl,hL⟩:=u.any ho I.free λz=>(gs _ z).2.1 U;exact I.step (ch:=ch) gs (λb o hL hb hc e n=>u.keep b o e n (λz=>(B9.mp (I.Zw b z)).elim hL hb) hc) (λb o _ _ hc e n=>u.any e n hc) (λb o hc e n=>u.free b o e n hc) (λb o hc e=>u.there b o e hc) u.tups u.Zu u.NK (λm' hm=>by
  obtain⟨o',iL,ep',gx,r'⟩:=hm;rw[ho]at gx;cases gx;exact⟨_,iL,ep',hL,r'⟩) hok hg
def Inv.turned{t':Nat}{it:AF}(I:Inv X aE σ H s)(k:∀b o,b≠it→s.heap.get? b=NR o→h'.get? b=NR o)(hn:H it=sx)(hL:it≠X.env.locals)
 (h1:it∈X.ex∨X.s₀.heap.objs.size≤it) (h2:∀x c,X.env.cells.lookup x=NR c→c≠it) (h3:∀p∈X.pn++aE,p.1≠it):Inv X aE σ H {s with heap:=h',toks:=t'}:=by
 have qf:∀b u,H b=NR u→b≠it:=λb u e z=>by rw[z,hn]at e;cases e
 refine I.step (g':=s.gens) (d':=s.drawn) (ch:=[it]) (λb hb=>?_) (λb o _ _ hc e _=>k b o (λz=>hc (by simp[z])) e) (λb o _ _ hc e _=>⟨o.slots,k b o (λz=>hc (by simp[z])) e⟩) (λ_ _ _ _ n=>n)
  (λb o hc e=>⟨o,k b o (λz=>hc (by simp[z])) e⟩) (λ_ _ e=>e) (λ_ _ _ e=>e) (λb ps e=>⟨#[],by rw[e];simp⟩) (λm hm=>?_) (λb u e=>?_) I.bare
 ·have e:b=it:=by simpa using hb
  subst e;exact⟨h1,hL,h2,h3⟩
 ·obtain⟨o,es,ep,ho,r⟩:=hm;exact⟨o,es,ep,k _ o (Ne.symm hL) ho,r⟩
 ·refine(I.hok b u e).stay (λc v hc q=>k c v ?_ q) (λ_ q=>q) λ_ _ q=>q;rcases hc with z | z
  ·rw[z];exact qf b u e
  ·exact qf c _ z
def Inv.tok(I:Inv X aE σ H s)(t:Nat):Inv X aE σ H {s with toks:=t}:=I.un (h':=s.heap) (t':=t) Un.refl I.hok
def Inv.kept{t':Nat}(I:Inv X aE σ H s)(k:∀b u,s.heap.get? b=NR u→h'.get? b=NR u):Inv X aE σ H {s with heap:=h',toks:=t'}:=I.un (Un.kept k) (I.hok.kept k)
def Inv.laid{t':Nat}(I:Inv X aE σ H s)(k:∀b u,s.heap.get? b=NR u→h'.get? b=NR u)(hp:s.heap.objs.size≤a)(new:jU X.prog X.w (upd H a o) h' a o):
 Inv X aE σ (upd H a o) {s with heap:=h',toks:=t'}:=I.un (Un.laid k hp (I.hok.fresh hp)) (I.hok.laid k hp new)
def Inv.write{x e:AF}{o:HO}{t':Nat}(I:Inv X aE σ H s)(mu:Mut (H x))(he:e=x∨H e=NR (.own x))(k:∀b u,b≠e→s.heap.get? b=NR u→h'.get? b=NR u)(oS:∃u,h'.get? e=NR u)
 (new:jU X.prog X.w (upd H x o) h' x o):Inv X aE σ (upd H x o) {s with heap:=h',toks:=t'}:=I.un (Un.write mu he k oS) (I.hok.write mu he k oS new)
def Inv.weak{σ':List (Option V)}(I:Inv X aE σ H s)(hl:σ'.length=σ.length)(w:∀(i:Nat) v,σ'[i]?=NR (NR v)→σ[i]?=NR (NR v)):Inv X aE σ' H s:=
 ⟨I.ok,I.os,I.bare,I.base,let ⟨m,hn,hl'⟩:=I.loc;⟨m,hn,λi x v e1 e2 e3=>hl' i x v e1 (w i v e2) e3⟩,I.cell,I.free,I.zR,I.pin,I.hok,hl.trans I.len⟩
def Inv.su(I:Inv X aE σ H s)(h:∀p∈aBB,s.heap.get? p.1=NR p.2∧H p.1=sx∧p.1≠X.env.locals∧p.1∉X.fs∧∀v,p.2.data≠.cell v):Inv X aBB σ H s:=
 ⟨I.ok,I.os,I.bare,I.base,I.loc,I.cell,I.free,I.zR,λp hp=>(F8.mp hp).elim (λz=>I.pin p (F5 _ z)) (h p),I.hok,I.len⟩
def NP(hN:N.Nodup){x:Str}(a:N[i]?=NR x)(b:N[j]?=NR x):i=j:=by obtain⟨h1,e1⟩:=D4.mp a;obtain⟨h2,e2⟩:=D4.mp b;exact(List.getElem_inj hN).mp (e1.trans e2.symm)
def Wv{M:Iq}{A:AV}{E:AE→AG→Prop}{i:Nat}{x:Str}{v:V}{u:AE}{Q:Unit→AG→Prop}(I:Inv X aE σ H s)(hN:X.N.Nodup)(hi:X.N[i]?=NR x)(hx:Loc X.env.scope x)(r:RelV v u)
 (h:∀s',Inv X aE (σ.set i (NR v)) H s'→(∃a,Bi a s.heap s'.heap∧(a=X.env.locals∨X.env.cells.lookup x=NR a))→Q () s') (hf:X.fn x=NU∨X.env.scope.names.lookup x=NR .local:=by first | exact .inl U | exact .inr U | assumption):AL M A (storeName X.env x u) Q E s:=by
 obtain⟨m,hn,hl⟩:=id I.loc;have hcls:(X.env.scope.kind==.class||(X.env.scope.kind==.module&&X.env.locals != X.env.globals))=NV:=by rw[I.ok.kind];rfl
 have hiσ:i<σ.length:=by rw[I.len];exact(D4.mp hi).1
 have cne:=I.cne;have tracked:∀{a:AF} {h':Heap},(∃o,s.heap.get? a=NR o∧H a=sx)→Bi a s.heap h'→Ew X.prog X.w H h':=λ{a h'} ha hs b ob e=>by
  obtain⟨_,_,mS⟩:=ha;refine(I.hok b ob e).stay (λc w' hc q=>(hs.2 c ?_).trans q) (λ_ q=>q) λ_ _ q=>q;rintro rfl;rcases hc with rfl | hc
  ·rw[mS]at e;cases e
  ·rw[mS]at hc;cases hc
 rcases hx with hk | hk
 ·refine wpAny_storeName_local hk hn (λh' hn' hs=>?_) hcls;obtain⟨oL,_,_,qh,_⟩:=id hn;refine h _ ⟨I.ok,I.os,I.bare,⟨λb o e n hb hx=>?_,λb o e n hb hx=>?_,I.base.free,λb o e hx=>?_,I.base.tups,I.base.Zu,I.base.NK⟩,⟨_,hn',λj y v' e1 e2 e3=>?_⟩,λy c e=>?_,I.free,I.zR,λp hp=>?_,tracked ⟨oL,qh,I.free⟩ hs,by simpa using I.len⟩ ⟨_,hs,.inl U⟩
  ·exact(hs.2 b (F3 (E7 (AN e) I.ok.above))).trans (I.base.keep b o e n hb hx)
  ·obtain⟨sl,e1⟩:=I.base.slot b o e n hb hx;exact⟨sl,(hs.2 b (F3 (E7 (AN e) I.ok.above))).trans e1⟩
  ·obtain⟨o',e1⟩:=I.base.there b o e hx;exact⟨o',(hs.2 b (F3 (E7 (AN e) I.ok.above))).trans e1⟩
  ·by_cases hj:j=i
   ·subst hj;rw[hi]at e1;cases e1;rw[K0 hiσ]at e2;cases e2;exact⟨u,r,.inl ⟨hk,by simp⟩⟩
   ·rw[W5 (Ne.symm hj)]at e2;obtain⟨u',r',q⟩:=hl j y v' e1 e2 e3;refine⟨u',r',?_⟩;rcases q with ⟨k,e⟩ | ⟨k,c,e,z⟩
    ·refine .inl ⟨k,?_⟩;have:y≠x:=λe=>hj (NP hN e1 (e▸hi));simp[this,e]
    ·exact .inr ⟨k,c,e,z.sameBut hs (cne y c e)⟩
  ·obtain⟨w',z⟩:=I.cell y c e;exact⟨w',z.sameBut hs (cne y c e)⟩
  ·obtain⟨e,n,ne,nf,d⟩:=I.pin p hp;exact⟨(hs.2 p.1 ne).trans e,n,ne,nf,d⟩
 ·have hfn:X.fn x=NU:=by
   rcases hf with z | z
   ·exact z
   ·rw[z]at hk;cases hk
  obtain⟨c,hc⟩:=I.ok.has x (.inl hk);obtain⟨w',z⟩:=I.cell x c hc;refine wpAny_storeName_cell I.ok.kind hk hc z (λh' hc' hs=>?_);obtain⟨oc,mT,aLp⟩:=id z;refine h {s with heap:=h'} ⟨I.ok,I.os,I.bare,⟨λb o e n hb hx=>?_,λb o e n hb hx=>?_,I.base.free,λb o e hx=>?_,I.base.tups,I.base.Zu,I.base.NK⟩,⟨m,hn.sameBut hs (Ne.symm (cne x c hc)),λj y v' e1 e2 e3=>?_⟩,λy c' e=>?_,I.free,I.zR,λp hp=>?_,tracked ⟨oc,mT,I.zR x c hc⟩ hs,by simpa using I.len⟩ ⟨c,hs,.inr hc⟩
  ·exact(hs.2 b (F3 (E7 (AN e) (I.ok.cab x c hfn hc)))).trans (I.base.keep b o e n hb hx)
  ·obtain⟨sl,e1⟩:=I.base.slot b o e n hb hx;exact⟨sl,(hs.2 b (F3 (E7 (AN e) (I.ok.cab x c hfn hc)))).trans e1⟩
  ·obtain⟨o',e1⟩:=I.base.there b o e hx;exact⟨o',(hs.2 b (F3 (E7 (AN e) (I.ok.cab x c hfn hc)))).trans e1⟩
  ·by_cases hj:j=i
   ·subst hj;rw[hi]at e1;cases e1;rw[K0 hiσ]at e2;cases e2;exact⟨u,r,.inr ⟨.inl hk,c,hc,hc'⟩⟩
   ·rw[W5 (Ne.symm hj)]at e2;obtain⟨u',r',q⟩:=hl j y v' e1 e2 e3;refine⟨u',r',?_⟩;rcases q with q | ⟨k,c',e,z'⟩
    ·exact .inl q
    ·refine .inr ⟨k,c',e,z'.sameBut hs ?_⟩;rintro rfl;exact hj (NP hN e1 (I.ok.inj _ _ _ e hc▸hi))
  ·by_cases og:c'=c
   ·subst og;exact⟨_,hc'⟩
   ·obtain⟨w2,z2⟩:=I.cell y c' e;exact⟨w2,z2.sameBut hs og⟩
  ·obtain⟨e,n,ne,nf,d⟩:=I.pin p hp;refine⟨(hs.2 p.1 ?_).trans e,n,ne,nf,d⟩;intro q;rw[q,mT]at e;have q':oc=p.2:=E6 e;exact d w' (by rw[←q'];exact aLp)
def NQ{M:Iq}{A:AV}{E:AE→AG→Prop}{i:Nat}{x:Str}{v:V}{u:AE}{Q:Unit→AG→Prop}(I:Inv X aE σ H s)(hN:X.N.Nodup)(hi:X.N[i]?=NR x)(hx:Loc X.env.scope x)(r:RelV v u)
 (h:∀s',Inv X aE (σ.set i (NR v)) H s'→Q () s') (hf:X.fn x=NU∨X.env.scope.names.lookup x=NR .local:=by first | exact .inl U | exact .inr U | assumption):AL M A (storeName X.env x u) Q E s:=
 Wv I hN hi hx r (λs' I' _=>h s' I') hf
def Inv.call'{s':AG}{ch:List AF}(I:Inv X aE σ H s)(ho:s'.os=s.os)(u:Un (frs X.stack) ch H H' s.heap s'.heap)(hok:Ew X.prog X.w H' s'.heap)(hg:Da s'.gens)
 (gs:∀b∈ch,(b∈X.ex∨X.s₀.heap.objs.size≤b)∧b≠X.env.locals∧(∀x c,X.env.cells.lookup x=NR c→c≠b)∧∀p∈X.pn++aE,p.1≠b):Inv X aE σ H' s':=by
 obtain⟨h',g',d',t',o'⟩:=s';have e:o'=s.os:=ho;subst e;exact I.call (g':=g') (t':=t') (d':=d') u hok hg gs
end
abbrev XK:=AE→Option AF→Hp→Prop
abbrev St:=List (Option V)
variable{σ:St}
abbrev VK:=V→Hp→Prop
abbrev TE:=St→Hp→VK→Prop
variable{te ta tb t tv:TE}
abbrev TT:=St→Hp→(Bool→Hp→Prop)→Prop
variable{tc:TT}
abbrev TA:=St→Hp→(List V→Hp→Prop)→Prop
variable{tA:TA}
structure Ends where
 nx:St→Hp→Prop
 rt:VK
 bk:St→Hp→Prop:=λ_ _=>False
 ct:St→Hp→Prop:=λ_ _=>False
abbrev TS:=Ends→St→Hp→Prop
def EP(X:Cx)(aE:List (AF×Obj))(σ:St)(Q:VK)(u:AE)(s':AG):Prop:=∃v H',Inv X aE σ H' s'∧RelV v u∧Q v H'
def TP(X:Cx)(aE:List (AF×Obj))(σ:St)(Q:Bool→Hp→Prop)(b:Bool)(s':AG):Prop:=∃H',Inv X aE σ H' s'∧Q b H'
def AP(X:Cx)(aE:List (AF×Obj))(σ:St)(Q:List V→Hp→Prop)(us:List AE)(s':AG):Prop:=∃vs H',Inv X aE σ H' s'∧Vals vs us∧Q vs H'
def SP(X:Cx)(aE:List (AF×Obj))(D:Ends)(f:Flow)(s':AG):Prop:=
 match f with
 | .next=>∃σ' H',Inv X aE σ' H' s'∧D.nx σ' H'
 | .brk=>∃σ' H',Inv X aE σ' H' s'∧D.bk σ' H'
 | .cont=>∃σ' H',Inv X aE σ' H' s'∧D.ct σ' H'
 | .ret u=>∃v σ' H',Inv X aE σ' H' s'∧RelV v u∧D.rt v H'
def PE(X:Cx)(e:AK)(t:TE):Prop:=
 ∀(aE:List (AF×Obj))(s:AG)(σ:St)(H:Hp)(Q:VK),Inv X aE σ H s→t σ H Q→AL (AM X.prog X.w) X.A (AU e X.env) (EP X aE σ Q) X.xe s
def PT(X:Cx)(e:AK)(t:TT):Prop:=
 ∀(aE:List (AF×Obj))(s:AG)(σ:St)(H:Hp)(Q:Bool→Hp→Prop),Inv X aE σ H s→t σ H Q→AL (AM X.prog X.w) X.A (HZ e X.env (AU e X.env)) (TP X aE σ Q) X.xe s
def PW(X:Cx)(e:AK)(t:TT):Prop:=
 ∀(ee:Sem AE)(aE:List (AF×Obj))(s:AG)(σ:St)(H:Hp)(Q:Bool→Hp→Prop),Inv X aE σ H s→t σ H Q→AL (AM X.prog X.w) X.A (HZ e X.env ee) (TP X aE σ Q) X.xe s
def PW.pt{t:TT}(h:PW X e t):PT X e t:=h _
def PA(X:Cx)(es:List AK)(t:TA):Prop:=
 ∀(pos:Pos)(aE:List (AF×Obj))(s:AG)(σ:St)(H:Hp)(Q:List V→Hp→Prop),Inv X aE σ H s→t σ H Q→AL (AM X.prog X.w) X.A (spliced (Au pos (AJ es X.env))) (AP X aE σ Q) X.xe s
def PS(X:Cx)(st:AO)(t:TS):Prop:=
 ∀(aE:List (AF×Obj))(s:AG)(σ:St)(H:Hp)(D:Ends),Inv X aE σ H s→t D σ H→AL (AM X.prog X.w) X.A (exec st X.env) (SP X aE D) X.xe s
def NT(X:Cx)(st:List AO)(t:TS):Prop:=
 ∀(aE:List (AF×Obj))(s:AG)(σ:St)(H:Hp)(D:Ends),Inv X aE σ H s→t D σ H→AL (AM X.prog X.w) X.A (execs st X.env) (SP X aE D) X.xe s
def iY{α:Type}{t:Sem α}{Q Q':α→AG→Prop}(h:AL M A t Q E s)(hQ:∀a s,Q a s→Q' a s):AL M A t Q' E s:=BA h hQ λ_ _ x=>x
section
def qM(i:Nat):TE:=λσ H Q=>∃v,σ[i]?=NR (NR v)∧Q v H
def tC(v:V):TE:=λ_ H Q=>Q v H
def aG4{x:Str}{pos:Pos}(hN:X.N[i]?=NR x)(hv:Ey X.env.scope x)(hd:(x==("__debug__":Str))=NV:=by decide)(hcd:(x==("__classdict__":Str))=NV:=by decide):PE X (.Name x pos) (qM i):=by
 intro aE s σ H Q I h;obtain⟨v,e,h⟩:=h;obtain⟨m,hn,hl⟩:=I.loc;obtain⟨u,r,l⟩:=hl i x v hN e hv;have ck:EP X aE σ Q u s:=⟨v,H,I,r,h⟩
 rcases l with ⟨hk,hm⟩ | ⟨hk,c,hc,ef⟩
 ·exact Iy (wpAny_loadName_local I.ok.kind hk hn hm ck) hd
 ·rcases hk with hk | hk
  ·exact Iy (wpAny_loadName_cell I.ok.kind hk hc ef ck) hd
  ·exact Iy (wpAny_loadName_free I.ok.kind hk hc ef ck hcd) hd
def aG5{i j pos}:PE X (.Constant (.int i) j pos) (tC (.int i)):=λ_ _ _ H _ I h=>wpAny_Constant_int ⟨.int i,H,I.tok _,⟨_,U⟩,h⟩
def aJp{b j pos}:PE X (.Constant (.bool b) j pos) (tC (.bl b)):=λ_ _ _ H _ I h=>Constant_bool ⟨.bl b,H,I,U,h⟩
def aG6{j pos}:PE X (.Constant .none j pos) (tC .non):=λ_ _ _ H _ I h=>Constant_none ⟨.non,H,I,U,h⟩
def aG7{x j pos}:PE X (.Constant (.str x) j pos) (tC (.str x)):=λ_ _ _ H _ I h=>Calls.Constant_str ⟨.str x,H,I.tok _,⟨_,U⟩,h⟩
def Gl(X:Cx)(x:Str):Prop:=X.env.kindOf x=NR .globalImplicit
def Zx{E:AE→AG→Prop}{aE:List (AF×Obj)}{s:AG}{σ:St}{H:Hp}{x:Str}{u:AE}{pos:Pos}{Q:AE→AG→Prop}(I:Inv X aE σ H s)(hg:Gl X x)(hm:X.mg x=NR u)(h:Q u s)
 (hd:(x==("__debug__":Str))=NV:=by decide):AL (AM X.prog X.w) X.A (AU (.Name x pos) X.env) Q E s:=
 EZ I.ok.kind hg (Calls.loadGlobal_global (by rw[I.ok.glob];exact I.mod.glob.keeps I.bk) hm h) hd
def vZ{E:AE→AG→Prop}{aE:List (AF×Obj)}{s:AG}{σ:St}{H:Hp}{x:Str}{u:AE}{pos:Pos}{Q:AE→AG→Prop}(I:Inv X aE σ H s)(hg:Gl X x)(hm:X.mg x=sx)(hv:AZ x=NR u)(h:Q u s)
 (hn:x ≠ "__name__" := by decide) (hd:(x==("__debug__":Str))=NV:=by decide):AL (AM X.prog X.w) X.A (AU (.Name x pos) X.env) Q E s:=by
 obtain⟨mb,h1,h2⟩:=I.mod.blt;exact EZ I.ok.kind hg (Calls.loadGlobal_builtin (by rw[I.ok.glob];exact I.mod.glob.keeps I.bk) hm (by rw[I.ok.blt];exact h1.keeps I.bk) ((h2 x hn).trans hv) h) hd
def aEm{x:Str}{pos:Pos}(hg:Gl X x)(hm:X.mg x=NR u)(r:RelV v u)(hd:(x==("__debug__":Str))=NV:=by decide):PE X (.Name x pos) (tC v):=
 λ_ _ _ H _ I h=>Zx I hg hm ⟨v,H,I,r,h⟩ hd
def Df{x:Str}{pos:Pos}(hg:Gl X x)(hm:X.mg x=sx)(hv:AZ x=NR u)(r:RelV v u)(hn:x ≠ "__name__" := by decide)(hd:(x==("__debug__":Str))=NV:=by decide):PE X (.Name x pos) (tC v):=
 λ_ _ _ H _ I h=>vZ I hg hm hv ⟨v,H,I,r,h⟩ hn hd
variable{a:AK}{pos:Pos}
def PC(X:Cx)(op:EH)(a b:AK)(t:TE):Prop:=
 ∀(aE:List (AF×Obj))(s:AG)(σ:St)(H:Hp)(Q:VK),Inv X aE σ H s→t σ H Q →
  AL (AM X.prog X.w) X.A (AU a X.env) (λv s₁=>AL (AM X.prog X.w) X.A (AU b X.env) (λu s₂=>AL (AM X.prog X.w) X.A (AY op v u) (EP X aE σ Q) X.xe s₂) X.xe s₁) X.xe s
def tB(t:TE):TT:=λσ H Q=>t σ H λx H1=>∃c,x=.bl c∧Q c H1
def au{op:EH}(h:PC X op a b t)(h1:behindInMarks op b=NV:=by first | exact nobehind _ (by decide) (by decide) | rfl):PE X (.Compare a [op] [b] pos) t:=λaE s σ H Q I hw=>KE (h aE s σ H Q I hw) h1
def aG8{op:EH}(h:PC X op a b t)(h1:behindInMarks op b=NV:=by first | exact nobehind _ (by decide) (by decide) | rfl):PT X (.Compare a [op] [b] pos) (tB t):=by intro aE s σ H Q I hw;refine GL (iY (h aE s σ H _ I hw) λv s1 h1=>iY h1 λu s2 h2=>iY h2 λc s3 ⟨x,H1,I1,r1,q1⟩=>?_) h1;obtain⟨d,rfl,q⟩:=q1;cases r1;exact BC ⟨H1,I1,q⟩
def aG9(h:PE X e t)(he:∀ee,HZ e X.env ee=(do let v ←ee;EK e.pos;DI [v] (truthy v)):=by intro _;rfl):PT X e (tB t):=by intro aE s σ H Q I hw;refine isTrue_plain (iY (h aE s σ H _ I hw) λv s1 ⟨x,H1,I1,r1,q1⟩=>?_) (he _);obtain⟨d,rfl,q⟩:=q1;cases r1;exact BC ⟨H1,I1,q⟩
variable{tA tB':TT}{rest:List AK}
def aHa(t u:TT):TT:=λσ H Q=>t σ H λc H1=>if c=NU then u σ H1 Q else Q NV H1
def tOr(t u:TT):TT:=λσ H Q=>t σ H λc H1=>if c=NU then Q NU H1 else u σ H1 Q
def aHb(t:TT):TT:=λσ H Q=>t σ H λc H1=>Q (!c) H1
def aEn(ha:PT X a tA):PW X (.BoolOp .And [a] pos) tA:=by
 intro wh aE s σ H Q I h;refine isTrue_and (iY (ha aE s σ H Q I h) λc s1 e=>?_);cases c with
 | true=>exact isTrue_and_nil e
 | false=>exact e
def aHc(ha:PT X a tA):PW X (.BoolOp .Or [a] pos) tA:=by
 intro wh aE s σ H Q I h;refine isTrue_or (iY (ha aE s σ H Q I h) λc s1 e=>?_);cases c with
 | false=>exact isTrue_or_nil e
 | true=>exact e
def aHd(ha:PT X a tA)(hb:PW X (.BoolOp .And (b::rest) pos) tB'):PW X (.BoolOp .And (a::b::rest) pos) (aHa tA tB'):=by
 intro wh aE s σ H Q I h;refine isTrue_and (iY (ha aE s σ H _ I h) λc s1 ⟨H1,I1,q1⟩=>?_);cases c with
 | true=>exact hb wh aE s1 σ H1 Q I1 q1
 | false=>exact⟨H1,I1,q1⟩
def aJq(ha:PT X a tA)(hb:PW X (.BoolOp .Or (b::rest) pos) tB'):PW X (.BoolOp .Or (a::b::rest) pos) (tOr tA tB'):=by
 intro wh aE s σ H Q I h;refine isTrue_or (iY (ha aE s σ H _ I h) λc s1 ⟨H1,I1,q1⟩=>?_);cases c with
 | true=>exact⟨H1,I1,q1⟩
 | false=>exact hb wh aE s1 σ H1 Q I1 q1
def aHe(ha:PT X a tA):PT X (.UnaryOp .Not a pos) (aHb tA):=by intro aE s σ H Q I h;exact isTrue_not (ha aE s σ H (λc H1=>Q (!c) H1) I h)
def aGc(ta tb:TE):TE:=λσ H Q=>ta σ H λx H1=>∃c,x=.bl c∧if c=NU then tb σ H1 Q else Q (.bl NV) H1
def aJr(ta tb:TE):TE:=λσ H Q=>ta σ H λx H1=>∃c,x=.bl c∧if c=NU then Q (.bl NU) H1 else tb σ H1 Q
def aGd(ta:TE):TE:=λσ H Q=>ta σ H λx H1=>∃c,x=.bl c∧Q (.bl (!c)) H1
def aHf{op}(h:PE X a t):PE X (.BoolOp op [a] pos) t:=λaE s σ H Q I hw=>BoolOp_one (h aE s σ H Q I hw)
def aHg(ha:PE X a ta)(hb:PE X (.BoolOp .And (b::rest) pos) tb):PE X (.BoolOp .And (a::b::rest) pos) (aGc ta tb):=by
 intro aE s σ H Q I h;refine BoolOp_and (iY (ha aE s σ H _ I h) λv s1 ⟨x,H1,I1,r1,q1⟩=>?_);obtain⟨c,rfl,q1⟩:=q1;cases r1;refine BC ?_;cases c with
 | true=>exact hb aE s1 σ H1 Q I1 q1
 | false=>exact⟨.bl NV,H1,I1,U,q1⟩
def aJs(ha:PE X a ta)(hb:PE X (.BoolOp .Or (b::rest) pos) tb):PE X (.BoolOp .Or (a::b::rest) pos) (aJr ta tb):=by
 intro aE s σ H Q I h;refine BoolOp_or (iY (ha aE s σ H _ I h) λv s1 ⟨x,H1,I1,r1,q1⟩=>?_);obtain⟨c,rfl,q1⟩:=q1;cases r1;refine BC ?_;cases c with
 | false=>exact hb aE s1 σ H1 Q I1 q1
 | true=>exact⟨.bl NU,H1,I1,U,q1⟩
def aHh(ha:PE X a ta):PE X (.UnaryOp .Not a pos) (aGd ta):=by intro aE s σ H Q I h;refine UnaryOp_ (iY (ha aE s σ H _ I h) λv s1 ⟨x,H1,I1,r1,q1⟩=>?_);obtain⟨c,rfl,q1⟩:=q1;cases r1;exact not_of (BC ⟨.bl (!c),H1,I1,U,q1⟩)
def tIf(t:TT)(ta tb:TE):TE:=λσ H Q=>t σ H λc H1=>if c=NU then ta σ H1 Q else tb σ H1 Q
def aBC(hc:PT X c tA)(ha:PE X a ta)(hb:PE X b tb):PE X (.IfExp c a b pos) (tIf tA ta tb):=by
 intro aE s σ H Q I h;refine wpAny_IfExp (iY (hc aE s σ H _ I h) λd s1 ⟨H1,I1,q1⟩=>?_);cases d with
 | true=>exact ha aE s1 σ H1 Q I1 q1
 | false=>exact hb aE s1 σ H1 Q I1 q1
end
def oU(K:aG)(H:Hp)(a:AF)(xs:List V):Prop:=
 Rd H a (.lst xs) ∨
  ∃(o:Obj)(af:Array AE)(n:Nat),K.lookup a=NR o∧o.cls=.type "list" ∧ o.dict=sx∧o.data=.seq af n∧af.size≤sizeLine∧Vals xs af.toList
def xW(K:aG)(H:Hp)(a:AF)(xs:List V):Prop:=
 Rd H a (.tup xs) ∨
  ∃(o:Obj)(af:Array AE)(n:Nat),K.lookup a=NR o∧o.cls=.type "tuple" ∧ o.data=.seq af n∧af.size≤sizeLine∧Vals xs af.toList
def aLr:AE→Option V
 | .none=>NR .non
 | .bool b=>NR (.bl b)
 | .int i _=>NR (.int i)
 | .str x _=>NR (.str x)
 | .bytes b _=>NR (.byt b)
 | .float b _=>NR (.flt b)
 | .ref a=>NR (.ref a)
 | .type n=>NR (.ty n)
 | _=>sx
def RelV.abs{x:V}(r:RelV x u):aLr u=NR x:=by
 cases x with
 | non=>cases r;rfl
 | bl _=>cases r;rfl
 | int _=>obtain⟨t,rfl⟩:=r;rfl
 | str _=>obtain⟨t,rfl⟩:=r;rfl
 | byt _=>obtain⟨t,rfl⟩:=r;rfl
 | flt _=>obtain⟨t,rfl⟩:=r;rfl
 | ref _=>cases r;rfl
 | ty _=>cases r;rfl
def RelV.inj{x:V}(r:RelV x u)(q:RelV y u):x=y:=E6 (r.abs.symm.trans q.abs)
def Vals.inj:∀{xs ys:List V} {us:List AE},Vals xs us→Vals ys us→xs=ys
 | _,_,_,.nil,.nil=>rfl
 | _,_,_,.cons r t,.cons r' t'=>by rw[r.inj r',Vals.inj t t']
section
variable{xs ys:List V}
def oU.of(h:H a=NR (.lst xs)):oU K H a xs:=.inl (.inl h)
def xW.of(h:H a=NR (.tup xs)):xW K H a xs:=.inl (.inl h)
def Inv.list(I:Inv X aE σ H s)(h:oU X.K H a xs):∃af:List AE,Vals xs af∧PlainL s.heap a af.toArray∧xs.length≤sizeLine:=by
 rcases h with h | ⟨o,af,n,hk,hc,hd,hs,hz,r⟩
 ·obtain⟨z,af,n,r,e⟩:=h.ok I.hok;exact⟨af,r,⟨_,n,e,U,U,U⟩,z⟩
 ·refine⟨af.toList,r,⟨o,n,I.Kr a o hk,hc,hd,by simpa using hs⟩,?_⟩;have e:=r.length;simp only[L3]at e;omega
def Inv.tuple(I:Inv X aE σ H s)(h:xW X.K H a xs):∃af:List AE,Vals xs af∧IsTup s.heap a af.toArray∧xs.length≤sizeLine:=by
 rcases h with h | ⟨o,af,n,hk,hc,hs,hz,r⟩
 ·obtain⟨z,af,r,p⟩:=h.ok I.hok;exact⟨af,r,p,z⟩
 ·refine⟨af.toList,r,⟨o,I.Kr a o hk,hc,n,by simpa using hs⟩,?_⟩;have e:=r.length;simp only[L3]at e;omega
def Inv.Ho(I:Inv X aE σ H s)(h:oU X.K H a xs)(h':oU X.K H a ys):xs=ys:=by
 obtain⟨af,r,⟨o,n,e,_,_,d⟩,_⟩:=I.list h;obtain⟨ca,r',⟨o',n',e',_,_,d'⟩,_⟩:=I.list h';rw[e]at e';cases e';rw[d]at d';injection d' with d1 _;have:af=ca:=by simpa using congrArg AA d1
 subst this;exact r.inj r'
def Inv.Ww(I:Inv X aE σ H s)(h:xW X.K H a xs)(h':xW X.K H a ys):xs=ys:=by
 obtain⟨af,r,⟨o,e,_,n,d⟩,_⟩:=I.tuple h;obtain⟨ca,r',⟨o',e',_,n',d'⟩,_⟩:=I.tuple h';rw[e]at e';cases e';rw[d]at d';injection d' with d1 _;have:af=ca:=by simpa using congrArg AA d1
 subst this;exact r.inj r'
end
abbrev Cx.wish(X:Cx)(E:AE→AG→Prop):Cx:={X with xe:=E}
abbrev Cx.sy(X:Cx):Cx:=X.wish λ_ _=>False
def Cx.Ok.wish(ok:X.Ok)(E:AE→AG→Prop):(X.wish E).Ok:=
 ⟨ok.mod,ok.kind,ok.glob,ok.blt,ok.above,ok.inj,ok.has,ok.cab,ok.hd,ok.frames,ok.stk,ok.exf,ok.bs,ok.bsz,ok.aBA,ok.aEk,ok.Oj,ok.frf⟩
def Cx.Ok.Am(ok:(X.wish E).Ok):X.Ok:=
 ⟨ok.mod,ok.kind,ok.glob,ok.blt,ok.above,ok.inj,ok.has,ok.cab,ok.hd,ok.frames,ok.stk,ok.exf,ok.bs,ok.bsz,ok.aBA,ok.aEk,ok.Oj,ok.frf⟩
section
def Inv.wish(I:Inv X aE σ H s)(E:AE→AG→Prop):Inv (X.wish E) aE σ H s:=⟨I.ok.wish E,I.os,I.bare,I.base,I.loc,I.cell,I.free,I.zR,I.pin,I.hok,I.len⟩
def Inv.Am(I:Inv (X.wish E) aE σ H s):Inv X aE σ H s:=⟨I.ok.Am,I.os,I.bare,I.base,I.loc,I.cell,I.free,I.zR,I.pin,I.hok,I.len⟩
def SP.Am{D:Ends}{f:Flow}{s':AG}(h:SP (X.wish E) aE D f s'):SP X aE D f s':=by
 cases f with
 | next=>obtain⟨σ',H',I,q⟩:=h;exact⟨σ',H',I.Am,q⟩
 | brk=>obtain⟨σ',H',I,q⟩:=h;exact⟨σ',H',I.Am,q⟩
 | cont=>obtain⟨σ',H',I,q⟩:=h;exact⟨σ',H',I.Am,q⟩
 | ret u=>obtain⟨v,σ',H',I,r,q⟩:=h;exact⟨v,σ',H',I.Am,r,q⟩
def NT.sy{st:List AO}{t:TS}(h:NT X.sy st t):NT X st t:=λaE s σ H D I hw=>
 BA (h aE s σ H D (I.wish _) hw) (λ_ _ q=>q.Am) λ_ _ z=>False.elim z
end
section
variable{st:AO}{rest:List AO}{t u:TS}{pos:Pos}
def aGe:TS:=λD σ H=>D.nx σ H
def aHi(t u:TS):TS:=λD σ H=>t {D with nx:=u D} σ H
def aEo:NT X [] aGe:=λ_ _ σ H _ I h=>EM ⟨σ,H,I,h⟩
def aBD(h1:PS X st t)(h2:NT X rest u):NT X (st::rest) (aHi t u):=by
 intro aE s σ H D I h;refine IU (iY (h1 aE s σ H {D with nx:=u D} I h) λf s1 q=>?_);cases f with
 | next=>obtain⟨σ',H',I',q⟩:=q;exact h2 aE s1 σ' H' D I' q
 | ret v=>exact q
 | brk=>exact q
 | cont=>exact q
def aEp(h1:PS X st t):NT X [st] t:=by
 intro aE s σ H D I h;refine IU (iY (h1 aE s σ H D I h) λf s1 q=>?_);cases f with
 | next=>exact EM q
 | ret v=>exact q
 | brk=>exact q
 | cont=>exact q
def Inv.quiet(I:Inv X aE σ H s):interactive X.env=NV:=by simp[interactive,I.ok.kind]
def oV(te:TE):TS:=λD σ H=>te σ H λ_ H1=>D.nx σ H1
def kY(he:PE X e te)(hs:DO e sx pos.line X.env=pure NV:=by rfl):PS X (.Expr e pos) (oV te):=by intro aE s σ H D I h;exact wpAny_Expr_any (iY (he aE s σ H _ I h) λv s1 ⟨x,H1,I1,r1,q1⟩=>⟨σ,H1,I1,q1⟩) I.quiet hs
def aBE(te:TE):TS:=λD σ H=>te σ H D.rt
def Zy(he:PE X e te):PS X (.Return (NR e) pos) (aBE te):=by intro aE s σ H D I h;exact wpAny_Return_some (iY (he aE s σ H _ I h) λv s1 ⟨x,H1,I1,r1,q1⟩=>⟨x,σ,H1,I1,r1,q1⟩)
def aJt(c:TT)(t u:TS):TS:=λD σ H=>c σ H λb H1=>if b=NU then t D σ H1 else u D σ H1
def aJu{a b:List AO}(hc:PT X c tc)(ha:NT X a t)(hb:NT X b u):PS X (.If c a b pos) (aJt tc t u):=by
 intro aE s σ H D I h;refine wpAny_If (iY (hc aE s σ H _ I h) λd s1 ⟨H1,I1,q1⟩=>?_);cases d with
 | true=>exact ha aE s1 σ H1 D I1 q1
 | false=>exact hb aE s1 σ H1 D I1 q1
def aBF:TS:=λ_ _ _=>False
def aBG:PS X st aBF:=λ_ _ _ _ _ _ h=>h.elim
end
abbrev TG:=V→St→Hp→(St→Hp→Prop)→Prop
abbrev TGs:=List V→St→Hp→(St→Hp→Prop)→Prop
def PG(X:Cx)(target:AK)(t:TG):Prop:=
 ∀(aE:List (AF×Obj))(s:AG)(σ:St)(H:Hp)(v:V)(u:AE)(Q:St→Hp→Prop),Inv X aE σ H s→RelV v u→t v σ H Q →
  AL (AM X.prog X.w) X.A (EW target X.env u) (λ_ s'=>∃σ' H',Inv X aE σ' H' s'∧Q σ' H') X.xe s
def PGs(X:Cx)(ts:List AK)(t:TGs):Prop:=
 ∀(aE:List (AF×Obj))(s:AG)(σ:St)(H:Hp)(vs:List V)(us:List AE)(Q:St→Hp→Prop),Inv X aE σ H s→Vals vs us→t vs σ H Q →
  AL (AM X.prog X.w) X.A (assignInOrder ((EO ts X.env).map (·.2)) us) (λ_ s'=>∃σ' H',Inv X aE σ' H' s'∧Q σ' H') X.xe s
abbrev aHj:=V→V→V→Hp→(Hp→Prop)→Prop
def aJv(X:Cx)(t:aHj):Prop:=
 ∀(aE:List (AF×Obj))(s:AG)(σ:St)(H:Hp)(o i v:V)(ov iv u:AE)(Q:Hp→Prop),Inv X aE σ H s→RelV o ov→RelV i iv→RelV v u→t o i v H Q →
  AL (AM X.prog X.w) X.A (setItem ov iv u) (λ_ s'=>∃H',Inv X aE σ H' s'∧Q H') X.xe s
section
variable{pos:Pos}
def iZ(i:Nat):TG:=λv σ H Q=>Q (σ.set i (NR v)) H
def fJ{x:Str}(hN:X.N.Nodup)(hi:X.N[i]?=NR x)(hx:Loc X.env.scope x)(hf:X.fn x=NU∨X.env.scope.names.lookup x=NR .local:=by first | exact .inl U | exact .inr U | assumption):PG X (.Name x pos) (iZ i):=by intro aE s σ H v u Q I r h;exact IL (NQ I hN hi hx r (λs' I'=>⟨_,H,I',h⟩) hf)
def aHk:TGs:=λvs σ H Q=>vs=[]∧Q σ H
def tu(t:TG)(u:TGs):TGs:=λvs σ H Q=>∃v r,vs=v::r∧t v σ H λσ' H'=>u r σ' H' Q
def Pa:PGs X [] aHk:=by intro aE s σ H vs us Q I r h;obtain⟨e,h⟩:=h;subst e;cases r;exact assignInOrder_nil ⟨σ,H,I,h⟩
def oW{e:AK}{es:List AK}{t:TG}{u:TGs}(h1:PG X e t)(h2:PGs X es u)
 (hs:(EO (e::es) X.env).map (·.2)=EW e X.env::(EO es X.env).map (·.2):=by rfl):PGs X (e::es) (tu t u):=by
 intro aE s σ H vs us Q I r h;obtain⟨v,vr,e1,h⟩:=h;subst e1;cases r with
 | cons r rr=>rw[hs];refine assignInOrder_cons (iY (h1 aE s σ H _ _ _ I r h) λ_ s1 ⟨σ1,H1,I1,q1⟩=>?_);exact h2 aE s1 σ1 H1 _ _ Q I1 rr q1
def Vr(K:aG)(n:Nat)(t:TGs):TG:=λv σ H Q=>∃a xs,v=.ref a∧xW K H a xs∧xs.length=n∧t xs σ H Q
def Zz{es:List AK}{k:Nat}{t:TGs}{n:Nat}(hc:X.calm=NU)(h:PGs X es t)
 (hn:(EO es X.env).length=n:=by rfl) (bt:(EO es X.env).findIdx? (·.1)=sx:=by rfl):PG X (.Tuple es k pos) (Vr X.K n t):=by
 intro aE s σ H v u Q I r hw;obtain⟨a,xs,e1,hq,hl,hw⟩:=hw;subst e1;cases r;obtain⟨af,rv,ht,hz⟩:=I.tuple hq;refine assign_Tuple_tuple (I.ok.hd hc) ht (by simp[hn,←hl,rv.length]) bt λh' hx=>?_;have I1:Inv X aE σ H {s with heap:=h'}:=I.kept (t':=s.toks) λb o e=>hx b o (F3 (AN e)) e;exact h aE _ σ H xs _ Q I1 (by simpa using rv) hw
def aAd(to ti:TE)(t:aHj):TG:=λv σ H Q=>to σ H λo H1=>ti σ H1 λi H2=>t o i v H2 λH3=>Q σ H3
def BJ{o i:AK}{to ti:TE}{t:aHj}(ho:PE X o to)(hi:PE X i ti)(hs:aJv X t)
 (ha:∀v,EW (.Subscript o i pos) X.env v=(do
  let ov ←DI [v] (AU o X.env)
  let iv ←DI [v,ov] (AU i X.env)
  EK pos
  DI [v,ov,iv] (setItem ov iv v)
  release [v,ov,iv] []):=by intro _;rfl):PG X (.Subscript o i pos) (aAd to ti t):=by
 intro aE s σ H v u Q I r h;rw[ha];refine AH (CD (iY (ho aE s σ H _ I h) λov s1 ⟨x,H1,I1,r1,q1⟩=>?_));refine AH (CD (iY (hi aE s1 σ H1 _ I1 q1) λiv s2 ⟨y,H2,I2,r2,q2⟩=>?_));refine AH (HI (AH (CD (iY (hs aE s2 σ H2 x y v ov iv u _ I2 r1 r2 r q2) λ_ s3 ⟨H3,I3,q3⟩=>?_))));exact wpAny_release ⟨σ,H3,I3,q3⟩
def xX(te:TE)(g:TG):TS:=λD σ H=>te σ H λx H1=>g x σ H1 D.nx
def Ks{tg e:AK}{te:TE}{g:TG}(he:PE X e te)(hg:PG X tg g)(hs:swapsWithSole [tg] e pos.line X.env=pure NV:=by rfl)(hw:swappedStores [tg] e X.env=pure sx:=by rfl)
 (h1:(EO [tg] X.env).map (·.2)=[EW tg X.env]:=by rfl):PS X (.Assign [tg] e pos) (xX te g):=by
 intro aE s σ H D I h;refine wpAny_Assign_stores (iY (he aE s σ H _ I h) λv s1 ⟨x,H1,I1,r1,q1⟩=>?_) hs hw;rw[h1];exact iY (hg aE s1 σ H1 x v _ I1 r1 q1) λ_ s2 q=>q
def bL{x:Str}(hN:X.N.Nodup)(hi:X.N[i]?=NR x)(hx:Loc X.env.scope x)(he:PE X e te)(hs:DO e (NR (.Name x bP)) pos.line X.env=pure NV:=by rfl)(hf:X.fn x=NU∨X.env.scope.names.lookup x=NR .local:=by first | exact .inl U | exact .inr U | assumption):
 PS X (.Assign [.Name x bP] e pos) (xX te (iZ i)):=by
 intro aE s σ H D I h;refine wpAny_Assign_Name (iY (he aE s σ H _ I h) λv s1 ⟨y,H1,I1,r1,q1⟩=>?_) hs;exact NQ I1 hN hi hx r1 (λs2 I2=>⟨_,H1,I2,q1⟩) hf
end
section
variable{pos:Pos}
def az(c:TT)(tb:TS):TS:=λD σ H=>∃W:Nat→St→Hp→Prop,(∃m,W m σ H)∧∀m σ H,W m σ H →
 c σ H λb H1=>if b=NU then ∃N:St→Hp→Prop,(∀σ' H',N σ' H'→∃m',m'<m∧W m' σ' H')∧tb {D with nx:=N,ct:=N,bk:=D.nx} σ H1 else D.nx σ H1
def aBH{body:List AO}{tb:TS}(hp:EC (AM X.prog X.w) X.A X.env X.xe)(hc:PT X c tc)(hb:NT X body tb):PS X (.While c body [] pos) (az tc tb):=by
 intro aE s σ H D I h;obtain⟨W,⟨m0,w0⟩,turn⟩:=h;refine wpAny_While (codeAny_whileLoop (λn s'=>∃σ' H',Inv X aE σ' H' s'∧W n σ' H') ?_ m0 ⟨σ,H,I,w0⟩);rintro n s1 ⟨σ1,H1,I1,w1⟩;refine CC hp (iY (hc aE s1 σ1 H1 _ I1 (turn n σ1 H1 w1)) λb s2 ⟨H2,I2,q2⟩=>?_);cases b with
 | true=>
  obtain⟨N,hN,q2⟩:=q2;rw[sk rfl];refine CC hp (iY (hb aE s2 σ1 H2 _ I2 q2) λf s3 q3=>?_);cases f with
  | next=>obtain⟨σ3,H3,I3,n3⟩:=q3;obtain⟨m',hm,w3⟩:=hN σ3 H3 n3;exact⟨m',hm,σ3,H3,I3,w3⟩
  | cont=>obtain⟨σ3,H3,I3,n3⟩:=q3;obtain⟨m',hm,w3⟩:=hN σ3 H3 n3;exact⟨m',hm,σ3,H3,I3,w3⟩
  | brk=>exact q3
  | ret v=>exact q3
 | false=>rw[sv E8];exact EM ⟨σ1,H2,I2,q2⟩
end
structure It where
 go:Nat→Hp→Prop
 yld:Nat→Hp→V→Hp→Prop
 stop:Nat→Hp→Prop
def Hq(X:Cx)(aE:List (AF×Obj))(H:Hp)(b:AF):Prop:=
 H b=sx∧b≠X.env.locals∧b∉X.fs∧(b∈X.ex∨X.s₀.heap.objs.size≤b)∧(∀x c,X.env.cells.lookup x=NR c→c≠b)∧∀p∈X.pn++aE,p.1≠b
def Inv.aEq{H':Hp}{b:AF}(I:Inv X aE σ H s)(hb:s.heap.objs.size≤b)(hn:H' b=sx):Hq X aE H' b:=by
 refine⟨hn,Q7 (E7 I.lt hb),I.aLo hb,.inr (G1 I.sz hb),λx c e z=>?_,λp hp z=>?_⟩
 ·obtain⟨v,q⟩:=I.cell x c e;exact absurd (E7 q.lt (by rw[z];exact hb)) (L9 _)
 ·exact absurd (E7 (AN (I.pin p hp).1) (by rw[z];exact hb)) (L9 _)
structure Turn(P:AQ)(w:AS)(K:aG)(tg:AK)(J:It)(fp:List AF)(it:AF)(tn:Nat→Heap→Prop):Prop where
 mem:it∈fp
 obj:∀i h,tn i h→∀b∈fp,∃o,h.get? b=NR o∧∀v,o.data≠.cell v
 keep:∀i h h',tn i h→(∀b∈fp,∀o,h.get? b=NR o→h'.get? b=NR o)→tn i h'
 item:∀(X:Cx),X.prog=P→X.w=w→X.K=K→X.calm=NU→∀(i:Nat)(aE:List (AF×Obj))(s:AG)(σ:St)(H:Hp)(E:AE→AG→Prop),Inv X aE σ H s→(∀b∈fp,Hq X aE H b)→tn i s.heap→J.go i H →
  AL (AM P w) X.A (DU (.ref it)) (λr s1=>∃u,r=NR u ∧
   AL (AM P w) X.A (ER tg (.ref it) u) (λ_ s2=>∃x H',Inv X aE σ H' s2∧RelV x u∧J.yld i H x H'∧tn (i+1) s2.heap∧∀b∈fp,H' b=sx) E s1) E s
 done:∀(X:Cx),X.prog=P→X.w=w→X.K=K→X.calm=NU→∀(i:Nat)(aE:List (AF×Obj))(s:AG)(σ:St)(H:Hp)(E:AE→AG→Prop),Inv X aE σ H s→(∀b∈fp,Hq X aE H b)→tn i s.heap→J.stop i H →
  AL (AM P w) X.A (DU (.ref it)) (λr s1=>r=sx∧Inv X aE σ H s1) E s
 self:∀(A:AV)(i:Nat)(s:AG)(Q:AE→AG→Prop)(E:AE→AG→Prop),tn i s.heap→Q (.ref it) s→AL (AM P w) A (He (.ref it)) Q E s
abbrev TI:=St→Hp→(It→Hp→Prop)→Prop
variable{wi:TI}
def PIE(X:Cx)(aE:List (AF×Obj))(σ:St)(tg:AK)(R:It→Hp→Prop)(itv:AE)(s2:AG):Prop:=
 ∃(it:AF)(fp:List AF)(tn:Nat→Heap→Prop)(J:It)(H':Hp),itv=.ref it∧Inv X aE σ H' s2∧Turn X.prog X.w X.K tg J fp it tn∧tn 0 s2.heap∧(∀b∈fp,Hq X aE H' b)∧R J H'
def PI(X:Cx)(tg iter:AK)(wi:TI):Prop:=
 ∀(aE:List (AF×Obj))(s:AG)(σ:St)(H:Hp)(R:It→Hp→Prop),Inv X aE σ H s→wi σ H R →
  AL (AM X.prog X.w) X.A (AU iter X.env) (λv s1=>AL (AM X.prog X.w) X.A (He v) (PIE X aE σ tg R) X.xe s1) X.xe s
def aBI{M:Iq}{A:AV}{E:AE→AG→Prop}{s:AG}{tg:AK}{it:AF}{u:AE}{o:Obj}{n:String}{vs:Array AE}{Q:Unit→AG→Prop}(ho:s.heap.get? it=NR o)(hc:o.cls=.type n)(hd:o.data=.fields vs)
 (hn:["enumerate","zip","dict_itemiterator","dict_reverseitemiterator","odict_iterator","itertools.zip_longest","itertools.pairwise"].contains n=NV) (hQ:Q () s):AL M A (ER tg (.ref it) u) Q E s:=by
 unfold ER;cases tg<;>first
  | exact wpAny_pure hQ
  | (cases u<;>first
   | exact wpAny_pure hQ
   | (refine AH (JA ho ?_)
      rw[hc,hd];show AL M A (if(["enumerate","zip","dict_itemiterator","dict_reverseitemiterator","odict_iterator","itertools.zip_longest","itertools.pairwise"].contains n&&vs[0]?==NR (ES _))=NU then _ else _) Q E s;rw[sv (by intro h;rw[hn,x9]at h;cases h)];exact wpAny_pure hQ))
def Itl(K:aG)(a:AF):It:=
 ⟨λi H=>∃xs x,oU K H a xs∧xs[i]?=NR x,λi H x H'=>H'=H∧∀xs,oU K H a xs→xs[i]?=NR x,λi H=>∃xs,oU K H a xs∧xs.length≤i⟩
def Itt(K:aG)(a:AF):It:=
 ⟨λi H=>∃xs x,xW K H a xs∧xs[i]?=NR x,λi H x H'=>H'=H∧∀xs,xW K H a xs→xs[i]?=NR x,λi H=>∃xs,xW K H a xs∧xs.length≤i⟩
def Itr(lo:Int)(n:Nat):It:=⟨λi _=>i<n,λi H x H'=>H'=H∧x=.int (lo+i),λi _=>n≤i⟩
def aAe{P:AQ}(a it:AF):Turn P w K tg (Itl K a) [it] it (λi h=>h.IsListIter it a i) where
 mem:=by simp
 obj:=λi h st b hb=>by
  have e:b=it:=by simpa using hb
  subst e;obtain⟨o,e,c,d⟩:=st;exact⟨o,e,λv z=>by rw[d]at z;cases z⟩
 keep:=λi h h' st k=>st.at λo e=>k it (by simp) o e
 item:=by intro X hP hw hK hc i aE s σ H E I hf st hg;subst hP hw hK;obtain⟨xs,x,hq,hx⟩:=hg;obtain⟨af,rv,p,hz⟩:=I.list hq;obtain⟨u,hu,ru⟩:=rv.get hx;obtain⟨f0,f1,f2,f3,f4,f5⟩:=hf it (by simp);refine wpAny_pyNext_list_item st p.isList (x:=u) (by simpa using hu) λh' st' sb=>?_;have I1:Inv X aE σ H {s with heap:=h'}:=I.turned (t':=s.toks) (λb o hb e=>(sb.2 b hb).trans e) f0 f1 f3 f4 f5;obtain⟨o,e,c,d⟩:=id st';exact⟨u,U,aBI (s:={s with heap:=h'}) e c d (by decide) ⟨x,H,I1,ru,⟨U,λys hy=>by rw[I.Ho hy hq];exact hx⟩,st',λb hb=>(hf b hb).1⟩⟩
 done:=by intro X hP hw hK hc i aE s σ H E I hf st hg;subst hP hw hK;obtain⟨xs,hq,hx⟩:=hg;obtain⟨af,rv,p,hz⟩:=I.list hq;obtain⟨f0,f1,f2,f3,f4,f5⟩:=hf it (by simp);have hl:=rv.length;exact wpAny_pyNext_list_end (I.ok.hd hc) st p.isList (by simp;omega) λh' eb=>⟨U,I.turned (t':=s.toks) (λb o hb e=>eb b o hb e) f0 f1 f3 f4 f5⟩
 self:=λ_ _ _ _ _ st h=>wpAny_pyIter_listiter st h
def bc{P:AQ}(a it:AF):Turn P w K tg (Itt K a) [it] it (λi h=>h.IsTupleIter it a i) where
 mem:=by simp
 obj:=λi h st b hb=>by
  have e:b=it:=by simpa using hb
  subst e;obtain⟨o,e,c,d⟩:=st;exact⟨o,e,λv z=>by rw[d]at z;cases z⟩
 keep:=λi h h' st k=>st.at λo e=>k it (by simp) o e
 item:=by intro X hP hw hK hc i aE s σ H E I hf st hg;subst hP hw hK;obtain⟨xs,x,hq,hx⟩:=hg;obtain⟨af,rv,p,hz⟩:=I.tuple hq;obtain⟨u,hu,ru⟩:=rv.get hx;obtain⟨f0,f1,f2,f3,f4,f5⟩:=hf it (by simp);refine wpAny_pyNext_tuple_item st (show s.heap.IsTuple a af.toArray from p) (x:=u) (by simpa using hu) λh' st' sb=>?_;have I1:Inv X aE σ H {s with heap:=h'}:=I.turned (t':=s.toks) (λb o hb e=>(sb.2 b hb).trans e) f0 f1 f3 f4 f5;obtain⟨o,e,c,d⟩:=id st';exact⟨u,U,aBI (s:={s with heap:=h'}) e c d (by decide) ⟨x,H,I1,ru,⟨U,λys hy=>by rw[I.Ww hy hq];exact hx⟩,st',λb hb=>(hf b hb).1⟩⟩
 done:=by intro X hP hw hK hc i aE s σ H E I hf st hg;subst hP hw hK;obtain⟨xs,hq,hx⟩:=hg;obtain⟨af,rv,p,hz⟩:=I.tuple hq;obtain⟨f0,f1,f2,f3,f4,f5⟩:=hf it (by simp);have hl:=rv.length;exact wpAny_pyNext_tuple_end (I.ok.hd hc) st (show s.heap.IsTuple a af.toArray from p) (by simp;omega) λh' eb=>⟨U,I.turned (t':=s.toks) (λb o hb e=>eb b o hb e) f0 f1 f3 f4 f5⟩
 self:=λ_ _ _ _ _ st h=>wpAny_pyIter_tupleiter st h
def bf{P:AQ}(it:AF)(lo:Int)(n:Nat):Turn P w K tg (Itr lo n) [it] it (λi h=>IsRangeIter h it (lo+(i:Nat)*1) ((n:Int)-(i:Nat)) 1) where
 mem:=by simp
 obj:=λi h st b hb=>by
  have e:b=it:=by simpa using hb
  subst e;exact⟨_,st,λv z=>by
   have z':Data.fields _=Data.cell v:=z;cases z'⟩
 keep:=λi h h' st k=>k it (by simp) _ st
 item:=by intro X hP hw hK hc i aE s σ H E I hf st hg;subst hP hw hK;obtain⟨f0,f1,f2,f3,f4,f5⟩:=hf it (by simp);have W:=Walks.range (prog:=X.prog) (w:=X.w) (I.ok.hd hc) it lo 1 n;refine W.item i s _ _ hg st λv h' tk hv st' kk=>?_;obtain⟨t,rfl⟩:=hv;have I1:Inv X aE σ H {s with heap:=h',toks:=tk}:=I.turned (λb o hb e=>kk b o (by simpa using hb) e) f0 f1 f3 f4 f5;refine⟨_,U,aBI (s:={s with heap:=h',toks:=tk}) (n:="range_iterator") st' U U (by decide) ⟨.int (lo+i),H,I1,⟨t,?_⟩,⟨U,U⟩,st',λb hb=>(hf b hb).1⟩⟩;rw[Int.mul_one]
 done:=by intro X hP hw hK hc i aE s σ H E I hf st hg;subst hP hw hK;obtain⟨f0,f1,f2,f3,f4,f5⟩:=hf it (by simp);exact wpAny_pyNext_range_end (I.ok.hd hc) st (by have:n≤i:=hg;omega) λh' eb=>⟨U,I.turned (t':=s.toks) (λb o hb e=>eb b o hb e) f0 f1 f3 f4 f5⟩
 self:=λ_ _ _ _ _ st h=>wpAny_pyIter_rangeiter st h
section
def aGg(K:aG)(tl:TE):TI:=λσ H R=>tl σ H λx H1=>∃a,x=.ref a∧(∃xs,oU K H1 a xs)∧R (Itl K a) H1
def aJy(K:aG)(tl:TE):TI:=λσ H R=>tl σ H λx H1=>∃a,x=.ref a∧(∃xs,xW K H1 a xs)∧R (Itt K a) H1
def uc{l:AK}(hl:PE X l tl):PI X tg l (aGg X.K tl):=by
 intro aE s σ H R I h;refine iY (hl aE s σ H _ I h) λv s1 ⟨x,H1,I1,r1,q1⟩=>?_;obtain⟨a,e,⟨xs,hq⟩,q⟩:=q1;subst e;cases r1;obtain⟨af,rv,p,hz⟩:=I1.list hq;refine DF p.isList ?_;refine⟨s1.heap.objs.size,[s1.heap.objs.size],_,_,H1,U,I1.kept (t':=s1.toks) λb o e=>AI _ e,aAe a _,⟨_,AR _ U,U,U⟩,λb hb=>?_,q⟩;have e:b=s1.heap.objs.size:=by simpa using hb
 subst e;exact I1.aEq (C9 _) (I1.hok.fresh (C9 _))
def aBJ{l:AK}(hl:PE X l tl):PI X tg l (aJy X.K tl):=by
 intro aE s σ H R I h;refine iY (hl aE s σ H _ I h) λv s1 ⟨x,H1,I1,r1,q1⟩=>?_;obtain⟨a,e,⟨xs,hq⟩,q⟩:=q1;subst e;cases r1;obtain⟨af,rv,p,hz⟩:=I1.tuple hq;refine wpAny_pyIter_tuple (show s1.heap.IsTuple a af.toArray from p) ?_;refine⟨s1.heap.objs.size,[s1.heap.objs.size],_,_,H1,U,I1.kept (t':=s1.toks) λb o e=>AI _ e,bc a _,⟨_,AR _ U,U,U⟩,λb hb=>?_,q⟩;have e:b=s1.heap.objs.size:=by simpa using hb
 subst e;exact I1.aEq (C9 _) (I1.hok.fresh (C9 _))
def NZ{aE:List (AF×Obj)}{σ:St}{H:Hp}{s:AG}{R:It→Hp→Prop}{E:AE→AG→Prop}{lo hi:Int}{t u v:Tok}{tk:Nat}(I:Inv X aE σ H s)(h1:-(2 ^ 62)≤lo)(h2:lo<2 ^ 62)(h3:-(2 ^ 62)≤hi)(h4:hi<2 ^ 62)
 (q:R (Itr lo (hi-lo).toNat) H):AL (AM X.prog X.w) X.A (He (.ref s.heap.objs.size)) (PIE X aE σ tg R) E {s with heap:=s.heap.push {cls:=.type "range",data:=.fields #[.int lo t,.int hi u,.int 1 v]},toks:=tk}:=by
 refine wpAny_pyIter_range (Lu ..) (small_one h1 h2 h3 h4) ?_;have I1:Inv X aE σ H {s with heap:=s.heap.push {cls:=.type "range",data:=.fields #[.int lo t,.int hi u,.int 1 v]},toks:=tk}:=I.kept λb o e=>AI _ e;refine⟨(s.heap.push {cls:=.type "range",data:=.fields #[.int lo t,.int hi u,.int 1 v]}).objs.size,[(s.heap.push {cls:=.type "range",data:=.fields #[.int lo t,.int hi u,.int 1 v]}).objs.size],_,_,H,U,
  I1.kept (t':=tk) λb o e=>AI _ e,bf _ lo (hi-lo).toNat,?_,λb hb=>?_,q⟩
 ·have e1:lo+((0:Nat):Int)*1=lo:=by simp
  have e2:(((hi-lo).toNat:Nat):Int)-((0:Nat):Int)=LZ lo hi 1:=by rw[Kn];split<;>omega
  show IsRangeIter _ _ (lo+((0:Nat):Int)*1) ((((hi-lo).toNat:Nat):Int)-((0:Nat):Int)) 1;rw[e1,e2];exact AR _ U
 ·have e:b=(s.heap.push {cls:=.type "range",data:=.fields #[.int lo t,.int hi u,.int 1 v]}).objs.size:=by simpa using hb
  subst e;exact I1.aEq (C9 _) (I1.hok.fresh (C9 _))
def aBK(ta:TA):TI:=λσ H R=>ta σ H λvs H1=>∃j:Int,vs=[.int j]∧-(2 ^ 62)≤j∧j<2 ^ 62∧R (Itr 0 j.toNat) H1
def aBL(ta:TA):TI:=λσ H R=>ta σ H λvs H1=>∃i j:Int,vs=[.int i,.int j]∧(-(2 ^ 62)≤i∧i<2 ^ 62∧-(2 ^ 62)≤j∧j<2 ^ 62)∧R (Itr i (j-i).toNat) H1
def Wx{a:AK}{ta:TA}{pos:Pos}(hg:Gl X "range")(hm:X.mg "range"=sx)(ha:PA X [a] ta)(hs:AJ [a] X.env=[(NV,AU a X.env)]:=by rfl):PI X tg (.Call (.Name "range" p) [a] [] pos) (aBK ta):=by
 intro aE s σ H R I h;refine Call_ (vZ I hg hm boot_range (L4 (iY (ha pos aE s σ H _ I h) λus s1 ⟨vs,H1,I1,r1,q1⟩=>?_) hs U));obtain⟨j,e,q1,q2,q⟩:=q1;subst e;cases r1 with
 | cons r rr=>cases rr;obtain⟨t,rfl⟩:=r;exact call_range_1 (NZ I1 (by omega) (by omega) q1 q2 (by simpa using q))
def aAf{a:AK}{ta:TA}{p pos:Pos}(hg:Gl X "range")(hm:X.mg "range"=sx)(ha:PA X [a,b] ta)(hs:AJ [a,b] X.env=[(NV,AU a X.env),(NV,AU b X.env)]:=by rfl)(qk:AJ [b] X.env=[(NV,AU b X.env)]:=by rfl):
 PI X tg (.Call (.Name "range" p) [a,b] [] pos) (aBL ta):=by
 intro aE s σ H R I h;refine Call_ (vZ I hg hm boot_range (L4 (iY (ha pos aE s σ H _ I h) λus s1 ⟨vs,H1,I1,r1,q1⟩=>?_) (by rw[hs,qk]) (by rw[qk];rfl)));obtain⟨i,j,e,⟨q1,q2,q3,q4⟩,q⟩:=q1;subst e;cases r1 with
 | cons r rr=>
  cases rr with
  | cons r' rr=>cases rr;obtain⟨t,rfl⟩:=r;obtain⟨t',rfl⟩:=r';exact LL (NZ I1 q1 q2 q3 q4 q)
def Qo(wi:TI)(g:TG)(tb:TS):TS:=λD σ H=>wi σ H λJ H1=>∃W:Nat→Nat→St→Hp→Prop,(∃m,W 0 m σ H1)∧∀i m σ H,W i m σ H →
 (J.stop i H∧D.nx σ H)∨(J.go i H∧∃N:St→Hp→Prop,(∀σ' H',N σ' H'→∃m',m'<m∧W (i+1) m' σ' H')∧∀x H',J.yld i H x H'→g x σ H' λσ2 H2=>tb {D with nx:=N,ct:=N,bk:=D.nx} σ2 H2)
def Qp(fp:List AF)(h:Heap):List (AF×Obj):=fp.filterMap λb=>(h.get? b).map λo=>(b,o)
def xY{fp:List AF}{b:AF}{o:Obj}(hb:b∈fp)(e:h.get? b=NR o):(b,o)∈Qp fp h:=l6.mpr ⟨b,hb,by rw[e];rfl⟩
def aAg{fp:List AF}{p:AF×Obj}(hp:p∈Qp fp h):p.1∈fp∧h.get? p.1=NR p.2:=by
 obtain⟨b,hb,e⟩:=l6.mp hp;cases q:h.get? b with
 | none=>rw[q]at e;cases e
 | some o=>rw[q]at e;have e':(b,o)=p:=E6 e;subst e';exact⟨hb,q⟩
def Inv.pinned{fp:List AF}(I:Inv X aE σ H s)(hf:∀b∈fp,Hq X aE H b)(ho:∀b∈fp,∃o,s.heap.get? b=NR o∧∀v,o.data≠.cell v):Inv X (aE++Qp fp s.heap) σ H s:=
 I.su λp hp=>(F8.mp hp).elim (λz=>I.pin p (E5 _ z)) λz=>by obtain⟨hb,e⟩:=aAg z;obtain⟨f0,f1,f2,_⟩:=hf p.1 hb;obtain⟨o,e',d⟩:=ho p.1 hb;rw[e]at e';cases e';exact⟨e,f0,f1,f2,d⟩
def Inv.Hr{pl:List (AF×Obj)}(I:Inv X (aE++pl) σ H s):Inv X aE σ H s:=I.su λp hp=>I.pin p (E5 _ (F5 _ hp))
def Qq{iter:AK}{body:List AO}{wi:TI}{g:TG}{tb:TS}{pos:Pos}(hp:EC (AM X.prog X.w) X.A X.env X.xe)(hc:X.calm=NU)(hi:PI X tg iter wi)(hg:PG X tg g)(hb:NT X body tb)
 (hs:∀x,BD iter X.env x=pure x:=by intro _;rfl):PS X (.For tg iter body [] pos) (Qo wi g tb):=by
 intro aE s σ H D I h;refine wpAny_For (iY (hi aE s σ H _ I h) λv s1 h1=>iY h1 λitv s2 h2=>?_) hs;obtain⟨it,fp,tn,J,H2,e,I2,T,qo,f2,W,⟨m0,w0⟩,turn⟩:=h2;subst e;have gy:∀{H':Hp},(∀b∈fp,H' b=sx)→∀b∈fp,Hq X aE H' b:=λhn b hb=>⟨hn b hb,(f2 b hb).2⟩
 refine codeAny_forLoop_any (λn s'=>∃i σ' H',Inv X aE σ' H' s'∧tn i s'.heap∧(∀b∈fp,H' b=sx)∧W i n σ' H') ?_ m0 ⟨0,σ,H2,I2,qo,λb hb=>(f2 b hb).1,w0⟩;rintro n s3 ⟨i,σ3,H3,I3,st3,fr3,w3⟩;rcases turn i n σ3 H3 w3 with ⟨stop,qn⟩ | ⟨go,N,hN,step⟩
 ·refine CC hp (iY (T.done X U U U hc i aE s3 σ3 H3 X.xe I3 (gy fr3) st3 stop) λr s4 ⟨hr,I4⟩=>?_);subst hr;exact EM ⟨σ3,H3,I4,qn⟩
 ·refine CC hp (iY (T.item X U U U hc i aE s3 σ3 H3 X.xe I3 (gy fr3) st3 go) λr s4 ⟨u,hr,h4⟩=>?_);subst hr;refine CC hp (iY h4 λ_ s5 ⟨x,H5,I5,r5,y5,st5,fr5⟩=>?_);have I5':=I5.pinned (gy fr5) (T.obj _ _ st5);refine CC hp (iY (hg _ s5 σ3 H5 x u _ I5' r5 (step x H5 y5)) λ_ s6 ⟨σ6,H6,I6,q6⟩=>?_);refine CC hp (iY (hb _ s6 σ6 H6 _ I6 q6) λf s7 q7=>?_);have again:∀{σ7:St} {H7:Hp},Inv X (aE++Qp fp s5.heap) σ7 H7 s7→N σ7 H7→∃m,m<n∧∃i σ' H',Inv X aE σ' H' s7∧tn i s7.heap∧(∀b∈fp,H' b=sx)∧W i m σ' H':=λ{σ7 H7} I7 n7=>by obtain⟨m',hm,w7⟩:=hN σ7 H7 n7;refine⟨m',hm,i+1,σ7,H7,I7.Hr,T.keep _ _ _ st5 λb hb o e=>(I7.pin (b,o) (E5 _ (E5 _ (xY hb e)))).1,λb hb=>?_,w7⟩;obtain⟨o,e,d⟩:=T.obj _ _ st5 b hb;exact(I7.pin (b,o) (E5 _ (E5 _ (xY hb e)))).2.1
  cases f with
  | next=>obtain⟨σ7,H7,I7,n7⟩:=q7;exact again I7 n7
  | cont=>obtain⟨σ7,H7,I7,n7⟩:=q7;exact again I7 n7
  | brk=>obtain⟨σ7,H7,I7,q7⟩:=q7;exact⟨σ7,H7,I7.Hr,q7⟩
  | ret v=>obtain⟨x7,σ7,H7,I7,r7,q7⟩:=q7;exact⟨x7,σ7,H7,I7.Hr,r7,q7⟩
end
abbrev R2:=V→V→Hp→VK→Prop
variable{r':R2}
def vC(X:Cx)(f:AE→AE→Sem AE)(r:R2):Prop:=
 ∀(aE:List (AF×Obj))(s:AG)(σ:St)(H:Hp)(x y:V)(v u:AE)(Q:VK),Inv X aE σ H s→RelV x v→RelV y u→r x y H Q →
  AL (AM X.prog X.w) X.A (f v u) (EP X aE σ Q) X.xe s
def UnR(X:Cx)(f:AE→Sem AE)(r:V→Hp→VK→Prop):Prop:=
 ∀(aE:List (AF×Obj))(s:AG)(σ:St)(H:Hp)(x:V)(v:AE)(Q:VK),Inv X aE σ H s→RelV x v→r x H Q →
  AL (AM X.prog X.w) X.A (f v) (EP X aE σ Q) X.xe s
def mQ(X:Cx)(f:AE)(r:List V→Hp→VK→Prop):Prop:=
 ∀(aE:List (AF×Obj))(s:AG)(σ:St)(H:Hp)(xs:List V)(us:List AE)(Q:VK),Inv X aE σ H s→Vals xs us→r xs H Q →
  AL (AM X.prog X.w) X.A (call f us) (EP X aE σ Q) X.xe s
def OD(r:R2)(ta tb:TE):TE:=λσ H Q=>ta σ H λx H1=>tb σ H1 λy H2=>r x y H2 Q
def tUn(r:V→Hp→VK→Prop)(ta:TE):TE:=λσ H Q=>ta σ H λx H1=>r x H1 Q
def rI(C:Int→Int→Prop)(g:Int→Int→V):R2:=λx y H Q=>∃i j,x=.int i∧y=.int j∧C i j∧Q (g i j) H
def rI0(g:Int→Int→V):R2:=λx y H Q=>∃i j,x=.int i∧y=.int j∧Q (g i j) H
def rU(g:Int→V):V→Hp→VK→Prop:=λx H Q=>∃i,x=.int i∧Q (g i) H
section
variable{a:AK}{tc:TE}{pos:Pos}
def aHl(ha:PE X a ta)(hb:PE X b tb){aE:List (AF×Obj)}{s:AG}{σ:St}{H:Hp}{R:V→V→Hp→Prop}(I:Inv X aE σ H s)
 (h:ta σ H λx H1=>tb σ H1 λy H2=>R x y H2) {Q:AE→AG→Prop} {f:AE→AE→Sem AE}
 (hf:∀v u s2 x y H2,Inv X aE σ H2 s2→RelV x v→RelV y u→R x y H2→AL (AM X.prog X.w) X.A (f v u) Q X.xe s2) :
 AL (AM X.prog X.w) X.A (AU a X.env) (λv s₁=>AL (AM X.prog X.w) X.A (AU b X.env) (λu s₂=>AL (AM X.prog X.w) X.A (f v u) Q X.xe s₂) X.xe s₁) X.xe s:=by
 refine iY (ha aE s σ H _ I h) λv s1 ⟨x,H1,I1,r1,q1⟩=>?_;refine iY (hb aE s1 σ H1 _ I1 q1) λu s2 ⟨y,H2,I2,r2,q2⟩=>?_;exact hf v u s2 x y H2 I2 r1 r2 q2
def aJA{op:Operator}{r:R2}(ho:vC X (ED op) r)(ha:PE X a ta)(hb:PE X b tb):PE X (.BinOp a op b pos) (OD r ta tb):=by intro aE s σ H Q I h;exact wpAny_BinOp (aHl ha hb I h λv u s2 x y H2 I2 rx ry q=>ho aE s2 σ H2 x y v u Q I2 rx ry q)
def aJB{op:UnaryOp}{r:V→Hp→VK→Prop}(ho:UnR X (unaryOp op) r)(ha:PE X a ta):PE X (.UnaryOp op a pos) (tUn r ta):=by intro aE s σ H Q I h;exact UnaryOp_ (iY (ha aE s σ H _ I h) λv s1 ⟨x,H1,I1,r1,q1⟩=>ho aE s1 σ H1 x v Q I1 r1 q1)
def opI{f:AE→AE→Sem AE}{C:Int→Int→Prop}{g:Int→Int→Int}
 (rule:∀(i j:Int)(t u:Tok)(s:AG)(Q:AE→AG→Prop)(E:AE→AG→Prop),C i j→Q (.int (g i j) s.toks) {s with toks:=s.toks+1}→AL (AM X.prog X.w) X.A (f (.int i t) (.int j u)) Q E s) :
 vC X f (rI C λi j=>.int (g i j)):=by
 intro aE s σ H x y v u Q I rx ry h;obtain⟨i,j,rfl,rfl,hc,q⟩:=h;obtain⟨t,rfl⟩:=rx;obtain⟨t',rfl⟩:=ry;exact rule i j t t' s _ _ hc ⟨.int (g i j),H,I.tok _,⟨_,U⟩,q⟩
def aJC{f:AE→AE→Sem AE}{g:Int→Int→Int}
 (rule:∀(i j:Int)(t u:Tok)(s:AG)(Q:AE→AG→Prop)(E:AE→AG→Prop),Q (.int (g i j) s.toks) {s with toks:=s.toks+1}→AL (AM X.prog X.w) X.A (f (.int i t) (.int j u)) Q E s) :
 vC X f (rI0 λi j=>.int (g i j)):=by
 intro aE s σ H x y v u Q I rx ry h;obtain⟨i,j,rfl,rfl,q⟩:=h;obtain⟨t,rfl⟩:=rx;obtain⟨t',rfl⟩:=ry;exact rule i j t t' s _ _ ⟨.int (g i j),H,I.tok _,⟨_,U⟩,q⟩
def aEr{f:AE→AE→Sem AE}{g:Int→Int→Bool}
 (rule:∀(i j:Int)(t u:Tok)(s:AG)(Q:AE→AG→Prop)(E:AE→AG→Prop),Q (.bool (g i j)) s→AL (AM X.prog X.w) X.A (f (.int i t) (.int j u)) Q E s) :
 vC X f (rI0 λi j=>.bl (g i j)):=by
 intro aE s σ H x y v u Q I rx ry h;obtain⟨i,j,rfl,rfl,q⟩:=h;obtain⟨t,rfl⟩:=rx;obtain⟨t',rfl⟩:=ry;exact rule i j t t' s _ _ ⟨.bl (g i j),H,I,U,q⟩
def aAi(i j:Int):Prop:=0<j∧j<1073741824
def aAj(i j:Int):Prop:=0≤j∧j≤1000000∧i.natAbs<2 ^ 64
def Vs(i j:Int):Prop:=(-(2 ^ 64)<i∧i<2 ^ 64)∨(-(2 ^ 64)<j∧j<2 ^ 64)
def Vs.ok{i j:Int}(h:Vs i j):IntMulOk i j:=by
 rcases h with ⟨h1,h2⟩ | ⟨h1,h2⟩
 ·exact .of_left (Kt h1 h2)
 ·exact .of_right (Kt h1 h2)
def aHm:vC X (ED .Add) (rI0 λi j=>.int (i+j)):=aJC λ_ _ _ _ _ _ _ q=>add_int q
def aHn:vC X (ED .Sub) (rI0 λi j=>.int (i-j)):=aJC λ_ _ _ _ _ _ _ q=>sub_int q
def aHo:vC X (ED .Mult) (rI Vs λi j=>.int (i*j)):=opI λ_ _ _ _ _ _ _ hc q=>mul_int q hc.ok
def aEs:vC X (ED .FloorDiv) (rI aAi λi j=>.int (i/j)):=opI λi j _ _ _ _ _ hc q=>by have h1:(0:Int)<j:=hc.1;have h2:j<1073741824:=hc.2;exact floordiv_int (by omega) (by rw[Int.fdiv_eq_ediv_of_nonneg i (by omega)];exact q) (.inl (PyProof.noPylong_small (by omega)))
def aHp:vC X (ED .Mod) (rI (λ_ j=>0<j) λi j=>.int (i%j)):=opI λi j _ _ _ _ _ hc q=>by have h1:(0:Int)<j:=hc;exact mod_int' (by omega) (by rw[Int.fmod_eq_emod_of_nonneg i (by omega)];exact q)
def aHq:vC X (ED .Pow) (rI aAj λi j=>.int (i ^ j.toNat)):=opI λ_ _ _ _ _ _ _ hc q=>pow_int_small hc.1 hc.2.1 hc.2.2 q
def unI{f:AE→Sem AE}{g:Int→Int}
 (rule:∀(i:Int)(t:Tok)(s:AG)(Q:AE→AG→Prop)(E:AE→AG→Prop),Q (.int (g i) s.toks) {s with toks:=s.toks+1}→AL (AM X.prog X.w) X.A (f (.int i t)) Q E s) :
 UnR X f (rU λi=>.int (g i)):=by
 intro aE s σ H x v Q I rx h;obtain⟨i,rfl,q⟩:=h;obtain⟨t,rfl⟩:=rx;exact rule i t s _ _ ⟨.int (g i),H,I.tok _,⟨_,U⟩,q⟩
def aHr:UnR X (unaryOp .USub) (rU λi=>.int (-i)):=unI λ_ _ _ _ _ q=>neg_int q
end
def aAk:V→V→Bool
 | .non,.non=>NU | .non,.int _=>NU | .int _,.non=>NU | .non,.bl _=>NU | .bl _,.non=>NU | .non,.str _=>NU | .str _,.non=>NU
 | .int _,.int _=>NU | .bl _,.bl _=>NU | .str _,.str _=>NU | .byt _,.byt _=>NU
 | .int _,.str _=>NU | .str _,.int _=>NU | .bl _,.str _=>NU | .str _,.bl _=>NU
 | _,_=>NV
def rEq:R2:=λx y H Q=>aAk x y=NU∧Q (.bl (decide (x=y))) H
def rNe:R2:=λx y H Q=>aAk x y=NU∧Q (.bl (!decide (x=y))) H
def ud{i j:Int}:decide (V.int i=V.int j)=(i==j):=by rw[M7];simp
def aBM{i j:Bool}:decide (V.bl i=V.bl j)=(i==j):=by rw[M7];simp
def BK{i j:Str}:decide (V.str i=V.str j)=(i==j):=by rw[M7];simp
def ue{i j:Array UInt8}:decide (V.byt i=V.byt j)=(i.toList==j.toList):=by rw[M7];cases i;cases j;simp
section
variable{a:AK}{tc:TE}{pos:Pos}
def dI{Q:VK}{k k':Bool}(I:Inv X aE σ H s)(q:Q (.bl k) H)(e:k=k'):EP X aE σ Q (.bool k') s:=by subst e;exact⟨.bl k,H,I,U,q⟩
def aJD:vC X (AY .Eq) rEq:=by
 intro aE s σ H x y v u Q I rx ry h;obtain⟨hs,q⟩:=h;cases x with
 | non=>
  cases rx;cases y with
  | non=>cases ry;exact PySem.EqNone.eq_none_none (dI I q (by simp))
  | bl j=>cases ry;exact PySem.EqNone.eq_none_bool (dI I q (by simp))
  | int j=>obtain⟨t',rfl⟩:=ry;exact PySem.EqNone.eq_none_int (dI I q (by simp))
  | str j=>obtain⟨t',rfl⟩:=ry;exact PySem.EqNone.eq_none_str (dI I q (by simp))
  | _=>exact absurd (show NV=NU from hs) E8
 | bl i=>
  cases rx;cases y with
  | non=>cases ry;exact PySem.EqNone.eq_bool_none (dI I q (by simp))
  | bl j=>cases ry;exact eq_bool (dI I q aBM)
  | str j=>obtain⟨t',rfl⟩:=ry;exact PySem.EqMixed.eq_bool_str (dI I q (by simp))
  | _=>exact absurd (show NV=NU from hs) E8
 | int i=>
  obtain⟨t,rfl⟩:=rx;cases y with
  | non=>cases ry;exact PySem.EqNone.eq_int_none (dI I q (by simp))
  | int j=>obtain⟨t',rfl⟩:=ry;exact eq_int (dI I q ud)
  | str j=>obtain⟨t',rfl⟩:=ry;exact PySem.EqMixed.eq_int_str (dI I q (by simp))
  | _=>exact absurd (show NV=NU from hs) E8
 | str i=>
  obtain⟨t,rfl⟩:=rx;cases y with
  | non=>cases ry;exact PySem.EqNone.eq_str_none (dI I q (by simp))
  | bl j=>cases ry;exact PySem.EqMixed.eq_str_bool (dI I q (by simp))
  | int j=>obtain⟨t',rfl⟩:=ry;exact PySem.EqMixed.eq_str_int (dI I q (by simp))
  | str j=>obtain⟨t',rfl⟩:=ry;exact eq_str (dI I q BK)
  | _=>exact absurd (show NV=NU from hs) E8
 | byt i=>
  obtain⟨t,rfl⟩:=rx;cases y with
  | byt j=>obtain⟨t',rfl⟩:=ry;exact PySem.W.eq_bytes (dI I q ue)
  | _=>exact absurd (show NV=NU from hs) E8
 | _=>cases y<;>exact absurd (show NV=NU from hs) E8
def aJE:vC X (AY .NotEq) rNe:=by
 intro aE s σ H x y v u Q I rx ry h;obtain⟨hs,q⟩:=h;cases x with
 | non=>
  cases rx;cases y with
  | non=>cases ry;exact PySem.EqNone.ne_none_none (dI I q (by simp))
  | bl j=>cases ry;exact PySem.EqNone.ne_none_bool (dI I q (by simp))
  | int j=>obtain⟨t',rfl⟩:=ry;exact PySem.EqNone.ne_none_int (dI I q (by simp))
  | str j=>obtain⟨t',rfl⟩:=ry;exact PySem.EqNone.ne_none_str (dI I q (by simp))
  | _=>exact absurd (show NV=NU from hs) E8
 | bl i=>
  cases rx;cases y with
  | non=>cases ry;exact PySem.EqNone.ne_bool_none (dI I q (by simp))
  | bl j=>cases ry;exact ne_bool (dI I q (congrArg not aBM))
  | str j=>obtain⟨t',rfl⟩:=ry;exact PySem.EqMixed.ne_bool_str (dI I q (by simp))
  | _=>exact absurd (show NV=NU from hs) E8
 | int i=>
  obtain⟨t,rfl⟩:=rx;cases y with
  | non=>cases ry;exact PySem.EqNone.ne_int_none (dI I q (by simp))
  | int j=>obtain⟨t',rfl⟩:=ry;exact ne_int (dI I q (congrArg not ud))
  | str j=>obtain⟨t',rfl⟩:=ry;exact PySem.EqMixed.ne_int_str (dI I q (by simp))
  | _=>exact absurd (show NV=NU from hs) E8
 | str i=>
  obtain⟨t,rfl⟩:=rx;cases y with
  | non=>cases ry;exact PySem.EqNone.ne_str_none (dI I q (by simp))
  | bl j=>cases ry;exact PySem.EqMixed.ne_str_bool (dI I q (by simp))
  | int j=>obtain⟨t',rfl⟩:=ry;exact PySem.EqMixed.ne_str_int (dI I q (by simp))
  | str j=>obtain⟨t',rfl⟩:=ry;exact ne_str (dI I q (congrArg not BK))
  | _=>exact absurd (show NV=NU from hs) E8
 | byt i=>
  obtain⟨t,rfl⟩:=rx;cases y with
  | byt j=>obtain⟨t',rfl⟩:=ry;exact PySem.W.ne_bytes (dI I q (congrArg not ue))
  | _=>exact absurd (show NV=NU from hs) E8
 | _=>cases y<;>exact absurd (show NV=NU from hs) E8
def Hs:vC X (AY .Lt) (rI0 λi j=>.bl (decide (i<j))):=aEr λ_ _ _ _ _ _ _ q=>lt_int q
def Ht:vC X (AY .LtE) (rI0 λi j=>.bl (decide (i≤j))):=aEr λ_ _ _ _ _ _ _ q=>le_int q
def aJF:vC X (AY .Gt) (rI0 λi j=>.bl (decide (j<i))):=aEr λ_ _ _ _ _ _ _ q=>gt_int q
def OJ:vC X (AY .GtE) (rI0 λi j=>.bl (decide (j≤i))):=aEr λ_ _ _ _ _ _ _ q=>ge_int q
def bh:vC X (AY .Is) (λx y H Q=>y=.non∧Q (.bl (decide (x=.non))) H):=by
 intro aE s σ H x y v u Q I rx ry h;obtain⟨rfl,q⟩:=h;cases ry;refine is_none_gen (dI I q ?_);cases x<;>first
  | (cases rx;rfl)
  | (obtain⟨t,rfl⟩:=rx;rfl)
def BL:vC X (AY .IsNot) (λx y H Q=>y=.non∧Q (.bl (!decide (x=.non))) H):=by
 intro aE s σ H x y v u Q I rx ry h;obtain⟨rfl,q⟩:=h;cases ry;refine isnot_none_gen (dI I q ?_);cases x<;>first
  | (cases rx;rfl)
  | (obtain⟨t,rfl⟩:=rx;rfl)
def vC.or{f:AE→AE→Sem AE}{r:R2}(h:vC X f r)(h':vC X f r'):vC X f (λx y H Q=>r x y H Q∨r' x y H Q):=by
 intro aE s σ H x y v u Q I rx ry q;rcases q with q | q
 ·exact h aE s σ H x y v u Q I rx ry q
 ·exact h' aE s σ H x y v u Q I rx ry q
def cI(b:AK){op:EH}(h:op≠.In:=by decide)(h2:op≠.NotIn:=by decide):behindInMarks op b=NV:=by
 have e1:(op==CmpOp.In)=NV:=by cases op<;>first | rfl | exact absurd U h
 have e2:(op==CmpOp.NotIn)=NV:=by cases op<;>first | rfl | exact absurd U h2
 cases b<;>simp[behindInMarks,e1,e2]
def aEt{op:EH}{r:R2}(ho:vC X (AY op) r)(ha:PE X a ta)(hb:PE X b tb)(hm:behindInMarks op b=NV):PE X (.Compare a [op] [b] pos) (OD r ta tb):=by intro aE s σ H Q I h;exact KE (aHl ha hb I h λv u s2 x y H2 I2 rx ry q=>ho aE s2 σ H2 x y v u Q I2 rx ry q) hm
def PB(t:TE):TT:=λσ H Q=>t σ H λx H'=>∃k,x=.bl k∧Q k H'
def aEu{op:EH}{r:R2}(ho:vC X (AY op) r)(ha:PE X a ta)(hb:PE X b tb)(hm:behindInMarks op b=NV):PT X (.Compare a [op] [b] pos) (PB (OD r ta tb)):=by
 intro aE s σ H Q I h;refine GL (iY (ha aE s σ H _ I h) λv s1 ⟨x,H1,I1,r1,q1⟩=>iY (hb aE s1 σ H1 _ I1 q1) λu s2 ⟨y,H2,I2,r2,q2⟩=>
  iY (ho aE s2 σ H2 x y v u _ I2 r1 r2 q2) λc s3 ⟨z,H3,I3,r3,k,e,q3⟩=>?_) hm
 subst e;cases r3;exact BC ⟨H3,I3,q3⟩
def BP(r r':R2)(ta tb tc:TE):TE:=λσ H Q=>ta σ H λx H1=>tb σ H1 λy H2=>r x y H2 λz H3=>∃k,z=.bl k ∧
 (if k=NU then tc σ H3 λw' H4=>r' y w' H4 Q else Q (.bl NV) H3)
def aBN{op gz:EH}{r r':R2}(ho:vC X (AY op) r)(gx:vC X (AY gz) r')(ha:PE X a ta)(hb:PE X b tb)(hc:PE X c tc)
 (hm:IA [op,gz] [b,c]=NV:=by with_unfolding_all rfl):PE X (.Compare a [op,gz] [b,c] pos) (BP r r' ta tb tc):=by
 intro aE s σ H Q I h;refine Compare_chain (iY (ha aE s σ H _ I h) λv s1 ⟨x,H1,I1,r1,q1⟩=>chain_link (iY (hb aE s1 σ H1 _ I1 q1) λu s2 ⟨y,H2,I2,r2,q2⟩=>
  iY (ho aE s2 σ H2 x y v u _ I2 r1 r2 q2) λd s3 ⟨z,H3,I3,r3,k,e,q3⟩=>?_)) hm
 subst e;cases r3;refine BC ?_;cases k with
 | false=>exact ite_ff ⟨.bl NV,H3,I3,U,q3⟩
 | true=>exact ite_tt (chain_last (iY (hc aE s3 σ H3 _ I3 q3) λw' s4 ⟨z',H4,I4,r4,q4⟩=>gx aE s4 σ H4 y z' u w' Q I4 r2 r4 q4))
def aBO{op gz:EH}{r r':R2}(ho:vC X (AY op) r)(gx:vC X (AY gz) r')(ha:PE X a ta)(hb:PE X b tb)(hc:PE X c tc)
 (hm:IA [op,gz] [b,c]=NV:=by with_unfolding_all rfl):PT X (.Compare a [op,gz] [b,c] pos) (PB (BP r r' ta tb tc)):=by
 intro aE s σ H Q I h;refine isTrue_chain (iY (ha aE s σ H _ I h) λv s1 ⟨x,H1,I1,r1,q1⟩=>test_link (iY (hb aE s1 σ H1 _ I1 q1) λu s2 ⟨y,H2,I2,r2,q2⟩=>
  iY (ho aE s2 σ H2 x y v u _ I2 r1 r2 q2) λd s3 ⟨z,H3,I3,r3,k,e,q3⟩=>?_)) hm
 subst e;cases r3;refine BC ?_;cases k with
 | false=>
  obtain⟨k',e',q'⟩:=q3;cases e';exact ite_ff ⟨H3,I3,q'⟩
 | true=>refine ite_tt (test_last (iY (hc aE s3 σ H3 _ I3 q3) λw' s4 ⟨z',H4,I4,r4,q4⟩=>iY (gx aE s4 σ H4 y z' u w' _ I4 r2 r4 q4) λd' s5 ⟨z2,H5,I5,r5,k2,e2,q5⟩=>?_));subst e2;cases r5;exact BC ⟨H5,I5,q5⟩
def Qt:(sizeLine:Nat)<2 ^ 63:=by rw[Fu];decide
def vals1{x:V}{us:List AE}(r:Vals [x] us):∃u,us=[u]∧RelV x u:=by
 cases r with
 | cons r1 r2=>cases r2;exact⟨_,U,r1⟩
def vals2{x:V}{us:List AE}(r:Vals [x,y] us):∃u w',us=[u,w']∧RelV x u∧RelV y w':=by
 cases r with
 | cons r1 r2=>
  cases r2 with
  | cons r3 r4=>cases r4;exact⟨_,_,U,r1,r3⟩
def aAl(hc:X.calm=NU):mQ X (.builtin "max") (λxs H Q=>∃i j,xs=[.int i,.int j]∧Q (.int (if j > i then j else i)) H):=by
 intro aE s σ H xs us Q I r h;obtain⟨i,j,rfl,q⟩:=h;obtain⟨u,w',rfl,⟨t,rfl⟩,⟨t',rfl⟩⟩:=vals2 r;refine max_two_ints (I.ok.hd hc) λh' tk k=>⟨_,H,I.kept k,?_,q⟩
 by_cases hj:j > i
 ·rw[sk hj,sk hj];exact⟨_,U⟩
 ·rw[sv hj,sv hj];exact⟨_,U⟩
end
structure bj(h:Heap)(x dx C:AF)(mA:Str→Option AE):Prop where
 obj:h.get? x=NR (O6 C dx)
 ns:h.Ns1 dx mA
 ne:dx≠x
def aAm{mA:Str→Option AE}(n:h.Ns1 dx mA):∃od,h.get? dx=NR od∧∀name,X7 name od=NR (mA name):=by
 obtain⟨o,es,ep,ho,hd,hk,_,hm⟩:=n;refine⟨o,ho,λname=>?_⟩;have e:=hm name;unfold nsFind findBy at e;rw[←Array.find?_toList]at e;unfold X7;rw[hd];dsimp only;split
 ·rename_i y q;rw[q]at e;exact congrArg NR e
 ·rename_i q;rw[q]at e;have a:es.toList.any (·.refKey)=NV:=by rw[List.any_eq_false];intro y hy;obtain⟨z,t,eh⟩:=hk y (Array.mem_toList_iff.mp hy);simp[Mo,eh]
  have a':¬es.toList.any (·.refKey)=NU:=by rw[a];exact E8
  rw[sv a'];exact congrArg NR e
def bj.look{x:AF}{mA:Str→Option AE}(I:bj h x dx C mA):∃od,PySem.W.InstAt h x (O6 C dx) C (NR od)∧∀name,X7 name od=NR (mA name):=
 let ⟨od,ho,hl⟩:=aAm I.ns
 ⟨od,⟨I.obj,U,U,ho⟩,hl⟩
section
variable{prog:AQ}{x f:AF}{mA:Str→Option AE}{name:Str}{v:AE}
def get_map{expr:Bool}{Q:AE→AG→Prop}(X:K.In s.heap)(I:bj s.heap x dx C mA)(hg:S6 K C name=NU)(hh:U9 K C=NU)
 (ha:G3 K (.ref C) name=NR sx) (hv:mA name=NR v) (hv':p7 v=NU) (h:Q v {s with toks:=s.toks+1}) :
 AL (AM prog w) A (getAttr (.ref x) name expr) Q E s:=by
 obtain⟨od,J,hl⟩:=I.look;exact PySem.W.get_value X J (X6 hg).1 (PySem.W.findObj_own hh ha U (by rw[hl,hv])) hv' h
def aBP{pl:Sem Bool}{Q:AE×List AE→AG→Prop}(X:K.In s.heap)(I:bj s.heap x dx C mA)(hg:S6 K C name=NU)
 (hf:G3 K (.ref C) name=NR (NR (.ref f))) (ht:Q8 K (.ref f)=NU) (hv:mA name=sx) (h:Q (.ref f,[.ref x]) s) :
 AL (AM prog w) A (EE (.ref x) name pl) Q E s:=by
 obtain⟨od,J,hl⟩:=I.look;exact PySem.W.method_fn X J (X6 hg).1 (X6 hg).2 hf (beq_iff_eq.mp ht) (by show (X7 name od).map (·.isSome)=NR NV;rw[hl,hv];rfl) h
def aEv{ns:List Str}{Q:Unit→AG→Prop}(X:K.In s.heap)(I:bj s.heap x dx C mA)
 (hs:G3 K (.ref C) "__setattr__"=NR (NR (.builtin "object.__setattr__"))) (hp:Y3 K C=NU) (ht:d7 K C name=NR sx) (hh:U9 K C=NU)
 (hw:l5 mA ns) (hsz:ns.length≤sizeLine)
 (h:∀h',bj h' x dx C (λy=>if y=name then NR v else mA y)→Bi dx s.heap h'→Q () {s with heap:=h',toks:=s.toks+2}) :
 AL (AM prog w) A (setAttr (.ref x) name v) Q E s:=by
 obtain⟨od,J,hl⟩:=I.look;refine PySem.W.set_plain X J hs (PySem.W.osa_open (s:={s with toks:=s.toks+1}) (r:=sx) X J hp ht λb=>?_);obtain⟨cd,hc,kM⟩:=PySem.W.any_some hh;have hx:s.heap.get? x=NR ⟨.ref C,NR dx,.plain,#[]⟩:=I.obj;refine AH (wpAny_pure (AH (AH (wpAny_loadPart hx (AH (PySem.W.Looks.here (s:={s with toks:=s.toks+1}) (PySem.W.looks_clsIn X hc) ?_))))));rw[kM];refine wpAny_pure (a:=NR dx) (AH (wpAny_pure (AH ?_)));refine wpAny_nsSet1 (s:={s with toks:=s.toks+1}) I.ns λh' eB qk=>?_;obtain⟨oD,esD,epD,hoD,hdD,hcD⟩:=eB.count (PySem.Within.cons name v hw);refine AH (wpAny_lookBehind hoD (by rw[hdD];exact pastItsLine_dict (G1 hcD (by rw[E3];omega))) ?_);exact wpAny_pure (h _ ⟨(qk.2 _ (Ne.symm I.ne)).trans I.obj,eB,I.ne⟩ qk)
def aBQ{R:FU→AG→Prop}{vs:List AE}{kw:List (Str×AE)}(X:K.In s.heap)(hm:W6 K C=NU)
 (hi:G3 K (.ref C) "__init__"=NR (NR (.ref f))) (hf:y4 K (.ref f)=NR (.type "function"))
 (h:Cn (AM prog w) (A.under (.builtin "type.__call__" ⟨.ref C::vs,kw⟩)) (.call (.ref f) ⟨.ref (s.heap.objs.size+1)::vs,kw⟩) (PySem.W.InitBack (s.heap.objs.size+1) R)
  {s with heap:=(s.heap.push M5).push (O6 C s.heap.objs.size)}) :
 Cn (AM prog w) A (.call (.ref C) ⟨vs,kw⟩) R s:=by
 obtain⟨hh,g,d,t,os⟩:=s;exact PySem.W.make_core (PySem.W.makes_of X hm) (PySem.W.looks_findIn X hi) (λself=>PySem.W.bind_fn X self hf) (.inl U) h
end
def Aa(f:Str)(v:V):List (Str×V)→List (Str×V)
 | []=>[(f,v)]
 | (g,x)::r=>if g=f then(g,v)::r else(g,x)::Aa f v r
theorem Nj(f g:Str)(v:V):∀fs:List (Str×V),(Aa f v fs).lookup g=if g=f then NR v else fs.lookup g
 | []=>by
  show T1 g [(f,v)]=_;by_cases h:g=f
  ·have hb:(g==f)=NU:=beq_iff_eq.mpr h;simp only[T1,hb,sk h]
  ·have hb:(g==f)=NV:=beq_eq_false_iff_ne.mpr h;simp only[T1,hb,sv h]
 | (k,x)::r=>by
  have ih:=Nj f g v r;rw[show Aa f v ((k,x)::r)=(if k=f then(k,v)::r else(k,x)::Aa f v r)from rfl];by_cases hk:k=f
  ·rw[sk hk];by_cases h:g=k
   ·have hb:(g==k)=NU:=beq_iff_eq.mpr h;simp only[T1,hb,sk (h.trans hk)]
   ·have hb:(g==k)=NV:=beq_eq_false_iff_ne.mpr h;simp only[T1,hb,sv (λe:g=f=>h (e.trans hk.symm))]
  ·rw[sv hk];by_cases h:g=k
   ·have hb:(g==k)=NU:=beq_iff_eq.mpr h;simp only[T1,hb,sv (λe:g=f=>hk (h.symm.trans e))]
   ·have hb:(g==k)=NV:=beq_eq_false_iff_ne.mpr h;simp only[T1,hb];exact ih
theorem Ku(f:Str)(v:V):∀fs:List (Str×V),f∈(Aa f v fs).map (·.1)∧∀g,g∈fs.map (·.1)→g∈(Aa f v fs).map (·.1)
 | []=>⟨by simp[Aa],λg h=>by simp at h⟩
 | (k,x)::r=>by
  obtain⟨i1,i2⟩:=Ku f v r;rw[show Aa f v ((k,x)::r)=(if k=f then(k,v)::r else(k,x)::Aa f v r)from rfl];by_cases hk:k=f
  ·rw[sk hk];subst hk;exact⟨by simp,λg h=>by simpa using h⟩
  ·rw[sv hk];refine⟨?_,λg h=>?_⟩
   ·rw[E2];exact C6 _ i1
   ·rw[E2]at h ⊢;rcases B9.mp h with e | e
    ·exact B9.mpr (.inl e)
    ·exact C6 _ (i2 g e)
def Nk(f:Str)(v:V):∀fs:List (Str×V),(Aa f v fs).length≤fs.length+1
 | []=>by simp[Aa]
 | (k,x)::r=>by
  have ih:=Nk f v r;rw[show Aa f v ((k,x)::r)=(if k=f then(k,v)::r else(k,x)::Aa f v r)from rfl];by_cases hk:k=f
  ·rw[sk hk,E3,E3];omega
  ·rw[sv hk,E3,E3];omega
def zZ.some_of{o:Option AE}(r:zZ (NR v) o):∃u,o=NR u∧RelV v u:=by
 cases o with
 | none=>exact(show False from r).elim
 | some u=>exact⟨u,U,r⟩
def zZ.none_of{o:Option AE}(r:zZ sx o):o=sx:=by
 cases o with
 | none=>rfl
 | some u=>exact(show False from r).elim
def aAn(r:RelV v u):p7 u=NU:=by
 cases v with
 | non=>cases(show u=BM from r);rfl
 | bl b=>cases(show u=CM b from r);rfl
 | int i=>obtain⟨t,e⟩:=(show ∃t,u=Ct i t from r);cases e;rfl
 | str x=>obtain⟨t,e⟩:=(show ∃t,u=Fn x t from r);cases e;rfl
 | byt b=>obtain⟨t,e⟩:=(show ∃t,u=Lo b t from r);cases e;rfl
 | flt b=>obtain⟨t,e⟩:=(show ∃t,u=IS b t from r);cases e;rfl
 | ref a=>cases(show u=AW a from r);rfl
 | ty n=>cases(show u=CO n from r);rfl
section
variable{P:AQ}{H':Hp}{h':Heap}{fs fs':List (Str×V)}
def Pb(hok:Ew P w H h)(e:H a=NR (.ins C dx fs)):∃mA,bj h a dx C mA∧(∀f,zZ (fs.lookup f) (mA f))∧l5 mA (fs.map (·.1))∧fs.length≤1000∧H dx=NR (.own a):=by
 obtain⟨d,z,ne,ob,mA,n,r,q⟩:=(show jU P w H h a (.ins C dx fs)from hok a _ e)
 exact⟨mA,⟨ob,n,ne⟩,r,q,z,d⟩
end
structure Cls(K:aG)(C:AF):Prop where
 pg:S6 K C MW=NU
 hd:U9 K C=NU
 po:Y3 K C=NU
 sa:G3 K (.ref C) "__setattr__"=NR (NR (.builtin "object.__setattr__"))
def Cls.get(c:Cls K C)(f:Str):S6 K C f=NU:=c.pg
def Fg(K:aG)(C:AF)(f:Str):Prop:=G3 K (.ref C) f=NR sx
def Fg.taker{f:Str}(n:Fg K C f):d7 K C f=NR sx:=by unfold d7;rw[show G3 K (.ref C) f=NR sx from n];rfl
structure Meth(K:aG)(C:AF)(m:Str)(f:AF):Prop where
 at_:G3 K (.ref C) m=NR (NR (.ref f))
 fn:Q8 K (.ref f)=NU
 kp:K7 K (.ref f)=NU
section
variable{fs:List (Str×V)}{f:Str}
def bu{b:Bool}{Q:AE→AG→Prop}(I:Inv X aE σ H s)(e:H a=NR (.ins C dx fs))(c:Cls X.K C)(n:Fg X.K C f)(l:fs.lookup f=NR v)
 (h:∀u s',Inv X aE σ H s'→RelV v u→Q u s'):AL (AM X.prog X.w) A (getAttr (.ref a) f b) Q E s:=by
 obtain⟨mA,O,r,_,_,_⟩:=Pb I.hok e;obtain⟨u,hu,ru⟩:=zZ.some_of (v:=v) (o:=mA f) (by rw[←l];exact r f);exact get_map I.Kr O (c.get f) c.hd n hu (aAn ru) (h u _ (I.tok _) ru)
def Qu{m:Str}{g:AF}{pl:Sem Bool}{Q:AE×List AE→AG→Prop}(I:Inv X aE σ H s)(e:H a=NR (.ins C dx fs))(c:Cls X.K C)(k:Meth X.K C m g)(l:fs.lookup m=sx)
 (h:Q (.ref g,[.ref a]) s):AL (AM X.prog X.w) A (EE (.ref a) m pl) Q E s:=by
 obtain⟨mA,O,r,_,_,_⟩:=Pb I.hok e;have hn:mA m=sx:=zZ.none_of (by rw[←l];exact r m);exact aBP I.Kr O (c.get m) k.at_ k.fn hn h
def bw{y:V}{u:AE}{Q:Unit→AG→Prop}(I:Inv X aE σ H s)(e:H a=NR (.ins C dx fs))(c:Cls X.K C)(n:Fg X.K C f)(hl:fs.length<1000)(ry:RelV y u)
 (h:∀s',Inv X aE σ (upd H a (.ins C dx (Aa f y fs))) s'→Q () s'):AL (AM X.prog X.w) A (setAttr (.ref a) f u) Q E s:=by
 obtain⟨mA,O,r,wi,_,ho⟩:=Pb I.hok e;have hz:(fs.map (·.1)).length≤sizeLine:=by rw[B8,Fu];omega
 refine aEv I.Kr O c.sa c.po n.taker c.hd wi hz λh' O' sb=>h _ ?_;have hd:∃o,h'.get? dx=NR o:=let ⟨o,_,_,e',_⟩:=O'.ns;⟨o,e'⟩;refine I.write (x:=a) (e:=dx) (by rw[e];exact True.intro) (.inr ho) (λb q hb z=>(sb.2 b hb).trans z) hd ?_;refine⟨by rw[bQ O.ne];exact ho,?_,O.ne,O'.obj,_,O'.ns,λg=>?_,λg hg=>?_⟩
 ·have:=Nk f y fs;omega
 ·show zZ ((Aa f y fs).lookup g) (if g=f then NR u else mA g);rw[Nj];by_cases q:g=f
  ·rw[sk q,sk q];exact ry
  ·rw[sv q,sv q];exact r g
 ·by_cases q:g=f
  ·rw[q];exact(Ku f y fs).1
  ·refine(Ku f y fs).2 g (wi g λz=>hg ?_);show (if g=f then NR u else mA g)=sx;rw[sv q];exact z
def Inv.made(I:Inv X aE σ H s):Inv X aE σ (upd (upd H s.heap.objs.size (.own (s.heap.objs.size+1))) (s.heap.objs.size+1) (.ins C s.heap.objs.size []))
 {s with heap:=(s.heap.push M5).push (O6 C s.heap.objs.size)}:=by
 have e1:(s.heap.push M5).get? s.heap.objs.size=NR M5:=AR s.heap U;have e2:((s.heap.push M5).push (O6 C s.heap.objs.size)).get? (s.heap.objs.size+1)=NR (O6 C s.heap.objs.size):=by
  have:=AR (s.heap.push M5) (o:=O6 C s.heap.objs.size) U
  rwa [BE]at this
 have e3:(s.heap.push M5).Ns s.heap.objs.size (λ_=>sx):=⟨M5,#[],_,e1,U,(λe he=>absurd he (by simp)),λ_=>rfl⟩
 have I1:=I.laid (a:=s.heap.objs.size) (o:=.own (s.heap.objs.size+1)) (h':=s.heap.push M5) (t':=s.toks) (λb u q=>AI _ q) (C9 _) ⟨_,e1⟩;refine I1.laid (a:=s.heap.objs.size+1) (o:=.ins C s.heap.objs.size []) (t':=s.toks) (λb u q=>AI _ q) (l7 (BE _ _)) ?_;have ne:s.heap.objs.size≠s.heap.objs.size+1:=F3 (N2 _);refine⟨by rw[bQ ne,cA],L5 _,ne,e2,λ_=>sx,(Mc e3).at λo q=>AI _ q,λ_=>True.intro,λy hy=>absurd U hy⟩
def aEw{prog:AQ}{w:AS}{env:Env}{e:AK}{f:Str}{pos:Pos}{s:AG}{Q:AE→AG→Prop}(hb:Co e f env (AU e env)=AU e env)
 (h:AL (AM prog w) A (AU e env) (λo s₁=>AL (AM prog w) A (getAttr o f NU) Q E s₁) E s):AL (AM prog w) A (AU (.Attribute e f pos) env) Q E s:=
 Attribute_any_ h (by rw[arm_eval_Attribute,hb])
end
def aHs(K:aG)(ta:TE)(f:Str):TE:=λσ H Q=>ta σ H λx H1=>∃a C dx fs v,x=.ref a∧H1 a=NR (.ins C dx fs)∧Cls K C∧Fg K C f∧fs.lookup f=NR v∧Q v H1
def aHt(K:aG)(ta tv:TE)(f:Str):TS:=λD σ H=>tv σ H λy H1=>ta σ H1 λx H2=>∃a C dx fs,x=.ref a∧H2 a=NR (.ins C dx fs)∧Cls K C∧Fg K C f∧fs.length<1000 ∧
 D.nx σ (upd H2 a (.ins C dx (Aa f y fs)))
section
variable{o value:AK}{f:Str}{pos:Pos}
def aBS(he:PE X e ta)(hb:Co e f X.env (AU e X.env)=AU e X.env):PE X (.Attribute e f pos) (aHs X.K ta f):=by intro aE s σ H Q I h;refine aEw hb (iY (he aE s σ H _ I h) λu s1 ⟨x,H1,I1,rx,a,C,dx,fs,v,ex,ea,c,n,l,q⟩=>?_);subst ex;obtain rfl:u=AW a:=rx;exact bu I1 ea c n l λu' s2 I2 ru=>⟨v,H1,I2,ru,q⟩
def aHu(ha:PE X o ta)(hv:PE X value tv)(hs:DO value (NR (.Attribute o f bP)) pos.line X.env=pure NV):PS X (.Assign [.Attribute o f bP] value pos) (aHt X.K ta tv f):=by intro aE s σ H D I h;refine plainObj_wpAny_Assign_Attribute (iY (hv aE s σ H _ I h) λu s1 ⟨y,H1,I1,ry,q⟩=>iY (ha aE s1 σ H1 _ I1 q) λov s2 ⟨x,H2,I2,rx,a,C,dx,fs,ex,ea,c,n,l,q2⟩=>?_) hs;subst ex;obtain rfl:ov=AW a:=rx;exact bw I2 ea c n l ry λs3 I3=>⟨σ,_,I3,q2⟩
end
section
variable{c:AE}{b:Bool}
inductive Ol(K:aG)(H:Hp):V→AE→Prop where
 | non:Ol K H .non (.type "NoneType")
 | bl (x:Bool):Ol K H (.bl x) (.type "bool")
 | int (i:Int):Ol K H (.int i) (.type "int")
 | str (x:Str):Ol K H (.str x) (.type "str")
 | flt (x:UInt64):Ol K H (.flt x) (.type "float")
 | lst {a:AF} {xs:List V} (e:H a=NR (.lst xs)):Ol K H (.ref a) (.type "list")
 | Al {a:AF} {o:Obj} {xs:List V} (e:H a=NR (.Al o (.lst xs))):Ol K H (.ref a) (.type "list")
 | tup {a:AF} {xs:List V} (e:H a=NR (.tup xs)):Ol K H (.ref a) (.type "tuple")
 | dK {a:AF} {kvs:List (Key×V)} (e:H a=NR (.dK kvs)):Ol K H (.ref a) (.type "dict")
 | dT {a:AF} {kvs:List (List Key×V)} (e:H a=NR (.dT kvs)):Ol K H (.ref a) (.type "dict")
 | ins {a C dx:AF} {fs:List (Str×V)} (e:H a=NR (.ins C dx fs)) (cl:Cls K C) (ha:G3 K (.ref C) "__class__"=NR (NR (.builtin "object.__class__")))
  (hn:Y4 K (.builtin "object.__class__") "__get__"=NR (NR (.builtin "getset_descriptor.__get__"))) (kq:u6 K (.builtin "object.__class__")=NR NU)
  (hm:z5 K C (.type "object")=NR NU):Ol K H (.ref a) (.ref C)
def Wy{x:V}{t:AE}(I:Inv X aE σ H s)(rx:RelV x u)(ty:Ol X.K H x t)(e:K4 X.K t c=NR b)(h:∀tk,Q (.bool b) {s with toks:=tk}):
 AL (AM X.prog X.w) A (call (.builtin "isinstance") [u,c]) Q E s:=by
 cases ty with
 | non=>cases(show u=BM from rx);exact K8 PySem.W.kitx_none I.Kr True.intro e (λz=>nomatch z) h
 | bl y=>cases(show u=CM y from rx);exact K8 PySem.W.kitx_bool I.Kr True.intro e (λz=>nomatch z) h
 | int i=>obtain⟨t,q⟩:=(show ∃t,u=Ct i t from rx);cases q;exact K8 PySem.W.kitx_int I.Kr True.intro e (λz=>nomatch z) h
 | str y=>obtain⟨t,q⟩:=(show ∃t,u=Fn y t from rx);cases q;exact K8 PySem.W.kitx_str I.Kr True.intro e (λz=>nomatch z) h
 | flt y=>obtain⟨t,q⟩:=(show ∃t,u=IS y t from rx);cases q;exact K8 PySem.W.kitx_float I.Kr True.intro e (λz=>nomatch z) h
 | @lst a xs ea=>
  cases(show u=AW a from rx)
  obtain⟨_,_,n,_,h1⟩:=(show jU X.prog X.w H s.heap a (.lst xs)from I.hok a _ ea)
  exact K8 Y5 I.Kr ⟨_,h1,rfl⟩ e (λz=>nomatch z) h
 | @Al a ob xs ea=>
  cases(show u=AW a from rx)
  obtain⟨_,_,_,n,_,h1⟩:=(show jU X.prog X.w H s.heap a (.Al ob (.lst xs))from I.hok a _ ea)
  exact K8 Y5 I.Kr ⟨_,h1,rfl⟩ e (λz=>nomatch z) h
 | @tup a xs ea=>
  cases(show u=AW a from rx)
  obtain⟨_,_,_,p⟩:=(show jU X.prog X.w H s.heap a (.tup xs)from I.hok a _ ea)
  obtain⟨o,h1,h2,_⟩:=p;exact K8 l8 I.Kr ⟨o,h1,h2⟩ e (λz=>nomatch z) h
 | @dK a kvs ea=>
  cases(show u=AW a from rx)
  obtain⟨_,_,vs,_,p⟩:=(show jU X.prog X.w H s.heap a (.dK kvs)from I.hok a _ ea)
  obtain⟨o,es,ep,h1,h2,_⟩:=p;exact K8 o0 I.Kr ⟨o,h1,h2.1⟩ e (λz=>nomatch z) h
 | @dT a kvs ea=>
  cases(show u=AW a from rx)
  obtain⟨_,_,xs,_,o,es,ep,h1,h2,_⟩:=(show jU X.prog X.w H s.heap a (.dT kvs)from I.hok a _ ea)
  exact K8 o0 I.Kr ⟨o,h1,h2.1⟩ e (λz=>nomatch z) h
 | @ins a C dx fs ea cl ha hn kq hm=>
  cases(show u=AW a from rx)
  obtain⟨mA,O,_⟩:=Pb I.hok ea;obtain⟨od,J,_⟩:=O.look;exact K8 (PySem.W.kitx_own (cl.get _) cl.hd ha hn kq hm) I.Kr J e (λz=>nomatch z) h
end
structure lB(k:Nat)(A:AV):Prop where
 hd:A.handled=sx
 dp:A.depth+3*k+5<KF
 un:A.units+16*k+200<BG
def lB.mono(r:lB k A)(h:j≤k):lB j A:=⟨r.hd,by have:=r.dp;omega,by have:=r.un;omega⟩
def lB.deeper(r:lB (k+1) A)(env:Env):lB k (A.deeper env):=
 ⟨r.hd,by have:=r.dp;show A.depth+1+3*k+5<_;omega,by have:=r.un;show A.units+3+16*k+200<_;omega⟩
def cg{us:List AE}{kw:List (Str×AE)}:(A.under (.builtin "type.__call__" ⟨.ref C::us,kw⟩)).depth=A.depth+1:=by
 first | rfl | simp[IB,Code.weight,Code.isCreation,Code.isGuard,Code.isCaller,Lv,IC,guardIds]
def cj{us:List AE}{kw:List (Str×AE)}:(A.under (.builtin "type.__call__" ⟨.ref C::us,kw⟩)).units=A.units+1:=by
 first | rfl | simp[IB,Code.cUnits,Lv,IC]
def lB.make(r:lB (k+1) A)(C:AF)(us:List AE)(kw:List (Str×AE)):lB k (A.under (.builtin "type.__call__" ⟨.ref C::us,kw⟩)):=
 ⟨r.hd,by have:=r.dp;rw[cg];omega,by have:=r.un;rw[cj];omega⟩
def lB.depth(r:lB k A):A.depth<KF:=by have:=r.dp;omega
def lB.units(r:lB k A):A.units+64<BG:=by have:=r.un;omega
def oX:TA:=λ_ H Q=>Q [] H
def dF(ta:TE)(tr:TA):TA:=λσ H Q=>ta σ H λx H1=>tr σ H1 λxs H2=>Q (x::xs) H2
section
variable{es:List AK}{t:TA}{pos:Pos}
def jE:PA X [] oX:=λ_ _ _ _ H Q I h=>CF ⟨[],H,I,.nil,h⟩
def cZ(ha:PE X e te)(hr:PA X es t)(hs:AJ (e::es) X.env=(NV,AU e X.env)::AJ es X.env:=by rfl):PA X (e::es) (dF te t):=by intro pos aE s σ H Q I h;rw[hs];show AL _ _ (spliced ((NV,AU e X.env)::Au pos (AJ es X.env))) _ _ s;refine BY (iY (ha aE s σ H _ I h) λu s1 ⟨x,H1,I1,r1,q1⟩=>?_);exact iY (hr pos aE s1 σ H1 _ I1 q1) λus s2 ⟨xs,H2,I2,r2,q2⟩=>⟨x::xs,H2,I2,.cons r1 r2,q2⟩
def PJ(t:TA):TE:=λσ H Q=>t σ H λxs H1=>xs.length≤sizeLine∧∀p,H1 p=sx→Q (.ref p) (upd H1 p (.tup xs))
def aBT(t:TA):TE:=λσ H Q=>t σ H λxs H1=>xs.length≤sizeLine∧∀p,H1 p=sx→Q (.ref p) (upd H1 p (.lst xs))
def cu{x1}(h:PA X es t):PE X (.Tuple es x1 pos) (PJ t):=by intro aE s σ H Q I hq;refine wpAny_Tuple_spliced (iY (h pos aE s σ H _ I hq) λus s1 ⟨xs,H1,I1,r,z,q⟩=>⟨by rw[←r.length];exact z,?_⟩);have hf:H1 s1.heap.objs.size=sx:=I1.hok.fresh (C9 _);refine⟨.ref s1.heap.objs.size,upd H1 s1.heap.objs.size (.tup xs),I1.laid (t':=s1.toks) (λb u e=>AI _ e) (C9 _) ?_,U,q _ hf⟩;exact⟨z,us,r,⟨_,AR _ U,U,_,U⟩⟩
def aBU(h:PA X es t):PE X (.List es pos) (aBT t):=by intro aE s σ H Q I hq;refine wpAny_List_spliced (iY (h pos aE s σ H _ I hq) λus s1 ⟨xs,H1,I1,r,z,q⟩=>⟨by rw[←r.length];exact z,?_⟩);have hf:H1 s1.heap.objs.size=sx:=I1.hok.fresh (C9 _);refine⟨.ref s1.heap.objs.size,upd H1 s1.heap.objs.size (.lst xs),I1.laid (t':=s1.toks) (λb u e=>AI _ e) (C9 _) ?_,U,q _ hf⟩;exact⟨z,us,0,r,AR _ U⟩
end
abbrev Sp:=List V→Hp→VK→XK→Prop
abbrev CXT:=List Env→Hp→AG→XK→AE→AG→Prop
variable{CX:CXT}
structure cz(P:AQ)(w:AS)(K:aG)(mg:Str→Option AE)(base:Heap)(A:AV)(outer:List Env)(s:AG)(H:Hp):Prop where
 frames:A.frames=NR outer
 mod:Mod K mg base
 bs:∀b o,base.get? b=NR o→s.heap.get? b=NR o∧H b=sx
 bsz:base.objs.size≤s.heap.objs.size
 Oj:s.heap.FunFrames base outer
 frf:∀b∈frs outer,H b=sx
 hok:Ew P w H s.heap
 bare:Da s.gens
def CE(outer:List Env)(P:AQ)(w:AS)(H:Hp)(s:AG)(Q:VK)(u:AE)(s':AG):Prop:=
 ∃v H',s'.os=s.os∧Da s'.gens∧Un (frs outer) [] H H' s.heap s'.heap∧Ew P w H' s'.heap∧RelV v u∧Q v H'
def CR(CX:CXT)(outer:List Env)(P:AQ)(w:AS)(H:Hp)(s:AG)(Q:VK)(E:XK)(r:FU)(s':AG):Prop:=
 match r with
 | .ok (.ret u)=>CE outer P w H s Q u s'
 | .ok _=>False
 | .error e=>CX outer H s E e s'
structure Ab(P:AQ)(w:AS)(K:aG)(mg:Str→Option AE)(base:Heap)(CX:CXT)(k:Nat)(f:AF)(fd:BU)(ps:List Str)(sp:Sp):Prop where
 len:∀vs H Q E,sp vs H Q E→vs.length=ps.length
 run:∀(A:AV)(outer:List Env)(s:AG)(H:Hp)(args:Args)(us:List AE)(vs:List V)(Q:VK)(E:XK),lB k A→cz P w K mg base A outer s H→GN s fd args (ps.zip us)→Vals vs us→sp vs H Q E →
  Cn (AM P w) A (.call (.ref f) args) (CR CX outer P w H s Q E) s
def cz.make{P:AQ}{base:Heap}{outer:List Env}(e:cz P w K mg base A outer s H)(C:AF)(us:List AE)(kw:List (Str×AE)):
 cz P w K mg base (A.under (.builtin "type.__call__" ⟨.ref C::us,kw⟩)) outer s H:=⟨by first | exact e.frames | (simpa[IB,Code.envs,IC,pushEnvs]using e.frames),e.mod,e.bs,e.bsz,e.Oj,e.frf,e.hok,e.bare⟩
section
variable{s':AG}
def Inv.env0(I:Inv X aE σ H s):cz X.prog X.w X.K X.mg X.base X.A X.stack s H:=
 ⟨I.ok.frames,I.ok.mod,I.bs,G1 I.ok.bsz I.sz,I.stack,I.sr,I.hok,I.bare⟩
def Inv.after{Q:VK}(I:Inv X aE σ H s)(h:CE X.stack X.prog X.w H s Q u s'):EP X aE σ Q u s':=by obtain⟨v,H',os,bare,un,hok,r,q⟩:=h;obtain⟨hh,g,d,t,os'⟩:=s';obtain rfl:os'=s.os:=os;exact⟨v,H',I.call (h':=hh) (g':=g) (d':=d) (t':=t) (ch:=[]) un hok bare (λb z=>absurd z (by simp)),r,q⟩
end
def Wz(sp:Sp)(Km:List V)(E:XK)(t:TA):TE:=λσ H Q=>t σ H λvs H1=>sp (vs++Km) H1 Q E
def Nm(C:AF)(m:Str)(sp:Sp)(Km:List V)(E:XK)(ta:TE)(t:TA):TE:=λσ H Q=>ta σ H λx H1=>∃a dx fs,x=.ref a∧H1 a=NR (.ins C dx fs)∧fs.lookup m=sx ∧
 t σ H1 λvs H2=>sp (x::(vs++Km)) H2 Q E
def aGh(C:AF)(sp:Sp)(Km:List V)(E:XK)(t:TA):TE:=λσ H Q=>t σ H λvs H1=>∀x dx,H1 x=sx→H1 dx=sx→dx≠x →
 sp (.ref x::(vs++Km)) (upd (upd H1 dx (.own x)) x (.ins C dx [])) (λv H2=>v=.non∧Q (.ref x) H2) E
def Binds(K:aG)(fd:BU)(ps:List Str)(ds:List AE):Prop:=
 ∀(s:AG)(us:List AE),K.In s.heap→(us++ds).length=ps.length→GN s fd ⟨us,[]⟩ (ps.zip (us++ds))
def Binds.all{fd:BU}(h:∀us:List AE,us.length=ps.length→EJ fd ⟨us,[]⟩=pure (ps.zip us)):Binds K fd ps []:=λs us _ hl=>by rw[F0]at hl ⊢;exact .of_eq (h us hl)
def Passes(CX:CXT)(X:Cx)(E:XK):Prop:=∀(aE:List (AF×Obj))(σ:St)(H:Hp)(s:AG)(e:AE)(s':AG),Inv X aE σ H s→CX X.stack H s E e s'→X.xe e s'
section
variable{f:AF}{fd:BU}{sp:Sp}{Km:List V}{ds:List AE}{E:XK}{x:Str}{pos:Pos}{o:AK}{es:List AK}{t:TA}
def dg{aE:List (AF×Obj)}{σ:St}{H:Hp}{s:AG}{Q:VK}{us:List AE}{vs:List V}(F:Ab X.prog X.w X.K X.mg X.base CX k f fd ps sp)(hr:lB k X.A)(hb:Binds X.K fd ps ds)(hd:Vals Km ds)(hx:Passes CX X E)
 (I:Inv X aE σ H s) (r:Vals vs us) (h:sp (vs++Km) H Q E):AL (AM X.prog X.w) X.A (call (.ref f) us) (EP X aE σ Q) X.xe s:=by
 have r2:Vals (vs++Km) (us++ds):=r.append hd;have hl:(us++ds).length=ps.length:=by rw[←r2.length];exact F.len _ _ _ _ h
 refine JE (DJ (F.run X.A X.stack s H ⟨us,[]⟩ (us++ds) (vs++Km) Q E hr I.env0 (hb s us I.Kr hl) r2 h) λr s' hq=>?_);cases r with
 | error e=>exact hx aE σ H s e s' I hq
 | ok fl=>
  cases fl with
  | ret u=>exact I.after hq
  | next=>exact False.elim hq
  | brk=>exact False.elim hq
  | cont=>exact False.elim hq
def aEx(F:Ab X.prog X.w X.K X.mg X.base CX k f fd ps sp)(hr:lB k X.A)(hg:Gl X x)(hm:X.mg x=NR (.ref f))(hk:K7 X.K (.ref f)=NU)(hb:Binds X.K fd ps ds)(hd:Vals Km ds)(hx:Passes CX X E)
 (ha:PA X (e::es) t) (cm:(x==("__debug__":Str))=NV:=by decide) (he:AJ (e::es) X.env=(NV,AU e X.env)::AJ es X.env:=by rfl) (cE:(Au pos (AJ es X.env)).any (·.1)=NV:=by rfl) :
 PE X (.Call (.Name x p) (e::es) [] pos) (Wz sp Km E t):=by
 intro aE s σ H Q I h;refine BF (Zx I hg hm ?_ cm);refine X8 (h₀:=X.base) I.ok.mod.kin hk (iY (ha pos aE s σ H _ I h) λus s1 ⟨vs,H1,I1,r,q⟩=>⟨I1.Kr,?_⟩) he cE;exact dg F hr hb hd hx I1 r q
def BR{pl:Sem Bool}(he:PE X o ta)(c:Cls X.K C)(hm:Meth X.K C m f)(F:Ab X.prog X.w X.K X.mg X.base CX k f fd ps sp)(hr:lB k X.A)(hb:Binds X.K fd ps ds)(hd:Vals Km ds)(hx:Passes CX X E)(ha:PA X (e::es) t)
 (bt:AJ (e::es) X.env=(NV,AU e X.env)::AJ es X.env:=by rfl) (cE:(Au pos (AJ es X.env)).any (·.1)=NV:=by rfl)
 (ht:AU (.Call (.Attribute o m ah) (e::es) [] pos) X.env=(do
  let ov ←AU o X.env
  EK ah.atName
  let (f,first) ←DI [ov] (EE ov m pl)
  FV pos f first (Au pos (AJ (e::es) X.env)) (EF pos (CU [] X.env))):=by rfl) :
 PE X (.Call (.Attribute o m ah) (e::es) [] pos) (Nm C m sp Km E ta t):=by
 intro aE s σ H Q I h;refine h9 (pl:=pl) (iY (he aE s σ H _ I h) λu s1 ⟨x,H1,I1,rx,a,dx,fs,ex,ea,l,q⟩=>?_) ht;subst ex;obtain rfl:u=AW a:=rx;refine Qu I1 ea c hm l ?_;refine X8 (first:=[.ref a]) (h₀:=X.base) I.ok.mod.kin hm.kp (iY (ha pos aE s1 σ H1 _ I1 q) λus s2 ⟨vs,H2,I2,r,q2⟩=>⟨I2.Kr,?_⟩) bt cE;exact dg (us:=.ref a::us) (vs:=.ref a::vs) F hr hb hd hx I2 (.cons U r) q2
def aBV{pl:Sem Bool}(he:PE X o ta)(c:Cls X.K C)(hm:Meth X.K C m f)(F:Ab X.prog X.w X.K X.mg X.base CX k f fd ps sp)(hr:lB k X.A)(hb:Binds X.K fd ps ds)(hd:Vals Km ds)(hx:Passes CX X E)
 (ht:AU (.Call (.Attribute o m ah) [] [] pos) X.env=(do
  let ov ←AU o X.env
  EK ah.atName
  let (f,first) ←DI [ov] (EE ov m pl)
  FV pos f first (Au pos (AJ [] X.env)) (EF pos (CU [] X.env))):=by rfl) :
 PE X (.Call (.Attribute o m ah) [] [] pos) (Nm C m sp Km E ta oX):=by
 intro aE s σ H Q I h;refine h9 (pl:=pl) (iY (he aE s σ H _ I h) λu s1 ⟨x,H1,I1,rx,a,dx,fs,ex,ea,l,q⟩=>?_) ht;subst ex;obtain rfl:u=AW a:=rx;refine Qu I1 ea c hm l ?_;exact PySem.W.callWith_K0 (first:=[.ref a]) I1.Kr hm.kp (dg (us:=[.ref a]) (vs:=[.ref a]) F hr hb hd hx I1 (.cons U .nil) q)
structure Mk(K:aG)(C f:AF):Prop where
 makes:W6 K C=NU
 init:G3 K (.ref C) "__init__"=NR (NR (.ref f))
 fn:Q8 K (.ref f)=NU
 kp:K7 K (.ref C)=NU
def aBW{aE:List (AF×Obj)}{σ:St}{H:Hp}{s:AG}{Q:VK}{us:List AE}{vs:List V}(M:Mk X.K C f)(F:Ab X.prog X.w X.K X.mg X.base CX k f fd ps sp)(hr:lB (k+1) X.A)(hb:Binds X.K fd ps ds)(hd:Vals Km ds)
 (hx:Passes CX X E) (I:Inv X aE σ H s) (r:Vals vs us)
 (h:∀x dx,H x=sx→H dx=sx→dx≠x→sp (.ref x::(vs++Km)) (upd (upd H dx (.own x)) x (.ins C dx [])) (λv H2=>v=.non∧Q (.ref x) H2) E) :
 AL (AM X.prog X.w) X.A (call (.ref C) us) (EP X aE σ Q) X.xe s:=by
 have hq:=h (s.heap.objs.size+1) s.heap.objs.size (I.hok.fresh (O5 _)) (I.hok.fresh (C9 _)) (F3 (N2 _));have I2:=Inv.made (C:=C) I;have r2:Vals (V.ref (s.heap.objs.size+1)::(vs++Km)) (AW (s.heap.objs.size+1)::(us++ds)):=.cons U (r.append hd);have hl:(AW (s.heap.objs.size+1)::us++ds).length=ps.length:=by have e:=r2.length;rw[F.len _ _ _ _ hq]at e;exact e.symm
 refine JE (aBQ (f:=f) I.Kr M.makes M.init (beq_iff_eq.mp M.fn) (DJ (F.run _ X.stack _ _ ⟨AW (s.heap.objs.size+1)::us,[]⟩ (AW (s.heap.objs.size+1)::(us++ds)) _ _ E (hr.make C us [])
  (I2.env0.make C us []) (hb _ (AW (s.heap.objs.size+1)::us) I2.Kr hl) r2 hq) λr s' hq'=>?_))
 cases r with
 | error e=>exact hx aE σ _ _ e s' I2 hq'
 | ok fl=>
  cases fl with
  | ret u=>obtain⟨v,H',I3,rv,ev,q3⟩:=I2.after hq';subst ev;exact⟨rv,⟨V.ref (s.heap.objs.size+1),H',I3,U,q3⟩⟩
  | next=>exact False.elim hq'
  | brk=>exact False.elim hq'
  | cont=>exact False.elim hq'
def aEy(M:Mk X.K C f)(F:Ab X.prog X.w X.K X.mg X.base CX k f fd ps sp)(hr:lB (k+1) X.A)(hg:Gl X x)(hm:X.mg x=NR (.ref C))(hb:Binds X.K fd ps ds)(hd:Vals Km ds)(hx:Passes CX X E)
 (ha:PA X (e::es) t) (cm:(x==("__debug__":Str))=NV:=by decide) (he:AJ (e::es) X.env=(NV,AU e X.env)::AJ es X.env:=by rfl) (cE:(Au pos (AJ es X.env)).any (·.1)=NV:=by rfl) :
 PE X (.Call (.Name x p) (e::es) [] pos) (aGh C sp Km E t):=by
 intro aE s σ H Q I h;refine BF (Zx I hg hm ?_ cm);refine X8 (h₀:=X.base) I.ok.mod.kin M.kp (iY (ha pos aE s σ H _ I h) λus s1 ⟨vs,H1,I1,r,q⟩=>⟨I1.Kr,?_⟩) he cE;exact aBW M F hr hb hd hx I1 r q
end
section
variable{f:AF}{fd:BU}{ks:List Str}{sp:Sp}{E:XK}{x:Str}{pos kpos:Pos}{o:AK}{es:List AK}{kws:List FH}{t tk:TA}{nm:Option Str}
variable{g:List AE→List AE→List AE}{gV:List V→List V→List V}
end
structure bA(N P:List Str)(sc:BQ):Prop where
 kind:sc.kind=.function
 co:sc.isCoroutine=NV
 gen:sc.isGenerator=NV
 nd:N.Nodup
 pre:N.take P.length=P
 par:∀x∈P,sc.names.lookup x=NR .local∨sc.names.lookup x=NR .cell
 aHv:∀y∈sc.names,y.2≠.free
theorem Xa{kindOf:Str→Option FX}{x:Str}:∀{binds:List (Str×AE)} {m:Str→Option AE},(∀v,(x,v)∉binds)→GY kindOf binds m x=m x
 | [],_,_=>rfl
 | (n,v)::r,m,h=>by
  unfold GY;rw[Xa λw hw=>h w (C6 _ hw)];split
  ·have:x≠n:=by rintro rfl;exact h v C8
   simp[this]
  ·rfl
def Xb{kindOf:Str→Option FX}{x:Str}:∀{binds:List (Str×AE)} {m:Str→Option AE},(∀v,(x,v)∉binds)→Go kindOf binds m x=m x
 | [],_,_=>rfl
 | (n,v)::r,m,h=>by
  unfold Go;rw[Xb λw hw=>h w (C6 _ hw)];split
  ·rfl
  ·have:x≠n:=by rintro rfl;exact h v C8
   simp[this]
theorem Xc{kindOf:Str→Option FX}{x:Str}{v:AE}:∀{P:List Str} {vs:List AE} {i:Nat} {m:Str→Option AE},P.Nodup→P[i]?=NR x→vs[i]?=NR v→kindOf x=NR .local →
 GY kindOf (P.zip vs) m x=NR v
 | [],_,_,_,_,h,_,_=>by simp at h
 | _::_,[],_,_,_,_,h,_=>by simp at h
 | p::P,w::vs,0,m,nd,h1,h2,hk=>by simp at h1 h2;subst h1;subst h2;show GY kindOf ((p,w)::P.zip vs) m p=_;unfold GY;rw[Xa λv hv=>(F1.mp nd).1 (d8 hv).1,sk hk];simp
 | p::P,w::vs,i+1,m,nd,h1,h2,hk=>by show GY kindOf ((p,w)::P.zip vs) m x=_;unfold GY;exact Xc (i:=i) (F1.mp nd).2 (by simpa using h1) (by simpa using h2) hk
def Xd{kindOf:Str→Option FX}{x:Str}{v:AE}:∀{P:List Str} {vs:List AE} {i:Nat} {m:Str→Option AE},P.Nodup→P[i]?=NR x→vs[i]?=NR v→kindOf x≠NR .local →
 Go kindOf (P.zip vs) m x=NR v
 | [],_,_,_,_,h,_,_=>by simp at h
 | _::_,[],_,_,_,_,h,_=>by simp at h
 | p::P,w::vs,0,m,nd,h1,h2,hk=>by simp at h1 h2;subst h1;subst h2;show Go kindOf ((p,w)::P.zip vs) m p=_;unfold Go;rw[Xb λv hv=>(F1.mp nd).1 (d8 hv).1,sv hk];simp
 | p::P,w::vs,i+1,m,nd,h1,h2,hk=>by show Go kindOf ((p,w)::P.zip vs) m x=_;unfold Go;exact Xd (i:=i) (F1.mp nd).2 (by simpa using h1) (by simpa using h2) hk
def start(N:List Str)(vs:List V):St:=vs.map NR++E9 (N.length-vs.length) sx
def Hu(CX:CXT)(P:AQ)(w:AS)(K:aG)(mg:Str→Option AE)(base:Heap)(N:List Str)(qual:Str)(scope:BQ)(f:AF)(cd:AE)(A:AV)(outer:List Env)(s:AG)(H:Hp)(E:XK):Cx where
 prog:=P
 w:=w
 K:=K
 mg:=mg
 base:=base
 A:=A.deeper (CH qual scope s.heap.objs.size f cd)
 N:=N
 s₀:=s
 H₀:=H
 env:=CH qual scope s.heap.objs.size f cd
 outer:=outer
 stack:=CH qual scope s.heap.objs.size f cd::outer
 ex:=[]
 calm:=NU
 fn:=λ_=>NU
 pn:=[]
 xe:=λe s'=>AL (AM P w) (A.deeper (CH qual scope s.heap.objs.size f cd)) (leaving (CH qual scope s.heap.objs.size f cd) e) (λ_ s''=>CX outer H s E e s'') (λe' s''=>CX outer H s E e' s'') s'
def PK{sc:BQ}{n:Nat}{x:Str}(h:sc.names.lookup x=NR .cell):∃c,(KW n sc.names []).lookup x=NR c:=by have q:=f6 sc.names n [] (.inl h);exact U2.mp q
def aAp{CX:CXT}{P:AQ}{w:AS}{K:aG}{mg:Str→Option AE}{base:Heap}{N ps:List Str}{qual:Str}{scope:BQ}{f:AF}{cd:AE}{A:AV}{outer:List Env}{s s1:AG}{H:Hp}{E:XK}{us:List AE}{vs:List V}
 (S:bA N ps scope) (hd:A.handled=sx) (e0:cz P w K mg base A outer s H) (hl:vs.length=ps.length) (r:Vals vs us)
 (x:InCallC s s.heap.objs.size (GY (CH qual scope s.heap.objs.size f cd).kindOf (ps.zip us) λ_=>sx) (KW (s.heap.objs.size+1) scope.names []) (Go (CH qual scope s.heap.objs.size f cd).kindOf (ps.zip us) λ_=>sx) s1) :
 Inv (Hu CX P w K mg base N qual scope f cd A outer s H E) [] (start N vs) H s1:=by
 have cE:ps.length≤N.length:=by have:=congrArg f7 S.pre;rw[G7]at this;omega
 obtain⟨h1,tk,rfl,hk⟩:=x.done;have qr:∀b:AF,b∉(Hu CX P w K mg base N qual scope f cd A outer s H E).ex:=λb z=>absurd (show b∈([]:List AF)from z) (by simp);refine⟨⟨e0.mod,S.kind,U,U,C9 _,λy z c h1 h2=>?_,λy hy=>?_,λy c _ h=>?_,λ_=>hd,Around.frames_deeper e0.frames,.inr ⟨U,U⟩,λb z=>absurd z (qr b),e0.bs,e0.bsz,λb _ _=>qr b,λb z=>absurd z (qr b),e0.Oj,e0.frf⟩,
  rfl,e0.bare,Un.kept hk,⟨_,x.toInCall.ns,λi y v h1 h2 h3=>?_⟩,λy c h=>⟨_,x.cell y c h⟩,e0.hok.fresh (C9 _),λy c h=>?_,λp hp=>absurd (show p∈([]:List (AF×Obj))from hp) (by simp),e0.hok.kept hk,?_⟩
 ·exact name_of_addr x.apart (O0 h1) (O0 h2)
 ·have hy:scope.names.lookup y=NR .cell∨scope.names.lookup y=NR .free:=hy;rcases hy with hy | hy
  ·exact PK hy
  ·exact absurd U (S.aHv _ (O0 hy))
 ·exact P4 (x.above y c (O0 h))
 ·have hi:i<vs.length:=by
   unfold start at h2;by_cases hi:i<vs.length
   ·exact hi
   ·rw[J7 (by simpa using hi)]at h2;rw[O7]at h2;split at h2<;>cases h2
  have ha:vs[i]?=NR v:=by
   unfold start at h2;rw[F9 (by simpa using hi),C5]at h2;cases e:vs[i]? with
   | none=>rw[e]at h2;cases h2
   | some a=>rw[e]at h2;cases h2;rfl
  obtain⟨u,hu,rv⟩:=r.get ha;have hp:ps[i]?=NR y:=by rw[←S.pre,List.getElem?_take_of_lt (by omega)];exact h1
  have ndP:ps.Nodup:=by rw[←S.pre];exact S.nd.sublist (M6 _ _)
  refine⟨u,rv,?_⟩;rcases S.par y (D6 hp)with k | k
  ·exact .inl ⟨k,Xc ndP hp hu k⟩
  ·obtain⟨c,e⟩:=PK (n:=s.heap.objs.size+1) k;refine .inr ⟨.inl k,c,e,?_⟩;have q:=x.cell y c e;rw[Xd ndP hp hu (by show scope.names.lookup y≠_;rw[k];decide)]at q;exact q
 ·exact e0.hok.fresh (P4 (x.above y c (O0 h)))
 ·unfold start;show _=N.length;rw[D1,B8,P7];omega
def aBX{CX:CXT}{P:AQ}{w:AS}{K:aG}{mg:Str→Option AE}{base:Heap}{k:Nat}{f:AF}{name qual:Str}{params:Arguments}{body:List AO}{scope:BQ}{dV kV bX pm ai ct oc:AE}{an od:Option AF}
 {dQ:Array (Option AE)} {N ps:List Str} {sp:Sp} (lk:K.lookup f=NR ⟨oc,od,.func (G5 name qual params body scope dV kV bX pm an ai ct),dQ⟩) (hcd:L6 K ai qual=NU) (S:bA N ps scope)
 (len:∀vs H Q E,sp vs H Q E→vs.length=ps.length)
 (bS:∀(A:AV)(outer:List Env)(s:AG)(H:Hp)(vs:List V)(Q:VK)(E:XK),lB k (A.deeper (CH qual scope s.heap.objs.size f ai))→sp vs H Q E →
  ∃t,NT (Hu CX P w K mg base N qual scope f ai A outer s H E) body t∧t {nx:=λ_ H'=>Q .non H',rt:=Q} (start N vs) H) :
 Ab P w K mg base CX (k+1) f (G5 name qual params body scope dV kV bX pm an ai ct) ps sp:=by
 refine⟨len,λA outer s H args us vs Q E hr e0 hb r gE=>?_⟩;have hl:=len _ _ _ _ gE;have KX:K.In s.heap:=e0.mod.kin.keeps λb o e=>(e0.bs b o e).1;have lim:s.heap.NoLimit:=e0.mod.nolimit.keeps λb o e=>(e0.bs b o e).1;have qv:∀y∈ps.zip us,scope.names.lookup y.1=NR .local∨(scope.names.lookup y.1=NR .cell∧((KW (s.heap.objs.size+1) scope.names []).lookup y.1).isSome=NU):=λ⟨n,v⟩ hy=>by
  rcases S.par n (d8 hy).1 with q | q
  ·exact .inl q
  ·exact .inr ⟨q,f6 _ _ _ (.inl q)⟩
 refine codeAny_call_function hr.depth (KX _ _ lk) U S.co S.gen U (PySem.W.codeRec_of KX hcd) (hb _ _ _ _ ?_);refine wpAny_newFunctionEnv_cells S.kind qv λenv he s1 x=>?_;subst he;refine⟨lim.keeps x.toInCall.keep,codeAny_func ?_⟩;obtain⟨t,ht,hq⟩:=bS A outer s H vs Q E (hr.deeper _) gE;have I:Inv (Hu CX P w K mg base N qual scope f ai A outer s H E) [] (start N vs) H s1:=aAp S hr.hd e0 hl r x;refine BA (ht [] s1 (start N vs) H _ I hq) (λfl s' hs=>?_) λe s' hs=>hs;have ck:∀{σ':St} {H':Hp} {v:V} {u:AE},Inv (Hu CX P w K mg base N qual scope f ai A outer s H E) [] σ' H' s'→RelV v u→Q v H'→CE outer P w H s Q u s':=
  λ{σ' H' v u} J rv q=>⟨v,H',J.os,J.bare,J.base,J.hok,rv,q⟩
 cases fl with
 | ret u=>obtain⟨v,σ',H',J,rv,q⟩:=hs;exact ck J rv q
 | next=>obtain⟨σ',H',J,q⟩:=hs;exact ck (v:=V.non) (u:=BM) J U q
 | brk=>obtain⟨_,_,_,q⟩:=hs;exact False.elim q
 | cont=>obtain⟨_,_,_,q⟩:=hs;exact False.elim q
section
variable{x:Str}{pos:Pos}{es:List AK}{t:TA}{id:String}{r:List V→Hp→VK→Prop}
def tCB(r:List V→Hp→VK→Prop)(t:TA):TE:=λσ H Q=>t σ H λvs H1=>r vs H1 Q
def PL(hc:mQ X (.builtin id) r)(hg:Gl X x)(hm:X.mg x=sx)(hv:AZ x=NR (.builtin id))(ha:PA X (e::es) t)(hn:x ≠ "__name__" := by decide) (cm:(x==("__debug__":Str))=NV:=by decide)
 (he:AJ (e::es) X.env=(NV,AU e X.env)::AJ es X.env:=by rfl) (cE:(Au pos (AJ es X.env)).any (·.1)=NV:=by rfl):PE X (.Call (.Name x p) (e::es) [] pos) (tCB r t):=by
 intro aE s σ H Q I h;refine BF (vZ I hg hm hv ?_ hn cm);exact W7 (iY (ha pos aE s σ H _ I h) λus s1 ⟨vs,H1,I1,r1,q1⟩=>hc aE s1 σ H1 vs us Q I1 r1 q1) he cE
def aAq(hc:mQ X (.type T) r)(hg:Gl X x)(hm:X.mg x=sx)(hv:AZ x=NR (.type T))(ha:PA X (e::es) t)(hn:x ≠ "__name__" := by decide) (cm:(x==("__debug__":Str))=NV:=by decide)
 (he:AJ (e::es) X.env=(NV,AU e X.env)::AJ es X.env:=by rfl) (cE:(Au pos (AJ es X.env)).any (·.1)=NV:=by rfl):PE X (.Call (.Name x p) (e::es) [] pos) (tCB r t):=by
 intro aE s σ H Q I h;refine BF (vZ I hg hm hv ?_ hn cm);exact L4 (iY (ha pos aE s σ H _ I h) λus s1 ⟨vs,H1,I1,r1,q1⟩=>hc aE s1 σ H1 vs us Q I1 r1 q1) he cE
end
end L2
namespace HT
open PySem PyProof.Rows
def aBY(A:AV)(s:AG)(a:Int)(t:Tok)(c:Int)(u:Tok)(prog:AQ)(w:AS)(E:AE→AG→Prop)(Q:AE→AG→Prop)(h:Q (.bool (decide (a<c))) s):
 AL (AM prog w) A (richCompare .Lt (.int a t) (.int c u)) Q E s:=
 (PyProof.Rows.lt_int h:AL (AM prog w) A (AY .Lt (.int a t) (.int c u)) Q E s)
section
variable{prog:AQ}{w:AS}{A:AV}{E:AE→AG→Prop}{s:AG}
def Kv(n d:Nat):Option Int→Nat
 | none=>d
 | some v=>if v<0 then(v+(n:Int)).toNat else min v.toNat n
def aEz(n d k:Nat):Kv n d (NR (k:Int))=min k n:=by show (if(k:Int)<0 then((k:Int)+(n:Int)).toNat else min (k:Int).toNat n)=min k n;rw[sv (by omega),C7]
end
end HT
namespace L2
open PySem PySem.Spec PyProof.Rows
variable{H B Z H0:Hp}{K:aG}{X:Cx}{i k j ep:Nat}{s:AG}{σ:St}{e b c tg:AK}{w:AS}{a C I dx l:AF}{v y:V}{A:AV}{te ta tb t tv:TE}{aE:List (AF×Obj)}{E Q:AE→AG→Prop}{m q:Str}{u bX ai ct oc:AE}{p ah p2 bP ay eD:Pos}{h:Heap}{N ps iS:List Str}{tA:TA}{vs:List V}{tc:TT}{mg:Str→Option AE}{o:HO}{wi:TI}{ks:List Key}{κ:Nat→AF}{pl:Sem Bool}{od:Option AF}{T:String}{kvs:List (List Key×V)}{M:Iq}{r':R2}{dQ:Array (Option AE)}{nK:List AO}{S:Int→Bool}{av:List Bool}{CX:CXT}{js:List Nat}{gz:EH}{dN:Bool}
abbrev TO:=St→Hp→(Option Int→Hp→Prop)→Prop
variable{tl th:TO}
def PO(X:Cx)(e:Option AK)(t:TO):Prop:=
 ∀(aE:List (AF×Obj))(s:AG)(σ:St)(H:Hp)(Q:Option Int→Hp→Prop),Inv X aE σ H s→t σ H Q →
  AL (AM X.prog X.w) X.A (evalPart e X.env) (λu s'=>∃o H',Inv X aE σ H' s'∧IsPart u o∧Q o H') X.xe s
def uf:TO:=λ_ H Q=>Q sx H
def aGj(t:TE):TO:=λσ H Q=>t σ H λx H1=>∃i,x=.int i∧Q (NR i) H1
def intsAre_of{ns:List Int}:∀{us:List AE},Vals (ns.map V.int) us→EL us ns:=by
 induction ns with
 | nil=>intro us r;rw[K9]at r;cases r;exact .nil
 | cons n ns ih=>
  intro us r;rw[E2]at r;cases r with
  | cons r1 r2=>obtain⟨t,e⟩:=r1;subst e;exact .cons n t (ih r2)
section
variable{lo hi:Option AK}{pos:Pos}
def aEA:PO X sx uf:=by intro aE s σ H Q I h;rw[Kx];exact wpAny_pure ⟨sx,H,I,.none,h⟩
def aEB(h:PE X e te):PO X (NR e) (aGj te):=by intro aE s σ H Q I hw;rw[evalPart_some];refine iY (h aE s σ H _ I hw) λu s1 ⟨x,H1,I1,r1,q1⟩=>?_;obtain⟨i,rfl,q⟩:=q1;obtain⟨t,rfl⟩:=r1;exact⟨NR i,H1,I1,.int i t,q⟩
def SlR(X:Cx)(r:V→Option Int→Option Int→Hp→VK→Prop):Prop:=
 ∀(aE:List (AF×Obj))(s:AG)(σ:St)(H:Hp)(x:V)(v vl vu:AE)(lo hi:Option Int)(sl:AF)(Q:VK),Inv X aE σ H s→RelV x v→s.heap.IsSliceOf sl vl vu .none→IsPart vl lo→IsPart vu hi→r x lo hi H Q →
  ∃T id,typeLookup (.type T) "__getitem__"=pure (NR (.builtin id))∧s.TypeIs v T∧AL (AM X.prog X.w) X.A (GO v (.ref sl)) (EP X aE σ Q) X.xe s
def tSl(r:V→Option Int→Option Int→Hp→VK→Prop)(te:TE)(tl th:TO):TE:=λσ H Q=>te σ H λx H1=>tl σ H1 λl H2=>th σ H2 λu H3=>r x l u H3 Q
def PN{r:V→Option Int→Option Int→Hp→VK→Prop}(hr:SlR X r)(he:PE X e te)(hl:PO X lo tl)(hu:PO X hi th):PE X (.Subscript e (.Slice lo hi sx p2) pos) (tSl r te tl th):=by intro aE s σ H Q I h;refine JI (iY (he aE s σ H _ I h) λv s1 ⟨x,H1,I1,r1,q1⟩=>?_);refine wpAny_Slice (iY (hl aE s1 σ H1 _ I1 q1) λvl s2 ⟨l,H2,I2,pl,q2⟩=>iY (hu aE s2 σ H2 _ I2 q2) λvu s3 ⟨u,H3,I3,pu,q3⟩=>?_);rw[Kx];refine wpAny_pure ?_;have I4:Inv X aE σ H3 {s3 with heap:=s3.heap.push {cls:=.type "slice",data:=.fields #[vl,vu,.none]}}:=I3.kept (t':=s3.toks) λb ob q=>AI _ q;obtain⟨T,id,hT,ht,hg⟩:=hr aE {s3 with heap:=s3.heap.push {cls:=.type "slice",data:=.fields #[vl,vu,.none]}} σ H3 x v vl vu l u s3.heap.objs.size Q I4 r1 (MX ..) pl pu q3;show AL (AM X.prog X.w) X.A (HL e (.Slice lo hi sx p2) v (.ref s3.heap.objs.size)) (EP X aE σ Q) X.xe {s3 with heap:=s3.heap.push {cls:=.type "slice",data:=.fields #[vl,vu,.none]}};exact tail_any (ops:=[.ref s3.heap.objs.size,v]) ht hT hg (by with_unfolding_all rfl)
def dh(xs:List V)(lo hi:Option Int):List V:=(xs.drop (HT.Kv xs.length 0 lo)).take (HT.Kv xs.length xs.length hi-HT.Kv xs.length 0 lo)
def PQ(xs:List V)(lo hi:Option Int):(dh xs lo hi).length≤xs.length:=by unfold dh;rw[G7,O1];omega
end
def ZW(n:Nat)(i:Int):Option Nat:=if 0≤i then(if i<n then NR i.toNat else sx)else if -(n:Int)≤i then NR (i+n).toNat else sx
def ZX{α:Type}(xs:List α)(i:Int):Option α:=(ZW xs.length i).bind λj=>xs[j]?
def ug{n:Nat}{i:Int}(h:ZW n i=NR j):Ki i n=NR j∧j<n∧-(n:Int)≤i∧i<n:=by
 unfold ZW at h;by_cases h0:0≤i
 ·rw[sk h0]at h;by_cases h1:i<n
  ·rw[sk h1]at h;have e:i.toNat=j:=E6 h;exact⟨by rw[GA h0 h1,e],by omega,by omega,h1⟩
  ·rw[sv h1]at h;cases h
 ·rw[sv h0]at h;by_cases h1:-(n:Int)≤i
  ·rw[sk h1]at h;have e:(i+n).toNat=j:=E6 h;exact⟨by rw[ID (by omega) h1,e],by omega,h1,by omega⟩
  ·rw[sv h1]at h;cases h
def BV{α:Type}{xs:List α}{i:Int}{v:α}(h:ZX xs i=NR v):∃j,Ki i xs.length=NR j∧xs[j]?=NR v∧j<xs.length∧-(xs.length:Int)≤i∧i<xs.length:=by
 unfold ZX at h;cases e:ZW xs.length i with
 | none=>rw[e]at h;cases h
 | some j=>rw[e]at h;obtain⟨h1,h2,h3,h4⟩:=ug e;exact⟨j,h1,h,h2,h3,h4⟩
def aEC{α:Type}{xs:List α}{v:α}(h:xs[j]?=NR v):ZX xs (j:Int)=NR v:=by
 have hj:j<xs.length:=(D4.mp h).1;have e:ZW xs.length (j:Int)=NR j:=by unfold ZW;rw[sk (by omega),sk (by omega)];simp
 unfold ZX;rw[e];exact h
def BW(b:AK):Prop:=∀o i,GG b NV o i=operate [o,i] (GO o i)
def IxR(X:Cx)(r:R2):Prop:=
 ∀(value slice:AK)(aE:List (AF×Obj))(s:AG)(σ:St)(H:Hp)(x y:V)(v u:AE)(Q:VK),Inv X aE σ H s→RelV x v→RelV y u→r x y H Q →
  GG slice NV v u=operate [v,u] (GO v u)→AL (AM X.prog X.w) X.A (HL value slice v u) (EP X aE σ Q) X.xe s
def MtR(X:Cx)(id:String)(r:V→List V→Hp→VK→Prop):Prop:=
 ∀(aE:List (AF×Obj))(s:AG)(σ:St)(H:Hp)(x:V)(xs:List V)(v:AE)(us:List AE)(Q:VK),Inv X aE σ H s→RelV x v→Vals xs us→r x xs H Q →
  AL (AM X.prog X.w) X.A (call (.builtin id) (v::us)) (EP X aE σ Q) X.xe s
section
variable{a:AK}{pos:Pos}
def IxR.or{r:R2}(h:IxR X r)(h':IxR X r'):IxR X (λx y H Q=>r x y H Q∨r' x y H Q):=by
 intro value slice aE s σ H x y v u Q I rx ry q hs;rcases q with q | q
 ·exact h value slice aE s σ H x y v u Q I rx ry q hs
 ·exact h' value slice aE s σ H x y v u Q I rx ry q hs
def aGk{r:R2}(hr:IxR X r)(ha:PE X a ta)(hb:PE X b tb)(hs:BW b):PE X (.Subscript a b pos) (OD r ta tb):=by intro aE s σ H Q I h;exact JI (aHl ha hb I h λv u s2 x y H2 I2 rx ry q=>hr a b aE s2 σ H2 x y v u Q I2 rx ry q (hs _ _))
def aJH(K:aG):R2:=λx y H Q=>∃p xs i v,x=.ref p∧y=.int i∧oU K H p xs∧ZX xs i=NR v∧Q v H
def aJI(K:aG):R2:=λx y H Q=>∃p xs i v,x=.ref p∧y=.int i∧xW K H p xs∧ZX xs i=NR v∧Q v H
def aJJ:R2:=λx y H Q=>∃z i c,x=.str z∧y=.int i∧z.length≤sizeLine∧ZX z.cps.toList i=NR c∧Q (.str ⟨#[c]⟩) H
def aED:IxR X (aJH X.K):=by
 intro value slice aE s σ H x y v u Q I rx ry h hs;obtain⟨p,xs,i,z,rfl,rfl,hq,he,q⟩:=h;cases rx;obtain⟨t,rfl⟩:=ry;obtain⟨af,r,pl,hz⟩:=I.list hq;obtain⟨j,h1,h2,h3,h4,h5⟩:=BV he;obtain⟨w,ew,Qv⟩:=r.get h2;have hl:=r.length;have hn:=Qt;have ck:EP X aE σ Q w s:=⟨z,H,I,Qv,q⟩
 by_cases h0:0≤i
 ·have hj:i.toNat=j:=by rw[GA h0 h5]at h1;exact E6 h1
  exact item_listR pl.isList h0 (by omega) (by rw[hj];simpa using ew) ck hs
 ·have hj:(i+(af.toArray.size:Int)).toNat=j:=by rw[ID (by omega) h4]at h1;rw[D3,←hl];exact E6 h1
  exact GH (x:=w) pl.isList.typeIs slot_list_getitem.lookup
   (wpAny_getItem_list_neg (Q:=λr s'=>r=w∧EP X aE σ Q r s') pl.isList (by omega) (by rw[D3]<;>omega) (by omega) (by rw[hj];simpa using ew) ⟨U,ck⟩) hs
def aHw:IxR X (aJI X.K):=by
 intro value slice aE s σ H x y v u Q I rx ry h hs;obtain⟨p,xs,i,z,rfl,rfl,hq,he,q⟩:=h;cases rx;obtain⟨t,rfl⟩:=ry;obtain⟨af,r,pl,hz⟩:=I.tuple hq;obtain⟨j,h1,h2,h3,h4,h5⟩:=BV he;obtain⟨w,ew,Qv⟩:=r.get h2;have hl:=r.length;have hn:=Qt;have ck:EP X aE σ Q w s:=⟨z,H,I,Qv,q⟩
 exact GH (x:=w) pl.typeIs slot_tuple_getitem.lookup
  (getItem_tuple (j:=j) (Q:=λr s'=>r=w∧EP X aE σ Q r s') pl (by omega) (by omega) (by rw[D3,←hl];exact h1) (by simpa using ew) ⟨U,ck⟩) hs
def aHx:IxR X aJJ:=by
 intro value slice aE s σ H x y v u Q I rx ry h hs;obtain⟨z,i,c,rfl,rfl,hz,he,q⟩:=h;obtain⟨t,rfl⟩:=rx;obtain⟨t',rfl⟩:=ry;obtain⟨j,h1,h2,h3,h4,h5⟩:=BV he;have hl:z.cps.toList.length=z.length:=by simp[Str.length]
 rw[hl]at h1 h4 h5;have hn:=Qt;exact tail_any (typeIs_str s z t) slot_str_getitem.lookup (getItem_str (c:=c) (by
  have e1:decide (i < -(2 ^ 63:Int))=NV:=tj (by omega);have e2:decide (i≥2 ^ 63)=NV:=tj (by omega);rw[e1,e2,z6]) (by rw[h1];simpa using h2) ⟨.str ⟨#[c]⟩,H,I.tok _,⟨_,U⟩,q⟩) hs
def rIx(K:aG):R2:=λx y H Q=>aJH K x y H Q∨aJI K x y H Q∨aJJ x y H Q
def aHy:IxR X (rIx X.K):=aED.or (aHw.or aHx)
def di(af:List AE)(n j:Nat)(u:AE):EG (·.setIfInBounds j u) {cls:=.type "list",data:=.seq af.toArray n}={cls:=.type "list",data:=.seq (af.set j u).toArray n}:=by simp[EG]
def Inv.lst{aE:List (AF×Obj)}{σ:St}{H:Hp}{s:AG}{p:AF}{xs:List V}(I:Inv X aE σ H s)(h:H p=NR (.lst xs)) :
 ∃(af:List AE)(n:Nat),Vals xs af∧s.heap.get? p=NR {cls:=.type "list",data:=.seq af.toArray n}∧xs.length≤sizeLine:=by
 obtain⟨z,af,n,r,e⟩:=I.hok p _ h;exact⟨af,n,r,e,z⟩
def Inv.aHz{aE:List (AF×Obj)}{σ:St}{H:Hp}{s:AG}{p:AF}{xs ys:List V}{af ca:List AE}{n n':Nat}{f:Obj→Obj}(I:Inv X aE σ H s)(h:H p=NR (.lst xs))
 (ho:s.heap.get? p=NR {cls:=.type "list",data:=.seq af.toArray n}) (hf:f {cls:=.type "list",data:=.seq af.toArray n}={cls:=.type "list",data:=.seq ca.toArray n'}) (r:Vals ys ca) (hz:ys.length≤sizeLine) (t:Nat) :
 Inv X aE σ (upd H p (.lst ys)) {s with heap:=s.heap.update p f,toks:=t}:=by
 have e:(s.heap.update p f).get? p=NR {cls:=.type "list",data:=.seq ca.toArray n'}:=by rw[BN f ho (by rw[hf]<;>rfl),hf]
 refine I.write (x:=p) (e:=p) (by rw[h];trivial) (.inl U) (λb u hb q=>(BT _ _ (Ne.symm hb)).trans q) ⟨_,e⟩ ?_;exact⟨hz,ca,n',r,e⟩
def Xe:V→V→V→Hp→(Hp→Prop)→Prop:=λo i v H Q=>∃p xs k j,o=.ref p∧i=.int k∧H p=NR (.lst xs)∧ZW xs.length k=NR j∧Q (upd H p (.lst (xs.set j v)))
def set_list:aJv X Xe:=by
 intro aE s σ H o i v ov iv u Q I ro ri rv h;obtain⟨p,xs,k,j,rfl,rfl,hp,hj,q⟩:=h;cases ro;obtain⟨t,rfl⟩:=ri;obtain⟨af,n,r,ho,hz⟩:=I.lst hp;obtain⟨h1,h2,h3,h4⟩:=ug hj;have hl:=r.length;have hn:=Qt;have I':Inv X aE σ (upd H p (.lst (xs.set j v))) {s with heap:=s.heap.update p (EG (·.setIfInBounds j u))}:=
  I.aHz hp ho (di af n j u) (r.set rv j) (by rw[J5];exact hz) s.toks
 by_cases h0:0≤k
 ·have hk:k.toNat=j:=by rw[GA h0 h4]at h1;exact E6 h1
  exact PySem.W.ki_setAt ho h0 (by omega) (by rw[D3,←hl];exact h4) (by rw[hk];exact⟨_,I',q⟩)
 ·have hk:(k+(af.toArray.size:Int)).toNat=j:=by rw[ID (by omega) h3]at h1;rw[D3,←hl];exact E6 h1
  exact PySem.W.ki_setBack ho (by omega) (by rw[D3,←hl];exact h3) (by omega) (by rw[hk];exact⟨_,I',q⟩)
def BX(lo hi:Option Int)(n:Nat):(Dx lo hi sx n).1=((HT.Kv n 0 lo:Nat):Int)∧(Dx lo hi sx n).2.1=((HT.Kv n n hi:Nat):Int)∧(Dx lo hi sx n).2.2=1:=by
 refine⟨?_,?_,U⟩
 ·cases lo with
  | none=>simp[Dx,HT.Kv]
  | some i=>
   simp only[Dx,HT.Kv,r6,show (1:Int) > 0 by decide,if_true];by_cases h:i<0
   ·simp only[h,if_true]<;>omega
   ·simp only[h,if_false]<;>omega
 ·cases hi with
  | none=>simp[Dx,HT.Kv]
  | some i=>
   simp only[Dx,HT.Kv,r6,show (1:Int) > 0 by decide,if_true];by_cases h:i<0
   ·simp only[h,if_true]<;>omega
   ·simp only[h,if_false]<;>omega
def Vt(af:List AE)(lo hi:Option Int):slicePick af.toArray lo hi sx=((af.drop (HT.Kv af.length 0 lo)).take (HT.Kv af.length af.length hi-HT.Kv af.length 0 lo)).toArray:=by obtain⟨h1,h2,h3⟩:=BX lo hi af.toArray.size;unfold slicePick;rw[h1,h2,h3];simp only[sliceRange_one,pick_run,D3]<;>rfl
def aEE(K:aG):V→Option Int→Option Int→Hp→VK→Prop:=λx lo hi H Q=>∃a xs,x=.ref a∧oU K H a xs∧∀p,H p=sx→Q (.ref p) (upd H p (.lst (dh xs lo hi)))
def aEF:SlR X (aEE X.K):=by intro aE s σ H x v vl vu lo hi sl Q I rx hs pl pu h;obtain⟨a,xs,rfl,hx,q⟩:=h;cases rx;obtain⟨af,r,ht,hz⟩:=I.list hx;have ag:=r.length;refine⟨"list",_,slot_list_getitem.lookup,ht.isList.typeIs,?_⟩;refine wpAny_getItem_list_slice ht.isList hs pl pu .none (by simp) ?_ (by rw[D3]<;>omega);rw[Vt,←ag];refine⟨.ref s.heap.objs.size,_,I.laid (t':=s.toks) (o:=.lst (dh xs lo hi)) (λb ob q=>AI _ q) (C9 _) ?_,U,q _ (I.hok.fresh (C9 _))⟩;exact⟨G1 (PQ xs lo hi) hz,_,0,(r.drop (HT.Kv xs.length 0 lo)).take (HT.Kv xs.length xs.length hi-HT.Kv xs.length 0 lo),AR _ U⟩
def An:V→Bool
 | .non=>NU
 | .bl _=>NU
 | .int _=>NU
 | .str _=>NU
 | _=>NV
def eqV:V→V→Bool
 | .non,.non=>NU
 | .bl a,.bl b=>a==b
 | .bl a,.int b=>(if a then 1 else 0)==b
 | .int a,.bl b=>a==(if b then 1 else 0)
 | .int a,.int b=>a==b
 | .str a,.str b=>a==b
 | _,_=>NV
def aHA{x:V}{v:AE}(ry:RelV y u)(rx:RelV x v)(fy:An y=NU)(fx:An x=NU):MB A s u v (eqV y x):=by
 cases y with
 | non=>
  cases ry;cases x with
  | non=>cases rx;exact NF _
  | bl b=>cases rx;exact MC b
  | int b=>obtain⟨t,rfl⟩:=rx;exact ML b t
  | str b=>obtain⟨t,rfl⟩:=rx;exact MM b t
  | _=>exact absurd (show NV=NU from fx) E8
 | bl a=>
  cases ry;cases x with
  | non=>cases rx;exact MD a
  | bl b=>cases rx;exact ME a b
  | int b=>obtain⟨t,rfl⟩:=rx;exact MO a b t
  | str b=>obtain⟨t,rfl⟩:=rx;exact MQ a b t
  | _=>exact absurd (show NV=NU from fx) E8
 | int a=>
  obtain⟨t',rfl⟩:=ry;cases x with
  | non=>cases rx;exact MR a t'
  | bl b=>cases rx;exact MS a t' b
  | int b=>obtain⟨t,rfl⟩:=rx;exact MY a t' b t
  | str b=>obtain⟨t,rfl⟩:=rx;exact HU a t' b t
  | _=>exact absurd (show NV=NU from fx) E8
 | str a=>
  obtain⟨t',rfl⟩:=ry;cases x with
  | non=>cases rx;exact MU a t'
  | bl b=>cases rx;exact MV a t' b
  | int b=>obtain⟨t,rfl⟩:=rx;exact HV a t' b t
  | str b=>obtain⟨t,rfl⟩:=rx;exact MZ a t' b t
  | _=>exact absurd (show NV=NU from fx) E8
 | _=>exact absurd (show NV=NU from fy) E8
def eqU(x:V)(u:AE):Bool:=match u with
 | .none=>eqV .non x
 | .bool b=>eqV (.bl b) x
 | .int i _=>eqV (.int i) x
 | .str z _=>eqV (.str z) x
 | _=>NV
def aBZ{x:V}(r:RelV y u)(f:An y=NU):eqU x u=eqV y x:=by
 cases y with
 | non=>cases r;rfl
 | bl b=>cases r;rfl
 | int i=>obtain⟨t,rfl⟩:=r;rfl
 | str z=>obtain⟨t,rfl⟩:=r;rfl
 | _=>exact absurd (show NV=NU from f) E8
def BZ{x:V}:∀{xs:List V} {us:List AE},Vals xs us→xs.all An=NU→us.any (eqU x)=xs.any λy=>eqV y x
 | _,_,.nil,_=>rfl
 | y::xs,u::us,.cons r t,f=>by rw[z7,J2]at f;rw[V6,V6,aBZ r f.1,BZ t f.2]
def Qw{x:V}{v:AE}(rx:RelV x v)(fx:An x=NU):∀{xs:List V} {us:List AE},Vals xs us→xs.all An=NU→∀u∈us,MB A s u v (eqU x u)
 | _,_,.nil,_=>λu hu=>by cases hu
 | y::xs,u::us,.cons r t,f=>λu' hu=>by
  rw[z7,J2]at f;rcases B9.mp hu with rfl | hu
  ·rw[aBZ r f.1];exact aHA r rx f.1 fx
  ·exact Qw rx fx t f.2 u' hu
def inV(x:V)(xs:List V):Bool:=xs.any λy=>eqV y x
def rIn(K:aG)(cb:Bool):R2:=λx y H Q=>∃p xs,y=.ref p∧(oU K H p xs∨xW K H p xs)∧An x=NU∧xs.all An=NU∧Q (.bl (if cb then !inV x xs else inV x xs)) H
def CG:vC X (AY .NotIn) (rIn X.K NU):=by
 intro aE s σ H x y v u Q I rx ry h;obtain⟨p,xs,rfl,hq,fx,fs,q⟩:=h;cases ry;rcases hq with hq | hq
 ·obtain⟨af,r,pl,hz⟩:=I.list hq;refine SeqAt.notIn_listAt (eqU x) pl.isList (λw hw=>Qw rx fx r fs w (by simpa using hw)) ⟨.bl _,H,I,U,?_⟩;rw[show af.toArray.any (eqU x)=af.any (eqU x) by simp,BZ r fs];exact q
 ·obtain⟨af,r,pl,hz⟩:=I.tuple hq;refine SeqAt.notIn_tupleAt (eqU x) pl (λw hw=>Qw rx fx r fs w (by simpa using hw)) ⟨.bl _,H,I,U,?_⟩;rw[show af.toArray.any (eqU x)=af.any (eqU x) by simp,BZ r fs];exact q
def CJ:mQ X (.builtin "len") (λxs H Q=>∃p ys,xs=[.ref p]∧(oU X.K H p ys∨xW X.K H p ys)∧Q (.int ys.length) H):=by
 intro aE s σ H xs us Q I r h;obtain⟨p,ys,rfl,hq,q⟩:=h;obtain⟨u,rfl,rx⟩:=vals1 r;cases rx;have hn:=Qt;rcases hq with hq | hq
 ·obtain⟨af,r',pl,hz⟩:=I.list hq;have ag:=r'.length;exact Calls.call_len_list pl.isList (by simp only[D3]<;>omega) ⟨.int ys.length,H,I.tok _,⟨s.toks+1,by rw[D3,ag]⟩,q⟩
 ·obtain⟨af,r',pl,hz⟩:=I.tuple hq;have ag:=r'.length;exact len_tuple pl (by simp only[D3]<;>omega) ⟨.int ys.length,H,I.tok _,⟨s.toks+1,by rw[D3,ag]⟩,q⟩
def CK:mQ X (.type "list") (λxs H Q=>∃p ys,xs=[.ref p]∧(oU X.K H p ys∨xW X.K H p ys)∧∀l,H l=sx→Q (.ref l) (upd H l (.lst ys))):=by
 intro aE s σ H xs us Q I r h;obtain⟨p,ys,rfl,hq,q⟩:=h;obtain⟨u,rfl,rx⟩:=vals1 r;cases rx;have ck:∀(af:List AE),Vals ys af→ys.length≤sizeLine→∀(h':Heap)(c':Nat),(∀b o',s.heap.get? b=NR o'→h'.get? b=NR o') →
  h'.get? s.heap.objs.size=NR {cls:=.type "list",dict:=sx,data:=.seq af.toArray c',slots:=#[]}→EP X aE σ Q (.ref s.heap.objs.size) {s with heap:=h'}:=λaf r' hz h' c' kp e=>
  ⟨.ref s.heap.objs.size,_,I.laid (t':=s.toks) kp (C9 _) (show jU X.prog X.w _ h' _ (.lst ys)from⟨hz,af,c',r',e⟩),U,q _ (I.hok.fresh (C9 _))⟩
 rcases hq with hq | hq
 ·obtain⟨af,r',pl,hz⟩:=I.list hq;have ag:=r'.length;obtain⟨o,ho,hc,n,hd⟩:=pl.isList;exact LA p (.inl U) ho hc hd (λh' c' kp e=>ck af r' hz h' c' kp e) (by simp only[D3]<;>omega)
 ·obtain⟨af,r',pl,hz⟩:=I.tuple hq;have ag:=r'.length;obtain⟨o,ho,hc,n,hd⟩:=pl;exact LA p (.inr U) ho hc hd (λh' c' kp e=>ck af r' hz h' c' kp e) (by simp only[D3]<;>omega)
def Vu:mQ X (.type "tuple") (λxs H Q=>∃p ys,xs=[.ref p]∧((oU X.K H p ys∧∀l,H l=sx→Q (.ref l) (upd H l (.tup ys)))∨(xW X.K H p ys∧Q (.ref p) H))):=by
 intro aE s σ H xs us Q I r h;obtain⟨p,ys,rfl,h⟩:=h;obtain⟨u,rfl,rx⟩:=vals1 r;cases rx;rcases h with ⟨hq,q⟩ | ⟨hq,q⟩
 ·obtain⟨af,r',pl,hz⟩:=I.list hq;have ag:=r'.length;refine call_tuple_list pl.isList (λh' kp=>?_) (by simp only[D3]<;>omega);have I1:Inv X aE σ H {s with heap:=h'}:=I.kept (t':=s.toks) kp;have I2:Inv X aE σ (upd H h'.objs.size (.tup ys)) {s with heap:=h'.push {cls:=.type "tuple",data:=.seq af.toArray}}:=
   I1.laid (t':=s.toks) (λb o e=>AI _ e) (C9 _) (show jU X.prog X.w _ _ _ (.tup ys)from⟨hz,af,r',IsTup.new _ _⟩)
  exact⟨.ref h'.objs.size,_,I2,U,q _ (I1.hok.fresh (C9 _))⟩
 ·obtain⟨af,r',pl,hz⟩:=I.tuple hq;exact call_tuple_same pl ⟨.ref p,H,I,U,q⟩
def tyV(K:aG)(T:String)(x:V)(H:Hp):Prop:=match x with
 | .str _=>T = "str"
 | .int _=>T = "int"
 | .ref p=>(T = "list" ∧ ∃xs,oU K H p xs)∨(T = "tuple" ∧ ∃o,K.lookup p=NR o∧o.cls=.type "tuple" ∧ o.dict=sx) ∨
  (T = "dict" ∧ ((∃kvs,H p=NR (.dK kvs))∨∃kvs,H p=NR (.dT kvs)))∨(T = "set" ∧ ∃S n,H p=NR (.set S n))
 | _=>False
def aHB{x:V}{v:AE}(I:Inv X aE σ H s)(r:RelV x v)(ty:tyV X.K T x H):
 s.TypeIs v T∧∀a,v=.ref a→∃ob,s.heap.get? a=NR ob∧ob.dict=sx:=by
 cases x with
 | str z=>
  obtain⟨t,rfl⟩:=r
  cases(show T = "str" from ty)
  exact⟨typeIs_str s z t,λ_ e=>nomatch e⟩
 | int i=>
  obtain⟨t,rfl⟩:=r
  cases(show T = "int" from ty)
  exact⟨typeIs_int s i t,λ_ e=>nomatch e⟩
 | ref p=>
  cases r;rcases ty with ⟨rfl,xs,hq⟩ | ⟨rfl,o,hk,hc,hd⟩ | ⟨rfl,hk⟩ | ⟨rfl,S,n,hk⟩
  ·obtain⟨af,_,pl,_⟩:=I.list hq;refine⟨pl.isList.typeIs,λa e=>?_⟩;cases e;obtain⟨o,n,e,c,hd,_⟩:=pl;exact⟨o,e,hd⟩
  ·refine⟨⟨o,I.Kr p o hk,hc⟩,λa e=>?_⟩;cases e;exact⟨o,I.Kr _ o hk,hd⟩
  ·have z:∃o,s.heap.get? p=NR o∧o.ExactDict:=by
    rcases hk with ⟨kvs,hk⟩ | ⟨kvs,hk⟩
    ·obtain⟨_,_,_,_,o,_,_,e,ex,_⟩:=I.hok p _ hk;exact⟨o,e,ex⟩
    ·obtain⟨_,_,_,_,o,_,_,e,ex,_⟩:=I.hok p _ hk;exact⟨o,e,ex⟩
   obtain⟨o,e,ex⟩:=z;refine⟨⟨o,e,ex.1⟩,λa e2=>?_⟩;cases e2;exact⟨o,e,ex.2.1⟩
  ·obtain⟨o,_,_,_,e,ex,_⟩:=I.hok p _ hk;refine⟨⟨o,e,ex.1⟩,λa e2=>?_⟩;cases e2;exact⟨o,e,ex.2.1⟩
 | _=>exact False.elim ty
def Qx(K:aG)(T:String)(r:V→List V→Hp→VK→Prop)(to:TE)(t:TA):TE:=λσ H Q=>to σ H λx H1=>tyV K T x H1∧t σ H1 λxs H2=>r x xs H2 Q
variable{o:AK}{es:List AK}{to:TE}{t:TA}{name:Str}{id:String}{r:V→List V→Hp→VK→Prop}
def qY(pa:PlainAttrs T)(slot:Slot T name id)(hty:typeOf (.builtin id)=pure (.type "method_descriptor")) (hm:MtR X id r) (ho:PE X o to) (ha:PA X (e::es) t)
 (rL:Co o name X.env (AU o X.env)=AU o X.env:=by rfl)
 (hfew:((Au ay (AJ (e::es) X.env)).all (λx=>!x.1)&&(EF ay (CU [] X.env)).all (λx=>x.1.isSome)
  && decide ((e::es).length+([]:List FH).length+(if([]:List FH).isEmpty then 0 else 1)<30))=NU:=by rfl)
 (rV:(ah.endLine==ay.line)=NU:=by rfl) (hs:AJ (e::es) X.env=(NV,AU e X.env)::AJ es X.env:=by rfl) (ml:(Au ay (AJ es X.env)).any (·.1)=NV:=by rfl) :
 PE X (.Call (.Attribute o name ah) (e::es) [] ay) (Qx X.K T r to t):=by
 intro aE s σ H Q I h;refine wpAny_Call_method_late rL hfew rV U (iY (ho aE s σ H _ I h) λv s1 ⟨x,H1,I1,r1,ty,q1⟩=>?_);obtain⟨h1,h2⟩:=aHB I1 r1 ty;refine⟨T,id,pa,slot,hty,h1,h2,?_⟩;have hA:=ha ay aE s1 σ H1 _ I1 q1;rw[hs]at hA ⊢;refine GI (by show (NV||(Au ay (AJ es X.env)).any (·.1))=NV;rw[ml]<;>rfl) (HA ?_);exact iY hA λus s2 ⟨vs,H2,I2,r2,q2⟩=>hm aE s2 σ H2 x vs v us Q I2 r1 r2 q2
end
def MtM(X:Cx)(id:String)(r:V→List V→Hp→VK→Prop):Prop:=
 ∀(aE:List (AF×Obj))(s:AG)(σ:St)(H:Hp)(x:V)(xs:List V)(v:AE)(us:List AE)(Q:VK),Inv X aE σ H s→RelV x v→Vals xs us→r x xs H Q →
  AL (AM X.prog X.w) X.A (call (.builtin id) (v::us)) (EP X aE σ Q) X.xe s
def Vals.one:∀{x:V} {us:List AE},Vals [x] us→∃u,us=[u]∧RelV x u
 | _,_,.cons r .nil=>⟨_,U,r⟩
def Vals.two:∀{x y:V} {us:List AE},Vals [x,y] us→∃u v,us=[u,v]∧RelV x u∧RelV y v
 | _,_,_,.cons r (.cons q .nil)=>⟨_,_,U,r,q⟩
def Vals.eraseIdx:∀{xs:List V} {us:List AE} (i:Nat),Vals xs us→Vals (xs.eraseIdx i) (us.eraseIdx i)
 | _,_,_,.nil=>.nil
 | _,_,0,.cons _ t=>t
 | _,_,i+1,.cons r t=>.cons r (Vals.eraseIdx i t)
def Kw{α:Type}:∀(l:List α)(i:Nat),(l.eraseIdx i).length≤l.length
 | [],_=>C9 _
 | _::_,0=>O5 _
 | _::r,i+1=>S7 (Kw r i)
section
variable{b:AF}{xs ys zs:List V}
def Inv.aEG{af ca:List AE}{n:Nat}{f:Array AE→Array AE}{t':Nat}(I:Inv X aE σ H s)(hH:H l=NR (.lst xs))
 (e:s.heap.get? l=NR {cls:=.type "list",data:=.seq af.toArray n}) (hf:f af.toArray=ca.toArray) (hv:Vals ys ca) (hz:ys.length≤sizeLine) :
 Inv X aE σ (upd H l (.lst ys)) {s with heap:=s.heap.update l (EG f),toks:=t'}:=by
 have q:=PySem.IsL.update e f;rw[hf]at q;refine I.write (x:=l) (e:=l) (by rw[hH];exact trivial) (.inl U) (λb' u hb hu=>(BT s.heap (EG f) (Ne.symm hb)).trans hu) ⟨_,q⟩ ?_;exact⟨hz,ca,_,hv,q⟩
def Inv.aJL{t':Nat}(I:Inv X aE σ H s)(hv:Vals ys af)(hz:ys.length≤sizeLine):
 Inv X aE σ (upd H s.heap.objs.size (.lst ys)) {s with heap:=s.heap.push {cls:=.type "list",data:=.seq af.toArray},toks:=t'}:=
 I.laid (λ_ _ q=>AI _ q) (C9 _) ⟨hz,af,0,hv,AR _ U⟩
def Inv.fresh(I:Inv X aE σ H s):H s.heap.objs.size=sx:=I.hok.fresh (C9 _)
def Inv.aEH(I:Inv X aE σ H s)(hH:H l=NR (.lst xs)):xs.length≤sizeLine∧∃(af:List AE)(n:Nat),Vals xs af∧xs.length=af.length∧s.heap.get? l=NR {cls:=.type "list",data:=.seq af.toArray n}:=by obtain⟨z,af,n,r,e⟩:=I.hok l _ hH;exact⟨z,af,n,r,r.length,e⟩
end
section
def pC:V→List V→Hp→VK→Prop:=λx vs H Q=>∃l xs y,x=.ref l∧vs=[y]∧H l=NR (.lst xs)∧xs.length<sizeLine∧Q .non (upd H l (.lst (xs++[y])))
def jN:MtM X "list.append" pC:=by intro aE s σ H x vs v us Q I rx rv h;obtain⟨l,xs,y,rfl,rfl,hH,hz,q⟩:=h;cases rx;obtain⟨u,rfl,ru⟩:=rv.one;obtain⟨z,af,n,r,hl,e⟩:=I.aEH hH;refine FG F.slot_list_append ⟨_,e,U⟩ F.entry_list_append (F.args_list_append_2 _ _) (PySem.list_append l af.toArray n u (by rw[D3];omega)) ⟨e,?_⟩;refine⟨.non,_,I.aEG (ca:=af++[u]) hH e (by simp) (r.append (.cons ru .nil)) ?_,U,q⟩;rw[D1,i3];omega
def CN:V→List V→Hp→VK→Prop:=λx vs H Q=>∃l xs i k y,x=.ref l∧vs=[.int i]∧H l=NR (.lst xs)∧-(2 ^ 63)≤i∧i<2 ^ 63∧Ki i xs.length=NR k∧xs[k]?=NR y∧Q y (upd H l (.lst (xs.eraseIdx k)))
def aB0:MtM X "list.pop" CN:=by
 intro aE s σ H x vs v us Q I rx rv h;obtain⟨l,xs,i,k,y,rfl,rfl,hH,h1,h2,hk,hy,q⟩:=h;cases rx;obtain⟨u,rfl,ru⟩:=rv.one;obtain⟨t,rfl⟩:=ru;obtain⟨z,af,n,r,hl,e⟩:=I.aEH hH;obtain⟨w,hw,Qv⟩:=r.get hy;refine FG F.slot_list_pop ⟨_,e,U⟩ F.entry_list_pop (F.args_list_pop_2 _ _)
  (MG l af.toArray n i t k w (KG h1 h2) (by rw[D3,←hl];exact hk) (by rw[←M8];exact hw) (by rw[D3];omega)) ⟨e,?_⟩
 refine⟨y,_,I.aEG (ca:=af.eraseIdx k) hH e ?_ (r.eraseIdx k) ?_,Qv,q⟩
 ·show af.toArray.eraseIdxIfInBounds k=(af.eraseIdx k).toArray;rw[W3]
 ·have:=Kw xs k;omega
end
section
variable{prog:AQ}
end
section
variable{κ:Type}[DecidableEq κ]
def xZ(kvs:List (κ×V))(k:κ):Option V:=(kvs.find? λkv=>decide (kv.1=k)).map (·.2)
def putK(kvs:List (κ×V))(k:κ)(v:V):List (κ×V):=
 if(kvs.any λkv=>decide (kv.1=k))=NU then kvs.map (λkv=>if kv.1=k then(kv.1,v)else kv)else kvs++[(k,v)]
def Qy{p:κ×V}{r:List (κ×V)}{k:κ}(e:p.1=k):xZ (p::r) k=NR p.2:=by simp[xZ,P8,e]
def Qz{p:κ×V}{r:List (κ×V)}{k:κ}(e:¬p.1=k):xZ (p::r) k=xZ r k:=by simp[xZ,P8,e]
def Ra(k:κ):∀kvs:List (κ×V),(kvs.any λkv=>decide (kv.1=k))=(xZ kvs k).isSome
 | []=>rfl
 | p::r=>by
  rw[V6];by_cases e:p.1=k
  ·simp only[Qy e,tf e,Bool.true_or,l9]
  ·rw[Qz e,tj e,Bool.false_or];exact Ra k r
def Ao(kvs:List (κ×V))(k:κ)(v:V):(putK kvs k v).length≤kvs.length+1:=by
 unfold putK;split
 ·rw[B8];omega
 ·rw[D1,E3,List.length_nil];omega
def zZ.wL{o:Option V}{u:Option AE}(r:zZ o u):o.isSome=u.isSome:=by
 cases o with
 | none=>cases u with
  | none=>rfl
  | some _=>exact(show False from r).elim
 | some _=>cases u with
  | none=>exact(show False from r).elim
  | some _=>rfl
def zZ.getD{o:Option V}{u:Option AE}{d:V}(r:zZ o u)(rd:RelV d d'):RelV (o.getD d) (u.getD d'):=by
 cases o with
 | none=>cases u with
  | none=>exact rd
  | some _=>exact(show False from r).elim
 | some _=>cases u with
  | none=>exact(show False from r).elim
  | some _=>exact r
def KV.val{kvs:List (κ×V)}{vs:List (κ×AE)}(r:KV kvs vs)(k:κ):zZ (xZ kvs k) (FI vs k):=by
 unfold KV at r
 induction r with
 | nil=>exact True.intro
 | @cons p q ps qs h t ih=>
  obtain⟨h1,h2⟩:=h;by_cases e:p.1=k
  ·have e':q.1=k:=h1.symm.trans e;have b:FI (q::qs) k=NR q.2:=by simp[FI,P8,e']
   rw[Qy e,b];exact h2
  ·have e':¬q.1=k:=λz=>e (h1.trans z);have b:FI (q::qs) k=FI qs k:=by simp[FI,P8,e']
   rw[Qz e,b];exact ih
def KV.any{kvs:List (κ×V)}{vs:List (κ×AE)}(r:KV kvs vs)(k:κ):(kvs.any λkv=>decide (kv.1=k))=vs.any λkv=>decide (kv.1=k):=by
 unfold KV at r
 induction r with
 | nil=>rfl
 | cons h t ih=>rw[V6,V6,ih,h.1]
def KV.repl{kvs:List (κ×V)}{vs:List (κ×AE)}(r:KV kvs vs)(k:κ)(ry:RelV y u):
 KV (kvs.map λkv=>if kv.1=k then(kv.1,y)else kv) (vs.map λkv=>if kv.1=k then(kv.1,u)else kv):=by
 unfold KV at r ⊢
 induction r with
 | nil=>exact .nil
 | @cons p q ps qs h t ih=>
  rw[E2,E2];refine .cons ?_ ih;obtain⟨h1,h2⟩:=h;by_cases e:p.1=k
  ·rw[sk e,sk (h1.symm.trans e)];exact⟨h1,ry⟩
  ·rw[sv e,sv (λz=>e (h1.trans z))];exact⟨h1,h2⟩
def KV.put{kvs:List (κ×V)}{vs:List (κ×AE)}(r:KV kvs vs)(k:κ)(ry:RelV y u):KV (putK kvs k y) (stored vs k u):=by
 unfold putK stored;rw[r.any k];by_cases e:(vs.any λkv=>decide (kv.1=k))=NU
 ·rw[sk e,sk e];exact r.repl k ry
 ·rw[sv e,sv e];exact MA r ⟨U,ry⟩
def KV.keys{kvs:List (κ×V)}{vs:List (κ×AE)}(r:KV kvs vs):kvs.map (·.1)=vs.map (·.1):=by
 unfold KV at r
 induction r with
 | nil=>rfl
 | cons h t ih=>rw[E2,E2,ih,h.1]
def KV.length{kvs:List (κ×V)}{vs:List (κ×AE)}(r:KV kvs vs):kvs.length=vs.length:=HG r
end
def Xf{P:AQ}{k:Key}(r:RelV (kV k) u):(jB P w).is k u=NU:=by
 cases k with
 | inl i=>obtain⟨t,e⟩:=(show ∃t,u=Ct i t from r);subst e;exact MT P w i t
 | inr x=>obtain⟨t,e⟩:=(show ∃t,u=Fn x t from r);subst e;exact NB P w x t
theorem Xg{P:AQ}:∀{ks:List Key} {us:List AE},Vals (ks.map kV) us→ItemsAre (jB P w) ks us
 | [],_,r=>by rw[K9]at r;cases r;exact .nil
 | k::ks,_,r=>by
  rw[E2]at r;cases r with
  | cons h t=>exact .cons (Xf h) (Xg t)
abbrev KT(H:Hp):List (List Key×V)→List (List Key×AF×AE)→Prop:=Paired λp q=>p.1=q.1∧H q.2.1=NR (.tup (p.1.map kV))∧RelV p.2 q.2.2
def KT.val{xs:List (List Key×AF×AE)}(r:KT H kvs xs)(k:List Key):zZ (xZ kvs k) ((Fs xs k).map (·.2)):=by
 induction r with
 | nil=>exact True.intro
 | @cons p q ps qs h t ih=>
  obtain⟨h1,_,h2⟩:=h;by_cases e:p.1=k
  ·have e':q.1=k:=h1.symm.trans e;have b:Fs (q::qs) k=NR q.2:=by simp[Fs,P8,e']
   rw[Qy e,b];exact h2
  ·have e':¬q.1=k:=λz=>e (h1.trans z);have b:Fs (q::qs) k=Fs qs k:=by simp[Fs,P8,e']
   rw[Qz e,b];exact ih
def KT.repl{xs:List (List Key×AF×AE)}(r:KT H kvs xs)(k:List Key)(ry:RelV y u):
 KT H (kvs.map λkv=>if kv.1=k then(kv.1,y)else kv) (xs.map (putAt k u)):=by
 induction r with
 | nil=>exact .nil
 | @cons p q ps qs h t ih=>
  rw[E2,E2];refine .cons ?_ ih;obtain⟨h1,h2,h3⟩:=h;unfold putAt;by_cases e:p.1=k
  ·rw[sk e,sk (h1.symm.trans e)];exact⟨h1,h2,ry⟩
  ·rw[sv e,sv (λz=>e (h1.trans z))];exact⟨h1,h2,h3⟩
def KT.put{xs:List (List Key×AF×AE)}(r:KT H kvs xs)(k:List Key){b:AF}(hb:H b=NR (.tup (k.map kV)))(ry:RelV y u):
 KT H (putK kvs k y) (storedH xs k b u):=by
 have e:(kvs.any λkv=>decide (kv.1=k))=(Fs xs k).isSome:=by rw[Ra,(r.val k).wL,Y6]
 unfold putK storedH;rw[e];by_cases q:(Fs xs k).isSome=NU
 ·rw[sk q,sk q];exact r.repl k ry
 ·rw[sv q,sv q];exact MA r ⟨U,hb,ry⟩
def KT.keeps{H':Hp}{xs:List (List Key×AF×AE)}(r:KT H kvs xs)(ht:∀b ys,H b=NR (.tup ys)→H' b=NR (.tup ys)):KT H' kvs xs:=
 Paired.aG2 r λ_ _ z=>⟨z.1,ht _ _ z.2.1,z.2.2⟩
section
variable{P:AQ}
def aGl{u:HO}(ok:Ew P w H h)(e:Rd H a u):jU P w H h a u:=e.ok ok
def Np{kvs:List (Key×V)}(ok:Ew P w H h)(e:Rd H a (.dK kvs)):kvs.length≤sizeLine∧(a==CB)=NV∧∃vs,KV kvs vs∧h.DictOf (jB P w) a vs:=
 show jU P w H h a (.dK kvs)from aGl ok e
def aJM{kvs:List (Key×V)}(ok:Ew P w H h)(e:H a=NR (.dK kvs)):kvs.length≤sizeLine∧(a==CB)=NV∧∃vs,KV kvs vs∧h.DictOf (jB P w) a vs:=Np ok (.inl e)
def Ky(ok:Ew P w H h)(e:H a=NR (.tup (ks.map kV))):(EV (jB P w)).is h ks a:=by
 obtain⟨_,af,r,o,h1,h2,n,h3⟩:=(show jU P w H h a (.tup (ks.map kV))from ok a _ e)
 exact⟨o,af.toArray,n,h1,h2,h3,by simpa using Xg r⟩
def Rb(ok:Ew P w H h)(e:Rd H a (.dT kvs)):kvs.length≤sizeLine∧(a==CB)=NV ∧
 ∃xs,KT H kvs xs∧h.DictOfH (EV (jB P w)) a xs:=by
 obtain⟨z,y,xs,r,o,es,ep,h1,h2,h3,h4,h5⟩:=(show jU P w H h a (.dT kvs)from aGl ok e)
 refine⟨z,y,xs,r,o,es,ep,h1,h2,h3,h4,λx hx=>?_,h5⟩;have all:∀{l:List (List Key×V)} {m:List (List Key×AF×AE)},KT H l m→∀x∈m,(EV (jB P w)).is h x.1 x.2.1:=by
  intro l m q
  induction q with
  | nil=>intro x hx;exact nomatch hx
  | @cons p q ps qs hq t ih=>
   intro x hx;rcases B9.mp hx with e | hx
   ·subst e;exact Ky ok (by rw[←hq.1];exact hq.2.1)
   ·exact ih x hx
 exact all r x hx
def aJN(ok:Ew P w H h)(e:H a=NR (.dT kvs)):kvs.length≤sizeLine∧(a==CB)=NV ∧
 ∃xs,KT H kvs xs∧h.DictOfH (EV (jB P w)) a xs:=Rb ok (.inl e)
end
def Rc(H:Hp)(a:AF)(y:V)(r:Option V):Prop:=
 (∃kvs k,Rd H a (.dK kvs)∧y=kV k∧r=xZ kvs k)∨∃kvs k b,Rd H a (.dT kvs)∧y=.ref b∧H b=NR (.tup (k.map kV))∧r=xZ kvs k
def aJO(H:Hp)(a:AF)(y v:V)(H':Hp):Prop:=
 (∃kvs k,H a=NR (.dK kvs)∧y=kV k∧kvs.length<sizeLine∧H'=upd H a (.dK (putK kvs k v))) ∨
 ∃kvs k b,H a=NR (.dT kvs)∧y=.ref b∧H b=NR (.tup (k.map kV))∧kvs.length<sizeLine∧H'=upd H a (.dT (putK kvs k v))
section
variable{r:AE}{o:Option V}
def Inv.big(I:Inv X aE σ H s):CB<s.heap.objs.size:=by have h:As<s.heap.objs.size:=(I.mod.glob.keeps I.bk).lt;exact Nat.lt_trans (by decide) h
def aAs(hu:A.units+1<BG)(I:Inv X aE σ H s)(g:Rc H a y (NR v))(ry:RelV y u)(h:∀w' s',Inv X aE σ H s'→RelV v w'→Q w' s'):
 AL (AM X.prog X.w) A (GO (.ref a) u) Q E s:=by
 rcases g with ⟨kvs,k,e,ey,l⟩ | ⟨kvs,k,b,e,ey,eb,l⟩
 ·subst ey;obtain⟨z,hd,vs,cy,dd⟩:=Np I.hok e;obtain⟨w',hw,Qv⟩:=zZ.some_of (v:=v) (o:=FI vs k) (by rw[l];exact cy.val k);exact wpAny_getItem_of (Xf ry) dd.mapOf hw (h w' _ (I.tok _) Qv)
 ·subst ey
  cases(show u=AW b from ry)
  obtain⟨z,hd,xs,cy,dd⟩:=Rb I.hok e;obtain⟨w',hw,Qv⟩:=zZ.some_of (v:=v) (o:=(Fs xs k).map (·.2)) (by rw[l];exact cy.val k);obtain⟨p,hp,hp2⟩:=kJ hw;refine wpAny_getItem_heap (DA hu) (Ky I.hok eb) dd hp ?_;rw[hp2];exact h w' _ (I.tok _) Qv
def aLA(hu:A.units+1<BG)(I:Inv X aE σ H s)(g:Rc H a y o)(ry:RelV y u)(h:∀s',Inv X aE σ H s'→Q (.bool o.isSome) s'):
 AL (AM X.prog X.w) A (AY .In u (.ref a)) Q E s:=by
 rcases g with ⟨kvs,k,e,ey,l⟩ | ⟨kvs,k,b,e,ey,eb,l⟩
 ·subst ey;obtain⟨z,hd,vs,cy,dd⟩:=Np I.hok e;refine wpAny_in_of (Xf ry) hd dd.mapOf ?_;rw[←(cy.val k).wL,←l];exact h _ (I.tok _)
 ·subst ey
  cases(show u=AW b from ry)
  obtain⟨z,hd,xs,cy,dd⟩:=Rb I.hok e;refine wpAny_in_heap (DA hu) (Ky I.hok eb) hd dd ?_;have q:=(cy.val k).wL;rw[Y6]at q;rw[←q,←l];exact h _ (I.tok _)
def aEI(hu:A.units+1<BG)(I:Inv X aE σ H s)(g:Rc H a y o)(ry:RelV y u)(h:∀s',Inv X aE σ H s'→Q (.bool (!o.isSome)) s'):
 AL (AM X.prog X.w) A (AY .NotIn u (.ref a)) Q E s:=by
 rcases g with ⟨kvs,k,e,ey,l⟩ | ⟨kvs,k,b,e,ey,eb,l⟩
 ·subst ey;obtain⟨z,hd,vs,cy,dd⟩:=Np I.hok e;refine wpAny_notIn_of (Xf ry) hd dd.mapOf ?_;rw[←(cy.val k).wL,←l];exact h _ (I.tok _)
 ·subst ey
  cases(show u=AW b from ry)
  obtain⟨z,hd,xs,cy,dd⟩:=Rb I.hok e;refine wpAny_notIn_heap (DA hu) (Ky I.hok eb) hd dd ?_;have q:=(cy.val k).wL;rw[Y6]at q;rw[←q,←l];exact h _ (I.tok _)
def uh{h':Heap}{t':Nat}(I:Inv X aE σ H s)(mu:Mut (H a))(hs:Bi a s.heap h')(he:∃q,h'.get? a=NR q)(new:jU X.prog X.w (upd H a ob) h' a ob):
 Inv X aE σ (upd H a ob) {s with heap:=h',toks:=t'}:=
 I.write (x:=a) (e:=a) mu (.inl U) (λb q hb z=>(hs.2 b hb).trans z) he new
def aHC{P:AQ}{H':Hp}{h':Heap}{kvs:List (Key×V)}{vs:List (Key×AE)}(z:kvs.length≤sizeLine)(hd:(a==CB)=NV)(cy:KV kvs vs)(dd:h'.DictOf (jB P w) a vs):
 jU P w H' h' a (.dK kvs):=⟨z,hd,vs,cy,dd⟩
def aAt{H':Hp}{Q:Unit→AG→Prop}(hu:A.units+1<BG)(I:Inv X aE σ H s)(g:aJO H a y v H')(ry:RelV y u)(rv:RelV v r)(h:∀s',Inv X aE σ H' s'→Q () s'):
 AL (AM X.prog X.w) A (setItem (.ref a) u r) Q E s:=by
 rcases g with ⟨kvs,k,e,ey,l,eH⟩ | ⟨kvs,k,b,e,ey,eb,l,eH⟩
 ·subst ey eH;obtain⟨z,hd,vs,cy,dd⟩:=aJM I.hok e;have hz:vs.length≤sizeLine:=by rw[←cy.length];exact z
  have hl:(putK kvs k v).length≤sizeLine:=by have:=Ao kvs k v;omega
  refine wpAny_setItem_pairs (hsz:=hz) (Xf ry) dd λh' dd' hs=>h _ ?_;have he:∃q,h'.get? a=NR q:=let ⟨q,_,_,hq,_⟩:=dd';⟨q,hq⟩;exact uh I (by rw[e];exact True.intro) hs he (aHC hl hd (cy.put k rv) dd')
 ·subst ey eH
  cases(show u=AW b from ry)
  obtain⟨z,hd,xs,cy,dd⟩:=aJN I.hok e;have hz:xs.length≤sizeLine:=by rw[←HG cy];exact z
  have hl:(putK kvs k v).length≤sizeLine:=by have:=Ao kvs k v;omega
  refine wpAny_setItem_heap (hsz:=hz) (DA hu) (Ky I.hok eb) dd λh' dd' hs=>h _ ?_;obtain⟨q,es,ep,hq,h2,h3,h4,_,h5⟩:=dd';refine uh I (by rw[e];exact True.intro) hs ⟨q,hq⟩ ⟨hl,hd,_,(cy.put k eb rv).keeps λc ys ec=>?_,q,es,ep,hq,h2,h3,h4,h5⟩;rw[bQ (aJk ec e (λz=>nomatch z))];exact ec
end
section
variable{kvs:List (Key×V)}{k:Key}
end
def aHD(i:AK):Prop:=∀ov iv,GG i NV ov iv=operate [ov,iv] (GO ov iv)
def aEJ{prog:AQ}{w:AS}{A:AV}{E:AE→AG→Prop}{s:AG}{env:Env}{value slice:AK}{pos:Pos}{T id:String}{Q:AE→AG→Prop}
 (hl:typeLookup (.type T) "__getitem__"=pure (NR (.builtin id))) (hs:aHD slice)
 (h:AL (AM prog w) A (AU value env) (λo s₁=>AL (AM prog w) A (AU slice env) (λi s₂=>s₂.TypeIs o T∧AL (AM prog w) A (GO o i) Q E s₂) E s₁) E s) :
 AL (AM prog w) A (AU (.Subscript value slice pos) env) Q E s:=by
 refine JI (BA h (λo s₁ h₁=>BA h₁ (λi s₂ h₂=>?_) λ_ _ x=>x) λ_ _ x=>x);obtain⟨hT,h₂⟩:=h₂;unfold HL;refine AH ?_;rw[getitemInPython_of_ne hT.not_modules];refine AH (JJ hT hl ?_);have ck:AL (AM prog w) A (GG slice NV o i) (λr s₃=>AL (AM prog w) A (letTemporaryGo value o r >>= λ_=>pure r) Q E s₃) E s₂:=by rw[hs o i];exact wpAny_operating (BA h₂ (λr s₃ h₃=>AH (wpAny_letTemporaryGo (wpAny_pure h₃))) λ_ _ x=>x)
 first
  | exact wpAny_pure (AH ck)
  | exact AH (wpAny_pure (AH ck))
  | exact AH ck
def PX{o:Option V}(I:Inv X aE σ H s)(g:Rc H a y o):s.TypeIs (.ref a) "dict" := by
 rcases g with ⟨kvs,k,e,_,_⟩ | ⟨kvs,k,b,e,_,_,_⟩
 ·obtain⟨_,_,vs,_,dd⟩:=Np I.hok e;exact dd.typeIs
 ·obtain⟨_,_,xs,_,dd⟩:=Rb I.hok e;exact dd.typeIs
def aGm(td ty:TE):TE:=λσ H Q=>td σ H λx H1=>ty σ H1 λy H2=>∃a v,x=.ref a∧Rc H2 a y (NR v)∧Q v H2
def aEK(ty td:TE):TE:=λσ H Q=>ty σ H λy H1=>td σ H1 λx H2=>∃a o,x=.ref a∧Rc H2 a y o∧Q (.bl o.isSome) H2
def CP(ty td:TE):TE:=λσ H Q=>ty σ H λy H1=>td σ H1 λx H2=>∃a o,x=.ref a∧Rc H2 a y o∧Q (.bl (!o.isSome)) H2
def Hv(td ty tv:TE):TS:=λD σ H=>tv σ H λv H1=>td σ H1 λx H2=>ty σ H2 λy H3=>∃a H4,x=.ref a∧aJO H3 a y v H4∧D.nx σ H4
section
variable{o i value:AK}{pos:Pos}{td ty:TE}
def aEL(hu:X.A.units+1<BG)(ho:PE X o td)(hi:PE X i ty)(hs:aHD i):PE X (.Subscript o i pos) (aGm td ty):=by intro aE s σ H Q I h;refine aEJ PySem.F.slot_dict_getitem.lookup hs (iY (ho aE s σ H _ I h) λu s1 ⟨x,H1,I1,rx,q1⟩=>iY (hi aE s1 σ H1 _ I1 q1) λiv s2 ⟨y,H2,I2,ry,a,v,ex,g,q2⟩=>?_);subst ex;obtain rfl:u=AW a:=rx;exact⟨PX I2 g,aAs hu I2 g ry λw' s3 I3 Qv=>⟨v,H2,I3,Qv,q2⟩⟩
def dm(hu:X.A.units+1<BG)(hi:PE X i ty)(ho:PE X o td):PC X .In i o (aEK ty td):=by intro aE s σ H Q I h;refine iY (hi aE s σ H _ I h) λiv s1 ⟨y,H1,I1,ry,q1⟩=>iY (ho aE s1 σ H1 _ I1 q1) λu s2 ⟨x,H2,I2,rx,a,ov,ex,g,q2⟩=>?_;subst ex;obtain rfl:u=AW a:=rx;exact aLA hu I2 g ry λs3 I3=>⟨.bl ov.isSome,H2,I3,U,q2⟩
def Xh(hu:X.A.units+1<BG)(hi:PE X i ty)(ho:PE X o td):PC X .NotIn i o (CP ty td):=by intro aE s σ H Q I h;refine iY (hi aE s σ H _ I h) λiv s1 ⟨y,H1,I1,ry,q1⟩=>iY (ho aE s1 σ H1 _ I1 q1) λu s2 ⟨x,H2,I2,rx,a,ov,ex,g,q2⟩=>?_;subst ex;obtain rfl:u=AW a:=rx;exact aEI hu I2 g ry λs3 I3=>⟨.bl (!ov.isSome),H2,I3,U,q2⟩
def yC(hu:X.A.units+1<BG)(ho:PE X o td)(hi:PE X i ty)(hv:PE X value tv)(hs:DO value (NR (.Subscript o i bP)) pos.line X.env=pure NV):
 PS X (.Assign [.Subscript o i bP] value pos) (Hv td ty tv):=by
 intro aE s σ H D I h;refine wpAny_Assign_Subscript (iY (hv aE s σ H _ I h) λr s1 ⟨v,H1,I1,rv,q1⟩=>iY (ho aE s1 σ H1 _ I1 q1) λu s2 ⟨x,H2,I2,rx,q2⟩=>iY (hi aE s2 σ H2 _ I2 q2) λiv s3 ⟨y,H3,I3,ry,a,H4,ex,g,q3⟩=>?_) hs;subst ex;obtain rfl:u=AW a:=rx;exact aAt hu I3 g ry rv λs4 I4=>⟨σ,H4,I4,q3⟩
end
def aB1{P:AQ}(h:Heap)(hb:CB<h.objs.size):jU P w H (h.push {cls:=.type "dict",data:=.dict #[]}) h.objs.size (.dK []):=
 ⟨L5 _,beq_eq_false_iff_ne.mpr (Ne.symm (F3 hb)),[],.nil,NG h⟩
def aB2{P:AQ}(h:Heap)(hb:CB<h.objs.size):jU P w H (h.push {cls:=.type "dict",data:=.dict #[]}) h.objs.size (.dT []):=
 ⟨L5 _,beq_eq_false_iff_ne.mpr (Ne.symm (F3 hb)),[],.nil,_,#[],0,AR _ U,⟨U,U,U⟩,U,U,i4⟩
def dq:TE:=λ_ H Q=>∀p,H p=sx→Q (.ref p) (upd H p (.dK []))
def aB3:TE:=λ_ H Q=>∀p,H p=sx→Q (.ref p) (upd H p (.dT []))
section
variable{pos:Pos}
def aB4:PE X (.Dict [] [] pos) dq:=λaE s σ H Q I h=>
 IX ⟨.ref s.heap.objs.size,_,I.laid (a:=s.heap.objs.size) (o:=.dK []) (t':=s.toks) (λ_ _ q=>AI _ q) (C9 _) (aB1 s.heap I.big),U,h _ (I.hok.fresh (C9 _))⟩
def aB5:PE X (.Dict [] [] pos) aB3:=λaE s σ H Q I h=>
 IX ⟨.ref s.heap.objs.size,_,I.laid (a:=s.heap.objs.size) (o:=.dT []) (t':=s.toks) (λ_ _ q=>AI _ q) (C9 _) (aB2 s.heap I.big),U,h _ (I.hok.fresh (C9 _))⟩
end
structure M1(X:Cx)(o:AK)(m:Str)(ah:Pos)(e:AK)(ay:Pos):Prop where
 base:Co o m X.env (AU o X.env)=AU o X.env
 few:((Au ay (AJ [e] X.env)).all (λx=>!x.1)&&(EF ay (CU [] X.env)).all (λx=>x.1.isSome)
  && decide (([e]:List AK).length+([]:List FH).length+(if([]:List FH).isEmpty then 0 else 1)<30))=NU
 line:(ah.endLine==ay.line)=NU
 trees:Au ay (AJ [e] X.env)=[(NV,AU e X.env)]
def IsD(H:Hp)(a:AF):Prop:=(∃kvs,Rd H a (.dK kvs))∨∃kvs,Rd H a (.dT kvs)
def aHE(I:Inv X aE σ H s)(d:IsD H a):
 s.TypeIs (.ref a) "dict" ∧ (∀b,AW a=.ref b→∃ob,s.heap.get? b=NR ob∧ob.dict=sx)∧(a==CB)=NV:=by
 rcases d with ⟨kvs,e⟩ | ⟨kvs,e⟩
 ·obtain⟨_,hd,vs,_,dd⟩:=Np I.hok e;refine⟨dd.typeIs,λb q=>?_,hd⟩;cases q;obtain⟨ob,_,_,h1,h2,_⟩:=dd;exact⟨ob,h1,h2.2.1⟩
 ·obtain⟨_,hd,xs,_,dd⟩:=Rb I.hok e;refine⟨dd.typeIs,λb q=>?_,hd⟩;cases q;obtain⟨ob,_,_,h1,h2,_⟩:=dd;exact⟨ob,h1,h2.2.1⟩
section
variable{d:V}{r:AE}{o:Option V}
def aHF(hu:A.units+1<BG)(I:Inv X aE σ H s)(g:Rc H a y o)(ry:RelV y u)(h:∀w' s',Inv X aE σ H s'→RelV (o.getD .non) w'→Q w' s'):
 AL (AM X.prog X.w) A (call (.builtin "dict.get") [.ref a,u]) Q E s:=by
 rcases g with ⟨kvs,k,e,ey,l⟩ | ⟨kvs,k,b,e,ey,eb,l⟩
 ·subst ey;obtain⟨z,hd,vs,cy,dd⟩:=Np I.hok e;refine LM V9 dd.typeIs f9 (c6 _ _) (meets_dict_get (jB X.prog X.w) a (Xf ry) hd) ⟨_,dd.mapOf,h _ _ (I.tok _) ?_⟩;rw[l];exact(cy.val k).getD U
 ·subst ey
  cases(show u=AW b from ry)
  obtain⟨z,hd,xs,cy,dd⟩:=Rb I.hok e;refine LM V9 dd.typeIs f9 (c6 _ _) (meetsH_dict_get (EV (jB X.prog X.w)) a b hd) ⟨DA hu,k,xs,Ky I.hok eb,dd,h _ _ (I.tok _) ?_⟩;rw[l];exact(cy.val k).getD U
end
def aB6(td ty:TE):TE:=λσ H Q=>td σ H λx H1=>∃a,x=.ref a∧IsD H1 a∧ty σ H1 λy H2=>∃o,Rc H2 a y o∧Q (o.getD .non) H2
section
variable{o f:AK}{td ty tx:TE}
def aB7(hu:X.A.units+1<BG)(ho:PE X o td)(he:PE X e ty)(m:M1 X o "get" ah e ay):PE X (.Call (.Attribute o "get" ah) [e] [] ay) (aB6 td ty):=by intro aE s σ H Q I h;refine wpAny_Call_method m.base m.few m.line PySem.F.plainAttrs_dict V9 PySem.F.type_dict_get (iY (ho aE s σ H _ I h) λu s1 ⟨x,H1,I1,rx,a,ex,d,q1⟩=>?_);subst ex;obtain rfl:u=AW a:=rx;obtain⟨t1,t2,_⟩:=aHE I1 d;refine⟨t1,t2,?_⟩;rw[m.trees];refine GI U (HA (BY (iY (he aE s1 σ H1 _ I1 q1) λiv s2 ⟨y,H2,I2,ry,ov,g,q2⟩=>CF ?_)));exact aHF hu I2 g ry λw' s3 I3 Qv=>⟨_,H2,I3,Qv,q2⟩
end
section
variable{kvs:List (Key×V)}
end
end L2
namespace Att
open PySem PySem.W PySem.Calls PyProof.Rows
def Om{P:LN}{h:Heap}:∀(ns:List Int)(vs:List AE),WellAll P h vs (ns.map WData.int)→EL vs ns:=by
 intro ns
 induction ns with
 | nil=>
  intro vs w;rw[K9]at w;cases w;exact .nil
 | cons n ns ih=>
  intro vs w;rw[E2]at w;cases w with
  | cons a b=>cases a;exact .cons _ _ (ih _ b)
def aAu{l:OpenLaw}{n:Nat}(hn:l.most=NR n){P:LN}{h:Heap}{args:List WData}{vals:List AE}
 (kr:l.row.toRowW.claim.pre args=NU) (hwl:WellAll P h vals args) :
 ∃a vs ns,vals=[AW a]∧args=[WData.list (ns.map WData.int)]∧h.get? a=NR {cls:=.type "list",data:=.seq vs.toArray}∧EL vs ns∧ns.length≤n:=by
 have hsh:WShape.hasAll [] args [.list .int]=NU:=(pre_splitW kr).1;have hc:l.pre.holds [] {args:=args}=NU:=(pre_splitW kr).2;obtain⟨d,r,rfl,h1,h2⟩:=hasAllW_cons hsh;obtain rfl:=hasAllW_nil h2;obtain⟨xs,rfl,h3⟩:=hasW_list h1;obtain⟨ns,rfl⟩:=items_int h3;have ag:ns.length≤n:=by
  unfold OpenLaw.pre at hc;have h4:(WTm.not (.lt (.lit (.int (n:Int))) (.len (.arg 0)))).holds [] {args:=[.list (ns.map .int)]}=NU:=by have h4:=(holds_andW hc).1;rw[hn]at h4;exact h4
  have h5:=condW_of h4 (w_not (w_lt w_lit (w_len_list (w_arg U))));rw[B8]at h5;refine Nat.le_of_not_lt λq=>?_;have q':(n:Int)<((ns.length:Nat):Int):=by omega
  first
   | (rw[tf q']at h5;exact absurd h5 (by decide))
   | (simp at h5;omega)
 cases hwl with
 | cons w1 w2=>
  cases w2;cases w1 with
  | list ho mn=>exact⟨_,_,ns,U,U,ho,Om ns _ mn,ag⟩
def aAv(l:OpenLaw)(args:List WData):l.row.toRowW.claim.post args (.bool NU) args=NU:=
 postW_of (r:=l.row.toRowW) (X:=(NU==NU))
  (show WShape.has [] (.bool NU) .bool=NU by first | rfl | decide | simp[WShape.has,WShape.arms,WShape.armsAll])
  (show (WTm.eq .res (.lit (.bool NU))).value [] {args:=args,res:=NR (.bool NU),after:=args}=NR (.bool (NU==NU))from w_eq_bool (w_res U) w_lit) U
section
variable{prog:AQ}{w:AS}{A:AV}{E:AE→AG→Prop}{s:AG}{K:Frag}
end
end Att
namespace L2
noncomputable section
open PySem PySem.Spec PyProof.Rows
variable{H B Z H0:Hp}{K:aG}{X:Cx}{i k j ep:Nat}{s:AG}{σ:St}{e b c tg:AK}{w:AS}{a C I dx l:AF}{v y:V}{A:AV}{te ta tb t tv:TE}{aE:List (AF×Obj)}{E Q:AE→AG→Prop}{m q:Str}{u bX ai ct oc:AE}{p ah p2 bP ay eD:Pos}{h:Heap}{N ps iS:List Str}{tA:TA}{vs:List V}{tc:TT}{mg:Str→Option AE}{o:HO}{wi:TI}{ks:List Key}{κ:Nat→AF}{pl:Sem Bool}{od:Option AF}{T:String}{kvs:List (List Key×V)}{M:Iq}{r':R2}{dQ:Array (Option AE)}{nK:List AO}{S:Int→Bool}{av:List Bool}{CX:CXT}{js:List Nat}{gz:EH}{tl th:TO}{dN:Bool}
def Dg:∀{vs:List AE} {ns:List Int},EL vs ns→Vals (ns.map V.int) vs
 | _,_,.nil=>.nil
 | _,_,.cons n t h=>.cons ⟨t,U⟩ (Dg h)
def Only(H:Hp):Prop:=∀b,H b=sx∨∃o xs,H b=NR (.Al o (.lst xs))
def aB8{P:AQ}{w:AS}{K:aG}{mg mb:Str→Option AE}{CX:CXT}{k:Nat}{fa a:AF}{fd:BU}{x:Str}{sp:Sp}{s₁:AG}{vs:List AE}{ns:List Int}
 (KX:K.In s₁.heap) (mw:s₁.heap.Ns As mg) (hb:s₁.heap.Ns IZ mb) (hbb:∀x:Str,x ≠ "__name__" → mb x=AZ x) (hlim:s₁.heap.NoLimit) (hg:s₁.gens=#[])
 (ha:s₁.heap.get? a=NR {cls:=.type "list",data:=.seq vs.toArray}) (hi:EL vs ns) (hl:ns.length≤sizeLine) (hr:lB k FM)
 (F:∀base:Heap,K.In base→base.Ns As mg→Ab P w K mg base CX k fa fd [x] sp) (rf:∀(s:AG)(u:AE),GN s fd ⟨[u],[]⟩ [(x,u)])
 (gE:∀H:Hp,Only H→oU K H a (ns.map V.int)→sp [.ref a] H (λv _=>v=.bl NU) λ_ _ _=>False)
 (hCX:∀H e s',CX [] H s₁ (λ_ _ _=>False) e s'→False) :
 Cn (AM P w) FM (.call (.ref fa) ⟨[.ref a],[]⟩) (λr s'=>r=.ok (.ret (.bool NU))∧OldK s₁.heap s'.heap∧s'.os=s₁.os∧Da s'.gens) s₁:=by
 have rv:=Dg hi;have lenV:=hi.length;have core:∀H:Hp,Only H→oU K H a (ns.map V.int)→Ew P w H s₁.heap→(∀b,H b≠sx→b=a)→(H a≠sx→K.lookup a=sx) →
  Cn (AM P w) FM (.call (.ref fa) ⟨[.ref a],[]⟩) (λr s'=>r=.ok (.ret (.bool NU))∧OldK s₁.heap s'.heap∧s'.os=s₁.os∧Da s'.gens) s₁:=by
  intro H hO hS hok hA hK;have um:∀{b:AF} {o:Obj},s₁.heap.get? b=NR o→H b=sx→(Zv s₁.heap H).get? b=NR o:=λe n=>aBz e n;have qr:∀{b:AF} {o:Obj} {es:Array DictEntry} {ep:Nat},s₁.heap.get? b=NR o→o.data=.dict es ep→H b=sx:=λ{b o es ep} e d=>by
   cases q:H b with
   | none=>rfl
   | some u=>have e':b=a:=hA b (by rw[q];simp);subst e';rw[ha]at e;cases e;have d':Data.seq vs.toArray _=Data.dict es ep:=d;cases d'
  have nsK:∀{b:AF} {m:Str→Option AE},s₁.heap.Ns b m→(Zv s₁.heap H).Ns b m:=λ{b m} ⟨o,es,ep,e,d,r⟩=>⟨o,es,ep,um e (qr e d),d,r⟩
  have hKb:K.In (Zv s₁.heap H):=λb o e=>um (KX b o e) (by
   cases q:H b with
   | none=>rfl
   | some u=>
    have e':b=a:=hA b (by rw[q];simp);subst e';rw[hK (by rw[q];simp)]at e;cases e)
  have hM:Mod K mg (Zv s₁.heap H):=⟨hKb,nsK mw,⟨mb,nsK hb,hbb⟩,let ⟨mc,h1,h2⟩:=hlim;⟨mc,nsK h1,h2⟩⟩
  have e0:cz P w K mg (Zv s₁.heap H) FM [] s₁ H:=⟨U,hM,λb o e=>aEg e,l7 (aAc _ _),trivial,λb hb=>absurd (show b∈([]:List AF)from hb) (by simp),hok,.of_eq hg⟩
  refine DJ ((F _ hKb (nsK mw)).run FM [] s₁ H ⟨[.ref a],[]⟩ [.ref a] [.ref a] _ _ hr e0 (rf s₁ (.ref a)) (.cons U .nil) (gE H hO hS)) λr s' h=>?_;cases r with
  | error e=>exact(hCX H e s' h).elim
  | ok fl=>
   cases fl with
   | next=>exact False.elim h
   | brk=>exact False.elim h
   | cont=>exact False.elim h
   | ret u=>
    obtain⟨v,H',os,bare,un,hok',r',q⟩:=h;have q':v=.bl NU:=q;subst q';obtain rfl:u=CM NU:=r';refine⟨U,OldK.of_keep λb o e=>?_,os,bare⟩;cases q:H b with
    | none=>exact un.keep b o e q (by intro z;exact absurd (show b∈([]:List AF)from z) (by simp)) (by simp)
    | some u=>
     rcases hO b with z | ⟨ob,xs,z⟩
     ·rw[q]at z;cases z
     ·have z2:=un.Zu b ob _ z;obtain⟨e1,_⟩:=hok b _ z;obtain⟨e2,_⟩:=hok' b _ z2;rw[e]at e1;cases e1;exact e2
 cases hk:K.lookup a with
 | some o=>
  have e:=KX a o hk;rw[ha]at e;cases e;refine core (λ_=>sx) (λ_=>.inl U) (.inr ⟨_,vs.toArray,_,hk,U,U,U,by rw[D3,lenV];exact hl,by simpa using rv⟩) (λb u z=>by have z':(sx:Option HO)=NR u:=z;cases z') (λb z=>absurd U z) λz=>absurd U z
 | none=>
  refine core (λb=>if b=a then NR (.Al {cls:=.type "list",data:=.seq vs.toArray} (.lst (ns.map V.int)))else sx) (λb=>?_) (.inl (.inr ⟨{cls:=.type "list",data:=.seq vs.toArray},sk U⟩)) (λb u z=>?_) (λb z=>?_) λ_=>hk
  ·by_cases hb:b=a
   ·exact .inr ⟨_,_,sk hb⟩
   ·exact .inl (sv hb)
  ·by_cases hb:b=a
   ·have z':=(sk hb).symm.trans z;cases z';subst hb;exact⟨ha,by rw[B8];exact hl,vs,_,rv,ha⟩
   ·have z':=(sv hb).symm.trans z;cases z'
  ·by_cases hb:b=a
   ·exact hb
   ·exact absurd (sv hb) z
def inClass(s:AO)(j:Nat):AO:=match s with
 | .ClassDef _ _ _ body _ _ _ _ _ _ _=>body.getD j (.Pass ⟨0,0,0,0⟩)
 | _=>.Pass ⟨0,0,0,0⟩
def gA(s:AO):Arguments:=match s with
 | .FunctionDef _ a _ _ _ _ _ _ _ _=>a
 | _=>{posonlyargs:=[],args:=[],vararg:=sx,kwonlyargs:=[],kw_defaults:=[],kwarg:=sx,defaults:=[]}
def cM(s:AO):List AO:=match s with
 | .FunctionDef _ _ b _ _ _ _ _ _ _=>b
 | _=>[]
def aK(s:AO):BQ:=match s with
 | .FunctionDef _ _ _ _ _ _ sc _ _ _=>sc
 | _=>{kind:=.function,names:=[],isGenerator:=NV,isCoroutine:=NV}
abbrev MJ:CXT:=λ_ _ _ _ _ _=>False
abbrev E0:XK:=λ_ _ _=>False
def Xi:Passes MJ X E0:=λ_ _ _ _ _ _ _ h=>h.elim
structure Fun(K:aG)(x qual:Str)(st:AO)(f:AF)(fd:BU):Prop where
 ex:∃(oc:AE)(od:Option AF)(kV bX pm:AE)(an:Option AF)(ai ct:AE)(dQ:Array (Option AE)),
  fd=G5 x qual (gA st) (cM st) (aK st) .none kV bX pm an ai ct∧K.lookup f=NR ⟨oc,od,.func fd,dQ⟩∧L6 K ai qual=NU
 kp:K7 K (.ref f)=NU
section
variable{P:AQ}{base:Heap}
def Fun.ok{x qual:Str}{st:AO}{f:AF}{fd:BU}{N ps:List Str}{k:Nat}{sp:Sp}(F:Fun K x qual st f fd)(S:bA N ps (aK st))(len:∀vs H Q E,sp vs H Q E→vs.length=ps.length)
 (bS:∀(ai:AE)(A:AV)(outer:List Env)(s:AG)(H:Hp)(vs:List V)(Q:VK)(E:XK),lB k (A.deeper (CH qual (aK st) s.heap.objs.size f ai))→sp vs H Q E →
  ∃t,NT (Hu MJ P w K mg base N qual (aK st) f ai A outer s H E).sy (cM st) t∧t {nx:=λ_ H'=>Q .non H',rt:=Q} (start N vs) H):Ab P w K mg base MJ (k+1) f fd ps sp:=by
 obtain⟨oc,od,kV,bX,pm,an,ai,ct,dQ,rfl,lk,hcd⟩:=F.ex;refine aBX lk hcd S len λA outer s H vs Q E hr gE=>?_;obtain⟨t,h,q⟩:=bS ai A outer s H vs Q E hr gE;exact⟨t,h.sy,q⟩
def Fun.binds{x qual:Str}{st:AO}{f:AF}{fd:BU}{ps:List Str}(F:Fun K x qual st f fd)
 (h:∀(kV bX pm:AE)(an:Option AF)(ai ct:AE)(us:List AE),us.length=ps.length→EJ (G5 x qual (gA st) (cM st) (aK st) .none kV bX pm an ai ct) ⟨us,[]⟩=pure (ps.zip us)):Binds K fd ps []:=by
 obtain⟨oc,od,kV,bX,pm,an,ai,ct,dQ,rfl,lk,hcd⟩:=F.ex;exact .all (h kV bX pm an ai ct)
def aHG{x qual:Str}{st:AO}{f:AF}{oc:AE}{od an:Option AF}{dQ:Array (Option AE)}{kV bX pm ai ct:AE}(l:K.lookup f=NR ⟨oc,od,.func (G5 x qual (gA st) (cM st) (aK st) .none kV bX pm an ai ct),dQ⟩)
 (c:L6 K ai qual=NU) (k:K7 K (.ref f)=NU):Fun K x qual st f (G5 x qual (gA st) (cM st) (aK st) .none kV bX pm an ai ct):=⟨⟨oc,od,kV,bX,pm,an,ai,ct,dQ,U,l,c⟩,k⟩
end
def cP(hr:lB k A):A.units+1<BG:=R6 (Nat.add_le_add_left (by decide:1≤64) _) hr.units
def tY{n:Nat}(h:n≤1000):n<sizeLine:=R6 h (by decide)
section
def pv(i:Nat){x:Str}{pos:Pos}(hN:X.N[i]?=NR x:=by rfl)(hv:Ey X.env.scope x:=by first | exact D8 U | exact D7 (D8 U) | exact D7 (D7 U))(hd:(x==("__debug__":Str))=NV:=by decide)
 (hcd:(x==("__classdict__":Str))=NV:=by decide):PE X (.Name x pos) (qM i):=aG4 hN hv hd hcd
end
def aW(H H':Hp):Prop:=∀b o,H b=NR o→H' b=NR o
def aW.refl(H:Hp):aW H H:=λ_ _ h=>h
def aW.trans{H1 H2:Hp}(a:aW H H1)(b:aW H1 H2):aW H H2:=λc o h=>b c o (a c o h)
def aW.free{H':Hp}(e:aW H H')(h:H' l=AD):H l=AD:=by
 cases q:H l with
 | none=>rfl
 | some o=>rw[e l o q]at h;cases h
def aW.seq{H':Hp}{xs:List V}(e:aW H H')(h:oU K H a xs):oU K H' a xs:=by
 rcases h with (h | ⟨o,h⟩) | h
 ·exact .inl (.inl (e _ _ h))
 ·exact .inl (.inr ⟨o,e _ _ h⟩)
 ·exact .inr h
section
variable{κ:Type}[DecidableEq κ]
end
theorem Fi(env:Env):∀(names:List (Str×FX))(bo:List (Str×AF)),(∀x∈names,x.2=.free→∃c,env.cells.lookup x.1=NR c) →
 ∃cl:List (Str×AF),(forIn names bo (λ(x:Str×FX) (r:List (Str×AF))=>(match x with
  | (name,kind)=>if(kind==.free)=NU then do let c ←cellOf env name;pure (ForInStep.yield ((name,c)::r))else pure (ForInStep.yield r):Sem (ForInStep (List (Str×AF))))))=pure cl ∧
  (∀x c,cl.lookup x=NR c→(∃k,(x,k)∈names∧k=.free∧env.cells.lookup x=NR c)∨bo.lookup x=NR c) ∧
  (∀x,(x,BH)∈names→∃c,cl.lookup x=NR c)∧(∀x c,bo.lookup x=NR c→∃c',cl.lookup x=NR c')
 | [],bo,_=>⟨bo,U,λx c h=>.inr h,λx h=>by simp at h,λx c h=>⟨c,h⟩⟩
 | (n,k)::r,bo,h=>by
  rw[List.forIn_cons];by_cases hk:k=.free
  ·subst hk
   obtain⟨c,hc⟩:=h (n,.free) C8 U;obtain⟨cl,e,h1,h2,h3⟩:=Fi env r ((n,c)::bo) λx hx=>h x (C6 _ hx);refine⟨cl,?_,λx d hd=>?_,λx hx=>?_,λx d hd=>?_⟩
   ·have e0:cellOf env n=pure c:=by unfold cellOf;rw[hc]
    simp only[beq_self_eq_true,if_true,e0,pure_bind];exact e
   ·rcases h1 x d hd with ⟨k',m,q⟩ | q
    ·exact .inl ⟨k',C6 _ m,q⟩
    ·rw[V7]at q
     by_cases e:x==n
     ·rw[e]at q
      have e':=eq_of_beq e;subst e';cases q;exact .inl ⟨.free,C8,U,hc⟩
     ·have e':(x==n)=NV:=by simpa using e
      rw[e']at q;exact .inr q
   ·rcases B9.mp hx with q | q
    ·cases q
     exact h3 n c (by simp)
    ·exact h2 x q
   ·by_cases e:x==n
    ·exact h3 x c (by rw[V7,e])
    ·have e':(x==n)=NV:=by simpa using e
     exact h3 x d (by rw[V7,e'];exact hd)
  ·obtain⟨cl,e,h1,h2,h3⟩:=Fi env r bo λx hx=>h x (C6 _ hx)
   have hb:(k==BH)=NV:=by simpa using hk
   refine⟨cl,?_,λx d hd=>?_,λx hx=>?_,h3⟩
   ·simp only[hb,X9,if_false,pure_bind]
    exact e
   ·rcases h1 x d hd with ⟨k',m,q⟩ | q
    ·exact .inl ⟨k',C6 _ m,q⟩
    ·exact .inr q
   ·rcases B9.mp hx with q | q
    ·cases q
     exact absurd U hk
    ·exact h2 x q
def Ez(scope:BQ)(env:Env)(h:∀x∈scope.names,x.2=.free→∃c,env.cells.lookup x.1=NR c):
 ∃cl,closureFor scope env=pure cl∧(∀x c,cl.lookup x=NR c→(x,BH)∈scope.names∧env.cells.lookup x=NR c)∧∀x,(x,BH)∈scope.names→∃c,cl.lookup x=NR c:=by
 obtain⟨cl,e,h1,h2,_⟩:=Fi env scope.names [] h;refine⟨cl,?_,λx c hx=>?_,h2⟩
 ·unfold closureFor
  exact(congrArg (λt=>t >>= pure) e).trans (pure_bind _ _)
 ·rcases h1 x c hx with ⟨k,m,rfl,q⟩ | q
  ·exact⟨m,q⟩
  ·simp at q
def CQ{scope:BQ}{env:Env}(ef:∀y∈scope.names,y.2≠.cell){x:Str}(h:(GU scope env).names.lookup x=NR .cell∨(GU scope env).names.lookup x=NR .free):(x,BH)∈scope.names:=by
 have m:(x,NM)∈(GU scope env).names∨(x,BH)∈(GU scope env).names:=by
  rcases h with h | h
  ·exact .inl (O0 h)
  ·exact .inr (O0 h)
 unfold GU at m;rcases m with m | m
 all_goals
  obtain⟨⟨n,k⟩,hm,e⟩:=J4.mp m;dsimp only at e;split at e
  ·rename_i hc;simp only[J2,beq_iff_eq]at hc;cases e
   first
    | (rw[hc.1.1]at hm;exact hm)
    | skip
  ·cases e
   first
    | exact hm
    | exact absurd U (ef _ hm)
def jF(X:Cx)(scope:BQ)(N:List Str)(cl:List (Str×AF))(fp:List AF)(s:AG)(H:Hp)(C:AF):Cx where
 prog:=X.prog
 w:=X.w
 K:=X.K
 mg:=X.mg
 base:=X.base
 A:=X.A
 N:=N
 s₀:=s
 H₀:=H
 env:=LO scope cl C X.env
 outer:=X.stack
 stack:=X.stack
 ex:=fp
 calm:=X.calm
 fn:=λ_=>NV
 pn:=[]
 xe:=λ_ _=>False
def Vv(σ:St)(fr:List Nat):St:=fr.map λi=>σ.getD i sx
def blk(k:Nat)(σ:St)(fr:List Nat):St:=E9 k sx++Vv σ fr
def Kp(k:Nat)(σ:St)(fr:List Nat)(σ2:St):Prop:=σ2.length=(blk k σ fr).length∧∀(j:Nat) v,(blk k σ fr)[j]?=NR (NR v)→σ2[j]?=NR (NR v)
def PTs(X:Cx)(ifs:List AK)(t:TT):Prop:=
 ∀(aE:List (AF×Obj))(s:AG)(σ:St)(H:Hp)(Q:Bool→Hp→Prop),Inv X aE σ H s→t σ H Q →
  AL (AM X.prog X.w) X.A (forIn ifs NU λc r=>if r=NU then do let ok ←HZ c X.env (AU c X.env);pure (ForInStep.yield ok)else pure (ForInStep.yield r)) (TP X aE σ Q) X.xe s
def aJP:TT:=λ_ H Q=>Q NU H
def aEM:PTs X [] aJP:=λ_ _ _ H _ I h=>wpAny_tests_nil ⟨H,I,h⟩
def aEN{t:TT}(h:PT X c t):PTs X [c] t:=λaE s σ H Q I q=>wpAny_tests_one (h aE s σ H Q I q)
def Ej{prog:AQ}{w:AS}{A:AV}{R:FU→AG→Prop}{s:AG}{elt target iter:AK}{ifs:List AK}{scope:BQ}{pos:Pos}{it bo:AE}{env:Env}(I:Nat→AG→Prop)
 (turn:∀n s,I n s→AL (AM prog w) A (DU it) (λr s₁=>match r with
  | none=>R (.ok .next) s₁
  | some v=>AL (AM prog w) A (ER target it v) (λ_ s₀=>AL (AM prog w) A (EW target env v) (λ_ s₂=>
   AL (AM prog w) A (forIn ifs NU λc r=>if r=NU then do let ok ←HZ c env (AU c env);pure (ForInStep.yield ok)else pure (ForInStep.yield r)) (λok s₃=>
    if ok=NU then AL (AM prog w) A (AU elt env) (λx s₄=>
     AL (AM prog w) A (call (.builtin "list.append") [bo,x]) (λ_ s₅=>∃m,m<n∧I m s₅) (λ_ _=>False) s₄) (λ_ _=>False) s₃
    else ∃m,m<n∧I m s₃) (λ_ _=>False) s₂) (λ_ _=>False) s₀) (λ_ _=>False) s₁) (λ_ _=>False) s)
 (n:Nat) (h:I n s) :
 Cn (AM prog w) A (.compLoop (.ListComp elt [⟨target,iter,ifs,0⟩] scope pos) 0 it bo env) R s:=by
 refine codeAny_loop U I (λn s hI=>?_) n h;show AL _ A ((compTurn (.ListComp elt [⟨target,iter,ifs,0⟩] scope pos) 0 it bo env).onRaise (λx=>do noteFrame x env;theTreesLotGoes x)) _ _ s;refine wpAny_noted ?_;rw[compTurn_list];refine BA (E:=λ_ _=>False) ?_ (λ_ _ q=>q) λ_ _ x=>x.elim;refine AH (HI (AH (BA (turn n s hI) (λr s₁ h₁=>?_) λ_ _ h'=>h')));cases r with
 | none=>exact wpAny_pure h₁
 | some v=>
  refine AH (BA h₁ (λ_ s₀ h₀=>?_) λ_ _ h'=>h');refine AH (BA h₀ (λ_ s₂ h₂=>AH (BA h₂ (λok s₃ h₃=>?_) λ_ _ h'=>h')) λ_ _ h'=>h');cases ok with
  | false=>exact wpAny_pure ⟨U,h₃⟩
  | true=>exact AH (AH (BA h₃ (λx s₄ h₄=>AH (BA h₄ (λ_ s₅ h₅=>wpAny_pure (wpAny_pure ⟨U,h₅⟩)) λ_ _ h'=>h')) λ_ _ h'=>h'))
def aGn(J:It)(k:Nat)(fr:List Nat)(g:TG)(tc:TT)(te:TE)(σ:St)(H1:Hp)(Q:VK)(D:AF):Prop:=∃W:Nat→Nat→List V→Hp→Prop,(∃m,W 0 m [] (upd H1 D (.lst []))) ∧
 ∀i m ys H,W i m ys H→H D=NR (.lst ys)∧((J.stop i H∧Q (.ref D) H)∨(J.go i H∧∀x H',J.yld i H x H'→g x (blk k σ fr) H' λσ2 H2=>Kp k σ fr σ2∧tc σ2 H2 λok H3=>if ok=NU then
  te σ2 H3 λy H4=>H4 D=NR (.lst ys)∧ys.length<sizeLine∧∃m',m'<m∧W (i+1) m' (ys++[y]) (upd H4 D (.lst (ys++[y])))else ∃m',m'<m∧W (i+1) m' ys H3))
def Rg(wi:TI)(k:Nat)(fr:List Nat)(g:TG)(tc:TT)(te:TE):TE:=λσ H Q=>wi σ H λJ H1=>∀D,H1 D=sx→aGn J k fr g tc te σ H1 Q D
def qZ(scope MK:BQ):BQ:=
 {scope with names:=scope.names.map λ(n,k)=>if(k==.free&&MK.kind==.function&&MK.names.lookup n==NR .cell)then(n,.cell)else(n,k)}
structure lC(MK scope:BQ)(oN N:List Str)(k:Nat)(fr:List Nat):Prop where
 kind:scope.kind=.function
 cell:∀y∈scope.names,y.2≠.cell
 loc:∀y∈scope.names,y.2=.local→scope.names.lookup y.1=NR .local
 free:∀y∈scope.names,y.2=.free→MK.names.lookup y.1=NR .cell∨MK.names.lookup y.1=NR .free
 len:N.length=k+fr.length
 slots:∀j∈D5 fr.length,oN[fr.getD j 0]?=N[k+j]?
 from_:∀x∈N.drop k,(x,BH)∈scope.names∧((qZ scope MK).names.lookup x=NR .cell∨(qZ scope MK).names.lookup x=NR .free)
def uo(MK scope:BQ)(oN N:List Str)(k:Nat)(fr:List Nat):Bool:=
 decide (scope.kind=.function)&&decide (∀y∈scope.names,y.2≠.cell)&&decide (∀y∈scope.names,y.2=.local→scope.names.lookup y.1=NR .local) &&
 decide (∀y∈scope.names,y.2=.free→MK.names.lookup y.1=NR .cell∨MK.names.lookup y.1=NR .free)&&decide (N.length=k+fr.length) &&
 decide (∀j∈D5 fr.length,oN[fr.getD j 0]?=N[k+j]?) &&
 decide (∀x∈N.drop k,(x,BH)∈scope.names∧((qZ scope MK).names.lookup x=NR .cell∨(qZ scope MK).names.lookup x=NR .free))
def lC.of{MK scope:BQ}{fr:List Nat}(h:uo MK scope oN N k fr=NU):lC MK scope oN N k fr:=by unfold uo at h;simp only[J2,decide_eq_true_eq]at h;obtain⟨⟨⟨⟨⟨⟨h1,h2⟩,h3⟩,h4⟩,h5⟩,h6⟩,h7⟩:=h;exact⟨h1,h2,h3,h4,h5,h6,h7⟩
section
def aEO{fr:List Nat}(h:(blk k σ fr)[i]?=NR (NR v)):∃j o,i=k+j∧fr[j]?=NR o∧σ[o]?=NR (NR v):=by
 unfold blk at h;by_cases hi:i<k
 ·rw[F9 (by simpa using hi),O7]at h;rw[sk hi]at h;cases h
 ·rw[J7 (by simpa using hi),P7]at h;unfold Vv at h;rw[C5]at h;cases e:fr[i-k]? with
  | none=>rw[e]at h;cases h
  | some o=>
   rw[e]at h;refine⟨i-k,o,by omega,e,?_⟩;have h:NR (σ.getD o sx)=NR (NR v):=h;have h:=E6 h;rw[B7]at h;cases e2:σ[o]? with
   | none=>rw[e2]at h;cases h
   | some z=>rw[e2]at h;exact congrArg NR h
def dw{aE:List (AF×Obj)}{σ:St}{H:Hp}{s:AG}{scope:BQ}{N:List Str}{k:Nat}{fr:List Nat}{cl:List (Str×AF)}{fp:List AF}{h₁:Heap}{tk:Nat}{m:Str→Option AE}
 (I:Inv X aE σ H s) (B:lC X.env.scope scope X.N N k fr) (hf:∀b∈fp,Hq X aE H b) (oi:∀b∈fp,b<s.heap.objs.size)
 (eC:∀x c,cl.lookup x=NR c→(x,BH)∈scope.names∧X.env.cells.lookup x=NR c) (aEP:∀x,(x,BH)∈scope.names→∃c,cl.lookup x=NR c)
 (hn:h₁.Ns (s.heap.objs.size+1) m) (hs:Bi (s.heap.objs.size+1) ((s.heap.push {cls:=.type "list",data:=.seq ([]:List AE).toArray}).push {cls:=.type "dict",data:=.dict #[]}) h₁) :
 Inv (jF X scope N cl fp s H (s.heap.objs.size+1)) [] (blk k σ fr) (upd H s.heap.objs.size (.lst [])) {s with heap:=h₁,toks:=tk}:=by
 have I3:=I.aJL (ys:=[]) (af:=[]) (t':=tk) .nil (L5 _);have hD:H s.heap.objs.size=sx:=I.fresh;have hC:H (s.heap.objs.size+1)=sx:=I.hok.fresh (O5 _);have oe:∀b o,(s.heap.push {cls:=.type "list",data:=.seq ([]:List AE).toArray}).get? b=NR o→b≠s.heap.objs.size+1:=λb o e=>by have:=AN e;rw[BE]at this;exact F3 this
 have aGo:∀b o,(s.heap.push {cls:=.type "list",data:=.seq ([]:List AE).toArray}).get? b=NR o→h₁.get? b=NR o:=λb o e=>
  hs.extBut b o (oe b o e) (AI _ e)
 have kept:∀b o,s.heap.get? b=NR o→h₁.get? b=NR o:=λb o e=>aGo b o (AI _ e);refine⟨⟨I.ok.mod,B.kind,I.ok.glob,I.ok.blt,O5 _,λx y c h1 h2=>I.ok.inj x y c (eC x c h1).2 (eC y c h2).2,λx hx=>aEP x (CQ B.cell hx),λx c h _=>(nomatch h),
  I.ok.hd,I.ok.frames,.inl U,λb hb=>⟨?_,λx c e=>(hf b hb).2.2.2.2.1 x c (eC x c e).2⟩,λb o e=>I.bs b o e,G1 I.ok.bsz I.sz,λb o e hb=>?_,λb hb rg=>?_,I.stack,I.sr⟩,
  rfl,I.bare,Un.laid kept (C9 _) hD,⟨m,hn,λi x v h1 h2 h3=>?_⟩,λx c e=>?_,?_,λx c e=>?_,λp hp=>absurd (show p∈([]:List (AF×Obj))from hp) (by simp),?_,?_⟩
 ·exact F3 (N8 (oi b hb))
 ·rcases(hf b hb).2.2.2.1 with z | z
  ·exact I.ok.aBA b o e z
  ·exact absurd (E7 (AN e) (G1 I.ok.bsz z)) (L9 _)
 ·rcases B9.mp (I.Zw b rg)with z | z
  ·exact(hf b hb).2.1 z
  ·exact(hf b hb).2.2.1 z
 ·obtain⟨j,o,rfl,h4,h5⟩:=aEO h2
  have h1:N[k+j]?=NR x:=h1;have hj:j<fr.length:=(D4.mp h4).1;have hx:X.N[o]?=NR x:=by have q:=B.slots j (F7.mpr hj);rw[B7,h4]at q;exact q.trans h1
  obtain⟨hfr,hre⟩:=B.from_ x (D6 (i:=j) (by rw[U3];exact h1));have hk:=B.free _ hfr U;obtain⟨m0,hn0,hl0⟩:=I.loc;have hv:Ey X.env.scope x:=by
   rcases hk with q | q
   ·exact .inr (.inl q)
   ·exact .inr (.inr q)
  obtain⟨u,r,l⟩:=hl0 o x v hx h5 hv;refine⟨u,r,.inr ?_⟩;rcases l with ⟨q,_⟩ | ⟨_,c,e,z⟩
  ·rcases hk with q' | q'
   ·exact absurd (q.symm.trans q') (by intro z;cases z)
   ·exact absurd (q.symm.trans q') (by intro z;cases z)
  ·obtain⟨c',e'⟩:=aEP x hfr
   have e2:=(eC x c' e').2;rw[e]at e2;cases e2;refine⟨hre,c,e',?_⟩;obtain⟨oc,mT,hd⟩:=z;exact⟨oc,kept c oc mT,hd⟩
 ·obtain⟨v,oc,mT,hd⟩:=I.cell x c (eC x c e).2
  exact⟨v,oc,kept c oc mT,hd⟩
 ·show upd H s.heap.objs.size (.lst []) (s.heap.objs.size+1)=sx
  rw[bQ (Q7 (N2 _))];exact hC
 ·have hc:=(eC x c e).2
  obtain⟨v,oc,mT,hd⟩:=I.cell x c hc;show upd H s.heap.objs.size (.lst []) c=sx;rw[bQ (F3 (AN mT))];exact I.zR x c hc
 ·exact Ew.kept I3.hok aGo
 ·show (blk k σ fr).length=N.length
  rw[B.len];unfold blk Vv;simp
def QB{tg elt iter:AK}{ifs:List AK}{scope:BQ}{pos:Pos}{N:List Str}{k:Nat}{fr:List Nat}{g:TG}{tc:TT}{te:TE}{cl:List (Str×AF)}{aE:List (AF×Obj)}{σ:St}{H:Hp}{s:AG}{it:AF}{fp:List AF}{tn:Nat→Heap→Prop}{J:It}{Q:VK}
 {RR:AE→AF→FU→AG→Prop} {E:AE→AG→Prop} (cS:X.calm=NU) (I:Inv X aE σ H s) (T:Turn X.prog X.w X.K tg J fp it tn) (st:tn 0 s.heap) (hf:∀b∈fp,Hq X aE H b) (B:lC X.env.scope scope X.N N k fr)
 (eC:∀x c,cl.lookup x=NR c→(x,BH)∈scope.names∧X.env.cells.lookup x=NR c) (aEP:∀x,(x,BH)∈scope.names→∃c,cl.lookup x=NR c)
 (hg:∀cl fp s H C,PG (jF X scope N cl fp s H C) tg g) (hc:∀cl fp s H C,PTs (jF X scope N cl fp s H C) ifs tc) (he:∀cl fp s H C,PE (jF X scope N cl fp s H C) elt te)
 (hw:∀D,H D=sx→aGn J k fr g tc te σ H Q D)
 (hRR:∀D C m s' H',s'.heap.Ns C m→s.heap.objs.size≤C→H' C=sx→C≠D→Inv X aE σ H' s'→Q (.ref D) H'→RR (.ref D) C (.ok .next) s') :
 AL (AM X.prog X.w) X.A (newList []) (λbo s₃=>AL (AM X.prog X.w) X.A (newFunctionEnv scope X.env.globals cl [] X.env.qual sx .none (NR X.env)) (λcenv s₄=>
  Cn (AM X.prog X.w) X.A (.compStart (.ListComp elt [⟨tg,iter,ifs,0⟩] scope pos) 0 (.ref it) bo {cenv with scope:=GU scope X.env}) (RR bo cenv.locals) s₄) E s₃) E s:=by
 refine CI (wpAny_newFunctionEnv B.cell (by intro y hy;simp at hy) (λh₁ hns₁ hsb₁=>?_) B.kind);dsimp only at hns₁ hsb₁ ⊢;rw[BE]at hns₁ hsb₁ ⊢;have oi:∀b∈fp,b<s.heap.objs.size:=λb hb=>by obtain⟨o,e,_⟩:=T.obj 0 _ st b hb;exact AN e
 have I4:=dw (tk:=s.toks+([]:List (Str×AE)).length) I B hf oi eC aEP hns₁ hsb₁;generalize hD:s.heap.objs.size=D at *;have hDn:H D=sx:=by rw[←hD];exact I.fresh
 obtain⟨W,⟨m0,w0⟩,turn⟩:=hw D hDn;have st1:tn 0 h₁:=T.keep 0 _ _ st λb hb o e=>hsb₁.extBut b o (F3 (N8 (by have:=oi b hb;exact this))) (AI _ (AI _ e));have fr0:∀b∈fp,(upd H D (.lst [])) b=sx:=λb hb=>by rw[bQ (F3 (oi b hb))];exact(hf b hb).1
 generalize kB:jF X scope N cl fp s H (D+1)=X' at I4;have gy:∀{H':Hp},(∀b∈fp,H' b=sx)→∀b∈fp,Hq X' [] H' b:=λ{H'} hn b hb=>by
  subst kB;refine⟨hn b hb,?_,λz=>?_,.inl hb,λx c e=>(hf b hb).2.2.2.2.1 x c (eC x c e).2,λp hp=>absurd (show p∈([]:List (AF×Obj))from hp) (by simp)⟩
  ·exact F3 (N8 (oi b hb))
  ·rcases B9.mp (I.Zw b z)with z | z
   ·exact(hf b hb).2.1 z
   ·exact(hf b hb).2.2.1 z
 have loop:∀s₃:AG,s₃={s with heap:=h₁,toks:=s.toks+([]:List (Str×AE)).length} →
  Cn (AM X.prog X.w) X.A (.compLoop (.ListComp elt [⟨tg,iter,ifs,0⟩] scope pos) 0 (.ref it) (.ref D) (LO scope cl (D+1) X.env)) (RR (.ref D) (D+1)) s₃:=by
  rintro s₃ rfl;refine Ej (λn s'=>∃i ys H',Inv X' [] (blk k σ fr) H' s'∧tn i s'.heap∧(∀b∈fp,H' b=sx)∧W i n ys H') ?_ m0 ⟨0,[],_,I4,st1,fr0,w0⟩;rintro n s5 ⟨i,ys,H5,I5,st5,fr5,w5⟩;obtain⟨hys,way⟩:=turn i n ys H5 w5;have e1:X'.prog=X.prog:=by rw[←kB];rfl
  have e2:X'.w=X.w:=by rw[←kB];rfl
  have e3:X'.K=X.K:=by rw[←kB];rfl
  have e4:X'.A=X.A:=by rw[←kB];rfl
  have e5:X'.calm=NU:=by rw[←kB];exact cS
  have e6:X'.env=LO scope cl (D+1) X.env:=by rw[←kB];rfl
  have e7:X'.xe=λ_ _=>False:=by rw[←kB];rfl
  rcases way with ⟨stop,q⟩ | ⟨go,step⟩
  ·have d:=T.done X' e1 e2 e3 e5 i [] s5 _ H5 (λ_ _=>False) I5 (gy fr5) st5 stop
   rw[e4]at d;refine iY d λr s6 ⟨hr,I6⟩=>?_;subst hr;subst kB;obtain⟨m6,hn6,_⟩:=I6.loc;refine hRR D (D+1) m6 s6 H5 hn6 (O5 _) I6.free (Q7 (N2 _)) ?_ q;exact I.call' I6.os I6.base I6.hok I6.bare λb hb=>⟨(hf b hb).2.2.2.1,(hf b hb).2.1,(hf b hb).2.2.2.2.1,(hf b hb).2.2.2.2.2⟩
  ·have d:=T.item X' e1 e2 e3 e5 i [] s5 _ H5 (λ_ _=>False) I5 (gy fr5) st5 go
   rw[e4]at d;refine iY d λr s6 ⟨u,hr,h6⟩=>?_;subst hr;refine iY h6 λ_ s7 ⟨x,H7,I7,r7,y7,st7,fr7⟩=>?_;have I7':=I7.pinned (gy fr7) (T.obj _ _ st7);have hg':PG X' tg g:=by rw[←kB];exact hg _ _ _ _ _
   have hc':PTs X' ifs tc:=by rw[←kB];exact hc _ _ _ _ _
   have he':PE X' elt te:=by rw[←kB];exact he _ _ _ _ _
   have a1:=hg' _ s7 _ H7 x u _ I7' r7 (step x H7 y7);rw[e1,e2,e4,e6,e7]at a1;refine iY a1 λ_ s8 ⟨σ8,H8,I8,⟨kl,kk⟩,q8⟩=>?_;have a2:=hc' _ s8 σ8 H8 _ I8 q8;rw[e1,e2,e4,e6,e7]at a2;refine iY a2 λok s9 ⟨H9,I9,q9⟩=>?_;have again:∀{Ha:Hp} {ya:List V} {sa:AG},Inv X' ([]++Qp fp s7.heap) σ8 Ha sa→(∃m',m'<n∧W (i+1) m' ya Ha) →
    ∃m,m<n∧∃i ys H',Inv X' [] (blk k σ fr) H' sa∧tn i sa.heap∧(∀b∈fp,H' b=sx)∧W i m ys H':=λ{Ha ya sa} Ia ⟨m',hm,w'⟩=>by
    refine⟨m',hm,i+1,ya,Ha,(Ia.weak kl.symm kk).Hr,T.keep _ _ _ st7 λb hb o e=>(Ia.pin (b,o) (E5 _ (E5 _ (xY hb e)))).1,λb hb=>?_,w'⟩;obtain⟨o,e,d⟩:=T.obj _ _ st7 b hb;exact(Ia.pin (b,o) (E5 _ (E5 _ (xY hb e)))).2.1
   cases ok with
   | false=>exact again I9 q9
   | true=>have a3:=he' _ s9 σ8 H9 _ I9 q9;rw[e1,e2,e4,e6,e7]at a3;show AL _ _ _ _ _ s9;refine iY a3 λv s10 ⟨y,H10,I10,r10,hD10,hz,q10⟩=>?_;have a4:=jN (X:=X') _ s10 σ8 H10 (.ref D) [y] (.ref D) [v] (λ_ H11=>H11=upd H10 D (.lst (ys++[y]))) I10 U (.cons r10 .nil) ⟨D,ys,y,U,U,hD10,hz,U⟩;rw[e1,e2,e4,e7]at a4;refine iY a4 λ_ s11 ⟨_,H11,I11,_,e11⟩=>?_;subst e11;exact again I11 q10
 exact codeAny_compStart_list (loop _ U) (T.self _ 0 _ _ _ st1 (loop _ U))
def uq{tg elt iter:AK}{ifs:List AK}{scope:BQ}{pos:Pos}{wi:TI}{g:TG}{tc:TT}{te:TE}(N:List Str)(k:Nat)(fr:List Nat)(cS:X.calm=NU)(B:lC X.env.scope scope X.N N k fr)(hi:PI X tg iter wi)
 (hg:∀cl fp s H C,PG (jF X scope N cl fp s H C) tg g) (hc:∀cl fp s H C,PTs (jF X scope N cl fp s H C) ifs tc) (he:∀cl fp s H C,PE (jF X scope N cl fp s H C) elt te)
 (hs:∀x,BD iter X.env x=pure x:=by intro _;rfl):PE X (.ListComp elt [⟨tg,iter,ifs,0⟩] scope pos) (Rg wi k fr g tc te):=by
 intro aE s σ H Q I h;obtain⟨cl,e,h1,h2⟩:=Ez scope X.env λy hy hk=>I.ok.has y.1 (B.free y hy hk);rw[eval_ListComp];refine FY (use:=sx) U hs e B.kind B.loc (BA (hi aE s σ H _ I h) (λxv s₁ q₁=>BA q₁ (λitv s₂ q₂=>?_) λ_ _ x=>x) λ_ _ x=>x);obtain⟨it,fp,tn,J,H2,rfl,I2,T,qo,f2,hw⟩:=q₂;refine QB (Q:=Q) (RR:=λbo C=>compPost (AM X.prog X.w) X.A X.xe sx (EP X aE σ Q) bo C) cS I2 T qo f2 B h1 h2 hg hc he hw ?_;intro D C m s' H' hn hC hf dS I' q;refine⟨m,hn,λh' hs'=>⟨.ref D,H',?_,U,q⟩⟩;exact I'.turned (t':=s'.toks) (λb o hb eb=>(hs'.2 b hb).trans eb) hf (Q7 (E7 I2.lt hC)) (.inr (G1 I2.sz hC)) (λx c ec z=>by
  obtain⟨v,q⟩:=I2.cell x c ec;exact absurd (E7 q.lt (by rw[z];exact hC)) (L9 _)) λp hp z=>absurd (E7 (AN (I2.pin p hp).1) (by rw[z];exact hC)) (L9 _)
def aEQ{tg elt iter:AK}{ifs:List AK}{scope:BQ}{pos kN py:Pos}{y:Str}{i:Nat}{wi:TI}{g:TG}{tc:TT}{te:TE}(N:List Str)(k:Nat)(fr:List Nat)(cS:X.calm=NU)(B:lC X.env.scope scope X.N N k fr)(hN:X.N.Nodup)(hy:X.N[i]?=NR y)(hx:Loc X.env.scope y)(hi:PI X tg iter wi)
 (hg:∀cl fp s H C,PG (jF X scope N cl fp s H C) tg g) (hc:∀cl fp s H C,PTs (jF X scope N cl fp s H C) ifs tc) (he:∀cl fp s H C,PE (jF X scope N cl fp s H C) elt te)
 (hsw:DO (.ListComp elt [⟨tg,iter,ifs,0⟩] scope pos) (NR (.Name y py)) kN.line X.env=pure NU:=by rfl)
 (hs:∀x,BD iter X.env x=pure x:=by intro _;rfl) (hf:X.fn y=NU∨X.env.scope.names.lookup y=NR .local:=by first | exact .inl U | exact .inr U | assumption) :
 PS X (.Assign [.Name y py] (.ListComp elt [⟨tg,iter,ifs,0⟩] scope pos) kN) (xX (Rg wi k fr g tc te) (iZ i)):=by
 intro aE s σ H D I h;obtain⟨cl,e,h1,h2⟩:=Ez scope X.env λy hy hk=>I.ok.has y.1 (B.free y hy hk);rw[exec_Assign_Name_used _ _ _ _ hsw];refine AH (HI (AH ?_));show AL _ X.A (do let _ ←comprehension (.ListComp elt [⟨tg,iter,ifs,0⟩] scope pos) scope X.env _ (newList []) NV (AU iter X.env) (NR (EW (.Name y py) X.env))) _ _ s;refine AH (BA (FY (use:=NR (EW (.Name y py) X.env)) (Q:=λ_ s'=>SP X aE D .next s') U hs e B.kind B.loc
  (BA (hi aE s σ H _ I h) (λxv s₁ q₁=>BA q₁ (λitv s₂ q₂=>?_) λ_ _ x=>x) λ_ _ x=>x)) (λ_ s' hq=>wpAny_pure (wpAny_pure hq)) λ_ _ x=>x)
 obtain⟨it,fp,tn,J,H2,rfl,I2,T,qo,f2,hw⟩:=q₂;refine QB (Q:=λx H1=>iZ i x σ H1 D.nx) (RR:=λbo C=>compPost (AM X.prog X.w) X.A X.xe (NR (EW (.Name y py) X.env)) (λ_ s'=>SP X aE D .next s') bo C) cS I2 T qo f2 B h1 h2 hg hc he hw ?_;intro E C m s' H' hn hC hfr dS I' q;show AL _ X.A (EW (.Name y py) X.env (.ref E)) _ _ _;have cne:∀x c,X.env.cells.lookup x=NR c→c≠C:=λx c ec z=>by obtain⟨v,q⟩:=I2.cell x c ec;exact absurd (E7 q.lt (by rw[z];exact hC)) (L9 _)
 refine IL (Wv I' hN hy hx (show RelV (.ref E) (.ref E)from rfl) (λs6 I6 ⟨a,hsb,ha⟩=>?_) hf);have neA:C≠a:=by
  rcases ha with z | z
  ·rw[z];exact Q7 (E7 I2.lt hC)
  ·exact λq=>cne _ _ z q.symm
 refine⟨m,hn.sameBut hsb neA,λh'' hs''=>⟨_,H',?_,q⟩⟩;exact I6.turned (t':=s6.toks) (λb o hb eb=>(hs''.2 b hb).trans eb) hfr (Q7 (E7 I2.lt hC)) (.inr (G1 I2.sz hC)) cne
  λp hp z=>absurd (E7 (AN (I2.pin p hp).1) (by rw[z];exact hC)) (L9 _)
end
set_option maxHeartbeats 4000000
def JIs(J:It)(P:Hp→Prop)(xs:List V):Prop:=
 ∀i H,P H→(i<xs.length→J.go i H)∧(∀x H',J.yld i H x H'→H'=H∧(i<xs.length→xs[i]?=NR x))∧(xs.length≤i→J.stop i H)
def Rh{xs:List V}:JIs (Itl K a) (λH=>oU K H a xs) xs:=λi H hq=>
 ⟨λh=>⟨xs,xs[i],hq,by simp[h]⟩,λx H' ⟨e,y⟩=>⟨e,λ_=>y xs hq⟩,λh=>⟨xs,hq,h⟩⟩
def aER{xs:List V}:JIs (Itt K a) (λH=>xW K H a xs) xs:=λi H hq=>
 ⟨λh=>⟨xs,xs[i],hq,by simp[h]⟩,λx H' ⟨e,y⟩=>⟨e,λ_=>y xs hq⟩,λh=>⟨xs,hq,h⟩⟩
def Kz{lo:Int}{n:Nat}:JIs (Itr lo n) (λ_=>True) ((D5 n).map λi:Nat=>V.int (lo+(i:Int))):=λi H _=>
 ⟨λh=>show i<n by simpa using h,λx H' ⟨e,y⟩=>⟨e,λh=>by
  have h:i<n:=by simpa using h
  subst y;simp[h]⟩,λh=>show n≤i by simpa using h⟩
section
def gQ{scope:BQ}{x:Str}{pos:Pos}(hN:N.Nodup)(hi:N[0]?=NR x)(hx:(qZ scope X.env.scope).names.lookup x=NR .local):
 ∀cl fp s H C,PG (jF X scope N cl fp s H C) (.Name x pos) (iZ 0):=λ_ _ _ _ _=>fJ hN hi (D8 hx) (D7 hx)
def aES{P:AQ}{k:Key}{v:AE}(h:(jB P w).is k v=NU):RelV (kV k) v:=by
 rcases iK (k:=k) (v:=v) h with ⟨i,t,rfl,rfl⟩ | ⟨x,t,rfl,rfl⟩
 ·exact⟨t,U⟩
 ·exact⟨t,U⟩
def Hw{J:It}{P:Hp→Prop}{xs:List V}(hJ:JIs J P xs){g:TG}{tb:TS}{D:Ends}{σ:St}{H:Hp}(Pv:Nat→St→Hp→Prop)(h0:Pv 0 σ H)(hl:∀i σ H,i≤xs.length→Pv i σ H→P H)
 (hs:∀i x σ H,xs[i]?=NR x→Pv i σ H→g x σ H λσ2 H2=>tb {D with nx:=Pv (i+1),ct:=Pv (i+1),bk:=D.nx} σ2 H2) (hd:∀σ H,Pv xs.length σ H→D.nx σ H) :
 ∃W:Nat→Nat→St→Hp→Prop,(∃m,W 0 m σ H)∧∀i m σ H,W i m σ H →
  (J.stop i H∧D.nx σ H)∨(J.go i H∧∃N:St→Hp→Prop,(∀σ' H',N σ' H'→∃m',m'<m∧W (i+1) m' σ' H')∧∀x H',J.yld i H x H'→g x σ H' λσ2 H2=>tb {D with nx:=N,ct:=N,bk:=D.nx} σ2 H2):=by
 refine⟨λi m σ H=>m=xs.length-i∧i≤xs.length∧Pv i σ H,⟨xs.length,by simp,L5 _,h0⟩,?_⟩;rintro i m σ H ⟨rfl,hi,p⟩;obtain⟨j1,j2,j3⟩:=hJ i H (hl i σ H hi p);by_cases dA:i<xs.length
 ·refine .inr ⟨j1 dA,Pv (i+1),λσ' H' p'=>⟨xs.length-(i+1),by omega,U,dA,p'⟩,λx H' y=>?_⟩;obtain⟨e,ex⟩:=j2 x H' y;subst e;exact hs i x σ _ (ex dA) p
 ·have e:i=xs.length:=by omega
  subst e;exact .inl ⟨j3 (C9 _),hd σ H p⟩
end
section
theorem Aq:∀{bs:List Bool} {us:List AE},Vals (bs.map V.bl) us→us=bs.map CM
 | [],us,r=>by rw[K9]at r;cases r;rfl
 | b::bs,us,r=>by
  rw[E2]at r;cases r with
  | cons r1 r2=>
   cases(show _=CM b from r1)
   rw[Aq r2];rfl
def dz(bs:List Bool):((D5 bs.length).all λi=>(bs[i]?).getD NU)=bs.all id:=by
 rw[M7,N3,N3];constructor
 ·intro h b hb;obtain⟨i,hi,rfl⟩:=G6 hb;have:=h i (F7.mpr hi);simpa[hi]using this
 ·intro h i hi;have hi':=F7.mp hi;simp only[B6 hi',P0];exact h _ (L0 hi')
def fj(bs:List Bool):((D5 bs.length).any λi=>(bs[i]?).getD NV)=bs.any id:=by
 rw[M7,Q9,Q9];constructor
 ·rintro⟨i,hi,e⟩
  have hi':=F7.mp hi;simp only[B6 hi',P0]at e;exact⟨_,L0 hi',e⟩
 ·rintro⟨b,hb,e⟩
  obtain⟨i,hi,rfl⟩:=G6 hb;exact⟨i,F7.mpr hi,by simp only[B6 hi,P0];exact e⟩
def CT{h':Heap}{o:Obj}(hk:∀b x,b∉[s.heap.objs.size]→(s.heap.push o).get? b=NR x→h'.get? b=NR x):∀b x,s.heap.get? b=NR x→h'.get? b=NR x:=
 λb x e=>hk b x (λhm=>by rw[D2.mp hm]at e;exact L9 _ (AN e)) (AI _ e)
def aB9(hc:X.calm=NU):mQ X (.builtin "all") (λxs H Q=>∃(p:AF)(bs:List Bool),xs=[.ref p]∧oU X.K H p (bs.map V.bl)∧Q (.bl (bs.all id)) H):=by
 intro aE s σ H xs us Q I r h;obtain⟨p,bs,rfl,hq,q⟩:=h;obtain⟨u,rfl,rx⟩:=vals1 r;cases rx;obtain⟨af,rv,pl,hz⟩:=I.list hq;have hb:=Aq rv;subst hb;have hl:=pl.isList;have dA:p<s.heap.objs.size:=by obtain⟨_,e,_⟩:=hl;exact AN e
 refine call_all_walk (DF hl ?_);refine⟨s.heap.objs.size,[s.heap.objs.size,p],[s.heap.objs.size],_,_,_,λi=>(bs[i]?).getD NU,U,HC (A:=X.A.in1) (I.ok.hd hc) _ p (F3 dA) _,
  ⟨⟨_,AR _ U,U,U⟩,hl.push _⟩,λi v s' Q' E' hP hQ=>?_,λh' tk hk=>?_⟩
 ·have e:(bs.map CM)[i]?=NR v:=by simpa using hP
  rw[C5]at e;cases e2:bs[i]? with
  | none=>rw[e2]at e;cases e
  | some b=>rw[e2]at e;cases e;simp only[e2,P0]at hQ;exact BC hQ
 ·have e:((D5 (bs.map CM).toArray.size).all λi=>(bs[i]?).getD NU)=bs.all id:=by rw[D3,B8];exact dz bs
  rw[e];exact⟨.bl _,H,I.kept (CT hk),U,q⟩
def aCa(hc:X.calm=NU):mQ X (.builtin "any") (λxs H Q=>∃(p:AF)(bs:List Bool),xs=[.ref p]∧oU X.K H p (bs.map V.bl)∧Q (.bl (bs.any id)) H):=by
 intro aE s σ H xs us Q I r h;obtain⟨p,bs,rfl,hq,q⟩:=h;obtain⟨u,rfl,rx⟩:=vals1 r;cases rx;obtain⟨af,rv,pl,hz⟩:=I.list hq;have hb:=Aq rv;subst hb;have hl:=pl.isList;have dA:p<s.heap.objs.size:=by obtain⟨_,e,_⟩:=hl;exact AN e
 refine call_any_walk (DF hl ?_);refine⟨s.heap.objs.size,[s.heap.objs.size,p],[s.heap.objs.size],_,_,_,λi=>(bs[i]?).getD NV,U,HC (A:=X.A.in1) (I.ok.hd hc) _ p (F3 dA) _,
  ⟨⟨_,AR _ U,U,U⟩,hl.push _⟩,λi v s' Q' E' hP hQ=>?_,λh' tk hk=>?_⟩
 ·have e:(bs.map CM)[i]?=NR v:=by simpa using hP
  rw[C5]at e;cases e2:bs[i]? with
  | none=>rw[e2]at e;cases e
  | some b=>rw[e2]at e;cases e;simp only[e2,P0]at hQ;exact BC hQ
 ·have e:((D5 (bs.map CM).toArray.size).any λi=>(bs[i]?).getD NV)=bs.any id:=by rw[D3,B8];exact fj bs
  rw[e];exact⟨.bl _,H,I.kept (CT hk),U,q⟩
def aAw{P:AQ}{kvs:List (Key×V)}{vs:List (Key×AE)}(cy:KV kvs vs){us:List AE}(hl:us.length=vs.length)(hv:∀(j:Nat)(v:AE),us[j]?=NR v→∃k x,vs[j]?=NR (k,x)∧(jB P w).is k v=NU):
 Vals (kvs.map λkv=>kV kv.1) us:=by
 have ek:=KV.keys cy;have e0:(kvs.map λkv=>kV kv.1)=(vs.map (·.1)).map kV:=by rw[←ek,M4];rfl
 rw[e0];clear e0 ek cy
 induction vs generalizing us with
 | nil=>
  cases us with
  | nil=>exact .nil
  | cons _ _=>simp at hl
 | cons p r ih=>
  cases us with
  | nil=>simp at hl
  | cons u us=>refine .cons ?_ (ih (by simpa using hl) λj v e=>by simpa using hv (j+1) v (by simpa using e));obtain⟨k,x,e,h⟩:=hv 0 u U;simp at e;subst e;exact aES h
def Av(hc:X.calm=NU):mQ X (.type "list") (λxs H Q=>∃p kvs,xs=[.ref p]∧Rd H p (.dK kvs)∧∀l,H l=sx→Q (.ref l) (upd H l (.lst (kvs.map λkv=>kV kv.1)))):=by intro aE s σ H xs us Q I r h;obtain⟨p,kvs,rfl,hq,q⟩:=h;obtain⟨u,rfl,rx⟩:=vals1 r;cases rx;obtain⟨hz,rh,vs,cy,dd⟩:=Np I.hok hq;obtain⟨ep,ke⟩:=dd.dictAt;have hl:=KV.length cy;refine PySem.W.kdl_call (PySem.W.kdl_dict (knd:=jB X.prog X.w) (kvs:=vs) (ep:=ep) rh) (I.ok.hd hc) ke (by omega) ?_;intro h' tk bo c kp e rj;have hk:=aAw (P:=X.prog) (w:=X.w) cy (us:=bo.toList) (by rw[L3];exact rj.1) λj v ej=>rj.2 j v (by rw[←M8];exact ej);exact⟨.ref s.heap.objs.size,_,I.laid (t':=tk) kp (C9 _) (show jU X.prog X.w _ h' _ (.lst (kvs.map λkv=>kV kv.1))from⟨by rw[B8];exact hz,bo.toList,c,hk,by simpa using e⟩),U,q _ (I.hok.fresh (C9 _))⟩
def rising(ns ms:List Int):Prop:=ms.Perm ns∧ms.Pairwise (·≤·)
def QC:mQ X (.builtin "sorted") (λxs H Q=>∃(p:AF)(ns:List Int),xs=[.ref p]∧oU X.K H p (ns.map V.int)∧ns.length<64∧∀l ms,H l=sx→rising ns ms→Q (.ref l) (upd H l (.lst (ms.map V.int)))):=by
 intro aE s σ H xs us Q I r h;obtain⟨p,ns,rfl,hq,h64,q⟩:=h;obtain⟨u,rfl,rx⟩:=vals1 r;cases rx;obtain⟨af,rv,pl,hz⟩:=I.list hq;have ag:=rv.length;rw[B8]at ag;refine sorted_ints pl.isList (intsAre_of rv) (by omega) λout ns' a1 a2 a3=>?_;obtain⟨e,he⟩:=sortedAll_at s.heap af out;have hl2:ns'.length=ns.length:=a2.length_eq;have hs:H (s.heap.objs.size+1)=sx:=I.hok.fresh (O5 _);have I2:=I.laid (t':=s.toks) (a:=s.heap.objs.size+1) (o:=.lst (ns'.map V.int)) (h':=sortedAll s.heap af out) (λb o e=>sortedAll_old e) (O5 _)
  ⟨by rw[B8];exact P4 (tY (by omega)),out.toList,e,Dg a1,by simpa[IE]using he⟩
 exact⟨.ref _,_,I2,U,q _ _ hs ⟨a2,a3⟩⟩
end
inductive DV where
 | int (i:Int) | non | lst (ds:List DV) | tup (ds:List DV)
mutual
def Reads(K:aG)(H:Hp):DV→V→Prop
 | .int i,x=>x=.int i
 | .non,x=>x=.non
 | .lst ds,x=>∃a xs,x=.ref a∧oU K H a xs∧fG K H ds xs
 | .tup ds,x=>∃a xs,x=.ref a∧xW K H a xs∧fG K H ds xs
def fG(K:aG)(H:Hp):List DV→List V→Prop
 | [],xs=>xs=[]
 | d::ds,xs=>∃y ys,xs=y::ys∧Reads K H d y∧fG K H ds ys
end
mutual
def DV.depth:DV→Nat
 | .int _=>0
 | .non=>0
 | .lst ds=>jG ds+1
 | .tup ds=>jG ds+1
def jG:List DV→Nat
 | []=>0
 | d::ds=>max d.depth (jG ds)
end
def fG.length:∀{ds:List DV} {xs:List V},fG K H ds xs→xs.length=ds.length
 | [],xs,h=>by unfold fG at h;rw[h];rfl
 | d::ds,xs,h=>by unfold fG at h;obtain⟨y,ys,rfl,_,h2⟩:=h;simp[fG.length h2]
theorem fG.get:∀{ds:List DV} {xs:List V} {i:Nat} {d:DV},fG K H ds xs→ds[i]?=NR d→∃x,xs[i]?=NR x∧Reads K H d x
 | [],xs,i,d,h,e=>by simp at e
 | d'::ds,xs,0,d,h,e=>by unfold fG at h;obtain⟨y,ys,rfl,h1,_⟩:=h;simp at e;subst e;exact⟨y,U,h1⟩
 | d'::ds,xs,i+1,d,h,e=>by unfold fG at h;obtain⟨y,ys,rfl,_,h2⟩:=h;obtain⟨x,e1,e2⟩:=fG.get h2 (by simpa using e);exact⟨x,by simpa using e1,e2⟩
def Ri:∀{ds:List DV} {i:Nat} {d:DV},ds[i]?=NR d→d.depth≤jG ds
 | [],i,d,e=>by simp at e
 | d'::ds,0,d,e=>by simp at e;subst e;unfold jG;exact Nat.le_max_left _ _
 | d'::ds,i+1,d,e=>by have:=Ri (ds:=ds) (i:=i) (d:=d) (by simpa using e);unfold jG;exact G1 this (Nat.le_max_right _ _)
def gf(A:AV):A.in1.units=A.units+1:=rfl
section
open SeqAt
open Classical in
def Aw(d e:DV):Bool:=decide (d=e)
def wM{d e:DV}:Aw d e=NU↔d=e:=by unfold Aw;simp
def Ax(d:DV):Aw d d=NU:=wM.mpr U
def lK{d e:DV}(h:d≠e):Aw d e=NV:=by unfold Aw;simp[h]
def aET(a b:Int):Aw (.int a) (.int b)=(a==b):=by
 by_cases h:a=b
 ·subst h;simp[Ax]
 ·rw[lK (by simpa using h)];simp[h]
open Classical in
def qR{ds es:List DV}(hl:ds.length=es.length):((D5 ds.length).all λi=>match ds[i]?,es[i]? with | some d,NR e=>Aw d e | _,_=>NU)=decide (ds=es):=by
 rw[M7,N3,decide_eq_true_iff];constructor
 ·intro h;apply Z7 hl;intro i h1 h2;have:=h i (F7.mpr h1);simp only[B6 h1,B6 h2]at this;exact wM.mp this
 ·rintro rfl i hi;have hi':=F7.mp hi;simp only[B6 hi'];exact Ax _
open Classical in
def ur(ds es:List DV):Aw (.lst ds) (.lst es)=decide (ds=es):=by
 by_cases h:ds=es
 ·subst h;simp[Ax]
 ·rw[lK (by intro z;cases z;exact h U)];simp[h]
open Classical in
def uv(ds es:List DV):Aw (.tup ds) (.tup es)=decide (ds=es):=by
 by_cases h:ds=es
 ·subst h;simp[Ax]
 ·rw[lK (by intro z;cases z;exact h U)];simp[h]
def Xj(I:Inv X aE σ H s):∀(n:Nat)(d e:DV)(x:V),d.depth≤n→Reads X.K H d x→Reads X.K H e x→d=e:=by
 have lists:∀(n:Nat),(∀(d e:DV)(x:V),d.depth≤n→Reads X.K H d x→Reads X.K H e x→d=e)→∀(ds es:List DV)(xs:List V),jG ds≤n→fG X.K H ds xs→fG X.K H es xs→ds=es:=by
  intro n ih ds
  induction ds with
  | nil=>
   intro es xs _ h1 h2;have l1:=h1.length;have l2:=h2.length;cases es with
   | nil=>rfl
   | cons _ _=>rw[l1]at l2;simp at l2
  | cons d ds ihl=>
   intro es xs hd h1 h2;have hd1:d.depth≤n:=by unfold jG at hd;omega
   have hd2:jG ds≤n:=by unfold jG at hd;omega
   unfold fG at h1;obtain⟨y,ys,rfl,a1,a2⟩:=h1;cases es with
   | nil=>have:=h2.length;simp at this
   | cons e es=>unfold fG at h2;obtain⟨y',iN,q,b1,b2⟩:=h2;cases q;rw[ih d e y hd1 a1 b1,ihl es ys hd2 a2 b2]
 have kinds:∀{a:AF} {xs ys:List V},oU X.K H a xs→xW X.K H a ys→False:=λ{a xs ys} h1 h2=>by obtain⟨_,_,p1,_⟩:=I.list h1;obtain⟨_,_,p2,_⟩:=I.tuple h2;exact ne_of_list_tuple p1.isList (show s.heap.IsTuple a _ from p2) U
 intro n
 induction n with
 | zero=>
  intro d e x hd h1 h2;cases d with
  | int i=>
   unfold Reads at h1;subst h1;cases e with
   | int j=>unfold Reads at h2;cases h2;rfl
   | non=>unfold Reads at h2;cases h2
   | lst es=>unfold Reads at h2;obtain⟨_,_,q,_⟩:=h2;cases q
   | tup es=>unfold Reads at h2;obtain⟨_,_,q,_⟩:=h2;cases q
  | non=>
   unfold Reads at h1;subst h1;cases e with
   | non=>rfl
   | int j=>unfold Reads at h2;cases h2
   | lst es=>unfold Reads at h2;obtain⟨_,_,q,_⟩:=h2;cases q
   | tup es=>unfold Reads at h2;obtain⟨_,_,q,_⟩:=h2;cases q
  | lst ds=>unfold DV.depth at hd;omega
  | tup ds=>unfold DV.depth at hd;omega
 | succ n ih=>
  intro d e x hd h1 h2;cases d with
  | int i=>
   unfold Reads at h1;subst h1;cases e with
   | int j=>unfold Reads at h2;cases h2;rfl
   | non=>unfold Reads at h2;cases h2
   | lst es=>unfold Reads at h2;obtain⟨_,_,q,_⟩:=h2;cases q
   | tup es=>unfold Reads at h2;obtain⟨_,_,q,_⟩:=h2;cases q
  | non=>
   unfold Reads at h1;subst h1;cases e with
   | non=>rfl
   | int j=>unfold Reads at h2;cases h2
   | lst es=>unfold Reads at h2;obtain⟨_,_,q,_⟩:=h2;cases q
   | tup es=>unfold Reads at h2;obtain⟨_,_,q,_⟩:=h2;cases q
  | lst ds=>
   unfold Reads at h1;obtain⟨a,xs,rfl,hq,r⟩:=h1;cases e with
   | int j=>unfold Reads at h2;cases h2
   | non=>unfold Reads at h2;cases h2
   | lst es=>
    unfold Reads at h2;obtain⟨b,ys,q,fI,r2⟩:=h2;cases q;have:=I.Ho hq fI;subst this;rw[lists n ih ds es xs (by unfold DV.depth at hd;omega) r r2]
   | tup es=>
    unfold Reads at h2;obtain⟨b,ys,q,fI,r2⟩:=h2;cases q;exact(kinds hq fI).elim
  | tup ds=>
   unfold Reads at h1;obtain⟨a,xs,rfl,hq,r⟩:=h1;cases e with
   | int j=>unfold Reads at h2;cases h2
   | non=>unfold Reads at h2;cases h2
   | lst es=>
    unfold Reads at h2;obtain⟨b,ys,q,fI,r2⟩:=h2;cases q;exact(kinds fI hq).elim
   | tup es=>unfold Reads at h2;obtain⟨b,ys,q,fI,r2⟩:=h2;cases q;have:=I.Ww hq fI;subst this;rw[lists n ih ds es xs (by unfold DV.depth at hd;omega) r r2]
def aCb(I:Inv X aE σ H s)(i:Int)(e:DV)(y:V)(u v:AE)(A:AV)(hu:A.units<BG)(r2:Reads X.K H e y)(rx:RelV (.int i) u)(ry:RelV y v):RcAt A s u v (Aw (.int i) e)∧EqAt A s u v (Aw (.int i) e):=by
 obtain⟨t,rfl⟩:=rx;cases e with
 | int j=>unfold Reads at r2;subst r2;obtain⟨t',rfl⟩:=ry;rw[aET];exact⟨RcAt.int_int _ _ _ _,EqAt.int_int _ _ _ _⟩
 | non=>
  unfold Reads at r2;subst r2;cases ry;rw[lK (by intro z;cases z)];exact⟨RcAt.int_none _ _,EqAt.int_none _ _⟩
 | lst es=>
  unfold Reads at r2;obtain⟨b,ys,rfl,hq,_⟩:=r2;cases ry;obtain⟨af,_,pl,_⟩:=I.list hq;rw[lK (by intro z;cases z)];exact⟨RcAt.int_list _ _ pl.isList (hu),EqAt.int_list _ _ pl.isList (hu)⟩
 | tup es=>unfold Reads at r2;obtain⟨b,ys,rfl,hq,_⟩:=r2;cases ry;obtain⟨af,_,pl,_⟩:=I.tuple hq;rw[lK (by intro z;cases z)];exact⟨RcAt.int_tuple _ _ pl (hu),EqAt.int_tuple _ _ pl (hu)⟩
def aCc(I:Inv X aE σ H s)(e:DV)(y:V)(u v:AE)(A:AV)(hu:A.units<BG)(r2:Reads X.K H e y)(rx:RelV .non u)(ry:RelV y v):RcAt A s u v (Aw .non e)∧EqAt A s u v (Aw .non e):=by
 cases rx;cases e with
 | non=>
  unfold Reads at r2;subst r2;cases ry;rw[Ax];exact⟨RcAt.none_none,EqAt.same _⟩
 | int j=>unfold Reads at r2;subst r2;obtain⟨t',rfl⟩:=ry;rw[lK (by intro z;cases z)];exact⟨RcAt.none_int _ _,EqAt.none_int _ _⟩
 | lst es=>
  unfold Reads at r2;obtain⟨b,ys,rfl,hq,_⟩:=r2;cases ry;obtain⟨af,_,pl,_⟩:=I.list hq;rw[lK (by intro z;cases z)];exact⟨RcAt.none_list pl.isList hu,EqAt.none_list pl.isList hu⟩
 | tup es=>unfold Reads at r2;obtain⟨b,ys,rfl,hq,_⟩:=r2;cases ry;obtain⟨af,_,pl,_⟩:=I.tuple hq;rw[lK (by intro z;cases z)];exact⟨RcAt.none_tuple pl hu,EqAt.none_tuple pl hu⟩
def Rj(I:Inv X aE σ H s):∀(n:Nat)(A:AV),(∀(d e:DV)(x y:V)(u v:AE)(A:AV),d.depth≤n→A.units+n<BG→Reads X.K H d x→Reads X.K H e y→RelV x u→RelV y v→RcAt A s u v (Aw d e)∧EqAt A s u v (Aw d e)) →
 ∀(ds es:List DV)(xs ys:List V)(us vs:List AE),jG ds≤n→A.units+(n+1)<BG→fG X.K H ds xs→fG X.K H es ys→Vals xs us→Vals ys vs →
 ∀j (h1:j<us.toArray.size) (h2:j<vs.toArray.size),EqAt A.in1 s us.toArray[j] vs.toArray[j] (match ds[j]?,es[j]? with | some d,NR e=>Aw d e | _,_=>NU):=by
 intro n A ih ds es xs ys us vs hd hu r1 r2 v1 v2 j h1 h2;have l1:j<ds.length:=by rw[←r1.length,v1.length];simpa using h1
 have l2:j<es.length:=by rw[←r2.length,v2.length];simpa using h2
 obtain⟨x,ex,rx⟩:=r1.get (i:=j) (d:=ds[j]) (by simp);obtain⟨y,ey,ry⟩:=r2.get (i:=j) (d:=es[j]) (by simp);obtain⟨u,eu,ru⟩:=v1.get ex;obtain⟨v,ev,rv⟩:=v2.get ey;have e1:us.toArray[j]=u:=by rw[D4]at eu;obtain⟨_,eu⟩:=eu;simpa using eu
 have e2:vs.toArray[j]=v:=by rw[D4]at ev;obtain⟨_,ev⟩:=ev;simpa using ev
 rw[e1,e2];simp only[B6 l1,B6 l2];exact(ih _ _ x y u v A.in1 (G1 (Ri (i:=j) (by simp)) hd) (by rw[gf];omega) rx ry ru rv).2
def CV(I:Inv X aE σ H s):∀(n:Nat)(d e:DV)(x y:V)(u v:AE)(A:AV),d.depth≤n→A.units+n<BG→Reads X.K H d x→Reads X.K H e y→RelV x u→RelV y v→RcAt A s u v (Aw d e)∧EqAt A s u v (Aw d e):=by
 have items:=Rj I;have seqs:∀(n:Nat)(A:AV),(∀(d e:DV)(x y:V)(u v:AE)(A:AV),d.depth≤n→A.units+n<BG→Reads X.K H d x→Reads X.K H e y→RelV x u→RelV y v→RcAt A s u v (Aw d e)∧EqAt A s u v (Aw d e)) →
  ∀(d e:DV)(x y:V)(u v:AE),d.depth≤n+1→A.units+(n+1)<BG→Reads X.K H d x→Reads X.K H e y→RelV x u→RelV y v→RcAt A s u v (Aw d e)∧EqAt A s u v (Aw d e):=by
  intro n A ih d e x y u v hd hu r1 r2 rx ry;have of_same:∀{a b:AF} {k:Bool},(a=b→k=NU)→RcAt A s (.ref a) (.ref b) k→EqAt A s (.ref a) (.ref b) k:=λ{a b k} hk h=>by
   by_cases hab:a=b
   ·subst hab;rw[hk rfl];exact EqAt.same _
   ·exact EqAt.of_refs hab h
  cases d with
  | int i=>unfold Reads at r1;subst r1;exact aCb I i e y u v A (by omega) r2 rx ry
  | non=>unfold Reads at r1;subst r1;exact aCc I e y u v A (by omega) r2 rx ry
  | lst ds=>
   unfold Reads at r1;obtain⟨a,xs,rfl,ku,iO⟩:=r1;cases rx;obtain⟨Rk,v1,Vw,_⟩:=I.list ku;have kM:jG ds≤n:=by unfold DV.depth at hd;omega
   cases e with
   | int j=>unfold Reads at r2;subst r2;obtain⟨t',rfl⟩:=ry;rw[lK (by intro z;cases z)];exact⟨RcAt.list_int _ _ Vw.isList (by omega),EqAt.list_int _ _ Vw.isList (by omega)⟩
   | non=>
    unfold Reads at r2;subst r2;cases ry;rw[lK (by intro z;cases z)];exact⟨RcAt.list_none Vw.isList (by omega),EqAt.list_none Vw.isList (by omega)⟩
   | lst es=>
    unfold Reads at r2;obtain⟨b,ys,rfl,fI,gj⟩:=r2;cases ry;obtain⟨cK,v2,QD,_⟩:=I.list fI;have e1:Rk.toArray.size=ds.length:=by rw[D3,←v1.length,iO.length]
    have e2:cK.toArray.size=es.length:=by rw[D3,←v2.length,gj.length]
    have rc:RcAt A s (.ref a) (.ref b) (Aw (.lst ds) (.lst es)):=by
     by_cases hl:ds.length=es.length
     ·have q:=RcAt.lists (A:=A) (s:=s) Vw.isList QD.isList (by rw[e1,e2];exact hl) (by omega) (items n A ih ds es xs ys Rk cK kM hu iO gj v1 v2);rw[e1,qR hl]at q;rw[ur];exact q
     ·rw[lK (by intro z;cases z;exact hl U)];exact RcAt.lists_lengths Vw.isList QD.isList (by rw[e1,e2];simpa using hl) (by omega)
    exact⟨rc,of_same (λhab=>by
     subst hab;refine wM.mpr (Xj I (n+1) _ _ (.ref a) hd ?_ ?_)
     ·unfold Reads;exact⟨a,xs,U,ku,iO⟩
     ·unfold Reads;exact⟨a,ys,U,fI,gj⟩) rc⟩
   | tup es=>
    unfold Reads at r2;obtain⟨b,ys,rfl,fI,gj⟩:=r2;cases ry;obtain⟨cK,v2,QD,_⟩:=I.tuple fI;rw[lK (by intro z;cases z)];exact⟨RcAt.list_tuple Vw.isList QD (by omega),EqAt.list_tuple Vw.isList QD (by omega)⟩
  | tup ds=>
   unfold Reads at r1;obtain⟨a,xs,rfl,ku,iO⟩:=r1;cases rx;obtain⟨Rk,v1,Vw,_⟩:=I.tuple ku;have kM:jG ds≤n:=by unfold DV.depth at hd;omega
   cases e with
   | int j=>unfold Reads at r2;subst r2;obtain⟨t',rfl⟩:=ry;rw[lK (by intro z;cases z)];exact⟨RcAt.tuple_int _ _ Vw (by omega),EqAt.tuple_int _ _ Vw (by omega)⟩
   | non=>
    unfold Reads at r2;subst r2;cases ry;rw[lK (by intro z;cases z)];exact⟨RcAt.tuple_none Vw (by omega),EqAt.tuple_none Vw (by omega)⟩
   | lst es=>
    unfold Reads at r2;obtain⟨b,ys,rfl,fI,gj⟩:=r2;cases ry;obtain⟨cK,v2,QD,_⟩:=I.list fI;rw[lK (by intro z;cases z)];exact⟨RcAt.tuple_list Vw QD.isList (by omega),EqAt.tuple_list Vw QD.isList (by omega)⟩
   | tup es=>
    unfold Reads at r2;obtain⟨b,ys,rfl,fI,gj⟩:=r2;cases ry;obtain⟨cK,v2,QD,_⟩:=I.tuple fI;have e1:Rk.toArray.size=ds.length:=by rw[D3,←v1.length,iO.length]
    have e2:cK.toArray.size=es.length:=by rw[D3,←v2.length,gj.length]
    have rc:RcAt A s (.ref a) (.ref b) (Aw (.tup ds) (.tup es)):=by
     have q:=RcAt.tuples (A:=A) (s:=s) (l:=a) (b:=b) Vw QD (by omega) (items n A ih ds es xs ys Rk cK kM hu iO gj v1 v2);rw[e1,e2]at q;by_cases hl:ds.length=es.length
     ·rw[←hl,m7,qR hl]at q;rw[uv];simpa using q
     ·rw[lK (by intro z;cases z;exact hl U)];have z:(ds.length==es.length)=NV:=by simpa using hl
      rw[z,i5]at q;exact q
    exact⟨rc,of_same (λhab=>by
     subst hab;refine wM.mpr (Xj I (n+1) _ _ (.ref a) hd ?_ ?_)
     ·unfold Reads;exact⟨a,xs,U,ku,iO⟩
     ·unfold Reads;exact⟨a,ys,U,fI,gj⟩) rc⟩
 intro n
 induction n with
 | zero=>
  intro d e x y u v A hd hu r1 r2 rx ry;cases d with
  | int i=>unfold Reads at r1;subst r1;exact aCb I i e y u v A (by omega) r2 rx ry
  | non=>unfold Reads at r1;subst r1;exact aCc I e y u v A (by omega) r2 rx ry
  | lst ds=>unfold DV.depth at hd;omega
  | tup ds=>unfold DV.depth at hd;omega
 | succ n ih=>intro d e x y u v A hd hu r1 r2 rx ry;exact seqs n A ih d e x y u v hd hu r1 r2 rx ry
end
section
def aHI(K:aG)(cb:Bool):R2:=λx y H Q=>∃d e,Reads K H d x∧Reads K H e y∧d.depth≤32∧Q (.bl (if cb then !Aw d e else Aw d e)) H
def aHJ(hu:X.A.units+64<BG):vC X (AY .Eq) (aHI X.K NV):=by intro aE s σ H x y v u Q I rx ry h;obtain⟨d,e,r1,r2,hd,q⟩:=h;exact(CV I 32 d e x y v u X.A hd (by omega) r1 r2 rx ry).1 X.prog X.w X.xe _ ⟨.bl _,H,I,U,q⟩
open SeqAt in
def aHK(hu:X.A.units+64<BG):vC X (AY .NotEq) (λx y H Q=>∃ds es,Reads X.K H (.lst ds) x∧Reads X.K H (.lst es) y∧jG ds≤32∧Q (.bl (!Aw (.lst ds) (.lst es))) H):=by
 intro aE s σ H x y v u Q I rx ry h;obtain⟨ds,es,r1,r2,hd,q⟩:=h;unfold Reads at r1 r2;obtain⟨a,xs,rfl,ku,iO⟩:=r1;obtain⟨b,ys,rfl,fI,gj⟩:=r2;cases rx;cases ry;obtain⟨Rk,v1,Vw,_⟩:=I.list ku;obtain⟨cK,v2,QD,_⟩:=I.list fI;have e1:Rk.toArray.size=ds.length:=by rw[D3,←v1.length,iO.length]
 have e2:cK.toArray.size=es.length:=by rw[D3,←v2.length,gj.length]
 have rc:RcNeAt X.A s (.ref a) (.ref b) (!Aw (.lst ds) (.lst es)):=by
  by_cases hl:ds.length=es.length
  ·have z:=RcNeAt.lists (A:=X.A) (s:=s) Vw.isList QD.isList (by rw[e1,e2];exact hl) (by omega) (Rj I 32 X.A (λd e x y u v A a1 a2 a3 a4 a5 a6=>CV I 32 d e x y u v A a1 a2 a3 a4 a5 a6) ds es xs ys Rk cK hd (by omega) iO gj v1 v2);rw[e1,qR hl]at z;rw[ur];exact z
  ·rw[lK (by intro z;cases z;exact hl U)];exact RcNeAt.lists_lengths Vw.isList QD.isList (by rw[e1,e2];simpa using hl) (by omega)
 exact rc X.prog X.w X.xe _ ⟨.bl _,H,I,U,q⟩
end
structure Raw(K:aG)(mg:Str→Option AE)(x:Str)(st:AO):Prop where
 ex:∃f fd,Fun K x x st f fd∧mg x=NR (.ref f)
def aHL{K:aG}{h:Heap}{mg:Str→Option AE}{x:Str}{st:AO}{f:AF}{oc:AE}{od an:Option AF}{dQ:Array (Option AE)}{kV bX pm ai ct:AE}(X:K.In h)(G:h.Ns As mg)
 (a:U4 K As x=NR (NR (.ref f))) (l:K.lookup f=NR ⟨oc,od,.func (G5 x x (gA st) (cM st) (aK st) .none kV bX pm an ai ct),dQ⟩)
 (c:L6 K ai x=NU) (k:K7 K (.ref f)=NU):Raw K mg x st:=⟨⟨f,_,aHG l c k,j9 X G a⟩⟩
structure oF(P:AQ)(w:AS)(K:aG)(mg:Str→Option AE)(base:Heap)(x:Str)(k:Nat)(n:Nat)(sp:Sp):Prop where
 ex:∃f fd ps,ps.length=n∧Ab P w K mg base MJ k f fd ps sp∧Binds K fd ps []∧K7 K (.ref f)=NU∧mg x=NR (.ref f)
def Raw.cal{P:AQ}{w:AS}{K:aG}{mg:Str→Option AE}{base:Heap}{x:Str}{st:AO}{N ps:List Str}{k:Nat}{sp:Sp}(R:Raw K mg x st)(S:bA N ps (aK st))(len:∀vs H Q E,sp vs H Q E→vs.length=ps.length)
 (hb:∀(kV bX pm:AE)(an:Option AF)(ai ct:AE)(us:List AE),us.length=ps.length→EJ (G5 x x (gA st) (cM st) (aK st) .none kV bX pm an ai ct) ⟨us,[]⟩=pure (ps.zip us))
 (bS:∀(f:AF)(ai:AE)(A:AV)(outer:List Env)(s:AG)(H:Hp)(vs:List V)(Q:VK)(E:XK),lB k (A.deeper (CH x (aK st) s.heap.objs.size f ai))→sp vs H Q E →
  ∃t,NT (Hu MJ P w K mg base N x (aK st) f ai A outer s H E).sy (cM st) t∧t {nx:=λ_ H'=>Q .non H',rt:=Q} (start N vs) H):oF P w K mg base x (k+1) ps.length sp:=by
 obtain⟨f,fd,F,m⟩:=R.ex;exact⟨f,fd,ps,U,F.ok S len λai A outer s H vs Q E hr h=>bS f ai A outer s H vs Q E hr h,F.binds hb,F.kp,m⟩
def aCd{X:Cx}{x:Str}{k n:Nat}{sp:Sp}{e:AK}{es:List AK}{p pos:Pos}{t:TA}(C:oF X.prog X.w X.K X.mg X.base x k n sp)(hr:lB k X.A)(hg:Gl X x)
 (ha:PA X (e::es) t) (cm:(x==("__debug__":Str))=NV:=by decide) (he:AJ (e::es) X.env=(NV,AU e X.env)::AJ es X.env:=by rfl) (cE:(Au pos (AJ es X.env)).any (·.1)=NV:=by rfl) :
 PE X (.Call (.Name x p) (e::es) [] pos) (Wz sp [] E0 t):=by
 obtain⟨f,fd,ps,_,F,hb,hk,hm⟩:=C.ex;exact aEx F hr hg hm hk hb .nil Xi ha cm he cE
def call_of{sp:Sp}{E:XK}{t:TA}{Q:VK}(h:t σ H λvs H1=>sp vs H1 Q E):Wz sp [] E t σ H Q:=by
 unfold Wz;have e:(λ(vs:List V) (H1:Hp)=>sp (vs++[]) H1 Q E)=λvs H1=>sp vs H1 Q E:=by funext vs H1;rw[F0]
 rw[e];exact h
def cR{p:AF}(h:H p=sx)(o:HO):aW H (upd H p o):=λb u q=>by rw[bQ (iI q h)];exact q
def aW.tup{K:aG}{H H':Hp}{a:AF}{xs:List V}(e:aW H H')(h:xW K H a xs):xW K H' a xs:=by
 rcases h with (h | ⟨o,h⟩) | h
 ·exact .inl (.inl (e _ _ h))
 ·exact .inl (.inr ⟨o,e _ _ h⟩)
 ·exact .inr h
mutual
theorem aW.reads{H':Hp}(e:aW H H'):∀(d:DV)(x:V),Reads K H d x→Reads K H' d x
 | .int i,x,h=>by unfold Reads at h ⊢;exact h
 | .non,x,h=>by unfold Reads at h ⊢;exact h
 | .lst ds,x,h=>by unfold Reads at h ⊢;obtain⟨a,xs,r,hq,l⟩:=h;exact⟨a,xs,r,e.seq hq,aW.gq e ds xs l⟩
 | .tup ds,x,h=>by unfold Reads at h ⊢;obtain⟨a,xs,r,hq,l⟩:=h;exact⟨a,xs,r,e.tup hq,aW.gq e ds xs l⟩
theorem aW.gq{H':Hp}(e:aW H H'):∀(ds:List DV)(xs:List V),fG K H ds xs→fG K H' ds xs
 | [],xs,h=>by unfold fG at h ⊢;exact h
 | d::ds,xs,h=>by unfold fG at h ⊢;obtain⟨y,ys,r,h1,h2⟩:=h;exact⟨y,ys,r,aW.reads e d y h1,aW.gq e ds ys h2⟩
end
def Fj:∀ns:List Int,jG (ns.map DV.int)=0
 | []=>by rw[K9];unfold jG;rfl
 | n::ns=>by rw[E2];unfold jG DV.depth;rw[Fj ns];rfl
def QF{ns ms:List Int}:ns.map DV.int=ms.map DV.int↔ns=ms:=by
 constructor
 ·intro h;have:∀(a b:Int),DV.int a=DV.int b→a=b:=λa b e=>by cases e;rfl
  exact(List.map_inj_right this).mp h
 ·rintro rfl;rfl
def aLD{xs:List V}{k:Int}(h0:0≤k)(h:xs[k.toNat]?=NR v):ZX xs k=NR v:=by
 have ek:k=((k.toNat:Nat):Int):=by omega
 rw[ek];exact aEC h
def aEU(z:Int)(ns:List Int):inV (.int z) (ns.map V.int)=decide (z∈ns):=by
 unfold inV;rw[M7,Q9,decide_eq_true_iff];constructor
 ·rintro⟨v,hv,e⟩
  obtain⟨m,hm,rfl⟩:=J4.mp hv;have:m=z:=by simpa[eqV]using e
  subst this;exact hm
 ·intro h;exact⟨.int z,J4.mpr ⟨z,h,U⟩,by simp[eqV]⟩
def aAy(ns:List Int):(ns.map V.int).all An=NU:=by rw[N3];intro v hv;obtain⟨m,_,rfl⟩:=J4.mp hv;rfl
def lC.at{scope:PySem.Scope}{N:List PySem.Str}{fr:List Nat}(MK:PySem.Scope)(oN:List PySem.Str)(h:uo MK scope oN N k fr=NU):lC MK scope oN N k fr:=lC.of h
def wN(H:Hp)(p:AF):Prop:=(∀xs,H p≠NR (.tup xs))∧∀o xs,H p≠NR (.Al o (.tup xs))
def tZ{p:AF}{xs:List V}(h:H p=NR (.lst xs)):wN H p:=⟨λys e=>(by rw[h]at e;cases e),λo ys e=>(by rw[h]at e;cases e)⟩
def Rm{p:AF}{kvs:List (Key×V)}(h:H p=NR (.dK kvs)):wN H p:=⟨λys e=>(by rw[h]at e;cases e),λo ys e=>(by rw[h]at e;cases e)⟩
def xW.upd{p:AF}{xs:List V}(h:xW K H a xs)(n:wN H p):xW K (upd H p o) a xs:=by
 rcases h with (h | ⟨u,h⟩) | h
 ·exact .inl (.inl (by rw[bQ (λz=>n.1 xs (by rw[←z];exact h))];exact h))
 ·exact .inl (.inr ⟨u,by rw[bQ (λz=>n.2 u xs (by rw[←z];exact h))];exact h⟩)
 ·exact .inr h
mutual
def jH:DV→Bool
 | .int _=>NU
 | .non=>NU
 | .lst _=>NV
 | .tup ds=>gR ds
def gR:List DV→Bool
 | []=>NU
 | d::ds=>jH d&&gR ds
end
mutual
theorem aAz{p:AF}(n:wN H p):∀(d:DV)(x:V),jH d=NU→Reads K H d x→Reads K (upd H p o) d x
 | .int i,x,_,h=>by unfold Reads at h ⊢;exact h
 | .non,x,_,h=>by unfold Reads at h ⊢;exact h
 | .lst ds,x,hi,h=>by unfold jH at hi;cases hi
 | .tup ds,x,hi,h=>by unfold jH at hi;unfold Reads at h ⊢;obtain⟨a,xs,r,hq,l⟩:=h;exact⟨a,xs,r,hq.upd n,Rn n ds xs hi l⟩
theorem Rn{p:AF}(n:wN H p):∀(ds:List DV)(xs:List V),gR ds=NU→fG K H ds xs→fG K (upd H p o) ds xs
 | [],xs,_,h=>by unfold fG at h ⊢;exact h
 | d::ds,xs,hi,h=>by unfold gR at hi;rw[J2]at hi;unfold fG at h ⊢;obtain⟨y,ys,r,h1,h2⟩:=h;exact⟨y,ys,r,aAz n d y hi.1 h1,Rn n ds ys hi.2 h2⟩
end
def Hx{n d:Nat}:HT.Kv n d (NR (k:Int))=min k n:=HT.aEz n d k
theorem qT:∀{l m:List Int},l.Pairwise (·<·)→m.Pairwise (·<·)→(∀j,j∈l↔j∈m)→l=m
 | [],[],_,_,_=>rfl
 | [],b::m,_,_,h=>absurd ((h b).mpr C8) (by simp)
 | a::l,[],_,_,h=>absurd ((h a).mp C8) (by simp)
 | a::l,b::m,h1,h2,h=>by
  obtain⟨h1a,h1b⟩:=F6.mp h1;obtain⟨h2a,h2b⟩:=F6.mp h2;have e:a=b:=by
   rcases B9.mp ((h a).mp C8)with q | q
   ·exact q
   ·rcases B9.mp ((h b).mpr C8)with q' | q'
    ·exact q'.symm
    ·have:=h2a a q
     have:=h1a b q';omega
  subst e;rw[qT h1b h2b λj=>?_];constructor
  ·intro hj
   rcases B9.mp ((h j).mp (C6 _ hj))with q | q
   ·have:=h1a j hj
    omega
   ·exact q
  ·intro hj
   rcases B9.mp ((h j).mpr (C6 _ hj))with q | q
   ·have:=h2a j hj
    omega
   ·exact q
def QG:K4 K (.type "int") (.type "int")=NR NU:=by unfold K4;rfl
def Vx:K4 K (.type "bool") (.type "bool")=NR NU:=by unfold K4;rfl
def Vy:K4 K (.type "list") (.type "list")=NR NU:=by unfold K4;rfl
def Oo:K4 K (.type "tuple") (.type "tuple")=NR NU:=by unfold K4;rfl
def CW:K4 K (.type "int") (.type "bool")=NR NV:=by
 first | rfl | decide | (unfold K4 y6;rfl) | (unfold K4 y6;simp;decide)
section
def Pg(ns:List Int)(m:Int):Prop:=m∈ns∧∀a∈ns,m≤a
theorem Fb(ns:List Int):∀k,k<ns.length→argBest (λi j=>decide (ns.getD i 0<ns.getD j 0)) k≤k∧∀i,i≤k→ns.getD (argBest (λi j=>decide (ns.getD i 0<ns.getD j 0)) k) 0≤ns.getD i 0
 | 0,_=>⟨C9 _,λi hi=>by
  have:i=0:=by omega
  subst this;exact g6 _⟩
 | k+1,h=>by
  obtain⟨h1,h2⟩:=Fb ns k (by omega);unfold argBest;split
  ·rename_i c;have c':=of_decide_eq_true c;refine⟨C9 _,λi hi=>?_⟩;rcases G4 i (k+1)with q | q
   ·have:=h2 i (by omega);omega
   ·have:i=k+1:=by omega
    subst this;exact g6 _
  ·rename_i c;have c':=of_decide_eq_false (Y7.mpr c);refine⟨by omega,λi hi=>?_⟩;rcases G4 i (k+1)with q | q
   ·exact h2 i (by omega)
   ·have:i=k+1:=by omega
    subst this;omega
def aAA(hc:X.calm=NU):mQ X (.builtin "min") (λxs H Q=>∃(p:AF)(ns:List Int),xs=[.ref p]∧oU X.K H p (ns.map V.int)∧0<ns.length∧∀m,Pg ns m→Q (.int m) H):=by
 intro aE s σ H xs us Q I r h;obtain⟨p,ns,rfl,hq,hpos,q⟩:=h;obtain⟨u,rfl,rx⟩:=vals1 r;cases rx;obtain⟨af,rv,pl,hz⟩:=I.list hq;have hl:=pl.isList;have ag:=rv.length;rw[B8]at ag;have dA:p<s.heap.objs.size:=by obtain⟨_,e,_⟩:=hl;exact AN e
 have item:∀(i:Nat)(v:AE),af.toArray[i]?=NR v→∃t,v=.int (ns.getD i 0) t∧i<ns.length:=λi v e=>by
  have e':af[i]?=NR v:=by simpa using e
  have hi:=(D4.mp e').1;obtain⟨u,eu,ru⟩:=rv.get (i:=i) (x:=.int (ns.getD i 0)) (by rw[C5,B7,B6 (by omega)];rfl);rw[e']at eu;cases eu;obtain⟨t,rfl⟩:=ru;exact⟨t,U,by omega⟩
 refine call_min_walk (DF hl ?_);refine⟨s.heap.objs.size,[s.heap.objs.size,p],[s.heap.objs.size],af.toArray.size,_,_,λi j=>decide (ns.getD i 0<ns.getD j 0),U,HC (A:=X.A.in1) (I.ok.hd hc) _ p (F3 dA) _,
  ⟨⟨_,AR _ U,U,U⟩,hl.push _⟩,λb hb=>?_,by rw[D3];omega,λi j vi vj s' Q' E' hi hj hQ=>?_,λv h' tk hP hk=>?_⟩
 ·show b<(s.heap.push _).objs.size;rw[BE];rcases B9.mp hb with e | hb
  ·rw[e];exact N2 _
  ·rw[D2.mp hb];exact N8 dA
 ·obtain⟨t1,rfl,_⟩:=item i vi hi;obtain⟨t2,rfl,_⟩:=item j vj hj;exact HT.aBY _ _ _ _ _ _ _ _ _ _ hQ
 ·obtain⟨t,rfl,hi⟩:=item _ v hP;rw[D3,←ag]at hi ⊢;obtain⟨h1,h2⟩:=Fb ns (ns.length-1) (by omega);refine⟨.int _,H,I.kept (CT hk),⟨t,U⟩,q _ ⟨?_,λa ha=>?_⟩⟩
  ·rw[B7,B6 hi];exact L0 _
  ·obtain⟨i,hi',rfl⟩:=G6 ha;have:=h2 i (by omega);rw[show ns.getD i 0=ns[i]from by rw[B7,B6 hi'];rfl]at this;exact this
open SeqAt in
def aHM(hu:X.A.units+64<BG):vC X (AY .NotEq) (λx y H Q=>∃ds es,Reads X.K H (.tup ds) x∧Reads X.K H (.tup es) y∧jG ds≤32∧Q (.bl (!Aw (.tup ds) (.tup es))) H):=by
 intro aE s σ H x y v u Q I rx ry h;obtain⟨ds,es,r1,r2,hd,q⟩:=h;unfold Reads at r1 r2;obtain⟨a,xs,rfl,ku,iO⟩:=r1;obtain⟨b,ys,rfl,fI,gj⟩:=r2;cases rx;cases ry;obtain⟨Rk,v1,Vw,_⟩:=I.tuple ku;obtain⟨cK,v2,QD,_⟩:=I.tuple fI;have e1:Rk.toArray.size=ds.length:=by rw[D3,←v1.length,iO.length]
 have e2:cK.toArray.size=es.length:=by rw[D3,←v2.length,gj.length]
 have rc:RcNeAt X.A s (.ref a) (.ref b) (!Aw (.tup ds) (.tup es)):=by
  have z:=RcNeAt.tuples (A:=X.A) (s:=s) (l:=a) (b:=b) Vw QD (by omega) (Rj I 32 X.A (λd e x y u v A a1 a2 a3 a4 a5 a6=>CV I 32 d e x y u v A a1 a2 a3 a4 a5 a6) ds es xs ys Rk cK hd (by omega) iO gj v1 v2);rw[e1,e2]at z;by_cases hl:ds.length=es.length
  ·rw[←hl,m7,qR hl]at z;rw[uv];simpa using z
  ·rw[lK (by intro z;cases z;exact hl U)];have zz:(ds.length==es.length)=NV:=by simpa using hl
   rw[zz,i5]at z;exact z
 exact rc X.prog X.w X.xe _ ⟨.bl _,H,I,U,q⟩
end
inductive D where
 | non | bl (b:Bool) | int (i:Int) | str (x:Str)
 | lst (ds:List D) | tup (ds:List D)
 | dk (ks:List Key) (ds:List D)
 | dt (ks:List (List Key)) (ds:List D)
 | ins (C:AF) (nm:List Str) (ds:List D)
variable{d d' d0:D}{φ:D→D→Option D}
abbrev Fp:=AF→Prop
variable{A':Fp}
def Apart(A B:Fp):Prop:=∀x,A x→¬B x
def Is(A B:Fp):Prop:=∀x,A x↔B x
def None(A:Fp):Prop:=∀x,¬A x
abbrev gG(A B:Fp):Fp:=λx=>A x∨B x
mutual
def Rv(K:aG)(H:Hp):D→V→Prop
 | .non,v=>v=.non
 | .bl b,v=>v=.bl b
 | .int i,v=>v=.int i
 | .str x,v=>v=.str x
 | .lst ds,v=>∃a xs,v=.ref a∧oU K H a xs∧eO K H ds xs
 | .tup ds,v=>∃a xs,v=.ref a∧xW K H a xs∧eO K H ds xs
 | .dk ks ds,v=>∃a xs,v=.ref a∧Rd H a (.dK (ks.zip xs))∧ks.length=xs.length∧eO K H ds xs
 | .dt ks ds,v=>∃a xs,v=.ref a∧Rd H a (.dT (ks.zip xs))∧ks.length=xs.length∧eO K H ds xs
 | .ins C nm ds,v=>∃a dx xs,v=.ref a∧H a=NR (.ins C dx (nm.zip xs))∧nm.length=xs.length∧eO K H ds xs
def eO(K:aG)(H:Hp):List D→List V→Prop
 | [],xs=>xs=[]
 | d::ds,xs=>∃y ys,xs=y::ys∧Rv K H d y∧eO K H ds ys
end
def aW.rd{H':Hp}(e:aW H H'){u:HO}(h:Rd H a u):Rd H' a u:=by
 rcases h with h | ⟨o,h⟩
 ·exact .inl (e _ _ h)
 ·exact .inr ⟨o,e _ _ h⟩
mutual
theorem aW.rv{H':Hp}(e:aW H H'):∀(d:D)(v:V),Rv K H d v→Rv K H' d v
 | .non,v,h=>by unfold Rv at h ⊢;exact h
 | .bl _,v,h=>by unfold Rv at h ⊢;exact h
 | .int _,v,h=>by unfold Rv at h ⊢;exact h
 | .str _,v,h=>by unfold Rv at h ⊢;exact h
 | .lst ds,v,h=>by unfold Rv at h ⊢;obtain⟨a,xs,r,hq,l⟩:=h;exact⟨a,xs,r,e.seq hq,aW.uw e ds xs l⟩
 | .tup ds,v,h=>by unfold Rv at h ⊢;obtain⟨a,xs,r,hq,l⟩:=h;exact⟨a,xs,r,e.tup hq,aW.uw e ds xs l⟩
 | .dk ks ds,v,h=>by unfold Rv at h ⊢;obtain⟨a,xs,r,hq,hl,l⟩:=h;exact⟨a,xs,r,e.rd hq,hl,aW.uw e ds xs l⟩
 | .dt ks ds,v,h=>by unfold Rv at h ⊢;obtain⟨a,xs,r,hq,hl,l⟩:=h;exact⟨a,xs,r,e.rd hq,hl,aW.uw e ds xs l⟩
 | .ins C nm ds,v,h=>by unfold Rv at h ⊢;obtain⟨a,dx,xs,r,hq,hl,l⟩:=h;exact⟨a,dx,xs,r,e _ _ hq,hl,aW.uw e ds xs l⟩
theorem aW.uw{H':Hp}(e:aW H H'):∀(ds:List D)(xs:List V),eO K H ds xs→eO K H' ds xs
 | [],xs,h=>by unfold eO at h ⊢;exact h
 | d::ds,xs,h=>by unfold eO at h ⊢;obtain⟨y,ys,r,h1,h2⟩:=h;exact⟨y,ys,r,aW.rv e d y h1,aW.uw e ds ys h2⟩
end
def eO.length:∀{ds:List D} {xs:List V},eO K H ds xs→xs.length=ds.length
 | [],xs,h=>by unfold eO at h;subst h;rfl
 | d::ds,xs,h=>by unfold eO at h;obtain⟨y,ys,rfl,_,h2⟩:=h;rw[E3,E3,eO.length h2]
theorem eO.get:∀{ds:List D} {xs:List V} {i:Nat} {d:D},eO K H ds xs→ds[i]?=NR d→∃x,xs[i]?=NR x∧Rv K H d x
 | [],xs,i,d,h,e=>by simp at e
 | d'::ds,xs,0,d,h,e=>by unfold eO at h;obtain⟨y,ys,rfl,h1,_⟩:=h;simp at e;subst e;exact⟨y,rfl,h1⟩
 | d'::ds,xs,i+1,d,h,e=>by unfold eO at h;obtain⟨y,ys,rfl,_,h2⟩:=h;obtain⟨x,e1,e2⟩:=eO.get (i:=i) (d:=d) h2 (by simpa using e);exact⟨x,by simpa using e1,e2⟩
def eO.of:∀{ds:List D} {xs:List V},xs.length=ds.length→(∀(i:Nat)(d:D)(x:V),ds[i]?=NR d→xs[i]?=NR x→Rv K H d x)→eO K H ds xs
 | [],xs,hl,_=>by unfold eO;exact N1 hl
 | d::ds,[],hl,_=>by simp at hl
 | d::ds,x::xs,hl,h=>by unfold eO;exact⟨x,xs,U,h 0 d x U U,eO.of (by simpa using hl) λi e y h1 h2=>h (i+1) e y (by simpa using h1) (by simpa using h2)⟩
def fY{α β:Type}(R:α→Fp→β→Prop):List α→Fp→List β→Prop
 | [],A,ys=>None A∧ys=[]
 | d::ds,A,ys=>∃y yt A1 A2,ys=y::yt∧Apart A1 A2∧Is A (gG A1 A2)∧R d A1 y∧fY R ds A2 yt
section
variable{α β:Type}{R R':α→Fp→β→Prop}
def fY.congr:∀{ds:List α} {A A':Fp} {ys:List β},fY R ds A ys→Is A A'→fY R ds A' ys
 | [],A,A',ys,h,e=>⟨λx q=>h.1 x ((e x).mpr q),h.2⟩
 | d::ds,A,A',ys,⟨y,yt,A1,A2,h1,h2,h3,h4⟩,e=>⟨y,yt,A1,A2,h1,h2,λx=>((e x).symm).trans (h3 x),h4⟩
theorem fY.mono:∀{ds:List α} {A:Fp} {ys:List β},fY R ds A ys→(∀e B z,(∀x,B x→A x)→R e B z→R' e B z)→fY R' ds A ys
 | [],A,ys,h,_=>h
 | d::ds,A,ys,⟨y,yt,A1,A2,h1,h2,h3,h4,h5⟩,m=>
  ⟨y,yt,A1,A2,h1,h2,h3,m _ _ _ (λx q=>(h3 x).mpr (.inl q)) h4,h5.mono λe B z hb=>m e B z λx q=>(h3 x).mpr (.inr (hb x q))⟩
def fY.len:∀{ds:List α} {A:Fp} {ys:List β},fY R ds A ys→ys.length=ds.length
 | [],A,ys,h=>by rw[h.2];rfl
 | d::ds,A,ys,⟨y,yt,A1,A2,h1,h2,h3,h4,h5⟩=>by rw[h1,E3,E3,h5.len]
theorem fY.focus:∀{ds:List α} {A:Fp} {ys:List β} {i:Nat} {d:α},fY R ds A ys→ds[i]?=NR d→∃y A1 C,ys[i]?=NR y∧Apart A1 C∧Is A (gG A1 C)∧R d A1 y ∧
 ∀(R':α→Fp→β→Prop),(∀e B z,(∀x,B x→C x)→R e B z→R' e B z)→∀d' y' ZZ,Apart ZZ C→R' d' ZZ y'→fY R' (ds.set i d') (gG ZZ C) (ys.set i y')
 | [],A,ys,i,d,h,e=>by simp at e
 | d0::ds,A,ys,0,d,⟨y,yt,A1,A2,h1,h2,h3,h4,h5⟩,e=>by simp at e;subst e h1;exact⟨y,A1,A2,U,h2,h3,h4,λR' m d' y' ZZ ap r=>⟨y',yt,ZZ,A2,U,ap,λx=>Iff.rfl,r,h5.mono m⟩⟩
 | d0::ds,A,ys,i+1,d,⟨y,yt,A1,A2,h1,h2,h3,h4,h5⟩,e=>by
  subst h1;obtain⟨z,B1,C,e1,ap,hA,r,k⟩:=fY.focus (i:=i) (d:=d) h5 (by simpa using e);refine⟨z,B1,gG A1 C,by simpa using e1,?_,?_,r,λR' m d' y' ZZ ap' r'=>?_⟩
  ·intro x hx hc
   rcases hc with hc | hc
   ·exact h2 x hc ((hA x).mpr (.inl hx))
   ·exact ap x hx hc
  ·intro x
   rw[h3 x];constructor
   ·rintro(q | q)
    ·exact .inr (.inl q)
    ·rcases(hA x).mp q with q | q
     ·exact .inl q
     ·exact .inr (.inr q)
   ·rintro(q | q | q)
    ·exact .inr ((hA x).mpr (.inl q))
    ·exact .inl q
    ·exact .inr ((hA x).mpr (.inr q))
  ·refine⟨y,_,A1,gG ZZ C,U,?_,?_,m _ _ _ (λx q=>.inl q) h4,k R' (λe B z hb=>m e B z λx q=>.inr (hb x q)) d' y' ZZ (λx q q'=>ap' x q (.inr q')) r'⟩
   ·intro x q q'
    rcases q' with q' | q'
    ·exact ap' x q' (.inl q)
    ·exact h2 x q ((hA x).mpr (.inr q'))
   ·intro x
    show (ZZ x∨A1 x∨C x)↔(A1 x∨ZZ x∨C x)
    constructor
    ·rintro(q | q | q)
     ·exact .inr (.inl q)
     ·exact .inl q
     ·exact .inr (.inr q)
    ·rintro(q | q | q)
     ·exact .inr (.inl q)
     ·exact .inl q
     ·exact .inr (.inr q)
theorem fY.snoc:∀{ds:List α} {A A1:Fp} {ys:List β} {d:α} {y:β},fY R ds A ys→R d A1 y→Apart A A1→fY R (ds++[d]) (gG A A1) (ys++[y])
 | [],A,A1,ys,d,y,h,r,ap=>by rw[h.2];exact⟨y,[],A1,λ_=>False,U,λ_ _ z=>z,λx=>⟨λq=>q.elim (λq=>absurd q (h.1 x)) .inl,λq=>q.elim .inr False.elim⟩,r,λ_ z=>z,U⟩
 | d0::ds,A,A1,ys,d,y,⟨y0,yt,B1,B2,h1,h2,h3,h4,h5⟩,r,ap=>by
  subst h1;refine⟨y0,yt++[y],B1,gG B2 A1,U,?_,?_,h4,fY.snoc h5 r λx q=>ap x ((h3 x).mpr (.inr q))⟩
  ·intro x q q';rcases q' with q' | q'
   ·exact h2 x q q'
   ·exact ap x ((h3 x).mpr (.inl q)) q'
  ·intro x;show (A x∨A1 x)↔(B1 x∨B2 x∨A1 x)
   rw[h3 x];exact or_assoc
end
mutual
def Ow(K:aG)(H:Hp):D→Fp→V→Prop
 | .non,A,v=>None A∧v=.non
 | .bl b,A,v=>None A∧v=.bl b
 | .int i,A,v=>None A∧v=.int i
 | .str x,A,v=>None A∧v=.str x
 | .lst ds,A,v=>∃a xs B,v=.ref a∧H a=NR (.lst xs)∧¬B a∧Is A (gG (·=a) B)∧eQ K H ds B xs
 | .tup ds,A,v=>∃a xs,v=.ref a∧xW K H a xs∧eQ K H ds A xs
 | .dk ks ds,A,v=>∃a xs B,v=.ref a∧H a=NR (.dK (ks.zip xs))∧ks.length=xs.length∧¬B a∧Is A (gG (·=a) B)∧eQ K H ds B xs
 | .dt ks ds,A,v=>∃a xs B,v=.ref a∧H a=NR (.dT (ks.zip xs))∧ks.length=xs.length∧¬B a∧Is A (gG (·=a) B)∧eQ K H ds B xs
 | .ins C nm ds,A,v=>∃a dx xs B,v=.ref a∧H a=NR (.ins C dx (nm.zip xs))∧H dx=NR (.own a)∧nm.length=xs.length∧¬B a∧¬B dx∧Is A (gG (λx=>x=a∨x=dx) B)∧eQ K H ds B xs
def eQ(K:aG)(H:Hp):List D→Fp→List V→Prop
 | [],A,ys=>None A∧ys=[]
 | d::ds,A,ys=>∃y yt A1 A2,ys=y::yt∧Apart A1 A2∧Is A (gG A1 A2)∧Ow K H d A1 y∧eQ K H ds A2 yt
end
theorem cQ:∀{ds:List D} {A:Fp} {ys:List V},eQ K H ds A ys↔fY (Ow K H) ds A ys
 | [],A,ys=>by unfold eQ fY;exact Iff.rfl
 | d::ds,A,ys=>by
  unfold eQ fY;constructor
  ·rintro⟨y,yt,A1,A2,h1,h2,h3,h4,h5⟩;exact⟨y,yt,A1,A2,h1,h2,h3,h4,cQ.mp h5⟩
  ·rintro⟨y,yt,A1,A2,h1,h2,h3,h4,h5⟩;exact⟨y,yt,A1,A2,h1,h2,h3,h4,cQ.mpr h5⟩
def Fq(K:aG)(H H':Hp):Prop:=∀a xs,xW K H a xs→xW K H' a xs
def aW.tk{H':Hp}(e:aW H H'):Fq K H H':=λ_ _ h=>e.tup h
def Ow.congr{A:Fp}(h:Ow K H d A v)(e:Is A A'):Ow K H d A' v:=by
 cases d with
 | non=>unfold Ow at h ⊢;exact⟨λx q=>h.1 x ((e x).mpr q),h.2⟩
 | bl b=>unfold Ow at h ⊢;exact⟨λx q=>h.1 x ((e x).mpr q),h.2⟩
 | int b=>unfold Ow at h ⊢;exact⟨λx q=>h.1 x ((e x).mpr q),h.2⟩
 | str b=>unfold Ow at h ⊢;exact⟨λx q=>h.1 x ((e x).mpr q),h.2⟩
 | lst ds=>unfold Ow at h ⊢;obtain⟨a,xs,B,h1,h2,h3,h4,h5⟩:=h;exact⟨a,xs,B,h1,h2,h3,λx=>(e x).symm.trans (h4 x),h5⟩
 | tup ds=>unfold Ow at h ⊢;obtain⟨a,xs,h1,h2,h3⟩:=h;exact⟨a,xs,h1,h2,cQ.mpr ((cQ.mp h3).congr e)⟩
 | dk ks ds=>unfold Ow at h ⊢;obtain⟨a,xs,B,h1,h2,cw,h3,h4,h5⟩:=h;exact⟨a,xs,B,h1,h2,cw,h3,λx=>(e x).symm.trans (h4 x),h5⟩
 | dt ks ds=>unfold Ow at h ⊢;obtain⟨a,xs,B,h1,h2,cw,h3,h4,h5⟩:=h;exact⟨a,xs,B,h1,h2,cw,h3,λx=>(e x).symm.trans (h4 x),h5⟩
 | ins C nm ds=>unfold Ow at h ⊢;obtain⟨a,dx,xs,B,h1,h2,cw,h3,mx,hE,h4,h5⟩:=h;exact⟨a,dx,xs,B,h1,h2,cw,h3,mx,hE,λx=>(e x).symm.trans (h4 x),h5⟩
mutual
theorem Ow.frame{H':Hp}(t:Fq K H H'):∀(d:D)(A:Fp)(v:V),Ow K H d A v→(∀a,A a→H' a=H a)→Ow K H' d A v
 | .non,A,v,h,f=>by unfold Ow at h ⊢;exact h
 | .bl _,A,v,h,f=>by unfold Ow at h ⊢;exact h
 | .int _,A,v,h,f=>by unfold Ow at h ⊢;exact h
 | .str _,A,v,h,f=>by unfold Ow at h ⊢;exact h
 | .lst ds,A,v,h,f=>by unfold Ow at h ⊢;obtain⟨a,xs,B,h1,h2,h3,h4,h5⟩:=h;exact⟨a,xs,B,h1,(f a ((h4 a).mpr (.inl U))).trans h2,h3,h4,eQ.frame t ds B xs h5 λb q=>f b ((h4 b).mpr (.inr q))⟩
 | .tup ds,A,v,h,f=>by unfold Ow at h ⊢;obtain⟨a,xs,h1,h2,h3⟩:=h;exact⟨a,xs,h1,t _ _ h2,eQ.frame t ds A xs h3 f⟩
 | .dk ks ds,A,v,h,f=>by unfold Ow at h ⊢;obtain⟨a,xs,B,h1,h2,cw,h3,h4,h5⟩:=h;exact⟨a,xs,B,h1,(f a ((h4 a).mpr (.inl U))).trans h2,cw,h3,h4,eQ.frame t ds B xs h5 λb q=>f b ((h4 b).mpr (.inr q))⟩
 | .dt ks ds,A,v,h,f=>by unfold Ow at h ⊢;obtain⟨a,xs,B,h1,h2,cw,h3,h4,h5⟩:=h;exact⟨a,xs,B,h1,(f a ((h4 a).mpr (.inl U))).trans h2,cw,h3,h4,eQ.frame t ds B xs h5 λb q=>f b ((h4 b).mpr (.inr q))⟩
 | .ins C nm ds,A,v,h,f=>by unfold Ow at h ⊢;obtain⟨a,dx,xs,B,h1,h2,cw,h3,mx,hE,h4,h5⟩:=h;exact⟨a,dx,xs,B,h1,(f a ((h4 a).mpr (.inl (.inl U)))).trans h2,(f dx ((h4 dx).mpr (.inl (.inr U)))).trans cw,h3,mx,hE,h4,eQ.frame t ds B xs h5 λb q=>f b ((h4 b).mpr (.inr q))⟩
theorem eQ.frame{H':Hp}(t:Fq K H H'):∀(ds:List D)(A:Fp)(ys:List V),eQ K H ds A ys→(∀a,A a→H' a=H a)→eQ K H' ds A ys
 | [],A,ys,h,f=>by unfold eQ at h ⊢;exact h
 | d::ds,A,ys,h,f=>by unfold eQ at h ⊢;obtain⟨y,yt,A1,A2,h1,h2,h3,h4,h5⟩:=h;exact⟨y,yt,A1,A2,h1,h2,h3,Ow.frame t d A1 y h4 λb q=>f b ((h3 b).mpr (.inl q)),eQ.frame t ds A2 yt h5 λb q=>f b ((h3 b).mpr (.inr q))⟩
end
mutual
theorem Ow.rv:∀(d:D)(A:Fp)(v:V),Ow K H d A v→Rv K H d v
 | .non,A,v,h=>by unfold Ow at h;unfold Rv;exact h.2
 | .bl _,A,v,h=>by unfold Ow at h;unfold Rv;exact h.2
 | .int _,A,v,h=>by unfold Ow at h;unfold Rv;exact h.2
 | .str _,A,v,h=>by unfold Ow at h;unfold Rv;exact h.2
 | .lst ds,A,v,h=>by unfold Ow at h;unfold Rv;obtain⟨a,xs,B,h1,h2,h3,h4,h5⟩:=h;exact⟨a,xs,h1,oU.of h2,eQ.rv ds B xs h5⟩
 | .tup ds,A,v,h=>by unfold Ow at h;unfold Rv;obtain⟨a,xs,h1,h2,h3⟩:=h;exact⟨a,xs,h1,h2,eQ.rv ds A xs h3⟩
 | .dk ks ds,A,v,h=>by unfold Ow at h;unfold Rv;obtain⟨a,xs,B,h1,h2,cw,h3,h4,h5⟩:=h;exact⟨a,xs,h1,.inl h2,cw,eQ.rv ds B xs h5⟩
 | .dt ks ds,A,v,h=>by unfold Ow at h;unfold Rv;obtain⟨a,xs,B,h1,h2,cw,h3,h4,h5⟩:=h;exact⟨a,xs,h1,.inl h2,cw,eQ.rv ds B xs h5⟩
 | .ins C nm ds,A,v,h=>by unfold Ow at h;unfold Rv;obtain⟨a,dx,xs,B,h1,h2,cw,h3,mx,hE,h4,h5⟩:=h;exact⟨a,dx,xs,h1,h2,h3,eQ.rv ds B xs h5⟩
theorem eQ.rv:∀(ds:List D)(A:Fp)(ys:List V),eQ K H ds A ys→eO K H ds ys
 | [],A,ys,h=>by unfold eQ at h;unfold eO;exact h.2
 | d::ds,A,ys,h=>by unfold eQ at h;unfold eO;obtain⟨y,yt,A1,A2,h1,h2,h3,h4,h5⟩:=h;exact⟨y,yt,h1,Ow.rv d A1 y h4,eQ.rv ds A2 yt h5⟩
end
def oG(H:Hp)(a:AF):Prop:=(∃o,H a=NR o)∧wN H a
mutual
theorem Ow.cells:∀(d:D)(A:Fp)(v:V),Ow K H d A v→∀a,A a→oG H a
 | .non,A,v,h,a,q=>by unfold Ow at h;exact absurd q (h.1 a)
 | .bl _,A,v,h,a,q=>by unfold Ow at h;exact absurd q (h.1 a)
 | .int _,A,v,h,a,q=>by unfold Ow at h;exact absurd q (h.1 a)
 | .str _,A,v,h,a,q=>by unfold Ow at h;exact absurd q (h.1 a)
 | .lst ds,A,v,h,a,q=>by
  unfold Ow at h;obtain⟨p,xs,B,h1,h2,h3,h4,h5⟩:=h
  rcases(h4 a).mp q with z | z
  ·cases z;exact⟨⟨_,h2⟩,tZ h2⟩
  ·exact eQ.cells ds B xs h5 a z
 | .tup ds,A,v,h,a,q=>by unfold Ow at h;obtain⟨p,xs,h1,h2,h3⟩:=h;exact eQ.cells ds A xs h3 a q
 | .dk ks ds,A,v,h,a,q=>by
  unfold Ow at h;obtain⟨p,xs,B,h1,h2,cw,h3,h4,h5⟩:=h
  rcases(h4 a).mp q with z | z
  ·cases z;exact⟨⟨_,h2⟩,Rm h2⟩
  ·exact eQ.cells ds B xs h5 a z
 | .dt ks ds,A,v,h,a,q=>by
  unfold Ow at h;obtain⟨p,xs,B,h1,h2,cw,h3,h4,h5⟩:=h
  rcases(h4 a).mp q with z | z
  ·cases z;exact⟨⟨_,h2⟩,λys e=>(by rw[h2]at e;cases e),λo ys e=>(by rw[h2]at e;cases e)⟩
  ·exact eQ.cells ds B xs h5 a z
 | .ins C nm ds,A,v,h,a,q=>by
  unfold Ow at h;obtain⟨p,dx,xs,B,h1,h2,cw,h3,mx,hE,h4,h5⟩:=h
  rcases(h4 a).mp q with (z | z) | z
  ·cases z;exact⟨⟨_,h2⟩,λys e=>(by rw[h2]at e;cases e),λo ys e=>(by rw[h2]at e;cases e)⟩
  ·cases z;exact⟨⟨_,cw⟩,λys e=>(by rw[cw]at e;cases e),λo ys e=>(by rw[cw]at e;cases e)⟩
  ·exact eQ.cells ds B xs h5 a z
theorem eQ.cells:∀(ds:List D)(A:Fp)(ys:List V),eQ K H ds A ys→∀a,A a→oG H a
 | [],A,ys,h,a,q=>by unfold eQ at h;exact absurd q (h.1 a)
 | d::ds,A,ys,h,a,q=>by
  unfold eQ at h;obtain⟨y,yt,A1,A2,h1,h2,h3,h4,h5⟩:=h
  rcases(h3 a).mp q with z | z
  ·exact Ow.cells d A1 y h4 a z
  ·exact eQ.cells ds A2 yt h5 a z
end
mutual
def D.jH:D→Bool
 | .non=>NU | .bl _=>NU | .int _=>NU | .str _=>NU
 | .tup ds=>D.gR ds
 | _=>NV
def D.gR:List D→Bool
 | []=>NU
 | d::ds=>D.jH d&&D.gR ds
end
abbrev nil:Fp:=λ_=>False
mutual
theorem Ay:∀(d:D)(v:V),d.jH=NU→Rv K H d v→Ow K H d nil v
 | .non,v,_,h=>by unfold Rv at h;unfold Ow;exact⟨λ_ z=>z,h⟩
 | .bl _,v,_,h=>by unfold Rv at h;unfold Ow;exact⟨λ_ z=>z,h⟩
 | .int _,v,_,h=>by unfold Rv at h;unfold Ow;exact⟨λ_ z=>z,h⟩
 | .str _,v,_,h=>by unfold Rv at h;unfold Ow;exact⟨λ_ z=>z,h⟩
 | .tup ds,v,i,h=>by unfold D.jH at i;unfold Rv at h;unfold Ow;obtain⟨a,xs,h1,h2,h3⟩:=h;exact⟨a,xs,h1,h2,yD ds xs i h3⟩
 | .lst ds,v,i,h=>by unfold D.jH at i;cases i
 | .dk _ ds,v,i,h=>by unfold D.jH at i;cases i
 | .dt _ ds,v,i,h=>by unfold D.jH at i;cases i
 | .ins _ _ ds,v,i,h=>by unfold D.jH at i;cases i
theorem yD:∀(ds:List D)(ys:List V),D.gR ds=NU→eO K H ds ys→eQ K H ds nil ys
 | [],ys,_,h=>by unfold eO at h;unfold eQ;exact⟨λ_ z=>z,h⟩
 | d::ds,ys,i,h=>by unfold D.gR at i;rw[J2]at i;unfold eO at h;unfold eQ;obtain⟨y,yt,h1,h2,h3⟩:=h;exact⟨y,yt,nil,nil,h1,λ_ z _=>z,λx=>⟨False.elim,λz=>z.elim id id⟩,Ay d y i.1 h2,yD ds yt i.2 h3⟩
end
open Classical in
def out(H:Hp)(A:Fp):Hp:=λa=>if A a then sx else H a
def aHN{A:Fp}(h:¬A a):out H A a=H a:=by unfold out;rw[sv h]
def bF{A:Fp}:out H A a=NR o↔¬A a∧H a=NR o:=by
 unfold out;split
 ·rename_i h;exact⟨λz=>(by cases z),λz=>absurd h z.1⟩
 ·rename_i h;exact⟨λz=>⟨h,z⟩,λz=>z.2⟩
def jA(H:Hp)(A:Fp):aW (out H A) H:=λb o h=>(bF.mp h).2
def Ro{A:Fp}(h:∀a,A a→wN H a):Fq K H (out H A):=λa xs q=>by
 rcases q with (q | ⟨o,q⟩) | q
 ·exact .inl (.inl (bF.mpr ⟨λz=>(h a z).1 _ q,q⟩))
 ·exact .inl (.inr ⟨o,bF.mpr ⟨λz=>(h a z).2 _ _ q,q⟩⟩)
 ·exact .inr q
def Ow.out{A:Fp}(h:Ow K H d A' v)(ap:Apart A' A)(c:∀a,A a→wN H a):Rv K (out H A) d v:=
 Ow.rv d A' v (Ow.frame (Ro c) d A' v h λa q=>aHN (ap a q))
abbrev DE:=List (Option D)
abbrev FE:=DE→Option D
variable{f fe fa fb:FE}
abbrev FA:=DE→Option (List D)
variable{fi:FA}
abbrev FT:=DE→Option Bool
variable{fc:FT}
def yE(K:aG)(H:Hp)(e:DE)(σ:St):Prop:=∀(i:Nat)(d:D),e[i]?=NR (NR d)→∃v,σ[i]?=NR (NR v)∧Rv K H d v
def yE.same{H':Hp}{e:DE}(h:yE K H e σ)(s:aW H H'):yE K H' e σ:=λi d q=>let ⟨v,h1,h2⟩:=h i d q;⟨v,h1,s.rv _ _ h2⟩
structure Zn(K:aG)(N:Fp)(Z H:Hp):Prop where
 sm:aW Z H
 tk:Fq K H Z
 no:∀a,N a→Z a=sx∧¬H a=sx
def Zn.self(K:aG)(H:Hp):Zn K nil H H:=⟨aW.refl _,λ_ _ h=>h,λ_ z=>z.elim⟩
def Fq.trans{H1 H2:Hp}(a:Fq K H H1)(b:Fq K H1 H2):Fq K H H2:=λp xs h=>b p xs (a p xs h)
def Ow.same{H':Hp}{A:Fp}(h:Ow K H d A v)(s:aW H H'):Ow K H' d A v:=
 Ow.frame s.tk d A v h λa q=>by obtain⟨⟨o,e⟩,_⟩:=Ow.cells d A v h a q;rw[e];exact s a o e
def eQ.same{H':Hp}{ds:List D}{A:Fp}(h:eQ K H ds A vs)(s:aW H H'):eQ K H' ds A vs:=
 eQ.frame s.tk ds A vs h λa q=>by obtain⟨⟨o,e⟩,_⟩:=eQ.cells ds A vs h a q;rw[e];exact s a o e
def Rp(K:aG)(H H':Hp)(d:D)(v:V):Prop:=∃A,Ow K H' d A v∧∀a,A a→H a=sx
def Vz(K:aG)(H H':Hp)(ds:List D)(vs:List V):Prop:=∃A,eQ K H' ds A vs∧∀a,A a→H a=sx
def Rp.rv{H':Hp}(h:Rp K H H' d v):Rv K H' d v:=let ⟨A,o,_⟩:=h;Ow.rv d A v o
def Vz.rv{H':Hp}{ds:List D}(h:Vz K H H' ds vs):eO K H' ds vs:=let ⟨A,o,_⟩:=h;eQ.rv ds A vs o
def Rp.same{H' H2:Hp}(h:Rp K H H' d v)(s:aW H' H2):Rp K H H2 d v:=let ⟨A,o,f⟩:=h;⟨A,o.same s,f⟩
def Rp.back{H':Hp}(h:Rp K H H' d v)(s:aW H0 H):Rp K H0 H' d v:=let ⟨A,o,f⟩:=h;⟨A,o,λa q=>s.free (f a q)⟩
def Rp.jH{H':Hp}(i:d.jH=NU)(h:Rv K H' d v):Rp K H H' d v:=⟨nil,Ay d v i h,λ_ z=>z.elim⟩
def Vz.gR{H':Hp}{ds:List D}(i:D.gR ds=NU)(h:eO K H' ds vs):Vz K H H' ds vs:=⟨nil,yD ds vs i h,λ_ z=>z.elim⟩
open Classical in
def CZ(Z H H':Hp):Hp:=λa=>if H a=sx then H' a else Z a
def Hy{H':Hp}(h:H a=sx):CZ Z H H' a=H' a:=by unfold CZ;rw[sk h]
def Rq{H':Hp}(h:¬H a=sx):CZ Z H H' a=Z a:=by unfold CZ;rw[sv h]
def La{N:Fp}{H':Hp}(z:Zn K N Z H):aW Z (CZ Z H H'):=λb o e=>by rw[Rq (by rw[z.sm b o e];intro q;cases q)];exact e
def DG{N:Fp}{H':Hp}(z:Zn K N Z H)(s:aW H H'):Zn K N (CZ Z H H') H' where
 sm:=λb o e=>by
  by_cases c:H b=sx
  ·rw[Hy c]at e;exact e
  ·rw[Rq c]at e;exact s b o (z.sm b o e)
 tk:=λa xs h=>by
  by_cases c:H a=sx
  ·rcases h with (h | ⟨o,h⟩) | h
   ·exact .inl (.inl (by rw[Hy c];exact h))
   ·exact .inl (.inr ⟨o,by rw[Hy c];exact h⟩)
   ·exact .inr h
  ·have q:xW K H a xs:=by
    rcases h with (h | ⟨o,h⟩) | h
    ·cases e:H a with
     | none=>exact absurd e c
     | some o=>have:=s a o e;rw[h]at this;cases this;exact .inl (.inl e)
    ·cases e:H a with
     | none=>exact absurd e c
     | some o=>have:=s a o e;rw[h]at this;cases this;exact .inl (.inr ⟨_,e⟩)
    ·exact .inr h
   exact(La z).tup (z.tk a xs q)
 no:=λa q=>⟨by rw[Rq (z.no a q).2];exact(z.no a q).1,λh=>(z.no a q).2 (s.free h)⟩
def Rp.zone{N:Fp}{H':Hp}(h:Rp K H H' d v)(z:Zn K N Z H)(s:aW H H'):Rv K (CZ Z H H') d v:=by obtain⟨A,o,f⟩:=h;exact Ow.rv d A v (Ow.frame (DG z s).tk d A v o λa q=>Hy (f a q))
def Ko(K:aG)(t:TE)(f:FE):Prop:=∀{N:Fp}(σ:St)(H Z:Hp)(e:DE)(d:D)(Q:VK),Zn K N Z H→yE K Z e σ→f e=NR d →
 (∀v H' Z',aW H H'→aW Z Z'→Zn K N Z' H'→Rv K Z' d v→Q v H')→t σ H Q
def Nq(K:aG)(t:TE)(f:FE):Prop:=∀(σ:St)(H:Hp)(e:DE)(d:D)(Q:VK),yE K H e σ→f e=NR d →
 (∀v H',aW H H'→Rp K H H' d v→Q v H')→t σ H Q
def aj(K:aG)(t:TT)(f:FT):Prop:=∀(σ:St)(H:Hp)(e:DE)(b:Bool)(Q:Bool→Hp→Prop),yE K H e σ→f e=NR b→(∀H',aW H H'→Q b H')→t σ H Q
def EvA(K:aG)(t:TA)(f:FA):Prop:=∀{N:Fp}(σ:St)(H Z:Hp)(e:DE)(ds:List D)(Q:List V→Hp→Prop),Zn K N Z H→yE K Z e σ→f e=NR ds →
 (∀vs H' Z',aW H H'→aW Z Z'→Zn K N Z' H'→eO K Z' ds vs→Q vs H')→t σ H Q
def EvB(K:aG)(t:TA)(f:FA):Prop:=∀(σ:St)(H:Hp)(e:DE)(ds:List D)(Q:List V→Hp→Prop),yE K H e σ→f e=NR ds →
 (∀vs H',aW H H'→Vz K H H' ds vs→Q vs H')→t σ H Q
def Nq.r(h:Nq K t f):Ko K t f:=λσ H Z e d Q z r q k=>
 h σ H e d Q (r.same z.sm) q λv H' s n=>k v H' (CZ Z H H') s (La z) (DG z s) (n.zone z s)
def cL(f:FE):FE:=λe=>(f e).bind λd=>if d.jH=NU then NR d else sx
def Xk{e:DE}:cL f e=NR d↔f e=NR d∧d.jH=NU:=by
 unfold cL;cases q:f e with
 | none=>simp
 | some a=>
  simp only[C4];split
  ·rename_i h;constructor
   ·intro z;cases z;exact⟨U,h⟩
   ·rintro⟨z,_⟩;exact z
  ·rename_i h;constructor
   ·intro z;cases z
   ·rintro⟨z,z2⟩;cases z;exact absurd z2 h
def Ko.n(h:Ko K t f):Nq K t (cL f):=λσ H e d Q r q k=>by obtain⟨q1,q2⟩:=Xk.mp q;exact h σ H H e d Q (Zn.self K H) r q1 λv H' Z' s1 s2 z' rv=>k v H' s1 (.jH q2 (z'.sm.rv _ _ rv))
def aD(i:Nat):FE:=λe=>(e[i]?).getD sx
def aHQ(i:Nat):Ko K (qM i) (aD i):=λσ H Z e d Q z r q k=>by
 have e1:e[i]?=NR (NR d):=by
  unfold aD at q;cases h:e[i]? with
  | none=>rw[h]at q;cases q
  | some o=>rw[h]at q;cases q;rfl
 obtain⟨v,h1,h2⟩:=r i d e1;exact⟨v,h1,k v H Z (aW.refl _) (aW.refl _) z h2⟩
def fC(d:D):FE:=λ_=>NR d
def aCe(i:Int):Nq K (tC (.int i)) (fC (.int i)):=λσ H e d Q r q k=>by cases q;exact k _ H (aW.refl _) (.jH U (by unfold Rv;rfl))
def aJQ(i:Bool):Nq K (tC (.bl i)) (fC (.bl i)):=λσ H e d Q r q k=>by cases q;exact k _ H (aW.refl _) (.jH U (by unfold Rv;rfl))
def aHR:Nq K (tC .non) (fC .non):=λσ H e d Q r q k=>by cases q;exact k _ H (aW.refl _) (.jH U (by unfold Rv;rfl))
def aHS(i:Str):Nq K (tC (.str i)) (fC (.str i)):=λσ H e d Q r q k=>by cases q;exact k _ H (aW.refl _) (.jH U (by unfold Rv;rfl))
def f2(φ:D→D→Option D)(f g:FE):FE:=λe=>(f e).bind λa=>(g e).bind λb=>φ a b
def Ph{g:FE}{e:DE}(h:f2 φ f g e=NR d):∃a b,f e=NR a∧g e=NR b∧φ a b=NR d:=by unfold f2 at h;obtain⟨a,h1,h2⟩:=aZ h;obtain⟨b,h3,h4⟩:=aZ h2;exact⟨a,b,h1,h3,h4⟩
def OpD(K:aG)(r:R2)(φ:D→D→Option D):Prop:=∀{N:Fp}(x y:V)(H Z:Hp)(a b d:D)(Q:VK),Zn K N Z H→Rv K Z a x→Rv K Z b y→φ a b=NR d →
 (∀v H' Z',aW H H'→aW Z Z'→Zn K N Z' H'→Rv K Z' d v→Q v H')→r x y H Q
def MN(K:aG)(r:R2)(φ:D→D→Option D):Prop:=∀(x y:V)(H:Hp)(a b d:D)(Q:VK),Rv K H a x→Rv K H b y→φ a b=NR d →
 (∀v H',aW H H'→Rp K H H' d v→Q v H')→r x y H Q
def aJR{r:R2}{g:FE}(o:OpD K r φ)(ha:Ko K ta f)(hb:Ko K tb g):Ko K (OD r ta tb) (f2 φ f g):=λσ H Z e d Q z re q k=>by obtain⟨a,b,h1,h2,h3⟩:=Ph q;refine ha σ H Z e a _ z re h1 λx H1 Z1 s1 t1 z1 rx=>hb σ H1 Z1 e b _ z1 (re.same t1) h2 λy H2 Z2 s2 t2 z2 ry=>?_;exact o x y H2 Z2 a b d Q z2 (t2.rv _ _ rx) ry h3 λv H3 Z3 s3 t3 z3 rv=>k v H3 Z3 (s1.trans (s2.trans s3)) (t1.trans (t2.trans t3)) z3 rv
def aCf{r:R2}{g:FE}(o:MN K r φ)(ha:Ko K ta f)(hb:Ko K tb g):Nq K (OD r ta tb) (f2 φ f g):=λσ H e d Q re q k=>by obtain⟨a,b,h1,h2,h3⟩:=Ph q;refine ha σ H H e a _ (Zn.self K H) re h1 λx H1 Z1 s1 t1 z1 rx=>hb σ H1 Z1 e b _ z1 (re.same t1) h2 λy H2 Z2 s2 t2 z2 ry=>?_;exact o x y H2 a b d Q (z2.sm.rv _ _ (t2.rv _ _ rx)) (z2.sm.rv _ _ ry) h3 λv H3 s3 n=>k v H3 (s1.trans (s2.trans s3)) (n.back (s1.trans s2))
def Pj(C:Int→Int→Prop)[∀i j,Decidable (C i j)](g:Int→Int→D):D→D→Option D
 | .int i,.int j=>if C i j then NR (g i j)else sx
 | _,_=>sx
def Rr{C:Int→Int→Prop}[∀i j,Decidable (C i j)]{g:Int→Int→D}{a b:D}(h:Pj C g a b=NR d):∃i j,a=.int i∧b=.int j∧C i j∧d=g i j:=by
 unfold Pj at h;split at h
 ·split at h
  ·rename_i i j c;cases h;exact⟨i,j,U,U,c,U⟩
  ·cases h
 ·cases h
def DK{C:Int→Int→Prop}[∀i j,Decidable (C i j)]{C':Int→Int→Prop}(hC:∀i j,C i j→C' i j){g:Int→Int→Int}:MN K (rI C' λi j=>.int (g i j)) (Pj C λi j=>.int (g i j)):=λx y H a b d Q ra rb q k=>by obtain⟨i,j,rfl,rfl,c,rfl⟩:=Rr q;unfold Rv at ra rb;exact⟨i,j,ra,rb,hC i j c,k _ H (aW.refl _) (.jH U (by unfold Rv;rfl))⟩
def aEW{g:Int→Int→Int}:MN K (rI0 λi j=>.int (g i j)) (Pj (λ_ _=>True) λi j=>.int (g i j)):=λx y H a b d Q ra rb q k=>by obtain⟨i,j,rfl,rfl,c,rfl⟩:=Rr q;unfold Rv at ra rb;exact⟨i,j,ra,rb,k _ H (aW.refl _) (.jH U (by unfold Rv;rfl))⟩
def iJ{g:Int→Int→Bool}:MN K (rI0 λi j=>.bl (g i j)) (Pj (λ_ _=>True) λi j=>.bl (g i j)):=λx y H a b d Q ra rb q k=>by obtain⟨i,j,rfl,rfl,c,rfl⟩:=Rr q;unfold Rv at ra rb;exact⟨i,j,ra,rb,k _ H (aW.refl _) (.jH U (by unfold Rv;rfl))⟩
def aL:FA:=λ_=>NR []
def aB(f:FE)(fs:FA):FA:=λe=>(f e).bind λa=>(fs e).bind λr=>NR (a::r)
def Nr{fs:FA}{e:DE}{ds:List D}(h:aB f fs e=NR ds):∃a r,f e=NR a∧fs e=NR r∧ds=a::r:=by unfold aB at h;obtain⟨a,h1,h2⟩:=aZ h;obtain⟨b,h3,h4⟩:=aZ h2;cases h4;exact⟨a,b,h1,h3,U⟩
def aCg:EvA K oX aL:=λσ H Z e ds Q z re q k=>by cases q;exact k [] H Z (aW.refl _) (aW.refl _) z (by unfold eO;rfl)
def aEX{t:TA}{fs:FA}(h:Ko K te f)(hs:EvA K t fs):EvA K (dF te t) (aB f fs):=λσ H Z e ds Q z re q k=>by obtain⟨a,r,h1,h2,rfl⟩:=Nr q;refine h σ H Z e a _ z re h1 λx H1 Z1 s1 t1 z1 rx=>hs σ H1 Z1 e r _ z1 (re.same t1) h2 λvs H2 Z2 s2 t2 z2 rs=>?_;exact k _ H2 Z2 (s1.trans s2) (t1.trans t2) z2 (by unfold eO;exact⟨x,vs,U,t2.rv _ _ rx,rs⟩)
def aHT:EvB K oX aL:=λσ H e ds Q re q k=>by cases q;exact k [] H (aW.refl _) (.gR U (by unfold eO;rfl))
def aEY{t:TA}{fs:FA}(h:Nq K te f)(hs:EvB K t fs):EvB K (dF te t) (aB f fs):=λσ H e ds Q re q k=>by obtain⟨a,r,h1,h2,rfl⟩:=Nr q;refine h σ H e a _ re h1 λx H1 s1 n1=>hs σ H1 e r _ (re.same s1) h2 λvs H2 s2 n2=>?_;refine k _ H2 (s1.trans s2) ?_;obtain⟨A,oA,fA⟩:=n1;obtain⟨B,oB,fB⟩:=n2;refine⟨gG A B,?_,λp q=>q.elim (fA p) λz=>s1.free (fB p z)⟩;unfold eQ;refine⟨x,vs,A,B,U,λp qa qb=>?_,λ_=>Iff.rfl,oA.same s2,oB⟩;obtain⟨⟨o,e1⟩,_⟩:=Ow.cells _ _ _ oA p qa;rw[fB p qb]at e1;cases e1
def cap(n:Nat)(d:D):Option D:=if n≤100000 then NR d else sx
def Ru{n:Nat}(h:cap n d=NR d'):n≤100000∧d'=d:=by
 unfold cap at h;split at h
 ·rename_i c;cases h;exact⟨c,U⟩
 ·cases h
def Xl{n:Nat}(h:n≤100000):n≤sizeLine:=by rw[Fu];omega
def Nt{n:Nat}(h:n≤100000):n<sizeLine:=by rw[Fu];omega
def mR(fs:FA):FE:=λe=>(fs e).bind λds=>cap ds.length (.lst ds)
def wO(fs:FA):FE:=λe=>(fs e).bind λds=>cap ds.length (.tup ds)
def vD{H1:Hp}{ds:List D}{xs:List V}{p:AF}(s:aW H H1)(n:Vz K H H1 ds xs)(hp:H1 p=sx):Rp K H (upd H1 p (.lst xs)) (.lst ds) (.ref p):=by obtain⟨A,o,f⟩:=n;refine⟨gG (·=p) A,?_,λa q=>q.elim (λz=>by cases z;exact s.free hp) (f a)⟩;unfold Ow;refine⟨p,xs,A,U,cA,λz=>?_,λ_=>Iff.rfl,o.same (cR hp _)⟩;obtain⟨⟨u,e⟩,_⟩:=eQ.cells _ _ _ o p z;rw[hp]at e;cases e
def ux{H1:Hp}{ds:List D}{xs:List V}{p:AF}(n:Vz K H H1 ds xs)(hp:H1 p=sx):Rp K H (upd H1 p (.tup xs)) (.tup ds) (.ref p):=by obtain⟨A,o,f⟩:=n;refine⟨A,?_,f⟩;unfold Ow;exact⟨p,xs,U,xW.of cA,o.same (cR hp _)⟩
def aHU{t:TA}{fs:FA}(h:EvB K t fs):Nq K (aBT t) (mR fs):=λσ H e d Q re q k=>by
 unfold mR at q;obtain⟨ds,h1,h2⟩:=aZ q;obtain⟨hc,rfl⟩:=Ru h2;refine h σ H e ds _ re h1 λxs H1 s1 n=>⟨Xl (by rw[n.rv.length];exact hc),λp hp=>?_⟩
 exact k _ _ (s1.trans (cR hp _)) (vD s1 n hp)
def aHV{t:TA}{fs:FA}(h:EvB K t fs):Nq K (PJ t) (wO fs):=λσ H e d Q re q k=>by
 unfold wO at q;obtain⟨ds,h1,h2⟩:=aZ q;obtain⟨hc,rfl⟩:=Ru h2;refine h σ H e ds _ re h1 λxs H1 s1 n=>⟨Xl (by rw[n.rv.length];exact hc),λp hp=>?_⟩
 exact k _ _ (s1.trans (cR hp _)) (ux n hp)
def aCh{N:Fp}{p:AF}(z:Zn K N Z H)(hp:H p=sx):aW Z (upd Z p o)∧Zn K N (upd Z p o) (upd H p o):=by
 have hz:Z p=sx:=z.sm.free hp;refine⟨cR hz o,⟨λb u e=>?_,λa xs h=>?_,λa q=>?_⟩⟩
 ·by_cases c:b=p
  ·subst c;rw[cA]at e;rw[cA];exact e
  ·rw[bQ c]at e;rw[bQ c];exact z.sm b u e
 ·by_cases c:a=p
  ·subst c;rcases h with (h | ⟨u,h⟩) | h
   ·rw[cA]at h;exact .inl (.inl (by rw[cA];exact h))
   ·rw[cA]at h;exact .inl (.inr ⟨u,by rw[cA];exact h⟩)
   ·exact .inr h
  ·have q:xW K H a xs:=by
    rcases h with (h | ⟨u,h⟩) | h
    ·rw[bQ c]at h;exact .inl (.inl h)
    ·rw[bQ c]at h;exact .inl (.inr ⟨u,h⟩)
    ·exact .inr h
   exact(cR hz o).tup (z.tk a xs q)
 ·have c:a≠p:=λz'=>(z.no a q).2 (by rw[z'];exact hp);rw[bQ c,bQ c];exact z.no a q
def aHW{t:TA}{fs:FA}(h:EvA K t fs):Ko K (aBT t) (mR fs):=λσ H Z e d Q z re q k=>by
 unfold mR at q;obtain⟨ds,h1,h2⟩:=aZ q;obtain⟨hc,rfl⟩:=Ru h2;refine h σ H Z e ds _ z re h1 λxs H1 Z1 s1 t1 z1 rs=>⟨Xl (by rw[rs.length];exact hc),λp hp=>?_⟩
 obtain⟨a1,a2⟩:=aCh (o:=.lst xs) z1 hp;exact k _ _ _ (s1.trans (cR hp _)) (t1.trans a1) a2 (by unfold Rv;exact⟨p,xs,U,oU.of cA,a1.uw _ _ rs⟩)
structure XR(K:aG)(X:Cx)(e:AK)(t:TE)(f:FE):Prop where
 hk:X.K=K
 pe:PE X e t
 ev:Ko K t f
structure XN(K:aG)(X:Cx)(e:AK)(t:TE)(f:FE):Prop where
 hk:X.K=K
 pe:PE X e t
 ev:Nq K t f
structure XT(K:aG)(X:Cx)(e:AK)(t:TT)(f:FT):Prop where
 hk:X.K=K
 pt:PT X e t
 ev:aj K t f
structure XW(K:aG)(X:Cx)(e:AK)(t:TT)(f:FT):Prop where
 hk:X.K=K
 pw:PW X e t
 ev:aj K t f
structure XA(K:aG)(X:Cx)(es:List AK)(t:TA)(f:FA):Prop where
 hk:X.K=K
 pa:PA X es t
 ev:EvA K t f
structure XB(K:aG)(X:Cx)(es:List AK)(t:TA)(f:FA):Prop where
 hk:X.K=K
 pa:PA X es t
 ev:EvB K t f
section
variable{a:AK}{es:List AK}{g:FE}{fs:FA}{pos:Pos}
def XN.r(h:XN K X e t f):XR K X e t f:=⟨h.hk,h.pe,h.ev.r⟩
def XR.n(h:XR K X e t f):XN K X e t (cL f):=⟨h.hk,h.pe,Ko.n h.ev⟩
def aH(h:PE X e (qM i))(hk:X.K=K:=by rfl):XR K X e (qM i) (aD i):=⟨hk,h,aHQ i⟩
def aM{i:Int}(hk:X.K=K:=by rfl):XN K X (.Constant (.int i) j pos) (tC (.int i)) (fC (.int i)):=⟨hk,aG5,aCe i⟩
def uF{i:Bool}(hk:X.K=K:=by rfl):XN K X (.Constant (.bool i) j pos) (tC (.bl i)) (fC (.bl i)):=⟨hk,aJp,aJQ i⟩
def yF(hk:X.K=K:=by rfl):XN K X (.Constant .none j pos) (tC .non) (fC .non):=⟨hk,aG6,aHR⟩
def gr{x:Str}(hk:X.K=K:=by rfl):XN K X (.Constant (.str x) j pos) (tC (.str x)) (fC (.str x)):=⟨hk,aG7,aHS x⟩
def Xm{op:Operator}{r:R2}(ho:vC X (ED op) r)(hd:MN K r φ)(ha:XR K X a ta f)(hb:XR K X b tb g):XN K X (.BinOp a op b pos) (OD r ta tb) (f2 φ f g):=⟨ha.hk,aJA ho ha.pe hb.pe,aCf hd ha.ev hb.ev⟩
def Az:D→D→Option D:=Pj (λ_ _=>True) λi j=>.int (i-j)
instance (i j:Int):Decidable (Vs i j):=by unfold Vs;exact inferInstance
instance (i j:Int):Decidable (aAi i j):=by unfold aAi;exact inferInstance
instance (i j:Int):Decidable (aAj i j):=by unfold aAj;exact inferInstance
def sZ:D→D→Option D:=Pj Vs λi j=>.int (i*j)
def rR:D→D→Option D:=Pj aAi λi j=>.int (i/j)
def gH:D→D→Option D:=Pj (λ_ j=>0<j) λi j=>.int (i%j)
def Ek:D→D→Option D:=Pj aAj λi j=>.int (i ^ j.toNat)
def uG(ha:XR K X a ta f)(hb:XR K X b tb g):XN K X (.BinOp a .Sub b pos) (OD (rI0 λi j=>.int (i-j)) ta tb) (f2 Az f g):=Xm aHn aEW ha hb
def mG(ha:XR K X a ta f)(hb:XR K X b tb g):XN K X (.BinOp a .Mult b pos) (OD (rI Vs λi j=>.int (i*j)) ta tb) (f2 sZ f g):=Xm aHo (DK λ_ _ h=>h) ha hb
def mU(ha:XR K X a ta f)(hb:XR K X b tb g):XN K X (.BinOp a .FloorDiv b pos) (OD (rI aAi λi j=>.int (i/j)) ta tb) (f2 rR f g):=Xm aEs (DK λ_ _ h=>h) ha hb
def bV(ha:XR K X a ta f)(hb:XR K X b tb g):XN K X (.BinOp a .Mod b pos) (OD (rI (λ_ j=>0<j) λi j=>.int (i%j)) ta tb) (f2 gH f g):=Xm aHp (DK λ_ _ h=>h) ha hb
def wA(ha:XR K X a ta f)(hb:XR K X b tb g):XN K X (.BinOp a .Pow b pos) (OD (rI aAj λi j=>.int (i ^ j.toNat)) ta tb) (f2 Ek f g):=Xm aHq (DK λ_ _ h=>h) ha hb
def yG{op:EH}{r:R2}(ho:vC X (AY op) r)(hd:MN K r φ)(ha:XR K X a ta f)(hb:XR K X b tb g)(hm:behindInMarks op b=NV):XN K X (.Compare a [op] [b] pos) (OD r ta tb) (f2 φ f g):=⟨ha.hk,aEt ho ha.pe hb.pe hm,aCf hd ha.ev hb.ev⟩
def fB(f:FE):FT:=λe=>(f e).bind λd=>match d with | .bl b=>NR b | _=>sx
def Hz{e:DE}{b:Bool}(h:fB f e=NR b):f e=NR (.bl b):=by
 unfold fB at h;obtain⟨d,h1,h2⟩:=aZ h;split at h2
 ·cases h2;exact h1
 ·cases h2
def aEZ(h:Ko K t f):aj K (PB t) (fB f):=λσ H e b Q re q k=>h σ H H e _ _ (Zn.self K H) re (Hz q) λv H' Z' s1 s2 z rv=>by unfold Rv at rv;exact⟨b,rv,k H' s1⟩
def aGp(h:Ko K t f):aj K (tB t) (fB f):=λσ H e b Q re q k=>h σ H H e _ _ (Zn.self K H) re (Hz q) λv H' Z' s1 s2 z rv=>by unfold Rv at rv;exact⟨b,rv,k H' s1⟩
def dB{op:EH}{r:R2}(ho:vC X (AY op) r)(hd:MN K r φ)(ha:XR K X a ta f)(hb:XR K X b tb g)(hm:behindInMarks op b=NV):XT K X (.Compare a [op] [b] pos) (PB (OD r ta tb)) (fB (f2 φ f g)):=⟨ha.hk,aEu ho ha.pe hb.pe hm,aEZ (aCf hd ha.ev hb.ev).r⟩
def Ba(h:XR K X e t f)(he:∀ee,HZ e X.env ee=(do let v ←ee;EK e.pos;DI [v] (truthy v)):=by intro _;rfl):XT K X e (tB t) (fB f):=⟨h.hk,aG9 h.pe he,aGp h.ev⟩
def gw:D→D→Option D:=Pj (λ_ _=>True) λi j=>.bl (decide (i<j))
def QH:D→D→Option D:=Pj (λ_ _=>True) λi j=>.bl (decide (i≤j))
def dGt:D→D→Option D:=Pj (λ_ _=>True) λi j=>.bl (decide (j<i))
def dGe:D→D→Option D:=Pj (λ_ _=>True) λi j=>.bl (decide (j≤i))
def toV:D→Option V
 | .non=>NR .non | .bl b=>NR (.bl b) | .int i=>NR (.int i) | .str x=>NR (.str x)
 | _=>sx
def Ft{x:V}(h:toV d=NR v)(r:Rv K H d x):x=v:=by cases d<;>unfold toV at h<;>first | (cases h;unfold Rv at r;exact r) | cases h
mutual
def lU:D→Option DV
 | .int i=>NR (.int i)
 | .non=>NR .non
 | .lst ds=>(vG ds).map DV.lst
 | .tup ds=>(vG ds).map DV.tup
 | _=>sx
def vG:List D→Option (List DV)
 | []=>NR []
 | d::ds=>(lU d).bind λx=>(vG ds).bind λxs=>NR (x::xs)
end
mutual
theorem yH:∀(d:D)(x:DV)(v:V),lU d=NR x→Rv K H d v→Reads K H x v
 | .int i,x,v,h,r=>by unfold lU at h;cases h;unfold Rv at r;unfold Reads;exact r
 | .lst ds,x,v,h,r=>by unfold lU at h;obtain⟨xs,h1,rfl⟩:=kJ h;unfold Rv at r;unfold Reads;obtain⟨a,vs,r1,r2,r3⟩:=r;exact⟨a,vs,r1,r2,Rx ds xs vs h1 r3⟩
 | .tup ds,x,v,h,r=>by unfold lU at h;obtain⟨xs,h1,rfl⟩:=kJ h;unfold Rv at r;unfold Reads;obtain⟨a,vs,r1,r2,r3⟩:=r;exact⟨a,vs,r1,r2,Rx ds xs vs h1 r3⟩
 | .non,x,v,h,r=>by unfold lU at h;cases h;unfold Rv at r;unfold Reads;exact r
 | .bl _,x,v,h,r=>by unfold lU at h;cases h
 | .str _,x,v,h,r=>by unfold lU at h;cases h
 | .dk _ _,x,v,h,r=>by unfold lU at h;cases h
 | .dt _ _,x,v,h,r=>by unfold lU at h;cases h
 | .ins _ _ _,x,v,h,r=>by unfold lU at h;cases h
theorem Rx:∀(ds:List D)(xs:List DV)(vs:List V),vG ds=NR xs→eO K H ds vs→fG K H xs vs
 | [],xs,vs,h,r=>by unfold vG at h;cases h;unfold eO at r;unfold fG;exact r
 | d::ds,xs,vs,h,r=>by unfold vG at h;obtain⟨x,h1,h2⟩:=aZ h;obtain⟨xt,h3,h4⟩:=aZ h2;cases h4;unfold eO at r;unfold fG;obtain⟨y,ys,r1,r2,r3⟩:=r;exact⟨y,ys,r1,yH d x y h1 r2,Rx ds xt ys h3 r3⟩
end
mutual
theorem aCi:∀(d e:D)(x:DV),lU d=NR x→lU e=NR x→d=e
 | .int i,e,x,h,h'=>by
  unfold lU at h;cases h;cases e<;>unfold lU at h'<;>first | (cases h';rfl) | cases h' | (obtain⟨xs,q1,q2⟩:=kJ h';cases q2)
 | .lst ds,e,x,h,h'=>by
  unfold lU at h;obtain⟨xs,h1,rfl⟩:=kJ h;cases e with
  | lst es=>unfold lU at h';obtain⟨ys,q1,q2⟩:=kJ h';cases q2;rw[Lb ds es xs h1 q1]
  | tup es=>unfold lU at h';obtain⟨ys,q1,q2⟩:=kJ h';cases q2
  | _=>unfold lU at h';cases h'
 | .tup ds,e,x,h,h'=>by
  unfold lU at h;obtain⟨xs,h1,rfl⟩:=kJ h;cases e with
  | tup es=>unfold lU at h';obtain⟨ys,q1,q2⟩:=kJ h';cases q2;rw[Lb ds es xs h1 q1]
  | lst es=>unfold lU at h';obtain⟨ys,q1,q2⟩:=kJ h';cases q2
  | _=>unfold lU at h';cases h'
 | .non,e,x,h,h'=>by
  unfold lU at h;cases h;cases e<;>unfold lU at h'<;>first | (cases h';rfl) | cases h' | (obtain⟨xs,q1,q2⟩:=kJ h';cases q2)
 | .bl _,e,x,h,h'=>by unfold lU at h;cases h
 | .str _,e,x,h,h'=>by unfold lU at h;cases h
 | .dk _ _,e,x,h,h'=>by unfold lU at h;cases h
 | .dt _ _,e,x,h,h'=>by unfold lU at h;cases h
 | .ins _ _ _,e,x,h,h'=>by unfold lU at h;cases h
theorem Lb:∀(ds es:List D)(xs:List DV),vG ds=NR xs→vG es=NR xs→ds=es
 | [],[],xs,h,h'=>rfl
 | [],e::es,xs,h,h'=>by
  unfold vG at h h';cases h;obtain⟨x,h1,h2⟩:=aZ h';obtain⟨xt,h3,h4⟩:=aZ h2;cases h4
 | d::ds,[],xs,h,h'=>by
  unfold vG at h h';cases h';obtain⟨x,h1,h2⟩:=aZ h;obtain⟨xt,h3,h4⟩:=aZ h2;cases h4
 | d::ds,e::es,xs,h,h'=>by unfold vG at h h';obtain⟨x,h1,h2⟩:=aZ h;obtain⟨xt,h3,h4⟩:=aZ h2;cases h4;obtain⟨y,k1,k2⟩:=aZ h';obtain⟨yt,k3,k4⟩:=aZ k2;cases k4;rw[aCi d e x h1 k1,Lb ds es xt h3 k3]
end
def Fv(a b:D):Option D:=match toV a,toV b with
 | some x,NR y=>if aAk x y=NU then NR (.bl (decide (x=y)))else sx
 | _,_=>match lU a,lU b with
  | some x,NR y=>if x.depth≤32 then NR (.bl (Aw x y))else sx
  | _,_=>sx
def sW:MN K (λx y H Q=>rEq x y H Q∨aHI K NV x y H Q) Fv:=λx y H a b d Q ra rb q k=>by
 unfold Fv at q;split at q
 ·rename_i u v h1 h2;split at q
  ·rename_i hs;cases q;rw[Ft h1 ra,Ft h2 rb];exact .inl ⟨hs,k _ H (aW.refl _) (.jH U (by unfold Rv;rfl))⟩
  ·cases q
 ·split at q
  ·rename_i u v h1 h2;split at q
   ·rename_i hs;cases q;exact .inr ⟨u,v,yH a u x h1 ra,yH b v y h2 rb,hs,k _ H (aW.refl _) (.jH U (by unfold Rv;rfl))⟩
   ·cases q
  ·cases q
def ak(a b:D):Option D:=match toV a,toV b with
 | some x,NR y=>if aAk x y=NU then NR (.bl (!decide (x=y)))else sx
 | _,_=>match lU a,lU b with
  | some (.lst x),NR (.lst y)=>if jG x≤32 then NR (.bl (!Aw (.lst x) (.lst y)))else sx
  | some (.tup x),NR (.tup y)=>if jG x≤32 then NR (.bl (!Aw (.tup x) (.tup y)))else sx
  | _,_=>sx
def aJS(K:aG):R2:=λx y H Q=>rNe x y H Q∨(∃ds es,Reads K H (.lst ds) x∧Reads K H (.lst es) y∧jG ds≤32∧Q (.bl (!Aw (.lst ds) (.lst es))) H)∨(∃ds es,Reads K H (.tup ds) x∧Reads K H (.tup es) y∧jG ds≤32∧Q (.bl (!Aw (.tup ds) (.tup es))) H)
def Xn:MN K (aJS K) ak:=λx y H a b d Q ra rb q k=>by
 unfold ak at q;split at q
 ·rename_i u v h1 h2;split at q
  ·rename_i hs;cases q;rw[Ft h1 ra,Ft h2 rb];exact .inl ⟨hs,k _ H (aW.refl _) (.jH U (by unfold Rv;rfl))⟩
  ·cases q
 ·split at q
  ·rename_i u v h1 h2;split at q
   ·rename_i hs;cases q;exact .inr (.inl ⟨u,v,yH a _ x h1 ra,yH b _ y h2 rb,hs,k _ H (aW.refl _) (.jH U (by unfold Rv;rfl))⟩)
   ·cases q
  ·rename_i u v h1 h2;split at q
   ·rename_i hs;cases q;exact .inr (.inr ⟨u,v,yH a _ x h1 ra,yH b _ y h2 rb,hs,k _ H (aW.refl _) (.jH U (by unfold Rv;rfl))⟩)
   ·cases q
  ·cases q
def or_eq(hu:X.A.units+64<BG)(hk:X.K=K):vC X (AY .Eq) (λx y H Q=>rEq x y H Q∨aHI K NV x y H Q):=by subst hk;exact aJD.or (aHJ hu)
def Xo(hu:X.A.units+64<BG)(hk:X.K=K):vC X (AY .NotEq) (aJS K):=by subst hk;exact aJE.or ((aHK hu).or (aHM hu))
def QJ:List D→Option (List V)
 | []=>NR []
 | d::ds=>(toV d).bind λx=>(QJ ds).bind λxs=>NR (x::xs)
theorem uy:∀{ds:List D} {vs xs:List V},QJ ds=NR vs→eO K H ds xs→xs=vs
 | [],vs,xs,h,r=>by unfold QJ at h;cases h;unfold eO at r;exact r
 | d::ds,vs,xs,h,r=>by unfold QJ at h;obtain⟨x,h1,h2⟩:=aZ h;obtain⟨xt,h3,h4⟩:=aZ h2;cases h4;unfold eO at r;obtain⟨y,ys,rfl,r2,r3⟩:=r;rw[Ft h1 r2,uy h3 r3]
def Ac:D→Option (List D)
 | .lst ds=>NR ds
 | .tup ds=>NR ds
 | _=>sx
def Pk{ds:List D}(h:Ac d=NR ds)(r:Rv K H d v):∃p xs,v=.ref p∧(oU K H p xs∨xW K H p xs)∧eO K H ds xs:=by
 cases d with
 | lst es=>unfold Ac at h;cases h;unfold Rv at r;obtain⟨p,xs,r1,r2,r3⟩:=r;exact⟨p,xs,r1,.inl r2,r3⟩
 | tup es=>unfold Ac at h;cases h;unfold Rv at r;obtain⟨p,xs,r1,r2,r3⟩:=r;exact⟨p,xs,r1,.inr r2,r3⟩
 | _=>unfold Ac at h;cases h
def dIn(cb:Bool)(a b:D):Option D:=(toV a).bind λx=>(Ac b).bind λds=>(QJ ds).bind λxs=>if An x=NU∧xs.all An=NU then NR (.bl (if cb then !inV x xs else inV x xs))else sx
def aGq(cb:Bool):MN K (rIn K cb) (dIn cb):=λx y H a b d Q ra rb q k=>by
 unfold dIn at q;obtain⟨u,h1,q⟩:=aZ q;obtain⟨ds,h2,q⟩:=aZ q;obtain⟨us,h3,q⟩:=aZ q;split at q
 ·rename_i c;cases q;obtain⟨p,xs,rfl,r2,r3⟩:=Pk h2 rb;have:=uy h3 r3;subst this;rw[Ft h1 ra];exact⟨p,xs,U,r2,c.1,c.2,k _ H (aW.refl _) (.jH U (by unfold Rv;rfl))⟩
 ·cases q
def QK(hk:X.K=K):vC X (AY .NotIn) (rIn K NU):=by subst hk;exact CG
end
section
variable{κ:Type}[DecidableEq κ]
def posK:List κ→κ→Option Nat
 | [],_=>sx
 | a::ks,k=>if a=k then NR 0 else(posK ks k).map (·+1)
theorem uH:∀{ks:List κ} {xs:List V} {k:κ},ks.length=xs.length→xZ (ks.zip xs) k=(posK ks k).bind λj=>xs[j]?
 | [],xs,k,h=>by unfold posK;rfl
 | a::ks,[],k,h=>by simp at h
 | a::ks,x::xs,k,h=>by
  have ih:=uH (ks:=ks) (xs:=xs) (k:=k) (by simpa using h);unfold posK;rw[R7];unfold xZ at ih ⊢;rw[P8];by_cases c:a=k
  ·rw[sk c,tf c];rfl
  ·rw[sv c,tj c];show Option.map _ (List.find? _ (ks.zip xs))=_;rw[ih];cases posK ks k<;>rfl
theorem tD:∀{ks:List κ} {k:κ} {j:Nat},posK ks k=NR j→j<ks.length∧ks[j]?=NR k
 | [],k,j,h=>by unfold posK at h;cases h
 | a::ks,k,j,h=>by
  unfold posK at h;split at h
  ·rename_i c;cases h;exact⟨by simp,by simp[c]⟩
  ·obtain⟨i,h1,rfl⟩:=kJ h;obtain⟨a1,a2⟩:=tD h1;exact⟨by simpa using a1,by simpa using a2⟩
theorem Dh:∀{ks:List κ} {k:κ},posK ks k=sx↔k∉ks
 | [],k=>by unfold posK;simp
 | a::ks,k=>by
  unfold posK;have ih:=Dh (ks:=ks) (k:=k);split
  ·rename_i c;simp[c]
  ·rename_i c
   rw[g7,ih,B9];constructor
   ·rintro h (q | q)
    ·exact c q.symm
    ·exact h q
   ·intro h q;exact h (.inr q)
def mH(ks:List κ)(k:κ):List κ:=if(posK ks k).isSome then ks else ks++[k]
def putD{β:Type}(ks:List κ)(ds:List β)(k:κ)(d:β):List β:=if(posK ks k).isSome then R9 (λk' d'=>if k'=k then d else d') ks ds else ds++[d]
def wQ{β:Type}{ks:List κ}{ds:List β}{k:κ}{d:β}(h:ks.length=ds.length):(mH ks k).length=(putD ks ds k d).length:=by
 unfold mH putD;split
 ·rw[List.length_zipWith,h,m7]
 ·rw[D1,D1,h];rfl
def QL{ks:List κ}{xs:List V}{k:κ}(h:ks.length=xs.length):putK (ks.zip xs) k v=(mH ks k).zip (putD ks xs k v):=by
 have ha:((ks.zip xs).any λkv=>decide (kv.1=k))=(posK ks k).isSome:=by
  rw[Ra,uH h];cases q:posK ks k with
  | none=>rfl
  | some j=>obtain⟨h1,h2⟩:=tD q;rw[C4,B6 (by omega)];rfl
 unfold putK mH putD;rw[ha];by_cases c:(posK ks k).isSome=NU
 ·rw[sk c,sk c,sk c];clear ha c
  induction ks generalizing xs with
  | nil=>rfl
  | cons a ks ih=>
   cases xs with
   | nil=>simp at h
   | cons x xs=>
    rw[R7,E2,K1,R7,ih (by simpa using h)]
    split<;>rfl
 ·rw[sv c,sv c,sv c,List.zip_append h];rfl
end
def Wa:D→Option Key
 | .int i=>NR (.inl i)
 | .str x=>NR (.inr x)
 | _=>sx
def Pn{k:Key}(h:Wa d=NR k)(r:Rv K H d v):v=kV k:=by cases d<;>unfold Wa at h<;>first | (cases h;unfold Rv at r;exact r) | cases h
def kD:Key→D
 | .inl i=>.int i
 | .inr x=>.str x
section
variable{a:AK}{es:List AK}{g:FE}{pos:Pos}
def Ib(cb:Bool)(k d:D):Option D:=match d with
 | .dk ks ds=>(Wa k).bind λk=>NR (.bl (if cb then !(posK ks k).isSome else(posK ks k).isSome))
 | _=>sx
def ie{xs:List V}{k:Key}(h:ks.length=xs.length):(xZ (ks.zip xs) k).isSome=(posK ks k).isSome:=by
 rw[uH h];cases q:posK ks k with
 | none=>rfl
 | some j=>obtain⟨h1,h2⟩:=tD q;rw[C4,B6 (by omega)];rfl
def QM{x:V}{ka r:D}(h:Ib cb ka d=NR r)(rk:Rv K H ka y)(rd:Rv K H d x):∃p o,x=.ref p∧Rc H p y o∧r=.bl (if cb then !o.isSome else o.isSome):=by
 unfold Ib at h;split at h
 ·rename_i ks ds;obtain⟨k,h1,h2⟩:=aZ h;cases h2;unfold Rv at rd;obtain⟨p,xs,r1,r2,r3,r4⟩:=rd;refine⟨p,xZ (ks.zip xs) k,r1,.inl ⟨_,k,r2,Pn h1 rk,U⟩,?_⟩;rw[ie r3]
 ·cases h
def aCj(hu:X.A.units+1<BG)(ha:XR K X a ta f)(hb:XR K X b tb g)(h1:behindInMarks .In b=NV:=by first | exact nobehind _ (by decide) (by decide) | rfl):XN K X (.Compare a [.In] [b] pos) (aEK ta tb) (f2 (Ib NV) f g):=
 ⟨ha.hk,au (dm hu ha.pe hb.pe) h1,λσ H e d Q re q k=>by
  obtain⟨da,db,q1,q2,q3⟩:=Ph q;refine ha.ev σ H H e da _ (Zn.self K H) re q1 λx H1 Z1 s1 t1 z1 rx=>hb.ev σ H1 Z1 e db _ z1 (re.same t1) q2 λy H2 Z2 s2 t2 z2 ry=>?_;obtain⟨p,o,e1,e2,e3⟩:=QM q3 (z2.sm.rv _ _ (t2.rv _ _ rx)) (z2.sm.rv _ _ ry);subst e3;exact⟨p,o,e1,e2,k _ H2 (s1.trans s2) (.jH U (by unfold Rv;rfl))⟩⟩
def aAB(hu:X.A.units+1<BG)(ha:XR K X a ta f)(hb:XR K X b tb g)(h1:behindInMarks .NotIn b=NV:=by first | exact nobehind _ (by decide) (by decide) | rfl):XN K X (.Compare a [.NotIn] [b] pos) (CP ta tb) (f2 (Ib NU) f g):=
 ⟨ha.hk,au (Xh hu ha.pe hb.pe) h1,λσ H e d Q re q k=>by
  obtain⟨da,db,q1,q2,q3⟩:=Ph q;refine ha.ev σ H H e da _ (Zn.self K H) re q1 λx H1 Z1 s1 t1 z1 rx=>hb.ev σ H1 Z1 e db _ z1 (re.same t1) q2 λy H2 Z2 s2 t2 z2 ry=>?_;obtain⟨p,o,e1,e2,e3⟩:=QM q3 (z2.sm.rv _ _ (t2.rv _ _ rx)) (z2.sm.rv _ _ ry);subst e3;exact⟨p,o,e1,e2,k _ H2 (s1.trans s2) (.jH U (by unfold Rv;rfl))⟩⟩
def aGr{op:EH}(h:XN K X (.Compare a [op] [b] pos) t f)(pc:PC X op a b t)(h1:behindInMarks op b=NV):XT K X (.Compare a [op] [b] pos) (tB t) (fB f):=⟨h.hk,aG8 pc h1,aGp h.ev.r⟩
def Xp(hu:X.A.units+1<BG)(ha:XR K X a ta f)(hb:XR K X b tb g)(h1:behindInMarks .NotIn b=NV:=by first | exact nobehind _ (by decide) (by decide) | rfl):XT K X (.Compare a [.NotIn] [b] pos) (tB (CP ta tb)) (fB (f2 (Ib NU) f g)):=aGr (aAB hu ha hb h1) (Xh hu ha.pe hb.pe) h1
def cW(a i:D):Option D:=match i with
 | .int i=>(Ac a).bind λds=>ZX ds i
 | _=>sx
def aGs{ds:List D}{xs:List V}{i:Int}(r:eO K H ds xs)(h:ZX ds i=NR d):∃v,ZX xs i=NR v∧Rv K H d v:=by unfold ZX at h ⊢;obtain⟨j,h1,h2⟩:=aZ h;rw[r.length,h1];exact r.get h2
def aGt(hk:X.K=K):IxR X (rIx K):=by subst hk;exact aHy
def bK(ha:XR K X a ta f)(hb:XR K X b tb g)(hs:BW b):XR K X (.Subscript a b pos) (OD (rIx K) ta tb) (f2 cW f g):=
 ⟨ha.hk,aGk (aGt ha.hk) ha.pe hb.pe hs,aJR (λx y H Z da db d Q z ra rb q k=>by
  unfold cW at q;split at q
  ·rename_i i;obtain⟨ds,h1,h2⟩:=aZ q;unfold Rv at rb;cases da with
   | lst es=>
    unfold Ac at h1;cases h1;unfold Rv at ra;obtain⟨p,xs,r1,r2,r3⟩:=ra;obtain⟨v,e1,e2⟩:=aGs r3 h2;exact .inl ⟨p,xs,i,v,r1,rb,z.sm.seq r2,e1,k v H Z (aW.refl _) (aW.refl _) z e2⟩
   | tup es=>
    unfold Ac at h1;cases h1;unfold Rv at ra;obtain⟨p,xs,r1,r2,r3⟩:=ra;obtain⟨v,e1,e2⟩:=aGs r3 h2;exact .inr (.inl ⟨p,xs,i,v,r1,rb,z.sm.tup r2,e1,k v H Z (aW.refl _) (aW.refl _) z e2⟩)
   | _=>unfold Ac at h1;cases h1
  ·cases q) ha.ev hb.ev⟩
end
section
variable{a:AK}{es rest:List AK}{g:FE}{fs:FA}{pos:Pos}{fd:FT}{td:TT}
def aP(hk:X.K=K:=by rfl):XA K X [] oX aL:=⟨hk,jE,aCg⟩
def aF(h:XR K X e t f)(hs:XA K X es tA fs)(bt:AJ (e::es) X.env=(NV,AU e X.env)::AJ es X.env:=by rfl):XA K X (e::es) (dF t tA) (aB f fs):=⟨h.hk,cZ h.pe hs.pa bt,aEX h.ev hs.ev⟩
def jJ(hk:X.K=K:=by rfl):XB K X [] oX aL:=⟨hk,jE,aHT⟩
def bN(h:XN K X e t f)(hs:XB K X es tA fs)(bt:AJ (e::es) X.env=(NV,AU e X.env)::AJ es X.env:=by rfl):XB K X (e::es) (dF t tA) (aB f fs):=⟨h.hk,cZ h.pe hs.pa bt,aEY h.ev hs.ev⟩
def yI(h:XB K X es tA fs):XN K X (.List es pos) (aBT tA) (mR fs):=⟨h.hk,aBU h.pa,aHU h.ev⟩
def pJ(h:XA K X es tA fs):XR K X (.List es pos) (aBT tA) (mR fs):=⟨h.hk,aBU h.pa,aHW h.ev⟩
def rT(h:XB K X es tA fs):XN K X (.Tuple es x1 pos) (PJ tA) (wO fs):=⟨h.hk,cu h.pa,aHV h.ev⟩
def aE0:Nq K dq (fC (.dk [] [])):=λσ H e d Q re q k=>by cases q;intro p hp;refine k _ _ (cR hp _) ⟨(·=p),?_,λa q=>by cases q;exact hp⟩;unfold Ow;exact⟨p,[],nil,U,cA,U,λz=>z,λx=>⟨.inl,λz=>z.elim id False.elim⟩,by unfold eQ;exact⟨λ_ z=>z,U⟩⟩
def Di(hk:X.K=K:=by rfl):XN K X (.Dict [] [] pos) dq (fC (.dk [] [])):=⟨hk,aB4,aE0⟩
def El(f g:FT):FT:=λe=>(f e).bind λc=>if c=NU then g e else NR NV
def fOr(f g:FT):FT:=λe=>(f e).bind λc=>if c=NU then NR NU else g e
def Em(f:FT):FT:=λe=>(f e).map λc=>!c
def aHY(h1:aj K tc fc)(h2:aj K td fd):aj K (aHa tc td) (El fc fd):=λσ H e b Q re q k=>by
 unfold El at q;obtain⟨c,q1,q2⟩:=aZ q;refine h1 σ H e c _ re q1 λH1 s1=>?_;cases c with
 | true=>rw[sk rfl]at q2 ⊢;exact h2 σ H1 e b Q (re.same s1) q2 λH2 s2=>k H2 (s1.trans s2)
 | false=>rw[sv (by decide)]at q2 ⊢;cases q2;exact k H1 s1
def aJT(h1:aj K tc fc)(h2:aj K td fd):aj K (tOr tc td) (fOr fc fd):=λσ H e b Q re q k=>by
 unfold fOr at q;obtain⟨c,q1,q2⟩:=aZ q;refine h1 σ H e c _ re q1 λH1 s1=>?_;cases c with
 | false=>rw[sv (by decide)]at q2 ⊢;exact h2 σ H1 e b Q (re.same s1) q2 λH2 s2=>k H2 (s1.trans s2)
 | true=>rw[sk rfl]at q2 ⊢;cases q2;exact k H1 s1
def aHZ(h1:aj K tc fc):aj K (aHb tc) (Em fc):=λσ H e b Q re q k=>by unfold Em at q;obtain⟨c,q1,rfl⟩:=kJ q;exact h1 σ H e c _ re q1 k
def XW.xt(h:XW K X e tc fc):XT K X e tc fc:=⟨h.hk,h.pw.pt,h.ev⟩
def Ie(h:XT K X a tc fc):XW K X (.BoolOp .And [a] pos) tc fc:=⟨h.hk,aEn h.pt,h.ev⟩
def DN(h:XT K X a tc fc):XW K X (.BoolOp .Or [a] pos) tc fc:=⟨h.hk,aHc h.pt,h.ev⟩
def Ry(h:XT K X a tc fc)(h2:XW K X (.BoolOp .And (b::rest) pos) td fd):XW K X (.BoolOp .And (a::b::rest) pos) (aHa tc td) (El fc fd):=⟨h.hk,aHd h.pt h2.pw,aHY h.ev h2.ev⟩
def Xq(h:XT K X a tc fc)(h2:XW K X (.BoolOp .Or (b::rest) pos) td fd):XW K X (.BoolOp .Or (a::b::rest) pos) (tOr tc td) (fOr fc fd):=⟨h.hk,aJq h.pt h2.pw,aJT h.ev h2.ev⟩
def wB(h:XT K X a tc fc):XT K X (.UnaryOp .Not a pos) (aHb tc) (Em fc):=⟨h.hk,aHe h.pt,aHZ h.ev⟩
def qL(f g:FE):FE:=λe=>(fB f e).bind λc=>if c=NU then g e else NR (.bl NV)
def aAD(f g:FE):FE:=λe=>(fB f e).bind λc=>if c=NU then NR (.bl NU)else g e
def QQ(f:FE):FE:=λe=>(fB f e).map λc=>.bl (!c)
def tE{op:BoolOp}(h:XN K X a t f):XN K X (.BoolOp op [a] pos) t f:=⟨h.hk,aHf h.pe,h.ev⟩
def uI(h:XR K X a ta f)(h2:XN K X (.BoolOp .And (b::rest) pos) tb g):XN K X (.BoolOp .And (a::b::rest) pos) (aGc ta tb) (qL f g):=⟨h.hk,aHg h.pe h2.pe,λσ H e d Q re q k=>by
 unfold qL at q;obtain⟨c,q1,q2⟩:=aZ q;refine h.ev σ H H e _ _ (Zn.self K H) re (Hz q1) λv H1 Z1 s1 t1 z1 rv=>?_;unfold Rv at rv;refine⟨c,rv,?_⟩;cases c with
 | true=>rw[sk rfl]at q2 ⊢;exact h2.ev σ H1 e d Q (re.same s1) q2 λv H2 s2 n=>k v H2 (s1.trans s2) (n.back s1)
 | false=>rw[sv (by decide)]at q2 ⊢;cases q2;exact k _ H1 s1 (.jH U (by unfold Rv;rfl))⟩
def aJU(h:XR K X a ta f)(h2:XN K X (.BoolOp .Or (b::rest) pos) tb g):XN K X (.BoolOp .Or (a::b::rest) pos) (aJr ta tb) (aAD f g):=⟨h.hk,aJs h.pe h2.pe,λσ H e d Q re q k=>by
 unfold aAD at q;obtain⟨c,q1,q2⟩:=aZ q;refine h.ev σ H H e _ _ (Zn.self K H) re (Hz q1) λv H1 Z1 s1 t1 z1 rv=>?_;unfold Rv at rv;refine⟨c,rv,?_⟩;cases c with
 | false=>rw[sv (by decide)]at q2 ⊢;exact h2.ev σ H1 e d Q (re.same s1) q2 λv H2 s2 n=>k v H2 (s1.trans s2) (n.back s1)
 | true=>rw[sk rfl]at q2 ⊢;cases q2;exact k _ H1 s1 (.jH U (by unfold Rv;rfl))⟩
def aH0(h:XR K X a ta f):XN K X (.UnaryOp .Not a pos) (aGd ta) (QQ f):=⟨h.hk,aHh h.pe,λσ H e d Q re q k=>by
 unfold QQ at q;obtain⟨c,q1,rfl⟩:=kJ q;refine h.ev σ H H e _ _ (Zn.self K H) re (Hz q1) λv H1 Z1 s1 t1 z1 rv=>?_;unfold Rv at rv;exact⟨c,rv,k _ H1 s1 (.jH U (by unfold Rv;rfl))⟩⟩
def fIf(c:FT)(f g:FE):FE:=λe=>(c e).bind λb=>if b=NU then f e else g e
def aGv(hc:XT K X c tc fc)(ha:XN K X a ta f)(hb:XN K X b tb g):XN K X (.IfExp c a b pos) (tIf tc ta tb) (fIf fc f g):=⟨ha.hk,aBC hc.pt ha.pe hb.pe,λσ H e d Q re q k=>by
 unfold fIf at q;obtain⟨c,q1,q2⟩:=aZ q;refine hc.ev σ H e c _ re q1 λH1 s1=>?_;cases c with
 | true=>rw[sk rfl]at q2 ⊢;exact ha.ev σ H1 e d Q (re.same s1) q2 λv H2 s2 n=>k v H2 (s1.trans s2) (n.back s1)
 | false=>rw[sv (by decide)]at q2 ⊢;exact hb.ev σ H1 e d Q (re.same s1) q2 λv H2 s2 n=>k v H2 (s1.trans s2) (n.back s1)⟩
def aH1(ha:XR K X a ta f):XN K X (.UnaryOp .USub a pos) (tUn (rU λi=>.int (-i)) ta) (λe=>(f e).bind λd=>match d with | .int i=>NR (.int (-i)) | _=>sx):=⟨ha.hk,aJB aHr ha.pe,λσ H e d Q re q k=>by
 obtain⟨c,q1,q2⟩:=aZ q;split at q2
 ·rename_i i;cases q2;refine ha.ev σ H H e _ _ (Zn.self K H) re q1 λv H1 Z1 s1 t1 z1 rv=>?_;unfold Rv at rv;exact⟨i,rv,k _ H1 s1 (.jH U (by unfold Rv;rfl))⟩
 ·cases q2⟩
def fL(φ:List D→Option D)(fs:FA):FE:=λe=>(fs e).bind φ
def wR(K:aG)(r:List V→Hp→VK→Prop)(φ:List D→Option D):Prop:=∀(vs:List V)(H:Hp)(ds:List D)(d:D)(Q:VK),eO K H ds vs→φ ds=NR d →
 (∀v H',aW H H'→Rp K H H' d v→Q v H')→r vs H Q
def aGw{r:List V→Hp→VK→Prop}{φ:List D→Option D}(o:wR K r φ)(h:EvA K tA fs):Nq K (tCB r tA) (fL φ fs):=λσ H e d Q re q k=>by obtain⟨ds,q1,q2⟩:=aZ q;exact h σ H H e ds _ (Zn.self K H) re q1 λvs H1 Z1 s1 t1 z1 rs=>o vs H1 ds d Q (z1.sm.uw _ _ rs) q2 λv H2 s2 n=>k v H2 (s1.trans s2) (n.back s1)
def dD{r:List V→Hp→VK→Prop}{φ:List D→Option D}{x:Str}{id:String}{p:Pos}(o:wR K r φ)(hc:mQ X (.builtin id) r)(hg:Gl X x)(hm:X.mg x=sx)(hv:AZ x=NR (.builtin id))(ha:XA K X (e::es) tA fs)(hn:x ≠ "__name__" := by decide) (cm:(x==("__debug__":Str))=NV:=by decide)
 (he:AJ (e::es) X.env=(NV,AU e X.env)::AJ es X.env:=by rfl) (cE:(Au pos (AJ es X.env)).any (·.1)=NV:=by rfl):XN K X (.Call (.Name x p) (e::es) [] pos) (tCB r tA) (fL φ fs):=⟨ha.hk,PL hc hg hm hv ha.pa hn cm he cE,aGw o ha.ev⟩
def Nu{r:List V→Hp→VK→Prop}{φ:List D→Option D}{x:Str}{id:String}{p:Pos}(o:wR K r φ)(hc:mQ X (.type id) r)(hg:Gl X x)(hm:X.mg x=sx)(hv:AZ x=NR (.type id))(ha:XA K X (e::es) tA fs)(hn:x ≠ "__name__" := by decide) (cm:(x==("__debug__":Str))=NV:=by decide)
 (he:AJ (e::es) X.env=(NV,AU e X.env)::AJ es X.env:=by rfl) (cE:(Au pos (AJ es X.env)).any (·.1)=NV:=by rfl):XN K X (.Call (.Name x p) (e::es) [] pos) (tCB r tA) (fL φ fs):=⟨ha.hk,aAq hc hg hm hv ha.pa hn cm he cE,aGw o ha.ev⟩
def rW(h:eO K H [d] vs):∃v,vs=[v]∧Rv K H d v:=by unfold eO at h;obtain⟨y,ys,rfl,h1,h2⟩:=h;unfold eO at h2;subst h2;exact⟨y,U,h1⟩
def aCk(h:eO K H [d,d'] vs):∃v v',vs=[v,v']∧Rv K H d v∧Rv K H d' v':=by unfold eO at h;obtain⟨y,ys,rfl,h1,h2⟩:=h;obtain⟨v,rfl,h3⟩:=rW h2;exact⟨y,v,U,h1,h3⟩
def gZ:List D→Option D
 | [d]=>(Ac d).map λds=>.int ds.length
 | _=>sx
def aJV(K:aG):List V→Hp→VK→Prop:=λxs H Q=>∃p ys,xs=[.ref p]∧(oU K H p ys∨xW K H p ys)∧Q (.int ys.length) H
def dJ:wR K (aJV K) gZ:=λvs H ds d Q rs q k=>by
 unfold gZ at q;split at q
 ·rename_i d0;obtain⟨es,q1,rfl⟩:=kJ q;obtain⟨v,rfl,r⟩:=rW rs;obtain⟨p,xs,rfl,r2,r3⟩:=Pk q1 r;refine⟨p,xs,U,r2,k _ H (aW.refl _) (.jH U ?_)⟩;rw[r3.length];unfold Rv;rfl
 ·cases q
def dM(hk:X.K=K):mQ X (.builtin "len") (aJV K):=by subst hk;exact CJ
def dList:List D→Option D
 | [d]=>(Ac d).bind λds=>if D.gR ds=NU then NR (.lst ds)else sx
 | _=>sx
def aGx(K:aG):List V→Hp→VK→Prop:=λxs H Q=>∃p ys,xs=[.ref p]∧(oU K H p ys∨xW K H p ys)∧∀l,H l=sx→Q (.ref l) (upd H l (.lst ys))
def Ig:wR K (aGx K) dList:=λvs H ds d Q rs q k=>by
 unfold dList at q;split at q
 ·rename_i d0;obtain⟨es,q1,q2⟩:=aZ q;split at q2
  ·rename_i hi;cases q2;obtain⟨v,rfl,r⟩:=rW rs;obtain⟨p,xs,rfl,r2,r3⟩:=Pk q1 r;exact⟨p,xs,U,r2,λl hl=>k _ _ (cR hl _) (vD (aW.refl _) (.gR hi r3) hl)⟩
  ·cases q2
 ·cases q
def Ih(hk:X.K=K):mQ X (.type "list") (aGx K):=by subst hk;exact CK
def Rz:List D→Option D
 | [.dk ks ds]=>NR (.lst (ks.map kD))
 | _=>sx
def Xr:∀ks:List Key,D.gR (ks.map kD)=NU
 | []=>by rw[K9];unfold D.gR;rfl
 | k::ks=>by rw[E2];unfold D.gR;rw[Xr ks];cases k<;>(unfold kD D.jH;rfl)
def QR:∀ks:List Key,eO K H (ks.map kD) (ks.map kV)
 | []=>by rw[K9,K9];unfold eO;rfl
 | k::ks=>by rw[E2,E2];unfold eO;exact⟨_,_,U,by cases k<;>(unfold kD kV Rv;rfl),QR ks⟩
def aH2:List V→Hp→VK→Prop:=λxs H Q=>∃p kvs,xs=[.ref p]∧Rd H p (.dK kvs)∧∀l,H l=sx→Q (.ref l) (upd H l (.lst (kvs.map λkv=>kV kv.1)))
def aCl{xs:List V}(h:ks.length=xs.length):((ks.zip xs).map λkv=>kV kv.1)=ks.map kV:=by
 have:((ks.zip xs).map λkv=>kV kv.1)=((ks.zip xs).map Prod.fst).map kV:=by rw[M4];rfl
 rw[this,List.map_fst_zip (by omega)]
def QS:wR K aH2 Rz:=λvs H ds d Q rs q k=>by
 unfold Rz at q;split at q
 ·rename_i ks es;cases q;obtain⟨v,rfl,r⟩:=rW rs;unfold Rv at r;obtain⟨p,xs,rfl,r2,r3,r4⟩:=r;refine⟨p,_,U,r2,λl hl=>?_⟩;rw[aCl r3];exact k _ _ (cR hl _) (vD (aW.refl _) (.gR (Xr ks) (QR ks)) hl)
 ·cases q
def Sd:List D→Option D
 | [d]=>(Ac d).bind λds=>if D.gR ds=NU then NR (.tup ds)else sx
 | _=>sx
def aCm(K:aG):List V→Hp→VK→Prop:=λxs H Q=>∃p ys,xs=[.ref p]∧((oU K H p ys∧∀l,H l=sx→Q (.ref l) (upd H l (.tup ys)))∨(xW K H p ys∧Q (.ref p) H))
def aCn:wR K (aCm K) Sd:=λvs H ds d Q rs q k=>by
 unfold Sd at q;split at q
 ·rename_i d0;obtain⟨es,q1,q2⟩:=aZ q;split at q2
  ·rename_i hi;cases q2;obtain⟨v,rfl,r⟩:=rW rs;obtain⟨p,xs,rfl,r2,r3⟩:=Pk q1 r;refine⟨p,xs,U,?_⟩;rcases r2 with r2 | r2
   ·exact .inl ⟨r2,λl hl=>k _ _ (cR hl _) (ux (.gR hi r3) hl)⟩
   ·exact .inr ⟨r2,k _ H (aW.refl _) (.jH (by unfold D.jH;exact hi) (by unfold Rv;exact⟨p,xs,U,r2,r3⟩))⟩
  ·cases q2
 ·cases q
def aCo(hk:X.K=K):mQ X (.type "tuple") (aCm K):=by subst hk;exact Vu
def intsOf:List D→Option (List Int)
 | []=>NR []
 | .int i::ds=>(intsOf ds).map (i::·)
 | _=>sx
def lM:∀ns:List Int,intsOf (ns.map D.int)=NR ns
 | []=>rfl
 | n::ns=>by rw[E2];unfold intsOf;rw[lM ns];rfl
theorem vH:∀{ds:List D} {ns:List Int},intsOf ds=NR ns→ds=ns.map D.int
 | [],ns,h=>by unfold intsOf at h;cases h;rfl
 | d::ds,ns,h=>by
  cases d with
  | int i=>unfold intsOf at h;obtain⟨ms,h1,rfl⟩:=kJ h;rw[E2,←vH h1]
  | _=>unfold intsOf at h;cases h
theorem lV:∀{ns:List Int} {xs:List V},eO K H (ns.map D.int) xs↔xs=ns.map V.int
 | [],xs=>by rw[K9,K9];unfold eO;rfl
 | n::ns,xs=>by
  rw[E2,E2];unfold eO;constructor
  ·rintro⟨y,ys,rfl,h1,h2⟩
   unfold Rv at h1;rw[h1,lV.mp h2]
  ·rintro rfl;exact⟨_,_,U,by unfold Rv;rfl,lV.mpr U⟩
def fK:∀ns:List Int,D.gR (ns.map D.int)=NU
 | []=>by rw[K9];unfold D.gR;rfl
 | n::ns=>by rw[E2];unfold D.gR D.jH;rw[fK ns];rfl
def Bb{ds:List D}{ns:List Int}(h:intsOf ds=NR ns)(r:Rv K H (.lst ds) v):∃p,v=.ref p∧oU K H p (ns.map V.int):=by rw[vH h]at r;unfold Rv at r;obtain⟨p,xs,r1,r2,r3⟩:=r;rw[lV.mp r3]at r2;exact⟨p,r1,r2⟩
def sortI(ns:List Int):List Int:=ns.mergeSort λa b=>decide (a≤b)
def yJ(ns:List Int):rising ns (sortI ns):=⟨List.mergeSort_perm _ _,by
 have h:=List.pairwise_mergeSort (le:=λa b:Int=>decide (a≤b)) (λa b c h1 h2=>tf (Int.le_trans (of_decide_eq_true h1) (of_decide_eq_true h2))) (λa b=>by
  rw[u7,decide_eq_true_iff,decide_eq_true_iff];exact Int.le_total a b) ns
 exact h.imp λh=>of_decide_eq_true h⟩
def Xu:∀{l m:List Int},l.Pairwise (·≤·)→m.Pairwise (·≤·)→l.Perm m→l=m
 | [],m,_,_,p=>(List.Perm.nil_eq p)
 | a::l,[],_,_,p=>absurd p.symm (by simp)
 | a::l,b::m,h1,h2,p=>by
  obtain⟨h1a,h1b⟩:=F6.mp h1;obtain⟨h2a,h2b⟩:=F6.mp h2;have e:a=b:=by
   have q1:a∈b::m:=p.mem_iff.mp C8;have q2:b∈a::l:=p.mem_iff.mpr C8;rcases B9.mp q1 with q1 | q1
   ·exact q1
   ·rcases B9.mp q2 with q2 | q2
    ·exact q2.symm
    ·have:=h1a b q2
     have:=h2a a q1;omega
  subst e;rw[Xu h1b h2b (List.Perm.cons_inv p)]
def Ii{ns ms:List Int}(h:rising ns ms):ms=sortI ns:=Xu h.2 (yJ ns).2 (h.1.trans (yJ ns).1.symm)
def Ij:List D→Option D
 | [.lst ds]=>(intsOf ds).bind λns=>if ns.length<64 then NR (.lst ((sortI ns).map D.int))else sx
 | _=>sx
def uz(K:aG):List V→Hp→VK→Prop:=λxs H Q=>∃(p:AF)(ns:List Int),xs=[.ref p]∧oU K H p (ns.map V.int)∧ns.length<64∧∀l ms,H l=sx→rising ns ms→Q (.ref l) (upd H l (.lst (ms.map V.int)))
def Xv:wR K (uz K) Ij:=λvs H ds d Q rs q k=>by
 unfold Ij at q;split at q
 ·obtain⟨ns,q1,q2⟩:=aZ q;split at q2
  ·rename_i hl;cases q2;obtain⟨v,rfl,r⟩:=rW rs;obtain⟨p,rfl,r2⟩:=Bb q1 r;refine⟨p,ns,U,r2,hl,λl ms hl hr=>?_⟩;rw[Ii hr];exact k _ _ (cR hl _) (vD (aW.refl _) (.gR (fK _) (lV.mpr U)) hl)
  ·cases q2
 ·cases q
def Xw(hk:X.K=K):mQ X (.builtin "sorted") (uz K):=by subst hk;exact QC
def zT:List D→Option (List Bool)
 | []=>NR []
 | .bl i::ds=>(zT ds).map (i::·)
 | _=>sx
theorem QT:∀{ds:List D} {bs:List Bool} {xs:List V},zT ds=NR bs→eO K H ds xs→xs=bs.map V.bl
 | [],bs,xs,h,r=>by unfold zT at h;cases h;unfold eO at r;exact r
 | d::ds,bs,xs,h,r=>by
  cases d with
  | bl i=>unfold zT at h;obtain⟨cs,h1,rfl⟩:=kJ h;unfold eO at r;obtain⟨y,ys,rfl,r1,r2⟩:=r;unfold Rv at r1;rw[r1,QT h1 r2];rfl
  | _=>unfold zT at h;cases h
def Ld{α:Type}(p:α→Bool):∀l:List α,zT (l.map λx=>D.bl (p x))=NR (l.map p)
 | []=>rfl
 | a::l=>by rw[E2];unfold zT;rw[Ld p l];rfl
def Sg:List D→Option D
 | [.lst ds]=>(zT ds).map λbs=>.bl (bs.all id)
 | _=>sx
def aE1:List D→Option D
 | [.lst ds]=>(zT ds).map λbs=>.bl (bs.any id)
 | _=>sx
def aJW(K:aG):List V→Hp→VK→Prop:=λxs H Q=>∃(p:AF)(bs:List Bool),xs=[.ref p]∧oU K H p (bs.map V.bl)∧Q (.bl (bs.all id)) H
def aJX(K:aG):List V→Hp→VK→Prop:=λxs H Q=>∃(p:AF)(bs:List Bool),xs=[.ref p]∧oU K H p (bs.map V.bl)∧Q (.bl (bs.any id)) H
def vd{ds:List D}{bs:List Bool}(h:zT ds=NR bs)(r:Rv K H (.lst ds) v):∃p,v=.ref p∧oU K H p (bs.map V.bl):=by unfold Rv at r;obtain⟨p,xs,r1,r2,r3⟩:=r;rw[QT h r3]at r2;exact⟨p,r1,r2⟩
def Fw:wR K (aJW K) Sg:=λvs H ds d Q rs q k=>by
 unfold Sg at q;split at q
 ·obtain⟨bs,q1,rfl⟩:=kJ q;obtain⟨v,rfl,r⟩:=rW rs;obtain⟨p,rfl,r2⟩:=vd q1 r;exact⟨p,bs,U,r2,k _ H (aW.refl _) (.jH U (by unfold Rv;rfl))⟩
 ·cases q
def aH3:wR K (aJX K) aE1:=λvs H ds d Q rs q k=>by
 unfold aE1 at q;split at q
 ·obtain⟨bs,q1,rfl⟩:=kJ q;obtain⟨v,rfl,r⟩:=rW rs;obtain⟨p,rfl,r2⟩:=vd q1 r;exact⟨p,bs,U,r2,k _ H (aW.refl _) (.jH U (by unfold Rv;rfl))⟩
 ·cases q
def Fx(hk:X.K=K)(hc:X.calm=NU:=by rfl):mQ X (.builtin "all") (aJW K):=by subst hk;exact aB9 hc
def aH4(hk:X.K=K)(hc:X.calm=NU:=by rfl):mQ X (.builtin "any") (aJX K):=by subst hk;exact aCa hc
def QV:List D→Option D
 | [.int i,.int j]=>NR (.int (if j > i then j else i))
 | _=>sx
def aE2:wR K (λxs H Q=>∃i j,xs=[.int i,.int j]∧Q (.int (if j > i then j else i)) H) QV:=λvs H ds d Q rs q k=>by
 unfold QV at q;split at q
 ·cases q;obtain⟨v,w,rfl,r1,r2⟩:=aCk rs;unfold Rv at r1 r2;exact⟨_,_,by rw[r1,r2],k _ H (aW.refl _) (.jH U (by unfold Rv;rfl))⟩
 ·cases q
def ig:List Int→Int
 | []=>0
 | [a]=>a
 | a::b::l=>let m:=ig (b::l);if m<a then m else a
theorem Fy:∀{ns:List Int},0<ns.length→Pg ns (ig ns)
 | [],h=>absurd h (by simp)
 | [a],_=>⟨D2.mpr U,λb hb=>by rw[D2.mp hb];exact g6 _⟩
 | a::b::l,_=>by
  obtain⟨h1,h2⟩:=Fy (ns:=b::l) (by simp);unfold ig;dsimp only;split
  ·rename_i c;refine⟨C6 _ h1,λx hx=>?_⟩;rcases B9.mp hx with q | q
   ·omega
   ·exact h2 x q
  ·rename_i c;refine⟨C8,λx hx=>?_⟩;rcases B9.mp hx with q | q
   ·omega
   ·have:=h2 x q;omega
def il{ns:List Int}{m:Int}(h:Pg ns m):m=ig ns:=by obtain⟨h1,h2⟩:=Fy (List.length_pos_of_mem h.1);have:=h.2 _ h1;have:=h2 _ h.1;omega
def vf:List D→Option D
 | [.lst ds]=>(intsOf ds).bind λns=>if 0<ns.length then NR (.int (ig ns))else sx
 | _=>sx
def aGy(K:aG):List V→Hp→VK→Prop:=λxs H Q=>∃(p:AF)(ns:List Int),xs=[.ref p]∧oU K H p (ns.map V.int)∧0<ns.length∧∀m,Pg ns m→Q (.int m) H
def aE3:wR K (aGy K) vf:=λvs H ds d Q rs q k=>by
 unfold vf at q;split at q
 ·obtain⟨ns,q1,q2⟩:=aZ q;split at q2
  ·rename_i hl;cases q2;obtain⟨v,rfl,r⟩:=rW rs;obtain⟨p,rfl,r2⟩:=Bb q1 r;refine⟨p,ns,U,r2,hl,λm hm=>?_⟩;rw[il hm];exact k _ H (aW.refl _) (.jH U (by unfold Rv;rfl))
  ·cases q2
 ·cases q
def aE4(hk:X.K=K)(hc:X.calm=NU:=by rfl):mQ X (.builtin "min") (aGy K):=by subst hk;exact aAA hc
def dIs(cb:Bool)(a b:D):Option D:=match a,b with
 | .bl c,.bl k=>NR (.bl (if cb then !(c==k)else c==k))
 | _,_=>sx
def aAE{v:AE}{c k:Bool}(hu:u=.bool c)(hv:v=.bool k)(h:Q (.bool (!(c==k))) s):AL (AM X.prog X.w) A (AY .IsNot u v) Q E s:=by subst hu hv;cases c<;>cases k<;>exact wpAny_pure h
def aAF:vC X (AY .IsNot) (λx y H Q=>∃c k,x=.bl c∧y=.bl k∧Q (.bl (!(c==k))) H):=by intro aE s σ H x y v u Q I rx ry h;obtain⟨c,k,rfl,rfl,q⟩:=h;exact aAE rx ry ⟨.bl _,H,I,U,q⟩
def aAG:MN K (λx y H Q=>∃c k,x=.bl c∧y=.bl k∧Q (.bl (!(c==k))) H) (dIs NU):=λx y H a b d Q ra rb q k=>by
 unfold dIs at q;split at q
 ·cases q;unfold Rv at ra rb;exact⟨_,_,ra,rb,k _ H (aW.refl _) (.jH U (by unfold Rv;rfl))⟩
 ·cases q
end
section
variable{a:AK}{es rest:List AK}{g:FE}{fs:FA}{pos:Pos}{fd:FT}{td:TT}
abbrev FO:=DE→Option (Option Int)
def EvO(K:aG)(t:TO)(f:FO):Prop:=∀(σ:St)(H:Hp)(e:DE)(o:Option Int)(Q:Option Int→Hp→Prop),yE K H e σ→f e=NR o→(∀H',aW H H'→Q o H')→t σ H Q
structure XO(K:aG)(X:Cx)(e:Option AK)(t:TO)(f:FO):Prop where
 po:PO X e t
 ev:EvO K t f
def Bc:FO:=λ_=>NR sx
def mV(f:FE):FO:=λe=>(f e).bind λd=>match d with | .int i=>NR (NR i) | _=>sx
def DP:XO K X sx uf Bc:=⟨aEA,λσ H e o Q re q k=>by cases q;exact k H (aW.refl _)⟩
def Ik(h:XR K X e t f):XO K X (NR e) (aGj t) (mV f):=⟨aEB h.pe,λσ H e o Q re q k=>by
 unfold mV at q;obtain⟨d,q1,q2⟩:=aZ q;split at q2
 ·rename_i i;cases q2;refine h.ev σ H H e _ _ (Zn.self K H) re q1 λv H1 Z1 s1 t1 z1 rv=>?_;unfold Rv at rv;exact⟨i,rv,k H1 s1⟩
 ·cases q2⟩
def wC{α:Type}(xs:List α)(lo hi:Option Int):List α:=(xs.drop (HT.Kv xs.length 0 lo)).take (HT.Kv xs.length xs.length hi-HT.Kv xs.length 0 lo)
def eO.drop:∀{ds:List D} {xs:List V} (n:Nat),eO K H ds xs→eO K H (ds.drop n) (xs.drop n)
 | ds,xs,0,h=>h
 | [],xs,n+1,h=>by unfold eO at h;subst h;simp;unfold eO;rfl
 | d::ds,xs,n+1,h=>by unfold eO at h;obtain⟨y,ys,rfl,_,h2⟩:=h;simpa using eO.drop n h2
theorem eO.take:∀{ds:List D} {xs:List V} (n:Nat),eO K H ds xs→eO K H (ds.take n) (xs.take n)
 | ds,xs,0,h=>by simp;unfold eO;rfl
 | [],xs,n+1,h=>by unfold eO at h;subst h;simp;unfold eO;rfl
 | d::ds,xs,n+1,h=>by unfold eO at h;obtain⟨y,ys,rfl,h1,h2⟩:=h;rw[l3,l3];unfold eO;exact⟨y,_,U,h1,eO.take n h2⟩
def vg{ds:List D}{xs:List V}(lo hi:Option Int)(h:eO K H ds xs):eO K H (wC ds lo hi) (dh xs lo hi):=by unfold wC dh;rw[h.length];exact(h.drop _).take _
def ao(jH:Bool)(f:FE)(l h:FO):FE:=λe=>(f e).bind λd=>(l e).bind λlo=>(h e).bind λhi=>match d with
 | .lst ds=>if jH=NV∨D.gR (wC ds lo hi)=NU then NR (.lst (wC ds lo hi))else sx
 | _=>sx
def QW{jH:Bool}{l h:FO}{e:DE}(q:ao jH f l h e=NR d):∃ds lo hi,f e=NR (.lst ds)∧l e=NR lo∧h e=NR hi∧(jH=NV∨D.gR (wC ds lo hi)=NU)∧d=.lst (wC ds lo hi):=by
 unfold ao at q;obtain⟨d0,q1,q⟩:=aZ q;obtain⟨lo,q2,q⟩:=aZ q;obtain⟨hi,q3,q⟩:=aZ q;split at q
 ·split at q
  ·rename_i c;cases q;exact⟨_,lo,hi,q1,q2,q3,c,U⟩
  ·cases q
 ·cases q
def vh(hk:X.K=K):SlR X (aEE K):=by subst hk;exact aEF
variable{lo hi:Option AK}{fl fh:FO}
def Sh(h:XR K X e t f)(hl:XO K X lo tl fl)(hu:XO K X hi th fh):XR K X (.Subscript e (.Slice lo hi sx p2) pos) (tSl (aEE K) t tl th) (ao NV f fl fh):=⟨h.hk,PN (vh h.hk) h.pe hl.po hu.po,λσ H Z e d Q z re q k=>by
 obtain⟨ds,lo,hi,q1,q2,q3,_,rfl⟩:=QW q;refine h.ev σ H Z e _ _ z re q1 λv H1 Z1 s1 t1 z1 rv=>hl.ev σ H1 e lo _ (re.same (z.sm.trans s1)) q2 λH2 s2=>hu.ev σ H2 e hi _ (re.same (z.sm.trans (s1.trans s2))) q3 λH3 s3=>?_;have z3:=DG z1 (s2.trans s3);have t3:aW Z1 (CZ Z1 H1 H3):=La z1;unfold Rv at rv;obtain⟨p,xs,rfl,r2,r3⟩:=rv;refine⟨p,xs,U,z3.sm.seq (t3.seq r2),λl hl=>?_⟩;obtain⟨a1,a2⟩:=aCh (o:=.lst (dh xs lo hi)) z3 hl;exact k _ _ _ (s1.trans (s2.trans (s3.trans (cR hl _)))) (t1.trans (t3.trans a1)) a2 (by unfold Rv;exact⟨l,_,U,oU.of cA,a1.uw _ _ (t3.uw _ _ (vg lo hi r3))⟩)⟩
def aCp(h:XR K X e t f)(hl:XO K X lo tl fl)(hu:XO K X hi th fh):XN K X (.Subscript e (.Slice lo hi sx p2) pos) (tSl (aEE K) t tl th) (ao NU f fl fh):=⟨h.hk,PN (vh h.hk) h.pe hl.po hu.po,λσ H e d Q re q k=>by
 obtain⟨ds,lo,hi,q1,q2,q3,qi,rfl⟩:=QW q;refine h.ev σ H H e _ _ (Zn.self K H) re q1 λv H1 Z1 s1 t1 z1 rv=>hl.ev σ H1 e lo _ (re.same s1) q2 λH2 s2=>hu.ev σ H2 e hi _ (re.same (s1.trans s2)) q3 λH3 s3=>?_;have rv3:=(z1.sm.trans (s2.trans s3)).rv _ _ rv;unfold Rv at rv3;obtain⟨p,xs,rfl,r2,r3⟩:=rv3;refine⟨p,xs,U,r2,λl hl=>?_⟩;have Sq:=s1.trans (s2.trans s3);exact k _ _ (Sq.trans (cR hl _)) (vD Sq (.gR (qi.resolve_left (by decide)) (vg lo hi r3)) hl)⟩
def aCq(K:aG):R2:=λx y H Q=>∃l b xs zs,x=.ref l∧y=.ref b∧oU K H l xs∧oU K H b zs∧xs.length+zs.length≤sizeLine∧∀p,H p=sx→Q (.ref p) (upd H p (.lst (xs++zs)))
def aE5(hk:X.K=K):vC X (ED .Add) (aCq K):=by
 subst hk;intro aE s σ H x y v u Q I rx ry h;obtain⟨l,b,xs,zs,rfl,rfl,h1,h2,hz,q⟩:=h;cases rx;cases ry;obtain⟨af,r,pl,_⟩:=I.list h1;obtain⟨cK,r2,QD,_⟩:=I.list h2;obtain⟨⟨cl,dd,da,sl⟩,ho,hc,n,hd⟩:=pl.isList;obtain⟨⟨cl2,dd2,da2,sl2⟩,ho2,nB,n2,hd2⟩:=QD.isList;dsimp only at hc hd nB hd2;subst hc hd nB hd2;have ag:af.toArray.size+cK.toArray.size≤sizeLine:=by rw[D3,D3,←r.length,←r2.length];exact hz
 have ea:af.toArray++cK.toArray=(af++cK).toArray:=by simp
 refine concat_meets ⟨_,ho,U⟩ ⟨_,ho2,U⟩ noFill_list_add seq_list_add PySem.F.slot_list_add PySem.F.entry_list_add (PySem.F.args_list_add_2 _ _)
  (list_addW l b af.toArray cK.toArray n n2 dd dd2 sl sl2 ag) ⟨ho,ho2,?_⟩
 rw[ea];exact⟨.ref _,_,I.aJL (t':=s.toks) (r.append r2) (by rw[D1];exact hz),U,q _ I.fresh⟩
def eX(a b:D):Option D:=match a,b with
 | .int i,.int j=>NR (.int (i+j))
 | .lst x,.lst y=>if D.gR (x++y)=NU∧x.length+y.length≤100000 then NR (.lst (x++y))else sx
 | _,_=>sx
def eO.append:∀{ds es:List D} {xs ys:List V},eO K H ds xs→eO K H es ys→eO K H (ds++es) (xs++ys)
 | [],es,xs,ys,h,h'=>by unfold eO at h;subst h;exact h'
 | d::ds,es,xs,ys,h,h'=>by unfold eO at h;obtain⟨y,yt,rfl,h1,h2⟩:=h;rw[R1,R1];unfold eO;exact⟨y,_,U,h1,eO.append h2 h'⟩
def aE6:MN K (λx y H Q=>rI0 (λi j=>.int (i+j)) x y H Q∨aCq K x y H Q) eX:=λx y H a b d Q ra rb q k=>by
 unfold eX at q;split at q
 ·cases q;unfold Rv at ra rb;exact .inl ⟨_,_,ra,rb,k _ H (aW.refl _) (.jH U (by unfold Rv;rfl))⟩
 ·split at q
  ·rename_i c;cases q;unfold Rv at ra rb;obtain⟨p,xs,rfl,r2,r3⟩:=ra;obtain⟨p',cp,rfl,r2',r3'⟩:=rb;refine .inr ⟨p,p',xs,cp,U,U,r2,r2',Xl (by rw[r3.length,r3'.length];exact c.2),λl hl=>?_⟩;exact k _ _ (cR hl _) (vD (aW.refl _) (.gR c.1 (r3.append r3')) hl)
  ·cases q
 ·cases q
def cN(ha:XR K X a ta f)(hb:XR K X b tb g):XN K X (.BinOp a .Add b pos) (OD (λx y H Q=>rI0 (λi j=>.int (i+j)) x y H Q∨aCq K x y H Q) ta tb) (f2 eX f g):=Xm (aHm.or (aE5 ha.hk)) aE6 ha hb
def EvI(K:aG)(wi:TI)(fi:FA):Prop:=∀{N:Fp}(σ:St)(H Z:Hp)(e:DE)(ds:List D)(R:It→Hp→Prop),Zn K N Z H→yE K Z e σ→fi e=NR ds →
 (∀J H' Z' P vs,aW H H'→aW Z Z'→Zn K N Z' H'→JIs J P vs→(∀H2,aW Z' H2→P H2)→eO K Z' ds vs→R J H')→wi σ H R
structure XI(K:aG)(X:Cx)(tg iter:AK)(wi:TI)(fi:FA):Prop where
 hk:X.K=K
 pi:PI X tg iter wi
 ev:EvI K wi fi
def kO(f:FE):FA:=λe=>(f e).bind Ac
def aCr(K:aG)(t:TE):TI:=λσ H R=>aGg K t σ H R∨aJy K t σ H R
def jK(h:XR K X e t f):XI K X tg e (aCr K t) (kO f):=⟨h.hk,by
 have hk:=h.hk;subst hk;exact λaE s σ H R I q=>q.elim (uc h.pe aE s σ H R I) (aBJ h.pe aE s σ H R I),λσ H Z e ds R z re q k=>by
 unfold kO at q;obtain⟨d,q1,q2⟩:=aZ q;cases d with
 | lst es=>
  unfold Ac at q2;cases q2;refine .inl (h.ev σ H Z e _ _ z re q1 λv H1 Z1 s1 t1 z1 rv=>?_);unfold Rv at rv;obtain⟨p,xs,rfl,r2,r3⟩:=rv;exact⟨p,U,⟨xs,z1.sm.seq r2⟩,k _ H1 Z1 _ xs s1 t1 z1 Rh (λH2 s=>s.seq r2) r3⟩
 | tup es=>
  unfold Ac at q2;cases q2;refine .inr (h.ev σ H Z e _ _ z re q1 λv H1 Z1 s1 t1 z1 rv=>?_);unfold Rv at rv;obtain⟨p,xs,rfl,r2,r3⟩:=rv;exact⟨p,U,⟨xs,z1.sm.tup r2⟩,k _ H1 Z1 _ xs s1 t1 z1 aER (λH2 s=>s.tup r2) r3⟩
 | _=>unfold Ac at q2;cases q2⟩
def jL(lo:Int)(n:Nat):List D:=(D5 n).map λi:Nat=>D.int (lo+(i:Int))
def Le(lo:Int)(n:Nat):eO K H (jL lo n) ((D5 n).map λi:Nat=>V.int (lo+(i:Int))):=by
 unfold jL;refine eO.of (by simp) λi d x h1 h2=>?_;rw[C5]at h1 h2;cases q:(D5 n)[i]? with
 | none=>rw[q]at h1;cases h1
 | some j=>rw[q]at h1 h2;cases h1;cases h2;unfold Rv;rfl
def lim(i:Int):Bool:=decide (-100000≤i∧i≤100000)
def rA(fs:FA):FA:=λe=>(fs e).bind λds=>match ds with
 | [.int n]=>if lim n=NU then NR (jL 0 n.toNat)else sx
 | _=>sx
def QX(fs:FA):FA:=λe=>(fs e).bind λds=>match ds with
 | [.int i,.int j]=>if lim i=NU∧lim j=NU then NR (jL i (j-i).toNat)else sx
 | _=>sx
def DQ{i:Int}(h:lim i=NU):-100000≤i∧i≤100000:=of_decide_eq_true h
def Dj(hg:Gl X "range")(hm:X.mg "range"=sx)(ha:XA K X [a] tA fs)(hs:AJ [a] X.env=[(NV,AU a X.env)]:=by rfl):XI K X tg (.Call (.Name "range" p) [a] [] pos) (aBK tA) (rA fs):=⟨ha.hk,Wx hg hm ha.pa hs,λσ H Z e ds R z re q k=>by
 unfold rA at q;obtain⟨es,q1,q2⟩:=aZ q;split at q2
 ·rename_i n;split at q2
  ·rename_i hl;cases q2;have hl:=DQ hl;refine ha.ev σ H Z e _ _ z re q1 λvs H1 Z1 s1 t1 z1 rs=>?_;obtain⟨v,rfl,r⟩:=rW rs;unfold Rv at r;subst r;exact⟨n,U,by omega,by omega,k _ H1 Z1 _ _ s1 t1 z1 Kz (λ_ _=>True.intro) (Le 0 n.toNat)⟩
  ·cases q2
 ·cases q2⟩
def nZ(e:DE)(fr:List Nat):DE:=fr.map λi=>(e[i]?).getD sx
def vm{e:DE}{fr:List Nat}{x:V}(re:yE K H e σ)(r:Rv K H d x):yE K H (NR d::nZ e fr) (NR x::Vv σ fr):=λi d' h=>by
 cases i with
 | zero=>simp at h;subst h;exact⟨x,rfl,r⟩
 | succ i=>
  rw[R5]at h ⊢;unfold nZ at h;unfold Vv;rw[C5]at h ⊢;cases q:fr[i]? with
  | none=>rw[q]at h;cases h
  | some j=>
   rw[q]at h;have h:(e[j]?).getD sx=NR d':=E6 h;have h2:e[j]?=NR (NR d'):=by
    cases q2:e[j]? with
    | none=>rw[q2]at h;cases h
    | some o=>rw[q2]at h;rw[show o=NR d' from h]
   obtain⟨v,h3,h4⟩:=re j d' h2;refine⟨v,?_,h4⟩;show NR (σ.getD j sx)=_;rw[B7,h3];rfl
def pW(c:D→Option Bool)(el:D→Option D):List D→Option (List D)
 | []=>NR []
 | x::xs=>(c x).bind λb=>if b=NU then(el x).bind λy=>(pW c el xs).map (y::·)else pW c el xs
def eE(fi:FA)(fr:List Nat)(fc:FT)(fe:FE):FE:=λe=>(fi e).bind λxs=>if xs.length≤100000 then(pW (λx=>fc (NR x::nZ e fr)) (λx=>fe (NR x::nZ e fr)) xs).map D.lst else sx
def uJ{p:AF}(n:wN H p):Fq K H (upd H p o):=λa xs h=>h.upd n
def vo{fr:List Nat}(hi:EvI K wi fi)(hc:aj K tc fc)(he:Nq K te fe):Nq K (Rg wi 1 fr (iZ 0) tc te) (eE fi fr fc fe):=by
 intro σ H e d Q re q k;unfold eE at q;obtain⟨xs,q1,q⟩:=aZ q;split at q
 ·rename_i ag;obtain⟨ds,q2,rfl⟩:=kJ q;refine hi σ H H e xs _ (Zn.self K H) re q1 λJ H1 Z1 P vs s1 t1 z1 hJ hP bp=>?_;intro D0 hD;have hl:=bp.length;have hHD:H D0=sx:=s1.free hD;generalize og:(λx=>fc (NR x::nZ e fr))=cc at q2;generalize fS:(λx=>fe (NR x::nZ e fr))=el at q2;refine⟨λi m ys H2=>∃iP ds2 A,m=vs.length-i∧i≤vs.length∧ds=iP++ds2∧pW cc el (xs.drop i)=NR ds2∧aW H1 H2∧H2 D0=NR (.lst ys)∧eQ K H2 iP A ys∧(∀a,A a→H1 a=sx∧a≠D0)∧ys.length≤i,
   ⟨vs.length,[],ds,nil,by simp,L5 _,U,by simpa using q2,cR hD _,cA,by unfold eQ;exact⟨λ_ z=>z,U⟩,λ_ z=>z.elim,C9 _⟩,?_⟩
  rintro i m ys H2 ⟨iP,ds2,A,rfl,hi',hds,eC,s2,kg,ow,fr2,hyl⟩;obtain⟨j1,j2,j3⟩:=hJ i H2 (hP H2 (z1.sm.trans s2));refine⟨kg,?_⟩;by_cases dA:i<vs.length
  ·refine .inr ⟨j1 dA,λx H' y=>?_⟩;obtain⟨e1,ex⟩:=j2 x H' y;subst e1;have hx:=ex dA;have hxi:i<xs.length:=by omega
   have hxs:xs.drop i=xs[i]::xs.drop (i+1):=L8 hxi;obtain⟨x',fN,rx⟩:=bp.get (B6 hxi);rw[hx]at fN;cases fN;rw[hxs]at eC;unfold pW at eC;obtain⟨bb,c1,c2⟩:=aZ eC;show Kp 1 σ fr (NR x::Vv σ fr)∧_;refine⟨⟨by simp[blk],λj v hv=>?_⟩,?_⟩
   ·cases j with
    | zero=>simp[blk]at hv
    | succ j=>simpa[blk]using hv
   have rl:yE K H' (NR xs[i]::nZ e fr) (NR x::Vv σ fr):=vm (re.same (s1.trans s2)) ((z1.sm.trans s2).rv _ _ rx);refine hc _ H' _ bb _ rl (by rw[←og]at c1;exact c1) λH3 s3=>?_;have nE:=s3 _ _ kg;cases bb with
   | false=>rw[sv (by decide)]at c2 ⊢;exact⟨vs.length-(i+1),by omega,iP,ds2,A,U,by omega,hds,c2,s2.trans s3,nE,ow.same s3,fr2,by omega⟩
   | true=>
    rw[sk rfl]at c2 ⊢;obtain⟨dy,c3,c4⟩:=aZ c2;obtain⟨ds3,c5,rfl⟩:=kJ c4;refine he _ H3 _ dy _ (rl.same s3) (by rw[←fS]at c3;exact c3) λyv H4 s4 n4=>?_;have rq:=s4 _ _ nE;refine⟨rq,Nt (by omega),vs.length-(i+1),by omega,iP++[dy],ds3,?_⟩;obtain⟨B,oB,fB⟩:=n4;have hB:∀a,B a→H1 a=sx∧a≠D0:=λa qa=>⟨(s2.trans s3).free (fB a qa),λz=>by have q0:=fB a qa;rw[z,nE]at q0;cases q0⟩
    refine⟨gG A B,U,by omega,by rw[hds];simp,c5,λb o eb=>?_,cA,?_,λa qa=>qa.elim (fr2 a) (hB a),by rw[D1];simp;exact hyl⟩
    ·rw[bQ (iI eb hD)];exact(s2.trans (s3.trans s4)) b o eb
    ·have o4:=(ow.same s3).same s4;have ap:Apart A B:=λa qa qb=>by obtain⟨⟨u,eu⟩,_⟩:=eQ.cells _ _ _ (ow.same s3) a qa;rw[fB a qb]at eu;cases eu
     have all:eQ K H4 (iP++[dy]) (gG A B) (ys++[yv]):=cQ.mpr ((cQ.mp o4).snoc oB ap);exact eQ.frame (uJ (tZ rq)) _ _ _ all λa qa=>bQ (qa.elim (λz=>(fr2 a z).2) λz=>(hB a z).2)
  ·have ei:i=vs.length:=by omega
   subst ei;have:xs.drop vs.length=[]:=g8 (by omega);rw[this]at eC;unfold pW at eC;cases eC;rw[F0]at hds;subst hds;refine .inl ⟨j3 (C9 _),k _ H2 (s1.trans s2) ⟨gG (·=D0) A,?_,λa qa=>qa.elim (λz=>by cases z;exact hHD) λz=>s1.free (fr2 a z).1⟩⟩;unfold Ow;exact⟨D0,ys,A,U,kg,λz=>(fr2 D0 z).2 U,λ_=>Iff.rfl,ow⟩
 ·cases q
def gP:FT:=λ_=>NR NU
structure XTs(K:aG)(X:Cx)(ifs:List AK)(t:TT)(f:FT):Prop where
 pts:PTs X ifs t
 ev:aj K t f
def jC:XTs K X [] aJP gP:=⟨aEM,λσ H e b Q re q k=>by cases q;exact k H (aW.refl _)⟩
def Pq(h:XT K X c tc fc):XTs K X [c] tc fc:=⟨aEN h.pt,h.ev⟩
def jV{tg elt iter:AK}{ifs:List AK}{scope:BQ}{wi:TI}{fi:FA}{te:TE}{fe:FE}(N:List Str)(fr:List Nat)(cS:X.calm=NU)(B:lC X.env.scope scope X.N N 1 fr)(hi:XI K X tg iter wi fi)
 (hg:∀cl fp s H C,PG (jF X scope N cl fp s H C) tg (iZ 0)) (hc:∀cl fp s H C,XTs K (jF X scope N cl fp s H C) ifs tc fc) (he:∀cl fp s H C,XN K (jF X scope N cl fp s H C) elt te fe)
 (hs:∀x,BD iter X.env x=pure x:=by intro _;rfl):XN K X (.ListComp elt [⟨tg,iter,ifs,0⟩] scope pos) (Rg wi 1 fr (iZ 0) tc te) (eE fi fr fc fe):=
 ⟨hi.hk,uq N 1 fr cS B hi.pi hg (λcl fp s H C=>(hc cl fp s H C).pts) (λcl fp s H C=>(he cl fp s H C).pe) hs,
  vo hi.ev (hc [] [] X.s₀ X.H₀ 0).ev (he [] [] X.s₀ X.H₀ 0).ev⟩
def gW(K:aG)(n:Nat)(F:List D→Option D):Sp:=λvs H Q _=>∃ds d,ds.length=n∧eO K H ds vs∧F ds=NR d∧∀v H',aW H H'→Rp K H H' d v→Q v H'
def cJ(n:Nat)(F:List D→Option D)(fs:FA):FE:=λe=>(fs e).bind λds=>if ds.length=n then F ds else sx
def cC{x:Str}{k n:Nat}{F:List D→Option D}{p:Pos}(C:oF X.prog X.w X.K X.mg X.base x k n (gW K n F))(hr:lB k X.A)(hg:Gl X x)(ha:XA K X (e::es) tA fs)(cm:(x==("__debug__":Str))=NV:=by decide)
 (he:AJ (e::es) X.env=(NV,AU e X.env)::AJ es X.env:=by rfl) (cE:(Au pos (AJ es X.env)).any (·.1)=NV:=by rfl):XN K X (.Call (.Name x p) (e::es) [] pos) (Wz (gW K n F) [] E0 tA) (cJ n F fs):=
 ⟨ha.hk,aCd C hr hg ha.pa cm he cE,λσ H e d Q re q k=>by
  unfold cJ at q;obtain⟨ds,q1,q2⟩:=aZ q;split at q2
  ·rename_i hl;refine call_of (ha.ev σ H H e ds _ (Zn.self K H) re q1 λvs H1 Z1 s1 t1 z1 rs=>?_);exact⟨ds,d,hl,z1.sm.uw _ _ rs,q2,λv H2 s2 n=>k v H2 (s1.trans s2) (n.back s1)⟩
  ·cases q2⟩
end
inductive SD where
 | no | fro (d:D) | own (d:D) | inn (v:V) (d:D)
def SD.z:SD→Option D
 | .fro d=>NR d
 | .own d=>if d.jH=NU then NR d else sx
 | .inn _ d=>if d.jH=NU then NR d else sx
 | .no=>sx
def SD.r:SD→Option D
 | .fro d=>NR d
 | .own d=>NR d
 | .inn _ d=>NR d
 | .no=>sx
abbrev EN:=List SD
variable{aI:EN}
def zE(env:EN):DE:=env.map SD.z
def rE(env:EN):DE:=env.map SD.r
def gY(K:aG)(H Z:Hp):SD→Fp→Option V→Prop
 | .no,A,_=>None A
 | .fro d,A,y=>None A∧∃v,y=NR v∧Rv K Z d v
 | .own d,A,y=>∃v,y=NR v∧Ow K H d A v
 | .inn v d,A,y=>y=NR v∧Ow K H d A v
def Rel(K:aG)(B:Hp)(env:EN)(σ:St)(H:Hp):Prop:=∃A,fY (gY K H (out H A)) env A σ∧aW B (out H A)
section
variable{B' H' Z':Hp}{env:EN}{A:Fp}
def fY.all{α β:Type}{R:α→Fp→β→Prop}{Pr:AF→Prop}:∀{ds:List α} {A:Fp} {ys:List β},fY R ds A ys→(∀d B y,R d B y→∀a,B a→Pr a)→∀a,A a→Pr a
 | [],A,ys,h,_,a,q=>absurd q (h.1 a)
 | d::ds,A,ys,⟨y,yt,A1,A2,h1,h2,h3,h4,h5⟩,m,a,q=>((h3 a).mp q).elim (m _ _ _ h4 a) (fY.all h5 m a)
def gY.cells{s:SD}{y:Option V}(h:gY K H Z s A y):∀a,A a→oG H a:=by
 cases s with
 | no=>exact λa q=>absurd q (h a)
 | fro d=>exact λa q=>absurd q (h.1 a)
 | own d=>obtain⟨v,_,o⟩:=h;exact Ow.cells d A v o
 | inn v d=>exact Ow.cells d A v h.2
def iR(h:fY (gY K H Z) env A σ):∀a,A a→oG H a:=fY.all h λ_ _ _ q=>q.cells
def Rel.len(h:Rel K B env σ H):σ.length=env.length:=let ⟨_,s,_⟩:=h;s.len
def Rel.mono(h:Rel K B' env σ H)(s:aW B B'):Rel K B env σ H:=let ⟨A,a,b⟩:=h;⟨A,a,s.trans b⟩
def bT(s:aW H H')(h:∀a,A' a→A a∨H a=sx):aW (out H A) (out H' A'):=λb o e=>by
 obtain⟨e1,e2⟩:=bF.mp e;refine bF.mpr ⟨λq=>?_,s b o e2⟩;rcases h b q with q | q
 ·exact e1 q
 ·rw[q]at e2;cases e2
def gY.same{s:SD}{y:Option V}(h:gY K H Z s A y)(e:aW H H')(z:aW Z Z'):gY K H' Z' s A y:=by
 cases s with
 | no=>exact h
 | fro d=>obtain⟨h1,v,h2,h3⟩:=h;exact⟨h1,v,h2,z.rv _ _ h3⟩
 | own d=>obtain⟨v,h1,h2⟩:=h;exact⟨v,h1,h2.same e⟩
 | inn v d=>exact⟨h.1,h.2.same e⟩
def Rel.same(h:Rel K B env σ H)(s:aW H H'):Rel K B env σ H':=by obtain⟨A,a,b⟩:=h;have g:aW (out H A) (out H' A):=bT s λa q=>.inl q;exact⟨A,a.mono λe C z _ q=>q.same s g,b.trans g⟩
def Fz(h:fY (gY K H (out H A)) env A σ):Zn K A (out H A) H:=⟨jA H A,Ro λa q=>(iR h a q).2,λa q=>⟨by
 unfold out;rw[sk q],λz=>by obtain⟨⟨o,e⟩,_⟩:=iR h a q;rw[z]at e;cases e⟩⟩
def Rel.r(h:Rel K B env σ H):yE K H (rE env) σ:=λi d q=>by
 obtain⟨A,a,b⟩:=h;unfold rE at q;rw[C5]at q;cases e:env[i]? with
 | none=>rw[e]at q;cases q
 | some s=>
  rw[e]at q;obtain⟨y,A1,C,h1,h2,h3,h4,_⟩:=a.focus e;cases s with
  | no=>cases q
  | fro d0=>cases q;obtain⟨_,v,rfl,h5⟩:=h4;exact⟨v,h1,(jA H A).rv _ _ h5⟩
  | own d0=>cases q;obtain⟨v,rfl,h5⟩:=h4;exact⟨v,h1,Ow.rv _ _ _ h5⟩
  | inn v d0=>cases q;obtain⟨rfl,h5⟩:=h4;exact⟨v,h1,Ow.rv _ _ _ h5⟩
def aGz(a:fY (gY K H (out H A)) env A σ):yE K (out H A) (zE env) σ:=λi d q=>by
 unfold zE at q;rw[C5]at q;cases e:env[i]? with
 | none=>rw[e]at q;cases q
 | some s=>
  rw[e]at q;obtain⟨y,A1,C,h1,h2,h3,h4,_⟩:=a.focus e;cases s with
  | no=>cases q
  | fro d0=>cases q;obtain⟨_,v,rfl,h5⟩:=h4;exact⟨v,h1,h5⟩
  | own d0=>
   obtain⟨v,rfl,h5⟩:=h4;have q:(if d0.jH=NU then NR d0 else sx)=NR d:=E6 q;split at q
   ·rename_i im;cases q;exact⟨v,h1,(Ay _ v im (Ow.rv _ _ _ h5)).out (λ_ z=>z.elim) λx hx=>(iR a x hx).2⟩
   ·cases q
  | inn v d0=>
   obtain⟨rfl,h5⟩:=h4;have q:(if d0.jH=NU then NR d0 else sx)=NR d:=E6 q;split at q
   ·rename_i im;cases q;exact⟨v,h1,(Ay _ v im (Ow.rv _ _ _ h5)).out (λ_ z=>z.elim) λx hx=>(iR a x hx).2⟩
   ·cases q
def Rel.own(h:Rel K B env σ H)(hi:i<env.length)(s:aW H H')(n:Rp K H H' d v):Rel K B (env.set i (.own d)) (σ.set i (NR v)) H':=by obtain⟨A,a,b⟩:=h;obtain⟨N,o,f⟩:=n;have cl:=iR a;obtain⟨y,A1,C,h1,h2,h3,h4,k⟩:=a.focus (B6 hi);have g:aW (out H A) (out H' (gG N C)):=bT s λx q=>q.elim (λq=>.inr (f x q)) λq=>.inl ((h3 x).mpr (.inr q));refine⟨gG N C,k (gY K H' (out H' (gG N C))) (λe D z _ q=>q.same s g) (.own d) (NR v) N (λx q c=>?_) ⟨v,U,o⟩,b.trans g⟩;obtain⟨⟨u,e⟩,_⟩:=cl x ((h3 x).mpr (.inr c));rw[f x q]at e;cases e
def Il(a:fY (gY K H (out H A)) env A σ)(b:aW B (out H A))(hi:i<env.length)(s:aW H H')(t:aW (out H A) Z')(z:Zn K A Z' H')(r:Rv K Z' d v):Rel K B (env.set i (.fro d)) (σ.set i (NR v)) H':=by obtain⟨y,A1,C,h1,h2,h3,h4,k⟩:=a.focus (B6 hi);have hC:∀x,gG nil C x→A x:=λx q=>q.elim False.elim λq=>(h3 x).mpr (.inr q);have g:aW (out H A) (out H' (gG nil C)):=bT s λx q=>.inl (hC x q);have g2:aW Z' (out H' (gG nil C)):=λx o e=>bF.mpr ⟨λq=>(by rw[(z.no x (hC x q)).1]at e;cases e),z.sm x o e⟩;exact⟨gG nil C,k (gY K H' (out H' (gG nil C))) (λe D z _ q=>q.same s g) (.fro d) (NR v) nil (λx q c=>q) ⟨λ_ z=>z,v,U,g2.rv _ _ r⟩,b.trans g⟩
def aCs(env:EN)(j:Nat):EN:=match env[j]? with
 | some (.own d)=>env.set j (.fro d)
 | _=>env
def Al(js:List Nat)(env:EN):EN:=js.foldl aCs env
def set_same{α:Type}{l:List α}{x:α}(h:l[i]?=NR x):l.set i x=l:=by
 apply K5;intro j;rw[G8];by_cases c:i=j
 ·subst c;rw[sk U,h];split
  ·rfl
  ·rename_i q;rw[D9 (by omega)]at h;cases h
 ·rw[sv c]
def Rel.aCs(h:Rel K B env σ H):Rel K B (aCs env j) σ H:=by
 unfold L2.aCs;cases e:env[j]? with
 | none=>exact h
 | some s=>
  cases s with
  | no=>exact h
  | fro d=>exact h
  | inn v d=>exact h
  | own d=>
   obtain⟨A,a,b⟩:=h;have cl:=iR a;obtain⟨y,A1,C,h1,h2,h3,h4,k⟩:=a.focus e;obtain⟨v,rfl,o⟩:=h4;have g:aW (out H A) (out H (gG nil C)):=bT (aW.refl _) λx q=>q.elim False.elim λq=>.inl ((h3 x).mpr (.inr q));have:=k (gY K H (out H (gG nil C))) (λe D z _ q=>q.same (aW.refl _) g) (.fro d) (NR v) nil (λx q c=>q)
    ⟨λ_ z=>z,v,U,o.out (λx q c=>h2 x q (c.elim False.elim id)) λx q=>(cl x ((h3 x).mpr (.inr (q.elim False.elim id)))).2⟩
   rw[set_same h1]at this;exact⟨gG nil C,this,b.trans g⟩
def Rel.Al{js:List Nat}(h:Rel K B env σ H):Rel K B (Al js env) σ H:=by
 unfold L2.Al
 induction js generalizing env with
 | nil=>exact h
 | cons j js ih=>exact ih h.aCs
end
inductive SR where
 | next (env:EN) | ret (d:D) | brk (env:EN) | cont (env:EN) | bad | rete (d:D) (env:EN)
variable{Pr:SR→Prop}
def Lf(K:aG)(B:Hp)(E:Ends):SR→Prop
 | .next env=>∀σ H,Rel K B env σ H→E.nx σ H
 | .ret d=>∀v H A,aW B (out H A)→Ow K H d A v→E.rt v H
 | .brk env=>∀σ H,Rel K B env σ H→E.bk σ H
 | .cont env=>∀σ H,Rel K B env σ H→E.ct σ H
 | .bad=>False
 | .rete d env=>∀v σ H,Rel K B (env++[.own d]) (σ++[NR v]) H→E.rt v H
def Lf.mono{E:Ends}{r:SR}(h:Lf K B E r)(s:aW B B'):Lf K B' E r:=by
 cases r with
 | next env=>exact λσ H q=>h σ H (q.mono s)
 | ret d=>exact λv H A q=>h v H A (s.trans q)
 | brk env=>exact λσ H q=>h σ H (q.mono s)
 | cont env=>exact λσ H q=>h σ H (q.mono s)
 | bad=>exact h
 | rete d env=>exact λv σ H q=>h v σ H (q.mono s)
abbrev GS:=EN→SR
variable{g g1 g2 gb:GS}
def DS(K:aG)(t:TS)(g:GS):Prop:=∀(B:Hp)(E:Ends)(σ:St)(H:Hp)(env:EN),Rel K B env σ H→Lf K B E (g env)→t E σ H
def aJ1(K:aG)(B:Hp)(E:Ends)(σ:St):SR→Prop
 | .next env=>∀H,Rel K B env σ H→E.nx σ H
 | r=>Lf K B E r
def DSs(K:aG)(t:TS)(g:GS):Prop:=∀(B:Hp)(E:Ends)(σ:St)(H:Hp)(env:EN),Rel K B env σ H→aJ1 K B E σ (g env)→t E σ H
def DSs.ds{t:TS}(h:DSs K t g):DS K t g:=λB E σ H env r p=>h B E σ H env r (by
 cases q:g env with
 | next e=>rw[q]at p;exact λH' r'=>p σ H' r'
 | ret d=>rw[q]at p;exact p
 | brk e=>rw[q]at p;exact p
 | cont e=>rw[q]at p;exact p
 | bad=>rw[q]at p;exact p
 | rete d e=>rw[q]at p;exact p)
structure YS(K:aG)(X:Cx)(st:AO)(t:TS)(g:GS):Prop where
 ps:PS X st t
 ev:DS K t g
structure YB(K:aG)(X:Cx)(st:List AO)(t:TS)(g:GS):Prop where
 ps:NT X st t
 ev:DS K t g
section
variable{st:AO}{t u:TS}{a:AK}{pos:Pos}
def aY(g1 g2:GS):GS:=λenv=>match g1 env with
 | .next aI=>g2 aI
 | r=>r
def aH6(h1:DS K t g1)(h2:DS K u g2):DS K (aHi t u) (aY g1 g2):=λB E σ H env r p=>by
 unfold aY at p;refine h1 B {E with nx:=u E} σ H env r ?_;cases q:g1 env with
 | next aI=>rw[q]at p;exact λσ' H' r'=>h2 B E σ' H' aI r' p
 | ret d=>rw[q]at p;exact p
 | brk d=>rw[q]at p;exact p
 | cont d=>rw[q]at p;exact p
 | bad=>rw[q]at p;exact p
 | rete d e=>rw[q]at p;exact p
def fM:GS:=λenv=>.next env
def fZ:YB K X [] aGe fM:=⟨aEo,λB E σ H env r p=>p σ H r⟩
def aX(h:YS K X st t g):YB K X [st] t g:=⟨aEp h.ps,h.ev⟩
def aO(h:YS K X st t g1)(h2:YB K X nK u g2):YB K X (st::nK) (aHi t u) (aY g1 g2):=⟨aBD h.ps h2.ps,aH6 h.ev h2.ev⟩
def cT(i:Nat)(f:FE):GS:=λenv=>match f (rE env)with
 | some d=>if i<env.length then .next (env.set i (.own d))else .bad
 | none=>.bad
def aCt(h:Nq K te f):DS K (xX te (iZ i)) (cT i f):=λB E σ H env r p=>by
 unfold cT at p;split at p
 ·rename_i d q;split at p
  ·rename_i hi;exact h σ H (rE env) d _ r.r q λv H' s n=>p _ _ (r.own hi s n)
  ·exact p.elim
 ·exact p.elim
def bO{x:Str}(h:XN K X e te f)(hp:PE X e te→PS X (.Assign [.Name x bP] e pos) (xX te (iZ i))):YS K X (.Assign [.Name x bP] e pos) (xX te (iZ i)) (cT i f):=⟨hp h.pe,aCt h.ev⟩
def eY(f:FE):GS:=λenv=>match f (rE env)with
 | some d=>.ret d
 | none=>.bad
def bR(h:XN K X e te f):YS K X (.Return (NR e) pos) (aBE te) (eY f):=⟨Zy h.pe,λB E σ H env r p=>by
 unfold eY at p;split at p
 ·rename_i d q;refine h.ev σ H (rE env) d _ r.r q λv H' s ⟨N,o,fr⟩=>p v H' N (λx u ex=>?_) o;obtain⟨A,a,b⟩:=r;have h1:=(bF.mp (b x u ex)).2;exact bF.mpr ⟨λz=>(by rw[fr x z]at h1;cases h1),s x u h1⟩
 ·exact p.elim⟩
def Nv(i:Nat):GS:=λenv=>match env[i]? with
 | some (.own d)=>.ret d
 | some (.fro d)=>if d.jH=NU then .ret d else .bad
 | _=>.bad
def DR(h:PE X e (qM i)):YS K X (.Return (NR e) pos) (aBE (qM i)) (Nv i):=⟨Zy h,λB E σ H env r p=>by
 unfold Nv at p;obtain⟨A,a,b⟩:=r;split at p
 ·rename_i d q;obtain⟨y,A1,C,h1,h2,h3,h4,_⟩:=a.focus q;obtain⟨v,rfl,o⟩:=h4;exact⟨v,h1,p v H A1 (b.trans (bT (aW.refl _) λx z=>.inl ((h3 x).mpr (.inl z)))) o⟩
 ·rename_i d q;split at p
  ·rename_i im;obtain⟨y,A1,C,h1,h2,h3,h4,_⟩:=a.focus q;obtain⟨_,v,rfl,rv⟩:=h4;exact⟨v,h1,p v H nil (b.trans (bT (aW.refl _) λx z=>z.elim)) (Ay d v im ((jA H A).rv _ _ rv))⟩
  ·exact p.elim
 ·exact p.elim⟩
def zU(f:FE):GS:=λenv=>match f (rE env)with
 | some _=>.next env
 | none=>.bad
def aE8(h:Ko K te f):DS K (oV te) (zU f):=λB E σ H env r p=>by
 unfold zU at p;split at p
 ·rename_i d q;exact h σ H H (rE env) d _ (Zn.self K H) r.r q λv H' Z' s t z rv=>p _ _ (r.same s)
 ·exact p.elim
def qU(f:FT)(g1 g2:GS):GS:=λenv=>match f (rE env)with
 | some NU=>g1 env
 | some NV=>g2 env
 | none=>.bad
def iM{s1 s2:List AO}(hc:XT K X c tc fc)(h1:YB K X s1 t g1)(h2:YB K X s2 u g2):YS K X (.If c s1 s2 pos) (aJt tc t u) (qU fc g1 g2):=⟨aJu hc.pt h1.ps h2.ps,λB E σ H env r p=>by
 unfold qU at p;split at p
 ·rename_i q;refine hc.ev σ H (rE env) NU _ r.r q λH' s=>?_;rw[sk rfl];exact h1.ev B E σ H' env (r.same s) p
 ·rename_i q;refine hc.ev σ H (rE env) NV _ r.r q λH' s=>?_;rw[sv (by decide)];exact h2.ev B E σ H' env (r.same s) p
 ·exact p.elim⟩
def yK(i:Nat)(g:GS):List D→EN→SR
 | [],env=>.next env
 | x::xs,env=>if i<env.length then match g (env.set i (.fro x))with
  | .next aI=>yK i g xs aI
  | .cont aI=>yK i g xs aI
  | .brk aI=>.next aI
  | r=>r
  else .bad
def Wc(js:List Nat)(i:Nat)(fi:FA)(g:GS):GS:=λenv=>match fi (zE (Al js env))with
 | some xs=>yK i g xs (Al js env)
 | none=>.bad
def aH7{tb:TS}(hi:EvI K wi fi)(h:DS K tb g):DS K (Qo wi (iZ i) tb) (Wc js i fi g):=λB E σ H env r p=>by
 unfold Wc at p;have r':Rel K B (Al js env) σ H:=r.Al;generalize Al js env=En at r' p;split at p
 ·rename_i xs q;obtain⟨A,a,b⟩:=r';refine hi σ H (out H A) (zE En) xs _ (Fz a) (aGz a) q λJ H1 Z1 P vs s t z hJ hP bp=>?_;have hl:=bp.length;have g0:aW Z1 (out H1 A):=λx o e=>bF.mpr ⟨λqa=>(by rw[(z.no x qa).1]at e;cases e),z.sm x o e⟩;have sB:Rel K Z1 En σ H1:=⟨A,a.mono λe D y _ qq=>qq.same s (bT s λx q=>.inl q),g0⟩
  have bz:aW B Z1:=b.trans t;have p':=p.mono bz;refine Hw hJ (λk σ2 H2=>∃cU,Rel K Z1 cU σ2 H2∧Lf K Z1 E (yK i g (xs.drop k) cU)) ⟨En,sB,by simpa using p'⟩ (λk σ2 H2 _ ⟨cU,⟨A2,a2,b2⟩,_⟩=>hP H2 (b2.trans (jA H2 A2))) ?_ ?_
  ·rintro k x σ2 H2 hx ⟨cU,r2,p2⟩;have hk:k<xs.length:=by have:=D4.mp hx;obtain⟨h1,_⟩:=this;omega
   rw[L8 hk]at p2;unfold yK at p2;obtain⟨x',fN,rx⟩:=bp.get (B6 hk);rw[hx]at fN;cases fN;split at p2
   ·rename_i ag;obtain⟨A2,a2,b2⟩:=r2;have r3:Rel K Z1 (cU.set i (.fro xs[k])) (σ2.set i (NR x)) H2:=Il a2 b2 ag (aW.refl _) (aW.refl _) (Fz a2) (b2.rv _ _ rx);refine h Z1 _ _ H2 _ r3 ?_;split at p2
    ·rename_i aI q2;rw[q2];exact λσ' H' r'=>⟨aI,r',p2⟩
    ·rename_i aI q2;rw[q2];exact λσ' H' r'=>⟨aI,r',p2⟩
    ·rename_i aI q2;rw[q2];exact p2
    ·rename_i n1 n2 n3;cases q2:g (cU.set i (.fro xs[k]))with
     | next e=>exact absurd q2 (n1 e)
     | cont e=>exact absurd q2 (n2 e)
     | brk e=>exact absurd q2 (n3 e)
     | ret d=>rw[q2]at p2;exact p2
     | bad=>rw[q2]at p2;exact p2
     | rete d e=>rw[q2]at p2;exact p2
   ·exact p2.elim
  ·rintro σ2 H2 ⟨cU,r2,p2⟩;rw[hl,S8]at p2;exact p2 σ2 H2 r2
 ·exact p.elim
def rY(c:FT)(g:GS):Nat→EN→SR
 | 0,_=>.bad
 | n+1,env=>match c (rE env)with
  | some NU=>(match g env with
   | .next aI=>rY c g n aI
   | .cont aI=>rY c g n aI
   | .brk aI=>.next aI
   | r=>r)
  | some NV=>.next env
  | none=>.bad
def aCv{n:Nat}{tb:TS}(hc:aj K tc fc)(h:DS K tb g):DS K (az tc tb) (rY fc g n):=λB E σ H env r p=>by
 refine⟨λm σ2 H2=>∃cU,Rel K B cU σ2 H2∧Lf K B E (rY fc g m cU),⟨n,env,r,p⟩,?_⟩;rintro m σ2 H2 ⟨cU,r2,p2⟩;cases m with
 | zero=>exact p2.elim
 | succ m=>
  unfold rY at p2;split at p2
  ·rename_i q;refine hc σ2 H2 (rE cU) NU _ r2.r q λH3 s=>?_;rw[sk rfl];refine⟨λσ' H'=>∃aI,Rel K B aI σ' H'∧Lf K B E (rY fc g m aI),λσ' H' ⟨aI,a1,a2⟩=>⟨m,N2 m,aI,a1,a2⟩,?_⟩;refine h B _ σ2 H3 cU (r2.same s) ?_;split at p2
   ·rename_i aI q2;rw[q2];exact λσ' H' r'=>⟨aI,r',p2⟩
   ·rename_i aI q2;rw[q2];exact λσ' H' r'=>⟨aI,r',p2⟩
   ·rename_i aI q2;rw[q2];exact p2
   ·rename_i n1 n2 n3;cases q2:g cU with
    | next e=>exact absurd q2 (n1 e)
    | cont e=>exact absurd q2 (n2 e)
    | brk e=>exact absurd q2 (n3 e)
    | ret d=>rw[q2]at p2;exact p2
    | bad=>rw[q2]at p2;exact p2
    | rete d e=>rw[q2]at p2;exact p2
  ·rename_i q;refine hc σ2 H2 (rE cU) NV _ r2.r q λH3 s=>?_;rw[sv (by decide)];exact p2 σ2 H3 (r2.same s)
  ·exact p2.elim
def DW{tg iter:AK}{body:List AO}{wi:TI}{fi:FA}{tb:TS}{i:Nat}(js:List Nat)(hp:EC (AM X.prog X.w) X.A X.env X.xe)(DX:X.calm=NU)(hi:XI K X tg iter wi fi)(hg:PG X tg (iZ i))(hb:YB K X body tb g)
 (hs:∀x,BD iter X.env x=pure x:=by intro _;rfl):YS K X (.For tg iter body [] pos) (Qo wi (iZ i) tb) (Wc js i fi g):=⟨Qq hp DX hi.pi hg hb.ps hs,aH7 hi.ev hb.ev⟩
def aCw{body:List AO}{tb:TS}(n:Nat)(hp:EC (AM X.prog X.w) X.A X.env X.xe)(hc:XT K X c tc fc)(hb:YB K X body tb g):YS K X (.While c body [] pos) (az tc tb) (rY fc g n):=⟨aBH hp hc.pt hb.ps,aCv hc.ev hb.ev⟩
end
inductive Step where
 | ix (k:Nat) | key (k:Key) | fld (C:AF) (f:Str)
def kids:D→List D
 | .lst ds=>ds
 | .dk _ ds=>ds
 | .ins _ _ ds=>ds
 | _=>[]
def Im:D→List D→D
 | .lst _,ds=>.lst ds
 | .dk ks _,ds=>.dk ks ds
 | .ins C nm _,ds=>.ins C nm ds
 | d,_=>d
def Eo:Step→D→Option Nat
 | .ix k,.lst ds=>NR k
 | .key k,.dk ks _=>posK ks k
 | .fld C f,.ins C' nm _=>if C'=C then posK nm f else sx
 | _,_=>sx
def gJ:List Step→D→Option D
 | [],d=>NR d
 | s::p,d=>(Eo s d).bind λj=>((kids d)[j]?).bind (gJ p)
def fO:List Step→D→D→D
 | [],_,d'=>d'
 | s::p,d,d'=>match Eo s d with
  | some j=>(match (kids d)[j]? with
   | some c=>Im d ((kids d).set j (fO p c d'))
   | none=>d)
  | none=>d
def stepV(H:Hp)(s:Step)(v:V):Option V:=match v with
 | .ref a=>(match s,H a with
  | .ix k,NR (.lst xs)=>xs[k]?
  | .key k,NR (.dK kvs)=>xZ kvs k
  | .fld C f,NR (.ins C' _ fs)=>if C'=C then fs.lookup f else sx
  | _,_=>sx)
 | _=>sx
def Oq(H:Hp):List Step→V→Option V
 | [],v=>NR v
 | s::p,v=>(stepV H s v).bind (Oq H p)
def ir{H':Hp}(e:aW H H'){s:Step}{w:V}(h:stepV H s v=NR w):stepV H' s v=NR w:=by
 cases v with
 | ref a=>
  unfold stepV at h ⊢;dsimp only at h ⊢;cases q:H a with
  | none=>rw[q]at h;cases s<;>cases h
  | some o=>rw[e a o q];rw[q]at h;exact h
 | _=>unfold stepV at h;cases h
def Bd{H':Hp}(e:aW H H'):∀{p:List Step} {v w:V},Oq H p v=NR w→Oq H' p v=NR w
 | [],v,w,h=>h
 | s::p,v,w,h=>by unfold Oq at h ⊢;obtain⟨u,h1,h2⟩:=aZ h;rw[ir e h1];exact Bd e h2
def Ga{nm:List Str}{xs:List V}{f:Str}(h:nm.length=xs.length):(nm.zip xs).lookup f=(posK nm f).bind λj=>xs[j]?:=by
 induction nm generalizing xs with
 | nil=>unfold posK;rfl
 | cons a nm ih=>
  cases xs with
  | nil=>simp at h
  | cons x xs=>
   have ih:=ih (xs:=xs) (by simpa using h);unfold posK;rw[R7,V7];by_cases c:a=f
   ·subst c;simp
   ·have c2:(f==a)=NV:=by rw[beq_eq_false_iff_ne];exact λz=>c z.symm
    rw[c2,sv c,ih];cases posK nm f<;>rfl
def Ow.kids{A:Fp}{s:Step}(h:Ow K H d A v)(q:Eo s d=NR j):∃xs T Bt,(∀x,xs[j]?=NR x→stepV H s v=NR x)∧eQ K H (kids d) Bt xs∧Is A (gG T Bt)∧Apart T Bt ∧
 ∀H' bE B',bE.length=(kids d).length→eQ K H' bE B' xs→(∀a,T a→H' a=H a)→Apart T B'→Ow K H' (Im d bE) (gG T B') v:=by
 cases d with
 | lst ds=>
  unfold Ow at h;obtain⟨a,xs,B,rfl,h2,h3,h4,h5⟩:=h;cases s with
  | ix k=>
   unfold Eo at q;cases q;refine⟨xs,(·=a),B,λx hx=>?_,h5,h4,λx qx qb=>h3 (qx▸qb),λH' bE B' hl o f ap=>?_⟩
   ·unfold stepV;dsimp only;rw[h2];exact hx
   ·show Ow K H' (.lst bE) _ _;unfold Ow;exact⟨a,xs,B',U,(f a U).trans h2,ap a U,λ_=>Iff.rfl,o⟩
  | _=>unfold Eo at q;cases q
 | dk ks ds=>
  unfold Ow at h;obtain⟨a,xs,B,rfl,h2,cw,h3,h4,h5⟩:=h;cases s with
  | key k=>
   have q:posK ks k=NR j:=q;refine⟨xs,(·=a),B,λx hx=>?_,h5,h4,λx qx qb=>h3 (qx▸qb),λH' bE B' hl o f ap=>?_⟩
   ·unfold stepV;dsimp only;rw[h2];show xZ (ks.zip xs) k=_;rw[uH cw,q];exact hx
   ·show Ow K H' (.dk ks bE) _ _;unfold Ow;exact⟨a,xs,B',U,(f a U).trans h2,cw,ap a U,λ_=>Iff.rfl,o⟩
  | _=>unfold Eo at q;cases q
 | ins C nm ds=>
  unfold Ow at h;obtain⟨a,dx,xs,B,rfl,h2,cw,h3,mx,hE,h4,h5⟩:=h;cases s with
  | fld C0 k=>
   have q:(if C=C0 then posK nm k else sx)=NR j:=q;by_cases hc:C=C0
   rotate_left
   ·rw[sv hc]at q;cases q
   rw[sk hc]at q;refine⟨xs,(λx=>x=a∨x=dx),B,λx hx=>?_,h5,h4,λx qx qb=>qx.elim (λz=>mx (z▸qb)) λz=>hE (z▸qb),λH' bE B' hl o f ap=>?_⟩
   ·unfold stepV;dsimp only;rw[h2];show (if C=C0 then(nm.zip xs).lookup k else sx)=_;rw[sk hc,Ga h3,q];exact hx
   ·show Ow K H' (.ins C nm bE) _ _;unfold Ow;exact⟨a,dx,xs,B',U,(f a (.inl U)).trans h2,(f dx (.inr U)).trans cw,h3,ap a (.inl U),ap dx (.inr U),λ_=>Iff.rfl,o⟩
  | _=>unfold Eo at q;cases q
 | _=>cases s<;>(unfold Eo at q;cases q)
theorem Ow.at:∀{p:List Step} {d d1:D} {A:Fp} {v:V},Ow K H d A v→gJ p d=NR d1→∃w A1 C,Oq H p v=NR w∧Apart A1 C∧Is A (gG A1 C)∧Ow K H d1 A1 w ∧
 ∀H' d' A',Apart A' C→(∀a,C a→H' a=H a)→Fq K H H'→Ow K H' d' A' w→Ow K H' (fO p d d') (gG A' C) v
 | [],d,d1,A,v,h,q=>by
  unfold gJ at q;cases q;exact⟨v,A,nil,U,λ_ _ z=>z,λx=>⟨.inl,λz=>z.elim id False.elim⟩,h,λH' d' A' _ _ _ o=>o.congr λx=>⟨.inl,λz=>z.elim id False.elim⟩⟩
 | s::p,d,d1,A,v,h,q=>by
  unfold gJ at q;obtain⟨j,q1,q2⟩:=aZ q;obtain⟨c,q3,q4⟩:=aZ q2;obtain⟨xs,T,Bt,k1,k2,k3,k4,k5⟩:=h.kids q1;obtain⟨y,B1,C1,f1,f2,f3,f4,f5⟩:=(cQ.mp k2).focus q3;obtain⟨w,A1,C2,g1,g2,g3,g4,g5⟩:=Ow.at f4 q4;refine⟨w,A1,gG T (gG C1 C2),?_,?_,?_,g4,λH' d' A' ap fr tk o=>?_⟩
  ·unfold Oq
   rw[k1 y f1];exact g1
  ·intro x qx qc
   have b1:B1 x:=(g3 x).mpr (.inl qx);rcases qc with qc | qc | qc
   ·exact k4 x qc ((f3 x).mpr (.inl b1))
   ·exact f2 x b1 qc
   ·exact g2 x qx qc
  ·intro x
   rw[k3 x];constructor
   ·rintro(z | z)
    ·exact .inr (.inl z)
    ·rcases(f3 x).mp z with z | z
     ·rcases(g3 x).mp z with z | z
      ·exact .inl z
      ·exact .inr (.inr (.inr z))
     ·exact .inr (.inr (.inl z))
   ·rintro(z | z | z | z)
    ·exact .inr ((f3 x).mpr (.inl ((g3 x).mpr (.inl z))))
    ·exact .inl z
    ·exact .inr ((f3 x).mpr (.inr z))
    ·exact .inr ((f3 x).mpr (.inl ((g3 x).mpr (.inr z))))
  ·have o1:Ow K H' (fO p c d') (gG A' C2) y:=g5 H' d' A' (λx a b=>ap x a (.inr (.inr b))) (λa z=>fr a (.inr (.inr z))) tk o
   have ap1:Apart (gG A' C2) C1:=λx a b=>a.elim (λz=>ap x z (.inr (.inl b))) λz=>f2 x ((g3 x).mpr (.inr z)) b;have o2:=f5 (Ow K H') (λe B z hb qq=>Ow.frame tk e B z qq λa za=>fr a (.inr (.inl (hb a za)))) (fO p c d') y (gG A' C2) ap1 o1;rw[set_same f1]at o2;have o3:=k5 H' ((L2.kids d).set j (fO p c d')) _ (by rw[J5]) (cQ.mpr o2) (λa z=>fr a (.inl z)) (λx a b=>by
    rcases b with (b | b) | b
    ·exact ap x b (.inl a)
    ·exact k4 x a ((f3 x).mpr (.inl ((g3 x).mpr (.inr b))))
    ·exact k4 x a ((f3 x).mpr (.inr b)))
   have e:fO (s::p) d d'=Im d ((L2.kids d).set j (fO p c d')):=by show (match Eo s d with | some j=>_ | none=>_)=_;rw[q1];show (match (L2.kids d)[j]? with | some c=>_ | none=>_)=_;rw[q3]
   rw[e];refine o3.congr λx=>?_;show (T x∨(A' x∨C2 x)∨C1 x)↔(A' x∨T x∨C1 x∨C2 x)
   constructor
   ·rintro(z | (z | z) | z)
    ·exact .inr (.inl z)
    ·exact .inl z
    ·exact .inr (.inr (.inr z))
    ·exact .inr (.inr (.inl z))
   ·rintro(z | z | z | z)
    ·exact .inr (.inl (.inl z))
    ·exact .inl z
    ·exact .inr (.inr z)
    ·exact .inr (.inl (.inr z))
section
variable{env:EN}
def Rel.at{p:List Step}(h:Rel K B env σ H)(e:env[i]?=NR (.own d0))(q:gJ p d0=NR d):∃v0 w A1 C,σ[i]?=NR (NR v0)∧Oq H p v0=NR w∧Ow K H d A1 w∧Apart A1 C∧(∀a,C a→oG H a) ∧
 ∀H' d' A',Apart A' C→(∀a,C a→H' a=H a)→Fq K H H'→Ow K H' d' A' w→aW (out H (gG A1 C)) (out H' (gG A' C))→Rel K B (env.set i (.own (fO p d0 d'))) σ H':=by
 obtain⟨A,a,b⟩:=h;have cl:=iR a;obtain⟨y,A1,C,h1,h2,h3,h4,k⟩:=a.focus e;obtain⟨v0,rfl,o⟩:=h4;obtain⟨w,B1,C1,g1,g2,g3,g4,g5⟩:=o.at q;refine⟨v0,w,B1,gG C1 C,h1,g1,g4,λx z1 z2=>?_,λx z=>?_,λH' d' A' ap fr tk o' sm=>?_⟩
 ·exact z2.elim (g2 x z1) (h2 x ((g3 x).mpr (.inl z1)))
 ·exact cl x ((h3 x).mpr (z.elim (λz=>.inl ((g3 x).mpr (.inr z))) .inr))
 ·have o2:=g5 H' d' A' (λx z1 z2=>ap x z1 (.inl z2)) (λx z=>fr x (.inl z)) tk o'
  have ap2:Apart (gG A' C1) C:=λx z1 z2=>z1.elim (λz=>ap x z (.inr z2)) λz=>h2 x ((g3 x).mpr (.inr z)) z2;have hA:Is A (gG B1 (gG C1 C)):=λx=>by
   rw[h3 x];constructor
   ·rintro(z | z)
    ·exact((g3 x).mp z).elim .inl λz=>.inr (.inl z)
    ·exact .inr (.inr z)
   ·rintro(z | z | z)
    ·exact .inl ((g3 x).mpr (.inl z))
    ·exact .inl ((g3 x).mpr (.inr z))
    ·exact .inr z
  have g:aW (out H A) (out H' (gG (gG A' C1) C)):=λx u ex=>by obtain⟨e1,e2⟩:=bF.mp ex;have:=sm x u (bF.mpr ⟨λz=>e1 ((hA x).mpr z),e2⟩);obtain⟨e3,e4⟩:=bF.mp this;exact bF.mpr ⟨λz=>e3 (z.elim (λz=>z.elim .inl λz=>.inr (.inl z)) λz=>.inr (.inr z)),e4⟩
  have s:=k (gY K H' (out H' (gG (gG A' C1) C))) (λs D z hb qq=>by
   cases s with
   | no=>exact qq
   | fro d=>obtain⟨q1,v,q2,q3⟩:=qq;exact⟨q1,v,q2,g.rv _ _ q3⟩
   | inn v d=>exact⟨qq.1,Ow.frame tk _ _ _ qq.2 λx zx=>fr x (.inr (hb x zx))⟩
   | own d=>obtain⟨v,q1,q2⟩:=qq;exact⟨v,q1,Ow.frame tk _ _ _ q2 λx zx=>fr x (.inr (hb x zx))⟩) (.own (fO p d0 d')) (NR v0) (gG A' C1) ap2 ⟨v0,U,o2⟩
  rw[set_same h1]at s;exact⟨_,s,b.trans g⟩
def Rel.DY{p:List Step}{ds:List D}(h:Rel K B env σ H)(e:env[i]?=NR (.own d0))(q:gJ p d0=NR (.lst ds)):∃v0 a xs Bs,σ[i]?=NR (NR v0)∧Oq H p v0=NR (.ref a)∧H a=NR (.lst xs)∧¬Bs a∧eQ K H ds Bs xs ∧
 ∀H2 bE cp Bn,aW H H2→eQ K H2 bE Bn cp→(∀b,Bn b→Bs b∨H b=sx)→Rel K B (env.set i (.own (fO p d0 (.lst bE)))) σ (upd H2 a (.lst cp)):=by
 obtain⟨v0,w,A1,C,h1,h2,h3,h4,h5,h6⟩:=h.at e q;unfold Ow at h3;obtain⟨a,xs,Bs,rfl,o2,o3,o4,o5⟩:=h3;refine⟨v0,a,xs,Bs,h1,h2,o2,o3,o5,λH2 bE cp Bn s o hb=>?_⟩;have kP:¬Bn a:=λz=>(hb a z).elim o3 λz=>by rw[o2]at z;cases z
 have hC:∀x,C x→¬x=a:=λx z y=>h4 x ((o4 x).mpr (.inl y)) z;have Wd:H2 a=NR (.lst xs):=s a _ o2;refine h6 _ (.lst bE) (gG (·=a) Bn) (λx z1 z2=>?_) (λx z=>?_) (s.tk.trans (uJ (tZ Wd))) ?_ (λx u ex=>?_)
 ·rcases z1 with z1 | z1
  ·exact hC x z2 z1
  ·rcases hb x z1 with z | z
   ·exact h4 x ((o4 x).mpr (.inr z)) z2
   ·obtain⟨⟨u,eu⟩,_⟩:=h5 x z2
    rw[z]at eu;cases eu
 ·obtain⟨⟨u,eu⟩,_⟩:=h5 x z
  rw[bQ (hC x z),eu,s x u eu]
 ·unfold Ow
  refine⟨a,cp,Bn,U,cA,kP,λ_=>Iff.rfl,eQ.frame (uJ (tZ Wd)) _ _ _ o λx zx=>bQ λy=>kP (y▸zx)⟩
 ·obtain⟨e1,e2⟩:=bF.mp ex
  have na:x≠a:=λy=>e1 (.inl ((o4 x).mpr (.inl y)));refine bF.mpr ⟨λz=>?_,by rw[bQ na];exact s x u e2⟩;rcases z with (z | z) | z
  ·exact na z
  ·rcases hb x z with z | z
   ·exact e1 (.inl ((o4 x).mpr (.inr z)))
   ·rw[z]at e2;cases e2
  ·exact e1 (.inr z)
def Rel.aLL{p:List Step}{ds:List D}(h:Rel K B env σ H)(e:env[i]?=NR (.own d0))(q:gJ p d0=NR (.dk ks ds)):∃v0 a xs Bs,σ[i]?=NR (NR v0)∧Oq H p v0=NR (.ref a)∧H a=NR (.dK (ks.zip xs))∧ks.length=xs.length∧¬Bs a∧eQ K H ds Bs xs ∧
 ∀H2 kC bE cp Bn,aW H H2→kC.length=cp.length→eQ K H2 bE Bn cp→(∀b,Bn b→Bs b∨H b=sx)→Rel K B (env.set i (.own (fO p d0 (.dk kC bE)))) σ (upd H2 a (.dK (kC.zip cp))):=by
 obtain⟨v0,w,A1,C,h1,h2,h3,h4,h5,h6⟩:=h.at e q;unfold Ow at h3;obtain⟨a,xs,Bs,rfl,o2,kx,o3,o4,o5⟩:=h3;refine⟨v0,a,xs,Bs,h1,h2,o2,kx,o3,o5,λH2 kC bE cp Bn s hl o hb=>?_⟩;have kP:¬Bn a:=λz=>(hb a z).elim o3 λz=>by rw[o2]at z;cases z
 have hC:∀x,C x→¬x=a:=λx z y=>h4 x ((o4 x).mpr (.inl y)) z;have Wd:H2 a=NR (.dK (ks.zip xs)):=s a _ o2;refine h6 _ (.dk kC bE) (gG (·=a) Bn) (λx z1 z2=>?_) (λx z=>?_) (s.tk.trans (uJ (Rm Wd))) ?_ (λx u ex=>?_)
 ·rcases z1 with z1 | z1
  ·exact hC x z2 z1
  ·rcases hb x z1 with z | z
   ·exact h4 x ((o4 x).mpr (.inr z)) z2
   ·obtain⟨⟨u,eu⟩,_⟩:=h5 x z2
    rw[z]at eu;cases eu
 ·obtain⟨⟨u,eu⟩,_⟩:=h5 x z
  rw[bQ (hC x z),eu,s x u eu]
 ·unfold Ow
  refine⟨a,cp,Bn,U,cA,hl,kP,λ_=>Iff.rfl,eQ.frame (uJ (Rm Wd)) _ _ _ o λx zx=>bQ λy=>kP (y▸zx)⟩
 ·obtain⟨e1,e2⟩:=bF.mp ex
  have na:x≠a:=λy=>e1 (.inl ((o4 x).mpr (.inl y)));refine bF.mpr ⟨λz=>?_,by rw[bQ na];exact s x u e2⟩;rcases z with (z | z) | z
  ·exact na z
  ·rcases hb x z with z | z
   ·exact e1 (.inl ((o4 x).mpr (.inr z)))
   ·rw[z]at e2;cases e2
  ·exact e1 (.inr z)
end
abbrev FP:=DE→Option (List Step)
variable{π:FP}
def EvP(K:aG)(t:TE)(i:Nat)(π:FP):Prop:=∀(σ:St)(H:Hp)(e:DE)(v0:V)(p:List Step)(v:V)(Q:VK),yE K H e σ→σ[i]?=NR (NR v0)→π e=NR p→Oq H p v0=NR v→(∀H',aW H H'→Q v H')→t σ H Q
structure XP(K:aG)(X:Cx)(e:AK)(t:TE)(i:Nat)(π:FP):Prop where
 hk:X.K=K
 pe:PE X e t
 ev:EvP K t i π
theorem Ss{s:Step}:∀{p:List Step} {v0 v:V},Oq H (p++[s]) v0=NR v→∃w,Oq H p v0=NR w∧stepV H s w=NR v
 | [],v0,v,h=>by
  rw[d9]at h;unfold Oq at h;obtain⟨w,h1,h2⟩:=aZ h;unfold Oq at h2;cases h2;exact⟨v0,U,h1⟩
 | s'::p,v0,v,h=>by rw[R1]at h;unfold Oq at h;obtain⟨u,h1,h2⟩:=aZ h;obtain⟨w,h3,h4⟩:=Ss h2;refine⟨w,?_,h4⟩;unfold Oq;rw[h1];exact h3
def aCy{w:V}(h:stepV H (.ix k) w=NR v):∃a xs,w=.ref a∧H a=NR (.lst xs)∧xs[k]?=NR v:=by
 cases w with
 | ref a=>
  unfold stepV at h;dsimp only at h;cases q:H a with
  | none=>rw[q]at h;cases h
  | some o=>
   rw[q]at h;cases o with
   | lst xs=>exact⟨a,xs,U,q,h⟩
   | _=>cases h
 | _=>unfold stepV at h;cases h
def dC:FP:=λ_=>NR []
def EY(π:FP)(g:FE):FP:=λe=>(π e).bind λp=>(g e).bind λd=>match d with
 | .int k=>if 0≤k then NR (p++[.ix k.toNat])else sx
 | _=>sx
section
variable{a:AK}{es:List AK}{g:FE}{fs:FA}{pos:Pos}{st:AO}
def iT(h:PE X e (qM i))(hk:X.K=K:=by rfl):XP K X e (qM i) i dC:=⟨hk,h,λσ H e v0 p v Q re h1 h2 h3 k=>by
 cases h2;unfold Oq at h3;cases h3;exact⟨v0,h1,k H (aW.refl _)⟩⟩
def Su(h:XP K X a ta i π)(hb:XR K X b tb g)(hs:BW b):XP K X (.Subscript a b pos) (OD (rIx K) ta tb) i (EY π g):=⟨h.hk,aGk (aGt h.hk) h.pe hb.pe hs,λσ H e v0 p v Q re h1 h2 h3 k=>by
 unfold EY at h2;obtain⟨p0,q1,q2⟩:=aZ h2;obtain⟨d,q3,q4⟩:=aZ q2;split at q4
 ·rename_i n;split at q4
  ·rename_i hn;cases q4;obtain⟨w,w1,w2⟩:=Ss h3;obtain⟨ad,xs,rfl,w3,w4⟩:=aCy w2;refine h.ev σ H e v0 p0 _ _ re h1 q1 w1 λH1 s1=>hb.ev σ H1 H1 e _ _ (Zn.self K H1) (re.same s1) q3 λy H2 Z2 s2 t2 z2 ry=>?_;unfold Rv at ry;exact .inl ⟨ad,xs,n,v,U,ry,oU.of (s2 _ _ (s1 _ _ w3)),aLD hn w4,k H2 (s1.trans s2)⟩
  ·cases q4
 ·cases q4⟩
def vA(i:Nat)(π:FP)(f:FE):GS:=λenv=>match env[i]?,π (rE env),f (rE env)with
 | some (.own d0),NR p,NR d=>(match gJ p d0 with
  | some (.lst ds)=>if ds.length<100000 then .next (env.set i (.own (fO p d0 (.lst (ds++[d])))))else .bad
  | _=>.bad)
 | _,_,_=>.bad
def FJ{H1:Hp}{A:Fp}{ds:List D}{xs:List V}{N:Fp}(o:eQ K H ds A xs)(fr:∀a,N a→H a=sx):Apart A N:=λx q1 q2=>by obtain⟨⟨u,eu⟩,_⟩:=eQ.cells _ _ _ o x q1;rw[fr x q2]at eu;cases eu
def aCz(h:EvP K ta i π)(he:Nq K te f):DSs K (oV (Qx K "list" pC ta (dF te oX))) (vA i π f):=λB E σ H env r p=>by
 unfold vA at p;split at p
 ·rename_i d0 pp d q1 q2 q3;split at p
  ·rename_i ds q4;split at p
   ·rename_i hl;obtain⟨v0,a,xs,Bs,k1,k2,k3,k4,k5,k6⟩:=r.DY q1 q4;refine h σ H (rE env) v0 pp _ _ r.r k1 q2 k2 λH1 s1=>⟨.inl ⟨U,xs,oU.of (s1 _ _ k3)⟩,?_⟩
    refine he σ H1 (rE env) d _ (r.r.same s1) q3 λy H2 s2 n=>?_;obtain⟨N,o,fr⟩:=n.back s1;have gL:=s1.trans s2;refine⟨a,xs,y,U,U,gL _ _ k3,Nt (by rw[(eQ.rv _ _ _ k5).length];omega),p _ ?_⟩;exact k6 H2 (ds++[d]) (xs++[y]) (gG Bs N) gL (cQ.mpr ((cQ.mp (k5.same gL)).snoc o (FJ (H1:=H) k5 fr))) λb z=>z.imp id (fr b)
   ·exact p.elim
  ·exact p.elim
 ·exact p.elim
def Sv(h:XP K X a ta i π)(he:XN K X e te f)(hp:PE X a ta→PE X e te→PS X (.Expr (.Call (.Attribute a m ah) [e] [] ay) pos) (oV (Qx K "list" pC ta (dF te oX)))):YS K X (.Expr (.Call (.Attribute a m ah) [e] [] ay) pos) (oV (Qx K "list" pC ta (dF te oX))) (vA i π f):=⟨hp h.pe he.pe,(aCz h.ev he.ev).ds⟩
def wU(i:Nat)(π:FP)(g f:FE):GS:=λenv=>match env[i]?,π (rE env),g (rE env),f (rE env)with
 | some (.own d0),NR p,NR (.int k),NR d=>(match gJ p d0 with
  | some (.lst ds)=>(match ZW ds.length k with
   | some j=>.next (env.set i (.own (fO p d0 (.lst (ds.set j d)))))
   | none=>.bad)
  | _=>.bad)
 | _,_,_,_=>.bad
def aH8{n:Nat}{k:Int}(h:ZW n k=NR j):j<n:=by
 unfold ZW at h;split at h
 ·split at h
  ·cases h;omega
  ·cases h
 ·split at h
  ·cases h;omega
  ·cases h
def vp(h:EvP K ta i π)(hx:Ko K tb g)(he:Nq K te f):DSs K (xX te (aAd ta tb Xe)) (wU i π g f):=λB E σ H env r p=>by
 unfold wU at p;split at p
 ·rename_i d0 pp k d q1 q2 q3 nL;split at p
  ·rename_i ds q4;split at p
   ·rename_i j q5;obtain⟨v0,a,xs,Bs,k1,k2,k3,k4,k5,k6⟩:=r.DY q1 q4;refine he σ H (rE env) d _ r.r nL λy H1 s1 n=>?_;refine h σ H1 (rE env) v0 pp _ _ (r.r.same s1) k1 q2 (Bd s1 k2) λH2 s2=>hx σ H2 H2 (rE env) _ _ (Zn.self K H2) (r.r.same (s1.trans s2)) q3 λy' H3 Z3 s3 t3 z3 ry=>?_;unfold Rv at ry;have Sq:=s1.trans (s2.trans s3);obtain⟨N,o,fr⟩:=n.same (s2.trans s3);have ag:=(eQ.rv _ _ _ k5).length;refine⟨a,xs,k,j,U,ry,Sq _ _ k3,by rw[ag];exact q5,p _ ?_⟩;obtain⟨y0,A1,C,f1,f2,f3,f4,f5⟩:=(cQ.mp (k5.same Sq)).focus (B6 (aH8 q5));have ap:Apart N C:=λx q1 q2=>FJ (H1:=H) k5 fr x ((f3 x).mpr (.inr q2)) q1;exact k6 H3 (ds.set j d) (xs.set j y) (gG N C) Sq (cQ.mpr (f5 (Ow K H3) (λ_ _ _ _ qq=>qq) d y N ap o)) λb z=>z.elim (λz=>.inr (fr b z)) λz=>.inl ((f3 b).mpr (.inr z))
   ·exact p.elim
  ·exact p.elim
 ·exact p.elim
def vq(h:XP K X a ta i π)(hx:XR K X b tb g)(he:XN K X e te f)(hp:PE X a ta→PE X b tb→PE X e te→PS X (.Assign [.Subscript a b bP] e pos) (xX te (aAd ta tb Xe))):YS K X (.Assign [.Subscript a b bP] e pos) (xX te (aAd ta tb Xe)) (wU i π g f):=⟨hp h.pe hx.pe he.pe,(vp h.ev hx.ev he.ev).ds⟩
def sX(i:Nat)(π:FP)(g f:FE):GS:=λenv=>match env[i]?,π (rE env),g (rE env),f (rE env)with
 | some (.own d0),NR p,NR k,NR d=>(match gJ p d0,Wa k with
  | some (.dk ks ds),NR k=>if d.jH=NU∧ks.length<100000 then .next (env.set i (.own (fO p d0 (.dk (mH ks k) (putD ks ds k d)))))else .bad
  | _,_=>.bad)
 | _,_,_,_=>.bad
theorem QZ(o:Ow K H d nil v)(k:Key):∀{ks:List Key} {ds:List D} {A:Fp} {xs:List V},ks.length=xs.length→eQ K H ds A xs→∃A',(∀x,A' x→A x)∧eQ K H (R9 (λk' d'=>if k'=k then d else d') ks ds) A' (R9 (λk' d'=>if k'=k then v else d') ks xs)
 | [],ds,A,xs,hl,h=>by
  cases xs with
  | nil=>exact⟨nil,λ_ z=>z.elim,by rw[S0,S0];unfold eQ;exact⟨λ_ z=>z,U⟩⟩
  | cons x xs=>simp at hl
 | k0::ks,[],A,xs,hl,h=>by unfold eQ at h;rw[h.2]at hl;simp at hl
 | k0::ks,d0::ds,A,xs,hl,h=>by
  unfold eQ at h;obtain⟨y,yt,A1,A2,rfl,h2,h3,h4,h5⟩:=h;obtain⟨A',a1,a2⟩:=QZ o k (by simpa using hl) h5;by_cases c:k0=k
  ·refine⟨A',λx q=>(h3 x).mpr (.inr (a1 x q)),?_⟩;rw[K1,K1,sk c,sk c];unfold eQ;exact⟨v,_,nil,A',U,λ_ z=>z.elim,λx=>⟨.inr,λz=>z.elim False.elim id⟩,o,a2⟩
  ·refine⟨gG A1 A',λx q=>(h3 x).mpr (q.imp id (a1 x)),?_⟩;rw[K1,K1,sv c,sv c];unfold eQ;exact⟨y,_,A1,A',U,λx z1 z2=>h2 x z1 (a1 x z2),λ_=>Iff.rfl,h4,a2⟩
def vy(h:EvP K ta i π)(hx:Ko K tb g)(he:Ko K te f):DSs K (Hv ta tb te) (sX i π g f):=λB E σ H env r p=>by
 unfold sX at p;split at p
 ·rename_i d0 pp kd d q1 q2 q3 nL;split at p
  ·rename_i ks ds k q4 q5;split at p
   ·rename_i hc;obtain⟨v0,a,xs,Bs,k1,k2,k3,ki,k4,k5,k6⟩:=r.aLL q1 q4;refine he σ H H (rE env) d _ (Zn.self K H) r.r nL λy H1 Z1 s1 t1 z1 ry=>?_;refine h σ H1 (rE env) v0 pp _ _ (r.r.same s1) k1 q2 (Bd s1 k2) λH2 s2=>hx σ H2 H2 (rE env) _ _ (Zn.self K H2) (r.r.same (s1.trans s2)) q3 λy' H3 Z3 s3 t3 z3 ry'=>?_;have Sq:=s1.trans (s2.trans s3);have o:Ow K H3 d nil y:=Ay d y hc.1 ((z1.sm.trans (s2.trans s3)).rv _ _ ry);have ek:=Pn q5 (z3.sm.rv _ _ ry');refine⟨a,_,U,.inl ⟨ks.zip xs,k,Sq _ _ k3,ek,Nt (by rw[T9];omega),U⟩,p _ ?_⟩;rw[QL ki];have sC:=k5.same Sq;have hl3:=(eQ.rv _ _ _ k5).length;by_cases c:(posK ks k).isSome=NU
    ·obtain⟨A',a1,a2⟩:=QZ o k ki sC;refine k6 H3 (mH ks k) (putD ks ds k d) (putD ks xs k y) A' Sq (wQ ki) ?_ λb z=>.inl (a1 b z);unfold putD;rw[sk c,sk c];exact a2
    ·refine k6 H3 (mH ks k) (putD ks ds k d) (putD ks xs k y) (gG Bs nil) Sq (wQ ki) ?_ λb z=>z.elim .inl False.elim;unfold putD;rw[sv c,sv c];exact cQ.mpr ((cQ.mp sC).snoc o λ_ _ z=>z)
   ·exact p.elim
  ·exact p.elim
 ·exact p.elim
def vz(h:XP K X a ta i π)(hx:XR K X b tb g)(he:XR K X e te f)(hp:PE X a ta→PE X b tb→PE X e te→PS X (.Assign [.Subscript a b bP] e pos) (Hv ta tb te)):YS K X (.Assign [.Subscript a b bP] e pos) (Hv ta tb te) (sX i π g f):=⟨hp h.pe hx.pe he.pe,(vy h.ev hx.ev he.ev).ds⟩
theorem Xx{α β:Type}{R:α→Fp→β→Prop}:∀{ds:List α} {A:Fp} {ys:List β} (k:Nat),fY R ds A ys→∃A',(∀x,A' x→A x)∧fY R (ds.eraseIdx k) A' (ys.eraseIdx k)
 | [],A,ys,k,h=>⟨A,λ_ z=>z,by rw[h.2];exact⟨h.1,U⟩⟩
 | d::ds,A,ys,0,⟨y,yt,A1,A2,h1,h2,h3,h4,h5⟩=>⟨A2,λx z=>(h3 x).mpr (.inr z),by rw[h1];exact h5⟩
 | d::ds,A,ys,k+1,⟨y,yt,A1,A2,h1,h2,h3,h4,h5⟩=>by obtain⟨A',a1,a2⟩:=Xx k h5;refine⟨gG A1 A',λx z=>(h3 x).mpr (z.imp id (a1 x)),?_⟩;rw[h1,N7,N7];exact⟨y,_,A1,A',U,λx z1 z2=>h2 x z1 (a1 x z2),λ_=>Iff.rfl,h4,a2⟩
def Dk(i j:Nat)(f:FE):GS:=λenv=>match env[i]?,env[j]?,f (rE env)with
 | some (.own (.lst ds)),NR (.own (.lst es)),NR (.int k)=>if i≠j∧ds.length<100000∧0≤k∧k<es.length∧es.length≤100000 then(match es[k.toNat]? with
  | some d=>if d.jH=NU then .next ((env.set j (.own (.lst (es.eraseIdx k.toNat)))).set i (.own (.lst (ds++[d]))))else .bad
  | none=>.bad)else .bad
 | _,_,_=>.bad
def aAJ(he:Ko K te f):DS K (oV (Qx K "list" pC (qM i) (dF (Qx K "list" CN (qM j) (dF te oX)) oX))) (Dk i j f):=λB E σ H env r p=>by
 unfold Dk at p;split at p
 ·rename_i ds es k q1 q2 q3;split at p
  ·rename_i hc;obtain⟨c1,c2,c3,c4,c5⟩:=hc;split at p
   ·rename_i d q4;split at p
    ·rename_i im;obtain⟨w0,b,ys,Cs,m1,m2,m3,m4,m5,m6⟩:=r.DY (p:=[]) q2 U;obtain⟨v0,a,xs,Bs,k1,k2,k3,k4,k5,k6⟩:=r.DY (p:=[]) q1 U;have e1:v0=.ref a:=by unfold Oq at k2;exact E6 k2
     have e2:w0=.ref b:=by unfold Oq at m2;exact E6 m2
     subst e1 e2;refine⟨_,k1,.inl ⟨U,xs,oU.of k3⟩,⟨_,m1,.inl ⟨U,ys,oU.of m3⟩,?_⟩⟩;refine he σ H H (rE env) _ _ (Zn.self K H) r.r q3 λy H1 Z1 s1 t1 z1 ry=>?_;unfold Rv at ry;have hly:=(eQ.rv _ _ _ m5).length;have hlx:=(eQ.rv _ _ _ k5).length;obtain⟨x',fN,rx'⟩:=(eQ.rv _ _ _ m5).get q4;refine⟨b,ys,k,k.toNat,x',U,by rw[ry],s1 _ _ m3,by omega,by omega,GA c3 (by rw[hly];exact c4),fN,?_⟩;have o1:=m5.same s1;obtain⟨A',a1,a2⟩:=Xx k.toNat (cQ.mp o1);have r1:=m6 H1 (es.eraseIdx k.toNat) (ys.eraseIdx k.toNat) A' s1 (cQ.mpr a2) λx z=>.inl (a1 x z);have r1':Rel K B (env.set j (.own (.lst (es.eraseIdx k.toNat)))) σ (upd H1 b (.lst (ys.eraseIdx k.toNat))):=r1;have nN:(env.set j (.own (.lst (es.eraseIdx k.toNat))))[i]?=NR (.own (.lst ds)):=by rw[G8,sv (Ne.symm c1)];exact q1
     obtain⟨v0',a',cp,Bs',n1,n2,n3,n4,n5,n6⟩:=r1'.DY (p:=[]) nN U;rw[k1]at n1;cases n1;have e3:a'=a:=by unfold Oq at n2;cases n2;rfl
     subst e3;have ne:a'≠b:=by
      intro z;subst z;obtain⟨A0,sA,_⟩:=r;obtain⟨y1,A1,C,f1,f2,f3,f4,f5⟩:=sA.focus q1;obtain⟨v1,ev1,o1⟩:=f4;have g1:=f5 (gY K H (out H A0)) (λ_ _ _ _ qq=>qq) (.own (.lst ds)) (NR v1) A1 f2 ⟨v1,U,o1⟩;rw[k1]at f1;cases f1;cases ev1;unfold Ow at o1;obtain⟨p1,_,_,ep1,_,_,ip1,_⟩:=o1;cases ep1;have other:∀{l:EN} {A:Fp} {ys:St} (i j:Nat),fY (gY K H (out H A0)) l A ys→i≠j→∀s s',l[i]?=NR s→l[j]?=NR s'→∃y y' A1 A2,ys[i]?=NR y∧ys[j]?=NR y'∧gY K H (out H A0) s A1 y∧gY K H (out H A0) s' A2 y'∧Apart A1 A2:=by
       intro l
       induction l with
       | nil=>intro A ys i j _ _ s s' h1 _;simp at h1
       | cons d l ih=>
        rintro A ys i j ⟨y,yt,B1,B2,rfl,h2,h3,h4,h5⟩ kF s s' h6 h7;cases i with
        | zero=>
         cases j with
         | zero=>exact absurd U kF
         | succ j=>simp at h6;subst h6;obtain⟨y2,A3,C3,w1,w2,w3,w4,_⟩:=h5.focus (i:=j) (d:=s') (by simpa using h7);exact⟨y,y2,B1,A3,U,by simpa using w1,h4,w4,λx z1 z2=>h2 x z1 ((w3 x).mpr (.inl z2))⟩
        | succ i=>
         cases j with
         | zero=>simp at h7;subst h7;obtain⟨y2,A3,C3,w1,w2,w3,w4,_⟩:=h5.focus (i:=i) (d:=s) (by simpa using h6);exact⟨y2,y,A3,B1,by simpa using w1,U,w4,h4,λx z1 z2=>h2 x z2 ((w3 x).mpr (.inl z1))⟩
         | succ j=>obtain⟨y2,y3,A3,A4,w1,w2,w3,w4,w5⟩:=ih i j h5 (λz=>kF (by rw[z])) s s' (by simpa using h6) (by simpa using h7);exact⟨y2,y3,A3,A4,by simpa using w1,by simpa using w2,w3,w4,w5⟩
      obtain⟨y2,y3,A3,A4,w1,w2,w3,w4,w5⟩:=other i j sA c1 _ _ q1 q2;rw[k1]at w1;cases w1;rw[m1]at w2;cases w2;obtain⟨_,ea,oa⟩:=w3;obtain⟨_,eb,ob⟩:=w4;cases ea;cases eb;unfold Ow at oa ob;obtain⟨p1,_,_,e1,_,_,i1,_⟩:=oa;obtain⟨p2,_,_,e2,_,_,i2,_⟩:=ob;cases e1;cases e2;exact w5 _ ((i1 _).mpr (.inl U)) ((i2 _).mpr (.inl U))
     have n3':H1 a'=NR (.lst cp):=by rw[bQ ne]at n3;exact n3
     have exx:cp=xs:=by have:=s1 _ _ k3;rw[n3']at this;cases this;rfl
     subst exx;have imo:Ow K (upd H1 b (.lst (ys.eraseIdx k.toNat))) d nil x':=Ow.frame (uJ (tZ (s1 _ _ m3))) _ _ _ (Ay d x' im (s1.rv _ _ rx')) λ_ z=>z.elim;refine⟨a',cp,x',U,U,n3,Nt (by omega),p _ _ ?_⟩;exact n6 _ (ds++[d]) (cp++[x']) (gG Bs' nil) (aW.refl _) (cQ.mpr ((cQ.mp n5).snoc imo λ_ _ z=>z)) λx z=>z.elim .inl False.elim
    ·exact p.elim
   ·exact p.elim
  ·exact p.elim
 ·exact p.elim
end
def iu(K:aG)(B:Hp)(R:Fp)(env:EN)(σ:St)(H:Hp):Prop:=∃A,fY (gY K H (out H (gG A R))) env A σ∧Apart A R∧aW B (out H (gG A R))
section
variable{H':Hp}{env:EN}{R R' A1:Fp}
def Rel.x(h:Rel K B env σ H)(s:aW H H')(f:∀a,R a→H a=sx):iu K B R env σ H':=by obtain⟨A,a,b⟩:=h;have cl:=iR a;have g:aW (out H A) (out H' (gG A R)):=bT s λx q=>q.imp id (f x);refine⟨A,a.mono λe C z _ q=>q.same s g,λx q1 q2=>?_,b.trans g⟩;obtain⟨⟨u,eu⟩,_⟩:=cl x q1;rw[f x q2]at eu;cases eu
def iu.own(h:iu K B R env σ H)(e:Is R (gG A1 R'))(ap:Apart A1 R')(o:Ow K H d A1 v)(hi:i<env.length):iu K B R' (env.set i (.own d)) (σ.set i (NR v)) H:=by
 obtain⟨A,a,aR,b⟩:=h;obtain⟨y,A0,C,h1,h2,h3,h4,k⟩:=a.focus (B6 hi);have g:aW (out H (gG A R)) (out H (gG (gG A1 C) R')):=bT (aW.refl _) λx q=>by
  rcases q with (q | q) | q
  ·exact .inl (.inr ((e x).mpr (.inl q)))
  ·exact .inl (.inl ((h3 x).mpr (.inr q)))
  ·exact .inl (.inr ((e x).mpr (.inr q)))
 refine⟨gG A1 C,k _ (λs D z _ q=>q.same (aW.refl _) g) (.own d) (NR v) A1 (λx q1 q2=>aR x ((h3 x).mpr (.inr q2)) ((e x).mpr (.inl q1))) ⟨v,U,o⟩,λx q1 q2=>?_,b.trans g⟩;rcases q1 with q1 | q1
 ·exact ap x q1 q2
 ·exact aR x ((h3 x).mpr (.inr q1)) ((e x).mpr (.inr q2))
def iu.done(h:iu K B R env σ H)(e:None R):Rel K B env σ H:=by obtain⟨A,a,aR,b⟩:=h;have g:aW (out H (gG A R)) (out H A):=bT (aW.refl _) λx q=>.inl (.inl q);exact⟨A,a.mono λs D z _ q=>q.same (aW.refl _) g,b.trans g⟩
end
def pK:List Nat→TGs
 | []=>aHk
 | i::is=>tu (iZ i) (pK is)
def pX:EN→List Nat→List D→EN
 | env,i::is,d::ds=>pX (env.set i (.own d)) is ds
 | env,_,_=>env
theorem Sw{Q:St→Hp→Prop}:∀{is:List Nat} {ds:List D} {xs:List V} {R:Fp} {env:EN} {σ:St},iu K B R env σ H→eQ K H ds R xs→is.length=ds.length→(∀i∈is,i<env.length) →
 (∀σ',Rel K B (pX env is ds) σ' H→Q σ' H)→pK is xs σ H Q
 | [],ds,xs,R,env,σ,r,o,hl,hi,k=>by
  cases ds with
  | cons d ds=>simp at hl
  | nil=>unfold eQ at o;unfold pK;exact⟨o.2,k σ (by unfold pX;exact r.done o.1)⟩
 | i::is,ds,xs,R,env,σ,r,o,hl,hi,k=>by
  cases ds with
  | nil=>simp at hl
  | cons d ds=>unfold eQ at o;obtain⟨y,yt,A1,A2,rfl,h2,h3,h4,h5⟩:=o;unfold pK;refine⟨y,yt,U,?_⟩;have oj:=hi i C8;exact Sw (r.own h3 h2 h4 oj) h5 (by simpa using hl) (λj hj=>by rw[J5];exact hi j (C6 _ hj)) λσ' r'=>k σ' (by unfold pX;exact r')
def yL(is:List Nat)(f:FE):GS:=λenv=>match f (rE env)with
 | some (.tup ds)=>if is.length=ds.length∧is.all (λi=>decide (i<env.length))=NU then .next (pX env is ds)else .bad
 | _=>.bad
section
variable{a:AK}{es:List AK}{g:FE}{fs:FA}{pos:Pos}{st:AO}
def aAK{is:List Nat}{n:Nat}(h:Nq K te f)(hn:n=is.length):DS K (xX te (Vr K n (pK is))) (yL is f):=λB E σ H env r p=>by
 unfold yL at p;split at p
 ·rename_i ds q;split at p
  ·rename_i hc;refine h σ H (rE env) _ _ r.r q λv H' s ⟨N,o,fr⟩=>?_;unfold Ow at o;obtain⟨ad,xs,rfl,o1,o2⟩:=o;refine⟨ad,xs,U,o1,by rw[(eQ.rv _ _ _ o2).length,hn,hc.1],?_⟩;exact Sw (r.x s fr) o2 hc.1 (λi hi=>of_decide_eq_true (N3.mp hc.2 i hi)) λσ' r'=>p σ' H' r'
  ·exact p.elim
 ·exact p.elim
def aAL{is:List Nat}{n:Nat}(h:XN K X e te f)(hp:PE X e te→PS X (.Assign [tg] e pos) (xX te (Vr K n (pK is))))(hn:n=is.length:=by rfl):YS K X (.Assign [tg] e pos) (xX te (Vr K n (pK is))) (yL is f):=⟨hp h.pe,aAK h.ev hn⟩
inductive TyS(K:aG)(H:Hp):V→AE→Prop where
 | bl (x:Bool):TyS K H (.bl x) (.type "bool")
 | int (i:Int):TyS K H (.int i) (.type "int")
 | lst {a:AF} {xs:List V} (e:oU K H a xs):TyS K H (.ref a) (.type "list")
 | tup {a:AF} {xs:List V} (e:xW K H a xs):TyS K H (.ref a) (.type "tuple")
def FN:mQ X (.builtin "isinstance") (λxs H Q=>∃x T t b,xs=[x,.ty T]∧TyS X.K H x t∧K4 X.K t (.type T)=NR b∧Q (.bl b) H):=by
 intro aE s σ H xs us Q I r h;obtain⟨x,T,t,b,rfl,ty,hk,q⟩:=h;obtain⟨u,w',rfl,rx,rt⟩:=vals2 r;cases rt;cases ty with
 | bl y=>exact Wy I rx (.bl y) hk λtk=>⟨.bl b,H,I.tok _,U,q⟩
 | int i=>exact Wy I rx (.int i) hk λtk=>⟨.bl b,H,I.tok _,U,q⟩
 | @lst a xs e=>
  cases(show u=AW a from rx)
  obtain⟨af,_,pl,_⟩:=I.list e;obtain⟨o,n,h1,h2,_⟩:=pl;exact K8 Y5 I.Kr ⟨o,h1,h2⟩ hk (λz=>nomatch z) λtk=>⟨.bl b,H,I.tok _,rfl,q⟩
 | @tup a xs e=>
  cases(show u=AW a from rx)
  obtain⟨af,_,pl,_⟩:=I.tuple e;obtain⟨o,h1,h2,_⟩:=pl;exact K8 l8 I.Kr ⟨o,h1,h2⟩ hk (λz=>nomatch z) λtk=>⟨.bl b,H,I.tok _,rfl,q⟩
def RB(T:String)(d:D):Option D:=match d with
 | .int _=>if T = "int" then NR (.bl NU)else if T = "bool" then NR (.bl NV)else sx
 | .bl _=>if T = "bool" then NR (.bl NU)else sx
 | .lst _=>if T = "list" then NR (.bl NU)else sx
 | .tup _=>if T = "tuple" then NR (.bl NU)else sx
 | _=>sx
def Sx(T:String)(f:FE):FE:=λe=>(f e).bind (RB T)
def aJ3(K:aG):List V→Hp→VK→Prop:=λxs H Q=>∃x T t b,xs=[x,.ty T]∧TyS K H x t∧K4 K t (.type T)=NR b∧Q (.bl b) H
def aIc{r:D}(h:RB T d=NR r)(rv:Rv K H d v):∃t b,TyS K H v t∧K4 K t (.type T)=NR b∧r=.bl b:=by
 cases d with
 | int i=>
  unfold RB at h;dsimp only at h;unfold Rv at rv;subst rv;split at h
  ·rename_i c;cases h;subst c;exact⟨_,_,.int i,QG,rfl⟩
  ·split at h
   ·rename_i c;cases h;subst c;exact⟨_,_,.int i,CW,rfl⟩
   ·cases h
 | bl b=>
  unfold RB at h;dsimp only at h;unfold Rv at rv;subst rv;split at h
  ·rename_i c;cases h;subst c;exact⟨_,_,.bl b,Vx,rfl⟩
  ·cases h
 | lst ds=>
  unfold RB at h;dsimp only at h;unfold Rv at rv;obtain⟨a,xs,rfl,r2,_⟩:=rv;split at h
  ·rename_i c;cases h;subst c;exact⟨_,_,.lst r2,Vy,rfl⟩
  ·cases h
 | tup ds=>
  unfold RB at h;dsimp only at h;unfold Rv at rv;obtain⟨a,xs,rfl,r2,_⟩:=rv;split at h
  ·rename_i c;cases h;subst c;exact⟨_,_,.tup r2,Oo,rfl⟩
  ·cases h
 | _=>unfold RB at h;cases h
def aIe(hk:X.K=K):mQ X (.builtin "isinstance") (aJ3 K):=by subst hk;exact FN
def Lg{T:String}{p:Pos}{eT:AK}(h:XR K X e t f)(hT:PE X eT (tC (.ty T)))(hg:Gl X "isinstance") (hm:X.mg "isinstance"=sx) (bt:AJ (e::[eT]) X.env=(NV,AU e X.env)::AJ [eT] X.env:=by rfl) (nS:AJ [eT] X.env=(NV,AU eT X.env)::AJ [] X.env:=by rfl)
 (cE:(Au pos (AJ [eT] X.env)).any (·.1)=NV:=by rfl):XN K X (.Call (.Name "isinstance" p) [e,eT] [] pos) (tCB (aJ3 K) (dF t (dF (tC (.ty T)) oX))) (Sx T f):=
 ⟨h.hk,PL (aIe h.hk) hg hm PyProof.Rows.boot_isinstance (cZ h.pe (cZ hT jE nS) bt) (by decide) (by decide) bt cE,λσ H e d Q re q k=>by
  unfold Sx at q;obtain⟨d0,q1,q2⟩:=aZ q;refine h.ev σ H H e d0 _ (Zn.self K H) re q1 λv H1 Z1 s1 t1 z1 rv=>?_;obtain⟨ty,b,b1,b2,rfl⟩:=aIc q2 (z1.sm.rv _ _ rv);exact⟨v,T,ty,b,U,b1,b2,k _ H1 s1 (.jH U (by unfold Rv;rfl))⟩⟩
structure eG(mg:Str→Option AE)(x:Str)(i:Int):Prop where
 ex:∃t,mg x=NR (.int i t)
def iC{x:Str}{i:Int}(G:eG X.mg x i)(hg:Gl X x)(hd:(x==("__debug__":Str))=NV:=by decide)(hk:X.K=K:=by rfl):XN K X (.Name x pos) (tC (.int i)) (fC (.int i)):=by obtain⟨t,h⟩:=G.ex;exact⟨hk,aEm hg h ⟨t,U⟩ hd,aCe i⟩
def dTup(ns:List Int):D:=.tup (ns.map D.int)
end
def oH(n m:Nat)(g:GS):List D→Option D:=λds=>if ds.length=m then(match g (ds.map SD.fro++E9 (n-m) SD.no)with
 | .ret d=>NR d
 | .next _=>NR .non
 | _=>sx)else sx
theorem Sy:∀{ds:List D} {vs:List V},eO K Z ds vs→fY (gY K H Z) (ds.map SD.fro++E9 k SD.no) nil (vs.map NR++E9 k sx)
 | [],vs,h=>by
  unfold eO at h;subst h;simp only[K9,d9]
  induction k with
  | zero=>exact⟨λ_ z=>z,U⟩
  | succ k ih=>rw[T4,T4];exact⟨sx,_,nil,nil,U,λ_ z=>z.elim,λx=>⟨.inl,λz=>z.elim id id⟩,λ_ z=>z,ih⟩
 | d::ds,vs,h=>by unfold eO at h;obtain⟨y,ys,rfl,h1,h2⟩:=h;rw[E2,E2,R1,R1];exact⟨NR y,_,nil,nil,U,λ_ z=>z.elim,λx=>⟨.inl,λz=>z.elim id id⟩,⟨λ_ z=>z,y,U,h1⟩,Sy h2⟩
def Lh{ds:List D}(h:eO K H ds vs):Rel K H (ds.map SD.fro++E9 k SD.no) (vs.map NR++E9 k sx) H:=by have g:aW H (out H nil):=λx u e=>bF.mpr ⟨λz=>z,e⟩;exact⟨nil,Sy (g.uw _ _ h),g⟩
def Raw.rZ{P:AQ}{w:AS}{K:aG}{mg:Str→Option AE}{base:Heap}{x:Str}{st:AO}{N ps:List Str}{k:Nat}{g:GS}(R:Raw K mg x st)(S:bA N ps (aK st))
 (hb:∀(kV bX pm:AE)(an:Option AF)(ai ct:AE)(us:List AE),us.length=ps.length→EJ (G5 x x (gA st) (cM st) (aK st) .none kV bX pm an ai ct) ⟨us,[]⟩=pure (ps.zip us))
 (bS:∀(f:AF)(ai:AE)(A:AV)(outer:List Env)(s:AG)(H:Hp)(E:XK),lB k (A.deeper (CH x (aK st) s.heap.objs.size f ai)) →
  ∃t,YB K (Hu MJ P w K mg base N x (aK st) f ai A outer s H E).sy (cM st) t g):oF P w K mg base x (k+1) ps.length (gW K ps.length (oH N.length ps.length g)):=by
 refine R.cal S (λvs H Q E h=>?_) hb (λf ai A outer s H vs Q E hr h=>?_)
 ·obtain⟨ds,d,h1,h2,_⟩:=h;rw[h2.length];exact h1
 obtain⟨ds,d,h1,h2,h3,kk⟩:=h;obtain⟨t,yb⟩:=bS f ai A outer s H E hr;refine⟨t,yb.ps,yb.ev H _ _ H (ds.map SD.fro++E9 (N.length-ps.length) SD.no) ?_ ?_⟩
 ·have hl:vs.length=ps.length:=by rw[h2.length];exact h1
  have:=Lh (k:=N.length-ps.length) h2;unfold start;rw[hl];exact this
 ·unfold oH at h3;rw[sk h1]at h3;cases q:g (ds.map SD.fro++E9 (N.length-ps.length) SD.no)with
  | ret d'=>
   rw[q]at h3;cases h3;refine λv H' A' s' o=>kk v H' (s'.trans (jA _ _)) ⟨A',o,λa qa=>?_⟩;cases e:H a with
   | none=>rfl
   | some u=>exact absurd qa (bF.mp (s' a u e)).1
  | next aI=>
   rw[q]at h3;cases h3;refine λσ' H' ⟨A',_,s'⟩=>kk .non H' (s'.trans (jA _ _)) (.jH U (by unfold Rv;rfl))
  | brk aI=>rw[q]at h3;cases h3
  | cont aI=>rw[q]at h3;cases h3
  | bad=>rw[q]at h3;cases h3
  | rete d e=>rw[q]at h3;cases h3
section
variable{a:AK}{es:List AK}{g:FE}{fs:FA}{pos:Pos}{st:AO}
def yM(f:FE):FE:=λe=>(f e).bind λd=>match d with | .int i=>NR (.int (-i)) | _=>sx
def qW(ha:XR K X a ta f):XN K X (.UnaryOp .USub a pos) (tUn (rU λi=>.int (-i)) ta) (yM f):=aH1 ha
def Pu{tg elt iter:AK}{ifs:List AK}{scope:BQ}{kN py:Pos}{y:Str}{wi:TI}{fi:FA}{fe:FE}(N:List Str)(fr:List Nat)(cS:X.calm=NU)(B:lC X.env.scope scope X.N N 1 fr)(hN:X.N.Nodup)(hy:X.N[i]?=NR y)(hx:Loc X.env.scope y)(hi:XI K X tg iter wi fi)
 (hg:∀cl fp s H C,PG (jF X scope N cl fp s H C) tg (iZ 0)) (hc:∀cl fp s H C,XTs K (jF X scope N cl fp s H C) ifs tc fc) (he:∀cl fp s H C,XN K (jF X scope N cl fp s H C) elt te fe)
 (hsw:DO (.ListComp elt [⟨tg,iter,ifs,0⟩] scope pos) (NR (.Name y py)) kN.line X.env=pure NU:=by rfl)
 (hs:∀x,BD iter X.env x=pure x:=by intro _;rfl) (hf:X.fn y=NU∨X.env.scope.names.lookup y=NR .local:=by first | exact .inl U | exact .inr U | assumption) :
 YS K X (.Assign [.Name y py] (.ListComp elt [⟨tg,iter,ifs,0⟩] scope pos) kN) (xX (Rg wi 1 fr (iZ 0) tc te) (iZ i)) (cT i (eE fi fr fc fe)):=
 ⟨aEQ N 1 fr cS B hN hy hx hi.pi hg (λcl fp s H C=>(hc cl fp s H C).pts) (λcl fp s H C=>(he cl fp s H C).pe) hsw hs hf,aCt (vo hi.ev (hc [] [] X.s₀ X.H₀ 0).ev (he [] [] X.s₀ X.H₀ 0).ev)⟩
def EvJ(K:aG)(wi:TI)(fi:FA):Prop:=∀(σ:St)(H:Hp)(e:DE)(ds:List D)(R:It→Hp→Prop),yE K H e σ→fi e=NR ds →
 (∀J H' P vs,aW H H'→JIs J P vs→(∀H2,P H2)→(∀Z,eO K Z ds vs)→R J H')→wi σ H R
structure XJ(K:aG)(X:Cx)(tg iter:AK)(wi:TI)(fi:FA):Prop where
 pi:PI X tg iter wi
 ev:EvJ K wi fi
def Dl(hg:Gl X "range")(hm:X.mg "range"=sx)(ha:XA K X [a] tA fs)(hs:AJ [a] X.env=[(NV,AU a X.env)]:=by rfl):XJ K X tg (.Call (.Name "range" p) [a] [] pos) (aBK tA) (rA fs):=⟨Wx hg hm ha.pa hs,λσ H e ds R re q k=>by
 unfold rA at q;obtain⟨es,q1,q2⟩:=aZ q;split at q2
 ·rename_i n;split at q2
  ·rename_i hl;cases q2;have hl:=DQ hl;refine ha.ev σ H H e _ _ (Zn.self K H) re q1 λvs H1 Z1 s1 t1 z1 rs=>?_;obtain⟨v,rfl,r⟩:=rW rs;unfold Rv at r;subst r;exact⟨n,U,by omega,by omega,k _ H1 _ _ s1 Kz (λ_=>True.intro) λZ=>Le 0 n.toNat⟩
  ·cases q2
 ·cases q2⟩
def aJ4(hp:PA X [a,b] tA→PI X tg (.Call (.Name "range" p) [a,b] [] pos) (aBL tA))(ha:XA K X [a,b] tA fs):XI K X tg (.Call (.Name "range" p) [a,b] [] pos) (aBL tA) (QX fs):=⟨ha.hk,hp ha.pa,λσ H Z e ds R z re q k=>by
 unfold QX at q;obtain⟨es,q1,q2⟩:=aZ q;split at q2
 ·rename_i i j;split at q2
  ·rename_i hl;cases q2;have hl1:=DQ hl.1;have hl2:=DQ hl.2;refine ha.ev σ H Z e _ _ z re q1 λvs H1 Z1 s1 t1 z1 rs=>?_;obtain⟨v,w,rfl,r,r'⟩:=aCk rs;unfold Rv at r r';subst r r';exact⟨i,j,U,⟨by omega,by omega,by omega,by omega⟩,k _ H1 Z1 _ _ s1 t1 z1 Kz (λ_ _=>True.intro) (Le i (j-i).toNat)⟩
  ·cases q2
 ·cases q2⟩
def zV(i:Nat)(fi:FA)(g:GS):GS:=λenv=>match fi (rE env)with
 | some xs=>yK i g xs env
 | none=>.bad
def aFa{tb:TS}(hi:EvJ K wi fi)(h:DS K tb gb):DS K (Qo wi (iZ i) tb) (zV i fi gb):=λB E σ H env r p=>by
 unfold zV at p;split at p
 ·rename_i xs q;refine hi σ H (rE env) xs _ r.r q λJ H1 P vs s hJ hP bp=>?_;have hl:=(bp H).length;refine Hw hJ (λk σ2 H2=>∃cU,Rel K B cU σ2 H2∧Lf K B E (yK i gb (xs.drop k) cU)) ⟨env,r.same s,by simpa using p⟩ (λk σ2 H2 _ _=>hP H2) ?_ ?_
  ·rintro k x σ2 H2 hx ⟨cU,r2,p2⟩;have hk:k<xs.length:=by obtain⟨h1,_⟩:=D4.mp hx;omega
   rw[L8 hk]at p2;unfold yK at p2;split at p2
   ·rename_i ag;obtain⟨A2,a2,b2⟩:=r2;obtain⟨x',fN,rx⟩:=(bp (out H2 A2)).get (B6 hk);rw[hx]at fN;cases fN;have r3:Rel K B (cU.set i (.fro xs[k])) (σ2.set i (NR x)) H2:=Il a2 b2 ag (aW.refl _) (aW.refl _) (Fz a2) rx;refine h B _ _ H2 _ r3 ?_;split at p2
    ·rename_i aI q2;rw[q2];exact λσ' H' r'=>⟨aI,r',p2⟩
    ·rename_i aI q2;rw[q2];exact λσ' H' r'=>⟨aI,r',p2⟩
    ·rename_i aI q2;rw[q2];exact p2
    ·rename_i n1 n2 n3;cases q2:gb (cU.set i (.fro xs[k]))with
     | next e=>exact absurd q2 (n1 e)
     | cont e=>exact absurd q2 (n2 e)
     | brk e=>exact absurd q2 (n3 e)
     | ret d=>rw[q2]at p2;exact p2
     | bad=>rw[q2]at p2;exact p2
     | rete d e=>rw[q2]at p2;exact p2
   ·exact p2.elim
  ·rintro σ2 H2 ⟨cU,r2,p2⟩;rw[hl,S8]at p2;exact p2 σ2 H2 r2
 ·exact p.elim
def Px{tg iter:AK}{body:List AO}{wi:TI}{fi:FA}{tb:TS}(hp:EC (AM X.prog X.w) X.A X.env X.xe)(DX:X.calm=NU)(hi:XJ K X tg iter wi fi)(hg:PG X tg (iZ i))(hb:YB K X body tb gb)
 (hs:∀x,BD iter X.env x=pure x:=by intro _;rfl):YS K X (.For tg iter body [] pos) (Qo wi (iZ i) tb) (zV i fi gb):=⟨Qq hp DX hi.pi hg hb.ps hs,aFa hi.ev hb.ev⟩
def aAM{m':Str}(he:XR K X e te f)(hp:PE X e te→PS X (.Expr (.Call (.Attribute a m ah) [.Call (.Attribute b m' aGA) [e] [] aGB] [] ay) pos) (oV (Qx K "list" pC (qM i) (dF (Qx K "list" CN (qM j) (dF te oX)) oX)))):YS K X (.Expr (.Call (.Attribute a m ah) [.Call (.Attribute b m' aGA) [e] [] aGB] [] ay) pos) (oV (Qx K "list" pC (qM i) (dF (Qx K "list" CN (qM j) (dF te oX)) oX))) (Dk i j f):=⟨hp he.pe,aAJ he.ev⟩
end
def iw{st:AO}{f:AF}{fd:BU}(F:Fun K "law" "law" st f fd)(hb:∀(kV bX pm:AE)(an:Option AF)(ai ct:AE)(u:AE),EJ (G5 "law" "law" (gA st) (cM st) (aK st) .none kV bX pm an ai ct) ⟨[u],[]⟩=pure [(("script":Str),u)]):∀(s:AG)(u:AE),GN s fd ⟨[u],[]⟩ [("script",u)]:=by obtain⟨oc,od,kV,bX,pm,an,ai,ct,dQ,rfl,lk,hcd⟩:=F.ex;exact λs u=>.of_eq (hb kV bX pm an ai ct u)
def mW{x:Str}{i:Int}{t:Tok}(X:K.In h)(G:h.Ns As mg)(a:U4 K As x=NR (NR (.int i t))):eG mg x i:=⟨t,j9 X G a⟩
section
variable{a:AK}{es:List AK}{g:FE}{fs:FA}{pos:Pos}{st:AO}
variable{lo hi:Option AK}{fl fh:FO}
end
theorem bgo(xs:Array Nat)(j:Nat):∀(bq lo hi:Nat),hi-lo≤bq→lo≤hi→hi≤xs.size→xs.toList.Pairwise (·<·) →
 (∀i,i<lo→xs.getD i 0<j)→(∀i,hi≤i→i<xs.size→j≤xs.getD i 0) →
 DH xs j bq lo hi≤xs.size∧(∀i,i<DH xs j bq lo hi→xs.getD i 0<j)∧(∀i,DH xs j bq lo hi≤i→i<xs.size→j≤xs.getD i 0)
 | 0,lo,hi,h1,h2,h3,up,h4,h5=>by
  unfold DH;have e:lo=hi:=by omega
  subst e;exact⟨h3,h4,h5⟩
 | bq+1,lo,hi,h1,h2,h3,up,h4,h5=>by
  unfold DH;have mono:∀a b,a<b→b<xs.size→xs.getD a 0<xs.getD b 0:=λa b q q'=>by have:=J8.mp up a b (by simp;omega) (by simpa using q') q;simp only[W8]at this;simpa[Q3,q',show a<xs.size by omega]using this
  split
  ·rename_i c;have hm:(lo+hi)/2<xs.size:=by omega
   have e:xs.getD ((lo+hi)/2) j=xs.getD ((lo+hi)/2) 0:=by simp[Q3,hm]
   dsimp only;rw[e];by_cases c2:xs.getD ((lo+hi)/2) 0<j
   ·rw[sk c2];refine bgo xs j bq ((lo+hi)/2+1) hi (by omega) (by omega) h3 up (λi hi'=>?_) h5;rcases G4 i ((lo+hi)/2)with z | z
    ·have:=mono i _ z hm;omega
    ·have z':i=(lo+hi)/2:=by omega
     subst z';exact c2
   ·rw[sv c2];refine bgo xs j bq lo ((lo+hi)/2) (by omega) (by omega) (by omega) up h4 λi hi' hs=>?_;rcases G4 ((lo+hi)/2) i with z | z
    ·have:=mono _ i z hs;omega
    ·have z':i=(lo+hi)/2:=by omega
     subst z';omega
  ·have e:lo=hi:=by omega
   subst e;exact⟨h3,h4,h5⟩
def below_at{xs:Array Nat}(up:xs.toList.Pairwise (·<·))(j:Nat):
 AX xs j≤xs.size∧(∀i,i<AX xs j→xs.getD i 0<j)∧(∀i,AX xs j≤i→i<xs.size→j≤xs.getD i 0):=by
 unfold AX;exact bgo xs j xs.size 0 xs.size (by omega) (L5 _) (C9 _) up (λi h=>absurd h (J9 _)) λi h h'=>by omega
def Led(b:Bool)(t:SetTable):Prop:=t.led=b∧(t.plain=NU→t.place.toList.Pairwise (·<·)∧t.dummies=#[])
def Led.fresh(b:Bool):Led b (.fresh 0 0 b):=⟨U,λ_=>⟨by simp[NJ],U⟩⟩
def Led.standIn{b:Bool}{t:SetTable}(h:Led b t)(n:Nat):Led b (t.standIn n):=⟨h.1,λq=>by simp[NA]at q⟩
def Led.off{b:Bool}{t:SetTable}(h:Led b t):Led b {t with plain:=NV}:=⟨h.1,λq=>by simp at q⟩
theorem pgo{t:SetTable}(hd:t.dummies=#[]){g:Nat→Int}{h:Int}:∀(bq:Nat)(p:NL)(j:Nat)(d:Option Nat),p.dummy=sx→FC t g h bq p=NR (.empty j d)→d=sx∧t.slot j=.empty
 | 0,p,j,d,_,q=>by simp[FC]at q
 | bq+1,p,j,d,e,q=>by
  unfold FC at q;have adv:(t.advance p).dummy=sx:=by
   unfold NC;split
   ·exact e
   ·exact e
  split at q
  ·rename_i c;injection q with q;injection q with q1 q2;rw[←q1,←q2];exact⟨e,c⟩
  ·rename_i c;exfalso;unfold LB at c;dsimp only at c;split at c
   ·cases c
   ·split at c
    ·rename_i z;rw[hd]at z;simp[IF]at z
    ·cases c
  ·split at q
   ·cases q
   ·exact pgo hd bq _ j d adv q
def Xy{t:SetTable}(hd:t.dummies=#[]){h:Int}{w:Bool}(q:t.freeSlot h=NR (j,w)):t.slot j=.empty∧w=NV:=by
 unfold Md at q;split at q
 ·rename_i j' d e;obtain⟨rfl,e2⟩:=pgo hd _ _ _ _ (by rfl) e;simp at q;obtain⟨rfl,rfl⟩:=q;exact⟨e2,U⟩
 ·cases q
def aCB{t:SetTable}(hd:t.dummies=#[])(up:t.place.toList.Pairwise (·<·))(q:t.slot j=.empty):(t.put j).1.place.toList.Pairwise (·<·)∧(t.put j).1.dummies=#[]:=by
 obtain⟨b1,b2,b3⟩:=below_at up j;refine⟨?_,?_⟩
 ·show (Me t.place (AX t.place j) j).toList.Pairwise (·<·);rw[LP];have ne:t.place[AX t.place j]?≠NR j:=λz=>by unfold LB at q;dsimp only at q;rw[z]at q;simp at q
  have lo:∀x∈t.place.toList.take (AX t.place j),x<j:=λx hx=>by
   obtain⟨i,hi,rfl⟩:=G6 hx;rw[G7]at hi;have hs:i<t.place.size:=by simp at hi;omega
   have:=b2 i (by omega);simpa[Q3,hs]using this
  have hi:∀x∈t.place.toList.drop (AX t.place j),j<x:=λx hx=>by
   obtain⟨i,hi,rfl⟩:=G6 hx;rw[O1,L3]at hi;have hs:AX t.place j+i<t.place.size:=by omega
   have h1:=b3 (AX t.place j+i) (by omega) hs;have e:(t.place.toList.drop (AX t.place j))[i]=t.place.getD (AX t.place j+i) 0:=by simp[Q3,hs]
   rw[e];rcases m8 i with z | z
   ·subst z;rcases G4 j (t.place.getD (AX t.place j+0) 0)with y | y
    ·exact y
    ·refine absurd ?_ ne;have e2:t.place.getD (AX t.place j) 0=j:=by simp only[Nat.add_zero]at y h1;omega
     rw[O4 (by omega)];simpa[Q3,show AX t.place j<t.place.size by omega]using e2
   ·have h0:=b3 (AX t.place j) (C9 _) (by omega);have:=J8.mp up (AX t.place j) (AX t.place j+i) (by simp;omega) (by simpa using hs) (by omega);simp only[W8]at this;have e3:t.place.getD (AX t.place j) 0<t.place.getD (AX t.place j+i) 0:=by simpa[Q3,hs,show AX t.place j<t.place.size by omega]using this
    omega
  refine K6.mpr ⟨up.sublist (M6 _ _),F6.mpr ⟨hi,up.sublist (o7 _ _)⟩,λx hx y hy=>?_⟩;have h1:=lo x hx;rcases B9.mp hy with z | z
  ·omega
  ·have:=hi y z;omega
 ·show (if IF t.dummies j then _ else t.dummies)=#[];rw[hd];simp[IF]
def Led.lay{b:Bool}{t:SetTable}(h:Led b t)(es:Array (Int×AE))(k:Int)(x:AE):Led b (layNew t es k x).2.1:=by
 unfold layNew;split
 ·rename_i j w e;dsimp only;unfold Mb;split
  ·refine⟨h.1,λq=>?_⟩;obtain⟨u,d⟩:=h.2 q;exact aCB d u (Xy d e).1
  ·exact Led.standIn (t:=(t.put j).1) ⟨h.1,λq=>by
    obtain⟨u,d⟩:=h.2 q;exact aCB d u (Xy d e).1⟩ _
 ·exact h.standIn _
theorem aGC{β:Type}(f:Nat→Option β):∀l:List Nat,l.Pairwise (·<·)→((l.filterMap λj=>(f j).map λy=>(j,y)).map (·.1)).Pairwise (·<·)∧∀x∈((l.filterMap λj=>(f j).map λy=>(j,y)).map (·.1)),x∈l
 | [],_=>⟨.nil,λx h=>by simp at h⟩
 | a::l,h=>by
  obtain⟨h1,h2⟩:=F6.mp h;obtain⟨i1,i2⟩:=aGC f l h2;rw[T3];cases e:f a with
  | none=>exact⟨i1,λx hx=>C6 _ (i2 x hx)⟩
  | some y=>
   refine⟨F6.mpr ⟨λx hx=>h1 x (i2 x hx),i1⟩,λx hx=>?_⟩;rcases B9.mp hx with z | z
   ·exact z▸C8
   ·exact C6 _ (i2 x z)
def Led.aJ5{b:Bool}{t:SetTable}(h:Led b t)(es:Array (Int×AE))(n:Nat):Led b (ET t es n).2.1:=by
 unfold ET;split
 ·rename_i t' order e;dsimp only;split
  ·dsimp only;unfold NH NN at e;obtain⟨ow,e1,e2⟩:=aZ e;injection e2 with e2;injection e2 with e3 e4;rw[←e3];exact⟨h.1,λ_=>⟨by simpa using (aGC (λj=>ow.getD j sx) _ V5).1,U⟩⟩
  ·exact h.standIn _
 ·exact h.standIn _
def Gb{α:Type}:∀(l:List α)(i:Nat)(h:i<l.length),(l[i]::l.eraseIdx i).Perm l
 | [],i,h=>absurd h (by simp)
 | a::l,0,h=>U8 _
 | a::l,i+1,h=>by have:=Gb l i (by simpa using h);simp only[List.getElem_cons_succ,N7];exact(y8 a _ _).trans (this.cons a)
theorem wg{α:Type}(next:Nat→Nat):∀(n:Nat)(left:List α)(k:Nat)(out:Array α),left.length=n→((IG next n k left out).toList).Perm (out.toList++left)
 | 0,left,k,out,hn=>by have:left=[]:=N1 hn;subst this;simp[IG]
 | n+1,left,k,out,hn=>by
  unfold IG;have hl:next k%left.length<left.length:=R8 _ (by omega)
  rw[B6 hl];dsimp only;refine(wg next n (left.eraseIdx (next k%left.length)) (k+1) _ (by rw[Y1 hl];omega)).trans ?_;rw[o8,P9];exact i6 _ (Gb _ _ hl)
def aAN{α:Type}(next:Nat→Nat)(xs:Array α):(IH next xs).toList.Perm xs.toList:=by
 have:=wg next xs.size xs.toList 0 #[] (by simp)
 simpa[IH]using this
section
variable{prog:AQ}{b:Bool}
def Gd(prog:AQ)(w:AS)(b:Bool)(h:Heap)(a:AF)(S:Int→Bool)(n:Nat):Prop:=
 ∃o es ep t,h.get? a=NR o∧o.ExactSet∧o.data=.set es ep t∧KI (intKind prog w) es.toList∧(∀k,S k=NU↔∃e∈es.toList,(intKind prog w).is k e.2=NU)∧es.size<DB∧t.fits es.size=NU∧es.size=n∧Led b t
def Gd.at_{h':Heap}{n:Nat}(x:Gd prog w b h a S n)(e:∀o,h.get? a=NR o→h'.get? a=NR o):Gd prog w b h' a S n:=
 let ⟨o,es,ep,t,ho,r⟩:=x;⟨o,es,ep,t,e o ho,r⟩
def Gd.to{S':Int→Bool}{n n':Nat}(x:Gd prog w b h a S n)(e:∀k,S k=S' k)(en:n=n'):Gd prog w b h a S' n':=by subst en;have:S=S':=funext e;rw[←this];exact x
def aGD{h:Heap}{a:AF}{o:Obj}{es iL:Array (Int×AE)}{ep:Nat}{t t':SetTable}{S':Int→Bool}(ho:h.get? a=NR o)(hex:o.ExactSet)(hd:o.data=.set es ep t)(fS:KI (intKind prog w) iL.toList)
 (hm:∀k,S' k=NU↔∃e∈iL.toList,(intKind prog w).is k e.2=NU) (hz:iL.size<DB) (hf:t'.fits iL.size=NU) (hl:Led b t') :
 (h.update a (JO iL t')).get? a=NR {o with data:=.set iL (ep+1) t'}∧Gd prog w b (h.update a (JO iL t')) a S' iL.size:=
 have g:=(SetOf_store (knd:=intKind prog w) ho hex hd fS hm hz hf).1
 ⟨g,_,iL,ep+1,t',g,hex,U,fS,hm,hz,hf,U,hl⟩
def aCC{g:Bool→Sem Unit}(hg:∀(c:Bool)(s₁:AG)(Q':Unit→AG→Prop),Q' () s₁→AL (AM prog w) A (g c) Q' E s₁){a:AF}{o:Obj}{es e1:Array (Int×AE)}{ep:Nat}{t t2:SetTable}{S':Int→Bool}
 (ho:s.heap.get? a=NR o) (hex:o.ExactSet) (hd:o.data=.set es ep t) (fS:KI (intKind prog w) e1.toList) (hm:∀k,S' k=NU↔∃e∈e1.toList,(intKind prog w).is k e.2=NU) (hz:e1.size<DB) (hf:t2.fits e1.size=NU) (hl:Led b t2)
 {wd:Bool} {R:Option Bool→AG→Prop} (h:∀h',Bi a s.heap h'→Gd prog w b h' a S' e1.size→R (NR NU) {s with heap:=h'}) :
 AL (AM prog w) A (do
  storeSet a e1 t2
  if(!wd&&t2.tooFull)=NU then do
   g (ET t2 e1 (Bz e1.size)).2.2
   storeSet a (ET t2 e1 (Bz e1.size)).1 (ET t2 e1 (Bz e1.size)).2.1
   pure (NR NU)
   else pure (NR NU)) R E s:=by
 obtain⟨g1,s1⟩:=aGD (prog:=prog) (w:=w) ho hex hd fS hm hz hf hl;refine AH (IM ho hd ?_ (FD hz));have sb:=BI s.heap a (JO e1 t2);split
 ·have pm:=relayAll_perm t2 e1 (Bz e1.size);have ff:=relayAll_fits t2 e1 (Bz e1.size);have ll:=hl.aJ5 e1 (Bz e1.size);have sz:(ET t2 e1 (Bz e1.size)).1.size=e1.size:=by rw[←L3,pm.length_eq,L3]
  have zz:(ET t2 e1 (Bz e1.size)).1.size<DB:=by rw[sz];exact hz
  refine AH (hg _ _ _ (AH (IM g1 U ?_ (FD zz))));obtain⟨_,s2⟩:=aGD (prog:=prog) (w:=w) (S':=S') g1 hex U (fS.perm pm) (λk=>(hm k).trans ⟨λ⟨e,he,q⟩=>⟨e,pm.mem_iff.mpr he,q⟩,λ⟨e,he,q⟩=>⟨e,pm.mem_iff.mp he,q⟩⟩) zz ff ll;rw[sz]at s2;exact wpAny_pure (h _ (sb.trans (BI _ a _)) s2)
 ·exact wpAny_pure (h _ sb s1)
def aJ6{a:AF}{S:Int→Bool}{n:Nat}{k:Int}{tk:Tok}{Q:Bool→AG→Prop}(hS:Gd prog w b s.heap a S n)(room:n+1<DB)
 (h:∀h',Bi a s.heap h'→Gd prog w b h' a (λj=>S j||decide (j=k)) (if S k then n else n+1)→Q (!S k) {s with heap:=h'}) :
 AL (AM prog w) A (LS a (.int k tk) ((intKind prog w).hash k)) Q E s:=by
 obtain⟨o,es,ep,t,ho,hex,hd,fS,hm,hb,hf,hn,hl⟩:=hS;have key:(intKind prog w).is k (.int k tk)=NU:=JU _ _ _ _;have sc:(Ct k tk).scannable=NU:=rfl;unfold LS setAddHashedIn;refine CD (AH (CL ho hd hf ?_));dsimp only;rw[byScan_of sc hb fS];simp only[↓reduceIte];unfold setAddByScan;refine AH (AH (JY (AH (wpAny_setScan_of key ho hd hf fS ?_))));cases hr:List.findIdx? (λe=>(intKind prog w).is k e.2) es.toList with
 | some j=>
  dsimp only;obtain⟨hj,pj,_⟩:=List.findIdx?_eq_some_iff_getElem.mp hr;have hk:S k=NU:=(hm k).mpr ⟨es.toList[j],L0 hj,pj⟩;have z:=h s.heap (Mn a s.heap) ⟨o,es,ep,t,ho,hex,hd,fS,λj=>by
   rw[u7,decide_eq_true_eq,←hm j];exact⟨λq=>q.elim id λe=>by rw[e];exact hk,.inl⟩,hb,hf,by rw[hk];exact hn,hl⟩
  rw[hk]at z;exact wpAny_pure (wpAny_pure z)
 | none=>
  dsimp only;have hk:S k=NV:=by
   cases e:S k with
   | false=>rfl
   | true=>obtain⟨x,hx,px⟩:=(hm k).mp e;have:=List.findIdx?_eq_none_iff.mp hr x hx;rw[px]at this;cases this
  have hgw:∀(c:Bool) {s₁:AG} {Q':Unit→AG→Prop},Q' () s₁→AL (AM prog w) A (match c with | true=>rule "set.scan.the-table-gave-way" | false=>pure ()) Q' E s₁:=λc s₁ Q' q=>by
   cases c
   ·exact wpAny_pure q
   ·exact JY q
  have pm:=layNew_perm t es ((intKind prog w).hash k) (.int k tk);have ff:=layNew_fits t es ((intKind prog w).hash k) (.int k tk);have ll:=hl.lay es ((intKind prog w).hash k) (.int k tk);generalize layNew t es ((intKind prog w).hash k) (.int k tk)=Y at pm ff ll ⊢;obtain⟨e1,t1,wd,gave⟩:=Y;dsimp only at pm ff ll ⊢;rw[o8]at pm;have sz:e1.size=n+1:=by rw[←L3,pm.length_eq,D1,L3,hn];rfl
  have zz:e1.size<DB:=by omega
  have el1:=(fS.push key sc).perm pm;have m1:=mem_push_iff (k:=k) key hm pm;refine AH (hgw _ ?_);have ck:∀h',Bi a s.heap h'→Gd prog w b h' a (λj=>S j||decide (j=k)) e1.size→Q NU {s with heap:=h'}:=λh' q1 q2=>by have z:=h h' q1;rw[hk]at z;rw[sz]at q2;exact z q2
  split
  ·rw[hashByValue_scannable 8 sc];refine AH (wpAny_pure ?_);refine aCC (b:=b) (λc s₁ Q' q=>hgw c q) ho hex hd el1 m1 zz ?_ ?_ λh' q1 q2=>?_
   ·split
    ·exact ff
    ·exact Lc ff
   ·split
    ·exact ll
    ·exact ll.off
   ·dsimp only;exact wpAny_pure (ck h' q1 q2)
  ·refine AH (wpAny_pure ?_);simp only[↓reduceIte];refine aCC (b:=b) (λc s₁ Q' q=>hgw c q) ho hex hd el1 m1 zz ff ll λh' q1 q2=>?_;dsimp only;exact wpAny_pure (ck h' q1 q2)
end
section
variable{prog:AQ}{R:FU→AG→Prop}{fp wr:List AF}{G:Array IT→Array IT→Prop}{n:Nat}{P:Nat→AE→Prop}{St:Nat→AG→Prop}{b:Bool}
abbrev iy(prog:AQ)(w:AS)(b:Bool)(h:Heap)(a:AF)(val:Nat→Int)(i:Nat):Prop:=Gd prog w b h a (λk=>(Fa val i).any (·==k)) (Fa val i).length
def aIf(W:WalksS prog w A.in1 I fp wr G n P St)(a:AF)(hf:a∉fp)(val:Nat→Int)(fR:∀i v,P i v→∃t,v=.int (val i) t)(hz:n+1<DB):
 ∀(m i:Nat)(s:AG),n-i=m→i≤n→St i s→iy prog w b s.heap a val i→(∀s',Moved (a::wr) G s s'→iy prog w b s'.heap a val n→R (.ok (.ret .none)) s') →
  Cn (AM prog w) A (.builtin "set.update.loop" ⟨[.ref a,.ref I],[]⟩) R s:=by
 have hw:a∉wr:=λz=>hf (W.sub _ z);have sub:∀c∈wr,c∈a::wr:=λc hc=>C6 _ hc;intro m
 induction m with
 | zero=>
  intro i s hk hi bt hS hR;have e:i=n:=by omega
  subst e;refine DC U5 ?_;rw[CS P5 _];show AL _ A.in1 (DU (.ref I) >>= _) _ _ s;refine AH (W.done s _ _ bt λs' mv=>?_);show AL _ A.in1 (ret BM) _ _ s';exact wpAny_pure (hR s' (mv.mono sub) (hS.at_ λo e=>mv.heap a o hw e))
 | succ m ih=>
  intro i s hk hi bt hS hR;have lt:i<n:=by omega
  refine DC U5 ?_;rw[CS P5 _];show AL _ A.in1 (DU (.ref I) >>= _) _ _ s;refine AH (W.item i s _ _ lt bt λv s1 hP st1 mv=>?_);obtain⟨tk,rfl⟩:=fR i v hP;have S1:iy prog w b s1.heap a val i:=hS.at_ λo e=>mv.heap a o hw e;show AL _ A.in1 (DI [Ct (val i) tk] (setAdd a (.int (val i) tk)) >>= _) _ _ s1;unfold setAdd;refine AH (CD (CD (AH ((intKind prog w).pyHash (k:=val i) (JU _ _ _ _) ?_))));have room:(Fa val i).length+1<DB:=by have:=II val i;omega
  refine aJ6 (s:={s1 with toks:=s1.toks+1}) S1 room λh' sb S2=>?_;have S3:iy prog w b h' a val (i+1):=S2.to (λj=>by rw[HM,step_any]) (by rw[HM,step_length]);refine wpAny_pure ⟨EI P5 _,ih (i+1) _ (by omega) lt (W.frame _ s1 _ _ st1 (O5 _) λc hc o e=>?_) S3 λs2 mv2 S4=>?_⟩
  ·rw[sb.2 c λz=>hf (by rw[←z];exact hc)];exact e
  ·refine hR s2 (Moved.trans W.gtrans ((mv.mono sub).then_heap (O5 _) λc o hc e=>?_) mv2) S4;rw[sb.2 c λz=>hc (by rw[z];exact C8)];exact e
end
section
variable{prog:AQ}
abbrev wD(b:Bool):Obj:={cls:=.type "set",dict:=sx,data:=.set #[] 0 (.fresh 0 0 b)}
abbrev wF(w:AS):Bool:=!w.params.followText "set-order"
def aJ7(a:AE)(h:Q (.ref s.heap.objs.size) {s with heap:=s.heap.push (wD (wF w))}):
 Cn (AM prog w) A (.call (.builtin "set.__new__") ⟨[.type "set",a],[]⟩) (wants Q E) s:=by
 refine Jn ?_;show AL _ A.in1 (checkBuiltinCall "set.__new__" ⟨[.type "set",a],[]⟩ >>= λ_=>again (.builtin "set.__new__" ⟨[.type "set",a],[]⟩)) _ _ s;refine AH (EA (PySem.F.newCall_set_1 a) (wpAny_pure ⟨EI i7 _,DC PySem.F.entry_set_new ?_⟩));rw[CS i7 _];unfold EB.«set.__new__» LD;have sub:=sub_set_self;obtain⟨hp,g,d,tk,os⟩:=s;dsimp only
 wp_walk
 refine CY (wpAny_pure ?_);dsimp only;simp only[newObj];exact AH (wpAny_alloc (wpAny_pure (wpAny_pure h)))
def aFb(b:Bool){val:Nat→Int}(e:h.get? a=NR (wD b)):iy prog w b h a val 0:=
 ⟨_,#[],0,_,e,⟨U,U,U⟩,U,λx hx=>by simp at hx,λk=>by simp[LF],by decide,by rfl,U,Led.fresh b⟩
def aJ8{l:AF}{af:Array AE}{ns:List Int}{Q:AE→AG→Prop}(hh:A.handled=sx)(hl:s.heap.IsList l af)(hi:EL af.toList ns)(hz:af.size+1<DB)
 (h:∀(h':Heap)(tk:Nat),iy prog w (wF w) h' s.heap.objs.size (λi=>ns.getD i 0) af.size→(∀b o,s.heap.get? b=NR o→h'.get? b=NR o)→Q (.ref s.heap.objs.size) {s with heap:=h',toks:=tk}) :
 AL (AM prog w) A (call (.type "set") [.ref l]) Q E s:=by
 obtain⟨c,tl,hmro⟩:=N4.mro;have hmade:=N4.made;have eI:=N4.sub;refine JE (Jn ?_);show AL _ _ (callAny (.type "set") _) _ _ _;refine wpAny_pure ⟨Code.quiet_builtin _ (by walk_at "k"),DC PySem.F.entry_type_call ?_⟩;rw[Around.under_plain (weight_type_call_type "set" [.ref l] []) rfl];have h1:=N4.notType;have h2:=N4.canCreate;have hct:=PySem.F.typeCall_set_1 (.ref l)
 repeat (any_goals (first | assumption | wp_step))
 refine DJ (aJ7 (.ref l) (E:=E) (Q:=λv s1=>v=.ref s.heap.objs.size∧s1={s with heap:=s.heap.push (wD (wF w))}) ⟨U,U⟩) λr s1 hr=>?_;cases r with
 | error e=>exact hr
 | ok fl=>
  cases fl with
  | ret obj=>
   obtain⟨rfl,rfl⟩:=hr;have g0:(s.heap.push (wD (wF w))).get? s.heap.objs.size=NR (wD (wF w)):=AR _ U;have hT:LG {s with heap:=s.heap.push (wD (wF w))} (.ref s.heap.objs.size) "set" := ⟨_,g0,U⟩
   have hli:=N4.init.lookup;have hbi:=N4.init.bind (.ref s.heap.objs.size)
   repeat (any_goals (first | assumption | wp_step))
   refine DJ (codeAny_call_builtin (R:=wants (λr s2=>r=.none∧∃h' tk,s2={s with heap:=h',toks:=tk}∧iy prog w (wF w) h' s.heap.objs.size (λi=>ns.getD i 0) af.size∧(∀b o,s.heap.get? b=NR o→h'.get? b=NR o)) E) N4.init.plain PySem.F.entry_set_init (check_set_init_1 hT ?_)) λr2 s2 hr2=>?_
   ·obtain⟨ol,hol,eC,nl,hdl⟩:=hl;obtain⟨ocls,sD,odata,nV⟩:=ol;simp only at eC hdl;subst eC hdl;have hol':(s.heap.push (wD (wF w))).get? l=NR {cls:=.type "list",dict:=sD,data:=.seq af nl,slots:=nV}:=AI _ hol;have q1:=PySem.F.sub_list_set;have q2:=PySem.F.sub_list_frozenset;have q3:(CO "list" == CO "dict")=NV:=by decide
    have L1:(s.heap.push (wD (wF w))).IsList l af:=⟨_,hol',U,nl,U⟩
    unfold EB.«set.__init__» noKeywords KL;generalize hPI:He=PI
    wp_walk
    subst hPI;refine DF L1 (AH (KM ?_));have lt:=AN hol;have hh3:A.in1.in1.in1.handled=sx:=by simp[hh]
    have ne:l≠(s.heap.push (wD (wF w))).objs.size:=by rw[BE];exact F3 (N8 lt)
    have nf:s.heap.objs.size∉[(s.heap.push (wD (wF w))).objs.size,l]:=by
     rw[BE];intro z;rcases B9.mp z with z | z
     ·exact absurd z (F3 (N2 _))
     ·exact absurd (D2.mp z) (Q7 lt)
    have fR:∀(i:Nat)(v:AE),af[i]?=NR v→∃t,v=.int ((λi=>ns.getD i 0) i) t:=λi v hv=>hi.int_at i v (by rw[M8];exact hv);refine aIf ((HC hh3 _ l ne af).toS) s.heap.objs.size nf (λi=>ns.getD i 0) fR hz (af.size-0) 0 _ (by omega) (L5 _) ⟨⟨_,AR _ U,U,U⟩,(L1.push _)⟩ (aFb (wF w) (AI _ g0)) λs' mv S'=>?_;obtain⟨h',g',d',tk',os'⟩:=s';have eg:g'=s.gens:=mv.gens;have ed:d'=s.drawn:=mv.drawn;have eo:os'=s.os:=mv.os;subst eg ed eo;show AL _ _ _ _ _ _;refine wpAny_pure ?_;show AL _ _ (ret BM) _ _ _;refine wpAny_pure ⟨U,h',tk',U,S',λb o e=>?_⟩;have lb:=AN e;refine mv.heap b o (λz=>?_) (AI _ (AI _ e));rcases B9.mp z with z | z
    ·exact absurd z (F3 lb)
    ·have:=D2.mp z;rw[BE]at this;exact absurd this (F3 (N8 lb))
   ·cases r2 with
    | error e=>exact hr2
    | ok f2=>
     cases f2 with
     | ret r=>
      obtain⟨rfl,h',tk,rfl,S',kp⟩:=hr2
      repeat (any_goals (first | assumption | wp_step))
      exact h _ _ S' kp
     | _=>exact hr2.elim
  | _=>exact hr.elim
end
def aCD:NI.lookup (String.ofList ['r','o','t','a','r','e','t','i','_','t','e','s'].reverse)=NR LJ:=by kernel_rfl
def pY:Slot "set_iterator" "__next__" "set_iterator.__next__" := Slot.of (owner:="set_iterator") (n:="__next__") (by rw[KA,GV];kernel_rfl) (by walk_at "k") (by walk_at "k") (by walk_at "k") (by first | exact .inl (by walk_at "k") | exact .inr (by walk_at "k")) (by rw[GW];kernel_rfl)
def Dm:LU table "set_iterator.__next__"=NR EB.«set_iterator.__next__»:=entryFor_of_tree (by kernel_rfl)
def Dp(a:AE):LV "set_iterator.__next__" ⟨[a],[]⟩:=by unfold LV;rw[LH (id:="set_iterator.__next__") (n:=['_','_','t','x','e','n','_','_']) (o:=['r','o','t','a','r','e','t','i','_','t','e','s']) (by kernel_rfl) aCD];kernel_rfl
def wj:Slot "set_iterator" "__iter__" "set_iterator.__iter__" := Slot.of (owner:="set_iterator") (n:="__iter__") (by rw[KA,GV];kernel_rfl) (by walk_at "k") (by walk_at "k") (by walk_at "k") (by first | exact .inl (by walk_at "k") | exact .inr (by walk_at "k")) (by rw[GW];kernel_rfl)
def aAO(a:AE):LV "set_iterator.__iter__" ⟨[a],[]⟩:=by unfold LV;rw[LH (id:="set_iterator.__iter__") (n:=['_','_','r','e','t','i','_','_']) (o:=['r','o','t','a','r','e','t','i','_','t','e','s']) (by kernel_rfl) aCD];kernel_rfl
def aAP:LU table "set_iterator.__iter__"=NR EB.«dict_keyiterator.__iter__»:=KO (id':="dict_keyiterator.__iter__") (by kernel_rfl) (by first | rfl | decide +kernel | (unfold String.splitOn;simp +decide [String.splitOnAux])) (by walk_at "k") (by kernel_rfl)
def aAQ:LU table "set.__iter__"=NR EB.«frozenset.__iter__»:=KO (id':="frozenset.__iter__") (by kernel_rfl) U (by walk_at "k") (by kernel_rfl)
def wk(h:Heap)(I:AF)(f:AE)(i:Nat)(a:AF)(n ep:Nat):Prop:=∃o,h.get? I=NR o∧o.cls=.type "set_iterator" ∧ o.data=.fields #[f,.int (i:Int) 0,.ref a,.int (n:Int) 0,.int (ep:Int) 0]
def iz(h:Heap)(a:AF)(es:Array (Int×AE))(ep:Nat)(t:SetTable):Prop:=∃o,h.get? a=NR o∧o.cls=.type "set" ∧ o.data=.set es ep t∧t.fits es.size=NU
def wk.at_{h':Heap}{f:AE}{n:Nat}(x:wk h I f i a n ep)(e:∀o,h.get? I=NR o→h'.get? I=NR o):wk h' I f i a n ep:=let ⟨o,ho,r⟩:=x;⟨o,e o ho,r⟩
def iz.at_{h':Heap}{es:Array (Int×AE)}{t:SetTable}(x:iz h a es ep t)(e:∀o,h.get? a=NR o→h'.get? a=NR o):iz h' a es ep t:=let ⟨o,ho,r⟩:=x;⟨o,e o ho,r⟩
section
variable{prog:AQ}{T:AF}{f:AE}{n:Nat}{es:Array (Int×AE)}{t:SetTable}
def wk.ty(x:wk s.heap I f i a n ep):s.TypeIs (.ref I) "set_iterator" := let ⟨o,ho,hc,_⟩:=x;⟨o,ho,hc⟩
def iz.ty(x:iz s.heap a es ep t):s.TypeIs (.ref a) "set" := let ⟨o,ho,hc,_⟩:=x;⟨o,ho,hc⟩
def wu(x:wk s.heap I f i a n ep)(h:Q (.ref I) s):AL (AM prog w) A (He (.ref I)) Q E s:=by refine IP x.ty wj (CA wj x.ty aAP ?_ (aAO _));show AL _ _ (ret (.ref I)) _ _ s;exact wpAny_pure ⟨_,U,"set_iterator",_,x.ty,pY.lookup,h⟩
def RC{α:Type}{h1:Heap}{Q0:α→AG→Prop}{E':AE→AG→Prop}(hh:A.handled=sx)(hQ:∀(v:AE) h',LG {s with heap:=h'} v "StopIteration" → (∀b o,h1.get? b=NR o→h'.get? b=NR o)→E' v {s with heap:=h'}):
 AL (AM prog w) A.in1 (newExc (.type "StopIteration") [] >>= λe=>(raiseNew e:Sem α)) Q0 E' {s with heap:=h1}:=by
 refine AH ?_;simp only[newExc,newTuple];refine AH (CI (AH (m:=KP _ _) (EA (a:=BM) (by first | rfl | (simp only[KP];rfl)) (CI ?_ (by size_fits)))) (by size_fits));simp only[raiseNew];refine AH (wpAny_handled ?_);rw[show A.in1.handled=sx from hh];refine AH (wpAny_pure (wpAny_throw ?_));refine hQ (.ref _) _ ?_ λb o e=>AI _ (AI _ e);exact⟨_,AR _ U,U⟩
def aFc{slot sF:Nat}{x:AE}{Q:Option AE→AG→Prop}(hG:wk s.heap I (.int (slot:Int) 0) i a es.size ep)(hs:iz s.heap a es ep t)
 (hN:∀(Q':Option (AE×Nat)→AG→Prop) E',Q' (NR (x,sF)) s→AL (AM prog w) A.in1 (FR a slot i ep) Q' E' s)
 (hQ:∀h',wk h' I (.int (sF:Int) 0) (i+1) a es.size ep→Bi I s.heap h'→Q (NR x) {s with heap:=h'}):AL (AM prog w) A (DU (.ref I)) Q E s:=by
 obtain⟨o,ho,hc,hd⟩:=id hG;obtain⟨oa,ha,_,hda,hf⟩:=id hs;unfold DU;refine AH (Ee (Ch (name:=Fh "__next__") hG.ty pY (CA pY hG.ty Dm ?_ (Dp _))));unfold EB.«set_iterator.__next__»;refine AH (EA (a:=(AW I,[])) U ?_);dsimp only;refine AH (EU ho hd ?_);dsimp only;refine AH (Cb ha hda hf ?_);rw[sv (by simp)];dsimp only[C7];refine AH (hN _ _ ?_);dsimp only;refine AH (DL ho hd (by simp) ?_);have g1:=BN (LI (·.setIfInBounds 0 (ES (sF:Int)))) ho (DM (BO hd _));have d1:=BO hd (·.setIfInBounds 0 (ES (sF:Int)));refine AH (DL g1 d1 (by simp) (wpAny_pure ⟨x,U,wpAny_pure (hQ _ ?_ ((BI ..).trans (BI ..)))⟩));refine⟨_,BN _ g1 (DM (BO d1 _)),(FF ..).trans ((FF ..).trans hc),?_⟩;rw[BO d1];simp[ES]
def aIg{slot:Nat}{Q:Option AE→AG→Prop}(hh:A.handled=sx)(hG:wk s.heap I (.int (slot:Int) 0) i a es.size ep)(hs:iz s.heap a es ep t)
 (hN:∀(Q':Option (AE×Nat)→AG→Prop) E',Q' sx s→AL (AM prog w) A.in1 (FR a slot i ep) Q' E' s)
 (hQ:∀h',(∀b o,b≠I→s.heap.get? b=NR o→h'.get? b=NR o)→Q sx {s with heap:=h'}):AL (AM prog w) A (DU (.ref I)) Q E s:=by
 obtain⟨o,ho,hc,hd⟩:=id hG;obtain⟨oa,ha,_,hda,hf⟩:=id hs;unfold DU;refine AH (Ee (Ch (name:=Fh "__next__") hG.ty pY (CA pY hG.ty Dm ?_ (Dp _))));unfold EB.«set_iterator.__next__»;refine AH (EA (a:=(AW I,[])) U ?_);dsimp only;refine AH (EU ho hd ?_);dsimp only;refine AH (Cb ha hda hf ?_);rw[sv (by simp)];dsimp only[C7];refine AH (hN _ _ ?_);dsimp only;refine AH (DL ho hd (by simp) ?_);refine RC hh λv h' ty kp=>AH (Fk ty KS ?_);exact wpAny_pure (hQ h' λb o nb e=>kp b o ((BI s.heap I _).extBut b o nb e))
def aFd{ps:Array AE}{c p:Nat}{tk:Tok}{hx:Int}{x:AE}{oT:Obj}{Q:Option AE→AG→Prop}(hG:wk s.heap I (.ref T) i a es.size ep)(hs:iz s.heap a es ep t)(hT:s.heap.get? T=NR oT)(ma:oT.data=.seq ps c)(hp:ps[i]?=NR (.int (p:Int) tk))(he:es[p]?=NR (hx,x))
 (hQ:∀h',wk h' I (.ref T) (i+1) a es.size ep→Bi I s.heap h'→Q (NR x) {s with heap:=h'}):AL (AM prog w) A (DU (.ref I)) Q E s:=by
 obtain⟨o,ho,hc,hd⟩:=id hG;obtain⟨oa,ha,_,hda,hf⟩:=id hs;unfold DU;refine AH (Ee (Ch (name:=Fh "__next__") hG.ty pY (CA pY hG.ty Dm ?_ (Dp _))));unfold EB.«set_iterator.__next__»;refine AH (EA (a:=(AW I,[])) U ?_);dsimp only;refine AH (EU ho hd ?_);dsimp only;refine AH (Cb ha hda hf ?_);rw[sv (by simp)];dsimp only[C7];refine AH (KU hT ma ?_);dsimp only;rw[hp];dsimp only[C7];unfold setNextDrawn;refine AH (AH (CL ha hda hf ?_));dsimp only;rw[sv (by simp),he];dsimp only;refine wpAny_pure (AH (DL ho hd (by simp) (wpAny_pure ⟨x,U,wpAny_pure (hQ _ ?_ (BI ..))⟩)));refine⟨_,BN _ ho (DM (BO hd _)),(FF ..).trans hc,?_⟩;rw[BO hd];simp[ES]
def aIh{ps:Array AE}{c:Nat}{oT:Obj}{Q:Option AE→AG→Prop}(hh:A.handled=sx)(hG:wk s.heap I (.ref T) i a es.size ep)(hs:iz s.heap a es ep t)(hT:s.heap.get? T=NR oT)(ma:oT.data=.seq ps c)(hp:ps[i]?=sx)
 (hQ:∀h',(∀b o,b≠I→s.heap.get? b=NR o→h'.get? b=NR o)→Q sx {s with heap:=h'}):AL (AM prog w) A (DU (.ref I)) Q E s:=by
 obtain⟨o,ho,hc,hd⟩:=id hG;obtain⟨oa,ha,_,hda,hf⟩:=id hs;unfold DU;refine AH (Ee (Ch (name:=Fh "__next__") hG.ty pY (CA pY hG.ty Dm ?_ (Dp _))));unfold EB.«set_iterator.__next__»;refine AH (EA (a:=(AW I,[])) U ?_);dsimp only;refine AH (EU ho hd ?_);dsimp only;refine AH (Cb ha hda hf ?_);rw[sv (by simp)];dsimp only[C7];refine AH (KU hT ma ?_);dsimp only;rw[hp];dsimp only;refine AH (DL ho hd (by simp) ?_);have g1:=BN (LI (·.setIfInBounds 0 (ES 0))) ho (DM (BO hd _));have d1:=BO hd (·.setIfInBounds 0 (ES 0));refine AH (DL g1 d1 (by simp) ?_);refine RC hh λv h' ty kp=>AH (Fk ty KS ?_);exact wpAny_pure (hQ h' λb o nb e=>kp b o (((BI s.heap I _).trans (BI _ I _)).extBut b o nb e))
def aIi{slot:Nat}{Q:Option (AE×Nat)→AG→Prop}(hb:wF w=NV)(hs:iz s.heap a es ep t)(h:Q (((IH (w.params.setOrder a ep) es)[i]?).map λe=>(e.2,slot)) s):AL (AM prog w) A (FR a slot i ep) Q E s:=by
 obtain⟨oa,ha,_,hda,hf⟩:=id hs;have ft:w.params.followText "set-order"=NU:=by simpa using hb
 unfold FR;refine AH (CL ha hda hf ?_);dsimp only;unfold HE;refine AH (AH (CY (wpAny_pure ?_)));dsimp only;rw[show (AM prog w).w.params.followText "set-order"=NU from ft,sk U,sv (by simp)];unfold setWalk HE;refine AH (AH (CL ha hda hf ?_));dsimp only;refine AH (AH (CY (wpAny_pure ?_)));dsimp only;rw[show (AM prog w).w.params.followText "set-order"=NU from ft,sk rfl];refine AH (CY (wpAny_pure (wpAny_pure ?_)));exact h
def Io(t:SetTable):Nat→Nat
 | 0=>0
 | i+1=>t.place.getD i 0+1
def jb(up:t.place.toList.Pairwise (·<·))(hi:i≤t.place.size):AX t.place (Io t i)=i:=by
 obtain⟨b1,b2,b3⟩:=below_at up (Io t i);have mono:∀a b,a<b→b<t.place.size→t.place.getD a 0<t.place.getD b 0:=λa b q q'=>by have:=J8.mp up a b (by simp;omega) (by simpa using q') q;simp only[W8]at this;simpa[Q3,q',show a<t.place.size by omega]using this
 rcases Nat.lt_trichotomy (AX t.place (Io t i)) i with z | z | z
 ·cases i with
  | zero=>omega
  | succ i=>have h1:=b3 i (by omega) (by omega);rw[show Io t (i+1)=t.place.getD i 0+1 from rfl]at h1;omega
 ·exact z
 ·have h1:=b2 i z;cases i with
  | zero=>exact absurd h1 (J9 _)
  | succ i=>rw[show Io t (i+1)=t.place.getD i 0+1 from rfl]at h1;have:=mono i (i+1) (by omega) (by omega);omega
def aIj{Q:Option (AE×Nat)→AG→Prop}(hb:wF w=NU)(hs:iz s.heap a es ep t)(hl:Led (wF w) t)(hdr:(!t.plain&&decide (es.size > 1))=NV)(hi:i≤es.size)(h:Q ((es[i]?).map λe=>(e.2,Io t (i+1))) s):AL (AM prog w) A (FR a (Io t i) i ep) Q E s:=by
 obtain⟨oa,ha,_,hda,hf⟩:=id hs;have ft:w.params.followText "set-order"=NV:=by simpa using hb
 have hz:t.place.size=es.size:=by simp only[NO,J2,beq_iff_eq]at hf;exact hf.1
 have up:t.place.toList.Pairwise (·<·):=by
  cases e:t.plain with
  | true=>exact(hl.2 e).1
  | false=>
   rw[e]at hdr;have:es.size≤1:=by simpa using hdr
   match h:t.place.toList with
   | []=>exact .nil
   | [x]=>simp
   | x::y::r=>have:=congrArg f7 h;simp at this;omega
 unfold FR;refine AH (CL ha hda hf ?_);dsimp only;unfold HE;refine AH (AH (CY (wpAny_pure ?_)));dsimp only;rw[show (AM prog w).w.params.followText "set-order"=NV from ft,sv (by simp)];refine DD (λq=>?_) λ_=>?_
 ·exfalso;have q':(!t.plain&&decide (es.size > 1))=NU:=q;rw[hdr]at q';cases q'
 ·refine AH ?_;refine DD (λq=>?_) λ_=>wpAny_pure ?_
  ·exfalso;have:t.led=NU:=by rw[hl.1,hb]
   rw[this]at q;simp at q
  ·rw[jb up (by omega)];refine wpAny_pure ?_;rcases G4 i es.size with z | z
   ·rw[O4 z]at h ⊢;rw[O4 (by omega)];have e:t.place[i]'(by omega)=t.place.getD i 0:=by simp[Q3,show i<t.place.size by omega]
    simpa[Io,e]using h
   ·rw[Array.getElem?_eq_none z]at h ⊢;exact h
end
section
variable{prog:AQ}{T:AF}{f:AE}{n:Nat}{es:Array (Int×AE)}{t:SetTable}
def aFe{src:Source}{m:Nat}{Q:Nat→AG→Prop}(hm:m≠0)(h:∀i dr,i<m→Q i {s with drawn:=dr}):AL M A (choose src m) Q E s:=λ_ _ _=>⟨hm,h _ _ (R8 _ (m9 hm))⟩
theorem Xz{M:Iq}{α:Type}:∀(m:Nat)(xs:List α)(s:AG)(Q:List α→AG→Prop),xs.length=m→(∀ys dr,ys.Perm xs→Q ys {s with drawn:=dr})→AL M A (Kj m xs) Q E s
 | 0,xs,s,Q,hn,h=>by have:xs=[]:=N1 hn;subst this;unfold Kj;exact wpAny_pure (h [] s.drawn (U8 _))
 | m+1,[],s,Q,hn,h=>absurd hn (by simp)
 | m+1,x::xs,s,Q,hn,h=>by unfold Kj;refine AH (aFe (by simp) λi dr hi=>?_);rw[B6 hi];dsimp only;refine AH (Xz m ((x::xs).eraseIdx i) _ _ (by rw[Y1 hi];omega) λys dr' pm=>wpAny_pure ?_);exact h _ dr' ((pm.cons _).trans (Gb _ _ hi))
def Ord(S:Int→Bool)(n:Nat)(aw:List AE):Prop:=aw.length=n∧∃ns,EL aw ns∧∀k,S k=NU↔k∈ns
def jc{l:List (Int×AE)}{aw:List AE}(fS:KI (intKind prog w) l)(hm:∀k,S k=NU↔∃e∈l,(intKind prog w).is k e.2=NU)(hn:l.length=n)(pm:aw.Perm (l.map (·.2))):Ord S n aw:=by
 refine⟨by rw[pm.length_eq,B8,hn],?_⟩;have allI:∀v∈aw,∃k t,v=Ct k t:=λv hv=>by obtain⟨e,he,rfl⟩:=J4.mp (pm.mem_iff.mp hv);obtain⟨⟨k,hk,_⟩,_⟩:=fS e he;obtain⟨t,ht⟩:=FB hk;exact⟨k,t,ht⟩
 have mk:∀vs:List AE,(∀v∈vs,∃k t,v=Ct k t)→∃ns,EL vs ns∧∀k,k∈ns↔∃t,Ct k t∈vs:=by
  intro vs
  induction vs with
  | nil=>exact λ_=>⟨[],.nil,λk=>by simp⟩
  | cons v vs ih=>
   intro hv;obtain⟨ns,h1,h2⟩:=ih λv q=>hv v (C6 _ q);obtain⟨k,t,rfl⟩:=hv v C8;refine⟨k::ns,.cons k t h1,λj=>?_⟩;rw[B9,h2];constructor
   ·rintro(rfl | ⟨t',q⟩)
    ·exact⟨t,C8⟩
    ·exact⟨t',C6 _ q⟩
   ·rintro⟨t',q⟩
    rcases B9.mp q with q | q
    ·injection q with q
     exact .inl q
    ·exact .inr ⟨t',q⟩
 obtain⟨ns,h1,h2⟩:=mk aw allI;refine⟨ns,h1,λk=>?_⟩;rw[hm,h2];constructor
 ·rintro⟨e,he,hk⟩
  obtain⟨t,ht⟩:=FB hk;exact⟨t,pm.mem_iff.mpr (J4.mpr ⟨e,he,ht⟩)⟩
 ·rintro⟨t,q⟩
  obtain⟨e,he,q⟩:=J4.mp (pm.mem_iff.mp q);exact⟨e,he,by rw[q];exact JU _ _ _ _⟩
def Tc(hh:A.handled=sx)(ne:a≠I){slot:Nat→Nat}{aw:List AE}(hz:aw.length=es.size)
 (hN:∀(s:AG)(i:Nat)(Q':Option (AE×Nat)→AG→Prop) E',i≤es.size→iz s.heap a es ep t→Q' ((aw[i]?).map λv=>(v,slot (i+1))) s→AL (AM prog w) A.in1 (FR a (slot i) i ep) Q' E' s) :
 Walks prog w A I [I,a] [I] es.size (λi v=>aw[i]?=NR v) (λi h=>wk h I (.int (slot i:Int) 0) i a es.size ep∧iz h a es ep t) where
 sub:=λb hb=>by simp at hb;simp[hb]
 frame:=λ_ _ _ x kp=>⟨x.1.at_ λo e=>kp I (by simp) o e,x.2.at_ λo e=>kp a (by simp) o e⟩
 item:=λi s Q E hi x hQ=>by have e:aw[i]?=NR (aw[i]'(by omega)):=B6 (by omega);refine aFc (x:=aw[i]'(by omega)) (sF:=slot (i+1)) x.1 x.2 (λQ' E' q=>hN s i Q' E' (by omega) x.2 (by rw[e];exact q)) λh' st sb=>?_;exact hQ _ h' s.toks e ⟨st,x.2.at_ λo eo=>sb.extBut a o ne eo⟩ λb o hb eo=>sb.extBut b o (λz=>hb (by simp[z])) eo
 done:=λs Q E x hQ=>aIg hh x.1 x.2 (λQ' E' q=>hN s es.size Q' E' (C9 _) x.2 (by rw[D9 (by omega)];exact q)) λh' kp=>hQ h' s.toks λb o hb e=>kp b o (λz=>hb (by simp[z])) e
 self:=λ_ _ _ _ x hQ=>wu x.1 hQ
def jd(hh:A.handled=sx)(ne:a≠I)(neT:T≠I){ps:List Nat}(hz:ps.length=es.size)(hp:∀p∈ps,p<es.size):
 Walks prog w A I [I,a,T] [I] es.size (λi v=>(ps.map λp=>(es.getD p (0,.none)).2)[i]?=NR v) (λi h=>wk h I (.ref T) i a es.size ep∧iz h a es ep t∧∃o c,h.get? T=NR o∧o.data=.seq (ps.map λ(p:Nat)=>ES p).toArray c) where
 sub:=λb hb=>by simp at hb;simp[hb]
 frame:=λ_ _ _ x kp=>⟨x.1.at_ λo e=>kp I (by simp) o e,x.2.1.at_ λo e=>kp a (by simp) o e,let ⟨o,c,ho,hd⟩:=x.2.2;⟨o,c,kp T (by simp) o ho,hd⟩⟩
 item:=λi s Q E hi x hQ=>by
  obtain⟨h1,h2,oT,c,hT,ma⟩:=x;have lt:i<ps.length:=by omega
  have lp:=hp ps[i] (L0 lt);refine aFd (p:=ps[i]) (tk:=0) (hx:=es[ps[i]].1) (x:=es[ps[i]].2) h1 h2 hT ma (by simp[lt,ES]) (by rw[O4 lp]) λh' st sb=>?_;exact hQ _ h' s.toks (by simp[lt,Q3,lp]) ⟨st,h2.at_ λo eo=>sb.extBut a o ne eo,oT,c,sb.extBut T oT neT hT,ma⟩ λb o hb eo=>sb.extBut b o (λz=>hb (by simp[z])) eo
 done:=λs Q E x hQ=>by obtain⟨h1,h2,oT,c,hT,ma⟩:=x;exact aIh hh h1 h2 hT ma (by simp[hz]) λh' kp=>hQ h' s.toks λb o hb e=>kp b o (λz=>hb (by simp[z])) e
 self:=λ_ _ _ _ x hQ=>wu x.1 hQ
def aCE{S:Int→Bool}{Q:AE→AG→Prop}(hh:A.handled=sx)(hs:Gd prog w (wF w) s.heap a S n)
 (h:∀(h1:Heap)(dr:Ic)(I:AF)(fp:List AF)(aw:List AE)(St:Nat→Heap→Prop),(∀b o,s.heap.get? b=NR o→h1.get? b=NR o)→Walks prog w A I fp [I] n (λi v=>aw[i]?=NR v) St→St 0 h1→(∀x∈fp,x=a∨s.heap.objs.size≤x)→s.heap.objs.size≤I→Ord S n aw→Q (.ref I) {s with heap:=h1,drawn:=dr}) :
 AL (AM prog w) A (He (.ref a)) Q E s:=by
 obtain⟨o,es,ep,t,ho,hex,hd,fS,hm,hz,hf,hn,hl⟩:=hs;have sat:iz s.heap a es ep t:=⟨o,ho,hex.1,hd,hf⟩
 have lt:=AN ho;subst hn;refine IP sat.ty i8 (CA i8 sat.ty aAQ ?_ (PySem.F.args_set_iter_1 _));unfold EB.«frozenset.__iter__» Ll;refine AH (AH (EA (a:=(AW a,[])) U ?_));unfold LW LX;refine wpAny_pure (AH (AH (Cb ho hd hf (wpAny_pure ?_))));unfold setDrawn HE;refine AH (AH (CL ho hd hf ?_));dsimp only;refine AH (AH (CY (wpAny_pure ?_)));refine wpAny_pure ?_;refine DD (λc=>?_) λc=>?_
 ·have c':(wF w&&(!t.plain&&decide (es.size > 1)))=NU:=c
  rw[J2]at c';refine AH (Xz es.size (D5 es.size) s _ (by simp) λps dr pm=>?_);have lps:ps.length=es.size:=by rw[pm.length_eq,E1]
  have hp:∀p∈ps,p<es.size:=λp hp=>F7.mp (pm.mem_iff.mp hp);refine AH (wpAny_newTuple ?_ (by rw[B8,lps];exact FD hz));have g1:(s.heap.push {cls:=.type "tuple",data:=.seq (ps.map λ(i:Nat)=>ES i).toArray}).get? a=NR o:=AI _ ho;refine AH (IQ g1 hd hf ?_);refine AH (CI (wpAny_pure ⟨_,U,"set_iterator",_,⟨_,AR _ U,U⟩,pY.lookup,?_⟩));refine h _ dr _ _ (ps.map λp=>(es.getD p (0,.none)).2) _ (λb o e=>AI _ (AI _ e)) (jd (T:=s.heap.objs.size) (t:=t) (ep:=ep) hh ?_ ?_ lps hp) ⟨⟨_,AR _ U,U,U⟩,sat.at_ λo e=>AI _ (AI _ e),_,_,AI _ (AR _ U),U⟩ ?_ ?_ ?_
  ·show a≠(s.heap.push _).objs.size
   rw[BE];exact F3 (N8 lt)
  ·show s.heap.objs.size≠(s.heap.push _).objs.size
   rw[BE];exact F3 (N2 _)
  ·intro x hx
   rcases B9.mp hx with z | z
   ·rw[z]
    show _∨s.heap.objs.size≤(s.heap.push _).objs.size;rw[BE];exact .inr (O5 _)
   ·rcases B9.mp z with z | z
    ·exact .inl z
    ·rw[D2.mp z]
     exact .inr (C9 _)
  ·show s.heap.objs.size≤(s.heap.push _).objs.size
   rw[BE];exact O5 _
  ·refine jc (prog:=prog) (w:=w) fS hm (by simp) ?_
   have e:es.toList.map (·.2)=(D5 es.size).map λp=>(es.getD p (0,.none)).2:=by refine Z7 (by simp) λk k1 k2=>?_;simp at k1;simp[Q3,k1]
   rw[e];exact pm.map _
 ·refine AH (wpAny_pure ?_)
  refine AH (IQ ho hd hf ?_);refine AH (CI (wpAny_pure ⟨_,U,"set_iterator",_,⟨_,AR _ U,U⟩,pY.lookup,?_⟩));have ne:a≠s.heap.objs.size:=F3 lt;have fp':∀x∈[s.heap.objs.size,a],x=a∨s.heap.objs.size≤x:=λx hx=>by
   rcases B9.mp hx with z | z
   ·exact .inr (l7 z.symm)
   ·exact .inl (D2.mp z)
  cases hb:wF w with
  | false=>have pm:=aAN (w.params.setOrder a ep) es;refine h _ s.drawn _ _ ((IH (w.params.setOrder a ep) es).toList.map (·.2)) _ (λb o e=>AI _ e) (Tc (t:=t) (ep:=ep) (slot:=λ_=>0) hh ne (by rw[B8,pm.length_eq,L3]) λs i Q' E' hi x q=>?_) ⟨⟨_,AR _ U,U,U⟩,sat.at_ λo e=>AI _ e⟩ fp' (C9 _) (jc (prog:=prog) (w:=w) fS hm (by simp) (pm.map _));refine aIi hb x ?_;rw[C5,M8,y9]at q;exact q
  | true=>
   have c':(!t.plain&&decide (es.size > 1))=NV:=by have c2:¬(wF w&&(!t.plain&&decide (es.size > 1)))=NU:=c;rw[hb,Bool.true_and]at c2;simpa using c2
   refine h _ s.drawn _ _ (es.toList.map (·.2)) _ (λb o e=>AI _ e) (Tc (t:=t) (ep:=ep) (slot:=Io t) hh ne (by simp) λs i Q' E' hi x q=>?_) ⟨⟨_,AR _ U,U,U⟩,sat.at_ λo e=>AI _ e⟩ fp' (C9 _) (jc (prog:=prog) (w:=w) fS hm (by simp) (U8 _));refine aIj hb x hl c' hi ?_;rw[C5,M8,y9]at q;exact q
end
open PySem.Calls PyProof.V
section
variable{prog:AQ}{T:AF}{n:Nat}
def aCF{Q:Bool→AG→Prop}(hT:s.TypeIs (.ref a) "set")(h:Q NV s):AL (AM prog w) A (EX (.ref a)) Q E s:=by
 unfold EX;refine AH (JJ hT PySem.F.slot_set_len.lookup ?_);generalize hid:("set.__len__":String)=id0
 wp_delta
 rw[show splitId id0=NR ("set","__len__")from by subst hid;decide +kernel];subst hid;refine AH (Fk (T:="set") (b:=NU) hT (by rw[GW];kernel_rfl) (DD (λz=>absurd z (by decide)) λ_=>DD (λ_=>?_) λz=>absurd (by walk_at "k") z));exact AH (LY hT (wpAny_pure h))
def aFf{R:FU→AG→Prop}(hh:A.handled=sx)(hs:Gd prog w (wF w) s.heap a S n)(hz:n≤sizeLine)(L:AF)(ne:L≠a)(hL:s.heap.get? L=NR {cls:=.type "list",data:=.seq #[] 0})
 (hR:∀h' dr tk bo c,(∀b o,b≠L→s.heap.get? b=NR o→h'.get? b=NR o)→h'.get? L=NR {cls:=.type "list",dict:=sx,data:=.seq bo c,slots:=#[]}→Ord S n bo.toList→R (.ok (.ret (.ref L))) {s with heap:=h',drawn:=dr,toks:=tk}) :
 AL (AM prog w) A.in1 (DT (.ref L) (.ref a) (.ref L)) (λck s'=>match ck with | .done f=>R (.ok f) s' | .again c'=>c'.quiet=NU∧Cn (AM prog w) A c' R s') (λe s'=>R (.error e) s') s:=by
 have lt:L<s.heap.objs.size:=AN hL;have ty:s.TypeIs (.ref a) "set" := let ⟨o,_,_,_,ho,hex,_⟩:=hs;⟨o,ho,hex.1⟩;unfold DT;refine AH (LY (T:="set") ty ?_);have h1:Fm (.ref L) (.ref a)=NV:=by simp[Fm,ne]
 have h2:(CO "set" == CO "list")=NV:=by decide
 have h3:(CO "set" == CO "tuple")=NV:=by decide
 simp only[h1,h2,h3,z6,X9,if_false];refine AH (aCE (A:=A.in1) hh hs λh0 dr I fp aw St kp W st fpo lI od=>?_);have hL1:=kp _ _ hL;have nf:L∉fp:=λz=>by
  rcases fpo L z with z | z
  ·exact ne z
  ·exact absurd lt (Nat.not_lt.mpr z)
 have nI:∀b o,s.heap.get? b=NR o→b≠I:=λb o e=>F3 (E7 (AN e) lI);have key:∀(h:Heap)(c1 tk:Nat),St 0 h→(∀b o,b≠L→s.heap.get? b=NR o→h.get? b=NR o)→h.get? L=NR {cls:=.type "list",data:=.seq #[] c1}→Cn (AM prog w) A (.builtin "list.extend.loop" ⟨[.ref L,.ref I,.ref L],[]⟩) R {s with heap:=h,drawn:=dr,toks:=tk}:=by
  intro h c1 tk st0 k0 g0;refine codeAny_extend_loopS W.toS hz L nf (.ref L) n 0 _ #[] c1 U (L5 _) st0 g0 (ItemsOf.nil _) λs' bo c mv g' it=>?_;rw[Moved.eq_with mv];refine hR s'.heap dr s'.toks bo c (λb o nb e=>mv.heap b o (λz=>?_) (k0 b o nb e)) g' ?_
  ·rcases B9.mp z with z | z
   ·exact nb z
   ·exact nI b o e (D2.mp z)
  ·have e:bo.toList=aw:=by
    refine K5 λj=>?_;rcases G4 j bo.size with z | z
    ·have e1:bo[j]?=NR bo[j]:=O4 z
     rw[M8,e1,it.2 j _ e1]
    ·rw[D9 (by simpa using z),D9 (by have:=it.1;have:=od.1;omega)]
   rw[e];exact od
 refine AH (CD (aCF (hT:=let ⟨o,ho,hc⟩:=ty;⟨o,kp _ _ ho,hc⟩) ?_));refine DD (λ_=>?_) λ_=>wpAny_pure ⟨EI Y9 _,key _ 0 _ st (λb o _ e=>kp b o e) hL1⟩;refine AH (JY (AH ?_));show AL _ _ (updateSeq L (·.push .none) >>= λ_=>updateSeq L (·.pop)) _ _ _;refine AH (KB hL1 U ?_);have g2:=BN (EG (·.push BM)) hL1 U;refine KB (hz:=by seq_fits) g2 U ?_;have g3:=BN (EG (·.pop)) g2 U;refine wpAny_pure ⟨EI Y9 _,key _ _ _ (W.frame 0 _ _ st λb hb o e=>?_) (λb o hb e=>?_) g3⟩
 ·have nb:b≠L:=λz=>nf (z▸hb)
  exact(BT _ _ (Ne.symm nb)).trans ((BT _ _ (Ne.symm nb)).trans e)
 ·exact(BT _ _ (Ne.symm hb)).trans ((BT _ _ (Ne.symm hb)).trans (kp b o e))
def RD{R:List AE→AG→Prop}(hh:A.handled=sx)(hs:Gd prog w (wF w) s.heap a S n)(hz:n≤sizeLine)
 (h:∀(h':Heap)(dr:Ic)(tk:Nat)(bo:List AE),(∀b o,s.heap.get? b=NR o→h'.get? b=NR o)→Ord S n bo→R bo {s with heap:=h',drawn:=dr,toks:=tk}):AL (AM prog w) A (collect (.ref a)) R E s:=by
 have lt:a<s.heap.objs.size:=let ⟨o,_,_,_,ho,_⟩:=hs;AN ho;unfold collect;refine AH (KM (DC entry_proto_collect' ?_));rw[CS PySem.F.plain_proto_collect _];show AL _ A.in1 (newList [] >>= λl=>again (.builtin "list.__iadd__" ⟨[l,.ref a],[]⟩)) _ _ s;refine AH (CI (wpAny_pure ⟨EI c7 _,DC entry_list_iadd' ?_⟩));rw[CS c7 _];have g1:(s.heap.push {cls:=.type "list",data:=.seq ([]:List AE).toArray}).get? s.heap.objs.size=NR {cls:=.type "list",data:=.seq #[]}:=AR _ U;show AL _ A.in1 (DT (.ref s.heap.objs.size) (.ref a) (.ref s.heap.objs.size)) _ _ _;have key:=aFf (A:=A) (s:={s with heap:=s.heap.push {cls:=.type "list",data:=.seq ([]:List AE).toArray}})
  (R:=λ(q:FU) (s':AG)=>∃(h':Heap)(dr:Ic)(tk:Nat)(bo:Array AE)(c:Nat),q=.ok (.ret (.ref s.heap.objs.size))∧s'={s with heap:=h',drawn:=dr,toks:=tk}∧(∀b o,s.heap.get? b=NR o→h'.get? b=NR o)∧h'.get? s.heap.objs.size=NR {cls:=.type "list",dict:=sx,data:=.seq bo c,slots:=#[]}∧Ord S n bo.toList)
  hh (hs.at_ λo e=>AI _ e) hz s.heap.objs.size (Q7 lt) g1 λh' dr tk bo c kp g od=>⟨h',dr,tk,bo,c,U,U,λb o e=>kp b o (F3 (AN e)) (AI _ e),g,od⟩
 refine BA key (λck s' x=>?_) λe s' x=>?_
 ·cases ck with
  | done f=>
   obtain⟨h',dr,tk,bo,c,e,rfl,kp,g,od⟩:=x;cases e;show AL _ A (load s.heap.objs.size >>= _) _ _ _;exact AH (JA g (wpAny_pure (h h' dr tk bo.toList kp od)))
  | again c1=>refine⟨x.1,DJ x.2 λq s2 y=>?_⟩;obtain⟨h',dr,tk,bo,c,rfl,rfl,kp,g,od⟩:=y;show AL _ A (load s.heap.objs.size >>= _) _ _ _;exact AH (JA g (wpAny_pure (h h' dr tk bo.toList kp od)))
 ·obtain⟨_,_,_,_,_,e',_⟩:=x;cases e'
end
def Td(k:Int):List Int→List Int
 | []=>[k]
 | a::l=>if k<a then k::a::l else if k=a then a::l else a::Td k l
theorem Te(k j:Int):∀l:List Int,j∈Td k l↔j=k∨j∈l
 | []=>by simp[Td]
 | a::l=>by
  unfold Td;split
  ·simp
  ·split
   ·rename_i e
    subst e;simp
   ·rw[B9,Te k j l,B9]
    constructor
    ·rintro(h | h | h)
     ·exact .inr (.inl h)
     ·exact .inl h
     ·exact .inr (.inr h)
    ·rintro(h | h | h)
     ·exact .inr (.inl h)
     ·exact .inl h
     ·exact .inr (.inr h)
theorem wy(k:Int):∀l:List Int,l.Pairwise (·<·)→(Td k l).Pairwise (·<·)
 | [],_=>by simp[Td]
 | a::l,h=>by
  obtain⟨h1,h2⟩:=F6.mp h;unfold Td;split
  ·rename_i c;refine F6.mpr ⟨λx hx=>?_,h⟩;rcases B9.mp hx with z | z
   ·omega
   ·have:=h1 x z;omega
  ·split
   ·exact h
   ·refine F6.mpr ⟨λx hx=>?_,wy k l h2⟩
    rcases(Te k x l).mp hx with z | z
    ·omega
    ·exact h1 x z
def aq:List Int→List Int
 | []=>[]
 | a::l=>Td a (aq l)
def Dq(j:Int):∀ns:List Int,j∈aq ns↔j∈ns
 | []=>Iff.rfl
 | a::l=>by rw[aq,Te,Dq j l,B9]
def je:∀ns:List Int,(aq ns).Pairwise (·<·)
 | []=>.nil
 | a::l=>wy a _ (je l)
def aIk{ns ms:List Int}(h:ms.Pairwise (·<·))(m:∀k,k∈ms↔k∈ns):ms=aq ns:=qT h (je ns) λj=>(m j).trans (Dq j ns).symm
theorem RG(k:Int):∀l:List Int,(Td k l).length≤l.length+1
 | []=>by simp[Td]
 | a::l=>by
  unfold Td;split
  ·simp
  ·split
   ·simp
   ·have:=RG k l;simp only[E3];omega
def wz:∀ns:List Int,(aq ns).length≤ns.length
 | []=>C9 _
 | a::l=>by have:=RG a (aq l);have:=wz l;simp only[aq,E3];omega
theorem Tf{α:Type}[DecidableEq α]:∀{l m:List α},l.Nodup→(∀x∈l,x∈m)→m.length≤l.length→l.Perm m
 | [],m,_,_,h=>by have:m=[]:=N1 (by simpa using h);subst this;exact U8 _
 | a::l,m,hn,hs,hl=>by
  obtain⟨h1,h2⟩:=F1.mp hn;have ha:=hs a C8;have e:=List.perm_cons_erase ha;refine List.Perm.trans (List.Perm.cons a (Tf h2 (λx hx=>?_) ?_)) e.symm
  ·have ne:x≠a:=λz=>by rw[z]at hx;exact h1 hx
   exact(List.mem_erase_of_ne ne).mpr (hs x (C6 _ hx))
  ·rw[Z8 ha];simp only[E3]at hl;omega
theorem uK(val:Nat→Int):∀i,(Fa val i).Nodup
 | 0=>by rw[LF];exact i4
 | i+1=>by
  rw[HM];unfold step_dedup;have ih:=uK val i;split
  ·exact ih
  ·rename_i c;refine Q1.mpr ⟨ih,by simp,λx hx y hy=>?_⟩;rw[D2.mp hy];intro z;subst z;exact c (Q9.mpr ⟨_,hx,by simp⟩)
def aAR{ns ks ms:List Int}(hk:∀k,(Fa (λi=>ns.getD i 0) ns.length).any (·==k)=NU↔k∈ks)(hl:ks.length=(Fa (λi=>ns.getD i 0) ns.length).length)(hm:ms.Perm ks)(hs:ms.Pairwise (·≤·)):ms=aq ns:=by
 have gN:∀k,k∈ks↔k∈ns:=λk=>by
  rw[←hk,firstMet_any];have e:(D5 ns.length).map (λi=>ns.getD i 0)=ns:=by refine Z7 (by simp) λi h1 h2=>?_;simp[B7,h2]
  rw[e,Q9];exact⟨λ⟨x,hx,q⟩=>by rw[←(beq_iff_eq.mp q)];exact hx,λh=>⟨k,h,by simp⟩⟩
 have nd:ks.Nodup:=by have p:=Tf (uK (λi=>ns.getD i 0) ns.length) (m:=ks) (λx hx=>(hk x).mp (Q9.mpr ⟨x,hx,by simp⟩)) (by omega);exact p.nodup_iff.mp (uK _ _)
 refine aIk ?_ λk=>(hm.mem_iff).trans (gN k);have ndm:=hm.nodup_iff.mpr nd;exact(hs.and ndm).imp λq=>by have:=q.1;have:=q.2;omega
section
variable{x y:Str}{pos cq:Pos}
def aFg{T id:String}{r:V→Hp→VK→Prop}(hc:∀(aE:List (AF×Obj))(s:AG)(σ:St)(H:Hp)(v:V)(u:AE)(Q:VK),Inv X aE σ H s→RelV v u→r v H Q→AL (AM X.prog X.w) X.A (call (.type T) [u]) (λu' s'=>AL (AM X.prog X.w) X.A (call (.builtin id) [u']) (EP X aE σ Q) X.xe s') X.xe s)
 (ha:PE X e t) (hg:Gl X x) (hm:X.mg x=sx) (hv:AZ x=NR (.builtin id)) (nX:Gl X y) (ng:X.mg y=sx) (nh:AZ y=NR (.type T)) (hn:x ≠ "__name__" := by decide) (cm:(x==("__debug__":Str))=NV:=by decide) (eB:y ≠ "__name__" := by decide) (jf:(y==("__debug__":Str))=NV:=by decide)
 (he:AJ [e] X.env=[(NV,AU e X.env)]:=by rfl) (kz:AJ [.Call (.Name y p2) [e] [] cq] X.env=[(NV,AU (.Call (.Name y p2) [e] [] cq) X.env)]:=by rfl) :
 PE X (.Call (.Name x p) [.Call (.Name y p2) [e] [] cq] [] pos) (tUn r t):=by
 intro aE s σ H Q I h;refine BF (vZ I hg hm hv ?_ hn cm);refine W7 ?_ kz U;rw[kz];refine BY (BF (vZ I nX ng nh ?_ eB jf));refine L4 ?_ he U;rw[he];exact BY (iY (ha aE s σ H _ I h) λu s1 ⟨v,H1,I1,r1,q1⟩=>CF (iY (hc aE s1 σ H1 v u Q I1 r1 q1) λu' s' z=>CF z))
def Inv.drew(J:Inv X aE σ H s)(dr:Ic):Inv X aE σ H {s with drawn:=dr}:=⟨J.ok,J.os,J.bare,J.base,J.loc,J.cell,J.free,J.zR,J.pin,J.hok,J.len⟩
def aGE(K:aG):V→Hp→VK→Prop:=λv H Q=>∃(p:AF)(ns:List Int),v=.ref p∧oU K H p (ns.map V.int)∧ns.length<64∧∀l,H l=sx→Q (.ref l) (upd H l (.lst ((aq ns).map V.int)))
def aIl(hc:X.calm=NU)(aE:List (AF×Obj))(s:AG)(σ:St)(H:Hp)(v:V)(u:AE)(Q:VK)(I:Inv X aE σ H s)(rv:RelV v u)(h:aGE X.K v H Q):
 AL (AM X.prog X.w) X.A (call (.type "set") [u]) (λu' s'=>AL (AM X.prog X.w) X.A (call (.builtin "sorted") [u']) (EP X aE σ Q) X.xe s') X.xe s:=by
 obtain⟨p,ns,rfl,hq,h64,q⟩:=h;cases rv;obtain⟨af,r,pl,hz⟩:=I.list hq;have ag:=r.length;rw[B8]at ag;refine aJ8 (af:=af.toArray) (ns:=ns) (I.ok.hd hc) pl.isList (by simpa using intsAre_of r) (by rw[D3];unfold DB;omega) λh1 tk1 S1 kp1=>?_;have I1:Inv X aE σ H {s with heap:=h1,toks:=tk1}:=I.kept (t':=tk1) kp1;have ez:af.toArray.size=ns.length:=by simp[ag]
 rw[ez]at S1;have hfl:=II (λi=>ns.getD i 0) ns.length;refine Calls.call_function_entry kind_sorted plain_sorted entry_sorted (args_sorted1 _) ?_;unfold EB.«sorted»;refine AH (m:=checkCount "sorted" 1 1 _) (wpAny_pure (AH (RD (A:=X.A.in1) (I.ok.hd hc) S1 (P4 (tY (by omega))) λh2 dr tk2 bo kp2 od=>?_)));obtain⟨al,ks,ik,mk⟩:=od;have lP:ks.length=bo.length:=(IntsAre.length ik).symm;refine AH (wpAny_newList ?_ (by rw[al];exact P4 (tY (by omega))));have qh:(h2.push (IE "list" bo.toArray 0)).get? h2.objs.size=NR (IE "list" bo.toArray 0):=AR _ U;refine AH (CD (CA slot_list_sort ⟨_,qh,U⟩ entry_list_sort (list_sort_tree qh ik (by omega) λout ns' a1 a2 a3=>⟨_,U,?_⟩) (args_list_sort _)));refine wpAny_pure ⟨_,U,?_⟩;obtain⟨e,he⟩:=sortedHeap_at (out:=out) qh;have I2:Inv X aE σ H {s with heap:=h2,drawn:=dr,toks:=tk2}:=(I1.kept (t':=tk2) kp2).drew dr;have hs:H h2.objs.size=sx:=I2.hok.fresh (C9 _);have hl2:ns'.length=ks.length:=a2.length_eq;have I3:=I2.laid (t':=tk2) (a:=h2.objs.size) (o:=.lst (ns'.map V.int)) (h':=sortedHeap (h2.push (IE "list" bo.toArray 0)) h2.objs.size bo out)
  (λb o eb=>by
   have dA:=AN eb;rw[sortedHeap_old (F3 dA) (by rw[BE];exact N8 dA)];exact AI _ eb) (C9 _)
  ⟨by rw[B8];exact P4 (tY (by omega)),out.toList,e,Dg a1,by simpa[IE]using he⟩
 rw[aAR mk (by omega) a2 a3]at I3;exact⟨.ref _,_,I3,U,q _ hs⟩
end
section
variable{prog:AQ}
end
section
variable{x y:Str}{pos cq:Pos}
def tG(φ:D→Option D)(f:FE):FE:=λe=>(f e).bind φ
def xf:D→Option D
 | .lst ds=>(intsOf ds).bind λns=>if ns.length<64 then NR (.lst ((aq ns).map D.int))else sx
 | _=>sx
def aFh(h:XR K X e t f)(hg:Gl X x)(hm:X.mg x=sx)(hv:AZ x=NR (.builtin "sorted")) (nX:Gl X y) (ng:X.mg y=sx) (nh:AZ y=NR (.type "set")) (hc:X.calm=NU:=by rfl) (hn:x ≠ "__name__" := by decide) (cm:(x==("__debug__":Str))=NV:=by decide) (eB:y ≠ "__name__" := by decide) (jf:(y==("__debug__":Str))=NV:=by decide)
 (he:AJ [e] X.env=[(NV,AU e X.env)]:=by rfl) (kz:AJ [.Call (.Name y p2) [e] [] cq] X.env=[(NV,AU (.Call (.Name y p2) [e] [] cq) X.env)]:=by rfl) :
 XN K X (.Call (.Name x p) [.Call (.Name y p2) [e] [] cq] [] pos) (tUn (aGE K) t) (tG xf f):=⟨h.hk,aFg (by have:=h.hk;subst this;exact aIl hc) h.pe hg hm hv nX ng nh hn cm eB jf he kz,λσ H e d Q re q k=>by
 obtain⟨d0,q1,q2⟩:=aZ q;unfold xf at q2;split at q2
 ·obtain⟨ns,q3,q4⟩:=aZ q2;split at q4
  ·rename_i hl;cases q4;refine h.ev σ H H e _ _ (Zn.self K H) re q1 λv H1 Z1 s1 t1 z1 rv=>?_;obtain⟨p,rfl,r2⟩:=Bb q3 (z1.sm.rv _ _ rv);exact⟨p,ns,U,r2,hl,λl hl=>k _ _ (s1.trans (cR hl _)) ((vD (aW.refl _) (.gR (fK _) (lV.mpr U)) hl).back s1)⟩
  ·cases q4
 ·cases q2⟩
end
open PySem.W Att
abbrev Small(k:Int):Prop:=Cf k≤1048576
def aCG{ns:List Int}(h:WData.layableAll [WData.list (ns.map WData.int)]=NU):∀k∈ns,Small k:=λk hk=>by
 have h1:(WData.list (ns.map WData.int)).layable=NU:=by simpa[WData.layableAll]using h
 obtain⟨c,_,w⟩:=layableW_iff.mp h1;have c':WData.canLayAll (ns.map WData.int)=NU:=by simpa[WData.canLay]using c
 have w':WData.weightAll (ns.map WData.int)≤2 ^ 20:=by simpa[WData.weight]using w
 have:=(items_part (J4.mpr ⟨k,hk,U⟩) c').2.2;have e:(WData.int k).weight=Cf k:=by simp only[WData.weight,Cf]
 rw[e]at this;exact G1 this w'
def RJ{l:OpenLaw}{n:Nat}{q:AQ}{loose:List Str}{XP:(Str→Option AE)→Heap→Prop}{YP:AS→Heap→Prop}{d:DefRec}(hn:l.most=NR n)(sK:d.params.defaults=[])
 (call:∀(w:AS)(s₀ s₁:AG)(mg mb:Str→Option AE)(fa:AF)(o:Obj)(pm cd bX:AE)(a:AF)(vs:List AE)(ns:List Int),Ground q loose [] XP w s₀ mg mb s₁.heap→YP w s₁.heap →
  s₁.heap.get? fa=NR o→o.data=.func (docDef d.name d.params d.body d.scope pm cd bX)→s₁.heap.CodeRec cd d.name→mg d.name=NR (.ref fa) →
  s₁.heap.get? a=NR {cls:=.type "list",data:=.seq vs.toArray}→EL vs ns→ns.length≤n→(∀k∈ns,Small k)→s₁.gens=#[] →
  Cn (AM l.prog w) FM (.call (.ref fa) ⟨[.ref a],[]⟩) (λr s'=>r=.ok (.ret (.bool NU))∧OldK s₁.heap s'.heap∧s'.os=s₁.os∧Da s'.gens) s₁) :
 WalkO q loose XP YP l.row.toRowW d [] (λf vs=>u8 f vs):=by
 intro w s₀ s₁ mg mb G Y fa o pm cd bX dV kV ho hd hcd hD om hg args vals as kr hlay hrd hwl fT;obtain rfl:dV=.none:=Dflts.none hD sK;obtain rfl:kV=.none:=Dflts.noKw hD;obtain⟨a,vs,ns,rfl,rfl,ny,hints,ag⟩:=aAu hn kr hwl;refine enter_call (DJ (call w s₀ s₁ mg mb fa o pm cd bX a vs ns G Y ho (fd_plain hd) hcd om ny hints ag (aCG hlay) hg) λr s' hq=>?_);obtain⟨rfl,h2,h3,h4⟩:=hq;exact⟨.inl ⟨.bool NU,.bool NU,[],rfl,λ_=>rfl,.bool NU,aAv l _,λ_=>⟨o9,λ_ hm=>(nomatch hm)⟩⟩,h2,h3,h4⟩
def aAS{l:u9}{n k:Nat}{q:AQ}{loose:List Str}{XP:(Str→Option AE)→Heap→Prop}{YP:AS→Heap→Prop}{d:DefRec}{K:LN→aG}{CX:AS→CXT}{sp:AS→Sp}{x:Str}(hn:l.most=NR n)(eB:n≤sizeLine)(sK:d.params.defaults=[])(hr:lB k FM)
 (hY:∀(w:AS)(h:Heap),YP w h→(K w.params).In h)
 (F:∀(w:AS)(mg:Str→Option AE)(fa:AF)(h:Heap),(K w.params).In h→h.Ns As mg→mg d.name=NR (.ref fa)→∃fd:BU,(∀(s:AG)(u:AE),GN s fd ⟨[u],[]⟩ [(x,u)])∧∀base:Heap,(K w.params).In base→base.Ns As mg→Ab l.prog w (K w.params) mg base (CX w) k fa fd [x] (sp w))
 (gE:∀(w:AS)(H:Hp)(a:AF)(ns:List Int),ns.length≤n→(∀k∈ns,Small k)→Only H→oU (K w.params) H a (ns.map V.int)→sp w [.ref a] H (λv _=>v=.bl NU) λ_ _ _=>False)
 (hCX:∀(w:AS)(H:Hp)(s:AG)(e:AE)(s':AG),CX w [] H s (λ_ _ _=>False) e s'→False) :
 z8 q loose XP YP l.row.toRowW d [] (λf vs=>u8 f vs):=by
 refine RJ hn sK λw s₀ s₁ mg mb fa o pm cd bX a vs ns G Y ho hd hcd om ny hints ag rh hg=>?_;have KX:=hY w _ Y;obtain⟨fd,hb,hF⟩:=F w mg fa _ KX G.T.g om;exact aB8 KX G.T.g G.T.b G.T.builtins G.T.nolimit hg ny hints (G1 ag eB) hr hF hb (λH hO hS=>gE w H a ns ag rh hO hS) λH e s'=>hCX w H s₁ e s'
def spB(K:aG):Sp:=λvs H Q _=>∃(a:AF)(ns:List Int),vs=[.ref a]∧oU K H a (ns.map V.int)∧ns.length≤63∧(∀k∈ns,Small k)∧∀H',Q (.bl NU) H'
def Fun.okB{P:AQ}{w:AS}{K:aG}{mg:Str→Option AE}{base:Heap}{x:Str}{st:AO}{N:List Str}{k:Nat}{g:GS}{f:AF}{fd:BU}(F:Fun K x x st f fd)(S:bA N ["script"] (aK st))
 (bS:∀(ai:AE)(A:AV)(outer:List Env)(s:AG)(H:Hp)(E:XK),lB k (A.deeper (CH x (aK st) s.heap.objs.size f ai))→∃t,YB K (Hu MJ P w K mg base N x (aK st) f ai A outer s H E).sy (cM st) t g)
 (aIm:∀ns:List Int,ns.length≤63→(∀k∈ns,Small k)→oH N.length 1 g [.lst (ns.map D.int)]=NR (.bl NU)):Ab P w K mg base MJ (k+1) f fd ["script"] (spB K):=by
 refine F.ok S (λvs H Q E h=>?_) (λai A outer s H vs Q E hr h=>?_)
 ·obtain⟨a,ns,rfl,_⟩:=h;rfl
 obtain⟨a,ns,rfl,hS,hl,hb,q⟩:=h;obtain⟨t,yb⟩:=bS ai A outer s H E hr;have h3:=aIm ns hl hb;have rv:eO K H [.lst (ns.map D.int)] [.ref a]:=by unfold eO;exact⟨_,_,U,by unfold Rv;exact⟨a,_,U,hS,lV.mpr U⟩,by unfold eO;rfl⟩
 refine⟨t,yb.ps,yb.ev H _ _ H ([D.lst (ns.map D.int)].map SD.fro++E9 (N.length-1) SD.no) (Lh rv) ?_⟩;unfold oH at h3;rw[sk (show [D.lst (ns.map D.int)].length=1 from rfl)]at h3;cases qq:g ([D.lst (ns.map D.int)].map SD.fro++E9 (N.length-1) SD.no)with
 | ret d'=>
  rw[qq]at h3;cases h3;refine λv H' A' s' o=>?_;have:=Ow.rv _ _ _ o;unfold Rv at this;subst this;exact q _
 | _=>rw[qq]at h3;cases h3
section
variable{a:AK}{es:List AK}{g:FE}{pos:Pos}
variable{lo hi:Option AK}{fl fh:FO}
end
section
variable{h':Heap}
def Inv.turns{t':Nat}{ch:List AF}(I:Inv X aE σ H s)(hf:∀b∈ch,Hq X aE H b)(k:∀b o,b∉ch→s.heap.get? b=NR o→h'.get? b=NR o):Inv X aE σ H {s with heap:=h',toks:=t'}:=by
 have qf:∀b u,H b=NR u→b∉ch:=λb u e z=>by have:=(hf b z).1;rw[this]at e;cases e
 refine I.step (g':=s.gens) (d':=s.drawn) (ch:=ch) (λb hb=>⟨(hf b hb).2.2.2.1,(hf b hb).2.1,(hf b hb).2.2.2.2.1,(hf b hb).2.2.2.2.2⟩) (λb o _ _ hc e _=>k b o hc e) (λb o _ _ hc e _=>⟨o.slots,k b o hc e⟩) (λ_ _ _ _ n=>n)
  (λb o hc e=>⟨o,k b o hc e⟩) (λ_ _ e=>e) (λ_ _ _ e=>e) (λb ps e=>⟨#[],by rw[e];simp⟩) (λm hm=>?_) (λb u e=>?_) I.bare
 ·obtain⟨o,es,ep,ho,r⟩:=hm;exact⟨o,es,ep,k _ o (λz=>(hf _ z).2.1 U) ho,r⟩
 ·refine(I.hok b u e).stay (λc v hc q=>k c v ?_ q) (λ_ q=>q) λ_ _ q=>q;rcases hc with z | z
  ·rw[z];exact qf b u e
  ·exact qf c _ z
def Hq.upd{b p:AF}(h:Hq X aE H b)(ne:b≠p):Hq X aE (upd H p o) b:=⟨by rw[bQ ne];exact h.1,h.2⟩
end
section
variable{a:AK}{es:List AK}{g:FE}{pos:Pos}{x:Str}
def aFi{e:DE}{fr:List Nat}{x:V}(re:yE K H e σ)(r:Rv K H d x)(r':Rv K H d' y):yE K H (NR d::NR d'::nZ e fr) (NR x::NR y::Vv σ fr):=λi w h=>by
 cases i with
 | zero=>simp at h;subst h;exact⟨x,rfl,r⟩
 | succ i=>rw[R5]at h ⊢;exact vm re r' i w h
abbrev xg(K:aG):TG:=Vr K 2 (tu (iZ 0) (tu (iZ 1) aHk))
def aFj{scope:BQ}{y z:Str}{py pz eD:Pos}{tk:Nat}(hc:X.calm=NU)(hN:N.Nodup)(h0:N[0]?=NR y)(h1:N[1]?=NR z)(hy:(qZ scope X.env.scope).names.lookup y=NR .local)(hz:(qZ scope X.env.scope).names.lookup z=NR .local):
 ∀cl fp s H C,PG (jF X scope N cl fp s H C) (.Tuple [.Name y py,.Name z pz] tk eD) (xg X.K):=λ_ _ _ _ _=>Zz hc (oW (fJ hN h0 (D8 hy) (D7 hy)) (oW (fJ hN h1 (D8 hz) (D7 hz)) Pa))
end
section
variable{env:EN}
def Rel.aCI(h:Rel K B env σ H)(e:env[i]?=NR (.inn v d)):Rel K B (env.set i (.own d)) σ H∧σ[i]?=NR (NR v):=by obtain⟨A,a,b⟩:=h;obtain⟨y,A1,C,h1,h2,h3,h4,k⟩:=a.focus e;obtain⟨rfl,o⟩:=h4;have eA:A=gG A1 C:=funext λx=>propext (h3 x);subst eA;have s:=k _ (λ_ _ _ _ q=>q) (.own d) (NR v) A1 h2 ⟨v,U,o⟩;rw[set_same h1]at s;exact⟨⟨_,s,b⟩,h1⟩
def Rel.aCJ(h:Rel K B env σ H)(e:env[i]?=NR (.own d))(hv:σ[i]?=NR (NR v)):Rel K B (env.set i (.inn v d)) σ H:=by obtain⟨A,a,b⟩:=h;obtain⟨y,A1,C,h1,h2,h3,h4,k⟩:=a.focus e;obtain⟨v',rfl,o⟩:=h4;rw[hv]at h1;cases h1;have eA:A=gG A1 C:=funext λx=>propext (h3 x);subst eA;have s:=k _ (λ_ _ _ _ q=>q) (.inn v d) (NR v) A1 h2 ⟨U,o⟩;rw[set_same hv]at s;exact⟨_,s,b⟩
end
section
variable{st:AO}{t u tb:TS}{a:AK}{es:List AK}{t0:TE}{f0:FE}{gk:FE}{fs:FA}{pos:Pos}
def Tg(i:Nat)(f:FE)(g:GS):GS:=λenv=>match f (rE env)with
 | some (.lst xs)=>yK i g xs env
 | _=>.bad
def aFk(h:Nq K te f)(hb:DS K tb g):DS K (Qo (aCr K te) (iZ i) tb) (Tg i f g):=λB E σ H env r p=>by
 unfold Tg at p;split at p
 ·rename_i xs q;refine .inl (h σ H (rE env) _ _ r.r q λv H1 s n=>?_);obtain⟨A,a,bb⟩:=r;obtain⟨N,o,fr⟩:=n;have cl:=iR a;have ap:Apart N A:=λx z1 z2=>by obtain⟨⟨w,ew⟩,_⟩:=cl x z2;rw[fr x z1]at ew;cases ew
  have cl1:∀x,A x→wN H1 x:=λx hx=>(iR (a.mono λe D y _ qq=>qq.same s (bT s λx q=>.inl q)) x hx).2;have rz:Rv K (out H1 A) (.lst xs) v:=o.out ap cl1;have sB:Rel K (out H1 A) env σ H1:=⟨A,a.mono λe D y _ qq=>qq.same s (bT s λx q=>.inl q),aW.refl _⟩
  have bz:aW B (out H1 A):=bb.trans (bT s λx q=>.inl q);have p':=p.mono bz;unfold Rv at rz;obtain⟨pa,vs,rfl,sq,bp⟩:=rz;have hl:=bp.length;refine⟨pa,U,⟨vs,(jA H1 A).seq sq⟩,?_⟩;generalize out H1 A=Z1 at *;refine Hw Rh (λk σ2 H2=>∃cU,Rel K Z1 cU σ2 H2∧Lf K Z1 E (yK i g (xs.drop k) cU)) ⟨env,sB,by simpa using p'⟩ (λk σ2 H2 _ ⟨cU,⟨A2,a2,b2⟩,_⟩=>(b2.trans (jA H2 A2)).seq sq) ?_ ?_
  ·rintro k x σ2 H2 hx ⟨cU,r2,p2⟩;have hk:k<xs.length:=by obtain⟨h1,_⟩:=D4.mp hx;omega
   rw[L8 hk]at p2;unfold yK at p2;obtain⟨x',fN,rx⟩:=bp.get (B6 hk);rw[hx]at fN;cases fN;split at p2
   ·rename_i ag;obtain⟨A2,a2,b2⟩:=r2;have r3:Rel K Z1 (cU.set i (.fro xs[k])) (σ2.set i (NR x)) H2:=Il a2 b2 ag (aW.refl _) (aW.refl _) (Fz a2) (b2.rv _ _ rx);refine hb Z1 _ _ H2 _ r3 ?_;split at p2
    ·rename_i aI q2;rw[q2];exact λσ' H' r'=>⟨aI,r',p2⟩
    ·rename_i aI q2;rw[q2];exact λσ' H' r'=>⟨aI,r',p2⟩
    ·rename_i aI q2;rw[q2];exact p2
    ·rename_i n1 n2 n3;cases q2:g (cU.set i (.fro xs[k]))with
     | next e=>exact absurd q2 (n1 e)
     | cont e=>exact absurd q2 (n2 e)
     | brk e=>exact absurd q2 (n3 e)
     | ret d=>rw[q2]at p2;exact p2
     | bad=>rw[q2]at p2;exact p2
     | rete d e=>rw[q2]at p2;exact p2
   ·exact p2.elim
  ·rintro σ2 H2 ⟨cU,r2,p2⟩;rw[hl,S8]at p2;exact p2 σ2 H2 r2
 ·exact p.elim
def aFl{body:List AO}(hp:EC (AM X.prog X.w) X.A X.env X.xe)(DX:X.calm=NU)(h:XN K X e te f)(hg:PG X tg (iZ i))(hb:YB K X body tb g)(hs:∀x,BD e X.env x=pure x:=by intro _;rfl):YS K X (.For tg e body [] pos) (Qo (aCr K te) (iZ i) tb) (Tg i f g):=
 ⟨Qq hp DX (jK (tg:=tg) h.r).pi hg hb.ps hs,aFk h.ev hb.ev⟩
end
section
variable{α β:Type}{R:α→Fp→β→Prop}
theorem fY.Li:∀{ds:List α} {A:Fp} {ys:List β} {d:α} {y:β},fY R (ds++[d]) A (ys++[y])→∃A0 A1,fY R ds A0 ys∧R d A1 y∧Apart A0 A1∧Is A (gG A0 A1)
 | [],A,ys,d,y,h=>by
  obtain⟨y0,yt,A1,A2,h1,h2,h3,h4,h5,h6⟩:=h;subst h6;cases ys with
  | nil=>
   cases h1;exact⟨nil,A1,⟨λ_ z=>z,U⟩,h4,λ_ z=>z.elim,λx=>⟨λq=>((h3 x).mp q).elim .inr λz=>absurd z (h5 x),λq=>q.elim False.elim λz=>(h3 x).mpr (.inl z)⟩⟩
  | cons z zs=>
   injection h1 with _ h1;cases zs<;>cases h1
 | d0::ds,A,ys,d,y,h=>by
  obtain⟨y0,yt,A1,A2,h1,h2,h3,h4,h5⟩:=h;have hl:=h5.len;cases ys with
  | nil=>injection h1 with _ h1;subst h1;have hl:0=(ds++[d]).length:=hl;rw[D1]at hl;simp at hl
  | cons z zs=>
   injection h1 with e1 e2;subst e1 e2;obtain⟨B0,B1,k1,k2,k3,k4⟩:=fY.Li h5;refine⟨gG A1 B0,B1,⟨z,zs,A1,B0,U,λx q q'=>h2 x q ((k4 x).mpr (.inl q')),λx=>Iff.rfl,h4,k1⟩,k2,λx q q'=>?_,λx=>?_⟩
   ·rcases q with q | q
    ·exact h2 x q ((k4 x).mpr (.inr q'))
    ·exact k3 x q q'
   ·rw[h3 x]
    constructor
    ·rintro(q | q)
     ·exact .inl (.inl q)
     ·exact((k4 x).mp q).elim (λz=>.inl (.inr z)) .inr
    ·rintro((q | q) | q)
     ·exact .inl q
     ·exact .inr ((k4 x).mpr (.inl q))
     ·exact .inr ((k4 x).mpr (.inr q))
end
section
variable{H':Hp}{env:EN}
def Rel.snoc(h:Rel K B env σ H)(s:aW H H')(n:Rp K H H' d v):Rel K B (env++[.own d]) (σ++[NR v]) H':=by obtain⟨A,a,b⟩:=h;obtain⟨N,o,f⟩:=n;have cl:=iR a;have g:aW (out H A) (out H' (gG A N)):=bT s λx q=>q.elim .inl λq=>.inr (f x q);refine⟨gG A N,fY.snoc (a.mono λe D z _ q=>q.same s g) ⟨v,U,o⟩ λx q1 q2=>?_,b.trans g⟩;obtain⟨⟨u,e⟩,_⟩:=cl x q1;rw[f x q2]at e;cases e
def Rel.pop{s:SD}{y:Option V}(h:Rel K B (env++[s]) (σ++[y]) H):Rel K B env σ H:=by obtain⟨A,a,b⟩:=h;obtain⟨A0,A1,k1,k2,k3,k4⟩:=a.Li;have g:aW (out H A) (out H A0):=bT (aW.refl _) λx q=>.inl ((k4 x).mpr (.inl q));exact⟨A0,k1.mono λe D z _ q=>q.same (aW.refl _) g,b.trans g⟩
def Rel.aCK(h:Rel K B (env++[.own d]) (σ++[NR v]) H):Rv K H d v:=by obtain⟨A,a,b⟩:=h;obtain⟨A0,A1,k1,⟨v',e,o⟩,k3,k4⟩:=a.Li;cases e;exact Ow.rv _ _ _ o
def Rel.move(h:Rel K B (env++[.own d]) (σ++[NR v]) H)(hi:i<env.length):Rel K B (env.set i (.own d)) (σ.set i (NR v)) H:=by obtain⟨A,a,b⟩:=h;obtain⟨A0,A1,k1,⟨v',e,o⟩,k3,k4⟩:=a.Li;cases e;obtain⟨y,B1,C,f1,f2,f3,f4,f5⟩:=k1.focus (B6 hi);have g:aW (out H A) (out H (gG A1 C)):=bT (aW.refl _) λx q=>.inl ((k4 x).mpr (q.elim .inr λq=>.inl ((f3 x).mpr (.inr q))));exact⟨gG A1 C,f5 (gY K H (out H (gG A1 C))) (λe D z _ q=>q.same (aW.refl _) g) (.own d) (NR v) A1 (λx q q'=>k3 x ((f3 x).mpr (.inr q')) q) ⟨v,U,o⟩,b.trans g⟩
def Rel.give(h:Rel K B env σ H)(e:env[i]?=NR (.own d)):∃v,σ[i]?=NR (NR v)∧Rel K B (env.set i .no++[.own d]) (σ++[NR v]) H:=by obtain⟨A,a,b⟩:=h;obtain⟨y,A1,C,h1,h2,h3,h4,k⟩:=a.focus e;obtain⟨v,rfl,o⟩:=h4;have eA:A=gG A1 C:=funext λx=>propext (h3 x);subst eA;have s:=k _ (λ_ _ _ _ q=>q) .no (NR v) nil (λ_ z=>z.elim) (λ_ z=>z);rw[set_same h1]at s;have s2:=fY.snoc (d:=SD.own d) (y:=NR v) (A1:=A1) s ⟨v,U,o⟩ (λx q q'=>q.elim False.elim (h2 x q'));have eA2:(gG (gG nil C) A1)=gG A1 C:=funext λx=>propext ⟨λq=>q.elim (λq=>q.elim False.elim .inr) .inl,λq=>q.elim .inr λq=>.inl (.inr q)⟩;rw[eA2]at s2;exact⟨v,h1,_,s2,b⟩
end
def jW(i:Nat)(g:GS):GS:=λenv=>match env[i]? with
 | some (.inn v d)=>(match g (env.set i (.own d))with
  | .next aI=>(match aI[i]? with
   | some (.own d')=>.next (aI.set i (.inn v d'))
   | _=>.bad)
  | _=>.bad)
 | _=>.bad
def aCL{t:TS}(h:DSs K t g):DSs K t (jW i g):=λB E σ H env r p=>by
 unfold jW at p;split at p
 ·rename_i v d q1;obtain⟨r',hσ⟩:=r.aCI q1;refine h B E σ H _ r' ?_;split at p
  ·rename_i aI q2;rw[q2];split at p
   ·rename_i d' q3;exact λH' r2=>p H' (r2.aCJ q3 hσ)
   ·exact p.elim
  ·exact p.elim
 ·exact p.elim
def Ge{st:AO}{t:TS}(i:Nat)(hp:PS X st t)(h:DSs K t g):YS K X st t (jW i g):=⟨hp,(aCL h).ds⟩
def aCM:GS:=λ_=>.bad
def FQ{st:AO}:YS K X st aBF aCM:=⟨aBG,λ_ _ _ _ _ _ p=>p.elim⟩
section
variable{st:AO}{t u tb:TS}{a o:AK}{es:List AK}{t0:TE}{f0:FE}{gk:FE}{fs:FA}{pos:Pos}
structure kW(K:aG)(C:AF)(nm:List Str):Prop where
 cl:Cls K C
 no:∀f∈nm,Fg K C f
def fP(C:AF)(x:Str)(d:D):Option D:=match d with
 | .ins C' nm ds=>if C'=C then(posK nm x).bind λj=>ds[j]? else sx
 | _=>sx
def aFm{x:Str}{r:D}(q:fP C x d=NR r)(rv:Rv K H d v):∃a dx fs y,v=.ref a∧H a=NR (.ins C dx fs)∧fs.lookup x=NR y∧Rv K H r y:=by
 unfold fP at q;split at q
 ·rename_i C' nm ds;split at q
  ·rename_i hc;subst hc;obtain⟨j,q1,q2⟩:=aZ q;unfold Rv at rv;obtain⟨a,dx,xs,rfl,h1,h2,h3⟩:=rv;obtain⟨y,h4,h5⟩:=h3.get q2;exact⟨a,dx,_,y,U,h1,by rw[Ga h2,q1];exact h4,h5⟩
  ·cases q
 ·cases q
def dO{nm:List Str}{x:Str}(F:kW K C nm)(h:XR K X e ta f)(hx:x∈nm)(hb:Co e x X.env (AU e X.env)=AU e X.env):XR K X (.Attribute e x pos) (aHs K ta x) (tG (fP C x) f):=⟨h.hk,by have:=h.hk;subst this;exact aBS h.pe hb,λσ H Z e d Q z re q k=>by
 obtain⟨d0,q1,q2⟩:=aZ q;refine h.ev σ H Z e d0 _ z re q1 λv H1 Z1 s1 t1 z1 rv=>?_;obtain⟨a,dx,fs,y,rfl,h1,h2,h3⟩:=aFm q2 rv;exact⟨a,C,dx,fs,y,U,z1.sm _ _ h1,F.cl,F.no x hx,h2,k y H1 Z1 s1 t1 z1 h3⟩⟩
def aAT{x:Str}{w:V}(h:stepV H (.fld C x) w=NR v):∃a dx fs,w=.ref a∧H a=NR (.ins C dx fs)∧fs.lookup x=NR v:=by
 cases w with
 | ref a=>
  cases q:H a with
  | none=>unfold stepV at h;dsimp only at h;rw[q]at h;cases h
  | some u=>
   unfold stepV at h;dsimp only at h;rw[q]at h;cases u with
   | ins C' dx fs=>
    have h2:(if C'=C then fs.lookup x else sx)=NR v:=h;by_cases hc:C'=C
    ·rw[sk hc]at h2;rw[←hc];exact⟨a,dx,fs,U,q,h2⟩
    ·rw[sv hc]at h2;cases h2
   | _=>cases h
 | _=>unfold stepV at h;cases h
def Ad(C:AF)(x:Str)(π:FP):FP:=λe=>(π e).bind λp=>NR (p++[.fld C x])
def oJ{nm:List Str}{x:Str}(F:kW K C nm)(h:XP K X a ta i π)(hx:x∈nm)(hb:Co a x X.env (AU a X.env)=AU a X.env):XP K X (.Attribute a x pos) (aHs K ta x) i (Ad C x π):=⟨h.hk,by have:=h.hk;subst this;exact aBS h.pe hb,λσ H e v0 p v Q re h1 h2 h3 k=>by
 unfold Ad at h2;obtain⟨p0,q1,q2⟩:=aZ h2;cases q2;obtain⟨w,w1,w2⟩:=Ss h3;obtain⟨ad,dx,fs,rfl,w3,w4⟩:=aAT w2;exact h.ev σ H e v0 p0 _ _ re h1 q1 w1 λH1 s1=>⟨ad,C,dx,fs,v,U,s1 _ _ w3,F.cl,F.no x hx,w4,k H1 s1⟩⟩
end
theorem RK{x:Str}{y:V}:∀{nm:List Str} {xs:List V},nm.length=xs.length→Aa x y (nm.zip xs)=(match posK nm x with | some j=>nm.zip (xs.set j y) | none=>(nm++[x]).zip (xs++[y]))
 | [],xs,h=>by
  cases xs with
  | nil=>rfl
  | cons=>simp at h
 | a::nm,[],h=>by simp at h
 | a::nm,z::xs,h=>by
  have ih:=RK (x:=x) (y:=y) (nm:=nm) (xs:=xs) (by simpa using h);rw[R7];unfold Aa posK;by_cases c:a=x
  ·rw[sk c,sk c];rfl
  ·rw[sv c,sv c,ih];cases q:posK nm x with
   | none=>rfl
   | some j=>rfl
section
variable{env:EN}
def aAU{fs:List (Str×V)}(h:H a=NR (.ins C dx fs)):wN H a:=⟨λys e=>(by rw[h]at e;cases e),λo ys e=>(by rw[h]at e;cases e)⟩
def Rel.aLQ{p:List Step}{nm:List Str}{ds:List D}(h:Rel K B env σ H)(e:env[i]?=NR (.own d0))(q:gJ p d0=NR (.ins C nm ds)):∃v0 a dx xs Bs,σ[i]?=NR (NR v0)∧Oq H p v0=NR (.ref a)∧H a=NR (.ins C dx (nm.zip xs))∧nm.length=xs.length∧eQ K H ds Bs xs ∧
 ∀H2 nm' bE cp Bn,aW H H2→nm'.length=cp.length→eQ K H2 bE Bn cp→(∀b,Bn b→Bs b∨H b=sx)→Rel K B (env.set i (.own (fO p d0 (.ins C nm' bE)))) σ (upd H2 a (.ins C dx (nm'.zip cp))):=by
 obtain⟨v0,w,A1,Cc,h1,h2,h3,h4,h5,h6⟩:=h.at e q;have hc:=Ow.cells _ _ _ h3;unfold Ow at h3;obtain⟨a,dx,xs,Bs,rfl,o2,kx,o3,o3',aLR,o4,o5⟩:=h3;refine⟨v0,a,dx,xs,Bs,h1,h2,o2,o3,o5,λH2 nm' bE cp Bn s hl o hb=>?_⟩;have nad:dx≠a:=λz=>by rw[z,o2]at kx;cases kx
 have kP:¬Bn a:=λz=>(hb a z).elim o3' λz=>by rw[o2]at z;cases z
 have nBd:¬Bn dx:=λz=>(hb dx z).elim aLR λz=>by rw[kx]at z;cases z
 have hC:∀x,Cc x→¬(x=a∨x=dx):=λx z y=>h4 x ((o4 x).mpr (.inl y)) z;have Wd:H2 a=NR (.ins C dx (nm.zip xs)):=s a _ o2;have nt:wN H2 a:=aAU Wd;refine h6 _ (.ins C nm' bE) (gG (λx=>x=a∨x=dx) Bn) (λx z1 z2=>?_) (λx z=>?_) (s.tk.trans (uJ nt)) ?_ (λx u ex=>?_)
 ·rcases z1 with z1 | z1
  ·exact hC x z2 z1
  ·rcases hb x z1 with z | z
   ·exact h4 x ((o4 x).mpr (.inr z)) z2
   ·obtain⟨⟨u,eu⟩,_⟩:=h5 x z2
    rw[z]at eu;cases eu
 ·obtain⟨⟨u,eu⟩,_⟩:=h5 x z
  rw[bQ (λy=>hC x z (.inl y)),eu,s x u eu]
 ·unfold Ow
  refine⟨a,dx,cp,Bn,U,cA,by rw[bQ nad];exact s dx _ kx,hl,kP,nBd,λ_=>Iff.rfl,eQ.frame (uJ nt) _ _ _ o λx zx=>bQ λy=>kP (y▸zx)⟩
 ·obtain⟨e1,e2⟩:=bF.mp ex
  have na:x≠a:=λy=>e1 (.inl ((o4 x).mpr (.inl (.inl y))));refine bF.mpr ⟨λz=>?_,by rw[bQ na];exact s x u e2⟩;rcases z with (z | z) | z
  ·exact e1 (.inl ((o4 x).mpr (.inl z)))
  ·rcases hb x z with z | z
   ·exact e1 (.inl ((o4 x).mpr (.inr z)))
   ·rw[z]at e2;cases e2
  ·exact e1 (.inr z)
end
section
variable{st:AO}{t u tb:TS}{a o:AK}{es:List AK}{t0:TE}{f0:FE}{gk:FE}{fs:FA}{pos:Pos}
def Yb(nm:List Str)(ds:List D)(x:Str)(d:D):List Str×List D:=match posK nm x with
 | some j=>(nm,ds.set j d)
 | none=>(nm++[x],ds++[d])
def wV(C:AF)(i:Nat)(π:FP)(x:Str)(f:FE):GS:=λenv=>match env[i]?,π (rE env),f (rE env)with
 | some (.own d0),NR p,NR d=>(match gJ p d0 with
  | some (.ins C' nm ds)=>if C'=C∧nm.length<900 then .next (env.set i (.own (fO p d0 (.ins C' (Yb nm ds x d).1 (Yb nm ds x d).2))))else .bad
  | _=>.bad)
 | _,_,_=>.bad
def aIn{x:Str}(F:kW K C iS)(hx:x∈iS)(h:EvP K ta i π)(he:Nq K te f):DSs K (aHt K ta te x) (wV C i π x f):=λB E σ H env r p=>by
 unfold wV at p;split at p
 ·rename_i d0 pp d q1 q2 q3;split at p
  ·rename_i C' nm ds q4;split at p
   ·rename_i hc;obtain⟨rfl,hl⟩:=hc;obtain⟨v0,a,dx,xs,Bs,k1,k2,k3,k4,k5,k6⟩:=r.aLQ q1 q4;refine he σ H (rE env) d _ r.r q3 λy H1 s1 n=>?_;refine h σ H1 (rE env) v0 pp _ _ (r.r.same s1) k1 q2 (Bd s1 k2) λH2 s2=>?_;have gL:=s1.trans s2;obtain⟨N,o,fr⟩:=n.same s2;refine⟨a,C',dx,_,U,gL _ _ k3,F.cl,F.no x hx,by rw[T9];omega,p _ ?_⟩;rw[RK k4];unfold Yb;cases qj:posK nm x with
    | none=>exact k6 H2 (nm++[x]) (ds++[d]) (xs++[y]) (gG Bs N) gL (by simp[k4]) (cQ.mpr ((cQ.mp (k5.same gL)).snoc o (FJ (H1:=H) k5 fr))) λb z=>z.imp id (fr b)
    | some j=>have hj:=(tD qj).1;have ag:=(eQ.rv _ _ _ k5).length;obtain⟨y0,A1,Cc,f1,f2,f3,f4,f5⟩:=(cQ.mp (k5.same gL)).focus (B6 (show j<ds.length by omega));have ap:Apart N Cc:=λx q1 q2=>FJ (H1:=H) k5 fr x ((f3 x).mpr (.inr q2)) q1;exact k6 H2 nm (ds.set j d) (xs.set j y) (gG N Cc) gL (by rw[J5];exact k4) (cQ.mpr (f5 (Ow K H2) (λ_ _ _ _ qq=>qq) d y N ap o)) λb z=>z.elim (λz=>.inr (fr b z)) λz=>.inl ((f3 b).mpr (.inr z))
   ·exact p.elim
  ·exact p.elim
 ·exact p.elim
end
section
variable{H':Hp}{env:EN}{p:List Step}
def oG.same(h:oG H a)(s:aW H H'):oG H' a:=by obtain⟨⟨o,e⟩,n⟩:=h;have e':=s _ _ e;exact⟨⟨o,e'⟩,λxs z=>n.1 xs (by rw[e,←e'];exact z),λu xs z=>n.2 u xs (by rw[e,←e'];exact z)⟩
def aCN{A:Fp}(c:∀x,A x→oG H x):Zn K A (out H A) H:=⟨jA H A,Ro λx q=>(c x q).2,λx q=>⟨by unfold out;rw[sk q],λz=>by obtain⟨⟨o,e⟩,_⟩:=c x q;rw[z]at e;cases e⟩⟩
def aGF{A:Fp}(z:Zn K A Z H):aW Z (out H A):=λx o e=>bF.mpr ⟨λq=>(by rw[(z.no x q).1]at e;cases e),z.sm x o e⟩
def Rel.atR(h:Rel K B env σ H)(e:env[i]?=NR (.own d0))(q:gJ p d0=NR d):∃v0 w A1 C,σ[i]?=NR (NR v0)∧Oq H p v0=NR w∧Ow K H d A1 w∧Apart A1 C∧(∀a,C a→oG H a)∧yE K (out H A1) (rE (env.set i .no)) σ ∧
 ∀H' d' r x A' A2,Apart A' C→Apart A2 C→Apart A' A2→(∀a,C a→H' a=H a)→Fq K H H'→Ow K H' d' A' w→Ow K H' r A2 x→aW (out H (gG A1 C)) (out H' (gG (gG A' A2) C))→Rel K B (env.set i (.own (fO p d0 d'))++[.own r]) (σ++[NR x]) H':=by
 obtain⟨A,a,b⟩:=h;have cl:=iR a;obtain⟨y,A1,C,h1,h2,h3,h4,k⟩:=a.focus e;obtain⟨v0,rfl,o⟩:=h4;obtain⟨w,B1,C1,g1,g2,g3,g4,g5⟩:=o.at q;refine⟨v0,w,B1,gG C1 C,h1,g1,g4,λx z1 z2=>?_,λx z=>?_,?_,λH' d' r x A' A2 ap apr apx fr tk o' o'' sm=>?_⟩
 ·exact z2.elim (g2 x z1) (h2 x ((g3 x).mpr (.inl z1)))
 ·exact cl x ((h3 x).mpr (z.elim (λz=>.inl ((g3 x).mpr (.inr z))) .inr))
 ·intro j dj qj
  unfold rE at qj;rw[C5]at qj;cases ej:(env.set i .no)[j]? with
  | none=>rw[ej]at qj;cases qj
  | some sd=>
   rw[ej]at qj;have ne:i≠j:=λz=>by subst z;rw[K0 (D4.mp e).1]at ej;cases ej;cases qj
   have S':=k (gY K H (out H A)) (λ_ _ _ _ q=>q) .no sx nil (λ_ z=>z.elim) λ_ z=>z;obtain⟨y,Ak,Ck,f1,f2,f3,f4,_⟩:=S'.focus ej;rw[G8,sv ne]at f1;have hB:∀x,B1 x→A x:=λx z=>(h3 x).mpr (.inl ((g3 x).mpr (.inl z)));have sL:Apart Ak B1:=λx z1 z2=>h2 x ((g3 x).mpr (.inl z2)) (((f3 x).mpr (.inl z1)).elim False.elim id);cases sd with
   | no=>cases qj
   | fro d1=>
    cases qj;obtain⟨_,v1,rfl,f5⟩:=f4;exact⟨v1,f1,(bT (aW.refl _) λx q=>.inl (hB x q):aW (out H A) (out H B1)).rv _ _ f5⟩
   | own d1=>
    cases qj;obtain⟨v1,rfl,f5⟩:=f4;exact⟨v1,f1,f5.out sL λx q=>(cl x (hB x q)).2⟩
   | inn v1 d1=>cases qj;obtain⟨rfl,f5⟩:=f4;exact⟨v1,f1,f5.out sL λx q=>(cl x (hB x q)).2⟩
 ·have o2:=g5 H' d' A' (λx z1 z2=>ap x z1 (.inl z2)) (λx z=>fr x (.inl z)) tk o'
  have ap2:Apart (gG A' C1) C:=λx z1 z2=>z1.elim (λz=>ap x z (.inr z2)) λz=>h2 x ((g3 x).mpr (.inr z)) z2;have hA:Is A (gG B1 (gG C1 C)):=λx=>by
   rw[h3 x];constructor
   ·rintro(z | z)
    ·exact((g3 x).mp z).elim .inl λz=>.inr (.inl z)
    ·exact .inr (.inr z)
   ·rintro(z | z | z)
    ·exact .inl ((g3 x).mpr (.inl z))
    ·exact .inl ((g3 x).mpr (.inr z))
    ·exact .inr z
  have g:aW (out H A) (out H' (gG (gG (gG A' C1) C) A2)):=λx u ex=>by
   obtain⟨e1,e2⟩:=bF.mp ex;have:=sm x u (bF.mpr ⟨λz=>e1 ((hA x).mpr z),e2⟩);obtain⟨e3,e4⟩:=bF.mp this;refine bF.mpr ⟨λz=>e3 ?_,e4⟩;rcases z with ((z | z) | z) | z
   ·exact .inl (.inl z)
   ·exact .inr (.inl z)
   ·exact .inr (.inr z)
   ·exact .inl (.inr z)
  have s:=k (gY K H' (out H' (gG (gG (gG A' C1) C) A2))) (λs D z hb qq=>by
   cases s with
   | no=>exact qq
   | fro d=>obtain⟨q1,v,q2,q3⟩:=qq;exact⟨q1,v,q2,g.rv _ _ q3⟩
   | inn v d=>exact⟨qq.1,Ow.frame tk _ _ _ qq.2 λx zx=>fr x (.inr (hb x zx))⟩
   | own d=>obtain⟨v,q1,q2⟩:=qq;exact⟨v,q1,Ow.frame tk _ _ _ q2 λx zx=>fr x (.inr (hb x zx))⟩) (.own (fO p d0 d')) (NR v0) (gG A' C1) ap2 ⟨v0,U,o2⟩
  rw[set_same h1]at s;refine⟨_,fY.snoc s ⟨x,U,o''⟩ λy z1 z2=>?_,b.trans g⟩;rcases z1 with (z | z) | z
  ·exact apx y z z2
  ·exact apr y z2 (.inl z)
  ·exact apr y z2 (.inr z)
def spS(K:aG)(m:Nat)(F:List D→Option (D×D)):Sp:=λvs H Q _=>∃d es v ws A r d',vs=v::ws∧es.length+1=m∧Ow K H d A v∧eO K (out H A) es ws∧F (d::es)=NR (r,d')∧∀w H' A' A2,Ow K H' d' A' v→Ow K H' r A2 w→Apart A' A2→aW (out H A) (out H' (gG A' A2))→Q w H'
def RL{m:Nat}{F:List D→Option (D×D)}{E:XK}{Q:VK}{es:List D}{r:D}(h:Rel K B env σ H)(e:env[i]?=NR (.own d0))(q:gJ p d0=NR d)(hl:es.length+1=m)(hF:F (d::es)=NR (r,d'))(k:∀w H',Rel K B (env.set i (.own (fO p d0 d'))++[.own r]) (σ++[NR w]) H'→Q w H'):
 ∃v0 w0 A1,σ[i]?=NR (NR v0)∧Oq H p v0=NR w0∧Ow K H d A1 w0∧yE K (out H A1) (rE (env.set i .no)) σ∧∀H2 vs,aW H H2→eO K (out H2 A1) es vs→spS K m F (w0::vs) H2 Q E:=by
 obtain⟨v0,w,A1,C,h1,h2,h3,h4,h5,h6,h7⟩:=h.atR e q;have c1:=Ow.cells _ _ _ h3;refine⟨v0,w,A1,h1,h2,h3,h6,λH2 vs s bp=>⟨d,es,w,vs,A1,r,d',U,hl,h3.same s,bp,hF,λx H3 A' A2 o1 o2 ap sm=>k x H3 ?_⟩⟩;have hC:∀y,C y→¬A' y∧¬A2 y∧H3 y=H y:=λy hy=>by obtain⟨⟨u,eu⟩,_⟩:=h5 y hy;obtain⟨n1,n2⟩:=bF.mp (sm y u (bF.mpr ⟨λz=>h4 y z hy,s y u eu⟩));exact⟨λz=>n1 (.inl z),λz=>n1 (.inr z),n2.trans eu.symm⟩
 have tk:Fq K H H3:=(Ro λx q=>(c1 x q).2).trans ((bT s λx q=>.inl q:aW (out H A1) (out H2 A1)).trans (sm.trans (jA _ _))).tk;refine h7 H3 d' r x A' A2 (λy z1 z2=>(hC y z2).1 z1) (λy z1 z2=>(hC y z2).2.1 z1) ap (λy hy=>(hC y hy).2.2) tk o1 o2 λy u ey=>?_;obtain⟨e1,e2⟩:=bF.mp ey;obtain⟨n1,n2⟩:=bF.mp (sm y u (bF.mpr ⟨λz=>e1 (.inl z),s y u e2⟩));exact bF.mpr ⟨λz=>z.elim n1 λz=>e1 (.inr z),n2⟩
def SD.hold:SD→Option (D×(D→SD))
 | .own d=>NR (d,.own)
 | .inn v d=>NR (d,.inn v)
 | _=>sx
def aCO{m:Nat}{F:List D→Option (D×D)}{E:XK}{Q:VK}{es:List D}{r:D}{back:D→SD}(h:Rel K B env σ H)(e:env[i]?.bind SD.hold=NR (d0,back))(q:gJ p d0=NR d)(hl:es.length+1=m)(hF:F (d::es)=NR (r,d'))(k:∀w H',Rel K B (env.set i (back (fO p d0 d'))++[.own r]) (σ++[NR w]) H'→Q w H'):
 ∃v0 w0 A1,σ[i]?=NR (NR v0)∧Oq H p v0=NR w0∧Ow K H d A1 w0∧yE K (out H A1) (rE (env.set i .no)) σ∧∀H2 vs,aW H H2→eO K (out H2 A1) es vs→spS K m F (w0::vs) H2 Q E:=by
 obtain⟨s,e1,e2⟩:=aZ e;cases s with
 | no=>cases e2
 | fro d=>cases e2
 | own d=>cases e2;exact RL h e1 q hl hF k
 | inn v d=>
  cases e2;obtain⟨r',hσ⟩:=h.aCI e1;have hi:i<env.length:=(D4.mp e1).1;have:=RL (E:=E) (Q:=Q) r' (K0 hi) q hl hF λw H' rr=>by
   rw[Z9]at rr;have r2:=rr.aCJ (i:=i) (v:=v) (d:=fO p d0 d') (by rw[F9 (by rw[J5];exact hi)];exact K0 hi) (by
    have hl:=h.len;rw[F9 (by omega)];exact hσ)
   rw[List.set_append_left _ _ (by rw[J5];exact hi),Z9]at r2;exact k w H' r2
  rw[Z9]at this;exact this
end
abbrev GM:=EN→Option (D×EN)
variable{gm:GM}
def EvM(K:aG)(t:TE)(g:GM):Prop:=∀(B:Hp)(σ:St)(H:Hp)(env:EN)(d:D)(aI:EN)(Q:VK),Rel K B env σ H→g env=NR (d,aI)→(∀v H',Rel K B (aI++[.own d]) (σ++[NR v]) H'→Q v H')→t σ H Q
structure XM(K:aG)(X:Cx)(e:AK)(t:TE)(g:GM):Prop where
 hk:X.K=K
 pe:PE X e t
 ev:EvM K t g
abbrev FA2:=DE→DE→Option (List D)
def aKb(K:aG)(t:TA)(fs:FA2):Prop:=∀(A1:Fp)(σ:St)(H:Hp)(eF eZ:DE)(ds:List D)(Q:List V→Hp→Prop),(∀x,A1 x→oG H x)→yE K H eF σ→yE K (out H A1) eZ σ→fs eF eZ=NR ds →
 (∀vs H',aW H H'→eO K (out H' A1) ds vs→Q vs H')→t σ H Q
structure XAB(K:aG)(X:Cx)(es:List AK)(t:TA)(fs:FA2):Prop where
 hk:X.K=K
 pa:PA X es t
 ev:aKb K t fs
section
variable{st:AO}{t u tb:TS}{g:GM}{a o:AK}{es rest:List AK}{t0:TE}{f0:FE}{fs:FA2}{td:TT}{gb gc:GB}{pos:Pos}
def oK:FA2:=λ_ _=>NR []
def Be(f:FE)(fs:FA2):FA2:=λeF eZ=>(f eZ).bind λd=>(fs eF eZ).map λr=>d::r
def faN(f:FE)(fs:FA2):FA2:=λeF eZ=>(f eF).bind λd=>(fs eF eZ).map λr=>d::r
def nG(hk:X.K=K:=by rfl):XAB K X [] oX oK:=⟨hk,jE,λA1 σ H eF eZ ds Q c re rz q k=>by
 cases q;exact k [] H (aW.refl _) (by unfold eO;rfl)⟩
def jD(h:XR K X e te f)(hs:XAB K X es tA fs)(bt:AJ (e::es) X.env=(NV,AU e X.env)::AJ es X.env:=by rfl):XAB K X (e::es) (dF te tA) (Be f fs):=⟨h.hk,cZ h.pe hs.pa bt,λA1 σ H eF eZ ds Q c re rz q k=>by
 obtain⟨d,q1,q2⟩:=aZ q;obtain⟨bE,q3,rfl⟩:=kJ q2;refine h.ev σ H (out H A1) eZ d _ (aCN c) rz q1 λv H1 Z1 s1 t1 z1 rv=>?_;refine hs.ev A1 σ H1 eF eZ bE _ (λx q=>(c x q).same s1) (re.same s1) (rz.same (bT s1 λx q=>.inl q)) q3 λvs H2 s2 bp=>?_;refine k (v::vs) H2 (s1.trans s2) ?_;unfold eO;exact⟨v,vs,U,((aGF z1).trans (bT s2 λx q=>.inl q)).rv _ _ rv,bp⟩⟩
def RM(h:XN K X e te f)(hs:XAB K X es tA fs)(bt:AJ (e::es) X.env=(NV,AU e X.env)::AJ es X.env:=by rfl):XAB K X (e::es) (dF te tA) (faN f fs):=⟨h.hk,cZ h.pe hs.pa bt,λA1 σ H eF eZ ds Q c re rz q k=>by
 obtain⟨d,q1,q2⟩:=aZ q;obtain⟨bE,q3,rfl⟩:=kJ q2;refine h.ev σ H eF d _ re q1 λv H1 s1 n=>?_;have c1:∀x,A1 x→oG H1 x:=λx q=>(c x q).same s1;refine hs.ev A1 σ H1 eF eZ bE _ c1 (re.same s1) (rz.same (bT s1 λx q=>.inl q)) q3 λvs H2 s2 bp=>?_;refine k (v::vs) H2 (s1.trans s2) ?_;obtain⟨N,o,fr⟩:=n;unfold eO;refine⟨v,vs,U,(bT s2 λx q=>.inl q:aW (out H1 A1) (out H2 A1)).rv _ _ (o.out (λx z1 z2=>?_) λx q=>(c1 x q).2),bp⟩;obtain⟨⟨u,eu⟩,_⟩:=c x z2;rw[fr x z1]at eu;cases eu⟩
structure dR(P:AQ)(w:AS)(K:aG)(mg:Str→Option AE)(base:Heap)(C:AF)(m:Str)(k n:Nat)(df:Bool)(sp:Sp):Prop where
 ex:∃f fd ps,ps.length=n∧Ab P w K mg base MJ k f fd ps sp∧Binds K fd ps []∧(df=NU→Binds K fd ps [BM])∧Meth K C m f
def Yc{nm:List Str}{xs:List V}(h:nm.length=xs.length)(n:m∉nm):(nm.zip xs).lookup m=sx:=by rw[Ga h,Dh.mpr n];rfl
def pO(C:AF)(m:Str)(i:Nat)(π:FP)(F:List D→Option (D×D))(fs:FA2):GM:=λenv=>match env[i]?.bind SD.hold,π (rE env),fs (rE env) (rE (env.set i .no))with
 | some (d0,back),NR p,NR es=>(match gJ p d0 with
  | some (.ins C' nm ds)=>if C'=C∧m∉nm then(F (.ins C' nm ds::es)).map λrd=>(rd.1,env.set i (back (fO p d0 rd.2)))else sx
  | _=>sx)
 | _,_,_=>sx
def xj{n:Nat}{F:List D→Option (D×D)}(hF:∀d es p,F (d::es)=NR p→es.length+1=n)(hd:∀H,eO K H iX Km)(ho:EvP K ta i π)(ha:aKb K tA fs):EvM K (Nm C m (spS K n F) Km E0 ta tA) (pO C m i π F (λeF eZ=>(fs eF eZ).map (·++iX))):=λB σ H env d aI Q r q k=>by
 unfold pO at q;split at q
 ·rename_i d0 back p iL q1 q2 q3;obtain⟨es,q3a,rfl⟩:=kJ q3;split at q
  ·rename_i C' nm ds q4;split at q
   ·rename_i hc;obtain⟨rfl,hm⟩:=hc;obtain⟨⟨r1,d1⟩,q5,q6⟩:=kJ q;cases q6;obtain⟨v0,w0,A1,k1,k2,k3,k4,k5⟩:=aCO (E:=E0) (Q:=Q) r q1 q4 (hF _ _ _ q5) q5 k;have c1:=Ow.cells _ _ _ k3;have ki:=k3;unfold Ow at k3;obtain⟨a,dx,xs,Bs,rfl,o2,kx,o3,_⟩:=k3;refine ho σ H (rE env) v0 p _ _ r.r k1 q2 k2 λH1 s1=>⟨a,dx,_,U,s1 _ _ o2,Yc o3 hm,?_⟩
    refine ha A1 σ H1 (rE env) (rE (env.set i .no)) es _ (λx q=>(c1 x q).same s1) (r.r.same s1) (k4.same (bT s1 λx q=>.inl q)) q3a λvs H2 s2 bp=>?_;exact k5 H2 (vs++Km) (s1.trans s2) (bp.append (hd _))
   ·cases q
  ·cases q
 ·cases q
def tH{C:AF}{m:Str}{k n:Nat}{df:Bool}{F:List D→Option (D×D)}{iS:List Str}{pl:Sem Bool}(Cm:dR X.prog X.w X.K X.mg X.base C m k n df (spS K n F))(Fc:kW K C iS)(hF:∀d es p,F (d::es)=NR p→es.length+1=n)(hr:lB k X.A)(ho:XP K X o ta i π)(ha:XAB K X (e::es) tA fs)
 (bt:AJ (e::es) X.env=(NV,AU e X.env)::AJ es X.env:=by rfl) (cE:(Au pos (AJ es X.env)).any (·.1)=NV:=by rfl)
 (ht:AU (.Call (.Attribute o m ah) (e::es) [] pos) X.env=(do
  let ov ←AU o X.env
  EK ah.atName
  let (f,first) ←DI [ov] (EE ov m pl)
  FV pos f first (Au pos (AJ (e::es) X.env)) (EF pos (CU [] X.env))):=by rfl):XM K X (.Call (.Attribute o m ah) (e::es) [] pos) (Nm C m (spS K n F) [] E0 ta tA) (pO C m i π F (λeF eZ=>(fs eF eZ).map (·++[]))):=by
 have hk:=ho.hk;subst hk;obtain⟨f,fd,ps,_,Fo,hb,_,hm⟩:=Cm.ex;exact⟨U,BR (pl:=pl) ho.pe Fc.cl hm Fo hr hb .nil Xi ha.pa bt cE ht,xj hF (λH=>by unfold eO;rfl) ho.ev ha.ev⟩
def Ip{C:AF}{m:Str}{k n:Nat}{F:List D→Option (D×D)}{iS:List Str}{pl:Sem Bool}(Cm:dR X.prog X.w X.K X.mg X.base C m k n NU (spS K n F))(Fc:kW K C iS)(hF:∀d es p,F (d::es)=NR p→es.length+1=n)(hr:lB k X.A)(ho:XP K X o ta i π)(ha:XAB K X (e::es) tA fs)
 (bt:AJ (e::es) X.env=(NV,AU e X.env)::AJ es X.env:=by rfl) (cE:(Au pos (AJ es X.env)).any (·.1)=NV:=by rfl)
 (ht:AU (.Call (.Attribute o m ah) (e::es) [] pos) X.env=(do
  let ov ←AU o X.env
  EK ah.atName
  let (f,first) ←DI [ov] (EE ov m pl)
  FV pos f first (Au pos (AJ (e::es) X.env)) (EF pos (CU [] X.env))):=by rfl):XM K X (.Call (.Attribute o m ah) (e::es) [] pos) (Nm C m (spS K n F) [.non] E0 ta tA) (pO C m i π F (λeF eZ=>(fs eF eZ).map (·++[.non]))):=by
 have hk:=ho.hk;subst hk;obtain⟨f,fd,ps,_,Fo,_,hb,hm⟩:=Cm.ex;exact⟨U,BR (pl:=pl) ho.pe Fc.cl hm Fo hr (hb U) (.cons U .nil) Xi ha.pa bt cE ht,xj hF (λH=>by unfold eO;exact⟨_,_,U,by unfold Rv;rfl,by unfold eO;rfl⟩) ho.ev ha.ev⟩
def fH(C:AF)(m:Str)(n:Nat)(F:List D→Option D)(fo:FE)(fs:FA)(iX:List D):FE:=λe=>(fo e).bind λd0=>match d0 with
 | .ins C' nm ds=>if C'=C∧m∉nm then(fs e).bind λes=>if es.length+iX.length+1=n then F (.ins C' nm ds::(es++iX))else sx else sx
 | _=>sx
def xn{n:Nat}{F:List D→Option D}(hd:∀H,eO K H iX Km)(ho:Ko K ta f)(ha:EvA K tA md):Nq K (Nm C m (gW K n F) Km E0 ta tA) (fH C m n F f md iX):=λσ H e d Q re q k=>by
 obtain⟨d0,q1,q2⟩:=aZ q;split at q2
 ·rename_i C' nm ds;split at q2
  ·rename_i hc;obtain⟨rfl,hm⟩:=hc;obtain⟨es,q3,q4⟩:=aZ q2;split at q4
   ·rename_i hl;refine ho σ H H e _ _ (Zn.self K H) re q1 λv H1 Z1 s1 t1 z1 rv=>?_;have oo:=z1.sm.rv _ _ rv;have aLT:=oo;unfold Rv at oo;obtain⟨a,dx,xs,rfl,h1,h2,h3⟩:=oo;refine⟨a,dx,_,U,h1,Yc h2 hm,?_⟩;refine ha σ H1 H1 e es _ (Zn.self K H1) (re.same s1) q3 λvs H2 Z2 s2 t2 z2 bp=>?_;refine⟨_::(es++iX),d,by rw[E3,D1];omega,?_,q4,λw H3 s3 nw=>k w H3 (s1.trans (s2.trans s3)) (nw.back (s1.trans s2))⟩;unfold eO;exact⟨_,_,U,s2.rv _ _ aLT,(z2.sm.uw _ _ bp).append (hd _)⟩
   ·cases q4
  ·cases q2
 ·cases q2
def fQ{md:FA}{C:AF}{m:Str}{k n:Nat}{df:Bool}{F:List D→Option D}{iS:List Str}{pl:Sem Bool}(Cm:dR X.prog X.w X.K X.mg X.base C m k n df (gW K n F))(Fc:kW K C iS)(hr:lB k X.A)(ho:XR K X o ta f)(ha:XA K X (e::es) tA md)
 (bt:AJ (e::es) X.env=(NV,AU e X.env)::AJ es X.env:=by rfl) (cE:(Au pos (AJ es X.env)).any (·.1)=NV:=by rfl)
 (ht:AU (.Call (.Attribute o m ah) (e::es) [] pos) X.env=(do
  let ov ←AU o X.env
  EK ah.atName
  let (f,first) ←DI [ov] (EE ov m pl)
  FV pos f first (Au pos (AJ (e::es) X.env)) (EF pos (CU [] X.env))):=by rfl):XN K X (.Call (.Attribute o m ah) (e::es) [] pos) (Nm C m (gW K n F) [] E0 ta tA) (fH C m n F f md []):=by
 have hk:=ho.hk;subst hk;obtain⟨f,fd,ps,_,Fo,hb,_,hm⟩:=Cm.ex;exact⟨U,BR (pl:=pl) ho.pe Fc.cl hm Fo hr hb .nil Xi ha.pa bt cE ht,xn (λH=>by unfold eO;rfl) ho.ev ha.ev⟩
def Bf{C:AF}{m:Str}{k n:Nat}{df:Bool}{F:List D→Option D}{iS:List Str}{pl:Sem Bool}(Cm:dR X.prog X.w X.K X.mg X.base C m k n df (gW K n F))(Fc:kW K C iS)(hr:lB k X.A)(ho:XR K X o ta f)
 (ht:AU (.Call (.Attribute o m ah) [] [] pos) X.env=(do
  let ov ←AU o X.env
  EK ah.atName
  let (f,first) ←DI [ov] (EE ov m pl)
  FV pos f first (Au pos (AJ [] X.env)) (EF pos (CU [] X.env))):=by rfl):XN K X (.Call (.Attribute o m ah) [] [] pos) (Nm C m (gW K n F) [] E0 ta oX) (fH C m n F f aL []):=by
 have hk:=ho.hk;subst hk;obtain⟨f,fd,ps,_,Fo,hb,_,hm⟩:=Cm.ex;exact⟨U,aBV (pl:=pl) ho.pe Fc.cl hm Fo hr hb .nil Xi ht,xn (λH=>by unfold eO;rfl) ho.ev aCg⟩
structure aAX(P:AQ)(w:AS)(K:aG)(mg:Str→Option AE)(base:Heap)(x:Str)(C:AF)(k n:Nat)(sp:Sp):Prop where
 ex:∃f fd ps,ps.length=n∧Ab P w K mg base MJ k f fd ps sp∧Binds K fd ps []∧Mk K C f∧mg x=NR (.ref C)
def Th(C:AF)(F:List D→Option (D×D))(fs:FA):FE:=λe=>(fs e).bind λes=>match F (.ins C [] []::es)with
 | some (.non,d')=>NR d'
 | _=>sx
def FW{md:FA}{x:Str}{C:AF}{k n:Nat}{F:List D→Option (D×D)}{p:Pos}(Ci:aAX X.prog X.w X.K X.mg X.base x C k n (spS K n F))(hF:∀d es p,F (d::es)=NR p→es.length+1=n)(hr:lB (k+1) X.A)(hg:Gl X x)(ha:XA K X (e::es) tA md)(cm:(x==("__debug__":Str))=NV:=by decide)
 (he:AJ (e::es) X.env=(NV,AU e X.env)::AJ es X.env:=by rfl) (cE:(Au pos (AJ es X.env)).any (·.1)=NV:=by rfl):XN K X (.Call (.Name x p) (e::es) [] pos) (aGh C (spS K n F) [] E0 tA) (Th C F md):=by
 have hk:=ha.hk;subst hk;obtain⟨f,fd,ps,_,Fo,hb,M,hm⟩:=Ci.ex;refine⟨U,aEy M Fo hr hg hm hb .nil Xi ha.pa cm he cE,λσ H e d Q re q k=>?_⟩;obtain⟨es,q1,q2⟩:=aZ q;split at q2
 ·rename_i d' q3;cases q2;refine ha.ev σ H H e es _ (Zn.self _ H) re q1 λvs H1 Z1 s1 t1 z1 bp=>λx dx nx ndx ne=>?_;have s0:aW H1 (upd (upd H1 dx (.own x)) x (.ins C dx [])):=λb o eb=>by rw[bQ (iI eb nx),bQ (iI eb ndx)];exact eb
  have so:aW H1 (out (upd (upd H1 dx (.own x)) x (.ins C dx [])) (λy=>y=x∨y=dx)):=λb o eb=>bF.mpr ⟨λz=>z.elim (iI eb nx) (iI eb ndx),s0 b o eb⟩;refine⟨.ins C [] [],es,.ref x,vs++[],(λy=>y=x∨y=dx),.non,_,U,hF _ _ _ q3,?_,?_,q3,λw H2 A' A2 o1 o2 ap sm=>⟨?_,k (.ref x) H2 (λb o eb=>?_) ⟨A',o1,λb hb=>?_⟩⟩⟩
  ·unfold Ow;refine⟨x,dx,[],nil,U,cA,by rw[bQ ne,cA],U,λz=>z,λz=>z,λy=>⟨.inl,λz=>z.elim id False.elim⟩,?_⟩;unfold eQ;exact⟨λ_ z=>z,U⟩
  ·rw[F0];exact(z1.sm.trans so).uw _ _ bp
  ·have:=Ow.rv _ _ _ o2;unfold Rv at this;exact this
  ·exact(bF.mp (sm b o ((s1.trans so) b o eb))).2
  ·cases eb:H b with
   | none=>rfl
   | some o=>exact absurd (.inl hb) (bF.mp (sm b o ((s1.trans so) b o eb))).1
 ·cases q2
def aLU(h:XN K X e te f):XM K X e te (λenv=>(f (rE env)).map λd=>(d,env)):=⟨h.hk,h.pe,λB σ H env d aI Q r q k=>by
 obtain⟨d0,q1,q2⟩:=kJ q;cases q2;exact h.ev σ H (rE env) d Q r.r q1 λv H' s n=>k v H' (r.snoc s n)⟩
def Ir(i:Nat)(g:GM):GS:=λenv=>match g env with
 | some (d,aI)=>if i<aI.length then .next (aI.set i (.own d))else .bad
 | none=>.bad
def Py{x:Str}(h:XM K X e te g)(hp:PE X e te→PS X (.Assign [.Name x bP] e pos) (xX te (iZ i))):YS K X (.Assign [.Name x bP] e pos) (xX te (iZ i)) (Ir i g):=⟨hp h.pe,λB E σ H env r p=>by
 unfold Ir at p;split at p
 ·rename_i d aI q;split at p
  ·rename_i hi;exact h.ev B σ H env d aI _ r q λv H' r'=>p _ _ (r'.move hi)
  ·exact p.elim
 ·exact p.elim⟩
def uL(g:GM):GS:=λenv=>match g env with
 | some (_,aI)=>.next aI
 | none=>.bad
def Bg(h:XM K X e te g)(hs:DO e sx pos.line X.env=pure NV:=by rfl):YS K X (.Expr e pos) (oV te) (uL g):=⟨kY h.pe hs,λB E σ H env r p=>by
 unfold uL at p;split at p
 ·rename_i d aI q;exact h.ev B σ H env d aI _ r q λv H' r'=>p _ _ r'.pop
 ·exact p.elim⟩
def Iu(g:GM):GS:=λenv=>match g env with
 | some (d,aI)=>.rete d aI
 | none=>.bad
def Pz(h:XM K X e te g):YS K X (.Return (NR e) pos) (aBE te) (Iu g):=⟨Zy h.pe,λB E σ H env r p=>by
 unfold Iu at p;split at p
 ·rename_i d aI q;exact h.ev B σ H env d aI _ r q λv H' r'=>p v σ H' r'
 ·exact p.elim⟩
def yN(i:Nat):GS:=λenv=>match env[i]? with
 | some (.own d)=>.rete d (env.set i .no)
 | some (.fro d)=>if d.jH=NU then .rete d env else .bad
 | _=>.bad
def Iv(h:PE X e (qM i)):YS K X (.Return (NR e) pos) (aBE (qM i)) (yN i):=⟨Zy h,λB E σ H env r p=>by
 unfold yN at p;split at p
 ·rename_i d q;obtain⟨v,hv,r'⟩:=r.give q;exact⟨v,hv,p v σ H r'⟩
 ·rename_i d q;split at p
  ·rename_i im;obtain⟨v,hv,rv⟩:=r.r i d (by unfold rE;rw[C5,q];rfl);exact⟨v,hv,p v σ H (r.snoc (aW.refl _) (.jH im rv))⟩
  ·exact p.elim
 ·exact p.elim⟩
end
def aKc(K:aG)(dN:Bool)(dV:AE):Prop:=match dN with
 | false=>dV=.none
 | true=>∃T o n,dV=.ref T∧K.lookup T=NR o∧o.data=.seq #[.none] n
structure RN(K:aG)(f:AF)(m q:Str)(st:AO)(dN:Bool):Prop where
 ex:∃(oc:AE)(od:Option AF)(dV kV bX pm:AE)(an:Option AF)(ai ct:AE)(dQ:Array (Option AE)),
  K.lookup f=NR ⟨oc,od,.func (G5 m q (gA st) (cM st) (aK st) dV kV bX pm an ai ct),dQ⟩∧L6 K ai q=NU∧aKc K dN dV
structure iB(K:aG)(C:AF)(m q:Str)(st:AO)(dN:Bool):Prop where
 ex:∃f,RN K f m q st dN∧Meth K C m f
structure RP(K:aG)(mg:Str→Option AE)(x:Str)(C:AF)(q:Str)(st:AO):Prop where
 ex:∃f,RN K f "__init__" q st NV∧Mk K C f∧mg x=NR (.ref C)
def HB(x q:Str)(st:AO)(ps:List Str):Prop:=∀(kV bX pm:AE)(an:Option AF)(ai ct:AE)(us:List AE),us.length=ps.length→EJ (G5 x q (gA st) (cM st) (aK st) .none kV bX pm an ai ct) ⟨us,[]⟩=pure (ps.zip us)
def HBD(x q:Str)(st:AO)(ps:List Str):Prop:=∀(T:AF)(kV bX pm:AE)(an:Option AF)(ai ct:AE)(us:List AE),(us.length=ps.length→∃k,EJ (G5 x q (gA st) (cM st) (aK st) (.ref T) kV bX pm an ai ct) ⟨us,[]⟩=seqItems? (AW T) >>= k∧k (NR #[BM])=pure (ps.zip us)) ∧
 (us.length+1=ps.length→∃k,EJ (G5 x q (gA st) (cM st) (aK st) (.ref T) kV bX pm an ai ct) ⟨us,[]⟩=seqItems? (AW T) >>= k∧k (NR #[BM])=pure (ps.zip (us++[BM])))
def HBs(dN:Bool)(x q:Str)(st:AO)(ps:List Str):Prop:=match dN with
 | false=>HB x q st ps
 | true=>HBD x q st ps
section
variable{P:AQ}{base:Heap}
def RN.binds{f:AF}{st:AO}{oc:AE}{od:Option AF}{dV kV bX pm:AE}{an:Option AF}{ai ct:AE}(hd:aKc K dN dV)(h:HBs dN m q st ps):
 Binds K (G5 m q (gA st) (cM st) (aK st) dV kV bX pm an ai ct) ps []∧(dN=NU→Binds K (G5 m q (gA st) (cM st) (aK st) dV kV bX pm an ai ct) ps [BM]):=by
 cases dN with
 | false=>
  cases hd;exact⟨.all (h kV bX pm an ai ct),λz=>by cases z⟩
 | true=>
  obtain⟨T,o,n,rfl,h1,h2⟩:=hd;refine⟨λs us kin hl=>?_,λ_ s us kin hl=>?_⟩
  ·rw[F0]at hl ⊢;obtain⟨k,e1,e2⟩:=(h T kV bX pm an ai ct us).1 hl;exact .of_defaults U (kin _ _ h1) h2 e1 e2
  ·rw[D1]at hl;obtain⟨k,e1,e2⟩:=(h T kV bX pm an ai ct us).2 hl;exact .of_defaults U (kin _ _ h1) h2 e1 e2
abbrev aAY(n m:Nat)(d:D)(es:List D)(v:V):EN:=.inn v d::(es.map SD.fro++E9 (n-m) SD.no)
def RQ(r d':D)(v:V)(o:SR):Prop:=∃aI,(o=.rete r aI∨(o=.next aI∧r=.non))∧aI[0]?=NR (.inn v d')
open Classical in
def oY(n m:Nat)(g:GS):List D→Option (D×D)
 | d::es=>if h:∃p:D×D,es.length+1=m∧∀v,RQ p.1 p.2 v (g (aAY n m d es v))then NR h.choose else sx
 | _=>sx
def aCP{r r2 d2:D}{o:SR}(h1:RQ r d' v o)(h2:RQ r2 d2 v o):r=r2∧d'=d2:=by
 obtain⟨e1,a1,a2⟩:=h1;obtain⟨e2,b1,b2⟩:=h2;rcases a1 with a1 | ⟨a1,rfl⟩
 ·rcases b1 with b1 | ⟨b1,rfl⟩
  ·rw[a1]at b1
   injection b1 with c1 c2;subst c2;rw[a2]at b2;injection b2 with b2;injection b2 with _ b2;exact⟨c1,b2⟩
  ·rw[a1]at b1;cases b1
 ·rcases b1 with b1 | ⟨b1,rfl⟩
  ·rw[a1]at b1;cases b1
  ·rw[a1]at b1
   injection b1 with c2;subst c2;rw[a2]at b2;injection b2 with b2;injection b2 with _ b2;exact⟨U,b2⟩
def aCQ{n m:Nat}{r:D}{es:List D}(hl:es.length+1=m)(h:∀v,RQ r d' v (g (aAY n m d es v))):oY n m g (d::es)=NR (r,d'):=by
 have ex:∃p:D×D,es.length+1=m∧∀v,RQ p.1 p.2 v (g (aAY n m d es v)):=⟨(r,d'),hl,h⟩
 unfold oY;dsimp only;rw[dif_pos ex];obtain⟨e1,e2⟩:=aCP (ex.choose_spec.2 .non) (h .non);exact congrArg NR (r9 e1 e2)
def RT{n m:Nat}{r:D}{es:List D}(h:oY n m g (d::es)=NR (r,d'))(v:V):es.length+1=m∧RQ r d' v (g (aAY n m d es v)):=by
 unfold oY at h;dsimp only at h;split at h
 ·rename_i ex;have:=ex.choose_spec;rw[E6 h]at this;exact⟨this.1,this.2 v⟩
 ·cases h
def fX{n m:Nat}(d:D)(es:List D)(p:D×D)(h:oY n m g (d::es)=NR p):es.length+1=m:=(RT (r:=p.1) (d':=p.2) h .non).1
def aKd{body:List AO}{t:TS}{Q:VK}{E:XK}(yb:YB K X body t g)(h:spS K ps.length (oY N.length ps.length g) vs H Q E):t {nx:=λ_ H'=>Q .non H',rt:=Q} (start N vs) H:=by
 obtain⟨d,es,v,ws,A1,r,d',rfl,hl,ho,hrs,hF,kk⟩:=h;obtain⟨_,aI,q1,q2⟩:=RT hF v;have hw:=hrs.length;refine yb.ev (out H A1) _ _ H (aAY N.length ps.length d es v) ?_ ?_
 ·have sa:=Sy (K:=K) (H:=H) (k:=N.length-ps.length) hrs
  have e:start N (v::ws)=NR v::(ws.map NR++E9 (N.length-ps.length) sx):=by unfold start;rw[E2,E3,show N.length-(ws.length+1)=N.length-ps.length by omega];rfl
  rw[e];exact⟨A1,⟨_,_,A1,nil,U,λ_ _ z=>z,λx=>⟨.inl,λz=>z.elim id False.elim⟩,⟨U,ho⟩,sa⟩,aW.refl _⟩
 ·rcases q1 with q1 | ⟨q1,rfl⟩
  ·rw[q1]
   intro w σ' H' ⟨A2,a2,b2⟩;obtain⟨A3,A4,k1,⟨w',ew,o⟩,k3,k4⟩:=a2.Li;cases ew;obtain⟨y,A5,C,h1,h2,h3,h4,_⟩:=k1.focus q2;exact kk w H' A5 A4 h4.2 o (λx z1 z2=>k3 x ((h3 x).mpr (.inl z1)) z2) (b2.trans (bT (aW.refl _) λx z=>.inl ((k4 x).mpr (z.elim (λz=>.inl ((h3 x).mpr (.inl z))) .inr))))
  ·rw[q1]
   intro σ' H' ⟨A2,a2,b2⟩;obtain⟨y,A5,C,h1,h2,h3,h4,_⟩:=a2.focus q2;exact kk .non H' A5 nil h4.2 (by unfold Ow;exact⟨λ_ z=>z,U⟩) (λx z1 z2=>z2) (b2.trans (bT (aW.refl _) λx z=>.inl ((h3 x).mpr (.inl (z.elim id False.elim)))))
def aLV{F:List D→Option (D×D)}(vs:List V)(H:Hp)(Q:VK)(E:XK)(h:spS K ps.length F vs H Q E):vs.length=ps.length:=by obtain⟨d,es,v,ws,A,r,d',rfl,hl,_,rs,_⟩:=h;have:=rs.length;rw[E3];omega
def RN.okS{f:AF}{m q:Str}{st:AO}{dN:Bool}{N ps:List Str}{k:Nat}{g:GS}(R:RN K f m q st dN)(S:bA N ps (aK st))(hb:HBs dN m q st ps)
 (bS:∀(f:AF)(ai:AE)(A:AV)(outer:List Env)(s:AG)(H:Hp)(E:XK),lB k (A.deeper (CH q (aK st) s.heap.objs.size f ai))→∃t,YB K (Hu MJ P w K mg base N q (aK st) f ai A outer s H E).sy (cM st) t g) :
 ∃fd,Ab P w K mg base MJ (k+1) f fd ps (spS K ps.length (oY N.length ps.length g))∧Binds K fd ps []∧(dN=NU→Binds K fd ps [BM]):=by
 obtain⟨oc,od,dV,kV,bX,pm,an,ai,ct,dQ,lk,hcd,hd⟩:=R.ex;refine⟨_,aBX lk hcd S aLV λA outer s H vs Q E hr gE=>?_,RN.binds (f:=f) (oc:=oc) (od:=od) hd hb⟩;obtain⟨t,yb⟩:=bS f ai A outer s H E hr;exact⟨t,yb.ps.sy,aKd yb gE⟩
def iB.FZ{C:AF}{m q:Str}{st:AO}{dN:Bool}{N ps:List Str}{k:Nat}{g:GS}(R:iB K C m q st dN)(S:bA N ps (aK st))(hb:HBs dN m q st ps)
 (bS:∀(f:AF)(ai:AE)(A:AV)(outer:List Env)(s:AG)(H:Hp)(E:XK),lB k (A.deeper (CH q (aK st) s.heap.objs.size f ai))→∃t,YB K (Hu MJ P w K mg base N q (aK st) f ai A outer s H E).sy (cM st) t g):dR P w K mg base C m (k+1) ps.length dN (spS K ps.length (oY N.length ps.length g)):=by
 obtain⟨f,Rf,M⟩:=R.ex;obtain⟨fd,F,b1,b2⟩:=Rf.okS (P:=P) (w:=w) (mg:=mg) (base:=base) S hb bS;exact⟨f,fd,ps,U,F,b1,b2,M⟩
def RP.aKe{C:AF}{x q:Str}{st:AO}{N ps:List Str}{k:Nat}{g:GS}(R:RP K mg x C q st)(S:bA N ps (aK st))(hb:HB "__init__" q st ps)
 (bS:∀(f:AF)(ai:AE)(A:AV)(outer:List Env)(s:AG)(H:Hp)(E:XK),lB k (A.deeper (CH q (aK st) s.heap.objs.size f ai))→∃t,YB K (Hu MJ P w K mg base N q (aK st) f ai A outer s H E).sy (cM st) t g):aAX P w K mg base x C (k+1) ps.length (spS K ps.length (oY N.length ps.length g)):=by
 obtain⟨f,Rf,M,hm⟩:=R.ex;obtain⟨fd,F,b1,b2⟩:=Rf.okS (P:=P) (w:=w) (mg:=mg) (base:=base) S hb bS;exact⟨f,fd,ps,U,F,b1,M,hm⟩
def oZ(n m:Nat)(g:GS):List D→Option D:=λds=>if ds.length=m then(match g (ds.map SD.fro++E9 (n-m) SD.no)with
 | .ret d=>NR d
 | .next _=>NR .non
 | _=>sx)else sx
def aKf{body:List AO}{t:TS}{Q:VK}{E:XK}(yb:YB K X body t g)(h:gW K ps.length (oZ N.length ps.length g) vs H Q E):t {nx:=λ_ H'=>Q .non H',rt:=Q} (start N vs) H:=by
 obtain⟨ds,d,h1,h2,h3,kk⟩:=h;refine yb.ev H _ _ H (ds.map SD.fro++E9 (N.length-ps.length) SD.no) ?_ ?_
 ·have hl:vs.length=ps.length:=by rw[h2.length];exact h1
  have:=Lh (k:=N.length-ps.length) h2;unfold start;rw[hl];exact this
 ·unfold oZ at h3;rw[sk h1]at h3;cases q:g (ds.map SD.fro++E9 (N.length-ps.length) SD.no)with
  | ret d'=>
   rw[q]at h3;cases h3;refine λv H' A' s' o=>kk v H' (s'.trans (jA _ _)) ⟨A',o,λa qa=>?_⟩;cases e:H a with
   | none=>rfl
   | some u=>exact absurd qa (bF.mp (s' a u e)).1
  | next aI=>
   rw[q]at h3;cases h3;intro σ' H' ⟨A,a,b⟩;exact kk .non H' (b.trans (jA _ _)) (.jH U (by unfold Rv;rfl))
  | bad=>rw[q]at h3;cases h3
  | brk e=>rw[q]at h3;cases h3
  | cont e=>rw[q]at h3;cases h3
  | rete d e=>rw[q]at h3;cases h3
def iB.Lj{C:AF}{m q:Str}{st:AO}{dN:Bool}{N ps:List Str}{k:Nat}{g:GS}(R:iB K C m q st dN)(S:bA N ps (aK st))(hb:HBs dN m q st ps)
 (bS:∀(f:AF)(ai:AE)(A:AV)(outer:List Env)(s:AG)(H:Hp)(E:XK),lB k (A.deeper (CH q (aK st) s.heap.objs.size f ai))→∃t,YB K (Hu MJ P w K mg base N q (aK st) f ai A outer s H E).sy (cM st) t g):dR P w K mg base C m (k+1) ps.length dN (gW K ps.length (oZ N.length ps.length g)):=by
 obtain⟨f,Rf,M⟩:=R.ex;obtain⟨oc,od,dV,kV,bX,pm,an,ai,ct,dQ,lk,hcd,hd⟩:=Rf.ex;obtain⟨b1,b2⟩:=RN.binds (f:=f) (oc:=oc) (od:=od) (kV:=kV) (bX:=bX) (pm:=pm) (an:=an) (ai:=ai) (ct:=ct) hd hb;refine⟨f,_,ps,U,aBX lk hcd S (λvs H Q E h=>?_) λA outer s H vs Q E hr gE=>?_,b1,b2,M⟩
 ·obtain⟨ds,d,h1,h2,_⟩:=h;rw[h2.length];exact h1
 obtain⟨t,yb⟩:=bS f ai A outer s H E hr;exact⟨t,yb.ps.sy,aKf yb gE⟩
def xq{f:AF}{st:AO}{an:Option AF}{kV pm:AE}(l:K.lookup f=NR ⟨oc,od,.func (G5 m q (gA st) (cM st) (aK st) .none kV bX pm an ai ct),dQ⟩)(c:L6 K ai q=NU):RN K f m q st NV:=⟨⟨oc,od,.none,kV,bX,pm,an,ai,ct,dQ,l,c,U⟩⟩
def aFn{f:AF}{st:AO}{an:Option AF}{kV pm:AE}(a:G3 K (.ref C) m=NR (NR (.ref f)))(i:Q8 K (.ref f)=NU)(l:K.lookup f=NR ⟨oc,od,.func (G5 m q (gA st) (cM st) (aK st) .none kV bX pm an ai ct),dQ⟩)(c:L6 K ai q=NU)(k:K7 K (.ref f)=NU):iB K C m q st NV:=⟨⟨f,xq l c,⟨a,i,k⟩⟩⟩
def aCR{f T:AF}{st:AO}{oc2:AE}{an od2:Option AF}{aLW:Array (Option AE)}{kV pm:AE}{n:Nat}(a:G3 K (.ref C) m=NR (NR (.ref f)))(i:Q8 K (.ref f)=NU)(l:K.lookup f=NR ⟨oc,od,.func (G5 m q (gA st) (cM st) (aK st) (.ref T) kV bX pm an ai ct),dQ⟩)(c:L6 K ai q=NU)(k:K7 K (.ref f)=NU)(t:K.lookup T=NR ⟨oc2,od2,.seq #[.none] n,aLW⟩):iB K C m q st NU:=⟨⟨f,⟨⟨oc,od,.ref T,kV,bX,pm,an,ai,ct,dQ,l,c,T,_,n,U,t,U⟩⟩,⟨a,i,k⟩⟩⟩
def aFo{x:Str}{f:AF}{st:AO}{an:Option AF}{kV pm:AE}(X:K.In h)(G:h.Ns As mg)(aC:U4 K As x=NR (NR (.ref C)))(a:G3 K (.ref C) "__init__"=NR (NR (.ref f)))(i:Q8 K (.ref f)=NU)(l:K.lookup f=NR ⟨oc,od,.func (G5 "__init__" q (gA st) (cM st) (aK st) .none kV bX pm an ai ct),dQ⟩)(c:L6 K ai q=NU)(mk:W6 K C=NU)(kc:K7 K (.ref C)=NU):RP K mg x C q st:=⟨⟨f,xq l c,⟨mk,a,i,kc⟩,j9 X G aC⟩⟩
end
section
variable{st:AO}{a o:AK}{es rest:List AK}{tc t0:TE}{f0 fc:FE}{fs:FA}{pos:Pos}{oq:TS}
def We(φ φ':D→D→Option D)(f g h:FE):FT:=λe=>(f e).bind λa=>(g e).bind λb=>(φ a b).bind λr=>match r with
 | .bl NU=>(h e).bind λc=>(φ' b c).bind λr2=>match r2 with | .bl k=>NR k | _=>sx
 | .bl NV=>NR NV
 | _=>sx
def Iw{op:EH}{r:R2}{φ':D→D→Option D}(ho:vC X (AY op) r)(gx:vC X (AY gz) r')(hd:MN K r φ)(kM:MN K r' φ')(ha:XR K X a ta fa)(hb:XR K X b tb fb)(hc:XR K X c tc fc)(hm:IA [op,gz] [b,c]=NV:=by with_unfolding_all rfl):XT K X (.Compare a [op,gz] [b,c] pos) (PB (BP r r' ta tb tc)) (We φ φ' fa fb fc):=⟨ha.hk,aBO ho gx ha.pe hb.pe hc.pe hm,λσ H e k Q re q kk=>by
 obtain⟨d1,q1,q⟩:=aZ q;obtain⟨d2,q2,q⟩:=aZ q;obtain⟨d3,q3,q⟩:=aZ q;refine ha.ev σ H H e d1 _ (Zn.self K H) re q1 λx H1 Z1 s1 t1 z1 rx=>hb.ev σ H1 H1 e d2 _ (Zn.self K H1) (re.same s1) q2 λy H2 Z2 s2 t2 z2 ry=>?_;refine hd x y H2 d1 d2 d3 _ (s2.rv _ _ (z1.sm.rv _ _ rx)) (z2.sm.rv _ _ ry) q3 λz H3 s3 n=>?_;have rz:=n.rv;split at q
 ·obtain⟨d4,q4,q⟩:=aZ q;obtain⟨d5,q5,q⟩:=aZ q;unfold Rv at rz;refine⟨NU,rz,?_⟩;rw[sk rfl];refine hc.ev σ H3 H3 e d4 _ (Zn.self K H3) (re.same (s1.trans (s2.trans s3))) q4 λw H4 Z4 s4 t4 z4 Qv=>?_;refine kM y w H4 d2 d4 d5 _ ((s3.trans s4).rv _ _ (z2.sm.rv _ _ ry)) (z4.sm.rv _ _ Qv) q5 λv H5 s5 n5=>?_;have r5:=n5.rv;split at q
  ·cases q;unfold Rv at r5;exact⟨_,r5,kk H5 (s1.trans (s2.trans (s3.trans (s4.trans s5))))⟩
  ·cases q
 ·cases q;unfold Rv at rz;refine⟨NV,rz,?_⟩;rw[sv (by decide)];exact⟨_,U,kk H3 (s1.trans (s2.trans s3))⟩
 ·cases q⟩
open Classical in
def Ae(j i:Nat)(g:GS)(v:V)(all:List D):List D→EN→SR
 | [],env=>if env[j]?=NR (.inn v (.lst all))then .next env else .bad
 | x::xs,env=>if i<env.length∧env[j]?=NR (.inn v (.lst all))then(match g (env.set i (.fro x))with
  | .next e=>Ae j i g v all xs e
  | .cont e=>Ae j i g v all xs e
  | _=>.bad)else .bad
open Classical in
def Fd(j i:Nat)(g:GS):GS:=λenv=>match env[j]? with
 | some (.own (.lst xs))=>if h:(intsOf xs).isSome=NU∧∃aI:EN,aI[j]?=NR (.own (.lst xs))∧∀v,Ae j i g v xs xs (env.set j (.inn v (.lst xs)))=.next (aI.set j (.inn v (.lst xs)))then .next h.2.choose else .bad
 | _=>.bad
def aFp{α:Type}{l m:List α}{s:α}(h1:l.set j s=m.set j s)(h2:l[j]?=m[j]?):l=m:=by
 apply K5;intro k;by_cases c:j=k
 ·subst c;exact h2
 ·have:=congrArg (λx=>x[k]?) h1;simp only[G8,sv c]at this;exact this
def aCS{env:EN}{ns:List Int}(h:env[j]?=NR (.own (.lst (ns.map D.int))))(h1:aI[j]?=NR (.own (.lst (ns.map D.int))))(h2:∀v,Ae j i g v (ns.map D.int) (ns.map D.int) (env.set j (.inn v (.lst (ns.map D.int))))=.next (aI.set j (.inn v (.lst (ns.map D.int))))):Fd j i g env=.next aI:=by
 have ex:(intsOf (ns.map D.int)).isSome=NU∧∃aI:EN,aI[j]?=NR (.own (.lst (ns.map D.int)))∧∀v,Ae j i g v (ns.map D.int) (ns.map D.int) (env.set j (.inn v (.lst (ns.map D.int))))=.next (aI.set j (.inn v (.lst (ns.map D.int)))):=⟨by rw[lM];rfl,aI,h1,h2⟩
 unfold Fd;rw[h];dsimp only;rw[dif_pos ex];have c:=ex.2.choose_spec;have e:=(c.2 .non).symm.trans (h2 .non);injection e with e;rw[aFp e (c.1.trans h1.symm)]
def aAZ{xs:List D}{ns:List Int}(h:intsOf xs=NR ns):xs=ns.map D.int:=by
 induction xs generalizing ns with
 | nil=>unfold intsOf at h;cases h;rfl
 | cons x xs ih=>
  unfold intsOf at h;cases x with
  | int i=>obtain⟨ms,h1,h2⟩:=kJ h;subst h2;rw[E2,ih h1]
  | _=>cases h
def aFq(hb:DS K oq g):DS K (Qo (aCr K (qM j)) (iZ i) oq) (Fd j i g):=λB E σ H env r p=>by
 unfold Fd at p;split at p
 ·rename_i xs q;split at p
  ·rename_i ex;obtain⟨ns,mw⟩:=U2.mp ex.1;have exx:=aAZ mw;obtain⟨c1,c2⟩:=ex.2.choose_spec;generalize ex.2.choose=aI at *;subst exx;have hj:j<aI.length:=(D4.mp c1).1;obtain⟨v,hσ,rv⟩:=r.r j _ (by unfold rE;rw[C5,q];rfl);have c2:=c2 v;have r1:=r.aCJ q hσ;have lst:∀{cU:EN} {σ2:St} {H2:Hp},Rel K B cU σ2 H2→cU[j]?=NR (.inn v (.lst (ns.map D.int)))→∃a,v=.ref a∧oU K H2 a (ns.map V.int):=by rintro cU σ2 H2 ⟨A,aa,bb⟩ e2;obtain⟨y,A1,C,h1,h2,h3,h4,_⟩:=aa.focus e2;have:=Ow.rv _ _ _ h4.2;unfold Rv at this;obtain⟨a,ys,e,sq,l⟩:=this;rw[lV.mp l]at sq;exact⟨a,e,sq⟩
   obtain⟨a,rfl,sq0⟩:=lst r1 (K0 (D4.mp q).1);refine .inl ⟨.ref a,hσ,a,U,⟨_,sq0⟩,?_⟩;refine Hw Rh (λk σ2 H2=>∃cU,Rel K B cU σ2 H2∧cU[j]?=NR (.inn (.ref a) (.lst (ns.map D.int)))∧Ae j i g (.ref a) (ns.map D.int) ((ns.map D.int).drop k) cU=.next (aI.set j (.inn (.ref a) (.lst (ns.map D.int))))) ⟨_,r1,K0 (D4.mp q).1,by rw[i9];exact c2⟩ (λk σ2 H2 _ ⟨cU,r2,e2,_⟩=>by
    obtain⟨a',e,sq⟩:=lst r2 e2;cases e;exact sq) ?_ ?_
   ·rintro k x σ2 H2 hx ⟨cU,r2,e2,f2⟩;have hk:k<ns.length:=by
     have:=(D4.mp hx).1
     rwa [B8]at this
    rw[L8 (by rw[B8];exact hk)]at f2;rw[C5,B6 hk]at hx;cases hx;rw[a7]at f2;unfold Ae at f2;split at f2
    ·rename_i ag;have r3:Rel K B (cU.set i (.fro (.int ns[k]))) (σ2.set i (NR (.int ns[k]))) H2:=by obtain⟨A2,a2,b2⟩:=r2;exact Il a2 b2 ag.1 (aW.refl _) (aW.refl _) (Fz a2) (by unfold Rv;rfl)
     refine hb B _ _ H2 _ r3 ?_;have ck:∀{o:SR},o=g (cU.set i (.fro (.int ns[k])))→(match o with | .next e=>Ae j i g (.ref a) (ns.map D.int) ((ns.map D.int).drop (k+1)) e | .cont e=>Ae j i g (.ref a) (ns.map D.int) ((ns.map D.int).drop (k+1)) e | _=>.bad)=.next (aI.set j (.inn (.ref a) (.lst (ns.map D.int))))→Lf K B {E with nx:=λσ3 H3=>∃cU,Rel K B cU σ3 H3∧cU[j]?=NR (.inn (.ref a) (.lst (ns.map D.int)))∧Ae j i g (.ref a) (ns.map D.int) ((ns.map D.int).drop (k+1)) cU=.next (aI.set j (.inn (.ref a) (.lst (ns.map D.int)))),ct:=λσ3 H3=>∃cU,Rel K B cU σ3 H3∧cU[j]?=NR (.inn (.ref a) (.lst (ns.map D.int)))∧Ae j i g (.ref a) (ns.map D.int) ((ns.map D.int).drop (k+1)) cU=.next (aI.set j (.inn (.ref a) (.lst (ns.map D.int)))),bk:=E.nx} o:=by
      intro o _ ho;have there:∀{e3:EN} {xs:List D},Ae j i g (.ref a) (ns.map D.int) xs e3=.next (aI.set j (.inn (.ref a) (.lst (ns.map D.int))))→e3[j]?=NR (.inn (.ref a) (.lst (ns.map D.int))):=by
       intro e3 xs h3;cases xs with
       | nil=>
        unfold Ae at h3;split at h3
        ·rename_i z;exact z
        ·cases h3
       | cons y ys=>
        unfold Ae at h3;split at h3
        ·rename_i z;exact z.2
        ·cases h3
      cases o with
      | next e3=>exact λσ3 H3 r4=>⟨e3,r4,there ho,ho⟩
      | cont e3=>exact λσ3 H3 r4=>⟨e3,r4,there ho,ho⟩
      | ret d=>cases ho
      | brk d=>cases ho
      | bad=>cases ho
      | rete d e=>cases ho
     exact ck U f2
    ·cases f2
   ·rintro σ2 H2 ⟨cU,r2,e2,f2⟩;rw[B8]at f2;rw[show ns.length=(ns.map D.int).length by rw[B8],S8]at f2;unfold Ae at f2;rw[sk e2]at f2;injection f2 with f2;rw[f2]at r2;obtain⟨r3,_⟩:=r2.aCI (K0 hj);rw[Z9,set_same c1]at r3;exact p σ2 H2 r3
  ·exact p.elim
 ·exact p.elim
def GC{body:List AO}(hp:EC (AM X.prog X.w) X.A X.env X.xe)(DX:X.calm=NU)(hv:PE X e (qM j))(hg:PG X tg (iZ i))(hb:YB K X body oq g)(hs:∀x,BD e X.env x=pure x:=by intro _;rfl)(hk:X.K=K:=by rfl):YS K X (.For tg e body [] pos) (Qo (aCr K (qM j)) (iZ i) oq) (Fd j i g):=by
 subst hk;refine⟨Qq hp DX (λaE s σ H R I h=>?_) hg hb.ps hs,aFq hb.ev⟩;rcases h with h | h
 ·exact uc hv aE s σ H R I h
 ·exact aBJ hv aE s σ H R I h
end
def RV{p:AF}(h:H p=NR (.dT kvs)):wN H p:=⟨λys e=>(by rw[h]at e;cases e),λo ys e=>(by rw[h]at e;cases e)⟩
section
variable{env:EN}
def Rel.aLX{p:List Step}{ks:List (List Key)}{ds:List D}(h:Rel K B env σ H)(e:env[i]?=NR (.own d0))(q:gJ p d0=NR (.dt ks ds)):∃v0 a xs Bs,σ[i]?=NR (NR v0)∧Oq H p v0=NR (.ref a)∧H a=NR (.dT (ks.zip xs))∧ks.length=xs.length∧¬Bs a∧eQ K H ds Bs xs ∧
 ∀H2 kC bE cp Bn,aW H H2→kC.length=cp.length→eQ K H2 bE Bn cp→(∀b,Bn b→Bs b∨H b=sx)→Rel K B (env.set i (.own (fO p d0 (.dt kC bE)))) σ (upd H2 a (.dT (kC.zip cp))):=by
 obtain⟨v0,w,A1,C,h1,h2,h3,h4,h5,h6⟩:=h.at e q;unfold Ow at h3;obtain⟨a,xs,Bs,rfl,o2,kx,o3,o4,o5⟩:=h3;refine⟨v0,a,xs,Bs,h1,h2,o2,kx,o3,o5,λH2 kC bE cp Bn s hl o hb=>?_⟩;have kP:¬Bn a:=λz=>(hb a z).elim o3 λz=>by rw[o2]at z;cases z
 have hC:∀x,C x→¬x=a:=λx z y=>h4 x ((o4 x).mpr (.inl y)) z;have Wd:H2 a=NR (.dT (ks.zip xs)):=s a _ o2;refine h6 _ (.dt kC bE) (gG (·=a) Bn) (λx z1 z2=>?_) (λx z=>?_) (s.tk.trans (uJ (RV Wd))) ?_ (λx u ex=>?_)
 ·rcases z1 with z1 | z1
  ·exact hC x z2 z1
  ·rcases hb x z1 with z | z
   ·exact h4 x ((o4 x).mpr (.inr z)) z2
   ·obtain⟨⟨u,eu⟩,_⟩:=h5 x z2
    rw[z]at eu;cases eu
 ·obtain⟨⟨u,eu⟩,_⟩:=h5 x z
  rw[bQ (hC x z),eu,s x u eu]
 ·unfold Ow
  refine⟨a,cp,Bn,U,cA,hl,kP,λ_=>Iff.rfl,eQ.frame (uJ (RV Wd)) _ _ _ o λx zx=>bQ λy=>kP (y▸zx)⟩
 ·obtain⟨e1,e2⟩:=bF.mp ex
  have na:x≠a:=λy=>e1 (.inl ((o4 x).mpr (.inl y)));refine bF.mpr ⟨λz=>?_,by rw[bQ na];exact s x u e2⟩;rcases z with (z | z) | z
  ·exact na z
  ·rcases hb x z with z | z
   ·exact e1 (.inl ((o4 x).mpr (.inr z)))
   ·rw[z]at e2;cases e2
  ·exact e1 (.inr z)
end
def RW:List D→Option (List Key)
 | []=>NR []
 | d::ds=>(Wa d).bind λk=>(RW ds).map λr=>k::r
theorem RX:∀{ds:List D} {ks:List Key} {vs:List V},RW ds=NR ks→eO K H ds vs→vs=ks.map kV
 | [],ks,vs,h,r=>by
  unfold RW at h;cases h;unfold eO at r;exact r
 | d::ds,ks,vs,h,r=>by unfold RW at h;obtain⟨k,h1,h2⟩:=aZ h;obtain⟨kC,h3,rfl⟩:=kJ h2;unfold eO at r;obtain⟨y,ys,rfl,r1,r2⟩:=r;rw[Pn h1 r1,RX h3 r2];rfl
abbrev FK:=DE→Option (List Key)
def EvK(K:aG)(t:TE)(fk:FK):Prop:=∀(σ:St)(H:Hp)(e:DE)(k:List Key)(Q:VK),yE K H e σ→fk e=NR k→(∀b H',aW H H'→H' b=NR (.tup (k.map kV))→Q (.ref b) H')→t σ H Q
structure XKt(K:aG)(X:Cx)(e:AK)(t:TE)(fk:FK):Prop where
 hk:X.K=K
 pe:PE X e t
 ev:EvK K t fk
section
variable{st:AO}{a o:AK}{es rest:List AK}{tc t0:TE}{g:FK}{gd:FE}{fs:FA}{pos:Pos}{oq:TS}
def Lk(fs:FA):FK:=λe=>(fs e).bind λds=>if ds.length≤100 then RW ds else sx
def Ti(h:XA K X es tA fs):XKt K X (.Tuple es x1 pos) (PJ tA) (Lk fs):=⟨h.hk,cu h.pa,λσ H e k Q re q kk=>by
 obtain⟨ds,q1,q2⟩:=aZ q;split at q2
 ·rename_i hl;refine h.ev σ H H e ds _ (Zn.self K H) re q1 λvs H1 Z1 s1 t1 z1 bp=>⟨Xl (by rw[bp.length];omega),λp hp=>kk p _ (s1.trans (cR hp _)) ?_⟩
  rw[cA,RX q2 bp]
 ·cases q2⟩
def Wf(cb:Bool)(fk:FK)(f:FE):FE:=λe=>(fk e).bind λk=>(f e).bind λd=>match d with
 | .dt ks _=>NR (.bl (if cb then !(posK ks k).isSome else(posK ks k).isSome))
 | _=>sx
def jg{ks:List (List Key)}{xs:List V}{k:List Key}(h:ks.length=xs.length):(xZ (ks.zip xs) k).isSome=(posK ks k).isSome:=by
 rw[uH h];cases q:posK ks k with
 | none=>rfl
 | some j=>obtain⟨h1,h2⟩:=tD q;rw[C4,B6 (by omega)];rfl
def aIp{e:DE}{Q:VK}(ha:EvK K ta g)(hb:Ko K tb f)(re:yE K H e σ)(q:Wf cb g f e=NR d)(k:∀v H',aW H H'→Rp K H H' d v→Q v H'):
 ta σ H λy H1=>tb σ H1 λx H2=>∃a o,x=.ref a∧Rc H2 a y o∧Q (.bl (if cb then !o.isSome else o.isSome)) H2:=by
 obtain⟨kk,q1,q⟩:=aZ q;obtain⟨d1,q2,q⟩:=aZ q;split at q
 ·rename_i ks ds;cases q;refine ha σ H e kk _ re q1 λbb H1 s1 hb1=>hb σ H1 H1 e _ _ (Zn.self K H1) (re.same s1) q2 λx H2 Z2 s2 t2 z2 rx=>?_;have rx:=z2.sm.rv _ _ rx;unfold Rv at rx;obtain⟨p,xs,r1,r2,r3,r4⟩:=rx;refine⟨p,xZ (ks.zip xs) kk,r1,.inr ⟨_,kk,bb,r2,U,s2 _ _ hb1,U⟩,?_⟩;rw[jg r3];exact k _ H2 (s1.trans s2) (.jH U (by unfold Rv;rfl))
 ·cases q
def aFr(hu:X.A.units+1<BG)(ha:XKt K X a ta g)(hb:XR K X b tb f)(h1:behindInMarks .In b=NV:=by first | exact nobehind _ (by decide) (by decide) | rfl):XN K X (.Compare a [.In] [b] pos) (aEK ta tb) (Wf NV g f):=
 ⟨ha.hk,au (dm hu ha.pe hb.pe) h1,λσ H e d Q re q k=>aIp (cb:=NV) ha.ev hb.ev re q k⟩
def xu(hu:X.A.units+1<BG)(ha:XKt K X a ta g)(hb:XR K X b tb f)(h1:behindInMarks .In b=NV:=by first | exact nobehind _ (by decide) (by decide) | rfl):XT K X (.Compare a [.In] [b] pos) (tB (aEK ta tb)) (fB (Wf NV g f)):=aGr (aFr hu ha hb h1) (dm hu ha.pe hb.pe) h1
def Tj(f:FE)(fk:FK):FE:=λe=>(f e).bind λd=>(fk e).bind λk=>match d with
 | .dt ks ds=>(posK ks k).bind λj=>(ds[j]?).bind λr=>if r.jH=NU then NR r else sx
 | _=>sx
def RZ(hu:X.A.units+1<BG)(ha:XR K X a ta f)(hb:XKt K X b tb g)(hs:aHD b):XN K X (.Subscript a b pos) (aGm ta tb) (Tj f g):=
 ⟨ha.hk,aEL hu ha.pe hb.pe hs,λσ H e d Q re q k=>by
  obtain⟨d1,q1,q⟩:=aZ q;obtain⟨kk,q2,q⟩:=aZ q;split at q
  ·rename_i ks ds;obtain⟨j,q3,q⟩:=aZ q;obtain⟨r,q4,q⟩:=aZ q;split at q
   ·rename_i im;cases q;refine ha.ev σ H H e _ _ (Zn.self K H) re q1 λx H1 Z1 s1 t1 z1 rx=>hb.ev σ H1 e kk _ (re.same s1) q2 λbb H2 s2 rg=>?_;have rx:=s2.rv _ _ (z1.sm.rv _ _ rx);unfold Rv at rx;obtain⟨p,xs,r1,r2,r3,r4⟩:=rx;obtain⟨v,e1,e2⟩:=r4.get q4;refine⟨p,v,r1,.inr ⟨_,kk,bb,r2,U,rg,?_⟩,k v H2 (s1.trans s2) (.jH im e2)⟩;rw[uH r3,q3,C4,e1]
   ·cases q
  ·cases q⟩
def aCT(hk:X.K=K:=by rfl):XN K X (.Dict [] [] pos) aB3 (fC (.dt [] [])):=⟨hk,aB5,λσ H e d Q re q k=>by
 cases q;intro p hp;refine k _ _ (cR hp _) ⟨(·=p),?_,λa q=>by cases q;exact hp⟩;unfold Ow;exact⟨p,[],nil,U,cA,U,λz=>z,λx=>⟨.inl,λz=>z.elim id False.elim⟩,by unfold eQ;exact⟨λ_ z=>z,U⟩⟩⟩
def Yd(i:Nat)(π:FP)(g:FK)(f:FE):GS:=λenv=>match env[i]?,π (rE env),g (rE env),f (rE env)with
 | some (.own d0),NR p,NR k,NR d=>(match gJ p d0 with
  | some (.dt ks ds)=>if d.jH=NU∧ks.length<100000 then .next (env.set i (.own (fO p d0 (.dt (mH ks k) (putD ks ds k d)))))else .bad
  | _=>.bad)
 | _,_,_,_=>.bad
theorem SJ(o:Ow K H d nil v)(k:List Key):∀{ks:List (List Key)} {ds:List D} {A:Fp} {xs:List V},ks.length=xs.length→eQ K H ds A xs→∃A',(∀x,A' x→A x)∧eQ K H (R9 (λk' d'=>if k'=k then d else d') ks ds) A' (R9 (λk' d'=>if k'=k then v else d') ks xs)
 | [],ds,A,xs,hl,h=>by
  cases xs with
  | nil=>exact⟨nil,λ_ z=>z.elim,by rw[S0,S0];unfold eQ;exact⟨λ_ z=>z,U⟩⟩
  | cons x xs=>simp at hl
 | k0::ks,[],A,xs,hl,h=>by unfold eQ at h;rw[h.2]at hl;simp at hl
 | k0::ks,d0::ds,A,xs,hl,h=>by
  unfold eQ at h;obtain⟨y,yt,A1,A2,rfl,h2,h3,h4,h5⟩:=h;obtain⟨A',a1,a2⟩:=SJ o k (by simpa using hl) h5;by_cases c:k0=k
  ·refine⟨A',λx q=>(h3 x).mpr (.inr (a1 x q)),?_⟩;rw[K1,K1,sk c,sk c];unfold eQ;exact⟨v,_,nil,A',U,λ_ z=>z.elim,λx=>⟨.inr,λz=>z.elim False.elim id⟩,o,a2⟩
  ·refine⟨gG A1 A',λx q=>(h3 x).mpr (q.imp id (a1 x)),?_⟩;rw[K1,K1,sv c,sv c];unfold eQ;exact⟨y,_,A1,A',U,λx z1 z2=>h2 x z1 (a1 x z2),λ_=>Iff.rfl,h4,a2⟩
def aFs(h:EvP K ta i π)(hx:EvK K tb g)(he:Ko K te f):DSs K (Hv ta tb te) (Yd i π g f):=λB E σ H env r p=>by
 unfold Yd at p;split at p
 ·rename_i d0 pp k d q1 q2 q3 nL;split at p
  ·rename_i ks ds q4;split at p
   ·rename_i hc;obtain⟨v0,a,xs,Bs,k1,k2,k3,ki,k4,k5,k6⟩:=r.aLX q1 q4;refine he σ H H (rE env) d _ (Zn.self K H) r.r nL λy H1 Z1 s1 t1 z1 ry=>?_;refine h σ H1 (rE env) v0 pp _ _ (r.r.same s1) k1 q2 (Bd s1 k2) λH2 s2=>hx σ H2 (rE env) _ _ (r.r.same (s1.trans s2)) q3 λbb H3 s3 hb3=>?_;have Sq:=s1.trans (s2.trans s3);have o:Ow K H3 d nil y:=Ay d y hc.1 ((z1.sm.trans (s2.trans s3)).rv _ _ ry);refine⟨a,_,U,.inr ⟨ks.zip xs,k,bb,Sq _ _ k3,U,hb3,Nt (by rw[T9];omega),U⟩,p _ ?_⟩;rw[QL ki];have sC:=k5.same Sq;by_cases c:(posK ks k).isSome=NU
    ·obtain⟨A',a1,a2⟩:=SJ o k ki sC;refine k6 H3 (mH ks k) (putD ks ds k d) (putD ks xs k y) A' Sq (wQ ki) ?_ λb z=>.inl (a1 b z);unfold putD;rw[sk c,sk c];exact a2
    ·refine k6 H3 (mH ks k) (putD ks ds k d) (putD ks xs k y) (gG Bs nil) Sq (wQ ki) ?_ λb z=>z.elim .inl False.elim;unfold putD;rw[sv c,sv c];exact cQ.mpr ((cQ.mp sC).snoc o λ_ _ z=>z)
   ·exact p.elim
  ·exact p.elim
 ·exact p.elim
end
section
variable{st:AO}{a o:AK}{es rest:List AK}{tc t0:TE}{g:FE}{gk:FK}{gd:FE}{fs:FA}{pos:Pos}{oq:TS}
def gmN(f:FE):GM:=λenv=>(f (rE env)).map λd=>(d,env)
def aFt(h:XN K X e te f):XM K X e te (gmN f):=aLU h
def Dr(h:XR K X e te f)(hs:DO e sx pos.line X.env=pure NV:=by rfl):YS K X (.Expr e pos) (oV te) (zU f):=⟨kY h.pe hs,aE8 h.ev⟩
def pD{x:Str}(F:kW K C iS)(hx:x∈iS)(h:XP K X a ta i π)(he:XN K X e te f)(hs:DO e (NR (.Attribute a x bP)) pos.line X.env=pure NV:=by rfl):YS K X (.Assign [.Attribute a x bP] e pos) (aHt K ta te x) (jW i (wV C i π x f)):=⟨by have:=h.hk;subst this;exact aHu h.pe he.pe hs,(aCL (aIn F hx h.ev he.ev)).ds⟩
def Qa(h:XP K X a ta i π)(he:XN K X e te f)(hp:PE X a ta→PE X e te→PS X (.Expr (.Call (.Attribute a m ah) [e] [] ay) pos) (oV (Qx K "list" pC ta (dF te oX)))):YS K X (.Expr (.Call (.Attribute a m ah) [e] [] ay) pos) (oV (Qx K "list" pC ta (dF te oX))) (jW i (vA i π f)):=Ge i (hp h.pe he.pe) (aCz h.ev he.ev)
def SM(h:XP K X a ta i π)(hx:XR K X b tb g)(he:XN K X e te f)(hp:PE X a ta→PE X b tb→PE X e te→PS X (.Assign [.Subscript a b bP] e pos) (xX te (aAd ta tb Xe))):YS K X (.Assign [.Subscript a b bP] e pos) (xX te (aAd ta tb Xe)) (jW i (wU i π g f)):=Ge i (hp h.pe hx.pe he.pe) (vp h.ev hx.ev he.ev)
def Iz(h:XP K X a ta i π)(hx:XR K X b tb g)(he:XR K X e te f)(hp:PE X a ta→PE X b tb→PE X e te→PS X (.Assign [.Subscript a b bP] e pos) (Hv ta tb te)):YS K X (.Assign [.Subscript a b bP] e pos) (Hv ta tb te) (jW i (sX i π g f)):=Ge i (hp h.pe hx.pe he.pe) (vy h.ev hx.ev he.ev)
def aCU(h:XP K X a ta i π)(hx:XKt K X b tb gk)(he:XR K X e te f)(hp:PE X a ta→PE X b tb→PE X e te→PS X (.Assign [.Subscript a b bP] e pos) (Hv ta tb te)):YS K X (.Assign [.Subscript a b bP] e pos) (Hv ta tb te) (jW i (Yd i π gk f)):=Ge i (hp h.pe hx.pe he.pe) (aFs h.ev hx.ev he.ev)
end
def D.SN:D→Bool
 | .non=>NU
 | _=>NV
def SQ(r:Rv K H d v):decide (v=.non)=d.SN:=by
 cases d with
 | non=>unfold Rv at r;subst r;rfl
 | bl b=>unfold Rv at r;subst r;rfl
 | int b=>unfold Rv at r;subst r;rfl
 | str b=>unfold Rv at r;subst r;rfl
 | lst ds=>unfold Rv at r;obtain⟨a,xs,rfl,_⟩:=r;rfl
 | tup ds=>unfold Rv at r;obtain⟨a,xs,rfl,_⟩:=r;rfl
 | dk ks ds=>unfold Rv at r;obtain⟨a,xs,rfl,_⟩:=r;rfl
 | dt ks ds=>unfold Rv at r;obtain⟨a,xs,rfl,_⟩:=r;rfl
 | ins C nm ds=>unfold Rv at r;obtain⟨a,dx,xs,rfl,_⟩:=r;rfl
def Ja(cb:Bool)(a b:D):Option D:=match b with
 | .non=>NR (.bl (if cb then !a.SN else a.SN))
 | _=>sx
def jh:MN K (λx y H Q=>y=.non∧Q (.bl (decide (x=.non))) H) (Ja NV):=λx y H a b d Q ra rb q k=>by
 unfold Ja at q;split at q
 ·cases q;unfold Rv at rb;refine⟨rb,?_⟩;rw[SQ ra];exact k _ H (aW.refl _) (.jH U (by unfold Rv;rfl))
 ·cases q
def Ln:MN K (λx y H Q=>y=.non∧Q (.bl (!decide (x=.non))) H) (Ja NU):=λx y H a b d Q ra rb q k=>by
 unfold Ja at q;split at q
 ·cases q;unfold Rv at rb;refine⟨rb,?_⟩;rw[SQ ra];exact k _ H (aW.refl _) (.jH U (by unfold Rv;rfl))
 ·cases q
section
variable{stx:AK}{ts:TE}{g:FE}{pos:Pos}
end
section
variable{a:AK}{es:List AK}{g h:FE2}{fs:FA2}{pos:Pos}
end
inductive Ar where
 | ch (i:Nat) | rd (f:FE) | nw (f:FE)
def chA:List Ar→List Nat
 | []=>[]
 | .ch i::as=>i::chA as
 | .rd _::as=>chA as
 | .nw _::as=>chA as
def rB:List Ar→List Bool
 | []=>[]
 | .ch _::as=>NU::rB as
 | .rd _::as=>NV::rB as
 | .nw _::as=>NV::rB as
def rdA:List Ar→DE→DE→Option (List D)
 | [],_,_=>NR []
 | .ch _::as,eF,eZ=>rdA as eF eZ
 | .rd f::as,eF,eZ=>(f eZ).bind λd=>(rdA as eF eZ).map λr=>d::r
 | .nw f::as,eF,eZ=>(f eF).bind λd=>(rdA as eF eZ).map λr=>d::r
def wG:List Bool→List D→List D→List D
 | true::m,c::cs,rs=>c::wG m cs rs
 | false::m,cs,r::rs=>r::wG m cs rs
 | _,_,_=>[]
def aA0:List Bool→List V→List V
 | true::m,v::vs=>v::aA0 m vs
 | false::m,_::vs=>aA0 m vs
 | _,_=>[]
def aCV:List Bool→List D→List V→EN
 | true::m,d::ds,v::vs=>.inn v d::aCV m ds vs
 | false::m,d::ds,_::vs=>.fro d::aCV m ds vs
 | _,_,_=>[]
def SX(K:aG)(Z:Hp)(σ:St):List Ar→List D→List V→Prop
 | [],ds,vs=>ds=[]∧vs=[]
 | .ch i::as,ds,vs=>∃v r,vs=v::r∧σ[i]?=NR (NR v)∧SX K Z σ as ds r
 | .rd _::as,ds,vs=>∃d dr v r,ds=d::dr∧vs=v::r∧Rv K Z d v∧SX K Z σ as dr r
 | .nw _::as,ds,vs=>∃d dr v r,ds=d::dr∧vs=v::r∧Rv K Z d v∧SX K Z σ as dr r
def VsA(σ:St):List Nat→List V→Prop
 | [],vs=>vs=[]
 | j::js,vs=>∃v r,vs=v::r∧σ[j]?=NR (NR v)∧VsA σ js r
def takes:List Nat→EN→Option (List D×EN)
 | [],env=>NR ([],env)
 | j::js,env=>(env[j]?.bind SD.hold).bind λdb=>(takes js (env.set j .no)).map λde=>(db.1::de.1,de.2)
def Wg:List Nat→List D→EN→EN
 | j::js,d::ds,env=>(match env[j]?.bind SD.hold with
  | some db=>(Wg js ds (env.set j .no)).set j (db.2 d)
  | none=>env)
 | _,_,env=>env
section
variable{es:List AK}{as:List Ar}{pos:Pos}
def aL2(K:aG)(t:TA)(as:List Ar):Prop:=∀(A1:Fp)(σ:St)(H:Hp)(eF eZ:DE)(ds:List D)(cv:List V)(Q:List V→Hp→Prop),(∀x,A1 x→oG H x)→yE K H eF σ→yE K (out H A1) eZ σ→VsA σ (chA as) cv→rdA as eF eZ=NR ds →
 (∀vs H',aW H H'→SX K (out H' A1) σ as ds vs→Q vs H')→t σ H Q
structure XAC(K:aG)(X:Cx)(es:List AK)(t:TA)(as:List Ar):Prop where
 hk:X.K=K
 pa:PA X es t
 ev:aL2 K t as
def aFv(hk:X.K=K:=by rfl):XAC K X [] oX []:=⟨hk,jE,λA1 σ H eF eZ ds cv Q c re rz va q k=>by
 cases q;exact k [] H (aW.refl _) ⟨U,U⟩⟩
def aCW{y:Str}{py:Pos}(hv:PE X (.Name y py) (qM i))(hs:XAC K X es tA as)(bt:AJ (.Name y py::es) X.env=(NV,AU (.Name y py) X.env)::AJ es X.env:=by rfl):XAC K X (.Name y py::es) (dF (qM i) tA) (.ch i::as):=⟨hs.hk,cZ hv hs.pa bt,λA1 σ H eF eZ ds cv Q c re rz va q k=>by
 obtain⟨v,r,rfl,h1,h2⟩:=va;exact⟨v,h1,hs.ev A1 σ H eF eZ ds r _ c re rz h2 q λvs H' s a=>k (v::vs) H' s ⟨v,vs,U,h1,a⟩⟩⟩
def aKi(h:XR K X e te f)(hs:XAC K X es tA as)(bt:AJ (e::es) X.env=(NV,AU e X.env)::AJ es X.env:=by rfl):XAC K X (e::es) (dF te tA) (.rd f::as):=⟨h.hk,cZ h.pe hs.pa bt,λA1 σ H eF eZ ds cv Q c re rz va q k=>by
 obtain⟨d,q1,q2⟩:=aZ q;obtain⟨bE,q3,rfl⟩:=kJ q2;refine h.ev σ H (out H A1) eZ d _ (aCN c) rz q1 λv H1 Z1 s1 t1 z1 rv=>?_;refine hs.ev A1 σ H1 eF eZ bE cv _ (λx q=>(c x q).same s1) (re.same s1) (rz.same (bT s1 λx q=>.inl q)) va q3 λvs H2 s2 bp=>?_;exact k (v::vs) H2 (s1.trans s2) ⟨d,bE,v,vs,U,U,((aGF z1).trans (bT s2 λx q=>.inl q)).rv _ _ rv,bp⟩⟩
end
section
variable{H' Z':Hp}
theorem xx:∀(js:List Nat)(ds:List D)(env:EN)(p:List D×EN)(j:Nat),takes js env=NR p→env[j]?=NR .no→(Wg js ds env)[j]?=NR .no
 | [],ds,env,p,j,_,h=>by unfold Wg;exact h
 | i::js,[],env,p,j,_,h=>by unfold Wg;exact h
 | i::js,d::ds,env,p,j,q,h=>by
  unfold takes at q;obtain⟨db,q1,q2⟩:=aZ q;obtain⟨de,q3,_⟩:=kJ q2;have ne:i≠j:=λz=>by subst z;rw[h]at q1;cases q1
  unfold Wg;rw[q1];dsimp only;rw[G8,sv ne];exact xx js ds _ _ j q3 (by rw[G8,sv ne];exact h)
def fY.fp{α β:Type}{R:α→Fp→β→Prop}{ds:List α}{A:Fp}{ys:List β}(h:fY R ds A ys)(e:Is A A'):fY R ds A' ys:=by have:A=A':=funext λx=>propext (e x);rw[←this];exact h
theorem TF:∀(js:List Nat)(env:EN)(A:Fp)(ds:List D)(e0:EN),fY (gY K H Z) env A σ→takes js env=NR (ds,e0)→∃A0 A1 vs,Apart A0 A1∧Is A (gG A0 A1)∧fY (gY K H Z) e0 A0 σ∧eQ K H ds A1 vs∧VsA σ js vs ∧
 ∀(H' Z':Hp)(bE:List D)(nz ZZ:Fp),fY (gY K H' Z') e0 nz σ→eQ K H' bE ZZ vs→Apart nz ZZ→fY (gY K H' Z') (Wg js bE env) (gG nz ZZ) σ
 | [],env,A,ds,e0,h,q=>by
  cases q;refine⟨A,nil,[],λ_ _ z=>z,λx=>⟨.inl,λz=>z.elim id False.elim⟩,h,by unfold eQ;exact⟨λ_ z=>z,U⟩,U,λH' Z' bE nz ZZ s o ap=>?_⟩;cases bE with
  | nil=>unfold eQ at o;unfold Wg;exact s.fp λx=>⟨.inl,λz=>z.elim id λz=>absurd z (o.1 x)⟩
  | cons d dr=>
   unfold eQ at o;obtain⟨y,yt,_,_,z,_⟩:=o;cases z
 | j::js,env,A,ds,e0,h,q=>by
  unfold takes at q;obtain⟨db,q1,q2⟩:=aZ q;obtain⟨⟨dr,e1⟩,q3,q4⟩:=kJ q2;cases q4;obtain⟨s,e,hs⟩:=aZ q1;obtain⟨y,A1,C,h1,h2,h3,h4,k⟩:=h.focus e;have key:∃v,y=NR v∧Ow K H db.1 A1 v∧∀(H' Z':Hp)(d':D)(A':Fp),Ow K H' d' A' v→gY K H' Z' (db.2 d') A' (NR v):=by
   cases s with
   | no=>cases hs
   | fro d=>cases hs
   | own d=>cases hs;obtain⟨v,rfl,o⟩:=h4;exact⟨v,U,o,λH' Z' d' A' o'=>⟨v,U,o'⟩⟩
   | inn v d=>cases hs;obtain⟨rfl,o⟩:=h4;exact⟨v,U,o,λH' Z' d' A' o'=>⟨U,o'⟩⟩
  obtain⟨v,rfl,o,bk⟩:=key;have s0:=k _ (λ_ _ _ _ q=>q) .no (NR v) nil (λ_ z=>z.elim) (λ_ z=>z);rw[set_same h1]at s0;obtain⟨A0,A1r,vs,k1,k2,k3,k4,k5,k6⟩:=TF js (env.set j .no) _ dr e1 s0 q3;have hC:∀x,C x↔A0 x∨A1r x:=λx=>⟨λz=>(k2 x).mp (.inr z),λz=>((k2 x).mpr z).elim False.elim id⟩
  refine⟨A0,gG A1 A1r,v::vs,λx z1 z2=>z2.elim (λz=>h2 x z ((hC x).mpr (.inl z1))) (k1 x z1),λx=>?_,k3,?_,⟨v,vs,U,h1,k5⟩,λH' Z' bE nz ZZ s' o' ap=>?_⟩
  ·rw[h3 x]
   constructor
   ·rintro(z | z)
    ·exact .inr (.inl z)
    ·exact((hC x).mp z).elim .inl λz=>.inr (.inr z)
   ·rintro(z | z | z)
    ·exact .inr ((hC x).mpr (.inl z))
    ·exact .inl z
    ·exact .inr ((hC x).mpr (.inr z))
  ·unfold eQ
   exact⟨v,vs,A1,A1r,U,λx z1 z2=>h2 x z1 ((hC x).mpr (.inr z2)),λx=>Iff.rfl,o,k4⟩
  ·cases bE with
   | nil=>
    unfold eQ at o';cases o'.2
   | cons d' dr'=>
    unfold eQ at o';obtain⟨y',yt,Aj,Ar',z1,a1,a2,o1,o2⟩:=o';cases z1;have s1:=k6 H' Z' dr' nz Ar' s' o2 λx w1 w2=>ap x w1 ((a2 x).mpr (.inr w2));have n1:=xx js dr' (env.set j .no) _ j q3 (K0 (D4.mp e).1);obtain⟨y2,Bx,C2,f1,f2,f3,f4,f5⟩:=s1.focus n1;have f4:∀x,¬Bx x:=f4;have hC2:∀x,C2 x↔nz x∨Ar' x:=λx=>⟨λz=>(f3 x).mpr (.inr z),λz=>((f3 x).mp z).elim (λw=>absurd w (f4 x)) id⟩
    have s2:=f5 _ (λ_ _ _ _ q=>q) (db.2 d') (NR v) Aj (λx w1 w2=>((hC2 x).mp w2).elim (λw=>ap x w ((a2 x).mpr (.inl w1))) (a1 x w1)) (bk H' Z' d' Aj o1);rw[set_same h1]at s2;unfold Wg;rw[q1];dsimp only;refine s2.fp λx=>?_;constructor
    ·rintro(z | z)
     ·exact .inr ((a2 x).mpr (.inl z))
     ·exact((hC2 x).mp z).elim .inl λz=>.inr ((a2 x).mpr (.inr z))
    ·rintro(z | z)
     ·exact .inr ((hC2 x).mpr (.inl z))
     ·exact((a2 x).mp z).elim .inl λz=>.inr ((hC2 x).mpr (.inr z))
theorem Ds:∀(as:List Ar)(Qc TJ:List D)(A:Fp)(yc vs:List V),eQ K H Qc A yc→VsA σ (chA as) yc→SX K Z σ as TJ vs→fY (gY K H Z) (aCV (rB as) (wG (rB as) Qc TJ) vs) A (vs.map NR)∧aA0 (rB as) vs=yc∧(wG (rB as) Qc TJ).length=(rB as).length∧vs.length=(rB as).length
 | [],Qc,TJ,A,yc,vs,o,va,ar=>by
  obtain⟨rfl,rfl⟩:=ar;have va:yc=[]:=va;subst va;cases Qc with
  | nil=>unfold eQ at o;exact⟨⟨o.1,U⟩,U,U,U⟩
  | cons d dr=>unfold eQ at o;obtain⟨_,_,_,_,z,_⟩:=o;cases z
 | .ch i::as,Qc,TJ,A,yc,vs,o,va,ar=>by
  obtain⟨v,r,rfl,h1,h2⟩:=va;obtain⟨v',r',rfl,g1,g2⟩:=ar;rw[h1]at g1;cases g1;cases Qc with
  | nil=>unfold eQ at o;cases o.2
  | cons d dr=>
   unfold eQ at o;obtain⟨y,yt,A1,A2,z,a1,a2,o1,o2⟩:=o;cases z;obtain⟨m1,m2,m3,m4⟩:=Ds as dr TJ A2 r r' o2 h2 g2;exact⟨⟨NR v,r'.map NR,A1,A2,U,a1,a2,⟨U,o1⟩,m1⟩,congrArg (v::·) m2,congrArg (·+1) m3,congrArg (·+1) m4⟩
 | .rd f::as,Qc,TJ,A,yc,vs,o,va,ar=>by
  obtain⟨d,dr,v,r,rfl,rfl,g1,g2⟩:=ar;obtain⟨m1,m2,m3,m4⟩:=Ds as Qc dr A yc r o va g2;have e:wG (rB (.rd f::as)) Qc (d::dr)=d::wG (rB as) Qc dr:=by cases Qc<;>rfl
  rw[e];exact⟨⟨NR v,r.map NR,nil,A,U,λ_ z=>z.elim,λx=>⟨.inr,λz=>z.elim False.elim id⟩,⟨λ_ z=>z,v,U,g1⟩,m1⟩,m2,congrArg (·+1) m3,congrArg (·+1) m4⟩
 | .nw f::as,Qc,TJ,A,yc,vs,o,va,ar=>by
  obtain⟨d,dr,v,r,rfl,rfl,g1,g2⟩:=ar;obtain⟨m1,m2,m3,m4⟩:=Ds as Qc dr A yc r o va g2;have e:wG (rB (.nw f::as)) Qc (d::dr)=d::wG (rB as) Qc dr:=by cases Qc<;>rfl
  rw[e];exact⟨⟨NR v,r.map NR,nil,A,U,λ_ z=>z.elim,λx=>⟨.inr,λz=>z.elim False.elim id⟩,⟨λ_ z=>z,v,U,g1⟩,m1⟩,m2,congrArg (·+1) m3,congrArg (·+1) m4⟩
def aKj{A A0 A1:Fp}(h:fY (gY K H (out H A)) e0 A0 σ)(h0:Apart A0 A1)(hA:∀x,A1 x→A x)(c:∀x,A1 x→oG H x):yE K (out H A1) (rE e0) σ:=λj d q=>by
 unfold rE at q;rw[C5]at q;cases ej:e0[j]? with
 | none=>rw[ej]at q;cases q
 | some sd=>
  rw[ej]at q;obtain⟨y,Ak,Ck,f1,f2,f3,f4,_⟩:=h.focus ej;have sL:Apart Ak A1:=λx z1 z2=>h0 x ((f3 x).mpr (.inl z1)) z2;cases sd with
  | no=>cases q
  | fro d1=>
   cases q;obtain⟨_,v1,rfl,f5⟩:=f4;exact⟨v1,f1,(bT (aW.refl _) λx q=>.inl (hA x q):aW (out H A) (out H A1)).rv _ _ f5⟩
  | own d1=>
   cases q;obtain⟨v1,rfl,f5⟩:=f4;exact⟨v1,f1,f5.out sL λx q=>(c x q).2⟩
  | inn v1 d1=>cases q;obtain⟨rfl,f5⟩:=f4;exact⟨v1,f1,f5.out sL λx q=>(c x q).2⟩
end
def spG(K:aG)(av:List Bool)(F:List D→Option (D×List D)):Sp:=λvs H Q _=>∃A ds r bE,ds.length=av.length∧vs.length=av.length∧fY (gY K H (out H A)) (aCV av ds vs) A (vs.map NR)∧F ds=NR (r,bE)∧∀w H' A' A2,eQ K H' bE A' (aA0 av vs)→Ow K H' r A2 w→Apart A' A2→aW (out H A) (out H' (gG A' A2))→Q w H'
def TQ(as:List Ar)(F:List D→Option (D×List D)):GM:=λenv=>(takes (chA as) env).bind λce=>(rdA as (rE env) (rE ce.2)).bind λTJ=>(F (wG (rB as) ce.1 TJ)).map λrd=>(rd.1,Wg (chA as) rd.2 env)
section
variable{es:List AK}{as:List Ar}{pos pf:Pos}
def aFw{x:Str}{k n:Nat}{av:List Bool}{F:List D→Option (D×List D)}(C:oF X.prog X.w X.K X.mg X.base x k n (spG K av F))(hm:rB as=av)(hr:lB k X.A)(hg:Gl X x)(ha:XAC K X (e::es) tA as)(cm:(x==("__debug__":Str))=NV:=by decide)
 (he:AJ (e::es) X.env=(NV,AU e X.env)::AJ es X.env:=by rfl) (cE:(Au pos (AJ es X.env)).any (·.1)=NV:=by rfl):XM K X (.Call (.Name x pf) (e::es) [] pos) (Wz (spG K av F) [] E0 tA) (TQ as F):=⟨ha.hk,aCd C hr hg ha.pa cm he cE,λB σ H env d aI Q r q k=>by
 subst hm;obtain⟨⟨Qc,e0⟩,q1,q⟩:=aZ q;obtain⟨TJ,q2,q⟩:=aZ q;obtain⟨⟨r1,bE⟩,q3,q4⟩:=kJ q;cases q4;have rr:=r.r;obtain⟨A,a,b⟩:=r;obtain⟨A0,A1,yc,t1,t2,t3,t4,t5,t6⟩:=TF _ _ _ _ _ a q1;have cl:=iR a;have c1:∀x,A1 x→oG H x:=λx z=>cl x ((t2 x).mpr (.inr z));have c0:∀x,A0 x→oG H x:=λx z=>cl x ((t2 x).mpr (.inl z));refine ha.ev A1 σ H (rE env) (rE e0) TJ yc _ c1 rr (aKj t3 t1 (λx z=>(t2 x).mpr (.inr z)) c1) t5 q2 λvs H2 s2 ar=>?_;show spG K (rB as) F (vs++[]) H2 Q E0;rw[F0];have o2:eQ K H2 Qc A1 yc:=cQ.mpr ((cQ.mp t4).mono λ_ _ _ _ z=>z.same s2);obtain⟨m1,m2,m3,m4⟩:=Ds as Qc TJ A1 yc vs o2 t5 ar;refine⟨A1,_,r1,bE,m3,m4,m1,q3,λw H3 A' A2 p1 p2 ap sm=>k w H3 ?_⟩;rw[m2]at p1;have hC:∀y,A0 y→¬A' y∧¬A2 y∧H3 y=H y:=λy hy=>by obtain⟨⟨u,eu⟩,_⟩:=c0 y hy;obtain⟨n1,n2⟩:=bF.mp (sm y u (bF.mpr ⟨λz=>t1 y hy z,s2 y u eu⟩));exact⟨λz=>n1 (.inl z),λz=>n1 (.inr z),n2.trans eu.symm⟩
 have tk:Fq K H H3:=(Ro λx q=>(c1 x q).2).trans ((bT s2 λx q=>.inl q:aW (out H A1) (out H2 A1)).trans (sm.trans (jA _ _))).tk;have g:aW (out H A) (out H3 (gG (gG A0 A') A2)):=λy u ey=>by
  obtain⟨e1,e2⟩:=bF.mp ey;obtain⟨n1,n2⟩:=bF.mp (sm y u (bF.mpr ⟨λz=>e1 ((t2 y).mpr (.inr z)),s2 y u e2⟩));refine bF.mpr ⟨λz=>?_,n2⟩;rcases z with (z | z) | z
  ·exact e1 ((t2 y).mpr (.inl z))
  ·exact n1 (.inl z)
  ·exact n1 (.inr z)
 have f0:fY (gY K H3 (out H3 (gG (gG A0 A') A2))) e0 A0 σ:=t3.mono λs D z hb qq=>by
  cases s with
  | no=>exact qq
  | fro d=>obtain⟨q1,v,q2,q3⟩:=qq;exact⟨q1,v,q2,g.rv _ _ q3⟩
  | inn v d=>exact⟨qq.1,Ow.frame tk _ _ _ qq.2 λx zx=>(hC x (hb x zx)).2.2⟩
  | own d=>obtain⟨v,q1,q2⟩:=qq;exact⟨v,q1,Ow.frame tk _ _ _ q2 λx zx=>(hC x (hb x zx)).2.2⟩
 have s3:=t6 H3 _ bE A0 A' f0 p1 λy z1 z2=>(hC y z1).1 z2;exact⟨_,fY.snoc s3 ⟨w,U,p2⟩ λy z1 z2=>z1.elim (λz=>(hC y z).2.1 z2) λz=>ap y z z2,b.trans g⟩⟩
end
def Ye:List Bool→List V→EN→List D→Prop
 | true::m,v::vs,s::e,ds=>∃d r,s=.inn v d∧ds=d::r∧Ye m vs e r
 | false::m,_::vs,_::e,ds=>Ye m vs e ds
 | [],_,_,ds=>ds=[]
 | _,_,_,_=>False
def Wh(av:List Bool)(r:D)(bE:List D)(vs:List V)(o:SR):Prop:=∃aI,(o=.rete r aI∨(o=.next aI∧r=.non))∧Ye av vs aI bE
def Dt:∀{m:List Bool} {vs:List V} {e:EN} {a b:List D},Ye m vs e a→Ye m vs e b→a=b
 | true::m,v::vs,s::e,a,b,⟨d,r,h1,h2,h3⟩,⟨d',r',g1,g2,g3⟩=>by rw[h1]at g1;injection g1 with _ g1;rw[h2,g2,Dt h3 g3,g1]
 | false::m,v::vs,s::e,a,b,h,g=>Dt (m:=m) (vs:=vs) (e:=e) h g
 | [],vs,e,a,b,h,g=>by have h:a=[]:=h;have g:b=[]:=g;rw[h,g]
 | true::m,[],e,a,b,h,g=>h.elim
 | false::m,[],e,a,b,h,g=>h.elim
 | true::m,v::vs,[],a,b,h,g=>h.elim
 | false::m,v::vs,[],a,b,h,g=>h.elim
def aCX{r r2:D}{a b:List D}{o:SR}(h1:Wh av r a vs o)(h2:Wh av r2 b vs o):r=r2∧a=b:=by
 obtain⟨e1,a1,a2⟩:=h1;obtain⟨e2,b1,b2⟩:=h2;rcases a1 with a1 | ⟨a1,rfl⟩
 ·rcases b1 with b1 | ⟨b1,rfl⟩
  ·rw[a1]at b1
   injection b1 with c1 c2;subst c2;exact⟨c1,Dt a2 b2⟩
  ·rw[a1]at b1;cases b1
 ·rcases b1 with b1 | ⟨b1,rfl⟩
  ·rw[a1]at b1;cases b1
  ·rw[a1]at b1
   injection b1 with c2;subst c2;exact⟨U,Dt a2 b2⟩
abbrev TV(n:Nat)(av:List Bool)(ds:List D)(vs:List V):EN:=aCV av ds vs++E9 (n-av.length) SD.no
open Classical in
def Tn(n:Nat)(av:List Bool)(g:GS):List D→Option (D×List D):=λds=>if h:∃p:D×List D,ds.length=av.length∧∀vs:List V,vs.length=av.length→Wh av p.1 p.2 vs (g (TV n av ds vs))then NR h.choose else sx
def Jb{n:Nat}{ds bE:List D}{r:D}(hl:ds.length=av.length)(h:∀vs:List V,vs.length=av.length→Wh av r bE vs (g (TV n av ds vs))):Tn n av g ds=NR (r,bE):=by
 have ex:∃p:D×List D,ds.length=av.length∧∀vs:List V,vs.length=av.length→Wh av p.1 p.2 vs (g (TV n av ds vs)):=⟨(r,bE),hl,h⟩
 unfold Tn;rw[dif_pos ex];have hz:(E9 av.length V.non).length=av.length:=P7;obtain⟨e1,e2⟩:=aCX (ex.choose_spec.2 _ hz) (h _ hz);exact congrArg NR (r9 e1 e2)
def aCY{n:Nat}{ds bE:List D}{r:D}(h:Tn n av g ds=NR (r,bE))(vs:List V)(hv:vs.length=av.length):Wh av r bE vs (g (TV n av ds vs)):=by
 unfold Tn at h;split at h
 ·rename_i ex;have:=ex.choose_spec;rw[E6 h]at this;exact this.2 vs hv
 ·cases h
section
variable{P:AQ}{base:Heap}
theorem Qd:∀(m:List Bool)(vs:List V)(env:EN)(ds:List D)(A:Fp)(σ:St),fY (gY K H Z) env A σ→Ye m vs env ds→vs.length=m.length→∃A',(∀x,A' x→A x)∧eQ K H ds A' (aA0 m vs)
 | true::m,v::vs,s::e,ds,A,σ,h,⟨d,r,h1,h2,h3⟩,hl=>by obtain⟨y,yt,A1,A2,k1,k2,k3,k4,k5⟩:=h;subst h1 h2;obtain⟨A',g1,g2⟩:=Qd m vs e r A2 yt k5 h3 (AB hl);refine⟨gG A1 A',λx z=>(k3 x).mpr (z.elim .inl λz=>.inr (g1 x z)),?_⟩;unfold eQ;exact⟨v,aA0 m vs,A1,A',U,λx z1 z2=>k2 x z1 (g1 x z2),λx=>Iff.rfl,k4.2,g2⟩
 | false::m,v::vs,s::e,ds,A,σ,h,h3,hl=>by obtain⟨y,yt,A1,A2,k1,k2,k3,k4,k5⟩:=h;obtain⟨A',g1,g2⟩:=Qd m vs e ds A2 yt k5 h3 (AB hl);exact⟨A',λx z=>(k3 x).mpr (.inr (g1 x z)),g2⟩
 | [],vs,e,ds,A,σ,h,g,hl=>by
  have g:ds=[]:=g;subst g;refine⟨nil,λ_ z=>z.elim,?_⟩;unfold eQ;refine⟨λ_ z=>z,?_⟩;cases vs<;>rfl
 | true::m,[],e,ds,A,σ,h,g,hl=>g.elim
 | false::m,[],e,ds,A,σ,h,g,hl=>g.elim
 | true::m,v::vs,[],ds,A,σ,h,g,hl=>g.elim
 | false::m,v::vs,[],ds,A,σ,h,g,hl=>g.elim
def yd:∀(n:Nat) {env:EN} {A:Fp} {σ:St},fY (gY K H Z) env A σ→fY (gY K H Z) (env++E9 n SD.no) A (σ++E9 n sx)
 | 0,env,A,σ,h=>by show fY _ (env++[]) A (σ++[]);rw[F0,F0];exact h
 | n+1,env,A,σ,h=>by have s:=yd n (fY.snoc (d:=SD.no) (y:=sx) (A1:=nil) h (λ_ z=>z) λ_ _ z=>z);rw[P9,P9]at s;exact s.fp λx=>⟨λz=>z.elim id False.elim,.inl⟩
def aKk{body:List AO}{t:TS}{Q:VK}{E:XK}(yb:YB K X body t g)(h:spG K av (Tn N.length av g) vs H Q E):t {nx:=λ_ H'=>Q .non H',rt:=Q} (start N vs) H:=by
 obtain⟨A,ds,r,bE,hl,hv,hs,hF,kk⟩:=h;obtain⟨aI,q1,q2⟩:=aCY hF vs hv;refine yb.ev (out H A) _ _ H (TV N.length av ds vs) ?_ ?_
 ·have s:=yd (N.length-av.length) hs
  have e:start N vs=vs.map NR++E9 (N.length-av.length) sx:=by unfold start;rw[hv]
  rw[e];exact⟨A,s,aW.refl _⟩
 ·rcases q1 with q1 | ⟨q1,rfl⟩
  ·rw[q1]
   intro w σ' H' ⟨A2,a2,b2⟩;obtain⟨A3,A4,k1,⟨w',ew,o⟩,k3,k4⟩:=a2.Li;cases ew;obtain⟨A5,g1,g2⟩:=Qd av vs aI bE A3 σ' k1 q2 hv;exact kk w H' A5 A4 g2 o (λx z1 z2=>k3 x (g1 x z1) z2) (b2.trans (bT (aW.refl _) λx z=>.inl ((k4 x).mpr (z.elim (λz=>.inl (g1 x z)) .inr))))
  ·rw[q1]
   intro σ' H' ⟨A2,a2,b2⟩;obtain⟨A5,g1,g2⟩:=Qd av vs aI bE A2 σ' a2 q2 hv;exact kk .non H' A5 nil g2 (by unfold Ow;exact⟨λ_ z=>z,U⟩) (λx z1 z2=>z2) (b2.trans (bT (aW.refl _) λx z=>.inl (z.elim (g1 x) False.elim)))
def Raw.aL4{x:Str}{st:AO}{N ps:List Str}{k:Nat}{g:GS}{av:List Bool}(R:Raw K mg x st)(S:bA N ps (aK st))(hb:HB x x st ps)(hm:av.length=ps.length)
 (bS:∀(f:AF)(ai:AE)(A:AV)(outer:List Env)(s:AG)(H:Hp)(E:XK),lB k (A.deeper (CH x (aK st) s.heap.objs.size f ai))→∃t,YB K (Hu MJ P w K mg base N x (aK st) f ai A outer s H E).sy (cM st) t g):oF P w K mg base x (k+1) av.length (spG K av (Tn N.length av g)):=by
 rw[hm];refine R.cal S (λvs H Q E h=>by obtain⟨A,ds,r,bE,hl,hv,_⟩:=h;exact hv.trans hm) hb (λf ai A outer s H vs Q E hr h=>?_);obtain⟨t,yb⟩:=bS f ai A outer s H E hr;exact⟨t,yb.ps,aKk yb h⟩
end
section
variable{a:AK}{rest:List AK}{g h:GM}{pos:Pos}
end
section
variable{prog:AQ}{R:FU→AG→Prop}{fp wr:List AF}{n:Nat}{P:Nat→AE→Prop}{St:Nat→Heap→Prop}{kw:List (Str×AE)}
end
section
variable{prog:AQ}
end
section
variable{e2:AK}{t2:TE}{g:FE}{x:Str}{pos kp:Pos}
end
section
def Qe:V→List V→Hp→VK→Prop:=λx vs H Q=>∃l xs i y,x=.ref l∧vs=[.int i,y]∧H l=NR (.lst xs)∧0≤i∧i.toNat≤xs.length∧xs.length<sizeLine∧Q .non (upd H l (.lst (xs.take i.toNat++y::xs.drop i.toNat)))
def aA1:MtM X "list.insert" Qe:=by
 intro aE s σ H x vs v us Q I rx rv h;obtain⟨l,xs,i,y,rfl,rfl,hH,h0,h1,hz,q⟩:=h;cases rx;obtain⟨u1,u2,rfl,ru1,ru2⟩:=rv.two;obtain⟨t,rfl⟩:=ru1;obtain⟨z,af,n,r,hl,e⟩:=I.aEH hH;have hsl:sizeLine<2 ^ 62:=by decide
 refine FG F.slot_list_insert ⟨_,e,U⟩ F.entry_list_insert (F.args_list_insert_3 _ _ _) (IJ l af.toArray n i t u2 (by rw[KG (by omega) (by omega)];decide) (by rw[D3];omega)) ⟨e,?_⟩;refine⟨.non,_,I.aEG (ca:=af.take i.toNat++u2::af.drop i.toNat) hH e ?_ ((r.take _).append (.cons ru2 (r.drop _))) ?_,U,q⟩
 ·show (af.toArray.extract 0 (if i<0 then(i+(af.toArray.size:Int)).toNat else min i.toNat af.toArray.size)).push u2++af.toArray.extract (if i<0 then(i+(af.toArray.size:Int)).toNat else min i.toNat af.toArray.size)=_;rw[sv (by omega),D3,show min i.toNat af.length=i.toNat by omega];apply Array.ext';simp;exact P2 (by rw[O1];omega)
 ·rw[D1,E3,G7,O1];omega
def GD{i:Int}{t:Tok}:∀{ns:List Int} {us:List AE},Vals (ns.map V.int) us→∀y∈us,ND y (.int i t) (eqU (.int i) y)
 | [],_,.nil=>λy hy=>by cases hy
 | n::ns,u::us,.cons r rs=>λy hy=>by
  rcases B9.mp hy with rfl | hy
  ·obtain⟨t',rfl⟩:=r;exact MH n i t' t
  ·exact GD rs y hy
def Gf{i:Int}:∀{ns:List Int} {m:Nat} (h:m<ns.length),m<ns.idxOf i→ns[m]≠i
 | [],m,h,_=>absurd h (J9 _)
 | a::ns,0,h,hl=>λe=>by have e:a=i:=e;rw[W9,e,beq_self_eq_true]at hl;exact absurd hl (L9 _)
 | a::ns,m+1,h,hl=>by
  rw[W9]at hl;cases q:a==i with
  | true=>rw[q]at hl;exact absurd hl (J9 _)
  | false=>rw[q]at hl;have hl:m+1<ns.idxOf i+1:=hl;exact Gf (ns:=ns) (m:=m) (by simpa using h) (by omega)
def aCZ{α β:Type}(φ:α→β):∀(l:List α)(k:Nat),(l.map φ).eraseIdx k=(l.eraseIdx k).map φ
 | [],_=>rfl
 | _::_,0=>rfl
 | a::l,k+1=>congrArg (φ a::·) (aCZ φ l k)
def int_at{ns:List Int}{us:List AE}(h:Vals (ns.map V.int) us)(i:Int){m:Nat}(hm:m<us.toArray.size):∃hn:m<ns.length,eqU (.int i) us.toArray[m]=(ns[m]==i):=by
 have hl:=h.length;rw[B8]at hl;have hm':m<us.length:=by simpa using hm
 obtain⟨u,eu,ru⟩:=h.get (i:=m) (x:=.int (ns[m]'(by omega))) (by rw[C5,B6 (by omega)];rfl);obtain⟨t,rfl⟩:=ru;have e:us.toArray[m]=.int (ns[m]'(by omega)) t:=by have:=B6 hm';rw[eu]at this;simpa using (E6 this).symm
 refine⟨by omega,?_⟩;rw[e];rfl
def Qf:V→List V→Hp→VK→Prop:=λx vs H Q=>∃(l:AF)(ns:List Int)(i:Int),x=.ref l∧vs=[.int i]∧H l=NR (.lst (ns.map V.int))∧i∈ns∧Q .non (upd H l (.lst ((ns.eraseIdx (ns.idxOf i)).map V.int)))
def Yg:MtM X "list.remove" Qf:=by
 intro aE s σ H x vs v us Q I rx rv h;obtain⟨l,ns,i,rfl,rfl,hH,hi,q⟩:=h;cases rx;obtain⟨u,rfl,ru⟩:=rv.one;obtain⟨t,rfl⟩:=ru;obtain⟨z,af,n,r,hl,e⟩:=I.aEH hH;rw[B8]at hl;have hj:ns.idxOf i<ns.length:=Y0 hi;have hz:af.length≤sizeLine:=by rw[B8]at z;omega
 refine FG F.slot_list_remove ⟨_,e,U⟩ F.entry_list_remove (F.args_list_remove_2 _ _) (MI l af.toArray n (.int i t) (eqU (.int i)) (λy hy=>GD r y (by simpa using hy)) (ns.idxOf i) (by rw[D3];omega) ?_ ?_ (by rw[D3];exact hz)) ⟨e,?_⟩
 ·obtain⟨h1,h2⟩:=int_at r i (m:=ns.idxOf i) (by rw[D3];omega);rw[h2,n8];exact beq_self_eq_true i
 ·intro m hm dA;obtain⟨h1,h2⟩:=int_at r i hm;rw[h2];exact beq_eq_false_iff_ne.mpr (Gf h1 dA)
 ·refine⟨.non,_,I.aEG (ca:=af.eraseIdx (ns.idxOf i)) hH e ?_ ?_ ?_,U,q⟩
  ·rw[W3]
  ·have:=r.eraseIdx (ns.idxOf i);rw[aCZ]at this;exact this
  ·rw[B8];have:=Kw ns (ns.idxOf i);omega
def ji(K:aG):V→List V→Hp→VK→Prop:=λx vs H Q=>∃(l:AF)(ns:List Int)(i:Int),x=.ref l∧vs=[.int i]∧oU K H l (ns.map V.int)∧i∈ns∧Q (.int (ns.idxOf i)) H
def TX:MtM X "list.index" (ji X.K):=by
 intro aE s σ H x vs v us Q I rx rv h;obtain⟨l,ns,i,rfl,rfl,hq,hi,q⟩:=h;cases rx;obtain⟨u,rfl,ru⟩:=rv.one;obtain⟨t,rfl⟩:=ru;obtain⟨af,r,pl,z⟩:=I.list hq;have hl:=r.length;rw[B8]at hl z;have hj:ns.idxOf i<ns.length:=Y0 hi;have hsl:sizeLine<2 ^ 62:=by decide
 obtain⟨⟨cls,dd,data,sl⟩,ho,hc,n,hd⟩:=pl.isList;dsimp only at hc hd;subst hc hd;refine FG F.slot_list_index ⟨_,ho,U⟩ F.entry_list_index (F.args_list_index_2 _ _) (SeqAt.list_indexAt l af.toArray n dd sl (.int i t) (eqU (.int i)) (ns.idxOf i) (by rw[D3];omega) (by omega) ?_ ?_) ⟨ho,λy hy=>ND.at (GD r y (by simpa using hy)) _ _,?_⟩
 ·obtain⟨h1,h2⟩:=int_at r i (m:=ns.idxOf i) (by rw[D3];omega);rw[h2,n8];exact beq_self_eq_true i
 ·intro m hm dA;obtain⟨h1,h2⟩:=int_at r i hm;rw[h2];exact beq_eq_false_iff_ne.mpr (Gf h1 dA)
 ·exact⟨.int (ns.idxOf i),H,I.tok _,⟨_,U⟩,q⟩
end
section
variable{a:AK}{g:FE}{pos:Pos}
def aA2(i:Nat)(π:FP)(g f:FE):GS:=λenv=>match env[i]?,π (rE env),g (rE env),f (rE env)with
 | some (.own d0),NR p,NR (.int k),NR (.int y)=>(match gJ p d0 with
  | some (.lst ds)=>(match intsOf ds with
   | some ns=>if 0≤k∧k.toNat≤ns.length∧ns.length<1000 then .next (env.set i (.own (fO p d0 (.lst ((ns.take k.toNat++y::ns.drop k.toNat).map D.int)))))else .bad
   | none=>.bad)
  | _=>.bad)
 | _,_,_,_=>.bad
def aIs(h:EvP K ta i π)(hx:Ko K tb g)(he:Ko K te f):DSs K (oV (Qx K "list" Qe ta (dF tb (dF te oX)))) (aA2 i π g f):=λB E σ H env r p=>by
 unfold aA2 at p;split at p
 ·rename_i d0 pp k y q1 q2 q3 nL;split at p
  ·rename_i ds q4;split at p
   ·rename_i ns q5;split at p
    ·rename_i hc;obtain⟨c0,c1,c2⟩:=hc;obtain⟨v0,a,xs,Bs,k1,k2,k3,k4,k5,k6⟩:=r.DY q1 q4;have ed:=vH q5;subst ed;have ex:=lV.mp (eQ.rv _ _ _ k5);subst ex;refine h σ H (rE env) v0 pp _ _ r.r k1 q2 k2 λH1 s1=>⟨.inl ⟨U,_,oU.of (s1 _ _ k3)⟩,?_⟩
     refine hx σ H1 H1 (rE env) _ _ (Zn.self K H1) (r.r.same s1) q3 λu H2 Z2 s2 t2 z2 ru=>he σ H2 H2 (rE env) _ _ (Zn.self K H2) (r.r.same (s1.trans s2)) nL λw H3 Z3 s3 t3 z3 Qv=>?_;unfold Rv at ru Qv;subst ru Qv;have Sq:=s1.trans (s2.trans s3);refine⟨a,_,k,.int y,U,U,Sq _ _ k3,c0,by rw[B8];exact c1,Nt (by rw[B8];omega),p _ ?_⟩;have e:(ns.map V.int).take k.toNat++V.int y::(ns.map V.int).drop k.toNat=(ns.take k.toNat++y::ns.drop k.toNat).map V.int:=by rw[J6,E2,k7,k8]
     rw[e];exact k6 H3 _ _ nil Sq (yD _ _ (fK _) (lV.mpr U)) λb z=>z.elim
    ·exact p.elim
   ·exact p.elim
  ·exact p.elim
 ·exact p.elim
def jj(i:Nat)(π:FP)(f:FE):GS:=λenv=>match env[i]?,π (rE env),f (rE env)with
 | some (.own d0),NR p,NR (.int y)=>(match gJ p d0 with
  | some (.lst ds)=>(match intsOf ds with
   | some ns=>if y∈ns then .next (env.set i (.own (fO p d0 (.lst ((ns.eraseIdx (ns.idxOf y)).map D.int)))))else .bad
   | none=>.bad)
  | _=>.bad)
 | _,_,_=>.bad
def aIt(h:EvP K ta i π)(he:Ko K te f):DSs K (oV (Qx K "list" Qf ta (dF te oX))) (jj i π f):=λB E σ H env r p=>by
 unfold jj at p;split at p
 ·rename_i d0 pp y q1 q2 q3;split at p
  ·rename_i ds q4;split at p
   ·rename_i ns q5;split at p
    ·rename_i hc;obtain⟨v0,a,xs,Bs,k1,k2,k3,k4,k5,k6⟩:=r.DY q1 q4;have ed:=vH q5;subst ed;have ex:=lV.mp (eQ.rv _ _ _ k5);subst ex;refine h σ H (rE env) v0 pp _ _ r.r k1 q2 k2 λH1 s1=>⟨.inl ⟨U,_,oU.of (s1 _ _ k3)⟩,?_⟩
     refine he σ H1 H1 (rE env) _ _ (Zn.self K H1) (r.r.same s1) q3 λw H2 Z2 s2 t2 z2 Qv=>?_;unfold Rv at Qv;subst Qv;have gL:=s1.trans s2;refine⟨a,ns,y,U,U,gL _ _ k3,hc,p _ ?_⟩;exact k6 H2 _ _ nil gL (yD _ _ (fK _) (lV.mpr U)) λb z=>z.elim
    ·exact p.elim
   ·exact p.elim
  ·exact p.elim
 ·exact p.elim
def aFx(h:XP K X a ta i π)(hx:XR K X b tb g)(he:XR K X e te f)(hp:PE X a ta→PE X b tb→PE X e te→PS X (.Expr (.Call (.Attribute a m ah) [b,e] [] ay) pos) (oV (Qx K "list" Qe ta (dF tb (dF te oX))))):YS K X (.Expr (.Call (.Attribute a m ah) [b,e] [] ay) pos) (oV (Qx K "list" Qe ta (dF tb (dF te oX)))) (jW i (aA2 i π g f)):=Ge i (hp h.pe hx.pe he.pe) (aIs h.ev hx.ev he.ev)
def yf(h:XP K X a ta i π)(he:XR K X e te f)(hp:PE X a ta→PE X e te→PS X (.Expr (.Call (.Attribute a m ah) [e] [] ay) pos) (oV (Qx K "list" Qf ta (dF te oX)))):YS K X (.Expr (.Call (.Attribute a m ah) [e] [] ay) pos) (oV (Qx K "list" Qf ta (dF te oX))) (jW i (jj i π f)):=Ge i (hp h.pe he.pe) (aIt h.ev he.ev)
def Bh(a b:D):Option D:=match a,b with
 | .lst ds,.int i=>(intsOf ds).bind λns=>if i∈ns then NR (.int (ns.idxOf i))else sx
 | _,_=>sx
def TY(ha:XR K X a ta f)(he:XR K X e te g)(hp:PE X a ta→PE X e te→PE X (.Call (.Attribute a m ah) [e] [] pos) (Qx X.K "list" (ji X.K) ta (dF te oX))):XN K X (.Call (.Attribute a m ah) [e] [] pos) (Qx K "list" (ji K) ta (dF te oX)) (f2 Bh f g):=⟨ha.hk,by have:=ha.hk;subst this;exact hp ha.pe he.pe,λσ H e d Q re q k=>by
 obtain⟨d1,q1,q⟩:=aZ q;obtain⟨d2,q2,q⟩:=aZ q;unfold Bh at q;split at q
 ·obtain⟨ns,q3,q⟩:=aZ q;split at q
  ·rename_i hi;cases q;refine ha.ev σ H H e _ _ (Zn.self K H) re q1 λv H1 Z1 s1 t1 z1 rv=>?_;have rv:=z1.sm.rv _ _ rv;obtain⟨p,rfl,r2⟩:=Bb q3 rv;refine⟨.inl ⟨U,_,r2⟩,he.ev σ H1 H1 e _ _ (Zn.self K H1) (re.same s1) q2 λu H2 Z2 s2 t2 z2 ru=>?_⟩;unfold Rv at ru;subst ru;obtain⟨p',e',r3⟩:=Bb q3 (s2.rv _ _ rv);cases e';exact⟨p,ns,_,U,U,r3,hi,k _ H2 (s1.trans s2) (.jH U (by unfold Rv;rfl))⟩
  ·cases q
 ·cases q⟩
def Tp(a b:D):Option D:=match a with
 | .dk ks ds=>(Wa b).bind λk=>match posK ks k with
  | none=>NR .non
  | some j=>(ds[j]?).bind λr=>if r.jH=NU then NR r else sx
 | _=>sx
def Tq(hu:X.A.units+1<BG)(ha:XR K X a ta f)(he:XR K X e te g)(mm:M1 X a "get" ah e ay):XN K X (.Call (.Attribute a "get" ah) [e] [] ay) (aB6 ta te) (f2 Tp f g):=⟨ha.hk,aB7 hu ha.pe he.pe mm,λσ H e d Q re q k=>by
 obtain⟨d1,q1,q⟩:=aZ q;obtain⟨d2,q2,q⟩:=aZ q;unfold Tp at q;split at q
 ·rename_i ks ds _;obtain⟨kk,h1,q⟩:=aZ q;refine ha.ev σ H H e _ _ (Zn.self K H) re q1 λx H1 Z1 s1 t1 z1 rx=>?_;have rx:=z1.sm.rv _ _ rx;have rx':=rx;unfold Rv at rx;obtain⟨p,xs,r1,r2,r3,r4⟩:=rx;refine⟨p,r1,.inl ⟨_,r2⟩,he.ev σ H1 H1 e _ _ (Zn.self K H1) (re.same s1) q2 λu H2 Z2 s2 t2 z2 ru=>?_⟩;have ru:=z2.sm.rv _ _ ru;have oy:=s2.rv _ _ rx';unfold Rv at oy;obtain⟨p',cp,e1,r2',r3',r4'⟩:=oy;rw[r1]at e1;cases e1;refine⟨xZ (ks.zip cp) kk,.inl ⟨_,kk,r2',Pn h1 ru,U⟩,?_⟩;rw[uH r3'];split at q
  ·rename_i hn;cases q;rw[hn];exact k _ H2 (s1.trans s2) (.jH U (by unfold Rv;rfl))
  ·rename_i j hj;obtain⟨r,q4,q⟩:=aZ q;split at q
   ·rename_i im;cases q;obtain⟨v,e1,e2⟩:=r4'.get q4;rw[hj,C4,e1];exact k v H2 (s1.trans s2) (.jH im e2)
   ·cases q
 ·cases q⟩
def aFy:List D→Option D
 | [.int a]=>NR (.int (if a<0 then -a else a))
 | _=>sx
def aKl:List V→Hp→VK→Prop:=λxs H Q=>∃a:Int,xs=[.int a]∧Q (.int (if a<0 then -a else a)) H
def aIu:wR K aKl aFy:=λvs H ds d Q rs q k=>by
 unfold aFy at q;split at q
 ·cases q;obtain⟨v,rfl,r⟩:=rW rs;unfold Rv at r;subst r;exact⟨_,U,k _ H (aW.refl _) (.jH U (by unfold Rv;rfl))⟩
 ·cases q
def aIv:mQ X (.builtin "abs") aKl:=by intro aE s σ H xs us Q I r h;obtain⟨a,rfl,q⟩:=h;obtain⟨u,rfl,rx⟩:=vals1 r;obtain⟨t,rfl⟩:=rx;exact call_abs_int λu tk=>⟨.int _,H,I.tok _,⟨u,U⟩,q⟩
end
section
variable{st:AO}{vals:List AK}{keys:List (Option AK)}{fs:FA}{pos p1:Pos}{t:List (TE×TE)}{is:List Nat}{x:Str}
end
section
variable{x y:Str}{pos cq:Pos}{a:AK}{t:TA}{fs:FA}
theorem UG(lo:Int):∀(m:Nat)(us:List AE)(s:Nat),us.length=m→(∀(j:Nat)(w:AE),us[j]?=NR w→∃t,w=.int (lo+((s+j:Nat):Int)) t)→Vals ((List.range' s m).map λk=>V.int (lo+((k:Nat):Int))) us
 | 0,us,s,hl,_=>by have:us=[]:=N1 hl;subst this;exact .nil
 | m+1,us,s,hl,hw=>by
  cases us with
  | nil=>cases hl
  | cons w us=>rw[List.range'_succ,E2];obtain⟨t0,e0⟩:=hw 0 w U;refine .cons ⟨t0,by rw[e0];rfl⟩ (UG lo m us (s+1) (by simpa using hl) λj w' hj=>?_);obtain⟨t1,e1⟩:=hw (j+1) w' (by simpa using hj);exact⟨t1,by rw[e1,show s+(j+1)=s+1+j by omega]⟩
def GF:List V→Hp→VK→Prop:=λvs H Q=>∃lo hi:Int,vs=[.int lo,.int hi]∧0≤lo∧lo≤1000∧0≤hi∧hi≤1000∧∀l,H l=sx→Q (.ref l) (upd H l (.lst ((D5 (hi-lo).toNat).map λk=>V.int (lo+((k:Nat):Int)))))
def aC0(hc:X.calm=NU)(aE:List (AF×Obj))(s:AG)(σ:St)(H:Hp)(vs:List V)(us:List AE)(Q:VK)(I:Inv X aE σ H s)(rv:Vals vs us)(h:GF vs H Q):
 AL (AM X.prog X.w) X.A (call (.type "range") us) (λu' s'=>AL (AM X.prog X.w) X.A (call (.type "list") [u']) (EP X aE σ Q) X.xe s') X.xe s:=by
 obtain⟨lo,hi,rfl,h0,h1,h2,h3,q⟩:=h;cases rv with
 | cons r rr=>
  cases rr with
  | cons r' rr=>
   cases rr;obtain⟨t,rfl⟩:=r;obtain⟨t',rfl⟩:=r';refine LL ?_;refine call_list_range (n:=(hi-lo).toNat) (I.ok.hd hc) (Lu _ _ _ _ _ _ _) (small_one (by omega) (by omega) (by omega) (by omega)) (by rw[Kn];split<;>omega) (by omega) λh' tk bo c kp g it=>?_;have I1:Inv X aE σ H {s with heap:=s.heap.push {cls:=.type "range",data:=.fields #[.int lo t,.int hi t',.int 1 s.toks]},toks:=s.toks+1}:=I.kept (t':=s.toks+1) λb o e=>AI _ e;generalize hg':s.heap.push {cls:=.type "range",data:=.fields #[.int lo t,.int hi t',.int 1 s.toks]}=hp at *;have hs:H hp.objs.size=sx:=I1.hok.fresh (C9 _);have rr:Vals ((D5 (hi-lo).toNat).map λk=>V.int (lo+((k:Nat):Int))) bo.toList:=by rw[List.range_eq_range'];refine UG lo _ bo.toList 0 (by rw[L3];exact it.1) λj w hj=>?_;obtain⟨t1,e1⟩:=it.2 j w (by rw[←M8];exact hj);exact⟨t1,by rw[e1,show lo+(j:Int)*1=lo+((0+j:Nat):Int) by omega]⟩
   exact⟨.ref _,_,I1.laid (t':=tk) (a:=hp.objs.size) (o:=.lst ((D5 (hi-lo).toNat).map λk=>V.int (lo+((k:Nat):Int)))) kp (C9 _) ⟨by rw[B8,E1];exact P4 (tY (by omega)),bo.toList,c,rr,by simpa[IE]using g⟩,U,q _ hs⟩
def aA3(hc:X.calm=NU)(ha:PA X [a,b] t)(hg:Gl X x)(hm:X.mg x=sx)(hv:AZ x=NR (.type "list")) (nX:Gl X y) (ng:X.mg y=sx) (nh:AZ y=NR (.type "range")) (hn:x ≠ "__name__" := by decide) (cm:(x==("__debug__":Str))=NV:=by decide) (eB:y ≠ "__name__" := by decide) (jf:(y==("__debug__":Str))=NV:=by decide)
 (he:AJ [a,b] X.env=[(NV,AU a X.env),(NV,AU b X.env)]:=by rfl) (oz:AJ [b] X.env=[(NV,AU b X.env)]:=by rfl) (kz:AJ [.Call (.Name y p2) [a,b] [] cq] X.env=[(NV,AU (.Call (.Name y p2) [a,b] [] cq) X.env)]:=by rfl) :
 PE X (.Call (.Name x p) [.Call (.Name y p2) [a,b] [] cq] [] pos) (tCB GF t):=by
 intro aE s σ H Q I h;refine BF (vZ I hg hm hv ?_ hn cm);refine L4 ?_ kz U;rw[kz];refine BY (BF (vZ I nX ng nh ?_ eB jf));exact L4 (iY (ha cq aE s σ H _ I h) λus s1 ⟨vs,H1,I1,r1,q1⟩=>iY (aC0 hc aE s1 σ H1 vs us Q I1 r1 q1) λu' s' z=>CF z) (by rw[he,oz]) (by rw[oz];rfl)
def Jc:List D→Option D
 | [.int lo,.int hi]=>if 0≤lo∧lo≤1000∧0≤hi∧hi≤1000 then NR (.lst ((D5 (hi-lo).toNat).map λk=>D.int (lo+((k:Nat):Int))))else sx
 | _=>sx
def aA4(h:XA K X [a,b] t fs)(hg:Gl X x)(hm:X.mg x=sx)(hv:AZ x=NR (.type "list")) (nX:Gl X y) (ng:X.mg y=sx) (nh:AZ y=NR (.type "range")) (hc:X.calm=NU:=by rfl) (hn:x ≠ "__name__" := by decide) (cm:(x==("__debug__":Str))=NV:=by decide) (eB:y ≠ "__name__" := by decide) (jf:(y==("__debug__":Str))=NV:=by decide)
 (he:AJ [a,b] X.env=[(NV,AU a X.env),(NV,AU b X.env)]:=by rfl) (oz:AJ [b] X.env=[(NV,AU b X.env)]:=by rfl) (kz:AJ [.Call (.Name y p2) [a,b] [] cq] X.env=[(NV,AU (.Call (.Name y p2) [a,b] [] cq) X.env)]:=by rfl) :
 XN K X (.Call (.Name x p) [.Call (.Name y p2) [a,b] [] cq] [] pos) (tCB GF t) (fL Jc fs):=⟨h.hk,aA3 hc h.pa hg hm hv nX ng nh hn cm eB jf he oz kz,λσ H e d Q re q k=>by
 obtain⟨ds,q1,q2⟩:=aZ q;unfold Jc at q2;split at q2
 ·rename_i lo hi;split at q2
  ·rename_i hl;cases q2;refine h.ev σ H H e _ _ (Zn.self K H) re q1 λvs H1 Z1 s1 t1 z1 bp=>?_;unfold eO at bp;obtain⟨v1,r1,rfl,e1,bp⟩:=bp;unfold eO at bp;obtain⟨v2,r2,rfl,e2,bp⟩:=bp;unfold eO at bp;subst bp;unfold Rv at e1 e2;subst e1 e2;refine⟨lo,hi,U,hl.1,hl.2.1,hl.2.2.1,hl.2.2.2,λl hl=>k _ _ (s1.trans (cR hl _)) ((vD (aW.refl _) (.gR ?_ ?_) hl).back s1)⟩
   ·have:=fK ((D5 (hi-lo).toNat).map λk=>lo+((k:Nat):Int));rw[M4]at this;exact this
   ·have:=lV (K:=K) (H:=H1) (ns:=(D5 (hi-lo).toNat).map λk=>lo+((k:Nat):Int)) |>.mpr U;rw[M4]at this;rw[show (λk:Nat=>V.int (lo+(k:Int)))=V.int∘λk:Nat=>lo+(k:Int)from rfl,←M4];exact this
  ·cases q2
 ·cases q2⟩
end
section
variable{a:AK}{pos:Pos}
end
section
variable{a:AK}{es:List AK}{g:FE}{fs:FA}{pos:Pos}
end
section
variable{P:AQ}
end
section
variable{l:AK}{tl:TE}
end
section
variable{a:AK}{tc:TE}{g fc:FE}{pos:Pos}
def jk(φ φ':D→D→Option D)(f g h:FE):FE:=λe=>(We φ φ' f g h e).map .bl
def UJ{op:EH}{r:R2}{φ':D→D→Option D}(ho:vC X (AY op) r)(gx:vC X (AY gz) r')(hd:MN K r φ)(kM:MN K r' φ')(ha:XR K X a ta fa)(hb:XR K X b tb fb)(hc:XR K X c tc fc)(hm:IA [op,gz] [b,c]=NV:=by with_unfolding_all rfl):XN K X (.Compare a [op,gz] [b,c] pos) (BP r r' ta tb tc) (jk φ φ' fa fb fc):=⟨ha.hk,aBN ho gx ha.pe hb.pe hc.pe hm,λσ H e k Q re q kk=>by
 obtain⟨k,q0,rfl⟩:=kJ q;clear q;obtain⟨d1,q1,q⟩:=aZ q0;clear q0;obtain⟨d2,q2,q⟩:=aZ q;obtain⟨d3,q3,q⟩:=aZ q;refine ha.ev σ H H e d1 _ (Zn.self K H) re q1 λx H1 Z1 s1 t1 z1 rx=>hb.ev σ H1 H1 e d2 _ (Zn.self K H1) (re.same s1) q2 λy H2 Z2 s2 t2 z2 ry=>?_;refine hd x y H2 d1 d2 d3 _ (s2.rv _ _ (z1.sm.rv _ _ rx)) (z2.sm.rv _ _ ry) q3 λz H3 s3 n=>?_;have rz:=n.rv;split at q
 ·obtain⟨d4,q4,q⟩:=aZ q;obtain⟨d5,q5,q⟩:=aZ q;unfold Rv at rz;refine⟨NU,rz,?_⟩;rw[sk rfl];refine hc.ev σ H3 H3 e d4 _ (Zn.self K H3) (re.same (s1.trans (s2.trans s3))) q4 λw H4 Z4 s4 t4 z4 Qv=>?_;refine kM y w H4 d2 d4 d5 _ ((s3.trans s4).rv _ _ (z2.sm.rv _ _ ry)) (z4.sm.rv _ _ Qv) q5 λv H5 s5 n5=>?_;have r5:=n5.rv;split at q
  ·cases q;exact kk v H5 (s1.trans (s2.trans (s3.trans (s4.trans s5)))) (.jH U r5)
  ·cases q
 ·cases q;unfold Rv at rz;refine⟨NV,rz,?_⟩;rw[sv (by decide)];exact kk _ H3 (s1.trans (s2.trans s3)) (.jH U (by unfold Rv;rfl))
 ·cases q⟩
end
section
variable{H':Hp}{env:EN}
end
section
variable{P:AQ}{l:List Env}{s1 s':AG}{e:AF}{cls:AE}{base:Heap}
end
section
variable{s1 s':AG}{e:AF}{cls ev:AE}{E:XK}
end
section
variable{P:AQ}{env:Env}{outer:List Env}{L e:AF}{cls a0:AE}{s0 s1:AG}{E:XK}{base h':Heap}{s2:AG}
end
section
variable{P:AQ}{base:Heap}{qual:Str}{scope:BQ}{f:AF}{cd:AE}{outer:List Env}{s0:AG}{E:XK}
end
def Rel.sub{env:EN}(r:Rel K B env σ H):aW B H:=let ⟨_,_,b⟩:=r;b.trans (jA _ _)
section
variable{E:XK}{st:AO}{rest:List AO}{t u:TS}{z z1 z2:GZ}{o:AK}{es:List AK}{fs:FA}{pos:Pos}
end
section
variable{P:AQ}{base:Heap}
end
section
variable{E:XK}{z:GZ}{pos:Pos}
end
section
variable{P:AQ}{base:Heap}{qual:Str}{scope:BQ}{f:AF}{cd:AE}{outer:List Env}{s0:AG}{E:XK}
 {x:Str} {C:AF} {np ay pos:Pos} {e:AK} {es:List AK} {tA:TA}
end
section
variable{aBB pn:List (AF×Obj)}{s':AG}{Ex:AE→AG→Prop}{e:AF}{D:Ends}{fl:Flow}
end
section
variable{sub:aKn}{n nj:Nat}{z:GZ}{st:AO}{pos:Pos}
end
section
variable{pos:Pos}
end
def Gg:EN→List Nat→List D→EN
 | env,i::is,d::ds=>Gg (env.set i (.fro d)) is ds
 | env,_,_=>env
def Wi(is:List Nat)(g:GS):List D→EN→SR
 | [],env=>.next env
 | .tup ds::xs,env=>if is.length=ds.length∧is.all (λi=>decide (i<env.length))=NU then(match g (Gg env is ds)with
  | .next aI=>Wi is g xs aI
  | .cont aI=>Wi is g xs aI
  | .brk aI=>.next aI
  | r=>r)else .bad
 | _::_,_=>.bad
def Yh(js is:List Nat)(fi:FA)(g:GS):GS:=λenv=>match fi (zE (Al js env))with
 | some xs=>Wi is g xs (Al js env)
 | none=>.bad
section
variable{pos:Pos}
theorem Yi{Q:St→Hp→Prop}:∀{is:List Nat} {ds:List D} {vs:List V} {env:EN} {σ:St},Rel K Z1 env σ H→eO K Z1 ds vs→is.length=ds.length→(∀i∈is,i<env.length)→(∀σ',Rel K Z1 (Gg env is ds) σ' H→Q σ' H)→pK is vs σ H Q
 | [],[],vs,env,σ,r,h,_,_,k=>by unfold eO at h;subst h;unfold pK;exact⟨U,k σ r⟩
 | i::is,d::ds,vs,env,σ,r,h,hl,hi,k=>by unfold eO at h;obtain⟨y,ys,rfl,h1,h2⟩:=h;unfold pK;refine⟨y,ys,U,?_⟩;obtain⟨A2,a2,b2⟩:=r;have r3:Rel K Z1 (env.set i (.fro d)) (σ.set i (NR y)) H:=Il a2 b2 (hi i C8) (aW.refl _) (aW.refl _) (Fz a2) (b2.rv _ _ h1);exact Yi r3 h2 (by simpa using hl) (λj hj=>by rw[J5];exact hi j (C6 _ hj)) λσ' r'=>k σ' (by unfold Gg;exact r')
 | [],_::_,_,_,_,_,_,hl,_,_=>by simp at hl
 | _::_,[],_,_,_,_,_,hl,_,_=>by simp at hl
def aFz{is:List Nat}{n:Nat}{tb:TS}(hi:EvI K wi fi)(h:DS K tb g)(hn:n=is.length):DS K (Qo wi (Vr K n (pK is)) tb) (Yh js is fi g):=λB E σ H env r p=>by
 unfold Yh at p;have r':Rel K B (Al js env) σ H:=r.Al;generalize Al js env=En at r' p;split at p
 ·rename_i xs q;obtain⟨A,a,b⟩:=r';refine hi σ H (out H A) (zE En) xs _ (Fz a) (aGz a) q λJ H1 Z1 P vs s t z hJ hP bp=>?_;have hl:=bp.length;have g0:aW Z1 (out H1 A):=λx o e=>bF.mpr ⟨λqa=>(by rw[(z.no x qa).1]at e;cases e),z.sm x o e⟩;have sB:Rel K Z1 En σ H1:=⟨A,a.mono λe D y _ qq=>qq.same s (bT s λx q=>.inl q),g0⟩
  have bz:aW B Z1:=b.trans t;have p':=p.mono bz;refine Hw hJ (λk σ2 H2=>∃cU,Rel K Z1 cU σ2 H2∧Lf K Z1 E (Wi is g (xs.drop k) cU)) ⟨En,sB,by simpa using p'⟩ (λk σ2 H2 _ ⟨cU,⟨A2,a2,b2⟩,_⟩=>hP H2 (b2.trans (jA H2 A2))) ?_ ?_
  ·rintro k x σ2 H2 hx ⟨cU,r2,p2⟩;have hk:k<xs.length:=by have:=D4.mp hx;obtain⟨h1,_⟩:=this;omega
   rw[L8 hk]at p2;obtain⟨x',fN,rx⟩:=bp.get (B6 hk);rw[hx]at fN;cases fN;cases hd:xs[k]with
   | tup ds=>
    rw[hd]at p2 rx;unfold Wi at p2;split at p2
    ·rename_i hc;have rx:=r2.sub.rv _ _ rx;have rxz:=rx;unfold Rv at rx;obtain⟨ad,ys,rfl,h1,h2⟩:=rx;have hrz:∃ad' iN,V.ref ad=V.ref ad'∧xW K Z1 ad' iN∧eO K Z1 ds iN:=by obtain⟨x2,e2,oy⟩:=bp.get (B6 hk);rw[hx]at e2;cases e2;rw[hd]at oy;unfold Rv at oy;exact oy
     obtain⟨ad',iN,e,h1',cw⟩:=hrz;cases e;refine⟨ad,iN,U,r2.sub.tup h1',by rw[cw.length,hn,hc.1],?_⟩;refine Yi r2 cw hc.1 (λi hi=>of_decide_eq_true (N3.mp hc.2 i hi)) λσ' r3=>?_;refine h Z1 _ _ H2 _ r3 ?_;split at p2
     ·rename_i aI q2;rw[q2];exact λσ' H' r'=>⟨aI,r',p2⟩
     ·rename_i aI q2;rw[q2];exact λσ' H' r'=>⟨aI,r',p2⟩
     ·rename_i aI q2;rw[q2];exact p2
     ·rename_i n1 n2 n3;cases q2:g (Gg cU is ds)with
      | next e=>exact absurd q2 (n1 e)
      | cont e=>exact absurd q2 (n2 e)
      | brk e=>exact absurd q2 (n3 e)
      | ret d=>rw[q2]at p2;exact p2
      | bad=>rw[q2]at p2;exact p2
      | rete d e=>rw[q2]at p2;exact p2
    ·exact p2.elim
   | _=>rw[hd]at p2;unfold Wi at p2;exact p2.elim
  ·rintro σ2 H2 ⟨cU,r2,p2⟩;rw[hl,S8]at p2;exact p2 σ2 H2 r2
 ·exact p.elim
def aFA{tg iter:AK}{body:List AO}{wi:TI}{fi:FA}{tb:TS}{n:Nat}(js is:List Nat)(hp:EC (AM X.prog X.w) X.A X.env X.xe)(DX:X.calm=NU)(hi:XI K X tg iter wi fi)(hg:PG X tg (Vr K n (pK is)))(hb:YB K X body tb g)(hn:n=is.length:=by rfl)
 (hs:∀x,BD iter X.env x=pure x:=by intro _;rfl):YS K X (.For tg iter body [] pos) (Qo wi (Vr K n (pK is)) tb) (Yh js is fi g):=⟨Qq hp DX hi.pi hg hb.ps hs,aFz hi.ev hb.ev hn⟩
end
section
variable{pos p0:Pos}
end
open PySem PySem.Spec PySem.Calls PyProof.Rows PyProof.V Builtin Builtin.ObjectAttr Builtin.Getset_descriptor
section
variable{P:AQ}{x D:AF}{ox:Obj}{od:Option Obj}
end
section
variable{pos:Pos}
end
section
variable{P:AQ}{base:Heap}
end
section
variable{E:XK}{pos:Pos}
end
section
variable{pos:Pos}
end
set_option maxHeartbeats 1000000
section
variable{pos:Pos}
end
section
variable{pos:Pos}
variable{sub:aKn}{n nj:Nat}
end
section
variable{a e0 eM:AK}{es:List AK}{t0 tM:TE}{f0:FE}{gM:GM}{fs:FA}{pos:Pos}
def aC1:Option SD→Bool
 | some (.own (.lst _))=>NU
 | _=>NV
def Yj(i:Nat)(f0:FE)(gM:GM)(fs:FA):GS:=λenv=>match f0 (rE env),gM env with
 | some d0,NR (d1,aI)=>(match fs (rE aI),aI[i]? with
  | some r,NR (.own (.lst ds))=>if(aC1 env[i]?=NU∧(toV d0).isSome=NU)∧D.gR (d1::r)=NU∧r.length≤50∧ds.length<100000 then .next (aI.set i (.own (.lst (ds++[.tup (d0::d1::r)]))))else .bad
  | _,_=>.bad)
 | _,_=>.bad
def aFB(h0:Nq K t0 f0)(hM:EvM K tM gM)(hA:EvB K tA fs):DSs K (oV (Qx K "list" pC (qM i) (dF (PJ (dF t0 (dF tM tA))) oX))) (Yj i f0 gM fs):=λB E σ H env r p=>by
 unfold Yj at p;split at p
 ·rename_i d0 d1 aI q0 q1;split at p
  ·rename_i rr ds q2 q3;split at p
   ·rename_i hc;obtain⟨⟨c0,cv⟩,c1,c2,c3⟩:=hc;obtain⟨ds0,q4⟩:∃ds0,env[i]?=NR (.own (.lst ds0)):=by
     cases z:env[i]? with
     | none=>rw[z]at c0;cases c0
     | some y=>
      rw[z]at c0;unfold aC1 at c0;split at c0
      ·rename_i w zz;cases zz;exact⟨_,U⟩
      ·cases c0
    obtain⟨w,hw⟩:=U2.mp cv;obtain⟨v0,a,xs0,Bs0,k1,k2,k3,_,_,_⟩:=r.DY (p:=[]) q4 U;have ev0:v0=.ref a:=by have k2:NR v0=NR (V.ref a):=k2;exact E6 k2
    subst ev0;refine⟨_,k1,.inl ⟨U,xs0,oU.of k3⟩,?_⟩;refine h0 σ H (rE env) d0 _ r.r q0 λx0 H1 s1 n0=>?_;have ex0:=Ft hw n0.rv;subst ex0;refine hM B σ H1 env d1 aI _ (r.same s1) q1 λx1 H2 r2=>?_;have p2:=r2.pop;refine hA σ H2 (rE aI) rr _ p2.r q2 λvs H3 s3 n3=>?_;have rx0:Rv K H3 d0 x0:=by cases d0<;>unfold toV at hw<;>first | (cases hw;unfold Rv;rfl) | cases hw
    have aL8:eO K H3 (d0::d1::rr) (x0::x1::vs):=by unfold eO;refine⟨_,_,U,rx0,?_⟩;unfold eO;exact⟨_,_,U,s3.rv _ _ r2.aCK,n3.rv⟩
    have im:D.gR (d0::d1::rr)=NU:=by unfold D.gR;rw[J2];refine⟨?_,c1⟩;cases d0<;>unfold toV at hw<;>first | rfl | cases hw
    refine⟨Xl (by rw[E3,E3,n3.rv.length];omega),λpp hp=>?_⟩;have s4:aW H2 (upd H3 pp (.tup (x0::x1::vs))):=s3.trans (cR hp _);have p4:=p2.same s4;obtain⟨v1,a1,xs1,Bs1,m1,m2,m3,m4,m5,m6⟩:=p4.DY (p:=[]) q3 U;have ev1:v1=.ref a1:=by have m2:NR v1=NR (V.ref a1):=m2;exact E6 m2
    subst ev1;rw[k1]at m1;cases m1;refine⟨a,xs1,.ref pp,U,U,m3,Nt (by rw[(eQ.rv _ _ _ m5).length];omega),p _ ?_⟩;have ow:Ow K (upd H3 pp (.tup (x0::x1::vs))) (.tup (d0::d1::rr)) nil (.ref pp):=by unfold Ow;exact⟨pp,_,U,xW.of cA,(yD _ _ im aL8).same (cR hp _)⟩
    exact m6 _ (ds++[.tup (d0::d1::rr)]) (xs1++[.ref pp]) (gG Bs1 nil) (aW.refl _) (cQ.mpr ((cQ.mp m5).snoc ow (λx _ z=>z.elim))) λb z=>z.elim .inl False.elim
   ·exact p.elim
  ·exact p.elim
 ·exact p.elim
def aC2{m:Str}{ah ay eD:Pos}{x1:Nat}(hl:PE X a (qM i))(h0:XN K X e0 t0 f0)(hM:XM K X eM tM gM)(hA:XB K X es tA fs)
 (hp:PE X a (qM i)→PE X (.Tuple (e0::eM::es) x1 eD) (PJ (dF t0 (dF tM tA)))→PS X (.Expr (.Call (.Attribute a m ah) [.Tuple (e0::eM::es) x1 eD] [] ay) pos) (oV (Qx K "list" pC (qM i) (dF (PJ (dF t0 (dF tM tA))) oX))))
 (bt:AJ (e0::eM::es) X.env=(NV,AU e0 X.env)::AJ (eM::es) X.env:=by rfl) (nS:AJ (eM::es) X.env=(NV,AU eM X.env)::AJ es X.env:=by rfl) :
 YS K X (.Expr (.Call (.Attribute a m ah) [.Tuple (e0::eM::es) x1 eD] [] ay) pos) (oV (Qx K "list" pC (qM i) (dF (PJ (dF t0 (dF tM tA))) oX))) (jW i (Yj i f0 gM fs)):=
 Ge i (hp hl (cu (cZ h0.pe (cZ hM.pe hA.pa nS) bt))) (aFB h0.ev hM.ev hA.ev)
def Yk(is:List Nat)(g:GM):GS:=λenv=>match g env with
 | some (.tup ds,aI)=>if(is.length=ds.length∧is.all (λi=>decide (i<aI.length))=NU)∧D.gR ds=NU then .next (pX aI is ds)else .bad
 | _=>.bad
def aFC{is:List Nat}{n:Nat}{g:GM}(h:XM K X e te g)(hp:PE X e te→PS X (.Assign [tg] e pos) (xX te (Vr K n (pK is))))(hn:n=is.length:=by rfl):YS K X (.Assign [tg] e pos) (xX te (Vr K n (pK is))) (Yk is g):=⟨hp h.pe,λB E σ H env r p=>by
 unfold Yk at p;split at p
 ·rename_i ds aI q;split at p
  ·rename_i hc;refine h.ev B σ H env _ aI _ r q λv H' r'=>?_;have rv:=r'.aCK;unfold Rv at rv;obtain⟨ad,xs,rfl,o1,o2⟩:=rv;refine⟨ad,xs,U,o1,by rw[o2.length,hn,hc.1.1],?_⟩;exact Sw (r'.pop.x (R:=nil) (aW.refl _) λx z=>z.elim) (yD _ _ hc.2 o2) hc.1.1 (λi hi=>of_decide_eq_true (N3.mp hc.1.2 i hi)) λσ' r2=>p σ' H' r2
  ·exact p.elim
 ·exact p.elim⟩
end
def Itz(K:aG)(a b:AF):It:=
 ⟨λi H=>∃xs ys x y,oU K H a xs∧oU K H b ys∧xs[i]?=NR x∧ys[i]?=NR y,λi H x H'=>∃p v u,x=.ref p∧H p=sx∧(∀xs,oU K H a xs→xs[i]?=NR v)∧(∀ys,oU K H b ys→ys[i]?=NR u)∧H'=upd H p (.tup [v,u]),λi H=>∃xs ys,oU K H a xs∧oU K H b ys∧(xs.length≤i∨ys.length≤i)⟩
def aC3{P:AQ}{es:List AK}{pos:Pos}(z TI TO i1 i2 a b:AF)(D:ZipApart z TI TO i1 i2 a b):Turn P w K (.Tuple es kk pos) (Itz K a b) [z,TO,i1,i2,TI] z (λi h=>IsZip h z TI TO .none∧IsPair h TI (.ref i1) (.ref i2)∧(∃u v,IsPair h TO u v)∧h.IsListIter i1 a i∧h.IsListIter i2 b i) where
 mem:=by simp
 obj:=λi h st c hc=>by
  obtain⟨h1,h2,⟨u,v,h3⟩,⟨o4,h4,c4,d4⟩,⟨o5,h5,c5,d5⟩⟩:=st;simp only[B9,N5,or_false]at hc;rcases hc with rfl | rfl | rfl | rfl | rfl
  ·exact⟨_,h1,λv z=>by cases z⟩
  ·exact⟨_,h3,λv z=>by cases z⟩
  ·exact⟨o4,h4,λv z=>by rw[d4]at z;cases z⟩
  ·exact⟨o5,h5,λv z=>by rw[d5]at z;cases z⟩
  ·exact⟨_,h2,λv z=>by cases z⟩
 keep:=λi h h' st k=>⟨k z (by simp) _ st.1,k TI (by simp) _ st.2.1,let ⟨u,v,q⟩:=st.2.2.1;⟨u,v,k TO (by simp) _ q⟩,st.2.2.2.1.at λo q=>k i1 (by simp) o q,st.2.2.2.2.at λo q=>k i2 (by simp) o q⟩
 item:=by
  intro X hP hw hK hc i aE s σ H E I hf st hg;subst hP hw hK;obtain⟨h1,h2,⟨u0,v0,h3⟩,h4,h5⟩:=st;obtain⟨xs,ys,x,y,lS,pE,hx,hy⟩:=hg;obtain⟨af,rv,p,_⟩:=I.list lS;obtain⟨itb,rvb,pb,_⟩:=I.list pE;obtain⟨u,hu,ru⟩:=rv.get hx;obtain⟨v,hv,rvv⟩:=rvb.get hy;have lt:∀c∈[z,TO,i1,i2,TI],c<s.heap.objs.size:=λc hc=>by
   simp only[B9,N5,or_false]at hc;rcases hc with rfl | rfl | rfl | rfl | rfl
   ·exact AN h1
   ·exact AN h3
   ·obtain⟨_,q,_⟩:=h4;exact AN q
   ·obtain⟨_,q,_⟩:=h5;exact AN q
   ·exact AN h2
  refine wpAny_pyNext_zip_item D h1 h2 h3 h4 h5 p.isList pb.isList (x:=u) (y:=v) (by simpa using hu) (by simpa using hv) λh' a1 a2 a3 a4 tup sz kp=>?_;have hs:H s.heap.objs.size=sx:=I.hok.fresh (C9 _);have I1:=I.laid (t':=s.toks) (a:=s.heap.objs.size) (o:=.tup [x,y]) (h':=s.heap.push {cls:=.type "tuple",data:=.seq #[u,v]}) (λb o q=>AI _ q) (C9 _)
   ⟨P4 (tY (by simp)),[u,v],.cons ru (.cons rvv .nil),⟨_,AR _ U,U,_,U⟩⟩
  have f1:∀c∈[z,TO,i1,i2,TI],Hq X aE (L2.upd H s.heap.objs.size (.tup [x,y])) c:=λc hc=>(hf c hc).upd (F3 (lt c hc));have I2:=I1.turns (h':=h') (ch:=[z,TO,i1,i2]) (t':=s.toks) (λc hc=>f1 c (by simp only[B9,N5,or_false]at hc ⊢;rcases hc with q | q | q | q<;>simp[q])) λc o nc q=>by
   simp only[B9,N5,or_false,not_or]at nc;rcases Heap.get?_push_cases q with ⟨q1,q2⟩ | q0
   ·rw[q1,q2]
    exact tup
   ·exact kp c o nc.1 nc.2.1 nc.2.2.1 nc.2.2.2 q0
  have aL9:IsPair h' TI (.ref i1) (.ref i2):=kp TI _ D.TIz D.TITO D.TIi1 D.TIi2 h2;refine⟨_,U,wpAny_letOwnedTupleGo_zip (s:={s with heap:=h'}) a1 λh3 e3 sb=>?_⟩;refine⟨.ref s.heap.objs.size,_,I2.turns (ch:=[z]) (t':=s.toks) (λc hc=>f1 c (by rw[D2.mp hc];simp)) (λc o nc q=>sb.extBut c o (λq=>nc (by simp[q])) q),U,⟨_,x,y,U,hs,λws hw=>by rw[I.Ho hw lS];exact hx,λws hw=>by rw[I.Ho hw pE];exact hy,U⟩,⟨e3,sb.extBut TI _ D.TIz aL9,⟨_,_,sb.extBut TO _ D.TOz a2⟩,a3.at λo q=>sb.extBut i1 o D.i1z q,a4.at λo q=>sb.extBut i2 o D.i2z q⟩,λc hc=>(f1 c hc).1⟩
 done:=by
  intro X hP hw hK hc i aE s σ H E I hf st hg;subst hP hw hK;obtain⟨h1,h2,⟨u0,v0,h3⟩,h4,h5⟩:=st;obtain⟨xs,ys,lS,pE,hl⟩:=hg;obtain⟨af,rv,p,_⟩:=I.list lS;obtain⟨itb,rvb,pb,_⟩:=I.list pE;have l1:=rv.length;have l2:=rvb.length;refine wpAny_pyNext_zip_end (I.ok.hd hc) D h1 h2 h3 h4 h5 p.isList pb.isList ?_ λh' kp=>⟨rfl,I.turns (ch:=[z,TO,i1,i2]) (t':=s.toks) (λc hc=>hf c (by simp only[B9,N5,or_false]at hc ⊢;rcases hc with q | q | q | q<;>simp[q])) λc o nc q=>?_⟩
  ·rcases hl with q | q
   ·left;simp;omega
   ·right;simp;omega
  ·simp only[B9,N5,or_false,not_or]at nc
   exact kp c o nc.1 nc.2.1 nc.2.2.1 nc.2.2.2 q
 self:=λ_ _ _ _ _ st h=>IY st.1 h
section
variable{e1 e2:AK}{t1 t2:TE}{g:FE}{pos:Pos}{x:Str}
def aIx(K:aG)(t1 t2:TE):TI:=λσ H R=>t1 σ H λv H1=>t2 σ H1 λu H2=>∃a b,v=.ref a∧u=.ref b∧(∃xs,oU K H2 a xs)∧(∃ys,oU K H2 b ys)∧R (Itz K a b) H2
def aIy{tk:Nat}(ha:PE X e1 t1)(hb:PE X e2 t2)(hg:Gl X x)(hm:X.mg x=sx)(hv:AZ x=NR (.type "zip"))(hn:x ≠ "__name__" := by decide)(cm:(x==("__debug__":Str))=NV:=by decide)(he:AJ [e1,e2] X.env=[(NV,AU e1 X.env),(NV,AU e2 X.env)]:=by rfl)(oz:AJ (e1::[e2]) X.env=(NV,AU e1 X.env)::AJ [e2] X.env:=by rfl)(cE:(Au pos (AJ [e2] X.env)).any (·.1)=NV:=by rfl):PI X (.Tuple tes tk eD) (.Call (.Name x p) [e1,e2] [] pos) (aIx X.K t1 t2):=by
 intro aE s σ H R I h;refine BF (vZ I hg hm hv ?_ hn cm);refine L4 ?_ oz cE;rw[he];refine BY (iY (ha aE s σ H _ I h) λu s1 ⟨v,H1,I1,r1,q1⟩=>BY (iY (hb aE s1 σ H1 _ I1 q1) λu2 s2 ⟨v2,H2,I2,r2,q2⟩=>CF ?_));obtain⟨a,b,e1,e2,⟨xs,lS⟩,⟨ys,pE⟩,q⟩:=q2;subst e1 e2;cases r1;cases r2;obtain⟨af,rv,pl,_⟩:=I2.list lS;obtain⟨itb,rvb,plb,_⟩:=I2.list pE;have la:a<s2.heap.objs.size:=by obtain⟨o,q,_⟩:=pl.isList;exact AN q
 have lb:b<s2.heap.objs.size:=by obtain⟨o,q,_⟩:=plb.isList;exact AN q
 refine call_zip_2 pl.isList plb.isList λh' hz hTI hTO hi1 hi2 sz kp=>IY hz ?_;refine⟨s2.heap.objs.size+4,[s2.heap.objs.size+4,s2.heap.objs.size+3,s2.heap.objs.size,s2.heap.objs.size+1,s2.heap.objs.size+2],_,_,H2,U,I2.kept (t':=s2.toks) kp,aC3 _ _ _ _ _ _ _ (zipApart_new la lb),⟨hz,hTI,⟨_,_,hTO⟩,hi1,hi2⟩,λc hc=>?_,q⟩;have lc:s2.heap.objs.size≤c:=by
  simp only[B9,N5,or_false]at hc;rcases hc with rfl | rfl | rfl | rfl | rfl
  ·exact V8 _ _
  ·exact V8 _ _
  ·exact C9 _
  ·exact V8 _ _
  ·exact V8 _ _
 exact I2.aEq lc (I2.hok.fresh lc)
def Bj(c:D→D→Option Bool)(el:D→D→Option D):List (D×D)→Option (List D)
 | []=>NR []
 | (x,y)::r=>(c x y).bind λb=>if b=NU then(el x y).bind λz=>(Bj c el r).map (z::·)else Bj c el r
def Lp(f g:FE)(fr:List Nat)(fc:FT)(fe:FE):FE:=λe=>(f e).bind λd=>(g e).bind λd'=>match d,d' with
 | .lst xs,.lst ys=>if xs.length≤100000 then(Bj (λx y=>fc (NR x::NR y::nZ e fr)) (λx y=>fe (NR x::NR y::nZ e fr)) (xs.zip ys)).map D.lst else sx
 | _,_=>sx
def aC4{fr:List Nat}(h:Ko K t1 f)(h':Ko K t2 g)(hc:aj K tc fc)(he:Nq K te fe):Nq K (Rg (aIx K t1 t2) 2 fr (xg K) tc te) (Lp f g fr fc fe):=by
 intro σ H e d Q re q k;unfold Lp at q;obtain⟨d0,q1,qa⟩:=aZ q;obtain⟨d1,nN,qb⟩:=aZ qa;clear q qa;split at qb
 ·rename_i xs iN;split at qb
  ·rename_i ag;obtain⟨ds,q2,rfl⟩:=kJ qb;refine h σ H H e _ _ (Zn.self K H) re q1 λv H0 Z0 s0 t0 z0 rv0=>h' σ H0 H0 e _ _ (Zn.self K H0) (re.same s0) nN λw H1 Z1 s01 t1 z1 rw0=>?_;have s1:aW H H1:=s0.trans s01;have oo:=s01.rv _ _ (z0.sm.rv _ _ rv0);have rw1:=z1.sm.rv _ _ rw0;unfold Rv at oo rw1;obtain⟨pa,vs,rfl,sq,bp⟩:=oo;obtain⟨pb,us,rfl,sqb,rus⟩:=rw1;refine⟨pa,pb,U,U,⟨vs,sq⟩,⟨us,sqb⟩,?_⟩;intro D0 hD;have hl:=bp.length;have hlb:=rus.length;have hHD:H D0=sx:=s1.free hD;generalize og:(λx y=>fc (NR x::NR y::nZ e fr))=cc at q2;generalize fS:(λx y=>fe (NR x::NR y::nZ e fr))=el at q2;have sqS:∀{H2:Hp},aW H1 H2→oU K H2 pa vs:=λ{H2} s2=>by
    rcases sq with z | z
    ·exact .inl (s2.rd z)
    ·exact .inr z
   have sqT:∀{H2:Hp},aW H1 H2→oU K H2 pb us:=λ{H2} s2=>by
    rcases sqb with z | z
    ·exact .inl (s2.rd z)
    ·exact .inr z
   have hzl:(xs.zip iN).length=min vs.length us.length:=by rw[T9,hl,hlb]
   generalize hn:min vs.length us.length=n at hzl;refine⟨λi m ys H2=>∃iP ds2 A,m=n-i∧i≤n∧ds=iP++ds2∧Bj cc el ((xs.zip iN).drop i)=NR ds2∧aW H1 H2∧H2 D0=NR (.lst ys)∧eQ K H2 iP A ys∧(∀a,A a→H1 a=sx∧a≠D0)∧ys.length≤i,
    ⟨n,[],ds,nil,by simp,L5 _,U,by simpa using q2,cR hD _,cA,by unfold eQ;exact⟨λ_ z=>z,U⟩,λ_ z=>z.elim,C9 _⟩,?_⟩
   rintro i m ys H2 ⟨iP,ds2,A,rfl,hi',hds,eC,s2,kg,ow,fr2,hyl⟩;refine⟨kg,?_⟩;by_cases dA:i<n
   ·have i1:i<vs.length:=by omega
    have i2:i<us.length:=by omega
    refine .inr ⟨⟨vs,us,vs[i],us[i],sqS s2,sqT s2,B6 i1,B6 i2⟩,λxv H' y=>?_⟩;obtain⟨pp,v,u,rfl,hpn,hv',hu',rfl⟩:=y;have hv:=hv' vs (sqS s2);have hu:=hu' us (sqT s2);have sT:aW H2 (upd H2 pp (.tup [v,u])):=cR hpn _;have hxi:i<xs.length:=by omega
    have hyi:i<iN.length:=by omega
    have hxs:(xs.zip iN).drop i=(xs[i],iN[i])::(xs.zip iN).drop (i+1):=by rw[L8 (by omega),t7]
    obtain⟨x',fN,rx⟩:=bp.get (B6 hxi);rw[hv]at fN;cases fN;obtain⟨y',hy',ry⟩:=rus.get (B6 hyi);rw[hu]at hy';cases hy';rw[hxs]at eC;unfold Bj at eC;obtain⟨bb,c1,c2⟩:=aZ eC;refine⟨pp,[v,u],U,xW.of cA,U,_,_,U,_,_,U,U,?_⟩;show Kp 2 σ fr (NR v::NR u::Vv σ fr)∧_;refine⟨⟨by simp[blk],λj w hw=>?_⟩,?_⟩
    ·cases j with
     | zero=>simp[blk]at hw
     | succ j=>
      cases j with
      | zero=>simp[blk,T4]at hw
      | succ j=>simpa[blk,T4]using hw
    have gL:=s2.trans sT;have rl:yE K (upd H2 pp (.tup [v,u])) (NR xs[i]::NR iN[i]::nZ e fr) (NR v::NR u::Vv σ fr):=aFi (re.same (s1.trans gL)) (gL.rv _ _ rx) (gL.rv _ _ ry);refine hc _ _ _ bb _ rl (by rw[←og]at c1;exact c1) λH3 s3=>?_;have Sq:=gL.trans s3;have s23:=sT.trans s3;have nE:=s23 _ _ kg;cases bb with
    | false=>rw[sv (by decide)]at c2 ⊢;exact⟨n-(i+1),by omega,iP,ds2,A,U,by omega,hds,c2,Sq,nE,ow.same s23,fr2,by omega⟩
    | true=>
     rw[sk rfl]at c2 ⊢;obtain⟨dy,c3,c4⟩:=aZ c2;obtain⟨ds3,c5,rfl⟩:=kJ c4;refine he _ H3 _ dy _ (rl.same s3) (by rw[←fS]at c3;exact c3) λyv H4 s4 n4=>?_;have rq:=s4 _ _ nE;refine⟨rq,Nt (by omega),n-(i+1),by omega,iP++[dy],ds3,?_⟩;obtain⟨B,oB,fB⟩:=n4;have hB:∀a,B a→H1 a=sx∧a≠D0:=λa qa=>⟨Sq.free (fB a qa),λz=>by have q0:=fB a qa;rw[z,nE]at q0;cases q0⟩
     refine⟨gG A B,U,by omega,by rw[hds];simp,c5,λb o eb=>?_,cA,?_,λa qa=>qa.elim (fr2 a) (hB a),by rw[D1];simp;exact hyl⟩
     ·rw[bQ (iI eb hD)];exact(Sq.trans s4) b o eb
     ·have o4:=(ow.same s23).same s4;have ap:Apart A B:=λa qa qb=>by obtain⟨⟨u,eu⟩,_⟩:=eQ.cells _ _ _ (ow.same s23) a qa;rw[fB a qb]at eu;cases eu
      have all:eQ K H4 (iP++[dy]) (gG A B) (ys++[yv]):=cQ.mpr ((cQ.mp o4).snoc oB ap);exact eQ.frame (uJ (tZ rq)) _ _ _ all λa qa=>bQ (qa.elim (λz=>(fr2 a z).2) λz=>(hB a z).2)
   ·have ei:i=n:=by omega
    subst ei;have:(xs.zip iN).drop i=[]:=g8 (by omega);rw[this]at eC;unfold Bj at eC;cases eC;rw[F0]at hds;subst hds;refine .inl ⟨⟨vs,us,sqS s2,sqT s2,by omega⟩,k _ H2 (s1.trans s2) ⟨gG (·=D0) A,?_,λa qa=>qa.elim (λz=>by cases z;exact hHD) λz=>s1.free (fr2 a z).1⟩⟩;unfold Ow;exact⟨D0,ys,A,U,kg,λz=>(fr2 D0 z).2 U,λ_=>Iff.rfl,ow⟩
  ·cases qb
 ·cases qb
def aC5{tes:List AK}{tk:Nat}{eD:Pos}{elt:AK}{ifs:List AK}{scope:BQ}(N:List Str)(fr:List Nat)(cS:X.calm=NU)(B:lC X.env.scope scope X.N N 2 fr)(h:XR K X e1 t1 f)(h2:XR K X e2 t2 g)(hg0:Gl X x)(hm:X.mg x=sx)(hv:AZ x=NR (.type "zip"))
 (hg:∀cl fp s H C,PG (jF X scope N cl fp s H C) (.Tuple tes tk eD) (xg X.K)) (hc:∀cl fp s H C,XTs K (jF X scope N cl fp s H C) ifs tc fc) (he:∀cl fp s H C,XN K (jF X scope N cl fp s H C) elt te fe)
 (hn:x ≠ "__name__" := by decide) (cm:(x==("__debug__":Str))=NV:=by decide) (bt:AJ [e1,e2] X.env=[(NV,AU e1 X.env),(NV,AU e2 X.env)]:=by rfl) (aMc:AJ (e1::[e2]) X.env=(NV,AU e1 X.env)::AJ [e2] X.env:=by rfl) (cE:(Au p2 (AJ [e2] X.env)).any (·.1)=NV:=by rfl) (hs:∀y,BD (.Call (.Name x p) [e1,e2] [] p2) X.env y=pure y:=by intro _;rfl) :
 XN K X (.ListComp elt [⟨.Tuple tes tk eD,.Call (.Name x p) [e1,e2] [] p2,ifs,0⟩] scope pos) (Rg (aIx K t1 t2) 2 fr (xg K) tc te) (Lp f g fr fc fe):=
 ⟨h.hk,by
  have hk:=h.hk;subst hk;exact uq N 2 fr cS B (aIy h.pe h2.pe hg0 hm hv hn cm bt aMc cE) hg (λcl fp s H C=>(hc cl fp s H C).pts) (λcl fp s H C=>(he cl fp s H C).pe) hs,
  aC4 h.ev h2.ev (hc [] [] X.s₀ X.H₀ 0).ev (he [] [] X.s₀ X.H₀ 0).ev⟩
end
abbrev aN(ns:List Int):D:=.lst (ns.map D.int)
theorem Du(I:Nat→EN→Prop):∀(xs:List D)(env:EN)(n:Nat),I n env→(∀k x env,xs[k]?=NR x→I (n+k) env→i<env.length∧∃aI,g (env.set i (.fro x))=.next aI∧I (n+k+1) aI)→∃aI,yK i g xs env=.next aI∧I (n+xs.length) aI
 | [],env,n,h,_=>⟨env,by unfold yK;rfl,h⟩
 | x::xs,env,n,h,st=>by
  obtain⟨h1,aI,h2,h3⟩:=st 0 x env U h;obtain⟨cU,a1,a2⟩:=Du I xs aI (n+1) h3 λk y e hk hi=>by have:=st (k+1) y e (by simpa using hk) (by rw[show n+(k+1)=n+1+k by omega];exact hi);rw[show n+(k+1)+1=n+1+k+1 by omega]at this;exact this
  refine⟨cU,?_,?_⟩
  ·unfold yK;rw[sk h1,h2];exact a1
  ·rw[E3,show n+(xs.length+1)=n+1+xs.length by omega];exact a2
def dH{env:EN}(h:g1 env=.next aI):aY g1 g2 env=g2 aI:=by unfold aY;rw[h]
def Jd{env:EN}(h:g1 env=.ret d):aY g1 g2 env=.ret d:=by unfold aY;rw[h]
def wW{f:FT}{env:EN}(h:f (rE env)=NR NU):qU f g1 g2 env=g1 env:=by unfold qU;rw[h]
def nH{f:FT}{env:EN}(h:f (rE env)=NR NV):qU f g1 g2 env=g2 env:=by unfold qU;rw[h]
def yO{env:EN}(h:f (rE env)=NR d)(hi:i<env.length):cT i f env=.next (env.set i (.own d)):=by unfold cT;rw[h];dsimp only;rw[sk hi]
def gB{env:EN}(h:f (rE env)=NR d):eY f env=.ret d:=by unfold eY;rw[h]
def Tr{env:EN}{xs:List D}(h:fi (rE env)=NR xs):zV i fi g env=yK i g xs env:=by unfold zV;rw[h]
def aFE{env En:EN}{xs:List D}(h0:Al js env=En)(h:fi (zE En)=NR xs):Wc js i fi g env=yK i g xs En:=by unfold Wc;rw[h0,h]
def lW{n m:Nat}{ds:List D}(hl:ds.length=m)(h:g (ds.map SD.fro++E9 (n-m) SD.no)=.ret d):oH n m g ds=NR d:=by unfold oH;rw[sk hl,h]
def aJ{g:FE}{e:DE}{a b:D}(h1:f e=NR a)(h2:g e=NR b)(h:φ a b=NR d):f2 φ f g e=NR d:=by unfold f2;rw[h1,h2];exact h
def cV{φ:List D→Option D}{fs:FA}{e:DE}{ds:List D}(h1:fs e=NR ds)(h:φ ds=NR d):fL φ fs e=NR d:=by unfold fL;rw[h1];exact h
def aA{fs:FA}{e:DE}{a:D}{r:List D}(h1:f e=NR a)(h2:fs e=NR r):aB f fs e=NR (a::r):=by unfold aB;rw[h1,h2];rfl
def bM{n:Nat}{F:List D→Option D}{fs:FA}{e:DE}{ds:List D}(h1:fs e=NR ds)(hl:ds.length=n)(h:F ds=NR d):cJ n F fs e=NR d:=by unfold cJ;rw[h1];dsimp only[C4];rw[sk hl];exact h
def cB{e:DE}{b:Bool}(h:f e=NR (.bl b)):fB f e=NR b:=by unfold fB;rw[h];rfl
def pZ{f:FT}{e:DE}{b:Bool}(h:f e=NR b):Em f e=NR (!b):=by unfold Em;rw[h];rfl
def Yl{f g:FT}{e:DE}(h:f e=NR NV):fOr f g e=g e:=by unfold fOr;rw[h];rfl
def jl{f g:FT}{e:DE}(h:f e=NR NU):El f g e=g e:=by unfold El;rw[h];rfl
def jm{f g:FT}{e:DE}(h:f e=NR NV):El f g e=NR NV:=by unfold El;rw[h];rfl
def bD{e:DE}(h:f e=NR d)(i:d.jH=NU):cL f e=NR d:=Xk.mpr ⟨h,i⟩
def bZ(i j:Int):eX (.int i) (.int j)=NR (.int (i+j)):=rfl
def lX(i j:Int):Az (.int i) (.int j)=NR (.int (i-j)):=by unfold Az Pj;exact sk True.intro
def gC{i j:Int}(h:Vs i j):sZ (.int i) (.int j)=NR (.int (i*j)):=by unfold sZ Pj;exact sk h
def fD{i j:Int}(h:0<j)(h2:j<1073741824):rR (.int i) (.int j)=NR (.int (i/j)):=by unfold rR Pj;exact sk (show aAi i j from⟨h,h2⟩)
def bI{i j:Int}(h:0<j):gH (.int i) (.int j)=NR (.int (i%j)):=by unfold gH Pj;exact sk h
def pA{i j:Int}(h:aAj i j):Ek (.int i) (.int j)=NR (.int (i ^ j.toNat)):=by unfold Ek Pj;exact sk h
def vI(i j:Int):gw (.int i) (.int j)=NR (.bl (decide (i<j))):=by unfold gw Pj;exact sk True.intro
def GJ(i j:Int):dGt (.int i) (.int j)=NR (.bl (decide (j<i))):=by unfold dGt Pj;exact sk True.intro
def yP(i j:Int):dGe (.int i) (.int j)=NR (.bl (decide (j≤i))):=by unfold dGe Pj;exact sk True.intro
def Dv(i j:Int):QH (.int i) (.int j)=NR (.bl (decide (i≤j))):=by unfold QH Pj;exact sk True.intro
def yg(i j:Int):decide (V.int i=V.int j)=decide (i=j):=by
 by_cases c:i=j
 ·subst c;simp
 ·rw[tj c,tj (λz=>c (by cases z;rfl))]
def kZ(i j:Int):Fv (.int i) (.int j)=NR (.bl (decide (i=j))):=by unfold Fv toV;dsimp only;rw[sk (by rfl),yg]
def Dw(i j:Int):ak (.int i) (.int j)=NR (.bl (!decide (i=j))):=by unfold ak toV;dsimp only;rw[sk (by rfl),yg]
def jn{α:Type}{xs:List α}{i:Int}{x:α}(h0:0≤i)(h:xs[i.toNat]?=NR x):ZX xs i=NR x:=by
 have h1:i.toNat<xs.length:=by obtain⟨h1,_⟩:=D4.mp h;exact h1
 unfold ZX ZW;rw[sk h0,sk (by omega)];exact h
def aFF{α:Type}{xs:List α}{x:α}(h:xs.getLast?=NR x):ZX xs (-1)=NR x:=by
 have hl:0<xs.length:=by
  cases xs with
  | nil=>simp at h
  | cons=>simp
 unfold ZX ZW;rw[sv (by omega),sk (by omega)];show xs[((-1:Int)+(xs.length:Int)).toNat]?=NR x;rw[U0]at h;rw[show ((-1:Int)+(xs.length:Int)).toNat=xs.length-1 by omega];exact h
def tK{ds:List D}{i:Int}(h0:0≤i)(h:ds[i.toNat]?=NR d):cW (.lst ds) (.int i)=NR d:=jn h0 h
def vJ{ds:List D}{i:Int}(h0:0≤i)(h:ds[i.toNat]?=NR d):cW (.tup ds) (.int i)=NR d:=jn h0 h
def jX{ns:List Int}{i:Int}(h0:0≤i)(h:i<ns.length):cW (aN ns) (.int i)=NR (.int (ns.getD i.toNat 0)):=jn h0 (by
 rw[C5,B7,B6 (show i.toNat<ns.length by omega)];rfl)
def Tt(ds:List D):gZ [.lst ds]=NR (.int ds.length):=rfl
def Tu(ds:List D):gZ [.tup ds]=NR (.int ds.length):=rfl
def qN(ns:List Int):gZ [aN ns]=NR (.int ns.length):=by show NR (D.int ((ns.map D.int).length:Nat))=_;rw[B8]
theorem Ym{c:D→Option Bool}{el:D→Option D}{φ:D→D}:∀{xs:List D},(∀x∈xs,c x=NR NU)→(∀x∈xs,el x=NR (φ x))→pW c el xs=NR (xs.map φ)
 | [],_,_=>by unfold pW;rfl
 | x::xs,hc,he=>by unfold pW;rw[hc x C8,he x C8,Ym (xs:=xs) (λy hy=>hc y (C6 _ hy)) λy hy=>he y (C6 _ hy)];rfl
theorem Je{c:D→Option Bool}{el:D→Option D}{p:D→Bool}{φ:D→D}:∀{xs:List D},(∀x∈xs,c x=NR (p x))→(∀x∈xs,p x=NU→el x=NR (φ x))→pW c el xs=NR ((xs.filter p).map φ)
 | [],_,_=>by unfold pW;rfl
 | x::xs,hc,he=>by
  have ih:=Je (xs:=xs) (p:=p) (φ:=φ) (λy hy=>hc y (C6 _ hy)) λy hy=>he y (C6 _ hy);unfold pW;rw[hc x C8,C4,t8];cases q:p x with
  | true=>rw[sk U,sk U,he x C8 q,ih];rfl
  | false=>rw[sv (by decide),sv (by decide)];exact ih
def Bk{fr:List Nat}{e:DE}{xs ys:List D}(h1:fi e=NR xs)(hl:xs.length≤100000)(h:pW (λx=>fc (NR x::nZ e fr)) (λx=>fe (NR x::nZ e fr)) xs=NR ys):eE fi fr fc fe e=NR (.lst ys):=by unfold eE;rw[h1,C4,sk hl,h];rfl
def yQ(lo:Int)(n:Nat):(jL lo n).length=n:=by unfold jL;rw[B8,E1]
def Gh{lo:Int}{n:Nat}{x:D}(h:(jL lo n)[k]?=NR x):k<n∧x=.int (lo+k):=by
 unfold jL at h;rw[C5]at h;cases q:(D5 n)[k]? with
 | none=>rw[q]at h;cases h
 | some j=>rw[q]at h;obtain⟨h1,h2⟩:=D4.mp q;rw[E1]at h1;rw[List.getElem_range]at h2;subst h2;exact⟨h1,(E6 h).symm⟩
def Gi{lo:Int}{n:Nat}{x:D}(h:x∈jL lo n):∃k:Nat,k<n∧x=.int (lo+k):=by obtain⟨k,hk,e⟩:=G6 h;obtain⟨a1,a2⟩:=Gh (k:=k) (x:=x) (by rw[B6 hk,e]);exact⟨k,a1,a2⟩
def UL{fs:FA}{e:DE}{n:Int}(h:fs e=NR [.int n])(h1:-100000≤n)(h2:n≤100000):rA fs e=NR (jL 0 n.toNat):=by unfold rA;rw[h];dsimp only[C4];rw[sk (show lim n=NU from tf ⟨h1,h2⟩)]
def aC6{fs:FA}{e:DE}{i j:Int}(h:fs e=NR [.int i,.int j])(h1:-100000≤i)(h2:i≤100000)(h3:-100000≤j)(h4:j≤100000):QX fs e=NR (jL i (j-i).toNat):=by unfold QX;rw[h];dsimp only[C4];rw[sk ⟨show lim i=NU from tf ⟨h1,h2⟩,show lim j=NU from tf ⟨h3,h4⟩⟩]
def Ep{i j:Int}(h1:-18446744073709551616<i)(h2:i<18446744073709551616):Vs i j:=.inl ⟨h1,h2⟩
def aKp{i j:Int}(h1:-18446744073709551616<j)(h2:j<18446744073709551616):Vs i j:=.inr ⟨h1,h2⟩
def aC7{env:EN}{ds:List D}(h1:env[i]?=NR (.own (.lst ds)))(h2:f (rE env)=NR d)(hl:ds.length<100000):vA i dC f env=.next (env.set i (.own (.lst (ds++[d])))):=by unfold vA dC;rw[h1,h2];dsimp only[gJ];rw[sk hl];rfl
section
variable{c:FT}{env:EN}{r:SR}{ds:List D}
def aC8(h:f (rE env)=NR d)(hi:i<env.length)(k:g (env.set i (.own d))=r):aY (cT i f) g env=r:=(dH (yO h hi)).trans k
def aGK{b:Bool}(h:c (rE env)=NR b)(k1:b=NU→aY g1 g env=r)(k2:b=NV→aY g2 g env=r):aY (qU c g1 g2) g env=r:=by
 cases b with
 | true=>have k:=k1 rfl;unfold aY at k ⊢;rw[wW h];exact k
 | false=>have k:=k2 rfl;unfold aY at k ⊢;rw[nH h];exact k
def aIz{b:Bool}(h:c (rE env)=NR b)(hb:b=NV)(k:aY g2 g env=r):aY (qU c g1 g2) g env=r:=aGK h (λz=>by rw[hb]at z;cases z) λ_=>k
def aIA{b:Bool}(h:c (rE env)=NR b)(hb:b=NU)(k:aY g1 g env=r):aY (qU c g1 g2) g env=r:=aGK h (λ_=>k) (λz=>by rw[hb]at z;cases z)
def aKq(k:g env=r):aY fM g env=r:=k
def aKr(h:f (rE env)=NR d)(k:SR.ret d=r):aY (eY f) g env=r:=(Jd (gB h)).trans k
def aKs(h:g1 env=.next aI)(k:g aI=r):aY g1 g env=r:=(dH h).trans k
def aKt{b:Bool}(h:c (rE env)=NR b)(k1:b=NU→g1 env=r)(k2:b=NV→g2 env=r):qU c g1 g2 env=r:=by
 cases b with
 | true=>rw[wW h];exact k1 U
 | false=>rw[nH h];exact k2 U
def Yn(h:env[i]?=NR (.own d)):Nv i env=.ret d:=by unfold Nv;rw[h]
def pF{fs:FA}{e:DE}(h:fs e=NR ds)(hl:ds.length≤100000):wO fs e=NR (.tup ds):=by unfold wO cap;rw[h];dsimp only[C4];rw[sk hl]
def iD{fs:FA}{e:DE}(h:fs e=NR ds)(hl:ds.length≤100000):mR fs e=NR (.lst ds):=by unfold mR cap;rw[h];dsimp only[C4];rw[sk hl]
def qC{e:DE}{z:Int}(h:f e=NR (.int z)):yM f e=NR (.int (-z)):=by unfold yM;rw[h];rfl
def Dy{e:DE}(h:f e=NR d)(k:RB T d=NR d'):Sx T f e=NR d':=by unfold Sx;rw[h];exact k
def aC9{e:DE}{b:Bool}(h:f e=NR (.bl b)):QQ f e=NR (.bl (!b)):=by unfold QQ;rw[cB h];rfl
def tL{e:DE}{f':FE}(h:f e=NR (.bl NU))(k:f' e=NR d):qL f f' e=NR d:=by unfold qL;rw[cB h];exact k
def UT{e:DE}{f':FE}{a b:Bool}(h:f e=NR (.bl a))(k:f' e=NR (.bl b)):qL f f' e=NR (.bl (a&&b)):=by
 unfold qL;rw[cB h];cases a with
 | true=>exact k
 | false=>rfl
def GK{e:DE}{a b:Bool}(h:c e=NR a)(k:c' e=NR b):El c c' e=NR (a&&b):=by
 unfold El;rw[h];cases a with
 | true=>exact k
 | false=>rfl
def gD{e:DE}(h:f e=NR (.lst ds)):kO f e=NR ds:=by unfold kO;rw[h];rfl
def UW{e:DE}(h:f e=NR (.tup ds)):kO f e=NR ds:=by unfold kO;rw[h];rfl
def Yo{a b:List D}(h:D.gR (a++b)=NU)(hl:a.length+b.length≤100000):eX (.lst a) (.lst b)=NR (.lst (a++b)):=by show (if D.gR (a++b)=NU∧a.length+b.length≤100000 then NR (D.lst (a++b))else sx)=_;rw[sk ⟨h,hl⟩]
def uA(d:D)(ds:List D):D.gR (d::ds)=(d.jH&&D.gR ds):=by rw[D.gR]
def VB{a b:List D}:D.gR (a++b)=(D.gR a&&D.gR b):=by
 induction a with
 | nil=>rw[d9,D.gR];rfl
 | cons x a ih=>rw[R1,uA,uA,ih,Bool.and_assoc]
def Tv(h:∀d∈ds,d.jH=NU):D.gR ds=NU:=by
 induction ds with
 | nil=>unfold D.gR;rfl
 | cons d ds ih=>unfold D.gR;rw[h d C8,ih λe he=>h e (C6 _ he)];rfl
def lY(ns:List Int):(dTup ns).jH=NU:=by unfold dTup D.jH;exact fK ns
def wX(h:D.gR ds=NU):dList [.lst ds]=NR (.lst ds):=by show (if D.gR ds=NU then NR (D.lst ds)else sx)=_;rw[sk h]
def Gj(ns:List Int):vG (ns.map D.int)=NR (ns.map DV.int):=by
 induction ns with
 | nil=>unfold vG;rfl
 | cons n ns ih=>rw[E2];unfold vG lU;rw[C4,ih];rfl
def aDa(ns ms:List Int):Fv (aN ns) (aN ms)=NR (.bl (decide (ns=ms))):=by
 unfold Fv toV;dsimp only;unfold lU;rw[Gj,Gj];dsimp only[J3];rw[sk (by unfold DV.depth;rw[Fj];decide)];congr 2;rw[M7,wM,decide_eq_true_iff];constructor
 ·intro z;injection z with z;exact QF.mp z
 ·intro z;rw[z]
end
def nJ{e:DE}(h:e[i]?=NR (NR d)):aD i e=NR d:=by unfold aD;rw[h];rfl
def aKu{e:DE}:fC d e=NR d:=rfl
def VD{e:DE}:aL e=NR []:=rfl
def aDb{i:Nat}{fi:FA}{gb:GS}{env:EN}{n:Nat}(I:Nat→EN→Prop)(h:fi (rE env)=NR (jL 0 n))(h0:I 0 env)
 (st:∀(k:Nat) env,k<n→I k env→i<env.length∧∃aI,gb (env.set i (.fro (.int k)))=.next aI∧I (k+1) aI):∃aI,zV i fi gb env=.next aI∧I n aI:=by
 obtain⟨aI,h1,h2⟩:=Du (i:=i) (g:=gb) I (jL 0 n) env 0 h0 λk x e hx hi=>by rw[N6]at hi ⊢;obtain⟨hk,rfl⟩:=Gh hx;rw[a8];exact st k e hk hi
 rw[N6,yQ]at h2;exact⟨aI,(Tr h).trans h1,h2⟩
theorem Yp{α β:Type}(φ:α→β):∀(l:List α)(k:Nat),(l.map φ).eraseIdx k=(l.eraseIdx k).map φ
 | [],k=>by simp
 | a::l,0=>by simp
 | a::l,k+1=>by rw[E2,N7,N7,E2,Yp φ l k]
def GP{env:EN}{ns ms:List Int}{k:Int}(h1:env[i]?=NR (.own (aN ns)))(h2:env[j]?=NR (.own (aN ms)))(h3:f (rE env)=NR (.int k))(kF:i≠j)(hn:ns.length<1000)(hm:ms.length<1000)(k0:0≤k)(k1:k<ms.length):
 Dk i j f env=.next ((env.set j (.own (aN (ms.eraseIdx k.toNat)))).set i (.own (aN (ns++[ms.getD k.toNat 0])))):=by
 have hk:k.toNat<ms.length:=by omega
 unfold Dk;rw[h1,h2,h3];dsimp only;rw[sk ⟨kF,by rw[B8];omega,k0,by rw[B8];exact k1,by rw[B8];omega⟩];have e:(ms.map D.int)[k.toNat]?=NR (.int (ms.getD k.toNat 0)):=by rw[C5,B7,B6 hk];rfl
 rw[e];dsimp only;rw[sk (show D.jH (.int (ms.getD k.toNat 0))=NU from rfl)];have e1:(ms.map D.int).eraseIdx k.toNat=(ms.eraseIdx k.toNat).map D.int:=by rw[Yp]
 have e2:ns.map D.int++[D.int (ms.getD k.toNat 0)]=(ns++[ms.getD k.toNat 0]).map D.int:=by rw[J6];rfl
 rw[e1,e2]
def yR(ns:List Int)(n:Int):D.lst (ns.map D.int++[.int n])=aN (ns++[n]):=by unfold aN;rw[J6];rfl
def Qs(Pr:SR→Prop)(r:SR):Prop:=Pr r
section
variable{c:FT}{env:EN}{ds:List D}
def cD(h:f (rE env)=NR d)(hi:i<env.length)(k:Qs Pr (g (env.set i (.own d)))):Qs Pr (aY (cT i f) g env):=by rw[dH (yO h hi)];exact k
def jo(h:f (rE env)=NR d)(hi:i<env.length)(k:Pr (.next (env.set i (.own d)))):Qs Pr (cT i f env):=by rw[yO h hi];exact k
def aDc(h:g1 env=.next aI)(k:Qs Pr (g aI)):Qs Pr (aY g1 g env):=by rw[dH h];exact k
def yS(k:Qs Pr (g env)):Qs Pr (aY fM g env):=k
def aDd(k:Pr (.next env)):Qs Pr (fM env):=k
def GQ{b:Bool}(h:c (rE env)=NR b)(k1:b=NU→Qs Pr (aY g1 g env))(k2:b=NV→Qs Pr (aY g2 g env)):Qs Pr (aY (qU c g1 g2) g env):=by
 cases b with
 | true=>have k:=k1 rfl;unfold aY at k ⊢;rw[wW h];exact k
 | false=>have k:=k2 rfl;unfold aY at k ⊢;rw[nH h];exact k
def Bl{b:Bool}(h:c (rE env)=NR b)(k1:b=NU→Qs Pr (g1 env))(k2:b=NV→Qs Pr (g2 env)):Qs Pr (qU c g1 g2 env):=by
 cases b with
 | true=>rw[wW h];exact k1 U
 | false=>rw[nH h];exact k2 U
def wY{b:Bool}(h:c (rE env)=NR b)(hb:b=NV)(k:Qs Pr (aY g2 g env)):Qs Pr (aY (qU c g1 g2) g env):=GQ h (λz=>by rw[hb]at z;cases z) λ_=>k
def aGL{b:Bool}(h:c (rE env)=NR b)(hb:b=NU)(k:Qs Pr (aY g1 g env)):Qs Pr (aY (qU c g1 g2) g env):=GQ h (λ_=>k) (λz=>by rw[hb]at z;cases z)
def aDe{b:Bool}(h:c (rE env)=NR b)(hb:b=NV)(k:Qs Pr (g2 env)):Qs Pr (qU c g1 g2 env):=Bl h (λz=>by rw[hb]at z;cases z) λ_=>k
def VF(h:f (rE env)=NR d)(k:Pr (.ret d)):Qs Pr (aY (eY f) g env):=by rw[Jd (gB h)];exact k
def pL(h:f (rE env)=NR d)(k:Pr (.ret d)):Qs Pr (eY f env):=by rw[gB h];exact k
def aDf(h:env[i]?=NR (.own d))(k:Pr (.ret d)):Qs Pr (Nv i env):=by rw[Yn h];exact k
def aKv(h1:env[i]?=NR (.own (.lst ds)))(h2:f (rE env)=NR d)(hl:ds.length<100000)(k:Qs Pr (g (env.set i (.own (.lst (ds++[d])))))):Qs Pr (aY (vA i dC f) g env):=by rw[dH (aC7 h1 h2 hl)];exact k
def GR{fi:FA}{n:Nat}(I:Nat→EN→Prop)(h:fi (rE env)=NR (jL 0 n))(h0:I 0 env)
 (st:∀(k:Nat) env,k<n→I k env→i<env.length∧Qs (λr=>∃aI,r=.next aI∧I (k+1) aI) (gb (env.set i (.fro (.int k))))) (k:∀aI,I n aI→Qs Pr (g aI)):Qs Pr (aY (zV i fi gb) g env):=by
 obtain⟨aI,h1,h2⟩:=aDb (gb:=gb) I h h0 λk env hk hi=>⟨(st k env hk hi).1,let ⟨e,a,b⟩:=(st k env hk hi).2;⟨e,a,b⟩⟩
 rw[dH h1];exact k aI h2
def yh{js:List Nat}{fi:FA}{En:EN}{xs:List D}(I:Nat→EN→Prop)(hf:Al js env=En)(h:fi (zE En)=NR xs)(h0:I 0 En)
 (st:∀(k:Nat) x env,xs[k]?=NR x→I k env→i<env.length∧Qs (λr=>∃aI,r=.next aI∧I (k+1) aI) (gb (env.set i (.fro x)))) (k:∀aI,I xs.length aI→Qs Pr (g aI)):Qs Pr (aY (Wc js i fi gb) g env):=by
 obtain⟨aI,h1,h2⟩:=Du (i:=i) (g:=gb) I xs En 0 h0 λk x e hx hi=>by rw[N6]at hi ⊢;exact⟨(st k x e hx hi).1,let ⟨e,a,b⟩:=(st k x e hx hi).2;⟨e,a,b⟩⟩
 rw[N6]at h2;rw[dH ((aFE hf h).trans h1)];exact k aI h2
def aKw{is:List Nat}(h:f (rE env)=NR (.tup ds))(hl:is.length=ds.length)(hi:is.all (λi=>decide (i<env.length))=NU)(k:Qs Pr (g (pX env is ds))):Qs Pr (aY (yL is f) g env):=by
 have:yL is f env=.next (pX env is ds):=by unfold yL;rw[h];dsimp only;rw[sk ⟨hl,hi⟩]
 rw[dH this];exact k
def oM{n m:Nat}{Pd:D→Prop}(hl:ds.length=m)(h:Qs (λr=>∃d,r=.ret d∧Pd d) (g (ds.map SD.fro++E9 (n-m) SD.no))):∃d,oH n m g ds=NR d∧Pd d:=by obtain⟨d,h1,h2⟩:=h;exact⟨d,lW hl h1,h2⟩
def yU{fs:FA}{e:DE}{n:Nat}(h:fs e=NR [.int (n:Int)])(hn:n≤100000):rA fs e=NR (jL 0 n):=by rw[UL h (by omega) (by omega),C7]
end
def yV{fr:List Nat}{e:DE}{n:Nat}{φ:Nat→D}(h1:fi e=NR (jL 0 n))(hn:n≤1000)(he:∀k:Nat,k<n→fe (NR (.int k)::nZ e fr)=NR (φ k)):eE fi fr gP fe e=NR (.lst ((D5 n).map φ)):=by
 refine Bk h1 (by rw[yQ];omega) ?_;refine(Ym (c:=λx=>gP (NR x::nZ e fr)) (φ:=λx=>match x with | .int i=>φ i.toNat | d=>d) (λ_ _=>rfl) ?_).trans ?_
 rotate_left
 ·congr 1;unfold jL;rw[M4];apply T5;intro k _;show φ ((0:Int)+(k:Int)).toNat=φ k;rw[a8,C7]
 ·intro x hx;obtain⟨k,hk,rfl⟩:=Gi hx;rw[a8];show _=NR (φ ((k:Int)).toNat);rw[C7];exact he k hk
def mC{fr:List Nat}{e:DE}{α:Type}{xs:List α}{ψ φ:α→D}(h1:fi e=NR (xs.map ψ))(hn:xs.length≤1000)(he:∀x∈xs,fe (NR (ψ x)::nZ e fr)=NR (φ x)):eE fi fr gP fe e=NR (.lst (xs.map φ)):=by
 refine Bk h1 (by rw[B8];omega) ?_;clear h1 hn
 induction xs with
 | nil=>rw[K9,K9];unfold pW;rfl
 | cons x xs ih=>rw[E2];unfold pW;show (NR NU).bind _=_;rw[C4,sk U,he x C8,C4,ih λy hy=>he y (C6 _ hy)];rfl
def Tw{α:Type}[Inhabited α]:∀(l:List α)(k:Nat)(d:α),k<l.length→(l.getD k d::l.eraseIdx k).Perm l
 | [],k,d,h=>absurd h (by simp)
 | a::l,0,d,_=>by simp
 | a::l,k+1,d,h=>by rw[N7,T6];exact(y8 _ _ _).trans ((Tw l k d (by simpa using h)).cons a)
def dY{α:Type}{l:List α}{x d:α}(h:l[k]?=NR x):l.getD k d=x:=by rw[B7,h];rfl
def dU{α:Type}{l:List α}{d:α}(h:k<l.length):l[k]?=NR (l.getD k d):=by rw[B7,B6 h];rfl
def jq{b:Bool}{l h:FO}{e:DE}{ds:List D}{lo hi:Option Int}(h1:f e=NR (.lst ds))(h2:l e=NR lo)(h3:h e=NR hi)(h4:b=NV∨D.gR (wC ds lo hi)=NU):ao b f l h e=NR (.lst (wC ds lo hi)):=by unfold ao;rw[h1,h2,h3];dsimp only[C4];rw[sk h4]
def yW(ns ms:List Int)(h:ns.length+ms.length≤100000):eX (aN ns) (aN ms)=NR (aN (ns++ms)):=by have:=Yo (a:=ns.map D.int) (b:=ms.map D.int) (by rw[VB,fK,fK];rfl) (by rw[B8,B8];exact h);rw[←J6]at this;exact this
section
variable{c:FT}{env:EN}{ds:List D}
def GX{x:D}(h:ds.getLast?=NR x):cW (.lst ds) (.int (-1))=NR x:=aFF h
def VG{α:Type}(l:List α):wC l sx (NR (-1))=l.dropLast:=by
 unfold wC;show (l.drop 0).take (HT.Kv l.length l.length (NR (-1))-0)=_;have:HT.Kv l.length l.length (NR (-1))=l.length-1:=by show (if(-1:Int)<0 then((-1:Int)+(l.length:Int)).toNat else min (-1:Int).toNat l.length)=_;rw[sk (by decide)];omega
 rw[this,i9,a9,List.dropLast_eq_take]
theorem Yq(I:Nat→EN→Prop)(hs:∀n env,I n env→(fc (rE env)=NR NV)∨(fc (rE env)=NR NU∧0<n∧∃aI,gb env=.next aI∧I (n-1) aI)):∀(bq n:Nat)(env:EN),n<bq→I n env→∃aI n',rY fc gb bq env=.next aI∧I n' aI∧fc (rE aI)=NR NV
 | 0,n,env,h,_=>absurd h (by omega)
 | bq+1,n,env,h,hi=>by
  rcases hs n env hi with q | ⟨q,hn,aI,h1,h2⟩
  ·exact⟨env,n,by unfold rY;rw[q],hi,q⟩
  ·obtain⟨e2,n2,a1,a2,a3⟩:=Yq I hs bq (n-1) aI (by omega) h2;refine⟨e2,n2,?_,a2,a3⟩;unfold rY;rw[q,h1];exact a1
end
def yj{l:List Int}{b:Int}:(G2 b:Key)∈l.map (G2:Int→Key)↔b∈l:=by
 rw[J4];constructor
 ·rintro⟨a,h1,h2⟩;cases h2;exact h1
 ·intro h;exact⟨b,h,U⟩
def Bm{l:List Int}{b:Int}(h:b∉l):posK (l.map (G2:Int→Key)) (G2 b)=sx:=Dh.mpr λz=>h (yj.mp z)
def aFG{f':FE}{env:EN}{ds:List D}{k:Key}(h1:env[i]?=NR (.own (.dk ks ds)))(h2:f (rE env)=NR kd)(h3:f' (rE env)=NR d)(h4:Wa kd=NR k)(h5:posK ks k=sx)(im:d.jH=NU)(hl:ks.length<100000):sX i dC f f' env=.next (env.set i (.own (.dk (ks++[k]) (ds++[d])))):=by
 have e1:mH ks k=ks++[k]:=by unfold mH;rw[h5];rfl
 have e2:putD ks ds k d=ds++[d]:=by unfold putD;rw[h5];rfl
 unfold sX dC;rw[h1,h2,h3];dsimp only[gJ];rw[h4];dsimp only;rw[sk ⟨im,hl⟩,e1,e2];rfl
def Yr(l:List Int):D.lst ((l.map (G2:Int→Key)).map kD)=aN l:=by unfold aN;rw[M4];rfl
def aFH{fc:FT}{gb g:GS}{env:EN}{Pr:SR→Prop}{bq n:Nat}(I:Nat→EN→Prop)(h0:I n env)(hn:n<bq)(hs:∀n env,I n env→(fc (rE env)=NR NV)∨(fc (rE env)=NR NU∧0<n∧∃aI,gb env=.next aI∧I (n-1) aI))
 (k:∀aI n',I n' aI→fc (rE aI)=NR NV→Qs Pr (g aI)):Qs Pr (aY (rY fc gb bq) g env):=by
 obtain⟨aI,n',a1,a2,a3⟩:=Yq I hs bq n env hn h0;rw[dH a1];exact k aI n' a2 a3
def aA5(ns:List Int):QJ (ns.map D.int)=NR (ns.map V.int):=by
 induction ns with
 | nil=>unfold QJ;rfl
 | cons n ns ih=>rw[E2];unfold QJ toV;rw[C4,ih];rfl
def VH(cb:Bool)(i:Int)(ns:List Int):dIn cb (.int i) (aN ns)=NR (.bl (if cb then !decide (i∈ns)else decide (i∈ns))):=by unfold dIn;show (NR (V.int i)).bind _=_;rw[C4];show (NR (ns.map D.int)).bind _=_;rw[C4,aA5,C4,sk ⟨U,aAy ns⟩,aEU]
def Jf{ns:List Int}(h:ns.length<64):Ij [aN ns]=NR (aN (sortI ns)):=by show (intsOf (ns.map D.int)).bind _=_;rw[lM,C4,sk h]
def Vo(ks:List Int):D:=.dk (ks.map G2) (ks.map λ_=>.bl NU)
def aDg(i:Int)(ks:List Int):(posK (ks.map (G2:Int→Key)) (G2 i)).isSome=decide (i∈ks):=by
 by_cases c:i∈ks
 ·rw[tf c];cases q:posK (ks.map (G2:Int→Key)) (G2 i)with
  | some j=>rfl
  | none=>exact absurd (yj.mpr c) (Dh.mp q)
 ·rw[tj c,Bm c];rfl
def HD(cb:Bool)(i:Int)(ks:List Int):Ib cb (.int i) (Vo ks)=NR (.bl (if cb then !decide (i∈ks)else decide (i∈ks))):=by show NR (D.bl (if cb then !(posK (ks.map (G2:Int→Key)) (G2 i)).isSome else(posK (ks.map (G2:Int→Key)) (G2 i)).isSome))=_;rw[aDg]
def jr(ks:List Int)(k:Int):List Int:=if k∈ks then ks else ks++[k]
def Ys(k:Key):∀ks:List Int,R9 (λ(k':Key) (d':D)=>if k'=k then D.bl NU else d') (ks.map G2) (ks.map λ_=>D.bl NU)=ks.map λ_=>D.bl NU
 | []=>rfl
 | a::ks=>by
  rw[E2,E2,K1,Ys k ks]
  split<;>rfl
def aKx{f':FE}{env:EN}{ks:List Int}{k:Int}(h1:env[i]?=NR (.own (Vo ks)))(h2:f (rE env)=NR (.int k))(h3:f' (rE env)=NR (.bl NU))(hl:ks.length<1000):sX i dC f f' env=.next (env.set i (.own (Vo (jr ks k)))):=by
 unfold sX dC;rw[h1,h2,h3];dsimp only[gJ,Vo];show (if D.jH (.bl NU)=NU∧(ks.map (G2:Int→Key)).length<100000 then _ else _)=_;rw[sk ⟨U,by rw[B8];omega⟩];have e1:mH (ks.map (G2:Int→Key)) (G2 k)=(jr ks k).map G2:=by
  unfold mH jr;rw[aDg];by_cases c:k∈ks
  ·simp[c]
  ·simp[c]
 have e2:putD (ks.map (G2:Int→Key)) (ks.map λ_=>D.bl NU) (G2 k) (.bl NU)=(jr ks k).map λ_=>D.bl NU:=by
  unfold putD jr;rw[aDg];by_cases c:k∈ks
  ·rw[tf c,sk U,sk c,Ys]
  ·rw[tj c,sv (by decide),sv c,J6];rfl
 rw[e1,e2];rfl
def Lq{fr:List Nat}{e:DE}{ms:List Int}(p:Int→Bool)(φ:Int→D)(h1:fi e=NR (ms.map D.int))(hn:ms.length≤1000)(hc:∀m∈ms,fc (NR (.int m)::nZ e fr)=NR (p m))(he:∀m∈ms,p m=NU→fe (NR (.int m)::nZ e fr)=NR (φ m)):
 eE fi fr fc fe e=NR (.lst ((ms.filter p).map φ)):=by
 refine Bk h1 (by rw[B8];omega) ?_;clear h1 hn
 induction ms with
 | nil=>rw[K9];unfold pW;rfl
 | cons m ms ih=>
  have ih:=ih (λy hy=>hc y (C6 _ hy)) λy hy=>he y (C6 _ hy);rw[E2];unfold pW;rw[hc m C8,C4,t8];cases q:p m with
  | true=>rw[sk U,sk U,he m C8 q,C4,ih];rfl
  | false=>rw[sv (by decide),sv (by decide)];exact ih
def Gk{fr:List Nat}{e:DE}{ms:List Int}(p:Int→Bool)(φ:Int→Int)(h1:fi e=NR (ms.map D.int))(hn:ms.length≤1000)(hc:∀m∈ms,fc (NR (.int m)::nZ e fr)=NR (p m))(he:∀m∈ms,p m=NU→fe (NR (.int m)::nZ e fr)=NR (.int (φ m))):
 eE fi fr fc fe e=NR (aN ((ms.filter p).map φ)):=by
 rw[Lq p (λm=>.int (φ m)) h1 hn hc he];unfold aN;rw[M4];rfl
def dW{φ:D→Option D}{e:DE}{a:D}(h1:f e=NR a)(h:φ a=NR d):tG φ f e=NR d:=by unfold tG;rw[h1];exact h
def jt{ns:List Int}(h:ns.length<64):xf (aN ns)=NR (aN (aq ns)):=by show (intsOf (ns.map D.int)).bind _=_;rw[lM,C4,sk h]
def VJ(ns:List Int):Sd [aN ns]=NR (dTup ns):=by unfold Sd;dsimp only;rw[show Ac (aN ns)=NR (ns.map D.int)from by unfold aN Ac;rfl,C4,sk (fK _)];rfl
def ju{ns:List Int}(h:0<ns.length):vf [aN ns]=NR (.int (ig ns)):=by show (intsOf (ns.map D.int)).bind _=_;rw[lM,C4,sk h]
def VL{α β:Type}(φ:α→β)(l:List α)(lo hi:Option Int):wC (l.map φ) lo hi=(wC l lo hi).map φ:=by unfold wC;rw[B8,←k8,←k7]
def VM{b:Bool}{l h:FO}{e:DE}{ns:List Int}{lo hi:Option Int}(h1:f e=NR (aN ns))(h2:l e=NR lo)(h3:h e=NR hi):ao b f l h e=NR (aN (wC ns lo hi)):=by rw[jq h1 h2 h3 (.inr (by rw[VL];exact fK _)),VL]
def aIB{α:Type}{l:List α}{c:Nat}(h:c≤l.length):wC l (NR (c:Int)) sx=l.drop c:=by unfold wC;show (l.drop (HT.Kv l.length 0 (NR (c:Int)))).take (l.length-HT.Kv l.length 0 (NR (c:Int)))=_;rw[Hx,show min c l.length=c by omega,P2 (by rw[O1];omega)]
def aIC{α:Type}(l:List α)(c:Nat):wC l sx (NR (c:Int))=l.take c:=by
 unfold wC;show (l.drop 0).take (HT.Kv l.length l.length (NR (c:Int))-0)=_;rw[Hx,i9,a9];rcases G4 c l.length with z | z
 ·rw[show min c l.length=c by omega]
 ·rw[show min c l.length=l.length by omega,P2 (C9 _),P2 z]
def aDh{α:Type}(l:List α)(a b:Nat):wC l (NR (a:Int)) (NR (b:Int))=(l.drop a).take (b-a):=by
 unfold wC;rw[Hx,Hx];refine K5 λk=>?_;rw[U6,U3,U6,U3];rcases G4 a l.length with z | z
 ·rw[show min a l.length=a by omega];by_cases c:k<min b l.length-a
  ·rw[sk c,sk (by omega)]
  ·rw[sv c];by_cases c2:k<b-a
   ·rw[sk c2,D9 (by omega)]
   ·rw[sv c2]
 ·rw[show min a l.length=l.length by omega,D9 (show l.length≤l.length+k by omega),D9 (show l.length≤a+k by omega)]
  split<;>split<;>rfl
structure lH where
 bY:Int
 place:Int
 thing:List Int
 needs:List Int
 deriving Inhabited
def MP(c:lH):D:=.tup [.int c.bY,.int c.place,dTup c.thing,dTup c.needs]
def yX(cs:List lH):D:=.lst (cs.map MP)
def aID(c:lH):(MP c).jH=NU:=by unfold MP D.jH;rw[uA,uA,uA,uA,lY,lY];rfl
abbrev at_(cs:List lH)(k:Nat):lH:=cs.getD k default
def HF{cs:List lH}(h:k<cs.length):cW (yX cs) (.int k)=NR (MP (at_ cs k)):=tK (by omega) (by
 rw[C7,C5,dU (d:=default) h]
 rfl)
def yl(c:lH):cW (MP c) (.int 0)=NR (.int c.bY):=vJ (by decide) U
def VN(c:lH):cW (MP c) (.int 1)=NR (.int c.place):=vJ (by decide) U
def Tz(c:lH):cW (MP c) (.int 2)=NR (dTup c.thing):=vJ (by decide) U
def VP(c:lH):cW (MP c) (.int 3)=NR (dTup c.needs):=vJ (by decide) U
def HH(cs:List lH):gZ [yX cs]=NR (.int cs.length):=by show NR (D.int ((cs.map MP).length:Nat))=_;rw[B8]
def Good(cs:List lH):Prop:=cs.length≤124∧∀k,k<cs.length→(∀m∈(at_ cs k).needs,0≤m∧m<k)∧(at_ cs k).needs.Pairwise (·<·)∧(at_ cs k).needs.length≤9
def VR(ns ms:List Int):ak (aN ns) (aN ms)=NR (.bl (!decide (ns=ms))):=by
 have e:∀l:List Int,lU (aN l)=NR (.lst (l.map DV.int)):=λl=>by unfold aN lU;rw[Gj];rfl
 unfold ak;rw[e,e];unfold toV;dsimp only;rw[sk (by rw[Fj];decide)];congr 3;rw[M7,wM,decide_eq_true_iff];constructor
 ·intro z;injection z with z;exact QF.mp z
 ·intro z;rw[z]
def wZ{e:DE}{i:Int}(h:f e=NR (.int i)):mV f e=NR (NR i):=by unfold mV;rw[h];rfl
def aDi(ks:List Int):Rz [Vo ks]=NR (aN ks):=by show NR (D.lst ((ks.map (G2:Int→Key)).map kD))=_;rw[Yr]
def gK{cs:List lH}{c:lH}(h:k<cs.length):at_ (cs++[c]) k=at_ cs k:=by unfold at_;rw[B7,B7,F9 h]
def mK(cs:List lH)(c:lH):at_ (cs++[c]) cs.length=c:=by unfold at_;rw[B7,J7 (C9 _)];simp
def aA6(cs:List lH)(c:lH):D.lst (cs.map MP++[MP c])=yX (cs++[c]):=by unfold yX;rw[J6];rfl
def aA7{e:DE}{ns:List Int}(h:f e=NR (dTup ns)):kO f e=NR (ns.map D.int):=UW h
def Yt(i j:Int):QV [.int i,.int j]=NR (.int (if j > i then j else i)):=rfl
def aFI{e:DE}{f':FE}{a b:Bool}(h:f e=NR (.bl a))(k:f' e=NR (.bl b)):aAD f f' e=NR (.bl (a||b)):=by
 unfold aAD;rw[cB h];cases a with
 | true=>rfl
 | false=>exact k
def Jg{α:Type}(p:α→Bool)(l:List α):Sg [.lst (l.map λx=>D.bl (p x))]=NR (.bl (l.all p)):=by show (zT (l.map λx=>D.bl (p x))).map _=_;rw[Ld];show NR (D.bl ((l.map p).all id))=_;rw[List.all_map];rfl
theorem nM:∀(n:Nat)(l:List Int),l.Nodup→(∀x∈l,0≤x∧x<(n:Int))→l.length≤n
 | 0,l,_,h=>by
  cases l with
  | nil=>exact C9 _
  | cons a l=>have:=h a C8;omega
 | n+1,l,hn,h=>by
  by_cases c:(n:Int)∈l
  ·have e:=Z8 c;have:=nM n (l.erase (n:Int)) (hn.erase _) λx hx=>by obtain⟨h1,h2⟩:=(hn.mem_erase_iff).mp hx;have:=h x h2;omega
   omega
  ·have:=nM n l hn λx hx=>by have:=h x hx;have ne:x≠(n:Int):=λz=>c (by rw[←z];exact hx);omega
   omega
section
variable{f':FE}{c:FT}{env:EN}{r:D}{ds:List D}{p:List Step}
def nO{n m:Nat}(hl:ds.length=m)(h:g (ds.map SD.fro++E9 (n-m) SD.no)=.ret d):oZ n m g ds=NR d:=by unfold oZ;rw[sk hl,h]
def Gm{n m:Nat}(hl:ds.length=m)(h:g (ds.map SD.fro++E9 (n-m) SD.no)=.next aI):oZ n m g ds=NR .non:=by unfold oZ;rw[sk hl,h]
def yo{n m:Nat}{Pd:D→Prop}(hl:ds.length=m)(h:Qs (λr=>∃d,r=.ret d∧Pd d) (g (ds.map SD.fro++E9 (n-m) SD.no))):∃d,oZ n m g ds=NR d∧Pd d:=by obtain⟨d,h1,h2⟩:=h;exact⟨d,nO hl h1,h2⟩
def qD{n m:Nat}{es:List D}(hl:es.length+1=m)(h:∀v,Qs (RQ r d' v) (g (aAY n m d es v))):oY n m g (d::es)=NR (r,d'):=aCQ hl h
def yp(h1:env[i]?=NR (.inn v d))(h2:g1 (env.set i (.own d))=.next aI)(h3:aI[i]?=NR (.own d')):jW i g1 env=.next (aI.set i (.inn v d')):=by unfold jW;rw[h1];dsimp only;rw[h2];dsimp only;rw[h3]
def rC(h1:env[i]?=NR (.inn v d))(h2:g1 (env.set i (.own d))=.next aI)(h3:aI[i]?=NR (.own d'))(k:Qs Pr (g (aI.set i (.inn v d')))):Qs Pr (aY (jW i g1) g env):=by rw[dH (yp h1 h2 h3)];exact k
def Ua(h1:env[i]?=NR (.inn v d))(h2:g1 (env.set i (.own d))=.next aI)(h3:aI[i]?=NR (.own d'))(k:Pr (.next (aI.set i (.inn v d')))):Qs Pr (jW i g1 env):=by rw[yp h1 h2 h3];exact k
def Jh(h:f (rE env)=NR d):zU f env=.next env:=by unfold zU;rw[h]
def jw(h:f (rE env)=NR d)(k:Qs Pr (g env)):Qs Pr (aY (zU f) g env):=by rw[dH (Jh h)];exact k
def Lr(h1:env[i]?=NR (.own d0))(h2:π (rE env)=NR p)(h3:gJ p d0=NR (.lst ds))(h4:f (rE env)=NR d)(hl:ds.length<100000):vA i π f env=.next (env.set i (.own (fO p d0 (.lst (ds++[d]))))):=by unfold vA;rw[h1,h2,h4];dsimp only;rw[h3];dsimp only;rw[sk hl]
def yq{k:Int}(h1:env[i]?=NR (.own d0))(h2:π (rE env)=NR p)(h3:gJ p d0=NR (.lst ds))(h4:f (rE env)=NR (.int k))(h5:f' (rE env)=NR d)(k0:0≤k)(k1:k<ds.length):wU i π f f' env=.next (env.set i (.own (fO p d0 (.lst (ds.set k.toNat d))))):=by
 unfold wU;rw[h1,h2,h4,h5];dsimp only;rw[h3];dsimp only;have:ZW ds.length k=NR k.toNat:=by unfold ZW;rw[sk k0,sk k1]
 rw[this]
def Qg{k:Key}(h1:env[i]?=NR (.own d0))(h2:π (rE env)=NR p)(h3:gJ p d0=NR (.dk ks ds))(h4:f (rE env)=NR kd)(h5:Wa kd=NR k)(h6:f' (rE env)=NR d)(im:d.jH=NU)(hl:ks.length<100000):sX i π f f' env=.next (env.set i (.own (fO p d0 (.dk (mH ks k) (putD ks ds k d))))):=by unfold sX;rw[h1,h2,h4,h6];dsimp only;rw[h3,h5];dsimp only;rw[sk ⟨im,hl⟩]
def aFJ{ks:List (List Key)}{k:List Key}(h1:env[i]?=NR (.own d0))(h2:π (rE env)=NR p)(h3:gJ p d0=NR (.dt ks ds))(h4:fk (rE env)=NR k)(h6:f' (rE env)=NR d)(im:d.jH=NU)(hl:ks.length<100000):Yd i π fk f' env=.next (env.set i (.own (fO p d0 (.dt (mH ks k) (putD ks ds k d))))):=by unfold Yd;rw[h1,h2,h4,h6];dsimp only;rw[h3];dsimp only;rw[sk ⟨im,hl⟩]
def aIE{nm:List Str}{x:Str}(h1:env[i]?=NR (.own d0))(h2:π (rE env)=NR p)(h3:gJ p d0=NR (.ins C nm ds))(h4:f (rE env)=NR d)(hl:nm.length<900):wV C i π x f env=.next (env.set i (.own (fO p d0 (.ins C (Yb nm ds x d).1 (Yb nm ds x d).2)))):=by unfold wV;rw[h1,h2,h4];dsimp only;rw[h3];dsimp only;rw[sk ⟨U,hl⟩]
def bU{n:Nat}{F:List D→Option D}{fs:FA}{iX es:List D}{e:DE}{nm:List Str}(h1:fo e=NR (.ins C nm ds))(hm:m∉nm)(h2:fs e=NR es)(hl:es.length+iX.length+1=n)(h3:F (.ins C nm ds::(es++iX))=NR r):fH C m n F fo fs iX e=NR r:=by unfold fH;rw[h1];dsimp only[C4];rw[sk ⟨U,hm⟩,h2];dsimp only[C4];rw[sk hl];exact h3
def lD{F:List D→Option (D×D)}{fs:FA2}{es:List D}{nm:List Str}{back:D→SD}(h1:env[i]?.bind SD.hold=NR (d0,back))(h2:π (rE env)=NR p)(h3:gJ p d0=NR (.ins C nm ds))(hm:m∉nm)(h4:fs (rE env) (rE (env.set i .no))=NR es)(h5:F (.ins C nm ds::es)=NR (r,d')):pO C m i π F fs env=NR (r,env.set i (back (fO p d0 d'))):=by unfold pO;rw[h1,h2,h4];dsimp only;rw[h3];dsimp only;rw[sk ⟨U,hm⟩,h5];rfl
def Ub{F:List D→Option (D×D)}{fs:FA}{e:DE}{es:List D}(h1:fs e=NR es)(h2:F (.ins C [] []::es)=NR (.non,d')):Th C F fs e=NR d':=by unfold Th;rw[h1];dsimp only[C4];rw[h2]
def fU{fs:FA2}{es:List D}(h1:f eZ=NR d)(h2:fs eF eZ=NR es):Be f fs eF eZ=NR (d::es):=by unfold Be;rw[h1,h2];rfl
def Uc{fs:FA2}{es:List D}(h1:f eF=NR d)(h2:fs eF eZ=NR es):faN f fs eF eZ=NR (d::es):=by unfold faN;rw[h1,h2];rfl
def HJ(h:gm env=NR (d,aI))(hi:i<aI.length)(k:Qs Pr (g (aI.set i (.own d)))):Qs Pr (aY (Ir i gm) g env):=by
 have:Ir i gm env=.next (aI.set i (.own d)):=by unfold Ir;rw[h];dsimp only;rw[sk hi]
 rw[dH this];exact k
def Ls(h:gm env=NR (d,aI)):uL gm env=.next aI:=by unfold uL;rw[h]
def HN(h:gm env=NR (d,aI))(k:Qs Pr (g aI)):Qs Pr (aY (uL gm) g env):=by rw[dH (Ls h)];exact k
def Qh(h:gm env=NR (d,aI))(k:Pr (.rete d aI)):Qs Pr (Iu gm env):=by
 have:Iu gm env=.rete d aI:=by unfold Iu;rw[h]
 rw[this];exact k
def Qi(h:env[i]?=NR (.own d))(k:Pr (.rete d (env.set i .no))):Qs Pr (yN i env):=by
 have:yN i env=.rete d (env.set i .no):=by unfold yN;rw[h]
 rw[this];exact k
def aIF(h:f (rE env)=NR d):gmN f env=NR (d,env):=by unfold gmN;rw[h];rfl
def Qj{f1 f2 f3:FE}{e:DE}{a b c:Int}(h1:f1 e=NR (.int a))(h2:f2 e=NR (.int b))(h3:f3 e=NR (.int c)):We QH gw f1 f2 f3 e=NR (decide (a≤b)&&decide (b<c)):=by
 unfold We;rw[h1,h2,h3];dsimp only[C4];rw[Dv,C4];by_cases q:a≤b
 ·rw[tf q];dsimp only;rw[vI,C4];simp
 ·rw[tj q];simp
theorem Yu{all:List D}(I:Nat→EN→Prop)(hI:∀k env,I k env→env[j]?=NR (.inn v (.lst all))):∀(xs:List D)(n:Nat)(env:EN),I n env→(∀k x env,xs[k]?=NR x→I (n+k) env→i<env.length∧∃cU,g (env.set i (.fro x))=.next cU∧I (n+k+1) cU)→∃cU,Ae j i g v all xs env=.next cU∧I (n+xs.length) cU
 | [],n,env,h,_=>⟨env,by unfold Ae;rw[sk (hI _ _ h)],h⟩
 | x::xs,n,env,h,st=>by
  obtain⟨h1,cU,h2,h3⟩:=st 0 x env U h;obtain⟨e3,a1,a2⟩:=Yu I hI xs (n+1) cU h3 λk y e hk hi=>by have:=st (k+1) y e (by simpa using hk) (by rw[show n+(k+1)=n+1+k by omega];exact hi);rw[show n+(k+1)+1=n+1+k+1 by omega]at this;exact this
  refine⟨e3,?_,?_⟩
  ·unfold Ae;rw[sk ⟨h1,hI _ _ h⟩,h2];exact a1
  ·rw[E3,show n+(xs.length+1)=n+1+xs.length by omega];exact a2
def lv(ns:List Int)(o:SD):Nat→SD
 | 0=>o
 | k+1=>.fro (.int (ns.getD k 0))
def jx{ns:List Int}(aI:EN)(h:env[j]?=NR (.own (aN ns)))(h1:aI[j]?=NR (.own (aN ns)))(I:V→Nat→EN→Prop)(h0:∀v,I v 0 (env.set j (.inn v (aN ns))))(hI:∀v k env,I v k env→env[j]?=NR (.inn v (aN ns)))(st:∀v k x env,ns[k]?=NR x→I v k env→i<env.length∧∃cU,gb (env.set i (.fro (.int x)))=.next cU∧I v (k+1) cU)(ck:∀v cU,I v ns.length cU→cU=aI.set j (.inn v (aN ns)))(k:Qs Pr (g aI)):Qs Pr (aY (Fd j i gb) g env):=by
 have:Fd j i gb env=.next aI:=aCS h h1 λv=>by
  obtain⟨e2,a1,a2⟩:=Yu (i:=i) (g:=gb) (I v) (hI v) (ns.map D.int) 0 _ (h0 v) λk x e hx hi=>by
   rw[N6]at hi ⊢;rw[C5]at hx;cases q:ns[k]? with
   | none=>rw[q]at hx;cases hx
   | some y=>rw[q]at hx;cases hx;exact st v k y e q hi
  rw[N6,B8]at a2;rw[a1,ck v e2 a2]
 rw[dH this];exact k
def Dz(cb:Bool)(a:D):Ja cb a .non=NR (.bl (if cb then !a.SN else a.SN)):=rfl
def aGM{g:FE}{e:DE}(h:c e=NR NU)(h2:f e=NR d):fIf c f g e=NR d:=by unfold fIf;rw[h];exact h2
def aGN{g:FE}{e:DE}(h:c e=NR NV)(h2:g e=NR d):fIf c f g e=NR d:=by unfold fIf;rw[h];exact h2
end
end
end L2
local macro_rules | `(tactic| walk_at "fs")=>`(tactic| exact⟨rfl,rfl,rfl,by decide +kernel,rfl,by decide +kernel,by decide +kernel⟩)
namespace Rs
noncomputable section
open PySem L2
variable{p k q y a aT aS gF:Int}{κ:Nat→AF}{l aQ fu t th:List Int}{i j m:Nat}{d nd:D}{C:AF}{f g:FE}{K:aG}{cO ks:List (List Int)}{S:Int→Bool}{c:lH}{nx:Int→Int}{e:DE}{Pr:SR→Prop}{od:Option AF}{aI:EN}{sl:Array (Option AE)}{π:FP}{gm:GM}{ct:AE}
def top(i:Nat):AO:=PySem.Challenge.pw_ripestone_k32_whole_sound.main.body.getD i (.Pass ⟨0,0,0,0⟩)
def lA:List Str:=["panes","asked","newest","held","unsettled"]
def fV:List Str:=["bench","spots","string","loose","lasts","comings","goings"]
abbrev Ud:AO:=top 42
def WD:GS:=aY (qU (fB (f2 gw (aD 1) (fL gZ (aB (aD 0) aL)))) (eY (cL (f2 cW (aD 0) (aD 1)))) fM)
 (eY (fC (.int 0)))
def mX:List D→Option D:=oH 2 2 (WD)
abbrev Lw:AO:=top 44
def Yv:GS:=aY (cT 1 (cJ 2 mX (aB (aD 0) (aB (fC (.int 0)) aL))))
 (aY (qU (fB (f2 Fv (f2 gH (f2 rR (aD 1) (fC (.int 30))) (fC (.int 8))) (fC (.int 1)))) (eY (wO (aB (f2 eX (fC (.int 1)) (f2 gH (aD 1) (fC (.int 8)))) (aB (f2 eX (fC (.int 1)) (f2 gH (f2 rR (aD 1) (fC (.int 240))) (fC (.int 8)))) aL)))) fM)
 (eY (wO (aB (f2 eX (fC (.int 1)) (f2 gH (aD 1) (fC (.int 5)))) (aB (f2 eX (fC (.int 1)) (f2 gH (f2 rR (aD 1) (fC (.int 5))) (fC (.int 6)))) aL)))))
def xF:List D→Option D:=oH 2 1 (Yv)
abbrev Lx:AO:=top 43
def Yw:GS:=aY (cT 2 (f2 gH (f2 sZ (f2 eX (f2 gH (aD 0) (fC (.int 2147483629))) (fC (.int 1))) (f2 eX (fC (.int 48271)) (f2 sZ (f2 sZ (fC (.int 2)) (aD 1)) (aD 1)))) (fC (.int 2147483629))))
 (eY (f2 gH (f2 sZ (aD 2) (aD 2)) (fC (.int 2147483587))))
def mD:List D→Option D:=oH 3 2 (Yw)
abbrev Gn:AO:=top 45
def Ue:GS:=aY (cT 4 (cJ 2 mD (aB (aD 0) (aB (f2 sZ (fC (.int 5)) (aD 1)) aL))))
 (aY (cT 5 (cL (f2 cW (mR (aB (fC (.int 0)) (aB (fC (.int 1)) (aB (fC (.int 2)) (aB (f2 sZ (cJ 2 mD (aB (aD 0) (aB (f2 eX (f2 sZ (fC (.int 5)) (aD 1)) (fC (.int 1))) aL))) (f2 Ek (fC (.int 10)) (fC (.int 40)))) (aB (yM (fC (.int 1))) aL)))))) (f2 gH (aD 4) (fC (.int 5))))))
 (aY (cT 6 (fC (.int 0)))
 (aY (qU (fB (f2 Fv (f2 gH (f2 rR (aD 4) (fC (.int 5))) (fC (.int 2))) (fC (.int 1)))) (cT 6 (f2 eX (fC (.int 1)) (f2 gH (f2 rR (aD 4) (fC (.int 10))) (fC (.int 9))))) fM)
 (aY (qU (fB (f2 Fv (aD 6) (fC (.int 0)))) (cT 5 (fL aFy (aB (aD 5) aL))) fM)
 (eY (wO (aB (cL (aD 2)) (aB (cL (aD 3)) (aB (cL (f2 cW (mR (aB (yM (fC (.int 1))) (aB (fC (.int 0)) (aB (fC (.int 5)) (aB (aD 4) aL))))) (f2 gH (f2 rR (aD 4) (fC (.int 90))) (fC (.int 4))))) (aB (cL (aD 5)) (aB (cL (aD 6)) aL)))))))))))
def qO:List D→Option D:=oH 7 4 (Ue)
abbrev xG:AO:=top 46
def Yx:GS:=aY (yL [1,2] (cJ 1 xF (aB (aD 0) aL)))
 (aY (cT 3 (fL Jc (aB (fC (.int 1)) (aB (f2 sZ (aD 1) (aD 2)) aL))))
 (aY (cT 4 (mR (aB (fC (.int 0)) aL)))
 (aY (zV 5 (rA (aB (f2 gH (cJ 2 mX (aB (aD 0) (aB (fC (.int 1)) aL))) (f2 sZ (aD 1) (aD 2))) aL)) (Dk 4 3 (f2 gH (cJ 2 mD (aB (cJ 2 mX (aB (aD 0) (aB (fC (.int 1)) aL))) (aB (aD 5) aL))) (fL gZ (aB (aD 3) aL)))))
 (aY (cT 6 (eE (rA (aB (aD 1) aL)) [2] gP (eE (rA (aB (aD 1) aL)) [] gP (wO (aB (fC (.int 0)) (aB (fC (.int 0)) (aB (yM (fC (.int 1))) (aB (yM (fC (.int 1))) (aB (fC (.int 0)) aL)))))))))
 (aY (cT 7 (cJ 2 mX (aB (aD 0) (aB (fC (.int 2)) aL))))
 (aY (Wc [3] 8 (kO (aD 3)) (wU 6 (EY dC (f2 gH (aD 8) (aD 1))) (f2 rR (aD 8) (aD 1)) (cJ 4 qO (aB (aD 7) (aB (aD 8) (aB (f2 gH (aD 7) (f2 Ek (fC (.int 10)) (fC (.int 9)))) (aB (f2 gH (f2 sZ (aD 8) (aD 8)) (f2 sZ (aD 1) (aD 2))) aL)))))))
 (aY (cT 9 (f2 gH (aD 7) (f2 Ek (fC (.int 10)) (fC (.int 58)))))
 (aY (zV 5 (rA (aB (fL gZ (aB (aD 4) aL)) aL)) (aY (cT 8 (cL (f2 cW (aD 4) (aD 5))))
 (aY (wU 6 (EY dC (f2 gH (aD 8) (aD 1))) (f2 rR (aD 8) (aD 1)) (cJ 4 qO (aB (aD 7) (aB (f2 eX (aD 5) (fC (.int 100))) (aB (aD 9) (aB (f2 cW (f2 eX (aD 4) (mR (aB (fC (.int 0)) aL))) (f2 eX (aD 5) (fC (.int 1)))) aL))))))
 (cT 9 (f2 eX (f2 eX (aD 9) (fC (.int 1))) (f2 sZ (f2 gH (cJ 2 mD (aB (aD 7) (aB (f2 eX (aD 5) (fC (.int 7))) aL))) (fC (.int 3))) (f2 cW (mR (aB (fC (.int 1)) (aB (f2 Ek (fC (.int 10)) (fC (.int 40))) aL))) (f2 gH (aD 7) (fC (.int 2))))))))))
 (aY (zV 10 (rA (aB (aD 1) aL)) (vA 6 (EY dC (aD 10)) (wO (aB (f2 gH (cJ 2 mD (aB (aD 7) (aB (f2 eX (aD 10) (fC (.int 70))) aL))) (fC (.int 10))) aL))))
 (Nv 6))))))))))
def xH:List D→Option D:=oH 11 1 (Yx)
abbrev uM:AO:=inClass (top 13) 0
def Ug(κ:Nat→AF):GS:=aY (jW 0 (wV (κ 0) 0 dC "panes" (eE (kO (aD 1)) [] gP (fL dList (aB (aD 0) aL)))))
 (aY (jW 0 (wV (κ 0) 0 dC "asked" (mR aL)))
 (aY (jW 0 (wV (κ 0) 0 dC "newest" (fC (.dt [] []))))
 (aY (jW 0 (wV (κ 0) 0 dC "held" (fC (.dk [] []))))
 (jW 0 (wV (κ 0) 0 dC "unsettled" (eE (kO (aD 1)) [] gP (mR aL)))))))
def uN(κ:Nat→AF):List D→Option (D×D):=oY 2 2 (Ug κ)
abbrev Uh:AO:=top 22
def WK:GS:=eY (cL (f2 cW (f2 cW (aD 0) (f2 cW (aD 1) (fC (.int 0)))) (f2 cW (aD 1) (fC (.int 1)))))
def Bo:List D→Option D:=oH 2 2 (WK)
abbrev HQ:AO:=top 21
def yu:GS:=eY (wO (aB (f2 gH (aD 1) (fL gZ (aB (aD 0) aL))) (aB (f2 rR (aD 1) (fL gZ (aB (aD 0) aL))) aL)))
def yZ:List D→Option D:=oH 2 2 (yu)
abbrev Ly:AO:=top 23
def Yy:GS:=eY (cJ 2 Bo (aB (aD 0) (aB (cJ 2 yZ (aB (aD 0) (aB (aD 1) aL))) aL)))
def jO:List D→Option D:=oH 2 2 (Yy)
abbrev Lz:AO:=top 27
def Yz:GS:=aY (cT 1 (fC (.dk [] [])))
 (aY (cT 2 (cL (f2 cW (cJ 2 jO (aB (aD 0) (aB (fC (.int (0))) aL))) (fC (.int (1))))))
 (aY (rY (El (fB (f2 ak (aD 2) (fC (.int (0))))) (fB (f2 (Ib NU) (aD 2) (aD 1)))) (aY (sX 1 dC (aD 2) (fC (.bl NU)))
 (cT 2 (cL (f2 cW (cJ 2 jO (aB (aD 0) (aB (aD 2) aL))) (fC (.int (1))))))) 400)
 (eY (fL Rz (aB (aD 1) aL)))))
def nP:List D→Option D:=oH 3 1 (Yz)
abbrev Gp:AO:=top 26
def Gq:GS:=eY (f2 sZ (fL gZ (aB (aD 0) aL)) (f2 Az (fL gZ (aB (f2 cW (aD 0) (fC (.int 0))) aL)) (fC (.int 1))))
def lN:List D→Option D:=oH 1 1 (Gq)
abbrev vK:AO:=top 28
def Nx:GS:=aY (cT 1 (cJ 1 nP (aB (aD 0) aL)))
 (eY (eE (QX (aB (f2 eX (fC (.int (0))) (fC (.int 1))) (aB (cJ 1 lN (aB (aD 0) aL)) aL))) [1] (fB (f2 (dIn NU) (aD 0) (aD 1))) (cL (aD 0))))
def rF:List D→Option D:=oH 2 1 (Nx)
abbrev vL:AO:=inClass (top 39) 0
def Bp(κ:Nat→AF):GS:=aY (jW 0 (wV (κ 1) 0 dC "bench" (Th (κ 0) (uN κ) (aB (aD 1) aL))))
 (aY (jW 0 (wV (κ 1) 0 dC "spots" (eE (rA (aB (cJ 1 lN (aB (aD 1) aL)) aL)) [1] gP (cJ 2 yZ (aB (aD 1) (aB (aD 0) aL))))))
 (aY (jW 0 (wV (κ 1) 0 dC "string" (cJ 1 nP (aB (aD 1) aL))))
 (aY (jW 0 (wV (κ 1) 0 dC "loose" (cJ 1 rF (aB (aD 1) aL))))
 (aY (jW 0 (wV (κ 1) 0 dC "lasts" (fC (.dk [] []))))
 (aY (jW 0 (wV (κ 1) 0 dC "comings" (fC (.dk [] []))))
 (jW 0 (wV (κ 1) 0 dC "goings" (fC (.dk [] [])))))))))
def pP(κ:Nat→AF):List D→Option (D×D):=oY 2 2 (Bp κ)
abbrev zA:AO:=inClass (top 39) 2
def HR(κ:Nat→AF):GS:=eY (fL dList (aB (tG (fP (κ 1) "string") (aD 0)) aL))
def jY(κ:Nat→AF):List D→Option D:=oZ 1 1 (HR κ)
abbrev Gr:AO:=top 41
def Ui:GS:=aY (cT 1 (f2 gH (f2 sZ (f2 eX (f2 gH (aD 0) (fC (.int 2147483629))) (fC (.int 1))) (fC (.int 48271))) (fC (.int 2147483629))))
 (eY (f2 eX (f2 gH (f2 sZ (aD 1) (aD 1)) (fC (.int 2147483587))) (f2 sZ (f2 gH (aD 0) (f2 Ek (fC (.int 10)) (fC (.int 50)))) (fC (.int 2147483587)))))
def mY:List D→Option D:=oH 2 1 (Ui)
abbrev vM:AO:=inClass (top 13) 8
def WL(κ:Nat→AF):GS:=eY (eE (kO (tG (fP (κ 0) "panes") (aD 0))) [] gP (fL dList (aB (aD 0) aL)))
def rG(κ:Nat→AF):List D→Option D:=oZ 1 1 (WL κ)
abbrev HS:AO:=top 49
def yw:GS:=aY (cT 1 (f2 sZ (fL gZ (aB (aD 0) aL)) (f2 Az (fL gZ (aB (f2 cW (aD 0) (fC (.int 0))) aL)) (fC (.int 1)))))
 (aY (cT 2 (mR aL))
 (aY (cT 3 (cL (f2 cW (f2 cW (f2 cW (aD 0) (fC (.int 0))) (fC (.int 0))) (fC (.int 1)))))
 (aY (zV 4 (rA (aB (f2 eX (aD 1) (fC (.int 1))) aL)) (aY (qU (fB (f2 Fv (aD 3) (fC (.int 0)))) (Nv 2) fM)
 (aY (qU (fOr (Em (fB (Sx "int" (aD 3)))) (fOr (fB (f2 gw (aD 3) (fC (.int 0)))) (fB (f2 dGe (aD 3) (aD 1))))) (eY (fC .non)) fM)
 (aY (vA 2 dC (cL (aD 3)))
 (cT 3 (cL (f2 cW (f2 cW (f2 cW (aD 0) (f2 gH (aD 3) (fL gZ (aB (aD 0) aL)))) (f2 rR (aD 3) (fL gZ (aB (aD 0) aL)))) (fC (.int 1)))))))))
 (eY (fC .non)))))
def vN:List D→Option D:=oH 5 1 (yw)
abbrev sE:AO:=inClass (top 13) 1
def zW(κ:Nat→AF):GS:=qU (Em (We QH gw (fC (.int 0)) (aD 1) (fL gZ (aB (tG (fP (κ 0) "panes") (aD 0)) aL)))) aCM fM
def jP(κ:Nat→AF):List D→Option D:=oZ 2 2 (zW κ)
abbrev qP:AO:=inClass (top 13) 2
def xJ(κ:Nat→AF):GS:=aY (zU (fH (κ 0) "check_pane" 2 (jP κ) (aD 0) (aB (aD 1) aL) []))
 (qU (Em (We QH gw (fC (.int 0)) (aD 2) (fL gZ (aB (f2 cW (tG (fP (κ 0) "panes") (aD 0)) (aD 1)) aL)))) aCM fM)
def iU(κ:Nat→AF):List D→Option D:=oZ 3 3 (xJ κ)
abbrev Gs:AO:=inClass (top 13) 5
def Uj(κ:Nat→AF):GS:=aY (zU (fH (κ 0) "check_place" 3 (iU κ) (aD 0) (aB (aD 1) (aB (aD 2) aL)) []))
 (aY (qU (fB (Wf NV (Lk (aB (aD 1) (aB (aD 2) aL))) (tG (fP (κ 0) "newest") (aD 0)))) (eY (cL (f2 cW (f2 cW (tG (fP (κ 0) "asked") (aD 0)) (Tj (tG (fP (κ 0) "newest") (aD 0)) (Lk (aB (aD 1) (aB (aD 2) aL))))) (fC (.int (2)))))) fM)
 (eY (cL (f2 cW (f2 cW (tG (fP (κ 0) "panes") (aD 0)) (aD 1)) (aD 2)))))
def uO(κ:Nat→AF):List D→Option D:=oZ 3 3 (Uj κ)
abbrev sG:AO:=inClass (top 39) 1
def zX(κ:Nat→AF):GS:=aY (cT 2 (cL (f2 cW (tG (fP (κ 1) "spots") (aD 0)) (aD 1))))
 (eY (fH (κ 0) "seen" 3 (uO κ) (tG (fP (κ 1) "bench") (aD 0)) (aB (f2 cW (aD 2) (fC (.int 0))) (aB (f2 cW (aD 2) (fC (.int 1))) aL)) []))
def bC(κ:Nat→AF):List D→Option D:=oZ 3 2 (zX κ)
abbrev qF:AO:=inClass (top 13) 3
def vO(κ:Nat→AF):GS:=qU (Em (We QH gw (fC (.int 0)) (aD 1) (fL gZ (aB (tG (fP (κ 0) "asked") (aD 0)) aL)))) aCM fM
def iG(κ:Nat→AF):List D→Option D:=oZ 2 2 (vO κ)
abbrev Ma:AO:=inClass (top 13) 4
def Za(κ:Nat→AF):GS:=aY (zU (fH (κ 0) "check_place" 3 (iU κ) (aD 0) (aB (aD 1) (aB (aD 2) aL)) []))
 (aY (cT 5 (fIf (fB (f2 (Ja NV) (aD 4) (fC .non))) (mR aL) (fL dList (aB (aD 4) aL))))
 (aY (Fd 5 6 (zU (fH (κ 0) "check_change" 2 (iG κ) (aD 0) (aB (aD 6) aL) [])))
 (aY (qU (fB (Wf NV (Lk (aB (aD 1) (aB (aD 2) aL))) (tG (fP (κ 0) "newest") (aD 0)))) (vA 5 dC (Tj (tG (fP (κ 0) "newest") (aD 0)) (Lk (aB (aD 1) (aB (aD 2) aL))))) fM)
 (aY (cT 7 (fL gZ (aB (tG (fP (κ 0) "asked") (aD 0)) aL)))
 (aY (jW 0 (vA 0 (Ad (κ 0) "asked" dC) (wO (aB (cL (aD 1)) (aB (cL (aD 2)) (aB (cL (aD 3)) (aB (fL Sd (aB (tG xf (aD 5)) aL)) aL)))))))
 (aY (jW 0 (Yd 0 (Ad (κ 0) "newest" dC) (Lk (aB (aD 1) (aB (aD 2) aL))) (aD 7)))
 (aY (jW 0 (vA 0 (EY (Ad (κ 0) "unsettled" dC) (aD 1)) (cL (aD 7))))
 (yN 7))))))))
def Ea(κ:Nat→AF):List D→Option (D×D):=oY 8 5 (Za κ)
abbrev HW:AO:=top 38
def aIG:GS:=eY (eE (kO (aD 0)) [] (fB (f2 (Ja NU) (aD 0) (fC .non))) (cL (aD 0)))
def HX:List D→Option D:=oH 1 1 (aIG)
abbrev zB:AO:=inClass (top 39) 10
def Ji(κ:Nat→AF):GS:=aY (cT 4 (cL (f2 cW (tG (fP (κ 1) "spots") (aD 0)) (aD 1))))
 (aY (Ir 5 (pO (κ 0) "put" 0 (Ad (κ 1) "bench" dC) (Ea κ) (λeF eZ=>((Be (f2 cW (aD 4) (fC (.int 0))) (Be (f2 cW (aD 4) (fC (.int 1))) (Be (aD 2) (Be (cJ 1 HX (aB (aD 3) aL)) oK)))) eF eZ).map (·++[]))))
 (aY (jW 0 (sX 0 (Ad (κ 1) "lasts" dC) (aD 1) (aD 5)))
 (yN 5)))
def nQ(κ:Nat→AF):List D→Option (D×D):=oY 6 4 (Ji κ)
abbrev sH:AO:=inClass (top 39) 5
def Ot(κ:Nat→AF):GS:=eY (f2 Tp (tG (fP (κ 1) "comings") (aD 0)) (aD 1))
def pG(κ:Nat→AF):List D→Option D:=oZ 2 2 (Ot κ)
abbrev qQ:AO:=inClass (top 39) 11
def xK(κ:Nat→AF):GS:=Iu (pO (κ 1) "write" 0 dC (nQ κ) (λeF eZ=>((Be (aD 1) (Be (aD 2) (faN (f2 eX (mR (aB (fH (κ 1) "coming_in" 2 (pG κ) (aD 0) (aB (aD 1) aL) []) aL)) (aD 3)) oK))) eF eZ).map (·++[])))
def gO(κ:Nat→AF):List D→Option (D×D):=oY 4 4 (xK κ)
abbrev oO:AO:=inClass (top 39) 8
def sY(κ:Nat→AF):GS:=aY (cT 2 (fIf (fB (f2 (Ja NV) (aD 1) (fC .non))) (mR aL) (fL dList (aB (aD 1) aL))))
 (aY (Fd 2 3 (zU (fH (κ 0) "check_change" 2 (iG κ) (tG (fP (κ 1) "bench") (aD 0)) (aB (aD 3) aL) [])))
 (Nv 2))
def cG(κ:Nat→AF):List D→Option D:=oZ 4 2 (sY κ)
abbrev uP:AO:=inClass (top 39) 14
def Bq(κ:Nat→AF):GS:=aY (cT 6 (fH (κ 1) "record_of" 2 (bC κ) (aD 0) (aB (aD 1) aL) []))
 (Iu (pO (κ 1) "write_tied" 0 dC (gO κ) (λeF eZ=>((Be (aD 1) (Be (wO (aB (cL (f2 cW (aD 6) (fC (.int (0))))) (aB (cL (f2 cW (aD 6) (fC (.int (1))))) (aB (cL (aD 2)) (aB (cL (aD 3)) (aB (cL (aD 4)) aL)))))) (faN (fH (κ 1) "further_needs" 2 (cG κ) (aD 0) (aB (aD 5) aL) []) oK))) eF eZ).map (·++[]))))
def qG(κ:Nat→AF):List D→Option (D×D):=oY 7 6 (Bq κ)
abbrev sI:AO:=inClass (top 39) 9
def Ou(κ:Nat→AF):GS:=eY (cL (f2 cW (f2 eX (mR (aB (fC (.int (0))) aL)) (tG (fP (κ 1) "string") (aD 0))) (aD 1)))
def jQ(κ:Nat→AF):List D→Option D:=oZ 2 2 (Ou κ)
abbrev Br:AO:=inClass (top 39) 12
def Ny(κ:Nat→AF):GS:=aY (cT 4 (fH (κ 1) "record_of" 2 (bC κ) (aD 0) (aB (aD 1) aL) []))
 (Iu (pO (κ 1) "write_tied" 0 dC (gO κ) (λeF eZ=>((Be (aD 1) (Be (wO (aB (cL (f2 cW (aD 4) (fC (.int (0))))) (aB (cL (aD 2)) (aB (cL (f2 cW (aD 4) (fC (.int (2))))) (aB (cL (f2 cW (aD 4) (fC (.int (3))))) (aB (cL (f2 cW (aD 4) (fC (.int (4))))) aL)))))) (Be (aD 3) oK))) eF eZ).map (·++[]))))
def mZ(κ:Nat→AF):List D→Option (D×D):=oY 5 4 (Ny κ)
abbrev qH:AO:=inClass (top 39) 7
def Jj(κ:Nat→AF):GS:=eY (f2 Tp (tG (fP (κ 1) "lasts") (aD 0)) (aD 1))
def mL(κ:Nat→AF):List D→Option D:=oZ 2 2 (Jj κ)
abbrev zF:AO:=inClass (top 39) 15
def Jk(κ:Nat→AF):GS:=aY (cT 3 (fH (κ 1) "box_ahead" 2 (jQ κ) (aD 0) (aB (f2 Bh (tG (fP (κ 1) "string") (aD 0)) (aD 1)) aL) []))
 (aY (cT 4 (f2 eX (mR (aB (fH (κ 1) "last_change" 2 (mL κ) (aD 0) (aB (aD 1) aL) []) aL)) (fH (κ 1) "further_needs" 2 (cG κ) (aD 0) (aB (aD 2) aL) [])))
 (aY (Ir 5 (pO (κ 1) "link" 0 dC (mZ κ) (λeF eZ=>((Be (aD 3) (faN (cL (f2 cW (fH (κ 1) "record_of" 2 (bC κ) (aD 0) (aB (aD 1) aL) []) (fC (.int (1))))) (Be (aD 4) oK))) eF eZ).map (·++[]))))
 (aY (jW 0 (jj 0 (Ad (κ 1) "string" dC) (aD 1)))
 (aY (jW 0 (vA 0 (Ad (κ 1) "loose" dC) (cL (aD 1))))
 (aY (jW 0 (sX 0 (Ad (κ 1) "goings" dC) (aD 1) (aD 5)))
 (yN 5))))))
def nR(κ:Nat→AF):List D→Option (D×D):=oY 6 3 (Jk κ)
abbrev Bu:AO:=inClass (top 39) 3
def WM(κ:Nat→AF):GS:=eY (fL Ij (aB (tG (fP (κ 1) "loose") (aD 0)) aL))
def vP(κ:Nat→AF):List D→Option D:=oZ 1 1 (WM κ)
abbrev HY:AO:=top 48
def yx:GS:=aY (qU (fB (f2 Fv (aD 0) (mR aL))) (eY (f2 gH (aD 2) (f2 Ek (fC (.int 10)) (fC (.int 58))))) fM)
 (aY (qU (fB (f2 Fv (aD 1) (fC (.int 0)))) (eY (f2 Az (f2 Az (f2 cW (aD 0) (fC (.int 0))) (fC (.int 1))) (f2 gH (aD 2) (f2 Ek (fC (.int 10)) (fC (.int 50)))))) fM)
 (aY (qU (El (fB (f2 gw (aD 1) (fL gZ (aB (aD 0) aL)))) (fB (f2 dGt (f2 Az (f2 cW (aD 0) (aD 1)) (f2 cW (aD 0) (f2 Az (aD 1) (fC (.int 1))))) (fC (.int 1))))) (eY (f2 eX (f2 eX (f2 cW (aD 0) (f2 Az (aD 1) (fC (.int 1)))) (fC (.int 1))) (f2 gH (aD 2) (f2 Az (f2 Az (f2 cW (aD 0) (aD 1)) (f2 cW (aD 0) (f2 Az (aD 1) (fC (.int 1))))) (fC (.int 1)))))) fM)
 (eY (f2 eX (f2 eX (f2 cW (aD 0) (yM (fC (.int 1)))) (fC (.int 1))) (f2 gH (aD 2) (f2 Ek (fC (.int 10)) (fC (.int 50))))))))
def Jl:List D→Option D:=oH 3 3 (yx)
abbrev sJ:AO:=inClass (top 39) 6
def Ov(κ:Nat→AF):GS:=eY (f2 Tp (tG (fP (κ 1) "goings") (aD 0)) (aD 1))
def pH(κ:Nat→AF):List D→Option D:=oZ 2 2 (Ov κ)
abbrev tO:AO:=inClass (top 39) 13
def Jm(κ:Nat→AF):GS:=aY (qU (fB (f2 Fv (fL gZ (aB (tG (fP (κ 1) "loose") (aD 0)) aL)) (fC (.int 0)))) aCM fM)
 (aY (cT 6 (fH (κ 1) "further_needs" 2 (cG κ) (aD 0) (aB (aD 5) aL) []))
 (aY (cT 7 (fL gZ (aB (eE (kO (tG (fP (κ 1) "string") (aD 0))) [0,1] (fB (f2 gw (f2 cW (fH (κ 1) "record_of" 2 (bC κ) (aD 1) (aB (aD 0) aL) []) (fC (.int (0)))) (aD 2))) (cL (aD 0))) aL)))
 (aY (cT 8 (fH (κ 1) "box_ahead" 2 (jQ κ) (aD 0) (aB (aD 7) aL) []))
 (aY (cT 9 (fL vf (aB (tG (fP (κ 1) "loose") (aD 0)) aL)))
 (aY (Ir 10 (pO (κ 1) "write" 0 dC (nQ κ) (λeF eZ=>((Be (aD 9) (faN (wO (aB (cL (aD 1)) (aB (cL (f2 cW (fH (κ 1) "record_of" 2 (bC κ) (aD 0) (aB (aD 8) aL) []) (fC (.int (1))))) (aB (cL (aD 2)) (aB (cL (aD 3)) (aB (cL (aD 4)) aL)))))) (faN (mR (aB (fH (κ 1) "going_out" 2 (pH κ) (aD 0) (aB (aD 9) aL) []) aL)) oK))) eF eZ).map (·++[]))))
 (aY (Ir 11 (pO (κ 1) "link" 0 dC (mZ κ) (λeF eZ=>((Be (aD 8) (Be (aD 9) (Be (f2 eX (mR (aB (aD 10) aL)) (aD 6)) oK))) eF eZ).map (·++[]))))
 (aY (jW 0 (aA2 0 (Ad (κ 1) "string" dC) (aD 7) (aD 9)))
 (aY (jW 0 (jj 0 (Ad (κ 1) "loose" dC) (aD 9)))
 (aY (jW 0 (sX 0 (Ad (κ 1) "comings" dC) (aD 9) (aD 11)))
 (Iu (gmN (wO (aB (cL (aD 9)) (aB (cL (aD 11)) aL))))))))))))))
def tQ(κ:Nat→AF):List D→Option (D×D):=oY 12 6 (Jm κ)
abbrev Jo:AO:=top 50
def qI(κ:Nat→AF):GS:=aY (cT 3 (fH (κ 1) "order" 1 (jY κ) (aD 0) aL []))
 (aY (cT 4 (f2 rR (aD 2) (fC (.int 3))))
 (qU (El (fB (f2 Fv (f2 gH (aD 2) (fC (.int 3))) (fC (.int 0)))) (fB (f2 ak (aD 3) (mR aL)))) (aY (cT 5 (f2 gH (aD 4) (fL gZ (aB (aD 3) aL))))
 (jW 1 (Yj 1 (fC (.str "out")) (pO (κ 1) "leave" 0 dC (nR κ) (λeF eZ=>((Be (f2 cW (aD 3) (aD 5)) oK) eF eZ).map (·++[.non]))) (aB (cL (f2 cW (aD 3) (aD 5))) (aB (fC (.int 0)) aL))))) (qU (El (fB (f2 Fv (f2 gH (aD 2) (fC (.int 3))) (fC (.int 1)))) (fB (f2 ak (aD 3) (mR aL)))) (uL (pO (κ 1) "rewrite" 0 dC (qG κ) (λeF eZ=>((Be (f2 cW (aD 3) (f2 gH (aD 4) (fL gZ (aB (aD 3) aL)))) (Be (yM (fC (.int 1))) (Be (f2 gH (aD 4) (f2 Ek (fC (.int 10)) (fC (.int 50)))) (Be (fC (.int 0)) oK)))) eF eZ).map (·++[.non])))) (qU (fB (f2 ak (fH (κ 1) "free" 1 (vP κ) (aD 0) aL []) (mR aL))) (aY (cT 6 (eE (kO (aD 3)) [0] gP (cL (f2 cW (fH (κ 1) "record_of" 2 (bC κ) (aD 1) (aB (aD 0) aL) []) (fC (.int 0))))))
 (aY (cT 5 (f2 gH (aD 4) (f2 eX (fL gZ (aB (aD 3) aL)) (fC (.int 1)))))
 (aY (cT 7 (cJ 3 Jl (aB (aD 6) (aB (aD 5) (aB (f2 rR (aD 4) (fC (.int 5))) aL)))))
 (aY (Yk [8,9] (pO (κ 1) "enter" 0 dC (tQ κ) (λeF eZ=>((Be (aD 7) (Be (yM (fC (.int 1))) (Be (f2 gH (aD 4) (f2 Ek (fC (.int 10)) (fC (.int 50)))) (Be (fC (.int 0)) oK)))) eF eZ).map (·++[.non]))))
 (aY (cT 5 (f2 Bh (fL Ij (aB (f2 eX (aD 6) (mR (aB (aD 7) aL))) aL)) (aD 7)))
 (jW 1 (vA 1 dC (wO (aB (fC (.str "in")) (aB (cL (aD 9)) (aB (cL (aD 8)) (aB (cL (f2 cW (f2 eX (mR (aB (fC (.int 0)) aL)) (aD 3)) (aD 5))) aL)))))))))))) fM))))
def Bv(κ:Nat→AF):List D→Option (D×List D):=Tn 10 [NU,NU,NV] (qI κ)
abbrev zG:AO:=top 6
def Uk:GS:=aY (cT 3 (fC (.dk [] [])))
 (aY (Wc [] 4 (kO (aD 2)) (qU (fB (fL Sg (aB (eE (kO (f2 cW (f2 cW (aD 0) (aD 4)) (fC (.int (3))))) [1,3] gP (aAD (f2 (Ib NV) (aD 0) (aD 1)) (f2 (Ib NV) (aD 0) (aD 2)))) aL))) (sX 3 dC (aD 4) (fC (.bl NU))) fM))
 (eY (fL Rz (aB (aD 3) aL))))
def uQ:List D→Option D:=oH 5 3 (Uk)
abbrev zH:AO:=inClass (top 13) 6
def Jp(κ:Nat→AF):GS:=aY (cT 2 (cL (f2 cW (tG (fP (κ 0) "asked") (aD 0)) (aD 1))))
 (aY (jW 0 (wU 0 (EY (Ad (κ 0) "panes" dC) (f2 cW (aD 2) (fC (.int (0))))) (f2 cW (aD 2) (fC (.int (1)))) (cL (f2 cW (aD 2) (fC (.int (2)))))))
 (jW 0 (sX 0 (Ad (κ 0) "held" dC) (aD 1) (fC (.bl NU)))))
def tR(κ:Nat→AF):List D→Option (D×D):=oY 3 2 (Jp κ)
abbrev vQ:AO:=inClass (top 13) 7
def Nz(κ:Nat→AF):GS:=aY (zU (fH (κ 0) "check_pane" 2 (jP κ) (aD 0) (aB (aD 1) aL) []))
 (aY (cT 3 (cJ 3 uQ (aB (tG (fP (κ 0) "asked") (aD 0)) (aB (tG (fP (κ 0) "held") (aD 0)) (aB (f2 cW (tG (fP (κ 0) "unsettled") (aD 0)) (aD 1)) aL)))))
 (aY (qU (fB (f2 (Ja NU) (aD 2) (fC .non))) (cT 3 (ao NU (aD 3) (Bc) (mV (fL QV (aB (aD 2) (aB (fC (.int 0)) aL)))))) fM)
 (aY (Fd 3 4 (uL (pO (κ 0) "strike" 0 dC (tR κ) (λeF eZ=>((Be (aD 4) oK) eF eZ).map (·++[])))))
 (aY (jW 0 (wU 0 (Ad (κ 0) "unsettled" dC) (aD 1) (eE (kO (f2 cW (tG (fP (κ 0) "unsettled") (aD 0)) (aD 1))) [0] (fB (f2 (Ib NU) (aD 0) (tG (fP (κ 0) "held") (aD 1)))) (cL (aD 0)))))
 (yN 3)))))
def rH(κ:Nat→AF):List D→Option (D×D):=oY 5 3 (Nz κ)
abbrev Mf:AO:=top 51
def Zb:GS:=aY (cT 3 (fC .non))
 (aY (Wc [] 4 (kO (aD 1)) (aY (cT 5 (cL (f2 cW (f2 cW (aD 0) (f2 gH (aD 4) (fL gZ (aB (aD 0) aL)))) (f2 rR (aD 4) (fL gZ (aB (aD 0) aL))))))
 (aY (qU (fOr (fB (f2 (dIn NU) (f2 cW (aD 5) (fC (.int 0))) (f2 cW (aD 2) (aD 4)))) (El (fB (f2 (Ja NU) (aD 3) (fC .non))) (fB (f2 QH (f2 cW (aD 5) (fC (.int 0))) (aD 3))))) (eY (fC (.bl NV))) fM)
 (cT 3 (cL (f2 cW (aD 5) (fC (.int 0))))))))
 (eY (fC (.bl NU))))
def uB:List D→Option D:=oH 6 3 (Zb)
abbrev Jq:AO:=top 31
def zb:GS:=aY (qU (fOr (Em (fB (Sx "list" (aD 0)))) (Em (We QH QH (fC (.int 1)) (fL gZ (aB (aD 0) aL)) (fC (.int 8))))) (eY (fC (.bl NV))) fM)
 (aY (qU (Em (fB (fL Sg (aB (eE (kO (aD 0)) [] gP (Sx "list" (aD 0))) aL)))) (eY (fC (.bl NV))) fM)
 (eY (qL (jk QH QH (fC (.int 2)) (fL gZ (aB (f2 cW (aD 0) (fC (.int 0))) aL)) (fC (.int 9))) (fL Sg (aB (eE (kO (aD 0)) [0] gP (f2 Fv (fL gZ (aB (aD 0) aL)) (fL gZ (aB (f2 cW (aD 1) (fC (.int 0))) aL)))) aL)))))
def Jr:List D→Option D:=oH 1 1 (zb)
abbrev lE:AO:=top 35
def Bw:GS:=aY (cT 1 (cJ 1 nP (aB (aD 0) aL)))
 (aY (qU (fB (f2 ak (f2 cW (cJ 2 jO (aB (aD 0) (aB (f2 cW (f2 eX (mR (aB (fC (.int (0))) aL)) (aD 1)) (yM (fC (.int 1)))) aL))) (fC (.int (1)))) (fC (.int (0))))) (eY (fC (.bl NV))) fM)
 (aY (cT 2 (eE (kO (aD 1)) [0] gP (cJ 2 jO (aB (aD 1) (aB (aD 0) aL)))))
 (aY (qU (fB (fL aE1 (aB (eE (kO (aD 2)) [] gP (qL (f2 Fv (f2 cW (aD 0) (fC (.int (4)))) (fC (.int 0))) (f2 Fv (f2 cW (aD 0) (fC (.int (3)))) (fC (.int (-1)))))) aL))) (eY (fC (.bl NV))) fM)
 (eY (fL Sg (aB (Lp (aD 2) (ao NV (aD 2) (mV (fC (.int 1))) (Bc)) [] gP (f2 gw (f2 cW (aD 0) (fC (.int (0)))) (f2 cW (aD 1) (fC (.int (0)))))) aL))))))
def nA:List D→Option D:=oH 3 1 (Bw)
abbrev Ul:AO:=top 29
def aDj:GS:=eY (qL (Sx "int" (aD 0)) (QQ (Sx "bool" (aD 0))))
def By:List D→Option D:=oH 1 1 (aDj)
abbrev Eb:AO:=top 30
def aA8:GS:=eY (qL (Sx "tuple" (aD 0)) (qL (f2 Fv (fL gZ (aB (aD 0) aL)) (aD 1)) (fL Sg (aB (eE (kO (aD 0)) [] gP (cJ 1 By (aB (aD 0) aL))) aL))))
def uC:List D→Option D:=oH 2 2 (aA8)
abbrev IK:AO:=top 32
def aFK:GS:=eY (qL (cJ 2 uC (aB (aD 0) (aB (fC (.int 1)) aL))) (f2 dGe (f2 cW (aD 0) (fC (.int 0))) (fC (.int 0))))
def Qk:List D→Option D:=oH 1 1 (aFK)
abbrev Mg:AO:=top 33
def Zc:GS:=aY (qU (Em (fB (cJ 2 uC (aB (aD 0) (aB (fC (.int 5)) aL))))) (eY (fC (.bl NV))) fM)
 (eY (qL (jk QH gw (fC (.int 0)) (f2 cW (aD 0) (fC (.int (1)))) (aD 1)) (qL (f2 dGe (f2 cW (aD 0) (fC (.int (2)))) (fC (.int (-1)))) (qL (f2 dGe (f2 cW (aD 0) (fC (.int (3)))) (fC (.int (-1)))) (f2 dGe (f2 cW (aD 0) (fC (.int (4)))) (fC (.int 0)))))))
def uD:List D→Option D:=oH 2 2 (Zc)
abbrev vR:AO:=top 34
def WN:GS:=eY (qL (cJ 1 Qk (aB (f2 cW (aD 0) (yM (fC (.int 1)))) aL)) (fL Sg (aB (eE (kO (ao NV (aD 0) (Bc) (mV (yM (fC (.int 1)))))) [1] gP (cJ 2 uD (aB (aD 0) (aB (aD 1) aL)))) aL)))
def rJ:List D→Option D:=oH 2 2 (WN)
abbrev Js:AO:=top 36
def WQ:GS:=aY (qU (Em (fB (cJ 1 Jr (aB (aD 0) aL)))) (eY (fC (.bl NV))) fM)
 (aY (cT 1 (cJ 1 lN (aB (aD 0) aL)))
 (eY (qL (fL Sg (aB (eE (kO (aD 0)) [1] gP (cJ 2 rJ (aB (aD 0) (aB (aD 1) aL)))) aL)) (cJ 1 nA (aB (aD 0) aL)))))
def xM:List D→Option D:=oH 2 1 (WQ)
abbrev aDk:AO:=top 52
def aKy(κ:Nat→AF):GS:=aY (cT 1 (cJ 1 xH (aB (aD 0) aL)))
 (aY (cT 2 (Th (κ 1) (pP κ) (aB (aD 1) aL)))
 (aY (cT 3 (f2 sZ (fL gZ (aB (aD 1) aL)) (f2 Az (fL gZ (aB (f2 cW (aD 1) (fC (.int 0))) aL)) (fC (.int 1)))))
 (aY (cT 4 (eE (rA (aB (aD 3) aL)) [] gP (mR aL)))
 (aY (Tg 5 (fH (κ 1) "order" 1 (jY κ) (aD 2) aL []) (vA 4 (EY dC (aD 5)) (cL (f2 cW (fH (κ 1) "record_of" 2 (bC κ) (aD 2) (aB (aD 5) aL) []) (fC (.int 0))))))
 (aY (Wc [] 6 (kO (eE (kO (ao NV (aD 0) (mV (fC (.int 3))) (mV (fC (.int 123))))) [] gP (cJ 1 mY (aB (aD 0) aL)))) (aY (cT 7 (f2 rR (aD 6) (fC (.int 3))))
 (qU (fB (f2 Fv (f2 gH (aD 6) (fC (.int 3))) (fC (.int 0)))) (aY (qU (fB (f2 Fv (f2 gH (aD 7) (fC (.int 3))) (fC (.int 0)))) (uL (pO (κ 0) "carve" 2 (Ad (κ 1) "bench" dC) (rH κ) (λeF eZ=>((Be (f2 gH (f2 rR (aD 7) (fC (.int 9))) (fL gZ (aB (aD 1) aL))) (Be (f2 gH (f2 rR (aD 7) (fC (.int 3))) (fC (.int 3))) oK)) eF eZ).map (·++[])))) (uL (pO (κ 0) "carve" 2 (Ad (κ 1) "bench" dC) (rH κ) (λeF eZ=>((Be (f2 gH (f2 rR (aD 7) (fC (.int 9))) (fL gZ (aB (aD 1) aL))) oK) eF eZ).map (·++[.non])))))
 (aY (cT 8 (fH (κ 0) "stone" 1 (rG κ) (tG (fP (κ 1) "bench") (aD 2)) aL []))
 (aY (cT 9 (cJ 1 vN (aB (aD 8) aL)))
 (aY (qU (fOr (fB (f2 (Ja NV) (aD 9) (fC .non))) (fOr (Em (fB (cJ 3 uB (aB (aD 8) (aB (aD 9) (aB (aD 4) aL)))))) (fB (f2 (dIs NU) (cJ 1 xM (aB (aD 8) aL)) (fC (.bl NU)))))) (eY (fC (.bl NV))) fM)
 (qU (fB (f2 ak (fH (κ 1) "order" 1 (jY κ) (Th (κ 1) (pP κ) (aB (aD 8) aL)) aL []) (aD 9))) (eY (fC (.bl NV))) fM))))) (aY (cT 10 (mR aL))
 (aY (uL (TQ (.ch 2::.ch 10::.rd (aD 7)::[]) (Bv κ)))
 (Yh [10] [11,12,5,13] (kO (aD 10)) (qU (fB (f2 Fv (aD 11) (fC (.str "in")))) (vA 4 (EY dC (aD 5)) (cL (f2 cW (fH (κ 1) "record_of" 2 (bC κ) (aD 2) (aB (aD 5) aL) []) (fC (.int 0))))) fM)))))))
 (eY (fC (.bl NU))))))))
def aIH(κ:Nat→AF):List D→Option D:=oH 14 1 (aKy κ)
section
variable(P:AQ)(w:AS)(mg:Str→Option AE)(base:Heap)
def aA9:bA ["script","k"] ["script","k"] (aK Ud):=by walk_at "fs"
def jy(R:Raw K mg "_law_cell" Ud)(dZ:mg "len"=sx):oF P w K mg base "_law_cell" 1 2 (gW K 2 mX):=by
 refine R.rZ aA9 ?_ ?_;walk_at "2";exact⟨_,aO (iM (dB Hs iJ (aH (pv 1)) (XN.r (dD dJ (dM U) U dZ E4 (aF (aH (pv 0)) aP))) (cI _)) (aX (bR (XR.n (bK (aH (pv 0)) (aH (pv 1)) (λ_ _=>rfl))))) fZ)
  (aX (bR aM))⟩
def Um:bA ["script","head"] ["script"] (aK Lw):=by walk_at "fs"
def WR(R:Raw K mg "_law_sizes" Lw)(rK:oF P w K mg base "_law_cell" 1 2 (gW K 2 mX)):oF P w K mg base "_law_sizes" 2 1 (gW K 1 xF):=by
 refine R.rZ Um ?_ ?_;walk_at "1";exact⟨_,aO (bO (i:=1) (cC rK (by walk_at "h") U (aF (aH (pv 0)) (aF (XN.r (aM)) aP))) (λh=>bL Um.nd U (by walk_at "l") h))
  (aO (iM (dB (or_eq cY U) sW (XN.r (bV (XN.r (mU (aH (pv 1)) (XN.r (aM)))) (XN.r (aM)))) (XN.r (aM)) (cI _)) (aX (bR (rT (bN (cN (XN.r (aM)) (XN.r (bV (aH (pv 1)) (XN.r (aM))))) (bN (cN (XN.r (aM)) (XN.r (bV (XN.r (mU (aH (pv 1)) (XN.r (aM)))) (XN.r (aM))))) jJ))))) fZ)
  (aX (bR (rT (bN (cN (XN.r (aM)) (XN.r (bV (aH (pv 1)) (XN.r (aM))))) (bN (cN (XN.r (aM)) (XN.r (bV (XN.r (mU (aH (pv 1)) (XN.r (aM)))) (XN.r (aM))))) jJ))))))⟩
def Uo:bA ["cell","k","number"] ["cell","k"] (aK Lx):=by walk_at "fs"
def WT(R:Raw K mg "_law_mixed" Lx):oF P w K mg base "_law_mixed" 1 2 (gW K 2 mD):=by
 refine R.rZ Uo ?_ ?_;walk_at "2";exact⟨_,aO (bO (i:=2) (bV (XN.r (mG (XN.r (cN (XN.r (bV (aH (pv 0)) (XN.r (aM)))) (XN.r (aM)))) (XN.r (cN (XN.r (aM)) (XN.r (mG (XN.r (mG (XN.r (aM)) (aH (pv 1)))) (aH (pv 1)))))))) (XN.r (aM))) (λh=>bL Uo.nd U (by walk_at "l") h))
  (aX (bR (bV (XN.r (mG (aH (pv 2)) (aH (pv 2)))) (XN.r (aM)))))⟩
def pQ:bA ["cell","k","key","following","pick","now","age"] ["cell","k","key","following"] (aK Gn):=by walk_at "fs"
def IV(R:Raw K mg "_law_record" Gn)(nT:oF P w K mg base "_law_mixed" 1 2 (gW K 2 mD))(aII:mg "abs"=sx):oF P w K mg base "_law_record" 2 4 (gW K 4 qO):=by
 refine R.rZ pQ ?_ ?_;walk_at "4";exact⟨_,aO (bO (i:=4) (cC nT (by walk_at "h") U (aF (aH (pv 0)) (aF (XN.r (mG (XN.r (aM)) (aH (pv 1)))) aP))) (λh=>bL pQ.nd U (by walk_at "l") h))
  (aO (bO (i:=5) (XR.n (bK (pJ (aF (XN.r (aM)) (aF (XN.r (aM)) (aF (XN.r (aM)) (aF (XN.r (mG (XN.r (cC nT (by walk_at "h") U (aF (aH (pv 0)) (aF (XN.r (cN (XN.r (mG (XN.r (aM)) (aH (pv 1)))) (XN.r (aM)))) aP)))) (XN.r (wA (XN.r (aM)) (XN.r (aM)))))) (aF (XN.r (qW (XN.r (aM)))) aP)))))) (XN.r (bV (aH (pv 4)) (XN.r (aM)))) (λ_ _=>rfl))) (λh=>bL pQ.nd U (by walk_at "l") h))
  (aO (bO (i:=6) aM (λh=>bL pQ.nd U (by walk_at "l") h))
  (aO (iM (dB (or_eq cY U) sW (XN.r (bV (XN.r (mU (aH (pv 4)) (XN.r (aM)))) (XN.r (aM)))) (XN.r (aM)) (cI _)) (aX (bO (i:=6) (cN (XN.r (aM)) (XN.r (bV (XN.r (mU (aH (pv 4)) (XN.r (aM)))) (XN.r (aM))))) (λh=>bL pQ.nd U (by walk_at "l") h))) fZ)
  (aO (iM (dB (or_eq cY U) sW (aH (pv 6)) (XN.r (aM)) (cI _)) (aX (bO (i:=5) (dD aIu aIv U aII PyProof.Rows.boot_abs (aF (aH (pv 5)) aP)) (λh=>bL pQ.nd U (by walk_at "l") h))) fZ)
  (aX (bR (rT (bN (XR.n (aH (pv 2))) (bN (XR.n (aH (pv 3))) (bN (XR.n (bK (pJ (aF (XN.r (qW (XN.r (aM)))) (aF (XN.r (aM)) (aF (XN.r (aM)) (aF (aH (pv 4)) aP))))) (XN.r (bV (XN.r (mU (aH (pv 4)) (XN.r (aM)))) (XN.r (aM)))) (λ_ _=>rfl))) (bN (XR.n (aH (pv 5))) (bN (XR.n (aH (pv 6))) jJ))))))))))))⟩
def fW:bA ["script","panes","rows","spare","boxes","k","stone","cell","box","key","pane"] ["script"] (aK xG):=by walk_at "fs"
def WW(R:Raw K mg "_law_built" xG)(Mh:oF P w K mg base "_law_sizes" 2 1 (gW K 1 xF))(rK:oF P w K mg base "_law_cell" 1 2 (gW K 2 mX))(nT:oF P w K mg base "_law_mixed" 1 2 (gW K 2 mD))(zJ:oF P w K mg base "_law_record" 2 4 (gW K 4 qO))(kI:mg "list"=sx)(lF:mg "range"=sx)(dZ:mg "len"=sx):oF P w K mg base "_law_built" 3 1 (gW K 1 xH):=by
 refine R.rZ fW ?_ ?_;walk_at "1";exact⟨_,aO (aAL (is:=[1,2]) (n:=2) (cC Mh (by walk_at "h") U (aF (aH (pv 0)) aP)) (λh=>Ks h (Zz U (oW (fJ (i:=1) fW.nd U (by walk_at "l")) (oW (fJ (i:=2) fW.nd U (by walk_at "l")) (Pa))))))
  (aO (bO (i:=3) (aA4 (aF (XN.r (aM)) (aF (XN.r (mG (aH (pv 1)) (aH (pv 2)))) aP)) U kI K2 U lF PyProof.Rows.boot_range) (λh=>bL fW.nd U (by walk_at "l") h))
  (aO (bO (i:=4) (yI (bN aM jJ)) (λh=>bL fW.nd U (by walk_at "l") h))
  (aO (Px Ap U (Dl U lF (aF (XN.r (bV (XN.r (cC rK (by walk_at "h") U (aF (aH (pv 0)) (aF (XN.r (aM)) aP)))) (XN.r (mG (aH (pv 1)) (aH (pv 2)))))) aP)) (fJ (i:=5) fW.nd U (by walk_at "l")) (aX (aAM (i:=4) (j:=3) (XN.r (bV (XN.r (cC nT (by walk_at "h") U (aF (XN.r (cC rK (by walk_at "h") U (aF (aH (pv 0)) (aF (XN.r (aM)) aP)))) (aF (aH (pv 5)) aP)))) (XN.r (dD dJ (dM U) U dZ E4 (aF (aH (pv 3)) aP))))) (λh=>kY (qY F4 J0 J1 jN (pv 4) (cZ (qY F4 PySem.F.slot_list_pop PySem.F.type_list_pop aB0 (pv 3) (cZ h jE)) jE))))))
  (aO (Pu (i:=6) ["pane","rows"] [2] U (.at (aK xG) ["script","panes","rows","spare","boxes","k","stone","cell","box","key","pane"] (by walk_at "k")) fW.nd U (by walk_at "l") (Dj U lF (aF (aH (pv 1)) aP)) (gQ (by walk_at "k") U U) (λ_ _ _ _ _=>jC) (λ_ _ _ _ _=>jV ["place"] [] U (lC.of (by show uo (qZ _ (aK xG)) _ ["pane","rows"] _ _ _=NU;decide +kernel)) (Dj U lF (aF (aH (pv 1)) aP)) (gQ (by walk_at "k") U U) (λ_ _ _ _ _=>jC) (λ_ _ _ _ _=>rT (bN aM (bN aM (bN (qW (XN.r (aM))) (bN (qW (XN.r (aM))) (bN aM jJ))))))))
  (aO (bO (i:=7) (cC rK (by walk_at "h") U (aF (aH (pv 0)) (aF (XN.r (aM)) aP))) (λh=>bL fW.nd U (by walk_at "l") h))
  (aO (DW [3] Ap U (jK (aH (pv 3))) (fJ (i:=8) fW.nd U (by walk_at "l")) (aX (vq (Su (iT (pv 6)) (XN.r (bV (aH (pv 8)) (aH (pv 1)))) (λ_ _=>rfl)) (XN.r (mU (aH (pv 8)) (aH (pv 1)))) (cC zJ (by walk_at "h") U (aF (aH (pv 7)) (aF (aH (pv 8)) (aF (XN.r (bV (aH (pv 7)) (XN.r (wA (XN.r (aM)) (XN.r (aM)))))) (aF (XN.r (bV (XN.r (mG (aH (pv 8)) (aH (pv 8)))) (XN.r (mG (aH (pv 1)) (aH (pv 2)))))) aP))))) (λa b c=>Ks c (BJ a b set_list)))))
  (aO (bO (i:=9) (bV (aH (pv 7)) (XN.r (wA (XN.r (aM)) (XN.r (aM))))) (λh=>bL fW.nd U (by walk_at "l") h))
  (aO (Px Ap U (Dl U lF (aF (XN.r (dD dJ (dM U) U dZ E4 (aF (aH (pv 4)) aP))) aP)) (fJ (i:=5) fW.nd U (by walk_at "l")) (aO (bO (i:=8) (XR.n (bK (aH (pv 4)) (aH (pv 5)) (λ_ _=>rfl))) (λh=>bL fW.nd U (by walk_at "l") h))
  (aO (vq (Su (iT (pv 6)) (XN.r (bV (aH (pv 8)) (aH (pv 1)))) (λ_ _=>rfl)) (XN.r (mU (aH (pv 8)) (aH (pv 1)))) (cC zJ (by walk_at "h") U (aF (aH (pv 7)) (aF (XN.r (cN (aH (pv 5)) (XN.r (aM)))) (aF (aH (pv 9)) (aF (bK (XN.r (cN (aH (pv 4)) (pJ (aF (XN.r (aM)) aP)))) (XN.r (cN (aH (pv 5)) (XN.r (aM)))) (λ_ _=>rfl)) aP))))) (λa b c=>Ks c (BJ a b set_list)))
  (aX (bO (i:=9) (cN (XN.r (cN (aH (pv 9)) (XN.r (aM)))) (XN.r (mG (XN.r (bV (XN.r (cC nT (by walk_at "h") U (aF (aH (pv 7)) (aF (XN.r (cN (aH (pv 5)) (XN.r (aM)))) aP)))) (XN.r (aM)))) (bK (pJ (aF (XN.r (aM)) (aF (XN.r (wA (XN.r (aM)) (XN.r (aM)))) aP))) (XN.r (bV (aH (pv 7)) (XN.r (aM)))) (λ_ _=>rfl))))) (λh=>bL fW.nd U (by walk_at "l") h))))))
  (aO (Px Ap U (Dl U lF (aF (aH (pv 1)) aP)) (fJ (i:=10) fW.nd U (by walk_at "l")) (aX (Sv (Su (iT (pv 6)) (aH (pv 10)) (λ_ _=>rfl)) (rT (bN (bV (XN.r (cC nT (by walk_at "h") U (aF (aH (pv 7)) (aF (XN.r (cN (aH (pv 10)) (XN.r (aM)))) aP)))) (XN.r (aM))) jJ)) (λa b=>kY (qY F4 J0 J1 jN a (cZ b jE))))))
  (aX (DR (pv 6))))))))))))⟩
def WX:bA ["self","stone"] ["self","stone"] (aK uM):=by walk_at "fs"
def IW(R:RP K mg "Bench" (κ 0) "Bench.__init__" uM)(bG:kW K (κ 0) lA)(kI:mg "list"=sx):aAX P w K mg base "Bench" (κ 0) 1 2 (spS K 2 (uN κ)):=by
 refine R.aKe WX ?_ ?_;walk_at "2";exact⟨_,aO (pD bG (by walk_at "k") (iT (pv 0)) (jV ["pane"] [] U (.at (aK uM) ["self","stone"] (by walk_at "k")) (jK (aH (pv 1))) (gQ (by walk_at "k") U U) (λ_ _ _ _ _=>jC) (λ_ _ _ _ _=>Nu Ig (Ih U) U kI K2 (aF (aH (pv 0)) aP))))
  (aO (pD bG (by walk_at "k") (iT (pv 0)) (yI jJ))
  (aO (pD bG (by walk_at "k") (iT (pv 0)) (aCT))
  (aO (pD bG (by walk_at "k") (iT (pv 0)) (Di))
  (aX (pD bG (by walk_at "k") (iT (pv 0)) (jV ["pane"] [] U (.at (aK uM) ["self","stone"] (by walk_at "k")) (jK (aH (pv 1))) (gQ (by walk_at "k") U U) (λ_ _ _ _ _=>jC) (λ_ _ _ _ _=>yI jJ)))))))⟩
def aBa:bA ["stone","spot"] ["stone","spot"] (aK Uh):=by walk_at "fs"
def jz(R:Raw K mg "thing_at" Uh):oF P w K mg base "thing_at" 1 2 (gW K 2 Bo):=by refine R.rZ aBa ?_ ?_;walk_at "2";exact⟨_,aX (bR (XR.n (bK (bK (aH (pv 0)) (bK (aH (pv 1)) (XN.r (aM)) (λ_ _=>rfl)) (λ_ _=>rfl)) (bK (aH (pv 1)) (XN.r (aM)) (λ_ _=>rfl)) (λ_ _=>rfl))))⟩
def aDl:bA ["stone","box"] ["stone","box"] (aK HQ):=by walk_at "fs"
def aBb(R:Raw K mg "spot_of" HQ)(dZ:mg "len"=sx):oF P w K mg base "spot_of" 1 2 (gW K 2 yZ):=by refine R.rZ aDl ?_ ?_;walk_at "2";exact⟨_,aX (bR (rT (bN (bV (aH (pv 1)) (XN.r (dD dJ (dM U) U dZ E4 (aF (aH (pv 0)) aP)))) (bN (mU (aH (pv 1)) (XN.r (dD dJ (dM U) U dZ E4 (aF (aH (pv 0)) aP)))) jJ))))⟩
def kh:bA ["stone","box"] ["stone","box"] (aK Ly):=by walk_at "fs"
def WY(R:Raw K mg "record_at" Ly)(Ec:oF P w K mg base "spot_of" 1 2 (gW K 2 yZ))(Up:oF P w K mg base "thing_at" 1 2 (gW K 2 Bo)):oF P w K mg base "record_at" 2 2 (gW K 2 jO):=by refine R.rZ kh ?_ ?_;walk_at "2";exact⟨_,aX (bR (cC Up (by walk_at "h") U (aF (aH (pv 0)) (aF (XN.r (cC Ec (by walk_at "h") U (aF (aH (pv 0)) (aF (aH (pv 1)) aP)))) aP))))⟩
def zK:bA ["stone","found","box"] ["stone"] (aK Lz):=by walk_at "fs"
def XC(R:Raw K mg "string_of" Lz)(pR:oF P w K mg base "record_at" 2 2 (gW K 2 jO))(kI:mg "list"=sx)(vU:eG mg "HEAD" (0))(qJ:eG mg "NEXT" (1)):oF P w K mg base "string_of" 3 1 (gW K 1 nP):=by
 refine R.rZ zK ?_ ?_;walk_at "1";exact⟨_,aO (bO (i:=1) (Di) (λh=>bL zK.nd U (by walk_at "l") h))
  (aO (bO (i:=2) (XR.n (bK (XN.r (cC pR (by walk_at "h") U (aF (aH (pv 0)) (aF (XN.r (iC vU U)) aP)))) (XN.r (iC qJ U)) (λ_ _=>rfl))) (λh=>bL zK.nd U (by walk_at "l") h))
  (aO (aCw 400 Ap (XW.xt (Ry (dB (Xo cY U) Xn (aH (pv 2)) (XN.r (iC vU U)) (cI _)) (Ie (Xp hu (aH (pv 2)) (aH (pv 1)))))) (aO (vz (iT (pv 1)) (aH (pv 2)) (XN.r (uF)) (λa b c=>yC hu a b c U))
  (aX (bO (i:=2) (XR.n (bK (XN.r (cC pR (by walk_at "h") U (aF (aH (pv 0)) (aF (aH (pv 2)) aP)))) (XN.r (iC qJ U)) (λ_ _=>rfl))) (λh=>bL zK.nd U (by walk_at "l") h)))))
  (aX (bR (Nu QS (Av U) U kI K2 (aF (aH (pv 1)) aP))))))⟩
def XD:bA ["stone"] ["stone"] (aK Gp):=by walk_at "fs"
def JB(R:Raw K mg "many_boxes" Gp)(dZ:mg "len"=sx):oF P w K mg base "many_boxes" 1 1 (gW K 1 lN):=by refine R.rZ XD ?_ ?_;walk_at "1";exact⟨_,aX (bR (mG (XN.r (dD dJ (dM U) U dZ E4 (aF (aH (pv 0)) aP))) (XN.r (uG (XN.r (dD dJ (dM U) U dZ E4 (aF (bK (aH (pv 0)) (XN.r (aM)) (λ_ _=>rfl)) aP))) (XN.r (aM))))))⟩
def Jt:bA ["stone","tied"] ["stone"] (aK vK):=by walk_at "fs"
def Wj(R:Raw K mg "loose_boxes" vK)(nU:oF P w K mg base "string_of" 3 1 (gW K 1 nP))(lO:oF P w K mg base "many_boxes" 1 1 (gW K 1 lN))(lF:mg "range"=sx)(vU:eG mg "HEAD" (0)):oF P w K mg base "loose_boxes" 4 1 (gW K 1 rF):=by
 refine R.rZ Jt ?_ ?_;walk_at "1";exact⟨_,aO (bO (i:=1) (cC nU (by walk_at "h") U (aF (aH (pv 0)) aP)) (λh=>bL Jt.nd U (by walk_at "l") h))
  (aX (bR (jV ["box","tied"] [1] U (.at (aK vK) ["stone","tied"] (by walk_at "k")) (aJ4 (λh=>aAf U lF h) (aF (XN.r (cN (XN.r (iC vU U)) (XN.r (aM)))) (aF (XN.r (cC lO (by walk_at "h") U (aF (aH (pv 0)) aP))) aP))) (gQ (by walk_at "k") U U) (λ_ _ _ _ _=>Pq (dB (QK U) (aGq NU) (aH (pv 0)) (aH (pv 1)) (by with_unfolding_all rfl))) (λ_ _ _ _ _=>XR.n (aH (pv 0))))))⟩
def JC:bA ["self","stone"] ["self","stone"] (aK vL):=by walk_at "fs"
def Wk(R:RP K mg "Weaver" (κ 1) "Weaver.__init__" vL)(bG:kW K (κ 0) lA)(aV:kW K (κ 1) fV)(Gu:aAX P w K mg base "Bench" (κ 0) 1 2 (spS K 2 (uN κ)))(lO:oF P w K mg base "many_boxes" 1 1 (gW K 1 lN))(Ec:oF P w K mg base "spot_of" 1 2 (gW K 2 yZ))(nU:oF P w K mg base "string_of" 3 1 (gW K 1 nP))(Ca:oF P w K mg base "loose_boxes" 4 1 (gW K 1 rF))(lF:mg "range"=sx):aAX P w K mg base "Weaver" (κ 1) 5 2 (spS K 2 (pP κ)):=by
 refine R.aKe JC ?_ ?_;walk_at "2";exact⟨_,aO (pD aV (by walk_at "k") (iT (pv 0)) (FW Gu fX (by walk_at "h") U (aF (aH (pv 1)) aP)))
  (aO (pD aV (by walk_at "k") (iT (pv 0)) (jV ["box","stone"] [1] U (.at (aK vL) ["self","stone"] (by walk_at "k")) (Dj U lF (aF (XN.r (cC lO (by walk_at "h") U (aF (aH (pv 1)) aP))) aP)) (gQ (by walk_at "k") U U) (λ_ _ _ _ _=>jC) (λ_ _ _ _ _=>cC Ec (by walk_at "h") U (aF (aH (pv 1)) (aF (aH (pv 0)) aP)))))
  (aO (pD aV (by walk_at "k") (iT (pv 0)) (cC nU (by walk_at "h") U (aF (aH (pv 1)) aP)))
  (aO (pD aV (by walk_at "k") (iT (pv 0)) (cC Ca (by walk_at "h") U (aF (aH (pv 1)) aP)))
  (aO (pD aV (by walk_at "k") (iT (pv 0)) (Di))
  (aO (pD aV (by walk_at "k") (iT (pv 0)) (Di))
  (aX (pD aV (by walk_at "k") (iT (pv 0)) (Di))))))))⟩
def Wl:bA ["self"] ["self"] (aK zA):=by walk_at "fs"
def Uq(R:iB K (κ 1) "order" "Weaver.order" zA NV)(aV:kW K (κ 1) fV)(kI:mg "list"=sx):dR P w K mg base (κ 1) "order" 1 1 NV (gW K 1 (jY κ)):=by refine R.Lj Wl ?_ ?_;walk_at "1";exact⟨_,aX (bR (Nu Ig (Ih U) U kI K2 (aF (dO aV (aH (pv 0)) (by walk_at "k") U) aP)))⟩
def Oa:bA ["cell","number"] ["cell"] (aK Gr):=by walk_at "fs"
def JD(R:Raw K mg "_law_spread" Gr):oF P w K mg base "_law_spread" 1 1 (gW K 1 mY):=by
 refine R.rZ Oa ?_ ?_;walk_at "1";exact⟨_,aO (bO (i:=1) (bV (XN.r (mG (XN.r (cN (XN.r (bV (aH (pv 0)) (XN.r (aM)))) (XN.r (aM)))) (XN.r (aM)))) (XN.r (aM))) (λh=>bL Oa.nd U (by walk_at "l") h))
  (aX (bR (cN (XN.r (bV (XN.r (mG (aH (pv 1)) (aH (pv 1)))) (XN.r (aM)))) (XN.r (mG (XN.r (bV (aH (pv 0)) (XN.r (wA (XN.r (aM)) (XN.r (aM)))))) (XN.r (aM)))))))⟩
def JF:bA ["self"] ["self"] (aK vM):=by walk_at "fs"
def Wm(R:iB K (κ 0) "stone" "Bench.stone" vM NV)(bG:kW K (κ 0) lA)(kI:mg "list"=sx):dR P w K mg base (κ 0) "stone" 1 1 NV (gW K 1 (rG κ)):=by refine R.Lj JF ?_ ?_;walk_at "1";exact⟨_,aX (bR (jV ["pane"] [] U (.at (aK vM) ["self"] (by walk_at "k")) (jK (dO bG (aH (pv 0)) (by walk_at "k") U)) (gQ (by walk_at "k") U U) (λ_ _ _ _ _=>jC) (λ_ _ _ _ _=>Nu Ig (Ih U) U kI K2 (aF (aH (pv 0)) aP))))⟩
def xN:bA ["stone","many","found","box","step"] ["stone"] (aK HS):=by walk_at "fs"
def aBc(R:Raw K mg "_law_own" HS)(dZ:mg "len"=sx)(lF:mg "range"=sx)(dG:mg "isinstance"=sx)(pS:mg "int"=sx):oF P w K mg base "_law_own" 1 1 (gW K 1 vN):=by
 refine R.rZ xN ?_ ?_;walk_at "1";exact⟨_,aO (bO (i:=1) (mG (XN.r (dD dJ (dM U) U dZ E4 (aF (aH (pv 0)) aP))) (XN.r (uG (XN.r (dD dJ (dM U) U dZ E4 (aF (bK (aH (pv 0)) (XN.r (aM)) (λ_ _=>rfl)) aP))) (XN.r (aM))))) (λh=>bL xN.nd U (by walk_at "l") h))
  (aO (bO (i:=2) (yI jJ) (λh=>bL xN.nd U (by walk_at "l") h))
  (aO (bO (i:=3) (XR.n (bK (bK (bK (aH (pv 0)) (XN.r (aM)) (λ_ _=>rfl)) (XN.r (aM)) (λ_ _=>rfl)) (XN.r (aM)) (λ_ _=>rfl))) (λh=>bL xN.nd U (by walk_at "l") h))
  (aO (Px Ap U (Dl U lF (aF (XN.r (cN (aH (pv 1)) (XN.r (aM)))) aP)) (fJ (i:=4) xN.nd U (by walk_at "l")) (aO (iM (dB (or_eq cY U) sW (aH (pv 3)) (XN.r (aM)) (cI _)) (aX (DR (pv 2))) fZ)
  (aO (iM (XW.xt (Xq (wB (Ba (XN.r (Lg (aH (pv 3)) (Df (v:=.ty "int") U pS j4 U) U dG)))) (Xq (dB Hs iJ (aH (pv 3)) (XN.r (aM)) (cI _)) (DN (dB OJ iJ (aH (pv 3)) (aH (pv 1)) (cI _)))))) (aX (bR (yF))) fZ)
  (aO (Sv (iT (pv 2)) (XR.n (aH (pv 3))) (λa b=>kY (qY F4 J0 J1 jN a (cZ b jE))))
  (aX (bO (i:=3) (XR.n (bK (bK (bK (aH (pv 0)) (XN.r (bV (aH (pv 3)) (XN.r (dD dJ (dM U) U dZ E4 (aF (aH (pv 0)) aP))))) (λ_ _=>rfl)) (XN.r (mU (aH (pv 3)) (XN.r (dD dJ (dM U) U dZ E4 (aF (aH (pv 0)) aP))))) (λ_ _=>rfl)) (XN.r (aM)) (λ_ _=>rfl))) (λh=>bL xN.nd U (by walk_at "l") h)))))))
  (aX (bR (yF))))))⟩
def Mi:bA ["self","pane"] ["self","pane"] (aK sE):=by walk_at "fs"
def Ju(R:iB K (κ 0) "check_pane" "Bench.check_pane" sE NV)(bG:kW K (κ 0) lA)(dZ:mg "len"=sx):dR P w K mg base (κ 0) "check_pane" 1 2 NV (gW K 2 (jP κ)):=by refine R.Lj Mi ?_ ?_;walk_at "2";exact⟨_,aX (iM (wB (Iw Ht Hs iJ iJ (XN.r (aM)) (aH (pv 1)) (XN.r (dD dJ (dM U) U dZ E4 (aF (dO bG (aH (pv 0)) (by walk_at "k") U) aP))))) (aX (FQ)) fZ)⟩
def Jv:bA ["self","pane","place"] ["self","pane","place"] (aK qP):=by walk_at "fs"
def Gv(R:iB K (κ 0) "check_place" "Bench.check_place" qP NV)(bG:kW K (κ 0) lA)(jR:dR P w K mg base (κ 0) "check_pane" 1 2 NV (gW K 2 (jP κ)))(dZ:mg "len"=sx):dR P w K mg base (κ 0) "check_place" 2 3 NV (gW K 3 (iU κ)):=by
 refine R.Lj Jv ?_ ?_;walk_at "3";exact⟨_,aO (Dr (XN.r (fQ jR bG (by walk_at "h") (aH (pv 0)) (aF (aH (pv 1)) aP))))
  (aX (iM (wB (Iw Ht Hs iJ iJ (XN.r (aM)) (aH (pv 2)) (XN.r (dD dJ (dM U) U dZ E4 (aF (bK (dO bG (aH (pv 0)) (by walk_at "k") U) (aH (pv 1)) (λ_ _=>rfl)) aP))))) (aX (FQ)) fZ))⟩
def XF:bA ["self","pane","place"] ["self","pane","place"] (aK Gs):=by walk_at "fs"
def JG(R:iB K (κ 0) "seen" "Bench.seen" Gs NV)(bG:kW K (κ 0) lA)(iV:dR P w K mg base (κ 0) "check_place" 2 3 NV (gW K 3 (iU κ)))(Mj:eG mg "THING" (2)):dR P w K mg base (κ 0) "seen" 3 3 NV (gW K 3 (uO κ)):=by
 refine R.Lj XF ?_ ?_;walk_at "3";exact⟨_,aO (Dr (XN.r (fQ iV bG (by walk_at "h") (aH (pv 0)) (aF (aH (pv 1)) (aF (aH (pv 2)) aP)))))
  (aO (iM (xu hu (Ti (aF (aH (pv 1)) (aF (aH (pv 2)) aP))) (dO bG (aH (pv 0)) (by walk_at "k") U)) (aX (bR (XR.n (bK (bK (dO bG (aH (pv 0)) (by walk_at "k") U) (XN.r (RZ hu (dO bG (aH (pv 0)) (by walk_at "k") U) (Ti (aF (aH (pv 1)) (aF (aH (pv 2)) aP))) (λ_ _=>rfl))) (λ_ _=>rfl)) (XN.r (iC Mj U)) (λ_ _=>rfl))))) fZ)
  (aX (bR (XR.n (bK (bK (dO bG (aH (pv 0)) (by walk_at "k") U) (aH (pv 1)) (λ_ _=>rfl)) (aH (pv 2)) (λ_ _=>rfl))))))⟩
def xO:bA ["self","box","spot"] ["self","box"] (aK sG):=by walk_at "fs"
def Jw(R:iB K (κ 1) "record_of" "Weaver.record_of" sG NV)(aV:kW K (κ 1) fV)(bG:kW K (κ 0) lA)(Gw:dR P w K mg base (κ 0) "seen" 3 3 NV (gW K 3 (uO κ))):dR P w K mg base (κ 1) "record_of" 4 2 NV (gW K 2 (bC κ)):=by
 refine R.Lj xO ?_ ?_;walk_at "2";exact⟨_,aO (bO (i:=2) (XR.n (bK (dO aV (aH (pv 0)) (by walk_at "k") U) (aH (pv 1)) (λ_ _=>rfl))) (λh=>bL xO.nd U (by walk_at "l") h))
  (aX (bR (fQ Gw bG (by walk_at "h") (dO aV (aH (pv 0)) (by walk_at "k") U) (aF (bK (aH (pv 2)) (XN.r (aM)) (λ_ _=>rfl)) (aF (bK (aH (pv 2)) (XN.r (aM)) (λ_ _=>rfl)) aP)))))⟩
def Gx:bA ["self","number"] ["self","number"] (aK qF):=by walk_at "fs"
def Er(R:iB K (κ 0) "check_change" "Bench.check_change" qF NV)(bG:kW K (κ 0) lA)(dZ:mg "len"=sx):dR P w K mg base (κ 0) "check_change" 1 2 NV (gW K 2 (iG κ)):=by refine R.Lj Gx ?_ ?_;walk_at "2";exact⟨_,aX (iM (wB (Iw Ht Hs iJ iJ (XN.r (aM)) (aH (pv 1)) (XN.r (dD dJ (dM U) U dZ E4 (aF (dO bG (aH (pv 0)) (by walk_at "k") U) aP))))) (aX (FQ)) fZ)⟩
def zL:bA ["self","pane","place","thing","needs","needed","need","number"] ["self","pane","place","thing","needs"] (aK Ma):=by walk_at "fs"
def XH(R:iB K (κ 0) "put" "Bench.put" Ma NU)(bG:kW K (κ 0) lA)(iV:dR P w K mg base (κ 0) "check_place" 2 3 NV (gW K 3 (iU κ)))(iH:dR P w K mg base (κ 0) "check_change" 1 2 NV (gW K 2 (iG κ)))(kI:mg "list"=sx)(dZ:mg "len"=sx)(tU:mg "sorted"=sx)(aIJ:mg "set"=sx)(Ml:mg "tuple"=sx):dR P w K mg base (κ 0) "put" 3 5 NU (spS K 5 (Ea κ)):=by
 refine R.FZ zL ?_ ?_;walk_at "d5";exact⟨_,aO (Dr (XN.r (fQ iV bG (by walk_at "h") (aH (pv 0)) (aF (aH (pv 1)) (aF (aH (pv 2)) aP)))))
  (aO (bO (i:=5) (aGv (dB bh jh (aH (pv 4)) (XN.r (yF)) (cI _)) (yI jJ) (Nu Ig (Ih U) U kI K2 (aF (aH (pv 4)) aP))) (λh=>bL zL.nd U (by walk_at "l") h))
  (aO (GC Ap U (pv 5) (fJ (i:=6) zL.nd U (by walk_at "l")) (aX (Dr (XN.r (fQ iH bG (by walk_at "h") (aH (pv 0)) (aF (aH (pv 6)) aP))))))
  (aO (iM (xu hu (Ti (aF (aH (pv 1)) (aF (aH (pv 2)) aP))) (dO bG (aH (pv 0)) (by walk_at "k") U)) (aX (Sv (iT (pv 5)) (RZ hu (dO bG (aH (pv 0)) (by walk_at "k") U) (Ti (aF (aH (pv 1)) (aF (aH (pv 2)) aP))) (λ_ _=>rfl)) (λa b=>kY (qY F4 J0 J1 jN a (cZ b jE))))) fZ)
  (aO (bO (i:=7) (dD dJ (dM U) U dZ E4 (aF (dO bG (aH (pv 0)) (by walk_at "k") U) aP)) (λh=>bL zL.nd U (by walk_at "l") h))
  (aO (Qa (oJ bG (iT (pv 0)) (by walk_at "k") U) (rT (bN (XR.n (aH (pv 1))) (bN (XR.n (aH (pv 2))) (bN (XR.n (aH (pv 3))) (bN (Nu aCn (aCo U) U Ml c8 (aF (XN.r (aFh (aH (pv 5)) U tU U7 U aIJ PyProof.Rows.boot_set)) aP)) jJ))))) (λa b=>kY (qY F4 J0 J1 jN a (cZ b jE))))
  (aO (aCU (oJ bG (iT (pv 0)) (by walk_at "k") U) (Ti (aF (aH (pv 1)) (aF (aH (pv 2)) aP))) (aH (pv 7)) (λa b c=>yC hu a b c U))
  (aO (Qa (Su (oJ bG (iT (pv 0)) (by walk_at "k") U) (aH (pv 1)) (λ_ _=>rfl)) (XR.n (aH (pv 7))) (λa b=>kY (qY F4 J0 J1 jN a (cZ b jE))))
  (aX (Iv (pv 7))))))))))⟩
def aFL:bA ["numbers"] ["numbers"] (aK HW):=by walk_at "fs"
def aDm(R:Raw K mg "known" HW):oF P w K mg base "known" 1 1 (gW K 1 HX):=by refine R.rZ aFL ?_ ?_;walk_at "1";exact⟨_,aX (bR (jV ["number"] [] U (.at (aK HW) ["numbers"] (by walk_at "k")) (jK (aH (pv 0))) (gQ (by walk_at "k") U U) (λ_ _ _ _ _=>Pq (dB BL Ln (aH (pv 0)) (XN.r (yF)) (cI _))) (λ_ _ _ _ _=>XR.n (aH (pv 0)))))⟩
def wH:bA ["self","box","record","needed","spot","number"] ["self","box","record","needed"] (aK zB):=by walk_at "fs"
def Ur(R:iB K (κ 1) "write" "Weaver.write" zB NV)(aV:kW K (κ 1) fV)(bG:kW K (κ 0) lA)(Mm:dR P w K mg base (κ 0) "put" 3 5 NU (spS K 5 (Ea κ)))(kj:oF P w K mg base "known" 1 1 (gW K 1 HX)):dR P w K mg base (κ 1) "write" 4 4 NV (spS K 4 (nQ κ)):=by
 refine R.FZ wH ?_ ?_;walk_at "4";exact⟨_,aO (bO (i:=4) (XR.n (bK (dO aV (aH (pv 0)) (by walk_at "k") U) (aH (pv 1)) (λ_ _=>rfl))) (λh=>bL wH.nd U (by walk_at "l") h))
  (aO (Py (i:=5) (tH Mm bG fX (by walk_at "h") (oJ aV (iT (pv 0)) (by walk_at "k") U) (jD (bK (aH (pv 4)) (XN.r (aM)) (λ_ _=>rfl)) (jD (bK (aH (pv 4)) (XN.r (aM)) (λ_ _=>rfl)) (jD (aH (pv 2)) (jD (XN.r (cC kj (by walk_at "h") U (aF (aH (pv 3)) aP))) nG))))) (λh=>bL wH.nd U (by walk_at "l") h))
  (aO (Iz (oJ aV (iT (pv 0)) (by walk_at "k") U) (aH (pv 1)) (aH (pv 5)) (λa b c=>yC hu a b c U))
  (aX (Iv (pv 5)))))⟩
def Mq:bA ["self","box"] ["self","box"] (aK sH):=by walk_at "fs"
def Jx(R:iB K (κ 1) "coming_in" "Weaver.coming_in" sH NV)(aV:kW K (κ 1) fV):dR P w K mg base (κ 1) "coming_in" 1 2 NV (gW K 2 (pG κ)):=by refine R.Lj Mq ?_ ?_;walk_at "2";exact⟨_,aX (bR (Tq hu (dO aV (aH (pv 0)) (by walk_at "k") U) (aH (pv 1)) ⟨U,U,U,U⟩))⟩
def Jy:bA ["self","box","record","needed"] ["self","box","record","needed"] (aK qQ):=by walk_at "fs"
def Gy(R:iB K (κ 1) "write_tied" "Weaver.write_tied" qQ NV)(aV:kW K (κ 1) fV)(nW:dR P w K mg base (κ 1) "write" 4 4 NV (spS K 4 (nQ κ)))(sO:dR P w K mg base (κ 1) "coming_in" 1 2 NV (gW K 2 (pG κ))):dR P w K mg base (κ 1) "write_tied" 5 4 NV (spS K 4 (gO κ)):=by refine R.FZ Jy ?_ ?_;walk_at "4";exact⟨_,aX (Pz (tH nW aV fX (by walk_at "h") (iT (pv 0)) (jD (aH (pv 1)) (jD (aH (pv 2)) (RM (cN (pJ (aF (XN.r (fQ sO aV (by walk_at "h") (aH (pv 0)) (aF (aH (pv 1)) aP))) aP)) (aH (pv 3))) nG)))))⟩
def nC:bA ["self","needs","further","need"] ["self","needs"] (aK oO):=by walk_at "fs"
def Af(R:iB K (κ 1) "further_needs" "Weaver.further_needs" oO NV)(bG:kW K (κ 0) lA)(aV:kW K (κ 1) fV)(iH:dR P w K mg base (κ 0) "check_change" 1 2 NV (gW K 2 (iG κ)))(kI:mg "list"=sx):dR P w K mg base (κ 1) "further_needs" 2 2 NV (gW K 2 (cG κ)):=by
 refine R.Lj nC ?_ ?_;walk_at "2";exact⟨_,aO (bO (i:=2) (aGv (dB bh jh (aH (pv 1)) (XN.r (yF)) (cI _)) (yI jJ) (Nu Ig (Ih U) U kI K2 (aF (aH (pv 1)) aP))) (λh=>bL nC.nd U (by walk_at "l") h))
  (aO (GC Ap U (pv 2) (fJ (i:=3) nC.nd U (by walk_at "l")) (aX (Dr (XN.r (fQ iH bG (by walk_at "h") (dO aV (aH (pv 0)) (by walk_at "k") U) (aF (aH (pv 3)) aP))))))
  (aX (DR (pv 2))))⟩
def zY:bA ["self","box","was","now","age","needs","record"] ["self","box","was","now","age","needs"] (aK uP):=by walk_at "fs"
def Mr(R:iB K (κ 1) "rewrite" "Weaver.rewrite" uP NU)(aV:kW K (κ 1) fV)(bH:dR P w K mg base (κ 1) "record_of" 4 2 NV (gW K 2 (bC κ)))(iW:dR P w K mg base (κ 1) "write_tied" 5 4 NV (spS K 4 (gO κ)))(cH:dR P w K mg base (κ 1) "further_needs" 2 2 NV (gW K 2 (cG κ)))(Ms:eG mg "KEY" (0))(qJ:eG mg "NEXT" (1)):dR P w K mg base (κ 1) "rewrite" 6 6 NU (spS K 6 (qG κ)):=by
 refine R.FZ zY ?_ ?_;walk_at "d6";exact⟨_,aO (bO (i:=6) (fQ bH aV (by walk_at "h") (aH (pv 0)) (aF (aH (pv 1)) aP)) (λh=>bL zY.nd U (by walk_at "l") h))
  (aX (Pz (tH iW aV fX (by walk_at "h") (iT (pv 0)) (jD (aH (pv 1)) (jD (XN.r (rT (bN (XR.n (bK (aH (pv 6)) (XN.r (iC Ms U)) (λ_ _=>rfl))) (bN (XR.n (bK (aH (pv 6)) (XN.r (iC qJ U)) (λ_ _=>rfl))) (bN (XR.n (aH (pv 2))) (bN (XR.n (aH (pv 3))) (bN (XR.n (aH (pv 4))) jJ))))))) (RM (fQ cH aV (by walk_at "h") (aH (pv 0)) (aF (aH (pv 5)) aP)) nG))))))⟩
def Mt:bA ["self","place"] ["self","place"] (aK sI):=by walk_at "fs"
def Jz(R:iB K (κ 1) "box_ahead" "Weaver.box_ahead" sI NV)(aV:kW K (κ 1) fV)(vU:eG mg "HEAD" (0)):dR P w K mg base (κ 1) "box_ahead" 1 2 NV (gW K 2 (jQ κ)):=by refine R.Lj Mt ?_ ?_;walk_at "2";exact⟨_,aX (bR (XR.n (bK (XN.r (cN (pJ (aF (XN.r (iC vU U)) aP)) (dO aV (aH (pv 0)) (by walk_at "k") U))) (aH (pv 1)) (λ_ _=>rfl))))⟩
def Ka:bA ["self","box","following","needed","record"] ["self","box","following","needed"] (aK Br):=by walk_at "fs"
def Wn(R:iB K (κ 1) "link" "Weaver.link" Br NV)(aV:kW K (κ 1) fV)(bH:dR P w K mg base (κ 1) "record_of" 4 2 NV (gW K 2 (bC κ)))(iW:dR P w K mg base (κ 1) "write_tied" 5 4 NV (spS K 4 (gO κ)))(Ms:eG mg "KEY" (0))(pT:eG mg "WAS" (2))(JH:eG mg "NOW" (3))(JK:eG mg "AGE" (4)):dR P w K mg base (κ 1) "link" 6 4 NV (spS K 4 (mZ κ)):=by
 refine R.FZ Ka ?_ ?_;walk_at "4";exact⟨_,aO (bO (i:=4) (fQ bH aV (by walk_at "h") (aH (pv 0)) (aF (aH (pv 1)) aP)) (λh=>bL Ka.nd U (by walk_at "l") h))
  (aX (Pz (tH iW aV fX (by walk_at "h") (iT (pv 0)) (jD (aH (pv 1)) (jD (XN.r (rT (bN (XR.n (bK (aH (pv 4)) (XN.r (iC Ms U)) (λ_ _=>rfl))) (bN (XR.n (aH (pv 2))) (bN (XR.n (bK (aH (pv 4)) (XN.r (iC pT U)) (λ_ _=>rfl))) (bN (XR.n (bK (aH (pv 4)) (XN.r (iC JH U)) (λ_ _=>rfl))) (bN (XR.n (bK (aH (pv 4)) (XN.r (iC JK U)) (λ_ _=>rfl))) jJ))))))) (jD (aH (pv 3)) nG))))))⟩
def Gz:bA ["self","box"] ["self","box"] (aK qH):=by walk_at "fs"
def Es(R:iB K (κ 1) "last_change" "Weaver.last_change" qH NV)(aV:kW K (κ 1) fV):dR P w K mg base (κ 1) "last_change" 1 2 NV (gW K 2 (mL κ)):=by refine R.Lj Gz ?_ ?_;walk_at "2";exact⟨_,aX (bR (Tq hu (dO aV (aH (pv 0)) (by walk_at "k") U) (aH (pv 1)) ⟨U,U,U,U⟩))⟩
def qX:bA ["self","box","needs","ahead","needed","going"] ["self","box","needs"] (aK zF):=by walk_at "fs"
def Us(R:iB K (κ 1) "leave" "Weaver.leave" zF NU)(aV:kW K (κ 1) fV)(jT:dR P w K mg base (κ 1) "box_ahead" 1 2 NV (gW K 2 (jQ κ)))(qK:dR P w K mg base (κ 1) "last_change" 1 2 NV (gW K 2 (mL κ)))(cH:dR P w K mg base (κ 1) "further_needs" 2 2 NV (gW K 2 (cG κ)))(pU:dR P w K mg base (κ 1) "link" 6 4 NV (spS K 4 (mZ κ)))(bH:dR P w K mg base (κ 1) "record_of" 4 2 NV (gW K 2 (bC κ)))(qJ:eG mg "NEXT" (1)):dR P w K mg base (κ 1) "leave" 7 3 NU (spS K 3 (nR κ)):=by
 refine R.FZ qX ?_ ?_;walk_at "d3";exact⟨_,aO (bO (i:=3) (fQ jT aV (by walk_at "h") (aH (pv 0)) (aF (XN.r (TY (dO aV (aH (pv 0)) (by walk_at "k") U) (aH (pv 1)) (λa b=>qY F4 c9 d6 TX a (cZ b jE)))) aP)) (λh=>bL qX.nd U (by walk_at "l") h))
  (aO (bO (i:=4) (cN (pJ (aF (XN.r (fQ qK aV (by walk_at "h") (aH (pv 0)) (aF (aH (pv 1)) aP))) aP)) (XN.r (fQ cH aV (by walk_at "h") (aH (pv 0)) (aF (aH (pv 2)) aP)))) (λh=>bL qX.nd U (by walk_at "l") h))
  (aO (Py (i:=5) (tH pU aV fX (by walk_at "h") (iT (pv 0)) (jD (aH (pv 3)) (RM (XR.n (bK (XN.r (fQ bH aV (by walk_at "h") (aH (pv 0)) (aF (aH (pv 1)) aP))) (XN.r (iC qJ U)) (λ_ _=>rfl))) (jD (aH (pv 4)) nG)))) (λh=>bL qX.nd U (by walk_at "l") h))
  (aO (yf (oJ aV (iT (pv 0)) (by walk_at "k") U) (aH (pv 1)) (λa b=>kY (qY F4 b6 b7 Yg a (cZ b jE))))
  (aO (Qa (oJ aV (iT (pv 0)) (by walk_at "k") U) (XR.n (aH (pv 1))) (λa b=>kY (qY F4 J0 J1 jN a (cZ b jE))))
  (aO (Iz (oJ aV (iT (pv 0)) (by walk_at "k") U) (aH (pv 1)) (aH (pv 5)) (λa b c=>yC hu a b c U))
  (aX (Iv (pv 5))))))))⟩
def JL:bA ["self"] ["self"] (aK Bu):=by walk_at "fs"
def Wo(R:iB K (κ 1) "free" "Weaver.free" Bu NV)(aV:kW K (κ 1) fV)(tU:mg "sorted"=sx):dR P w K mg base (κ 1) "free" 1 1 NV (gW K 1 (vP κ)):=by refine R.Lj JL ?_ ?_;walk_at "1";exact⟨_,aX (bR (dD Xv (Xw U) U tU U7 (aF (dO aV (aH (pv 0)) (by walk_at "k") U) aP)))⟩
def aDn:bA ["keys","at","cell"] ["keys","at","cell"] (aK HY):=by walk_at "fs"
def aBf(R:Raw K mg "_law_key" HY)(dZ:mg "len"=sx):oF P w K mg base "_law_key" 1 3 (gW K 3 Jl):=by
 refine R.rZ aDn ?_ ?_;walk_at "3";exact⟨_,aO (iM (dB (or_eq cY U) sW (aH (pv 0)) (pJ aP) (cI _)) (aX (bR (bV (aH (pv 2)) (XN.r (wA (XN.r (aM)) (XN.r (aM))))))) fZ)
  (aO (iM (dB (or_eq cY U) sW (aH (pv 1)) (XN.r (aM)) (cI _)) (aX (bR (uG (XN.r (uG (bK (aH (pv 0)) (XN.r (aM)) (λ_ _=>rfl)) (XN.r (aM)))) (XN.r (bV (aH (pv 2)) (XN.r (wA (XN.r (aM)) (XN.r (aM))))))))) fZ)
  (aO (iM (XW.xt (Ry (dB Hs iJ (aH (pv 1)) (XN.r (dD dJ (dM U) U dZ E4 (aF (aH (pv 0)) aP))) (cI _)) (Ie (dB aJF iJ (XN.r (uG (bK (aH (pv 0)) (aH (pv 1)) (λ_ _=>rfl)) (bK (aH (pv 0)) (XN.r (uG (aH (pv 1)) (XN.r (aM)))) (λ_ _=>rfl)))) (XN.r (aM)) (cI _))))) (aX (bR (cN (XN.r (cN (bK (aH (pv 0)) (XN.r (uG (aH (pv 1)) (XN.r (aM)))) (λ_ _=>rfl)) (XN.r (aM)))) (XN.r (bV (aH (pv 2)) (XN.r (uG (XN.r (uG (bK (aH (pv 0)) (aH (pv 1)) (λ_ _=>rfl)) (bK (aH (pv 0)) (XN.r (uG (aH (pv 1)) (XN.r (aM)))) (λ_ _=>rfl)))) (XN.r (aM))))))))) fZ)
  (aX (bR (cN (XN.r (cN (bK (aH (pv 0)) (XN.r (qW (XN.r (aM)))) (λ_ _=>rfl)) (XN.r (aM)))) (XN.r (bV (aH (pv 2)) (XN.r (wA (XN.r (aM)) (XN.r (aM)))))))))))⟩
def Mu:bA ["self","box"] ["self","box"] (aK sJ):=by walk_at "fs"
def Kc(R:iB K (κ 1) "going_out" "Weaver.going_out" sJ NV)(aV:kW K (κ 1) fV):dR P w K mg base (κ 1) "going_out" 1 2 NV (gW K 2 (pH κ)):=by refine R.Lj Mu ?_ ?_;walk_at "2";exact⟨_,aX (bR (Tq hu (dO aV (aH (pv 0)) (by walk_at "k") U) (aH (pv 1)) ⟨U,U,U,U⟩))⟩
def jZ:bA ["self","key","was","now","age","needs","further","place","ahead","box","filled","coming"] ["self","key","was","now","age","needs"] (aK tO):=by walk_at "fs"
def Ut(R:iB K (κ 1) "enter" "Weaver.enter" tO NU)(aV:kW K (κ 1) fV)(cH:dR P w K mg base (κ 1) "further_needs" 2 2 NV (gW K 2 (cG κ)))(bH:dR P w K mg base (κ 1) "record_of" 4 2 NV (gW K 2 (bC κ)))(jT:dR P w K mg base (κ 1) "box_ahead" 1 2 NV (gW K 2 (jQ κ)))(nW:dR P w K mg base (κ 1) "write" 4 4 NV (spS K 4 (nQ κ)))(sS:dR P w K mg base (κ 1) "going_out" 1 2 NV (gW K 2 (pH κ)))(pU:dR P w K mg base (κ 1) "link" 6 4 NV (spS K 4 (mZ κ)))(dZ:mg "len"=sx)(aIK:mg "min"=sx)(Ms:eG mg "KEY" (0))(qJ:eG mg "NEXT" (1)):dR P w K mg base (κ 1) "enter" 7 6 NU (spS K 6 (tQ κ)):=by
 refine R.FZ jZ ?_ ?_;walk_at "d6";exact⟨_,aO (iM (dB (or_eq cY U) sW (XN.r (dD dJ (dM U) U dZ E4 (aF (dO aV (aH (pv 0)) (by walk_at "k") U) aP))) (XN.r (aM)) (cI _)) (aX (FQ)) fZ)
  (aO (bO (i:=6) (fQ cH aV (by walk_at "h") (aH (pv 0)) (aF (aH (pv 5)) aP)) (λh=>bL jZ.nd U (by walk_at "l") h))
  (aO (bO (i:=7) (dD dJ (dM U) U dZ E4 (aF (XN.r (jV ["box","self","key"] [0,1] U (.at (aK tO) ["self","key","was","now","age","needs","further","place","ahead","box","filled","coming"] (by walk_at "k")) (jK (dO aV (aH (pv 0)) (by walk_at "k") U)) (gQ (by walk_at "k") U U) (λ_ _ _ _ _=>Pq (dB Hs iJ (bK (XN.r (fQ bH aV (by walk_at "h") (aH (pv 1)) (aF (aH (pv 0)) aP))) (XN.r (iC Ms U)) (λ_ _=>rfl)) (aH (pv 2)) (cI _))) (λ_ _ _ _ _=>XR.n (aH (pv 0))))) aP)) (λh=>bL jZ.nd U (by walk_at "l") h))
  (aO (bO (i:=8) (fQ jT aV (by walk_at "h") (aH (pv 0)) (aF (aH (pv 7)) aP)) (λh=>bL jZ.nd U (by walk_at "l") h))
  (aO (bO (i:=9) (dD aE3 (aE4 U) U aIK PyProof.Rows.boot_min (aF (dO aV (aH (pv 0)) (by walk_at "k") U) aP)) (λh=>bL jZ.nd U (by walk_at "l") h))
  (aO (Py (i:=10) (tH nW aV fX (by walk_at "h") (iT (pv 0)) (jD (aH (pv 9)) (RM (rT (bN (XR.n (aH (pv 1))) (bN (XR.n (bK (XN.r (fQ bH aV (by walk_at "h") (aH (pv 0)) (aF (aH (pv 8)) aP))) (XN.r (iC qJ U)) (λ_ _=>rfl))) (bN (XR.n (aH (pv 2))) (bN (XR.n (aH (pv 3))) (bN (XR.n (aH (pv 4))) jJ)))))) (RM (yI (bN (fQ sS aV (by walk_at "h") (aH (pv 0)) (aF (aH (pv 9)) aP)) jJ)) nG)))) (λh=>bL jZ.nd U (by walk_at "l") h))
  (aO (Py (i:=11) (tH pU aV fX (by walk_at "h") (iT (pv 0)) (jD (aH (pv 8)) (jD (aH (pv 9)) (jD (XN.r (cN (pJ (aF (aH (pv 10)) aP)) (aH (pv 6)))) nG)))) (λh=>bL jZ.nd U (by walk_at "l") h))
  (aO (aFx (oJ aV (iT (pv 0)) (by walk_at "k") U) (aH (pv 7)) (aH (pv 9)) (λa b c=>kY (qY F4 PySem.F.slot_list_insert PySem.F.type_list_insert aA1 a (cZ b (cZ c jE)))))
  (aO (yf (oJ aV (iT (pv 0)) (by walk_at "k") U) (aH (pv 9)) (λa b=>kY (qY F4 b6 b7 Yg a (cZ b jE))))
  (aO (Iz (oJ aV (iT (pv 0)) (by walk_at "k") U) (aH (pv 9)) (aH (pv 11)) (λa b c=>yC hu a b c U))
  (aX (Pz (aFt (rT (bN (XR.n (aH (pv 9))) (bN (XR.n (aH (pv 11))) jJ)))))))))))))))⟩
def mF:bA ["weaver","events","cell","order","rest","at","keys","key","box","number"] ["weaver","events","cell"] (aK Jo):=by walk_at "fs"
def km(R:Raw K mg "_law_done" Jo)(aV:kW K (κ 1) fV)(lQ:dR P w K mg base (κ 1) "order" 1 1 NV (gW K 1 (jY κ)))(zM:dR P w K mg base (κ 1) "leave" 7 3 NU (spS K 3 (nR κ)))(uR:dR P w K mg base (κ 1) "rewrite" 6 6 NU (spS K 6 (qG κ)))(Cd:dR P w K mg base (κ 1) "free" 1 1 NV (gW K 1 (vP κ)))(bH:dR P w K mg base (κ 1) "record_of" 4 2 NV (gW K 2 (bC κ)))(JM:oF P w K mg base "_law_key" 1 3 (gW K 3 Jl))(zN:dR P w K mg base (κ 1) "enter" 7 6 NU (spS K 6 (tQ κ)))(dZ:mg "len"=sx)(tU:mg "sorted"=sx):oF P w K mg base "_law_done" 8 3 (spG K [NU,NU,NV] (Bv κ)):=by
 refine R.aL4 (av:=[NU,NU,NV]) mF (λ_ _ _ _ _ _ us hl=>match us,hl with | [_,_,_],_=>rfl) U (λ_ _ _ _ _ _ _ hr=>?_);have cY:=hr.units;have hu:=cP hr;exact⟨_,aO (bO (i:=3) (Bf lQ aV (by walk_at "h") (aH (pv 0))) (λh=>bL mF.nd U (by walk_at "l") h))
  (aO (bO (i:=4) (mU (aH (pv 2)) (XN.r (aM))) (λh=>bL mF.nd U (by walk_at "l") h))
  (aX (iM (XW.xt (Ry (dB (or_eq cY U) sW (XN.r (bV (aH (pv 2)) (XN.r (aM)))) (XN.r (aM)) (cI _)) (Ie (dB (Xo cY U) Xn (aH (pv 3)) (pJ aP) (cI _))))) (aO (bO (i:=5) (bV (aH (pv 4)) (XN.r (dD dJ (dM U) U dZ E4 (aF (aH (pv 3)) aP)))) (λh=>bL mF.nd U (by walk_at "l") h))
  (aX (aC2 (pv 1) (gr) (Ip zM aV fX (by walk_at "h") (iT (pv 0)) (jD (bK (aH (pv 3)) (aH (pv 5)) (λ_ _=>rfl)) nG)) (bN (XR.n (bK (aH (pv 3)) (aH (pv 5)) (λ_ _=>rfl))) (bN aM jJ)) (λa b=>kY (qY F4 J0 J1 jN a (cZ b jE)))))) (aX (iM (XW.xt (Ry (dB (or_eq cY U) sW (XN.r (bV (aH (pv 2)) (XN.r (aM)))) (XN.r (aM)) (cI _)) (Ie (dB (Xo cY U) Xn (aH (pv 3)) (pJ aP) (cI _))))) (aX (Bg (Ip uR aV fX (by walk_at "h") (iT (pv 0)) (jD (bK (aH (pv 3)) (XN.r (bV (aH (pv 4)) (XN.r (dD dJ (dM U) U dZ E4 (aF (aH (pv 3)) aP))))) (λ_ _=>rfl)) (jD (XN.r (qW (XN.r (aM)))) (jD (XN.r (bV (aH (pv 4)) (XN.r (wA (XN.r (aM)) (XN.r (aM)))))) (jD (XN.r (aM)) nG))))))) (aX (iM (dB (Xo cY U) Xn (XN.r (Bf Cd aV (by walk_at "h") (aH (pv 0)))) (pJ aP) (cI _)) (aO (Pu (i:=6) ["box","weaver"] [0] U (.at (aK Jo) ["weaver","events","cell","order","rest","at","keys","key","box","number"] (by walk_at "k")) mF.nd U (by walk_at "l") (jK (aH (pv 3))) (gQ (by walk_at "k") U U) (λ_ _ _ _ _=>jC) (λ_ _ _ _ _=>XR.n (bK (XN.r (fQ bH aV (by walk_at "h") (aH (pv 1)) (aF (aH (pv 0)) aP))) (XN.r (aM)) (λ_ _=>rfl))))
  (aO (bO (i:=5) (bV (aH (pv 4)) (XN.r (cN (XN.r (dD dJ (dM U) U dZ E4 (aF (aH (pv 3)) aP))) (XN.r (aM))))) (λh=>bL mF.nd U (by walk_at "l") h))
  (aO (bO (i:=7) (cC JM (by walk_at "h") U (aF (aH (pv 6)) (aF (aH (pv 5)) (aF (XN.r (mU (aH (pv 4)) (XN.r (aM)))) aP)))) (λh=>bL mF.nd U (by walk_at "l") h))
  (aO (aFC (is:=[8,9]) (n:=2) (Ip zN aV fX (by walk_at "h") (iT (pv 0)) (jD (aH (pv 7)) (jD (XN.r (qW (XN.r (aM)))) (jD (XN.r (bV (aH (pv 4)) (XN.r (wA (XN.r (aM)) (XN.r (aM)))))) (jD (XN.r (aM)) nG))))) (λh=>Ks h (Zz U (oW (fJ (i:=8) mF.nd U (by walk_at "l")) (oW (fJ (i:=9) mF.nd U (by walk_at "l")) (Pa))))))
  (aO (bO (i:=5) (TY (XN.r (dD Xv (Xw U) U tU U7 (aF (XN.r (cN (aH (pv 6)) (pJ (aF (aH (pv 7)) aP)))) aP))) (aH (pv 7)) (λa b=>qY F4 c9 d6 TX a (cZ b jE))) (λh=>bL mF.nd U (by walk_at "l") h))
  (aX (Qa (iT (pv 1)) (rT (bN (gr) (bN (XR.n (aH (pv 9))) (bN (XR.n (aH (pv 8))) (bN (XR.n (bK (XN.r (cN (pJ (aF (XN.r (aM)) aP)) (aH (pv 3)))) (aH (pv 5)) (λ_ _=>rfl))) jJ))))) (λa b=>kY (qY F4 J0 J1 jN a (cZ b jE)))))))))) fZ)))))))⟩
def Ce:bA ["changes","held","numbers","found","number"] ["changes","held","numbers"] (aK zG):=by walk_at "fs"
def JN(R:Raw K mg "ripe_among" zG)(zO:mg "all"=sx)(kI:mg "list"=sx)(lg:eG mg "NEEDS" (3)):oF P w K mg base "ripe_among" 1 3 (gW K 3 uQ):=by
 refine R.rZ Ce ?_ ?_;walk_at "3";exact⟨_,aO (bO (i:=3) (Di) (λh=>bL Ce.nd U (by walk_at "l") h))
  (aO (DW [] Ap U (jK (aH (pv 2))) (fJ (i:=4) Ce.nd U (by walk_at "l")) (aX (iM (Ba (XN.r (dD Fw (Fx U) U zO M9 (aF (XN.r (jV ["need","held","found"] [1,3] U (.at (aK zG) ["changes","held","numbers","found","number"] (by walk_at "k")) (jK (bK (bK (aH (pv 0)) (aH (pv 4)) (λ_ _=>rfl)) (XN.r (iC lg U)) (λ_ _=>rfl))) (gQ (by walk_at "k") U U) (λ_ _ _ _ _=>jC) (λ_ _ _ _ _=>aJU (XN.r (aCj hu (aH (pv 0)) (aH (pv 1)))) (tE (aCj hu (aH (pv 0)) (aH (pv 2))))))) aP)))) (aX (vz (iT (pv 3)) (aH (pv 4)) (XN.r (uF)) (λa b c=>yC hu a b c U))) fZ)))
  (aX (bR (Nu QS (Av U) U kI K2 (aF (aH (pv 3)) aP)))))⟩
def Fe:bA ["self","number","change"] ["self","number"] (aK zH):=by walk_at "fs"
def Uu(R:iB K (κ 0) "strike" "Bench.strike" zH NV)(bG:kW K (κ 0) lA)(aDo:eG mg "PANE" (0))(lq:eG mg "PLACE" (1))(Mj:eG mg "THING" (2)):dR P w K mg base (κ 0) "strike" 1 2 NV (spS K 2 (tR κ)):=by
 refine R.FZ Fe ?_ ?_;walk_at "2";exact⟨_,aO (bO (i:=2) (XR.n (bK (dO bG (aH (pv 0)) (by walk_at "k") U) (aH (pv 1)) (λ_ _=>rfl))) (λh=>bL Fe.nd U (by walk_at "l") h))
  (aO (SM (Su (oJ bG (iT (pv 0)) (by walk_at "k") U) (bK (aH (pv 2)) (XN.r (iC aDo U)) (λ_ _=>rfl)) (λ_ _=>rfl)) (bK (aH (pv 2)) (XN.r (iC lq U)) (λ_ _=>rfl)) (XR.n (bK (aH (pv 2)) (XN.r (iC Mj U)) (λ_ _=>rfl))) (λa b c=>Ks c (BJ a b set_list)))
  (aX (Iz (oJ bG (iT (pv 0)) (by walk_at "k") U) (aH (pv 1)) (XN.r (uF)) (λa b c=>yC hu a b c U))))⟩
def tV:bA ["self","pane","most","taken","number"] ["self","pane","most"] (aK vQ):=by walk_at "fs"
def Wq(R:iB K (κ 0) "carve" "Bench.carve" vQ NU)(bG:kW K (κ 0) lA)(jR:dR P w K mg base (κ 0) "check_pane" 1 2 NV (gW K 2 (jP κ)))(Hf:oF P w K mg base "ripe_among" 1 3 (gW K 3 uQ))(zP:dR P w K mg base (κ 0) "strike" 1 2 NV (spS K 2 (tR κ)))(aIL:mg "max"=sx):dR P w K mg base (κ 0) "carve" 2 3 NU (spS K 3 (rH κ)):=by
 refine R.FZ tV ?_ ?_;walk_at "d3";exact⟨_,aO (Dr (XN.r (fQ jR bG (by walk_at "h") (aH (pv 0)) (aF (aH (pv 1)) aP))))
  (aO (bO (i:=3) (cC Hf (by walk_at "h") U (aF (dO bG (aH (pv 0)) (by walk_at "k") U) (aF (dO bG (aH (pv 0)) (by walk_at "k") U) (aF (bK (dO bG (aH (pv 0)) (by walk_at "k") U) (aH (pv 1)) (λ_ _=>rfl)) aP)))) (λh=>bL tV.nd U (by walk_at "l") h))
  (aO (iM (dB BL Ln (aH (pv 2)) (XN.r (yF)) (cI _)) (aX (bO (i:=3) (aCp (aH (pv 3)) (DP) (Ik (XN.r (dD aE2 (aAl U) U aIL PyProof.Rows.boot_max (aF (aH (pv 2)) (aF (XN.r (aM)) aP)))))) (λh=>bL tV.nd U (by walk_at "l") h))) fZ)
  (aO (GC Ap U (pv 3) (fJ (i:=4) tV.nd U (by walk_at "l")) (aX (Bg (tH zP bG fX (by walk_at "h") (iT (pv 0)) (jD (aH (pv 4)) nG)))))
  (aO (SM (oJ bG (iT (pv 0)) (by walk_at "k") U) (aH (pv 1)) (jV ["number","self"] [0] U (.at (aK vQ) ["self","pane","most","taken","number"] (by walk_at "k")) (jK (bK (dO bG (aH (pv 0)) (by walk_at "k") U) (aH (pv 1)) (λ_ _=>rfl))) (gQ (by walk_at "k") U U) (λ_ _ _ _ _=>Pq (Xp hu (aH (pv 0)) (dO bG (aH (pv 1)) (by walk_at "k") U))) (λ_ _ _ _ _=>XR.n (aH (pv 0)))) (λa b c=>Ks c (BJ a b set_list)))
  (aX (Iv (pv 3)))))))⟩
def uT:bA ["stone","order","keys","last","box","some"] ["stone","order","keys"] (aK Mf):=by walk_at "fs"
def XQ(R:Raw K mg "_law_keyed" Mf)(dZ:mg "len"=sx):oF P w K mg base "_law_keyed" 1 3 (gW K 3 uB):=by
 refine R.rZ uT ?_ ?_;walk_at "3";exact⟨_,aO (bO (i:=3) (yF) (λh=>bL uT.nd U (by walk_at "l") h))
  (aO (DW [] Ap U (jK (aH (pv 1))) (fJ (i:=4) uT.nd U (by walk_at "l")) (aO (bO (i:=5) (XR.n (bK (bK (aH (pv 0)) (XN.r (bV (aH (pv 4)) (XN.r (dD dJ (dM U) U dZ E4 (aF (aH (pv 0)) aP))))) (λ_ _=>rfl)) (XN.r (mU (aH (pv 4)) (XN.r (dD dJ (dM U) U dZ E4 (aF (aH (pv 0)) aP))))) (λ_ _=>rfl))) (λh=>bL uT.nd U (by walk_at "l") h))
  (aO (iM (XW.xt (Xq (dB (QK U) (aGq NU) (bK (aH (pv 5)) (XN.r (aM)) (λ_ _=>rfl)) (bK (aH (pv 2)) (aH (pv 4)) (λ_ _=>rfl)) (by with_unfolding_all rfl)) (DN (XW.xt (Ry (dB BL Ln (aH (pv 3)) (XN.r (yF)) (cI _)) (Ie (dB Ht iJ (bK (aH (pv 5)) (XN.r (aM)) (λ_ _=>rfl)) (aH (pv 3)) (cI _)))))))) (aX (bR (uF))) fZ)
  (aX (bO (i:=3) (XR.n (bK (aH (pv 5)) (XN.r (aM)) (λ_ _=>rfl))) (λh=>bL uT.nd U (by walk_at "l") h))))))
  (aX (bR (uF))))⟩
def aDp:bA ["thing"] ["thing"] (aK Jq):=by walk_at "fs"
def aBg(R:Raw K mg "is_grid" Jq)(dZ:mg "len"=sx)(dG:mg "isinstance"=sx)(kI:mg "list"=sx)(zO:mg "all"=sx):oF P w K mg base "is_grid" 1 1 (gW K 1 Jr):=by
 refine R.rZ aDp ?_ ?_;walk_at "1";exact⟨_,aO (iM (XW.xt (Xq (wB (Ba (XN.r (Lg (aH (pv 0)) (Df (v:=.ty "list") U kI K2 U) U dG)))) (DN (wB (Iw Ht Ht iJ iJ (XN.r (aM)) (XN.r (dD dJ (dM U) U dZ E4 (aF (aH (pv 0)) aP))) (XN.r (aM))))))) (aX (bR (uF))) fZ)
  (aO (iM (wB (Ba (XN.r (dD Fw (Fx U) U zO M9 (aF (XN.r (jV ["pane"] [] U (.at (aK Jq) ["thing"] (by walk_at "k")) (jK (aH (pv 0))) (gQ (by walk_at "k") U U) (λ_ _ _ _ _=>jC) (λ_ _ _ _ _=>Lg (aH (pv 0)) (Df (v:=.ty "list") U kI K2 U) U dG))) aP))))) (aX (bR (uF))) fZ)
  (aX (bR (uI (XN.r (UJ Ht Ht iJ iJ (XN.r (aM)) (XN.r (dD dJ (dM U) U dZ E4 (aF (bK (aH (pv 0)) (XN.r (aM)) (λ_ _=>rfl)) aP))) (XN.r (aM)))) (tE (dD Fw (Fx U) U zO M9 (aF (XN.r (jV ["pane","thing"] [0] U (.at (aK Jq) ["thing"] (by walk_at "k")) (jK (aH (pv 0))) (gQ (by walk_at "k") U U) (λ_ _ _ _ _=>jC) (λ_ _ _ _ _=>yG (or_eq cY U) sW (XN.r (dD dJ (dM U) U dZ E4 (aF (aH (pv 0)) aP))) (XN.r (dD dJ (dM U) U dZ E4 (aF (bK (aH (pv 1)) (XN.r (aM)) (λ_ _=>rfl)) aP))) (cI _)))) aP)))))))⟩
def sU:bA ["stone","boxes","records"] ["stone"] (aK lE):=by walk_at "fs"
def Mv(R:Raw K mg "is_sound_string" lE)(nU:oF P w K mg base "string_of" 3 1 (gW K 1 nP))(pR:oF P w K mg base "record_at" 2 2 (gW K 2 jO))(aIM:mg "any"=sx)(aIN:mg "zip"=sx)(zO:mg "all"=sx)(vU:eG mg "HEAD" (0))(qJ:eG mg "NEXT" (1))(JH:eG mg "NOW" (3))(Uv:eG mg "NONE" (-1))(JK:eG mg "AGE" (4))(Ms:eG mg "KEY" (0)):oF P w K mg base "is_sound_string" 4 1 (gW K 1 nA):=by
 refine R.rZ sU ?_ ?_;walk_at "1";exact⟨_,aO (bO (i:=1) (cC nU (by walk_at "h") U (aF (aH (pv 0)) aP)) (λh=>bL sU.nd U (by walk_at "l") h))
  (aO (iM (dB (Xo cY U) Xn (bK (XN.r (cC pR (by walk_at "h") U (aF (aH (pv 0)) (aF (bK (XN.r (cN (pJ (aF (XN.r (iC vU U)) aP)) (aH (pv 1)))) (XN.r (qW (XN.r (aM)))) (λ_ _=>rfl)) aP)))) (XN.r (iC qJ U)) (λ_ _=>rfl)) (XN.r (iC vU U)) (cI _)) (aX (bR (uF))) fZ)
  (aO (Pu (i:=2) ["box","stone"] [0] U (.at (aK lE) ["stone","boxes","records"] (by walk_at "k")) sU.nd U (by walk_at "l") (jK (aH (pv 1))) (gQ (by walk_at "k") U U) (λ_ _ _ _ _=>jC) (λ_ _ _ _ _=>cC pR (by walk_at "h") U (aF (aH (pv 1)) (aF (aH (pv 0)) aP))))
  (aO (iM (Ba (XN.r (dD aH3 (aH4 U) U aIM PyProof.Rows.boot_any (aF (XN.r (jV ["record"] [] U (.at (aK lE) ["stone","boxes","records"] (by walk_at "k")) (jK (aH (pv 2))) (gQ (by walk_at "k") U U) (λ_ _ _ _ _=>jC) (λ_ _ _ _ _=>uI (XN.r (yG (or_eq cY U) sW (bK (aH (pv 0)) (XN.r (iC JK U)) (λ_ _=>rfl)) (XN.r (aM)) (cI _))) (tE (yG (or_eq cY U) sW (bK (aH (pv 0)) (XN.r (iC JH U)) (λ_ _=>rfl)) (XN.r (iC Uv U)) (cI _)))))) aP)))) (aX (bR (uF))) fZ)
  (aX (bR (dD Fw (Fx U) U zO M9 (aF (XN.r (aC5 ["low","high"] [] U (.at (aK lE) ["stone","boxes","records"] (by walk_at "k")) (aH (pv 2)) (Sh (aH (pv 2)) (Ik (XN.r (aM))) (DP)) U aIN PyProof.Rows.boot_zip (aFj U (by walk_at "k") U U U U) (λ_ _ _ _ _=>jC) (λ_ _ _ _ _=>yG Hs iJ (bK (aH (pv 0)) (XN.r (iC Ms U)) (λ_ _=>rfl)) (bK (aH (pv 1)) (XN.r (iC Ms U)) (λ_ _=>rfl)) (cI _)))) aP)))))))⟩
def aBh:bA ["value"] ["value"] (aK Ul):=by walk_at "fs"
def lr(R:Raw K mg "is_whole" Ul)(dG:mg "isinstance"=sx)(aDq:mg "bool"=sx)(pS:mg "int"=sx):oF P w K mg base "is_whole" 1 1 (gW K 1 By):=by refine R.rZ aBh ?_ ?_;walk_at "1";exact⟨_,aX (bR (uI (XN.r (Lg (aH (pv 0)) (Df (v:=.ty "int") U pS j4 U) U dG)) (tE (aH0 (XN.r (Lg (aH (pv 0)) (Df (v:=.ty "bool") U aDq PyProof.Rows.boot_bool U) U dG))))))⟩
def lu:bA ["thing","many"] ["thing","many"] (aK Eb):=by walk_at "fs"
def XS(R:Raw K mg "are_whole" Eb)(Uw:oF P w K mg base "is_whole" 1 1 (gW K 1 By))(zO:mg "all"=sx)(dZ:mg "len"=sx)(dG:mg "isinstance"=sx)(Ml:mg "tuple"=sx):oF P w K mg base "are_whole" 2 2 (gW K 2 uC):=by refine R.rZ lu ?_ ?_;walk_at "2";exact⟨_,aX (bR (uI (XN.r (Lg (aH (pv 0)) (Df (v:=.ty "tuple") U Ml c8 U) U dG)) (uI (XN.r (yG (or_eq cY U) sW (XN.r (dD dJ (dM U) U dZ E4 (aF (aH (pv 0)) aP))) (aH (pv 1)) (cI _))) (tE (dD Fw (Fx U) U zO M9 (aF (XN.r (jV ["number"] [] U (.at (aK Eb) ["thing","many"] (by walk_at "k")) (jK (aH (pv 0))) (gQ (by walk_at "k") U U) (λ_ _ _ _ _=>jC) (λ_ _ _ _ _=>cC Uw (by walk_at "h") U (aF (aH (pv 0)) aP)))) aP))))))⟩
def aDr:bA ["thing"] ["thing"] (aK IK):=by walk_at "fs"
def aBi(R:Raw K mg "is_seal" IK)(uE:oF P w K mg base "are_whole" 2 2 (gW K 2 uC)):oF P w K mg base "is_seal" 3 1 (gW K 1 Qk):=by refine R.rZ aDr ?_ ?_;walk_at "1";exact⟨_,aX (bR (uI (XN.r (cC uE (by walk_at "h") U (aF (aH (pv 0)) (aF (XN.r (aM)) aP)))) (tE (yG OJ iJ (bK (aH (pv 0)) (XN.r (aM)) (λ_ _=>rfl)) (XN.r (aM)) (cI _)))))⟩
def lz:bA ["thing","boxes"] ["thing","boxes"] (aK Mg):=by walk_at "fs"
def XX(R:Raw K mg "is_record" Mg)(uE:oF P w K mg base "are_whole" 2 2 (gW K 2 uC))(JK:eG mg "AGE" (4))(JH:eG mg "NOW" (3))(Uv:eG mg "NONE" (-1))(pT:eG mg "WAS" (2))(qJ:eG mg "NEXT" (1)):oF P w K mg base "is_record" 3 2 (gW K 2 uD):=by
 refine R.rZ lz ?_ ?_;walk_at "2";exact⟨_,aO (iM (wB (Ba (XN.r (cC uE (by walk_at "h") U (aF (aH (pv 0)) (aF (XN.r (aM)) aP)))))) (aX (bR (uF))) fZ)
  (aX (bR (uI (XN.r (UJ Ht Hs iJ iJ (XN.r (aM)) (bK (aH (pv 0)) (XN.r (iC qJ U)) (λ_ _=>rfl)) (aH (pv 1)))) (uI (XN.r (yG OJ iJ (bK (aH (pv 0)) (XN.r (iC pT U)) (λ_ _=>rfl)) (XN.r (iC Uv U)) (cI _))) (uI (XN.r (yG OJ iJ (bK (aH (pv 0)) (XN.r (iC JH U)) (λ_ _=>rfl)) (XN.r (iC Uv U)) (cI _))) (tE (yG OJ iJ (bK (aH (pv 0)) (XN.r (iC JK U)) (λ_ _=>rfl)) (XN.r (aM)) (cI _))))))))⟩
def JP:bA ["pane","boxes"] ["pane","boxes"] (aK vR):=by walk_at "fs"
def Wr(R:Raw K mg "is_full_pane" vR)(Mw:oF P w K mg base "is_record" 3 2 (gW K 2 uD))(JQ:oF P w K mg base "is_seal" 3 1 (gW K 1 Qk))(zO:mg "all"=sx):oF P w K mg base "is_full_pane" 4 2 (gW K 2 rJ):=by refine R.rZ JP ?_ ?_;walk_at "2";exact⟨_,aX (bR (uI (XN.r (cC JQ (by walk_at "h") U (aF (bK (aH (pv 0)) (XN.r (qW (XN.r (aM)))) (λ_ _=>rfl)) aP))) (tE (dD Fw (Fx U) U zO M9 (aF (XN.r (jV ["thing","boxes"] [1] U (.at (aK vR) ["pane","boxes"] (by walk_at "k")) (jK (Sh (aH (pv 0)) (DP) (Ik (XN.r (qW (XN.r (aM))))))) (gQ (by walk_at "k") U U) (λ_ _ _ _ _=>jC) (λ_ _ _ _ _=>cC Mw (by walk_at "h") U (aF (aH (pv 0)) (aF (aH (pv 1)) aP))))) aP)))))⟩
def Zd:bA ["thing","boxes"] ["thing"] (aK Js):=by walk_at "fs"
def mj(R:Raw K mg "is_sound" Js)(JR:oF P w K mg base "is_grid" 1 1 (gW K 1 Jr))(lO:oF P w K mg base "many_boxes" 1 1 (gW K 1 lN))(uU:oF P w K mg base "is_sound_string" 4 1 (gW K 1 nA))(Cg:oF P w K mg base "is_full_pane" 4 2 (gW K 2 rJ))(zO:mg "all"=sx):oF P w K mg base "is_sound" 5 1 (gW K 1 xM):=by
 refine R.rZ Zd ?_ ?_;walk_at "1";exact⟨_,aO (iM (wB (Ba (XN.r (cC JR (by walk_at "h") U (aF (aH (pv 0)) aP))))) (aX (bR (uF))) fZ)
  (aO (bO (i:=1) (cC lO (by walk_at "h") U (aF (aH (pv 0)) aP)) (λh=>bL Zd.nd U (by walk_at "l") h))
  (aX (bR (uI (XN.r (dD Fw (Fx U) U zO M9 (aF (XN.r (jV ["pane","boxes"] [1] U (.at (aK Js) ["thing","boxes"] (by walk_at "k")) (jK (aH (pv 0))) (gQ (by walk_at "k") U U) (λ_ _ _ _ _=>jC) (λ_ _ _ _ _=>cC Cg (by walk_at "h") U (aF (aH (pv 0)) (aF (aH (pv 1)) aP))))) aP))) (tE (cC uU (by walk_at "h") U (aF (aH (pv 0)) aP)))))))⟩
def uV:bA ["script","stone","weaver","many","keys","box","cell","rest","found","order","events","kind","number","ahead"] ["script"] (aK aDk):=by walk_at "fs"
def aIO{f:AF}{fd:BU}(F:Fun K "law" "law" aDk f fd)(aV:kW K (κ 1) fV)(bG:kW K (κ 0) lA)(Mx:oF P w K mg base "_law_built" 3 1 (gW K 1 xH))(vV:aAX P w K mg base "Weaver" (κ 1) 5 2 (spS K 2 (pP κ)))(lQ:dR P w K mg base (κ 1) "order" 1 1 NV (gW K 1 (jY κ)))(bH:dR P w K mg base (κ 1) "record_of" 4 2 NV (gW K 2 (bC κ)))(Hg:oF P w K mg base "_law_spread" 1 1 (gW K 1 mY))(vW:dR P w K mg base (κ 0) "carve" 2 3 NU (spS K 3 (rH κ)))(Cj:dR P w K mg base (κ 0) "stone" 1 1 NV (gW K 1 (rG κ)))(JS:oF P w K mg base "_law_own" 1 1 (gW K 1 vN))(Ux:oF P w K mg base "is_sound" 5 1 (gW K 1 xM))(My:oF P w K mg base "_law_keyed" 1 3 (gW K 3 uB))(Uy:oF P w K mg base "_law_done" 8 3 (spG K [NU,NU,NV] (Bv κ)))(dZ:mg "len"=sx)(lF:mg "range"=sx)(aIm:∀ns:List Int,ns.length≤63→(∀k∈ns,Small k)→aIH κ [.lst (ns.map D.int)]=NR (.bl NU)):Ab P w K mg base MJ 9 f fd ["script"] (spB K):=by
 refine F.okB uV (λai A outer s H E hr=>?_) aIm;have cY:=hr.units;have hu:=cP hr;exact⟨_,aO (bO (i:=1) (cC Mx (by walk_at "h") U (aF (aH (pv 0)) aP)) (λh=>bL uV.nd U (by walk_at "l") h))
  (aO (bO (i:=2) (FW vV fX (by walk_at "h") U (aF (aH (pv 1)) aP)) (λh=>bL uV.nd U (by walk_at "l") h))
  (aO (bO (i:=3) (mG (XN.r (dD dJ (dM U) U dZ E4 (aF (aH (pv 1)) aP))) (XN.r (uG (XN.r (dD dJ (dM U) U dZ E4 (aF (bK (aH (pv 1)) (XN.r (aM)) (λ_ _=>rfl)) aP))) (XN.r (aM))))) (λh=>bL uV.nd U (by walk_at "l") h))
  (aO (Pu (i:=4) ["box"] [] U (.at (aK aDk) ["script","stone","weaver","many","keys","box","cell","rest","found","order","events","kind","number","ahead"] (by walk_at "k")) uV.nd U (by walk_at "l") (Dj U lF (aF (aH (pv 3)) aP)) (gQ (by walk_at "k") U U) (λ_ _ _ _ _=>jC) (λ_ _ _ _ _=>yI jJ))
  (aO (aFl Ap U (Bf lQ aV (by walk_at "h") (aH (pv 2))) (fJ (i:=5) uV.nd U (by walk_at "l")) (aX (Sv (Su (iT (pv 4)) (aH (pv 5)) (λ_ _=>rfl)) (XR.n (bK (XN.r (fQ bH aV (by walk_at "h") (aH (pv 2)) (aF (aH (pv 5)) aP))) (XN.r (aM)) (λ_ _=>rfl))) (λa b=>kY (qY F4 J0 J1 jN a (cZ b jE))))))
  (aO (DW [] Ap U (jK (XN.r (jV ["one"] [] U (.at (aK aDk) ["script","stone","weaver","many","keys","box","cell","rest","found","order","events","kind","number","ahead"] (by walk_at "k")) (jK (Sh (aH (pv 0)) (Ik (XN.r (aM))) (Ik (XN.r (aM))))) (gQ (by walk_at "k") U U) (λ_ _ _ _ _=>jC) (λ_ _ _ _ _=>cC Hg (by walk_at "h") U (aF (aH (pv 0)) aP))))) (fJ (i:=6) uV.nd U (by walk_at "l")) (aO (bO (i:=7) (mU (aH (pv 6)) (XN.r (aM))) (λh=>bL uV.nd U (by walk_at "l") h))
  (aX (iM (dB (or_eq cY U) sW (XN.r (bV (aH (pv 6)) (XN.r (aM)))) (XN.r (aM)) (cI _)) (aO (iM (dB (or_eq cY U) sW (XN.r (bV (aH (pv 7)) (XN.r (aM)))) (XN.r (aM)) (cI _)) (aX (Bg (tH vW bG fX (by walk_at "h") (oJ aV (iT (pv 2)) (by walk_at "k") U) (jD (XN.r (bV (XN.r (mU (aH (pv 7)) (XN.r (aM)))) (XN.r (dD dJ (dM U) U dZ E4 (aF (aH (pv 1)) aP))))) (jD (XN.r (bV (XN.r (mU (aH (pv 7)) (XN.r (aM)))) (XN.r (aM)))) nG))))) (aX (Bg (Ip vW bG fX (by walk_at "h") (oJ aV (iT (pv 2)) (by walk_at "k") U) (jD (XN.r (bV (XN.r (mU (aH (pv 7)) (XN.r (aM)))) (XN.r (dD dJ (dM U) U dZ E4 (aF (aH (pv 1)) aP))))) nG)))))
  (aO (bO (i:=8) (Bf Cj bG (by walk_at "h") (dO aV (aH (pv 2)) (by walk_at "k") U)) (λh=>bL uV.nd U (by walk_at "l") h))
  (aO (bO (i:=9) (cC JS (by walk_at "h") U (aF (aH (pv 8)) aP)) (λh=>bL uV.nd U (by walk_at "l") h))
  (aO (iM (XW.xt (Xq (dB bh jh (aH (pv 9)) (XN.r (yF)) (cI _)) (Xq (wB (Ba (XN.r (cC My (by walk_at "h") U (aF (aH (pv 8)) (aF (aH (pv 9)) (aF (aH (pv 4)) aP))))))) (DN (dB aAF aAG (XN.r (cC Ux (by walk_at "h") U (aF (aH (pv 8)) aP))) (XN.r (uF)) (cI _)))))) (aX (bR (uF))) fZ)
  (aX (iM (dB (Xo cY U) Xn (XN.r (Bf lQ aV (by walk_at "h") (XN.r (FW vV fX (by walk_at "h") U (aF (aH (pv 8)) aP))))) (aH (pv 9)) (cI _)) (aX (bR (uF))) fZ)))))) (aO (bO (i:=10) (yI jJ) (λh=>bL uV.nd U (by walk_at "l") h))
  (aO (Bg (aFw Uy U (by walk_at "h") U (aCW (pv 2) (aCW (pv 10) (aKi (aH (pv 7)) (aFv))))))
  (aX (aFA (n:=4) [10] [11,12,5,13] Ap U (jK (aH (pv 10))) (Zz U (oW (fJ (i:=11) uV.nd U (by walk_at "l")) (oW (fJ (i:=12) uV.nd U (by walk_at "l")) (oW (fJ (i:=5) uV.nd U (by walk_at "l")) (oW (fJ (i:=13) uV.nd U (by walk_at "l")) (Pa)))))) (aX (iM (dB (or_eq cY U) sW (aH (pv 11)) (XN.r (gr)) (cI _)) (aX (Sv (Su (iT (pv 4)) (aH (pv 5)) (λ_ _=>rfl)) (XR.n (bK (XN.r (fQ bH aV (by walk_at "h") (aH (pv 2)) (aF (aH (pv 5)) aP))) (XN.r (aM)) (λ_ _=>rfl))) (λa b=>kY (qY F4 J0 J1 jN a (cZ b jE))))) fZ))))))))))
  (aX (bR (uF))))))))⟩
end
open PySem L2
local macro_rules | `(tactic| walk_at "lt")=>`(tactic| exact O2 rfl)
local macro_rules | `(tactic| walk_at "sc")=>`(tactic| first | omega | with_reducible assumption | exact Q5 (by decide) | exact Ep (by omega) (by omega) | exact aKp (by omega) (by omega))
local macro_rules | `(tactic| walk_at "op")=>`(tactic| first | with_reducible assumption | with_reducible exact bZ _ _ | with_reducible exact lX _ _ | with_reducible exact kZ _ _ | with_reducible exact Dw _ _ | with_reducible exact vI _ _ | with_reducible exact GJ _ _ | with_reducible exact yP _ _ | with_reducible exact Dv _ _ | with_reducible exact qN _ | with_reducible exact Tt _ | with_reducible exact Tu _ | ((with_reducible apply gC);walk_at "sc") | ((with_reducible apply bI);walk_at "sc") | ((with_reducible apply fD);(walk_at "sc");walk_at "sc") | ((with_reducible apply pA);exact⟨by decide,by decide,by omega⟩) | ((with_reducible apply jX);(walk_at "sc");walk_at "sc"))
local macro_rules | `(tactic| walk_at "ea")=>`(tactic| first | with_reducible exact VD | ((with_reducible apply aA);(walk_at "ev");walk_at "ea"))
local macro_rules | `(tactic| walk_at "ev")=>`(tactic| first | ((with_reducible apply nJ);exact rfl) | with_reducible exact aKu | with_reducible assumption | ((with_reducible apply aJ);(walk_at "ev");(walk_at "ev");walk_at "op") | ((with_reducible apply cV);(walk_at "ea");walk_at "op") | ((with_reducible apply bM);(walk_at "ea");exact rfl;with_reducible assumption) | ((with_reducible apply bD);(walk_at "ev");exact rfl) | ((with_reducible apply qC);walk_at "ev") | ((with_reducible apply pF);(walk_at "ea");walk_at "lt") | ((with_reducible apply iD);(walk_at "ea");walk_at "lt"))
local macro_rules | `(tactic| walk_at "et")=>`(tactic| first | ((with_reducible apply pZ);walk_at "et") | ((with_reducible apply fOr_ok);(walk_at "et");walk_at "et") | ((with_reducible apply GK);(walk_at "et");walk_at "et") | ((with_reducible apply cB);walk_at "ev"))
local macro_rules | `(tactic| walk_at "set")=>`(tactic| (apply aC8;(walk_at "ev");(walk_at "lt")))
local macro_rules | `(tactic| walk_at "q")=>`(tactic| (apply cD;(walk_at "ev");(walk_at "lt")))
local macro_rules | `(tactic| walk_at "op")=>`(tactic| first | with_reducible assumption | with_reducible exact bZ _ _ | with_reducible exact lX _ _ | with_reducible exact kZ _ _ | with_reducible exact Dw _ _ | with_reducible exact vI _ _ | with_reducible exact GJ _ _ | with_reducible exact yP _ _ | with_reducible exact Dv _ _ | with_reducible exact qN _ | with_reducible exact HH _ | with_reducible exact HD _ _ _ | with_reducible exact dMin2_int _ _ | with_reducible exact Yt _ _ | with_reducible exact dIntB_bl _ | with_reducible exact yl _ | with_reducible exact VN _ | with_reducible exact Tz _ | with_reducible exact VP _ | ((with_reducible apply HF);omega) | with_reducible exact Tt _ | with_reducible exact Tu _ | ((with_reducible apply gC);walk_at "sc") | ((with_reducible apply dMulB_int);(walk_at "sc");walk_at "sc") | ((with_reducible apply bI);walk_at "sc") | ((with_reducible apply fD);(walk_at "sc");walk_at "sc") | ((with_reducible apply pA);exact⟨by decide,by decide,by omega⟩) | ((with_reducible apply jX);(walk_at "sc");walk_at "sc"))
def oE(cs:List lH)(l:List Int)(bY:Int):List Int:=((D5 cs.length).filter λk=>decide ((at_ cs k).bY=bY)&&!decide ((k:Int)∈l)).map λk=>((k:Nat):Int)
def Cp{cs:List lH}{x:Int}:x∈oE cs l bY↔0≤x∧x<cs.length∧(at_ cs x.toNat).bY=bY∧x∉l:=by
 unfold oE;rw[J4];constructor
 ·rintro⟨k,hk,rfl⟩
  obtain⟨h1,h2⟩:=K3.mp hk;rw[F7]at h1;rw[J2,decide_eq_true_iff]at h2;rw[C7];exact⟨by omega,by omega,h2.1,by simpa using h2.2⟩
 ·rintro⟨h0,h1,h2,h3⟩
  refine⟨x.toNat,K3.mpr ⟨F7.mpr (by omega),?_⟩,by omega⟩;rw[J2,decide_eq_true_iff,show ((x.toNat:Nat):Int)=x by omega];exact⟨h2,by simpa using h3⟩
def JT(cs:List lH)(l:List Int)(bY:Int):(oE cs l bY).Pairwise (·<·):=by unfold oE;rw[V2];exact(V5.sublist R3).imp λh=>by omega
def YC(cs:List lH)(l:List Int)(bY:Int):(oE cs l bY).length≤cs.length:=by unfold oE;rw[B8];exact G1 (List.length_filter_le _ _) (by rw[E1];exact C9 _)
def Nums(cs:List lH)(ks:List Int):Prop:=ks.Nodup∧∀x∈ks,0≤x∧x<(cs.length:Int)
def Nums.len{cs:List lH}{ks:List Int}(h:Nums cs ks):ks.length≤cs.length:=nM _ _ h.1 h.2
structure Bn where
 bB:List (List (List Int))
 asked:List lH
 held:List Int
 nk:List (Int×Int)
 nv:List Int
variable{b:Bn}
def rN(p:Int×Int):List Key:=[.inl p.1,.inl p.2]
def Kd{a b:Int×Int}(h:rN a=rN b):a=b:=by unfold rN at h;injection h with h1 h2;injection h2 with h2 _;injection h1 with h1;injection h2 with h2;exact r9 h1 h2
def eN(p:List (List Int)):D:=.lst (p.map dTup)
def jM(ps:List (List (List Int))):D:=.lst (ps.map eN)
def vB(n:Nat)(cs:List lH)(l:List Int):List D:=(D5 n).map λp=>aN (oE cs l ((p:Nat):Int))
def Ze:List Str:=["panes","asked","newest","held","unsettled"]
def eU(C:AF)(a b c d e:D):D:=.ins C Ze [a,b,c,d,e]
def lG(C:AF)(b:Bn)(e:List D):D:=eU C (jM b.bB) (yX b.asked) (.dt (b.nk.map rN) (b.nv.map D.int)) (Vo b.held) (.lst e)
def dX(C:AF)(b:Bn):D:=lG C b (vB b.bB.length b.asked b.held)
def Mz:posK Ze "panes"=NR 0:=by decide +kernel
def Nb:posK Ze "asked"=NR 1:=by decide +kernel
def Hh:posK Ze "newest"=NR 2:=by decide +kernel
def Uz:posK Ze "held"=NR 3:=by decide +kernel
def JV:posK Ze "unsettled"=NR 4:=by decide +kernel
section
variable{a b c e x:D}
def Ed:fP C "panes" (eU C a b c d e)=NR a:=by unfold fP eU;dsimp only;rw[sk U,Mz];rfl
def xP:fP C "asked" (eU C a b c d e)=NR b:=by unfold fP eU;dsimp only;rw[sk U,Nb];rfl
def Hi:fP C "newest" (eU C a b c d e)=NR c:=by unfold fP eU;dsimp only;rw[sk U,Hh];rfl
def YD:fP C "held" (eU C a b c d e)=NR d:=by unfold fP eU;dsimp only;rw[sk U,Uz];rfl
def zc:fP C "unsettled" (eU C a b c d e)=NR e:=by unfold fP eU;dsimp only;rw[sk U,JV];rfl
def uW{s:L2.Step}(h1:Eo s d=NR j)(h2:(kids d)[j]?=NR x):gJ [s] d=NR x:=by unfold gJ;rw[h1,C4,h2];rfl
def rO{s:L2.Step}{y:D}(h1:Eo s d=NR j)(h2:(kids d)[j]?=NR y):fO [s] d x=Im d ((kids d).set j x):=by show (match Eo s d with | some j=>_ | none=>_)=_;rw[h1];show (match (kids d)[j]? with | some c=>_ | none=>_)=_;rw[h2];rfl
def Zf{s:L2.Step}{p:List L2.Step}{y:D}(h:gJ [s] d=NR y):gJ (s::p) d=gJ p y:=by show ((Eo s d).bind λj=>((kids d)[j]?).bind (gJ p))=gJ p y;unfold gJ at h;obtain⟨j,h1,h2⟩:=aZ h;obtain⟨z,h3,h4⟩:=aZ h2;unfold gJ at h4;cases h4;rw[h1,C4,h3,C4]
def Zg{s:L2.Step}{p:List L2.Step}{y:D}(h:gJ [s] d=NR y):fO (s::p) d x=fO [s] d (fO p y x):=by unfold gJ at h;obtain⟨j,h1,h2⟩:=aZ h;obtain⟨z,h3,h4⟩:=aZ h2;unfold gJ at h4;cases h4;rw[rO h1 h3];show (match Eo s d with | some j=>_ | none=>_)=_;rw[h1];show (match (kids d)[j]? with | some c=>_ | none=>_)=_;rw[h3]
def wI{f:Str}(h:posK Ze f=NR j):Eo (.fld C f) (eU C a b c d e)=NR j:=by show (if C=C then posK Ze f else sx)=NR j;rw[sk rfl];exact h
def Zh:gJ [.fld C "panes"] (eU C a b c d e)=NR a:=uW (wI Mz) U
def aBj:gJ [.fld C "asked"] (eU C a b c d e)=NR b:=uW (wI Nb) U
def mq:gJ [.fld C "newest"] (eU C a b c d e)=NR c:=uW (wI Hh) U
def aDs:gJ [.fld C "held"] (eU C a b c d e)=NR d:=uW (wI Uz) U
def JW:gJ [.fld C "unsettled"] (eU C a b c d e)=NR e:=uW (wI JV) U
def aBk:fO [.fld C "panes"] (eU C a b c d e) x=eU C x b c d e:=rO (wI Mz) (y:=a) U
def aBl:fO [.fld C "asked"] (eU C a b c d e) x=eU C a x c d e:=rO (wI Nb) (y:=b) U
def my:fO [.fld C "newest"] (eU C a b c d e) x=eU C a b x d e:=rO (wI Hh) (y:=c) U
def aDt:fO [.fld C "held"] (eU C a b c d e) x=eU C a b c x e:=rO (wI Uz) (y:=d) U
def zf:fO [.fld C "unsettled"] (eU C a b c d e) x=eU C a b c d x:=rO (wI JV) (y:=e) U
def JX{xs:List D}{k:Nat}(h:xs[k]?=NR x):gJ [.ix k] (.lst xs)=NR x:=uW (s:=.ix k) (d:=.lst xs) (j:=k) U h
def JZ{xs:List D}{k:Nat}{y:D}(h:xs[k]?=NR y):fO [.ix k] (.lst xs) x=.lst (xs.set k x):=rO (s:=.ix k) (d:=.lst xs) (j:=k) U h
end
def mz{p:List L2.Step}(h1:π e=NR p)(h2:g e=NR (.int k))(h3:0≤k):EY π g e=NR (p++[.ix k.toNat]):=by unfold EY;rw[h1,C4,h2,C4];dsimp only;rw[sk h3]
def uX{env:EN}{ds:List D}{p:List L2.Step}{nm:List Str}{x:Str}(h1:env[i]?=NR (.own d0))(h2:π (rE env)=NR p)(h3:gJ p d0=NR (.ins C nm ds))(h4:f (rE env)=NR d)(hl:nm.length<900)(hx:posK nm x=sx):wV C i π x f env=.next (env.set i (.own (fO p d0 (.ins C (nm++[x]) (ds++[d]))))):=by rw[aIE h1 h2 h3 h4 hl];unfold Yb;rw[hx]
def lastAt(cs:List lH)(p q:Int):Option Int:=((D5 cs.length).filter λk=>decide ((at_ cs k).bY=p∧(at_ cs k).place=q)).getLast?.map λk=>((k:Nat):Int)
def rP(cs:List lH)(c:lH)(p q:Int):lastAt (cs++[c]) p q=if c.bY=p∧c.place=q then NR (cs.length:Int)else lastAt cs p q:=by
 unfold lastAt;have e:(D5 cs.length).filter (λk=>decide ((at_ (cs++[c]) k).bY=p∧(at_ (cs++[c]) k).place=q))=(D5 cs.length).filter λk=>decide ((at_ cs k).bY=p∧(at_ cs k).place=q):=V3 λk hk=>by rw[gK (F7.mp hk)]
 rw[D1,show cs.length+[c].length=cs.length+1 from rfl,e9,P6,e];by_cases h:c.bY=p∧c.place=q
 ·rw[sk h,O8 (by rw[mK];exact tf h),N9,S9];rfl
 ·rw[sv h,O9 (by rw[mK];simpa using h),N9,F0]
def Ef{cs:List lH}(h:lastAt cs p q=NR k):0≤k∧k<(cs.length:Int)∧(at_ cs k.toNat).bY=p∧(at_ cs k.toNat).place=q:=by unfold lastAt at h;obtain⟨j,h1,rfl⟩:=kJ h;have hm:=X0 h1;obtain⟨m1,m2⟩:=K3.mp hm;have:=F7.mp m1;have m2:=of_decide_eq_true m2;rw[C7];exact⟨by omega,by omega,m2⟩
theorem xQ{α β:Type}[DecidableEq α][DecidableEq β]{φ:α→β}(hi:∀a b,φ a=φ b→a=b)(k:α):∀ks:List α,posK (ks.map φ) (φ k)=posK ks k
 | []=>rfl
 | a::ks=>by
  rw[E2];unfold posK;rw[xQ hi k ks];by_cases c:a=k
  ·rw[sk c,sk (by rw[c])]
  ·rw[sv c,sv λz=>c (hi _ _ z)]
def YF{α β:Type}[DecidableEq α][DecidableEq β]{φ:α→β}(hi:∀a b,φ a=φ b→a=b)(k:α)(ks:List α):mH (ks.map φ) (φ k)=(mH ks k).map φ:=by
 unfold mH;rw[xQ hi];split
 ·rfl
 ·rw[J6];rfl
def YG{α β γ δ:Type}[DecidableEq α][DecidableEq β]{φ:α→β}(hi:∀a b,φ a=φ b→a=b)(ψ:γ→δ)(k:α)(ks:List α)(ds:List γ)(d:γ):putD (ks.map φ) (ds.map ψ) (φ k) (ψ d)=(putD ks ds k d).map ψ:=by
 unfold putD;rw[xQ hi];split
 ·rw[List.zipWith_map,List.map_zipWith];congr 1
  funext a b
  by_cases c:a=k
  ·rw[sk c,sk (by rw[c])]
  ·rw[sv c,sv λz=>c (hi _ _ z)]
 ·rw[J6];rfl
def aIP{α β:Type}[DecidableEq α]{ks:List α}{ds:List β}{k k':α}{d:β}(h:posK ks k'=NR j)(hl:ks.length=ds.length):(R9 (λa b=>if a=k then d else b) ks ds)[j]?=if k'=k then NR d else ds[j]?:=by
 obtain⟨h1,h2⟩:=tD h;rw[List.getElem?_zipWith,h2,B6 (by omega)];show NR (if k'=k then d else ds[j])=_
 split<;>rfl
theorem mO{α β:Type}[DecidableEq α]{k k':α}{d:β}:∀{ks:List α} {ds:List β},ks.length=ds.length→((posK (mH ks k) k').bind λj=>(putD ks ds k d)[j]?)=if k'=k then NR d else(posK ks k').bind λj=>ds[j]?
 | [],ds,h=>by
  cases ds with
  | cons=>simp at h
  | nil=>
   show ((posK [k] k').bind λj=>[d][j]?)=_;unfold posK;by_cases c:k=k'
   ·rw[sk c,sk c.symm];rfl
   ·rw[sv c,sv λz=>c z.symm];rfl
 | a::ks,[],h=>by simp at h
 | a::ks,x::ds,h=>by
  have h':ks.length=ds.length:=by simpa using h
  by_cases c:a=k
  ·have e0:posK (a::ks) k=NR 0:=by unfold posK;rw[sk c]
   unfold mH putD;rw[e0];simp only[l9,if_true];cases q:posK (a::ks) k' with
   | none=>
    have:k'≠k:=λz=>by rw[z,e0]at q;cases q
    rw[sv this];rfl
   | some j=>rw[C4,aIP q h];rfl
  ·have e1:mH (a::ks) k=a::mH ks k:=by
    have e0:posK (a::ks) k=(posK ks k).map (·+1):=by show (if a=k then NR 0 else(posK ks k).map (·+1))=_;rw[sv c]
    unfold mH;rw[e0];cases posK ks k<;>rfl
   have e2:putD (a::ks) (x::ds) k d=x::putD ks ds k d:=by
    have e0:posK (a::ks) k=(posK ks k).map (·+1):=by show (if a=k then NR 0 else(posK ks k).map (·+1))=_;rw[sv c]
    unfold putD;rw[e0];cases posK ks k with
    | none=>rfl
    | some j=>show (if a=k then d else x)::_=_;rw[sv c];rfl
   rw[e1,e2];have ih:=mO (k:=k) (k':=k') (d:=d) h';show ((if a=k' then NR 0 else(posK (mH ks k) k').map (·+1)).bind _)=if k'=k then NR d else((if a=k' then NR 0 else(posK ks k').map (·+1)).bind _);by_cases c2:a=k'
   ·rw[sk c2,sk c2,sv (by rw[←c2];exact c)];rfl
   ·rw[sv c2,sv c2];have m:∀{γ:Type}(o:Option Nat)(y:γ)(l:List γ),((o.map (·+1)).bind λj=>(y::l)[j]?)=o.bind λj=>l[j]?:=λo y l=>by cases o<;>rfl
    rw[m,m,ih]
structure Cq(b:Bn):Prop where
 good:Good b.asked
 nums:Nums b.asked b.held
 YH:∀k,k<b.asked.length→0≤(at_ b.asked k).bY∧(at_ b.asked k).bY<(b.bB.length:Int)∧0≤(L2.at_ b.asked k).place∧(L2.at_ b.asked k).place<((b.bB.getD (L2.at_ b.asked k).bY.toNat []).length:Int)
 nl:b.nk.length=b.nv.length
 nw:∀p q:Int,((posK b.nk (p,q)).bind λj=>b.nv[j]?)=lastAt b.asked p q
 few:b.bB.length≤8
 nkl:b.nk.length≤b.asked.length
def xR{ps:List (List (List Int))}(h0:0≤p)(h1:p<(ps.length:Int)):cW (jM ps) (.int p)=NR (eN (ps.getD p.toNat [])):=tK h0 (by
 rw[C5,dU (d:=[]) (show p.toNat<ps.length by omega)]
 rfl)
def xT(ps:List (List (List Int))):gZ [jM ps]=NR (.int ps.length):=by show NR (D.int ((ps.map eN).length:Nat))=_;rw[B8]
def rQ(ps:List (List Int)):gZ [eN ps]=NR (.int ps.length):=by show NR (D.int ((ps.map dTup).length:Nat))=_;rw[B8]
variable(κ:Nat→AF)
def Ke{e:List D}(h0:0≤p)(h1:p<(b.bB.length:Int)):jP κ [lG (κ 0) b e,.int p]=NR .non:=by
 refine Gm (aI:=[.fro (lG (κ 0) b e),.fro (.int p)]) U ?_;unfold zW;rw[nH]
 ·rfl
 refine(pZ (Qj U U (cV (aA (dW U Ed) U) (xT _)))).trans ?_;rw[tf h0,tf h1];rfl
def Ff{e:List D}(h0:0≤p)(h1:p<(b.bB.length:Int))(h2:0≤q)(h3:q<((b.bB.getD p.toNat []).length:Int)):iU κ [lG (κ 0) b e,.int p,.int q]=NR .non:=by
 refine Gm (aI:=[.fro (lG (κ 0) b e),.fro (.int p),.fro (.int q)]) U ?_;unfold xJ;refine(dH (aI:=[.fro (lG (κ 0) b e),.fro (.int p),.fro (.int q)]) (Jh (d:=.non) ?_)).trans ?_
 ·exact bU (nm:=Ze) U (by walk_at "k") U U (Ke κ h0 h1)
 rw[nH]
 ·rfl
 refine(pZ (Qj U U (cV (aA (aJ (dW U Ed) U (xR h0 h1)) U) (rQ _)))).trans ?_;rw[tf h2,tf h3];rfl
def Cr{e:List D}(h0:0≤p)(h1:p<(b.asked.length:Int)):iG κ [lG (κ 0) b e,.int p]=NR .non:=by
 refine Gm (aI:=[.fro (lG (κ 0) b e),.fro (.int p)]) U ?_;unfold vO;rw[nH]
 ·rfl
 refine(pZ (Qj U U (cV (aA (dW U xP) U) (HH _)))).trans ?_;rw[tf h0,tf h1];rfl
def eV(b:Bn)(p q:Int)(th ns:List Int):lH:=⟨p,q,th,aq (ns++(lastAt b.asked p q).toList)⟩
def Bn.put(b:Bn)(p q:Int)(th ns:List Int):Bn:={b with asked:=b.asked++[eV b p q th ns],nk:=mH b.nk (p,q),nv:=putD b.nk b.nv (p,q) (b.asked.length:Int)}
def Zi{cs:List lH}(h:(cs.length:Int)∉l):oE (cs++[c]) l p=if c.bY=p then oE cs l p++[(cs.length:Int)]else oE cs l p:=by
 unfold oE;have e:(D5 cs.length).filter (λk=>decide ((at_ (cs++[c]) k).bY=p)&&!decide ((k:Int)∈l))=(D5 cs.length).filter λk=>decide ((at_ cs k).bY=p)&&!decide ((k:Int)∈l):=V3 λk hk=>by rw[gK (F7.mp hk)]
 rw[D1,show cs.length+[c].length=cs.length+1 from rfl,e9,P6,e,J6];by_cases q:c.bY=p
 ·rw[sk q,O8 (by rw[mK,tf q,tj h];rfl)];rfl
 ·rw[sv q,O9 (by rw[mK,tj q];simp),N9,K9,F0]
def aFM{n:Nat}{cs:List lH}(h:(cs.length:Int)∉l)(h0:0≤c.bY)(h1:c.bY<(n:Int)):(vB n cs l).set c.bY.toNat (aN (oE cs l c.bY++[(cs.length:Int)]))=vB n (cs++[c]) l:=by
 unfold vB;apply K5;intro k;rw[G8,B8,E1,C5,C5];by_cases e:c.bY.toNat=k
 ·rw[sk e,sk (by omega),I0 (by omega),J3,Zi h,sk (show c.bY=((k:Nat):Int) by omega),show ((k:Nat):Int)=c.bY by omega]
 ·rw[sv e];by_cases hk:k<n
  ·rw[I0 hk,J3,J3,Zi h,sv (by omega)]
  ·rw[D9 (by rw[E1];omega)];rfl
def KC{n:Nat}{cs:List lH}(h0:0≤p)(h1:p<(n:Int)):(vB n cs l)[p.toNat]?=NR (aN (oE cs l p)):=by unfold vB;rw[C5,I0 (by omega),J3,show ((p.toNat:Nat):Int)=p by omega]
def Cq.put(h:Cq b){ns:List Int}(h60:b.asked.length<124)(h0:0≤p)(h1:p<(b.bB.length:Int))(h2:0≤q)(h3:q<((b.bB.getD p.toNat []).length:Int))(hn:∀m∈ns,0≤m∧m<(b.asked.length:Int))(hl:ns.length≤8):Cq (b.put p q th ns):=by
 have aKz:∀m∈(eV b p q th ns).needs,0≤m∧m<(b.asked.length:Int):=λm hm=>by
  have hm:=(Dq _ _).mp hm;rcases F8.mp hm with z | z
  ·exact hn m z
  ·cases e:lastAt b.asked p q with
   | none=>rw[e]at z;cases z
   | some k=>rw[e]at z;rw[D2.mp z];have:=Ef e;exact⟨this.1,this.2.1⟩
 have ag:(b.put p q th ns).asked.length=b.asked.length+1:=by unfold Bn.put;rw[D1];rfl
 have me:∀k,k<(b.put p q th ns).asked.length→(k<b.asked.length∧at_ (b.put p q th ns).asked k=at_ b.asked k)∨(k=b.asked.length∧at_ (b.put p q th ns).asked k=eV b p q th ns):=λk hk=>by
  rw[ag]at hk;rcases G4 k b.asked.length with z | z
  ·exact .inl ⟨z,gK z⟩
  ·have e:k=b.asked.length:=by omega
   subst e;exact .inr ⟨U,mK _ _⟩
 refine⟨⟨by rw[ag];omega,λk hk=>?_⟩,⟨h.nums.1,λx hx=>?_⟩,λk hk=>?_,?_,λp' q'=>?_,h.few,?_⟩
 ·rcases me k hk with ⟨a,e⟩ | ⟨a,e⟩
  ·rw[e];exact h.good.2 k a
  ·rw[e,a]
   refine⟨aKz,je _,?_⟩;have:=wz (ns++(lastAt b.asked p q).toList);show (aq (ns++(lastAt b.asked p q).toList)).length≤9;rw[D1]at this;have:(lastAt b.asked p q).toList.length≤1:=by cases lastAt b.asked p q<;>simp
   omega
 ·have:=h.nums.2 x hx
  rw[ag];omega
 ·rcases me k hk with ⟨a,e⟩ | ⟨a,e⟩
  ·have:=h.YH k a
   rw[e];exact this
  ·rw[e]
   exact⟨h0,h1,h2,h3⟩
 ·exact wQ h.nl
 ·show ((posK (mH b.nk (p,q)) (p',q')).bind λj=>(putD b.nk b.nv (p,q) (b.asked.length:Int))[j]?)=lastAt (b.asked++[eV b p q th ns]) p' q'
  rw[mO h.nl,rP,h.nw];by_cases c:(p',q')=(p,q)
  ·have c1:p'=p:=congrArg Prod.fst c
   have c2:q'=q:=congrArg Prod.snd c;rw[sk c,sk ⟨c1.symm,c2.symm⟩]
  ·rw[sv c,sv λz=>c (r9 z.1.symm z.2.symm)]
 ·have:=h.nkl
  rw[ag];show (mH b.nk (p,q)).length≤_;unfold mH;split
  ·omega
  ·rw[D1];simp;omega
def aDu(h:Cq b)(p q:Int):posK (b.nk.map rN) (rN (p,q))=posK b.nk (p,q):=xQ (λ_ _=>Kd) _ _
def aIQ(h:Cq b){ns:List Int}(h0:0≤p)(h1:p<(b.bB.length:Int))(h2:0≤q)(h3:q<((b.bB.getD p.toNat []).length:Int))(hn:∀m∈ns,0≤m∧m<(b.asked.length:Int))(hl:ns.length≤50)(ia:(nd=.non∧ns=[])∨nd=aN ns):Ea κ [dX (κ 0) b,.int p,.int q,dTup th,nd]=NR (.int b.asked.length,dX (κ 0) (b.put p q th ns)):=by
 refine qD U λv=>?_;unfold Za;refine jw (d:=.non) (bU U (show ("check_place":Str)∉Ze by decide +kernel) U U (Ff κ h0 h1 h2 h3)) ?_;have h60:=h.good.1;refine cD (d:=aN ns) ?_ (by walk_at "n") ?_
 ·rcases ia with ⟨rfl,rfl⟩ | rfl
  ·exact aGM (cB (aJ U U (Dz NV .non))) U
  ·exact aGN (cB (aJ U U (Dz NV (aN ns)))) (cV (aA U U) (wX (fK ns)))
 refine jx (ns:=ns) [.inn v (dX (κ 0) b),.fro (.int p),.fro (.int q),.fro (dTup th),.fro nd,.own (aN ns),lv ns .no ns.length,.no] U U (λv2 k env=>env=[.inn v (dX (κ 0) b),.fro (.int p),.fro (.int q),.fro (dTup th),.fro nd,.inn v2 (aN ns),lv ns .no k,.no]) (λv2=>rfl) (λv2 k env e=>by rw[e];rfl) ?_ (λv2 env e=>by rw[e];rfl) ?_
 ·rintro v2 k x env hx rfl
  refine⟨by walk_at "lt",_,Jh (d:=.non) (bU U (show ("check_change":Str)∉Ze by decide +kernel) U U (Cr κ (hn x (D6 hx)).1 (hn x (D6 hx)).2)),?_⟩;have e:lv ns .no (k+1)=.fro (.int x):=by show SD.fro (.int (ns.getD k 0))=_;rw[dY hx]
  rw[e];rfl
 have eh:∀vv7:SD,Lk (aB (aD 1) (aB (aD 2) aL)) (rE [.inn v (dX (κ 0) b),.fro (.int p),.fro (.int q),.fro (dTup th),.fro nd,.own (aN ns),lv ns .no ns.length,vv7])=NR (rN (p,q)):=λ_=>rfl;have kQ:fB (Wf NV (Lk (aB (aD 1) (aB (aD 2) aL))) (tG (fP (κ 0) "newest") (aD 0))) (rE [.inn v (dX (κ 0) b),.fro (.int p),.fro (.int q),.fro (dTup th),.fro nd,.own (aN ns),lv ns .no ns.length,.no])=NR (posK b.nk (p,q)).isSome:=by refine cB ?_;unfold Wf;rw[eh,C4];rw[show tG (fP (κ 0) "newest") (aD 0) (rE [.inn v (dX (κ 0) b),.fro (.int p),.fro (.int q),.fro (dTup th),.fro nd,.own (aN ns),lv ns .no ns.length,.no])=NR (.dt (b.nk.map rN) (b.nv.map D.int))from dW U Hi,C4];dsimp only;rw[aDu h];rfl
 have hif:qU (fB (Wf NV (Lk (aB (aD 1) (aB (aD 2) aL))) (tG (fP (κ 0) "newest") (aD 0)))) (vA 5 dC (Tj (tG (fP (κ 0) "newest") (aD 0)) (Lk (aB (aD 1) (aB (aD 2) aL))))) fM [.inn v (dX (κ 0) b),.fro (.int p),.fro (.int q),.fro (dTup th),.fro nd,.own (aN ns),lv ns .no ns.length,.no]=.next [.inn v (dX (κ 0) b),.fro (.int p),.fro (.int q),.fro (dTup th),.fro nd,.own (aN (ns++(lastAt b.asked p q).toList)),lv ns .no ns.length,.no]:=by
  have hw:=h.nw p q;cases e:posK b.nk (p,q)with
  | none=>rw[e]at kQ hw;rw[nH kQ,←hw];show SR.next _=SR.next _;rw[show ((sx:Option Nat).bind λj=>b.nv[j]?)=sx from rfl];show SR.next _=SR.next [_,_,_,_,_,.own (aN (ns++[])),_,_];rw[F0]
  | some j=>
   rw[e]at kQ hw;obtain⟨j1,j2⟩:=tD e;have hj:j<b.nv.length:=by rw[←h.nl];exact j1
   rw[wW kQ,←hw,C4,B6 hj];refine(aC7 (ds:=ns.map D.int) (d:=.int b.nv[j]) U ?_ (by rw[B8];omega)).trans ?_
   ·unfold Tj
    rw[show tG (fP (κ 0) "newest") (aD 0) (rE [.inn v (dX (κ 0) b),.fro (.int p),.fro (.int q),.fro (dTup th),.fro nd,.own (aN ns),lv ns .no ns.length,.no])=NR (.dt (b.nk.map rN) (b.nv.map D.int))from dW U Hi,C4,eh,C4];dsimp only;rw[aDu h,e,C4,C5,B6 hj];rfl
   ·rw[yR]
    rfl
 refine aDc hif ?_;have h4:(ns++(lastAt b.asked p q).toList).length≤51:=by
  rw[D1];have:(lastAt b.asked p q).toList.length≤1:=by cases lastAt b.asked p q<;>simp
  omega
 refine cD (d:=.int b.asked.length) (cV (aA (dW U xP) U) (HH _)) (by walk_at "n") ?_;refine rC (d:=dX (κ 0) b) U (Lr (d0:=dX (κ 0) b) (ds:=b.asked.map MP) (d:=MP (eV b p q th ns)) U U aBj ?_ (by rw[B8];omega)) U ?_
 ·exact pF (aA (bD U U) (aA (bD U U) (aA (bD U (lY th)) (aA (cV (aA (dW U (jt (by omega))) U) (VJ _)) U)))) (by walk_at "n")
 rw[show fO ([]++[L2.Step.fld (κ 0) "asked"]) (dX (κ 0) b) (.lst (b.asked.map MP++[MP (eV b p q th ns)]))=eU (κ 0) (jM b.bB) (yX (b.asked++[eV b p q th ns])) (.dt (b.nk.map rN) (b.nv.map D.int)) (Vo b.held) (.lst (vB b.bB.length b.asked b.held))from by rw[aA6];exact aBl];refine rC U (aFJ (d:=.int b.asked.length) (k:=rN (p,q)) U U mq U U U (by
  have:=h.nl;rw[B8];have:=h.nkl
  omega)) U ?_
 rw[show fO ([]++[L2.Step.fld (κ 0) "newest"]) (eU (κ 0) (jM b.bB) (yX (b.asked++[eV b p q th ns])) (.dt (b.nk.map rN) (b.nv.map D.int)) (Vo b.held) (.lst (vB b.bB.length b.asked b.held))) (.dt (mH (b.nk.map rN) (rN (p,q))) (putD (b.nk.map rN) (b.nv.map D.int) (rN (p,q)) (.int b.asked.length)))=eU (κ 0) (jM b.bB) (yX (b.asked++[eV b p q th ns])) (.dt ((mH b.nk (p,q)).map rN) ((putD b.nk b.nv (p,q) (b.asked.length:Int)).map D.int)) (Vo b.held) (.lst (vB b.bB.length b.asked b.held))from by
  rw[YF (λ_ _=>Kd),YG (λ_ _=>Kd) D.int];exact my]
 refine rC U (Lr (p:=[L2.Step.fld (κ 0) "unsettled",.ix p.toNat]) (ds:=(oE b.asked b.held p).map D.int) (d:=.int b.asked.length) U ?_ ((Zf JW).trans (JX (KC h0 h1))) (bD U U) ?_) U ?_
 ·show (if 0≤p then _ else _)=_
  rw[sk h0];rfl
 ·rw[B8]
  have:=YC b.asked b.held p;omega
 refine Qi U ⟨_,.inl U,?_⟩;show NR (SD.inn v (fO [L2.Step.fld (κ 0) "unsettled",.ix p.toNat] _ _))=NR (SD.inn v _);rw[Zg JW,JZ (KC h0 h1),zf];have hnot:(b.asked.length:Int)∉b.held:=λz=>by have:=h.nums.2 _ z;omega
 have e:=aFM (n:=b.bB.length) (c:=eV b p q th ns) hnot h0 h1;rw[←yR]at e;rw[show p.toNat=(eV b p q th ns).bY.toNat from rfl,show oE b.asked b.held p=oE b.asked b.held (eV b p q th ns).bY from rfl,e];rfl
def aFN{uY:List (List (List Int))}(hl:uY.length≤8):uN κ [.ins (κ 0) [] [],jM uY]=NR (.non,dX (κ 0) ⟨uY,[],[],[],[]⟩):=by
 refine qD U λv=>?_;unfold Ug;have h1:eE (kO (aD 1)) [] gP (fL dList (aB (aD 0) aL)) (rE ([.inn v (.ins (κ 0) [] []),.fro (jM uY)].set 0 (.own (.ins (κ 0) [] []))))=NR (jM uY):=mC (xs:=uY) (ψ:=eN) (φ:=eN) (gD U) (by omega) λx _=>cV (aA U U) (wX (Tv λd hd=>by
  obtain⟨t,_,rfl⟩:=J4.mp hd;exact lY t))
 refine rC U (uX (p:=[]) (nm:=[]) U U U h1 (by decide) U) U ?_;refine rC U (uX (p:=[]) (nm:=["panes"]) (d:=yX []) U U U U (by decide) (by walk_at "k")) U ?_;refine rC U (uX (p:=[]) (nm:=["panes","asked"]) (d:=.dt [] []) U U U U (by decide) (by walk_at "k")) U ?_;refine rC U (uX (p:=[]) (nm:=["panes","asked","newest"]) (d:=Vo []) U U U U (by decide) (by walk_at "k")) U ?_;refine Ua U (uX (p:=[]) (nm:=["panes","asked","newest","held"]) (d:=.lst (uY.map λ_=>aN [])) U U U (mC (xs:=uY) (ψ:=eN) (φ:=λ_=>aN []) (gD U) (by omega) λx _=>rfl) (by decide) (by walk_at "k")) U ⟨_,.inr ⟨U,U⟩,?_⟩;have e:(uY.map λ_=>aN [])=vB uY.length [] []:=by
  unfold vB;apply K5;intro k;rw[C5,C5];by_cases hk:k<uY.length
  ·rw[B6 hk,I0 hk];rfl
  ·rw[D9 (by omega),D9 (by rw[E1];omega)];rfl
 unfold dX lG;dsimp only;rw[←e];rfl
def Cq.init{uY:List (List (List Int))}(hl:uY.length≤8):Cq ⟨uY,[],[],[],[]⟩:=⟨⟨L5 _,λk hk=>absurd hk (J9 _)⟩,⟨i4,λx hx=>by cases hx⟩,λk hk=>absurd hk (J9 _),U,λp q=>rfl,hl,C9 _⟩
def val(ps:List (List (List Int)))(p q:Nat):List Int:=(ps.getD p []).getD q []
def topOf(cs:List lH)(d:List Int):Option Int→List Int
 | some k=>(at_ cs k.toNat).thing
 | none=>d
def zg(p q:Int):posK (b.nk.map rN) (rN (p,q))=posK b.nk (p,q):=xQ (λ_ _=>Kd) _ _
def face(b:Bn)(p q:Int):List Int:=topOf b.asked (val b.bB p.toNat q.toNat) (lastAt b.asked p q)
def Va{ps:List (List Int)}(h0:0≤q)(h1:q<(ps.length:Int)):cW (eN ps) (.int q)=NR (dTup (ps.getD q.toNat [])):=tK h0 (by
 rw[C5,dU (d:=[]) (show q.toNat<ps.length by omega)]
 rfl)
def aFO(h:Cq b)(h0:0≤p)(h1:p<(b.bB.length:Int))(h2:0≤q)(h3:q<((b.bB.getD p.toNat []).length:Int)):uO κ [dX (κ 0) b,.int p,.int q]=NR (dTup (face b p q)):=by
 suffices hh:∃d,uO κ [dX (κ 0) b,.int p,.int q]=NR d∧d=dTup (face b p q) by obtain⟨d,e1,rfl⟩:=hh;exact e1
 refine yo U ?_;unfold Uj;refine jw (d:=.non) (bU U (show ("check_place":Str)∉Ze by decide +kernel) U U (Ff κ h0 h1 h2 h3)) ?_;have eh:Lk (aB (aD 1) (aB (aD 2) aL)) (rE [.fro (dX (κ 0) b),.fro (.int p),.fro (.int q)])=NR (rN (p,q)):=rfl;have hnw:tG (fP (κ 0) "newest") (aD 0) (rE [.fro (dX (κ 0) b),.fro (.int p),.fro (.int q)])=NR (.dt (b.nk.map rN) (b.nv.map D.int)):=dW U Hi;have kQ:fB (Wf NV (Lk (aB (aD 1) (aB (aD 2) aL))) (tG (fP (κ 0) "newest") (aD 0))) (rE [.fro (dX (κ 0) b),.fro (.int p),.fro (.int q)])=NR (posK b.nk (p,q)).isSome:=by refine cB ?_;unfold Wf;rw[eh,C4,hnw,C4];dsimp only;rw[zg];rfl
 have hw:=h.nw p q;unfold face;cases e:posK b.nk (p,q)with
 | some j=>
  rw[e]at kQ hw;obtain⟨j1,j2⟩:=tD e;have hj:j<b.nv.length:=by rw[←h.nl];exact j1
  rw[C4,B6 hj]at hw;have hl:=Ef hw.symm;rw[←hw];refine aGL kQ U ?_;have hg:Tj (tG (fP (κ 0) "newest") (aD 0)) (Lk (aB (aD 1) (aB (aD 2) aL))) (rE [.fro (dX (κ 0) b),.fro (.int p),.fro (.int q)])=NR (.int b.nv[j]):=by unfold Tj;rw[hnw,C4,eh,C4];dsimp only;rw[zg,e,C4,C5,B6 hj];rfl
  have hc:cW (yX b.asked) (.int b.nv[j])=NR (MP (at_ b.asked b.nv[j].toNat)):=by have:=HF (cs:=b.asked) (k:=b.nv[j].toNat) (by omega);rw[show ((b.nv[j].toNat:Nat):Int)=b.nv[j] by omega]at this;exact this
  exact VF (bD (aJ (aJ (dW U xP) hg hc) U (Tz _)) (lY _)) ⟨_,U,U⟩
 | none=>rw[e]at kQ hw;rw[←hw];refine wY kQ U ?_;apply yS;exact pL (bD (aJ (aJ (dW U Ed) U (xR h0 h1)) U (Va h2 h3)) (lY _)) ⟨_,U,U⟩
def ni(cs:List lH)(l:List Int)(bY:Int)(r:List Int):Prop:=r.Pairwise (·<·)∧r.length≤cs.length∧∀x,x∈r↔(0≤x∧x<cs.length∧(at_ cs x.toNat).bY=bY∧x∉l)∧∀m∈(at_ cs x.toNat).needs,m∈l∨m∈r
def aDv{cs:List lH}{ks nums:List Int}(hg:Good cs)(hu:nums.Pairwise (·<·))(hn:∀x∈nums,0≤x∧x<cs.length)(hl:nums.length≤124):∃r,uQ [yX cs,Vo ks,aN nums]=NR (aN r)∧r.Pairwise (·<·)∧r.length≤nums.length∧∀x,x∈r↔x∈nums∧∀m∈(at_ cs x.toNat).needs,m∈ks∨m∈r:=by
 suffices h:∃d,uQ [yX cs,Vo ks,aN nums]=NR d∧∃r,d=aN r∧r.Pairwise (·<·)∧r.length≤nums.length∧∀x,x∈r↔x∈nums∧∀m∈(at_ cs x.toNat).needs,m∈ks∨m∈r by obtain⟨d,h1,r,rfl,h2⟩:=h;exact⟨r,h1,h2⟩
 refine oM U ?_;unfold Uk;refine cD (d:=Vo []) U (by walk_at "n") ?_;refine yh (xs:=nums.map D.int) (λn env=>∃(r:List Int)(v:SD),env=[.fro (yX cs),.fro (Vo ks),.fro (aN nums),.own (Vo r),v]∧r.Pairwise (·<·)∧r.length≤n∧∀x,x∈r↔x∈nums.take n∧∀m∈(at_ cs x.toNat).needs,m∈ks∨m∈r) U (gD U) ⟨[],_,U,.nil,C9 _,λx=>by simp⟩ ?_ ?_
 ·rintro n x env hx ⟨r,v,rfl,h1,h2,h3⟩
  refine⟨by walk_at "lt",?_⟩;rw[C5]at hx;cases qq:nums[n]? with
  | none=>rw[qq]at hx;cases hx
  | some y=>
   rw[qq]at hx;cases hx;have hnl:=(D4.mp qq).1;have hy:=hn y (D6 qq);obtain⟨k,rfl⟩:∃k:Nat,y=k:=⟨y.toNat,by omega⟩
   have hk:k<cs.length:=by omega
   obtain⟨g1,g2,g3⟩:=hg.2 k hk;have hc:=HF (cs:=cs) hk;have kq:nums.take (n+1)=nums.take n++[(k:Int)]:=by rw[Q2,qq];rfl
   have lt:∀z∈nums.take n,z<(k:Int):=λz hz=>by have hu':=hu.sublist (M6 (n+1) nums);rw[kq]at hu';exact(K6.mp hu').2.2 z hz k (by simp)
   have rlt:∀z∈r,z<(k:Int):=λz hz=>lt z ((h3 z).mp hz).1;have Cu:=Lq (fi:=kO (f2 cW (f2 cW (aD 0) (aD 4)) (fC (.int 3)))) (fr:=[1,3]) (fc:=gP) (fe:=aAD (f2 (Ib NV) (aD 0) (aD 1)) (f2 (Ib NV) (aD 0) (aD 2))) (e:=rE [.fro (yX cs),.fro (Vo ks),.fro (aN nums),.own (Vo r),.fro (.int (k:Int))]) (ms:=(at_ cs k).needs) (λ_=>NU) (λm=>.bl (decide (m∈ks)||decide (m∈r)))
    (aA7 (aJ (aJ U U hc) U (VP _))) (by omega) (λm hm=>rfl) λm hm _=>aFI (aJ U U (HD NV m ks)) (aJ U U (HD NV m r))
   rw[R4.mpr λ_ _=>rfl]at Cu;have mn:=Jg (λm:Int=>decide (m∈ks)||decide (m∈r)) (at_ cs k).needs;apply Bl (b:=(at_ cs k).needs.all λm=>decide (m∈ks)||decide (m∈r))
   ·exact cB (cV (aA Cu U) mn)
   ·intro hb
    have hb:∀m∈(at_ cs k).needs,m∈ks∨m∈r:=λm hm=>by simpa using N3.mp hb m hm
    have hnr:(k:Int)∉r:=λz=>by have:=rlt _ z;omega
    have e:jr r k=r++[(k:Int)]:=by unfold jr;rw[sv hnr]
    have hp:=aKx (i:=3) (f:=aD 4) (f':=fC (.bl NU)) (env:=[.fro (yX cs),.fro (Vo ks),.fro (aN nums),.own (Vo r),.fro (.int (k:Int))]) (ks:=r) (k:=k) U U U (by omega);rw[e]at hp;refine⟨_,hp,r++[(k:Int)],_,U,?_,by rw[D1];simp;omega,λz=>?_⟩
    ·refine K6.mpr ⟨h1,by simp,λz hz w hw=>?_⟩
     rw[D2.mp hw];exact rlt z hz
    ·rw[kq,F8,F8]
     constructor
     ·rintro(z1 | z1)
      ·obtain⟨a1,a2⟩:=(h3 z).mp z1
       exact⟨.inl a1,λm hm=>(a2 m hm).imp id λq=>F5 _ q⟩
      ·rw[D2.mp z1,C7]
       exact⟨.inr (by simp),λm hm=>(hb m hm).imp id λq=>F5 _ q⟩
     ·rintro⟨z1,z2⟩
      rcases z1 with z1 | z1
      ·refine .inl ((h3 z).mpr ⟨z1,λm hm=>(z2 m hm).imp id λq=>?_⟩)
       rcases F8.mp q with q | q
       ·exact q
       ·exfalso
        have a:=lt z z1;have zr:=hn z (L7 z1);have b:=(hg.2 z.toNat (by omega)).1 m hm;rw[D2.mp q]at b;omega
      ·exact .inr z1
   ·intro hb
    have hb:¬∀m∈(at_ cs k).needs,m∈ks∨m∈r:=λz=>by
     have:((at_ cs k).needs.all λm=>decide (m∈ks)||decide (m∈r))=NU:=N3.mpr λm hm=>by simpa using z m hm
     rw[this]at hb;cases hb
    apply aDd;refine⟨_,U,r,_,U,h1,by omega,λz=>?_⟩;rw[kq,F8];constructor
    ·intro z1
     obtain⟨a1,a2⟩:=(h3 z).mp z1;exact⟨.inl a1,a2⟩
    ·rintro⟨z1,z2⟩
     rcases z1 with z1 | z1
     ·exact(h3 z).mpr ⟨z1,z2⟩
     ·rw[D2.mp z1,C7]at z2
      exact absurd z2 hb
 ·rintro env ⟨r,v,rfl,h1,h2,h3⟩
  rw[B8]at h2 h3;rw[P1]at h3;exact pL (cV (aA U U) (aDi r)) ⟨_,U,r,U,h1,h2,h3⟩
def Bn.strike(b:Bn)(k:Int):Bn:={b with bB:=b.bB.set (at_ b.asked k.toNat).bY.toNat ((b.bB.getD (at_ b.asked k.toNat).bY.toNat []).set (at_ b.asked k.toNat).place.toNat (at_ b.asked k.toNat).thing),held:=b.held++[k]}
def Bn.bW(b:Bn)(ks:List Int):Bn:=ks.foldl Bn.strike b
def iQ(ks:List Int):∀b:Bn,(b.bW ks).asked=b.asked:=by
 induction ks with
 | nil=>intro b;rfl
 | cons k ks ih=>intro b;exact(ih (b.strike k)).trans U
def tW(ks:List Int):∀b:Bn,(b.bW ks).held=b.held++ks:=by
 induction ks with
 | nil=>intro b;exact(F0 _).symm
 | cons k ks ih=>intro b;exact(ih (b.strike k)).trans (by show (b.held++[k])++ks=_;rw[P9];rfl)
def nq(ks:List Int):∀b:Bn,(b.bW ks).nk=b.nk∧(b.bW ks).nv=b.nv:=by
 induction ks with
 | nil=>intro b;exact⟨U,U⟩
 | cons k ks ih=>intro b;exact ih (b.strike k)
def KD(b:Bn)(k:Int):(b.strike k).bB.length=b.bB.length∧∀p:Nat,((b.strike k).bB.getD p []).length=(b.bB.getD p []).length:=by
 unfold Bn.strike;refine⟨by rw[J5],λp=>?_⟩;dsimp only;simp only[B7,G8];split
 ·rename_i c;split
  ·rename_i l;rw[P0,J5,c]
  ·rename_i l;rw[D9 (show b.bB.length≤p by omega)]
 ·rfl
def kE(ks:List Int):∀b:Bn,(b.bW ks).bB.length=b.bB.length∧∀p:Nat,((b.bW ks).bB.getD p []).length=(b.bB.getD p []).length:=by
 induction ks with
 | nil=>intro b;exact⟨U,λ_=>rfl⟩
 | cons k ks ih=>intro b;have a:=ih (b.strike k);have c:=KD b k;exact⟨a.1.trans c.1,λp=>(a.2 p).trans (c.2 p)⟩
def KH(b:Bn)(ks:List Int)(k:Int):b.bW (ks++[k])=(b.bW ks).strike k:=by unfold Bn.bW;rw[V1];rfl
def Cq.bW(h:Cq b){r:List Int}(hu:r.Nodup)(hm:∀x∈r,0≤x∧x<(b.asked.length:Int))(hn:∀x∈r,x∉b.held):Cq (b.bW r):=by
 have e1:=iQ r b;have e2:=tW r b;have e3:=nq r b;have e4:=kE r b;refine⟨by rw[e1];exact h.good,?_,λk hk=>?_,?_,λp q=>?_,by rw[e4.1];exact h.few,?_⟩
 ·rw[e1,e2];refine⟨Q1.mpr ⟨h.nums.1,hu,λa ha c hc z=>hn c hc (z▸ha)⟩,λx hx=>?_⟩;rcases F8.mp hx with z | z
  ·exact h.nums.2 x z
  ·exact hm x z
 ·rw[e1]at hk ⊢;rw[e4.1,e4.2];exact h.YH k hk
 ·rw[e3.1,e3.2];exact h.nl
 ·rw[e3.1,e3.2,e1];exact h.nw p q
 ·rw[e3.1,e1];exact h.nkl
def nu(ps:List (List (List Int)))(k:Nat)(p:List (List Int)):D.lst ((ps.map eN).set k (eN p))=jM (ps.set k p):=by unfold jM;rw[X1]
def aBm(ps:List (List Int))(k:Nat)(t:List Int):D.lst ((ps.map dTup).set k (dTup t))=eN (ps.set k t):=by unfold eN;rw[X1]
def aFP{ks:List Int}(h:k∉ks):D.dk (mH (ks.map (G2:Int→Key)) (G2 k)) (putD (ks.map (G2:Int→Key)) (ks.map λ_=>D.bl NU) (G2 k) (.bl NU))=Vo (ks++[k]):=by unfold mH putD Vo;rw[Bm h];simp only[Option.isSome_none,X9,if_false,J6];rfl
def aBn{e:List D}(h0:0≤k)(h1:k<(b.asked.length:Int))(hl:b.held.length≤1000)(hs:0≤(at_ b.asked k.toNat).bY∧(at_ b.asked k.toNat).bY<(b.bB.length:Int)∧0≤(at_ b.asked k.toNat).place∧(at_ b.asked k.toNat).place<((b.bB.getD (at_ b.asked k.toNat).bY.toNat []).length:Int))(hn:k∉b.held):tR κ [lG (κ 0) b e,.int k]=NR (.non,lG (κ 0) (b.strike k) e):=by
 refine qD U λv=>?_;unfold Jp;have hc:cW (yX b.asked) (.int k)=NR (MP (at_ b.asked k.toNat)):=by have:=HF (cs:=b.asked) (k:=k.toNat) (by omega);rw[show ((k.toNat:Nat):Int)=k by omega]at this;exact this
 refine cD (d:=MP (at_ b.asked k.toNat)) (bD (aJ (dW U xP) U hc) (aID _)) (by walk_at "n") ?_;unfold Bn.strike;generalize at_ b.asked k.toNat=c at *;have hp:(b.bB.map eN)[c.bY.toNat]?=NR (eN (b.bB.getD c.bY.toNat [])):=by rw[C5,dU (d:=[]) (show c.bY.toNat<b.bB.length by omega)];rfl
 refine rC U (yq (p:=[L2.Step.fld (κ 0) "panes",.ix c.bY.toNat]) (k:=c.place) (ds:=(b.bB.getD c.bY.toNat []).map dTup) (d:=dTup c.thing) U ?_ ((Zf Zh).trans (JX hp)) (aJ U U (VN c)) (bD (aJ U U (Tz c)) (lY _)) hs.2.2.1 (by rw[B8];exact hs.2.2.2)) U ?_
 ·exact mz (p:=[L2.Step.fld (κ 0) "panes"]) U (aJ U U (yl c)) hs.1
 rw[aBm];rw[show fO [L2.Step.fld (κ 0) "panes",.ix c.bY.toNat] (lG (κ 0) b e) (eN ((b.bB.getD c.bY.toNat []).set c.place.toNat c.thing))=eU (κ 0) (jM (b.bB.set c.bY.toNat ((b.bB.getD c.bY.toNat []).set c.place.toNat c.thing))) (yX b.asked) (.dt (b.nk.map rN) (b.nv.map D.int)) (Vo b.held) (.lst e)from by
  unfold lG;rw[Zg Zh];unfold jM;rw[JZ hp,aBk,nu]
  rfl]
 refine Ua U (Qg (d:=.bl NU) (k:=G2 k) (kd:=.int k) U U aDs U U U U (by rw[B8];omega)) U ⟨_,.inr ⟨U,U⟩,?_⟩;show NR (SD.inn v (fO [L2.Step.fld (κ 0) "held"] _ _))=NR (SD.inn v _);rw[aDt,aFP hn];rfl
def YJ(h:Cq b){most:D}(h0:0≤p)(h1:p<(b.bB.length:Int))(hmo:most=.non∨∃m:Int,most=.int m):∃r,ni b.asked b.held p r∧∀taken,(most=.non→taken=r)→(∀m:Int,most=.int m→taken=r.take m.toNat)→rH κ [dX (κ 0) b,.int p,most]=NR (aN taken,dX (κ 0) (b.bW taken)):=by
 have h60:=h.good.1;have hk:=h.nums.len;have hnl:=YC b.asked b.held p;obtain⟨r,hr,r1,r2,r3⟩:=aDv (ks:=b.held) h.good (JT b.asked b.held p) (λx hx=>by have:=Cp.mp hx;exact⟨this.1,this.2.1⟩) (by omega);have hR:ni b.asked b.held p r:=⟨r1,by omega,λx=>by rw[r3,Cp]⟩
 refine⟨r,hR,λtaken t1 t2=>?_⟩;have eI:∃n,taken=r.take n:=by
  rcases hmo with z | ⟨m,z⟩
  ·exact⟨r.length,by rw[t1 z,P1]⟩
  ·exact⟨_,t2 m z⟩
 have htm:∀x∈taken,x∈r:=λx hx=>by obtain⟨n,rfl⟩:=eI;exact L7 hx
 have htu:taken.Pairwise (·<·):=by obtain⟨n,rfl⟩:=eI;exact r1.sublist (M6 _ _)
 have htl:taken.length≤124:=by obtain⟨n,rfl⟩:=eI;rw[G7];omega
 have pV:∀x∈taken,0≤x∧x<(b.asked.length:Int)∧(at_ b.asked x.toNat).bY=p∧x∉b.held:=λx hx=>((hR.2.2 x).mp (htm x hx)).1;refine qD U λv=>?_;unfold Nz;refine jw (d:=.non) (bU U (show ("check_pane":Str)∉Ze by decide +kernel) U U (Ke κ h0 h1)) ?_;refine cD (d:=aN r) (bM (aA (dW U xP) (aA (dW U YD) (aA (aJ (dW U zc) U (tK h0 (KC h0 h1))) U))) U hr) (by walk_at "n") ?_;have hif:qU (fB (f2 (Ja NU) (aD 2) (fC .non))) (cT 3 (ao NU (aD 3) (Bc) (mV (fL QV (aB (aD 2) (aB (fC (.int 0)) aL)))))) fM [.inn v (dX (κ 0) b),.fro (.int p),.fro most,.own (aN r),.no]=.next [.inn v (dX (κ 0) b),.fro (.int p),.fro most,.own (aN taken),.no]:=by
  rcases hmo with rfl | ⟨m,rfl⟩
  ·rw[nH (cB (aJ U U (Dz NU .non))),t1 rfl];rfl
  ·rw[wW (cB (aJ U U (Dz NU (.int m))))];refine yO (d:=aN taken) ((VM U U (wZ (cV (aA U (aA U U)) (Yt _ _)))).trans ?_) (by walk_at "n");rw[t2 m U,show (if(0:Int) > m then(0:Int)else m)=((m.toNat:Nat):Int) by split<;>omega,aIC]
 refine aDc hif ?_;refine jx (ns:=taken) [.inn v (lG (κ 0) (b.bW taken) (vB b.bB.length b.asked b.held)),.fro (.int p),.fro most,.own (aN taken),lv taken .no taken.length] U U (λv2 k env=>env=[.inn v (lG (κ 0) (b.bW (taken.take k)) (vB b.bB.length b.asked b.held)),.fro (.int p),.fro most,.inn v2 (aN taken),lv taken .no k]) (λv2=>rfl) (λv2 k env e=>by rw[e];rfl) ?_ (λv2 env e=>by rw[e,P1];rfl) ?_
 ·rintro v2 k x env hx rfl;refine⟨by walk_at "lt",?_⟩;have hxm:=pV x (D6 hx);have e1:=iQ (taken.take k) b;have e2:=tW (taken.take k) b;have e4:=kE (taken.take k) b;have hnx:taken.take (k+1)=taken.take k++[x]:=by rw[Q2,hx];rfl
  have bt:=aBn κ (b:=b.bW (taken.take k)) (e:=vB b.bB.length b.asked b.held) (k:=x) hxm.1 (by rw[e1];exact hxm.2.1) (by rw[e2,D1,G7];omega) (by rw[e1,e4.1,e4.2];exact h.YH x.toNat (by omega)) (by
   rw[e2,F8]
   rintro(z | z)
   ·exact hxm.2.2.2 z
   ·have hu:=htu.sublist (M6 (k+1) taken);rw[hnx]at hu;have:=(K6.mp hu).2.2 x z x (by simp)
    omega)
  refine⟨_,Ls (lD (d0:=lG (κ 0) (b.bW (taken.take k)) (vB b.bB.length b.asked b.held)) (p:=[]) (nm:=Ze) U U U (by walk_at "k") U bt),?_⟩;have e:lv taken .no (k+1)=.fro (.int x):=by show SD.fro (.int (taken.getD k 0))=_;rw[dY hx]
  rw[e,hnx,KH];rfl
 have e1:=iQ taken b;have e2:=tW taken b;have e4:=kE taken b;have Cu:=Gk (fi:=kO (f2 cW (tG (fP (κ 0) "unsettled") (aD 0)) (aD 1))) (fr:=[0]) (fc:=fB (f2 (Ib NU) (aD 0) (tG (fP (κ 0) "held") (aD 1)))) (fe:=cL (aD 0)) (e:=rE ([.inn v (lG (κ 0) (b.bW taken) (vB b.bB.length b.asked b.held)),.fro (.int p),.fro most,.own (aN taken),lv taken .no taken.length].set 0 (.own (lG (κ 0) (b.bW taken) (vB b.bB.length b.asked b.held))))) (ms:=oE b.asked b.held p) (λm=>!decide (m∈(b.bW taken).held)) id
  (gD (aJ (dW U zc) U (tK h0 (KC h0 h1)))) (by omega) (λm hm=>cB (aJ U (dW U YD) (HD NU m _))) λm hm _=>bD U U
 rw[List.map_id]at Cu;have hun:∀q:Int,oE b.asked (b.held++taken) q=(oE b.asked b.held q).filter λm=>!decide (m∈b.held++taken):=λq=>by
  refine qT (JT _ _ _) ((JT _ _ _).sublist R3) λx=>?_;rw[Cp,K3,Cp];constructor
  ·rintro⟨a1,a2,a3,a4⟩
   exact⟨⟨a1,a2,a3,λz=>a4 (F5 _ z)⟩,by rw[tj a4];rfl⟩
  ·rintro⟨⟨a1,a2,a3,a4⟩,a5⟩
   exact⟨a1,a2,a3,by simpa using a5⟩
 have hoth:∀q:Int,q≠p→oE b.asked (b.held++taken) q=oE b.asked b.held q:=λq hq=>by
  rw[hun];refine R4.mpr λx hx=>?_;have hx:=Cp.mp hx;have:x∉b.held++taken:=λz=>by
   rcases F8.mp z with z | z
   ·exact hx.2.2.2 z
   ·exact hq (hx.2.2.1.symm.trans (pV x z).2.2.1)
  rw[tj this];rfl
 rw[e2,←hun]at Cu;refine rC U (yq (p:=[L2.Step.fld (κ 0) "unsettled"]) (k:=p) (ds:=vB b.bB.length b.asked b.held) U U JW U Cu h0 (by unfold vB;rw[B8,E1];exact h1)) U ?_;refine Qi U ⟨_,.inl U,?_⟩;show NR (SD.inn v (fO [L2.Step.fld (κ 0) "unsettled"] (lG (κ 0) (b.bW taken) _) _))=NR (SD.inn v _);unfold dX lG;rw[zf,e1,e2,e4.1];have hl:(vB b.bB.length b.asked b.held).set p.toNat (aN (oE b.asked (b.held++taken) p))=vB b.bB.length b.asked (b.held++taken):=by
  unfold vB;apply K5;intro k;rw[G8,B8,E1,C5,C5];by_cases e:p.toNat=k
  ·rw[sk e,sk (by omega),I0 (by omega),J3,show ((k:Nat):Int)=p by omega]
  ·rw[sv e];by_cases hk:k<b.bB.length
   ·rw[I0 hk,J3,J3,hoth _ (by omega)]
   ·rw[D9 (by rw[E1];omega)];rfl
 rw[hl]
def oh{p q:Nat}(h:¬((at_ b.asked k.toNat).bY.toNat=p∧(at_ b.asked k.toNat).place.toNat=q)):val (b.strike k).bB p q=val b.bB p q:=by
 unfold val Bn.strike;generalize at_ b.asked k.toNat=c at *;dsimp only;simp only[B7,G8];by_cases e:c.bY.toNat=p
 ·subst e;rw[sk rfl];by_cases l:c.bY.toNat<b.bB.length
  ·rw[sk l];simp only[P0,G8];rw[sv λz=>h ⟨U,z⟩]
  ·rw[sv l,D9 (show b.bB.length≤c.bY.toNat by omega)]
 ·rw[sv e]
def Ob{p q:Nat}:∀(ks:List Int)(b:Bn),(∀k∈ks,¬((at_ b.asked k.toNat).bY.toNat=p∧(at_ b.asked k.toNat).place.toNat=q))→val (b.bW ks).bB p q=val b.bB p q
 | [],b,_=>rfl
 | k::ks,b,h=>(Ob ks (b.strike k) λj hj=>h j (C6 _ hj)).trans (oh (h k C8))
def YK{cs:List lH}(h:lastAt cs p q=sx){k:Nat}(hk:k<cs.length):¬((at_ cs k).bY=p∧(at_ cs k).place=q):=λz=>by unfold lastAt at h;rw[g7,List.getLast?_eq_none_iff,g9]at h;exact h k (F7.mpr hk) (tf z)
def KJ(h:Cq b){r:List Int}(hp:0≤p)(hq:0≤q)(hm:∀x∈r,0≤x∧x<(b.asked.length:Int)):face (b.bW r) p q=face b p q:=by
 unfold face;rw[iQ];cases e:lastAt b.asked p q with
 | some k=>rfl
 | none=>exact Ob r b λk hk z=>by have:=hm k hk;have hs:=h.YH k.toNat (by omega);exact YK e (show k.toNat<b.asked.length by omega) ⟨by omega,by omega⟩
structure Mp where
 k:List Int
 v:List Int
def Mp.get(m:Mp)(x:Int):Option Int:=(posK m.k x).bind λj=>m.v[j]?
def Mp.put(m:Mp)(x y:Int):Mp:=⟨mH m.k x,putD m.k m.v x y⟩
def Ox(m:Mp):D:=.dk (m.k.map G2) (m.v.map D.int)
def KN:Option Int→D
 | some y=>.int y
 | none=>.non
def KQ(a b:Int)(h:(G2 a:Key)=G2 b):a=b:=by injection h
def ou{m:Mp}(h:m.k.length=m.v.length)(x:Int):Tp (Ox m) (.int x)=NR (KN (m.get x)):=by
 unfold Tp Ox Mp.get;dsimp only;rw[show Wa (.int x)=NR (.inl x)from rfl,C4,xQ KQ];cases e:posK m.k x with
 | none=>rfl
 | some j=>have:=(tD e).1;dsimp only;rw[C5,C4,B6 (show j<m.v.length by omega)];rfl
def Mp.mO{m:Mp}(h:m.k.length=m.v.length)(x y z:Int):(m.put x y).get z=if z=x then NR y else m.get z:=Rs.mO h
def ph(m:Mp)(x y:Int):D.dk (mH (m.k.map (G2:Int→Key)) (.inl x)) (putD (m.k.map (G2:Int→Key)) (m.v.map D.int) (.inl x) (.int y))=Ox (m.put x y):=by unfold Ox Mp.put;rw[YF KQ,YG KQ D.int]
def aDw{α:Type}[DecidableEq α](ks:List α)(k:α):(mH ks k).length≤ks.length+1:=by
 unfold mH;split
 ·omega
 ·rw[D1];simp
def Mp.Ok(m:Mp)(n:Nat):Prop:=m.k.length=m.v.length∧m.k.length≤n
def Mp.Ok.put{m:Mp}{n:Nat}(h:m.Ok n)(x y:Int):(m.put x y).Ok (n+1):=⟨wQ h.1,G1 (aDw _ _) (S7 h.2)⟩
def Mp.Ok.mono{m:Mp}{n k:Nat}(h:m.Ok n)(l:n≤k):m.Ok k:=⟨h.1,G1 h.2 l⟩
section
variable{nm:List Str}{ks:List Key}{ds:List D}{x:Str}{y:D}
def pM(h:posK nm x=NR j)(hd:ds[j]?=NR d):fP C x (.ins C nm ds)=NR d:=by unfold fP;dsimp only;rw[sk U,h];exact hd
def aDx(h:posK nm x=NR j):Eo (.fld C x) (.ins C nm ds)=NR j:=by show (if C=C then posK nm x else sx)=NR j;rw[sk rfl];exact h
def wJ(h:posK nm x=NR j)(hd:ds[j]?=NR d):gJ [.fld C x] (.ins C nm ds)=NR d:=uW (aDx h) hd
def wK(h:posK nm x=NR j)(hd:ds[j]?=NR d):fO [.fld C x] (.ins C nm ds) y=.ins C nm (ds.set j y):=rO (aDx h) hd
end
def uZ:List Str:=["bench","spots","string","loose","lasts","comings","goings"]
def w0:posK uZ "bench"=NR 0:=by decide +kernel
def w1:posK uZ "spots"=NR 1:=by decide +kernel
def w2:posK uZ "string"=NR 2:=by decide +kernel
def w3:posK uZ "loose"=NR 3:=by decide +kernel
def w4:posK uZ "lasts"=NR 4:=by decide +kernel
def w5:posK uZ "comings"=NR 5:=by decide +kernel
def w6:posK uZ "goings"=NR 6:=by decide +kernel
def bks:List Key:=[.inr "recs",.inr "order",.inr "ins",.inr "outs",.inr "lasts",.inr "due",.inr "panes"]
structure Wb where
 b:Bn
 rs:List (List Int)
 od:List Int
 lo:List Int
 la:Mp
 co:Mp
 go:Mp
variable{s:Wb}
abbrev Wb.P(s:Wb):Nat:=s.b.bB.length
abbrev Wb.n(s:Wb):Nat:=s.b.asked.length
abbrev Wb.R(s:Wb)(x:Int):List Int:=s.rs.getD x.toNat []
def Wb.key(s:Wb)(x:Int):Int:=(s.R x).getD 0 0
def pq(P n:Nat):D:=.lst ((D5 n).map λk=>dTup [((k%P:Nat):Int),((k/P:Nat):Int)])
def aKA(rs:List (List Int)):D:=.lst (rs.map dTup)
def lR(κ:Nat→AF)(s:Wb):D:=.ins (κ 1) uZ [dX (κ 0) s.b,pq s.P s.rs.length,aN s.od,aN s.lo,Ox s.la,Ox s.co,Ox s.go]
def bkD(s:Wb):D:=.dk bks [aKA s.rs,aN s.od,Ox s.co,Ox s.go,Ox s.la,yX s.b.asked,.int s.P]
structure mJ(s:Wb):Prop where
 bn:Cq s.b
 p1:0<s.P
 len:∀k,k<s.rs.length→k/s.P<(s.b.bB.getD (k%s.P) []).length
 few:s.rs.length≤64
 pos:0<s.rs.length
 rcd:∀k,k<s.rs.length→s.rs.getD k []=face s.b ((k%s.P:Nat):Int) ((k/s.P:Nat):Int)∧(s.rs.getD k []).length=5
 las:∀k:Nat,k<s.rs.length→s.la.get k=lastAt s.b.asked ((k%s.P:Nat):Int) ((k/s.P:Nat):Int)
 lao:s.la.Ok s.n
 coo:s.co.Ok s.n
 goo:s.go.Ok s.n
 coi:∀x y,s.co.get x=NR y→0≤y∧y<(s.n:Int)
 goi:∀x y,s.go.get x=NR y→0≤y∧y<(s.n:Int)
 Oc:s.od.Nodup
 sV:∀x∈s.od,1≤x∧x<(s.rs.length:Int)
 lon:s.lo.Nodup
 lom:∀x,x∈s.lo↔1≤x∧x<(s.rs.length:Int)∧x∉s.od
 key:s.od.Pairwise λx y=>s.key x<s.key y
 th:∀k,k<s.n→(at_ s.b.asked k).thing.length=5
def mJ.spot(h:mJ s){x:Int}(h0:0≤x)(h1:x<(s.rs.length:Int)):0≤((x.toNat%s.P:Nat):Int)∧((x.toNat%s.P:Nat):Int)<(s.P:Int)∧0≤((x.toNat/s.P:Nat):Int)∧((x.toNat/s.P:Nat):Int)<((s.b.bB.getD ((x.toNat%s.P:Nat):Int).toNat []).length:Int):=by have h2:=h.len x.toNat (by omega);have h3:=R8 x.toNat h.p1;rw[C7];exact⟨O3 _,Int.ofNat_lt.mpr h3,O3 _,Int.ofNat_lt.mpr h2⟩
def aDz{P n:Nat}{x:Int}(h0:0≤x)(h1:x<(n:Int)):cW (pq P n) (.int x)=NR (dTup [((x.toNat%P:Nat):Int),((x.toNat/P:Nat):Int)]):=tK h0 (by
 rw[C5,I0 (by omega)]
 rfl)
variable(κ:Nat→AF)
def lJ(h:mJ s){x:Int}(h0:0≤x)(h1:x<(s.rs.length:Int)):bC κ [lR κ s,.int x]=NR (dTup (s.R x)):=by refine nO U ?_;unfold zX;obtain⟨a,b,c,d⟩:=h.spot h0 h1;refine aC8 (d:=dTup [((x.toNat%s.P:Nat):Int),((x.toNat/s.P:Nat):Int)]) (bD (aJ (dW U (pM w1 U)) U (aDz h0 h1)) (lY _)) (by walk_at "n") ?_;rw[Wb.R,(h.rcd x.toNat (by omega)).1];exact gB (bU (nm:=Ze) (dW U (pM w0 U)) (by walk_at "k") (aA (aJ U U U) (aA (aJ U U U) U)) U (aFO κ h.bn a b c d))
def YL(h:mJ s)(x:Int):pG κ [lR κ s,.int x]=NR (KN (s.co.get x)):=nO U (gB (aJ (dW U (pM w5 U)) U (ou h.coo.1 x)))
def YM(h:mJ s)(x:Int):pH κ [lR κ s,.int x]=NR (KN (s.go.get x)):=nO U (gB (aJ (dW U (pM w6 U)) U (ou h.goo.1 x)))
def nD(os:List (Option Int)):D:=.lst (os.map KN)
def Vp(os:List (Option Int)):List Int:=os.filterMap id
def qd{fr:List Nat}(os:List (Option Int))(h:fi e=NR (os.map KN))(hl:os.length≤1000):eE fi fr (fB (f2 (Ja NU) (aD 0) (fC .non))) (cL (aD 0)) e=NR (aN (Vp os)):=by
 refine Bk h (by rw[B8];omega) ?_;clear h hl
 induction os with
 | nil=>rfl
 | cons o os ih=>
  rw[E2];unfold pW;cases o with
  | none=>exact ih
  | some y=>show ((pW _ _ (os.map KN)).map (D.int y::·))=_;rw[ih];rfl
def aDA(os:List (Option Int))(hl:os.length≤1000):HX [nD os]=NR (aN (Vp os)):=lW U (gB (qd os (gD U) hl))
def Wb.wr(s:Wb)(x:Int)(r ns:List Int):Wb:={s with b:=s.b.put ((x.toNat%s.P:Nat):Int) ((x.toNat/s.P:Nat):Int) r ns,rs:=s.rs.set x.toNat r,la:=s.la.put x s.n}
def qe(s:Wb)(x:Int)(r ns:List Int):(s.wr x r ns).n=s.n+1:=by show (s.b.asked++[_]).length=_;rw[D1];rfl
def oR(s:Wb)(x:Int)(r ns:List Int):(s.wr x r ns).rs.length=s.rs.length:=J5
def lZ{α:Type}(l:List α)(i j:Nat)(x d:α)(h:i<l.length):(l.set i x).getD j d=if i=j then x else l.getD j d:=by
 rw[B7,G8,B7];by_cases c:i=j
 ·rw[sk c,sk h,sk c];rfl
 ·rw[sv c,sv c]
def Et{x:Int}{r ns:List Int}(h0:0≤x)(h1:x<(s.rs.length:Int))(hy:0≤y):(s.wr x r ns).R y=if y=x then r else s.R y:=by
 show (s.rs.set x.toNat r).getD y.toNat []=_;rw[lZ _ _ _ _ _ (by omega)];by_cases c:y=x
 ·rw[sk c,sk (by rw[c])]
 ·rw[sv c,sv (by omega)]
def aDB{p' q':Int}{ns:List Int}:face (b.put p q th ns) p' q'=if p=p'∧q=q' then th else face b p' q':=by
 unfold face;show topOf (b.asked++[eV b p q th ns]) _ (lastAt (b.asked++[eV b p q th ns]) p' q')=_;rw[rP];show topOf _ _ (if p=p'∧q=q' then _ else _)=_;by_cases c:p=p'∧q=q'
 ·rw[sk c,sk c];show (at_ (b.asked++[eV b p q th ns]) (b.asked.length:Int).toNat).thing=th;rw[C7,mK];rfl
 ·rw[sv c,sv c];cases e:lastAt b.asked p' q' with
  | none=>rfl
  | some k=>have:=Ef e;show (at_ _ k.toNat).thing=(at_ _ k.toNat).thing;rw[gK (by omega)]
def Kf{P a b:Nat}(h1:((a%P:Nat):Int)=((b%P:Nat):Int))(h2:((a/P:Nat):Int)=((b/P:Nat):Int)):a=b:=by have e1:=z9 h1;have e2:=z9 h2;have a1:=w9 a P;have a2:=w9 b P;rw[←a1,←a2,e1,e2]
def mJ.wr(h:mJ s){x:Int}{r ns:List Int}(h0:0≤x)(h1:x<(s.rs.length:Int))(hr:r.length=5)(hn:∀m∈ns,0≤m∧m<(s.n:Int))(hl:ns.length≤8)(hm:s.n<124)(hk:x∈s.od→r.getD 0 0=s.key x):mJ (s.wr x r ns):=by
 obtain⟨a,b,c,d⟩:=h.spot h0 h1;have ag:=oR s x r ns;have gu:=qe s x r ns;have hxe:((x.toNat:Nat):Int)=x:=by omega
 refine⟨h.bn.put hm a b c d hn hl,h.p1,?_,?_,?_,?_,?_,?_,?_,?_,?_,?_,h.Oc,?_,h.lon,?_,?_,?_⟩
 ·rw[ag];exact h.len
 ·rw[ag];exact h.few
 ·rw[ag];exact h.pos
 ·intro k kG;rw[ag]at kG;show (s.rs.set x.toNat r).getD k []=face (s.b.put _ _ r ns) _ _∧((s.rs.set x.toNat r).getD k []).length=5;rw[lZ _ _ _ _ _ (by omega),aDB];by_cases e:x.toNat=k
  ·subst e;rw[sk U,sk ⟨U,U⟩];exact⟨U,hr⟩
  ·rw[sv e,sv λz=>e (Kf z.1 z.2)];exact h.rcd k kG
 ·intro k kG;rw[ag]at kG;show (s.la.put x s.n).get k=lastAt (s.b.asked++[eV _ _ _ _ _]) _ _;rw[Mp.mO h.lao.1,rP];by_cases e:x.toNat=k
  ·subst e;rw[sk hxe,sk ⟨U,U⟩]
  ·rw[sv (by omega),sv λz=>e (Kf z.1 z.2)];exact h.las k kG
 ·rw[gu];exact h.lao.put _ _
 ·rw[gu];exact h.coo.mono (by omega)
 ·rw[gu];exact h.goo.mono (by omega)
 ·intro z y e;have:=h.coi z y e;rw[gu];omega
 ·intro z y e;have:=h.goi z y e;rw[gu];omega
 ·intro z hz;rw[ag];exact h.sV z hz
 ·intro z;rw[ag];exact h.lom z
 ·have kk:∀y∈s.od,(s.wr x r ns).key y=s.key y:=λy hy=>by
   show ((s.wr x r ns).R y).getD 0 0=_;rw[Et h0 h1 (by have:=h.sV y hy;omega)];by_cases e:y=x
   ·subst e;rw[sk rfl];exact hk hy
   ·rw[sv e];rfl
  exact h.key.imp_of_mem λ{y z} hy hz q=>by rw[kk y hy,kk z hz];exact q
 ·intro k kG;rw[gu]at kG;show (at_ (s.b.asked++[eV _ _ _ _ _]) k).thing.length=5;rcases G4 k s.n with z | z
  ·rw[gK z];exact h.th k z
  ·have e:k=s.b.asked.length:=x4 (x5.mp kG) z;rw[e,mK];exact hr
def mJ.aKD(h:mJ s):s.n≤124:=h.bn.good.1
def mapA{o:Option (List D)}{es:List D}(h:o=NR es):o.map (·++[])=NR es:=by rw[h];show NR (es++[])=_;rw[F0]
def YQ(h:mJ s){x:Int}{r:List Int}{os:List (Option Int)}(h0:0≤x)(h1:x<(s.rs.length:Int))(hn:∀m∈Vp os,0≤m∧m<(s.n:Int))(hl:os.length≤9):nQ κ [lR κ s,.int x,dTup r,nD os]=NR (.int s.n,lR κ (s.wr x r (Vp os))):=by
 refine qD U λv=>?_;unfold Ji;obtain⟨a,b,c,d⟩:=h.spot h0 h1;have gI:(Vp os).length≤9:=G1 (List.length_filterMap_le _ _) hl;refine cD (d:=dTup [((x.toNat%s.P:Nat):Int),((x.toNat/s.P:Nat):Int)]) (bD (aJ (dW U (pM w1 U)) U (aDz h0 h1)) (lY _)) (by walk_at "n") ?_;refine HJ (d:=.int s.n) (aI:=[.inn v (.ins (κ 1) uZ [dX (κ 0) (s.b.put ((x.toNat%s.P:Nat):Int) ((x.toNat/s.P:Nat):Int) r (Vp os)),pq s.P s.rs.length,aN s.od,aN s.lo,Ox s.la,Ox s.co,Ox s.go]),.fro (.int x),.fro (dTup r),.fro (nD os),.own (dTup [((x.toNat%s.P:Nat):Int),((x.toNat/s.P:Nat):Int)]),.no])
  ((lD (p:=[L2.Step.fld (κ 1) "bench"]) (nm:=Ze) (es:=[.int ((x.toNat%s.P:Nat):Int),.int ((x.toNat/s.P:Nat):Int),dTup r,aN (Vp os)]) U U (wJ w0 U) (by walk_at "k") (mapA (fU (aJ U U U) (fU (aJ U U U) (fU U (fU (bM (aA U U) U (aDA os (by omega))) U))))) (aIQ κ h.bn a b c d hn (by omega) (.inr U))).trans (by
   rw[wK w0 rfl]
   rfl)) (by walk_at "n") ?_
 refine rC U (Qg (p:=[L2.Step.fld (κ 1) "lasts"]) (k:=.inl x) (kd:=.int x) (d:=.int s.n) U U (wJ w4 U) U U U U (by rw[B8];have:=h.lao.2;have:=h.aKD;omega)) U ?_;refine Qi U ⟨_,.inl U,?_⟩;show NR (SD.inn v (fO [L2.Step.fld (κ 1) "lasts"] _ _))=NR (SD.inn v _);rw[wK w4 U,ph];unfold lR;rw[oR];rfl
def aFR(o:Option Int):(KN o).jH=NU:=by cases o<;>rfl
def Zj(os:List (Option Int)):D.gR (os.map KN)=NU:=Tv λd hd=>by obtain⟨o,_,rfl⟩:=J4.mp hd;exact aFR o
def Vb(a b:List (Option Int))(h:a.length+b.length≤1000):eX (nD a) (nD b)=NR (nD (a++b)):=by unfold nD;rw[J6];exact Yo (by rw[VB,Zj,Zj];rfl) (by rw[B8,B8];omega)
def divmod{x:Int}{P:Nat}(h0:0≤x):x%(P:Int)=((x.toNat%P:Nat):Int)∧x/(P:Int)=((x.toNat/P:Nat):Int):=by
 have e:x=((x.toNat:Nat):Int):=by omega
 constructor
 ·rw[b8,←e]
 ·rw[b9,←e]
def Nf(ns:List Int):aN ns=nD (ns.map NR):=by unfold aN nD;rw[M4];rfl
def Cv(ns:List Int):Vp (ns.map NR)=ns:=by unfold Vp;rw[List.filterMap_map];exact List.filterMap_some
def Kg(o:Option Int)(os:List (Option Int)):Vp (o::os)=o.toList++Vp os:=by cases o<;>rfl
def Wb.ns(s:Wb)(x:Int)(ns:List Int):List Int:=(s.co.get x).toList++ns
def mJ.qg(h:mJ s){x:Int}{ns:List Int}(hn:∀m∈ns,0≤m∧m<(s.n:Int)):∀m∈s.ns x ns,0≤m∧m<(s.n:Int):=λm hm=>by
 rcases F8.mp hm with z | z
 ·cases e:s.co.get x with
  | none=>rw[e]at z;cases z
  | some y=>rw[e]at z;rw[D2.mp z];exact h.coi x y e
 ·exact hn m z
def nY{α:Type}(o:Option α):o.toList.length≤1:=by cases o<;>simp
def YT(h:mJ s){x:Int}{r:List Int}{os:List (Option Int)}(h0:0≤x)(h1:x<(s.rs.length:Int))(hn:∀m∈Vp os,0≤m∧m<(s.n:Int))(hl:os.length≤7):gO κ [lR κ s,.int x,dTup r,nD os]=NR (.int s.n,lR κ (s.wr x r (s.ns x (Vp os)))):=by
 refine qD U λv=>?_;unfold xK;have e:s.ns x (Vp os)=Vp (s.co.get x::os):=by rw[Kg];rfl
 rw[e];refine Qh (d:=.int s.n) (aI:=[.inn v (lR κ (s.wr x r (Vp (s.co.get x::os)))),.fro (.int x),.fro (dTup r),.fro (nD os)]) (lD (p:=[]) (nm:=uZ) (es:=[.int x,dTup r,nD (s.co.get x::os)]) U U U (by walk_at "k") (mapA (fU U (fU U (Uc (aJ (a:=nD [s.co.get x]) (b:=nD os) (iD (aA (bU (nm:=uZ) U (by walk_at "k") U U (YL κ h x)) U) (by walk_at "n")) U (Vb _ _ (by simp;omega))) U)))) (YQ κ h h0 h1 (by rw[←e];exact h.qg hn) (by simp;omega))) ⟨_,.inl U,U⟩
def aFS(h:mJ s){x:Int}{r ns:List Int}(h0:0≤x)(h1:x<(s.rs.length:Int))(hn:∀m∈ns,0≤m∧m<(s.n:Int))(hl:ns.length≤7):gO κ [lR κ s,.int x,dTup r,aN ns]=NR (.int s.n,lR κ (s.wr x r (s.ns x ns))):=by have:=YT κ h (r:=r) (os:=ns.map NR) h0 h1 (by rw[Cv];exact hn) (by rw[B8];exact hl);rw[Cv,←Nf]at this;exact this
def Od(r:List Int)(y:Int):List Int:=[r.getD 0 0,y,r.getD 2 0,r.getD 3 0,r.getD 4 0]
def pN{r:List Int}{k:Nat}(h:k<r.length):cW (dTup r) (.int k)=NR (.int (r.getD k 0)):=vJ (O3 _) (by
 rw[C5,C7,dU (d:=0) h]
 rfl)
def mJ.five(h:mJ s){x:Int}(h0:0≤x)(h1:x<(s.rs.length:Int)):(s.R x).length=5:=(h.rcd x.toNat (by omega)).2
def YW(h:mJ s){x:Int}{os:List (Option Int)}(h0:0≤x)(h1:x<(s.rs.length:Int))(hn:∀m∈Vp os,0≤m∧m<(s.n:Int))(hl:os.length≤7):mZ κ [lR κ s,.int x,.int y,nD os]=NR (.int s.n,lR κ (s.wr x (Od (s.R x) y) (s.ns x (Vp os)))):=by refine qD U λv=>?_;unfold Ny;have h5:=h.five h0 h1;refine cD (d:=dTup (s.R x)) (bU (nm:=uZ) U (by walk_at "k") U U (lJ κ h h0 h1)) (by walk_at "n") ?_;refine Qh (d:=.int s.n) (aI:=[.inn v (lR κ (s.wr x (Od (s.R x) y) (s.ns x (Vp os)))),.fro (.int x),.fro (.int y),.fro (nD os),.own (dTup (s.R x))]) (lD (p:=[]) (nm:=uZ) (es:=[.int x,dTup (Od (s.R x) y),nD os]) U U U (by walk_at "k") (mapA (fU U (fU (pF (aA (bD (aJ U U (pN (k:=0) (by omega))) U) (aA (bD U U) (aA (bD (aJ U U (pN (k:=2) (by omega))) U) (aA (bD (aJ U U (pN (k:=3) (by omega))) U) (aA (bD (aJ U U (pN (k:=4) (by omega))) U) U))))) (by walk_at "n")) (fU U U)))) (YT κ h h0 h1 hn hl)) ⟨_,.inl U,U⟩
def aFT(h:mJ s){x:Int}{ns:List Int}(h0:0≤x)(h1:x<(s.rs.length:Int))(hn:∀m∈ns,0≤m∧m<(s.n:Int))(hl:ns.length≤7):mZ κ [lR κ s,.int x,.int y,aN ns]=NR (.int s.n,lR κ (s.wr x (Od (s.R x) y) (s.ns x ns))):=by have:=YW κ h (y:=y) (os:=ns.map NR) h0 h1 (by rw[Cv];exact hn) (by rw[B8];exact hl);rw[Cv,←Nf]at this;exact this
def Hj{ns:List Int}(hn:∀m∈ns,0≤m∧m<(s.n:Int))(ia:(nd=.non∧ns=[])∨nd=aN ns):cG κ [lR κ s,nd]=NR (aN ns):=by
 suffices hh:∃d,cG κ [lR κ s,nd]=NR d∧d=aN ns by obtain⟨d,e1,rfl⟩:=hh;exact e1
 refine yo U ?_;unfold sY;refine cD (d:=aN ns) ?_ (by walk_at "n") ?_
 ·rcases ia with ⟨rfl,rfl⟩ | rfl
  ·exact aGM (cB (aJ U U (Dz NV .non))) U
  ·exact aGN (cB (aJ U U (Dz NV (aN ns)))) (cV (aA U U) (wX (fK ns)))
 refine jx (ns:=ns) [.fro (lR κ s),.fro nd,.own (aN ns),lv ns .no ns.length] U U (λv2 k env=>env=[.fro (lR κ s),.fro nd,.inn v2 (aN ns),lv ns .no k]) (λv2=>rfl) (λv2 k env e=>by rw[e];rfl) ?_ (λv2 env e=>by rw[e];rfl) ?_
 ·rintro v2 k x env hx rfl
  refine⟨by walk_at "lt",_,Jh (d:=.non) (bU (nm:=Ze) (dW U (pM w0 U)) (by walk_at "k") U U (Cr κ (hn x (D6 hx)).1 (hn x (D6 hx)).2)),?_⟩;have e:lv ns .no (k+1)=.fro (.int x):=by show SD.fro (.int (ns.getD k 0))=_;rw[dY hx]
  rw[e];rfl
 exact aDf U ⟨_,U,U⟩
def Wb.ahead(s:Wb)(at_:Int):Int:=(0::s.od).getD at_.toNat 0
def aIR(od:List Int)(h:od.length≤1000):eX (aN [0]) (aN od)=NR (aN (0::od)):=yW [0] od (by simp;omega)
def mJ.aBo(h:mJ s):s.od.length≤64:=by
 have:=nM s.rs.length s.od h.Oc λx hx=>by have:=h.sV x hx;omega
 have:=h.few;omega
def mJ.aKE(h:mJ s):s.lo.length<64:=by
 have hh:=nM s.rs.length (0::s.lo) (F1.mpr ⟨λz=>by have:=(h.lom 0).mp z;omega,h.lon⟩) λx hx=>by
  rcases B9.mp hx with z | z
  ·have:=h.pos;omega
  ·have:=(h.lom x).mp z;omega
 rw[E3]at hh;have:=h.few;omega
def Oe(h:mJ s)(h0:0≤k)(h1:k≤(s.od.length:Int)):jQ κ [lR κ s,.int k]=NR (.int (s.ahead k)):=by have:=h.aBo;exact nO U (gB (bD (aJ (aJ (iD (aA U U) (by walk_at "n")) (dW U (pM w2 U)) (aIR _ (by omega))) U (jX h0 (by simp;omega))) U))
def mJ.ahead(h:mJ s)(h0:0≤k)(h1:k≤(s.od.length:Int)):(s.ahead k=0∨s.ahead k∈s.od)∧0≤s.ahead k∧s.ahead k<(s.rs.length:Int):=by
 have hm:s.ahead k∈(0::s.od):=by unfold Wb.ahead;rw[B7,B6 (show k.toNat<(0::s.od).length by simp;omega)];exact L0 _
 rcases B9.mp hm with z | z
 ·rw[z];have:=h.pos;exact⟨.inl U,by omega,by omega⟩
 ·have:=h.sV _ z;exact⟨.inr z,by omega,by omega⟩
def ql(h:mJ s){x b c:Int}{ns:List Int}(h0:0≤x)(h1:x<(s.rs.length:Int))(hn:∀m∈ns,0≤m∧m<(s.n:Int))(hl:ns.length≤7)(ia:(nd=.non∧ns=[])∨nd=aN ns):qG κ [lR κ s,.int x,.int a,.int b,.int c,nd]=NR (.int s.n,lR κ (s.wr x [(s.R x).getD 0 0,(s.R x).getD 1 0,a,b,c] (s.ns x ns))):=by refine qD U λv=>?_;unfold Bq;have h5:=h.five h0 h1;refine cD (d:=dTup (s.R x)) (bU (nm:=uZ) U (by walk_at "k") U U (lJ κ h h0 h1)) (by walk_at "n") ?_;refine Qh (d:=.int s.n) (aI:=[.inn v (lR κ (s.wr x [(s.R x).getD 0 0,(s.R x).getD 1 0,a,b,c] (s.ns x ns))),.fro (.int x),.fro (.int a),.fro (.int b),.fro (.int c),.fro nd,.own (dTup (s.R x))]) (lD (p:=[]) (nm:=uZ) (es:=[.int x,dTup [(s.R x).getD 0 0,(s.R x).getD 1 0,a,b,c],aN ns]) U U U (by walk_at "k") (mapA (fU U (fU (pF (aA (bD (aJ U U (pN (k:=0) (by omega))) U) (aA (bD (aJ U U (pN (k:=1) (by omega))) U) (aA (bD U U) (aA (bD U U) (aA (bD U U) U))))) (by walk_at "n")) (Uc (bU (nm:=uZ) U (by walk_at "k") U U (Hj κ hn ia)) U)))) (aFS κ h h0 h1 hn hl)) ⟨_,.inl U,U⟩
def Wb.new(s:Wb):Int:=ig s.lo
def Wb.e1(s:Wb)(k key aT aS gF:Int):Wb:=s.wr s.new [key,(s.R (s.ahead k)).getD 1 0,aT,aS,gF] (s.go.get s.new).toList
def Wb.e2(s:Wb)(k key aT aS gF:Int)(fu:List Int):Wb:=(s.e1 k key aT aS gF).wr (s.ahead k) (Od ((s.e1 k key aT aS gF).R (s.ahead k)) s.new) ((s.e1 k key aT aS gF).ns (s.ahead k) ((s.n:Int)::fu))
def Wb.ent(s:Wb)(k key aT aS gF:Int)(fu:List Int):Wb:={s.e2 k key aT aS gF fu with od:=s.od.take k.toNat++s.new::s.od.drop k.toNat,lo:=s.lo.eraseIdx (s.lo.idxOf s.new),co:=s.co.put s.new (s.n+1:Nat)}
def mJ.new(h:mJ s)(hl:0<s.lo.length):s.new∈s.lo∧1≤s.new∧s.new<(s.rs.length:Int)∧s.new∉s.od∧0≤s.new:=by have:=(Fy hl).1;have hm:=(h.lom _).mp this;exact⟨this,hm.1,hm.2.1,hm.2.2,Int.le_trans (by decide) hm.1⟩
def mJ.aIS(h:mJ s)(x:Int):∀m∈(s.go.get x).toList,0≤m∧m<(s.n:Int):=λm hm=>by
 cases e:s.go.get x with
 | none=>rw[e]at hm;cases hm
 | some y=>rw[e]at hm;rw[D2.mp hm];exact h.goi x y e
def mJ.e1(h:mJ s)(hl:0<s.lo.length)(hm:s.n<124)(k key aT aS gF:Int):mJ (s.e1 k key aT aS gF):=by obtain⟨a,b,c,d,e⟩:=h.new hl;exact h.wr e c U (h.aIS _) (G1 (nY _) (by decide)) hm λz=>absurd z d
def aBp(s:Wb)(k key aT aS gF:Int):(s.e1 k key aT aS gF).n=s.n+1:=qe _ _ _ _
def mJ.e2(h:mJ s)(hl:0<s.lo.length)(hm:s.n<123){key:Int}(h0:0≤k)(h1:k≤(s.od.length:Int))(hn:∀m∈fu,0≤m∧m<(s.n:Int))(hf:fu.length≤5):mJ (s.e2 k key aT aS gF fu)∧(∀m∈(s.n:Int)::fu,0≤m∧m<((s.e1 k key aT aS gF).n:Int))∧s.ahead k<((s.e1 k key aT aS gF).rs.length:Int):=by
 have w:=h.e1 hl (by omega) k key aT aS gF;obtain⟨a,b,c⟩:=h.ahead h0 h1;have eB:∀m∈(s.n:Int)::fu,0≤m∧m<((s.e1 k key aT aS gF).n:Int):=λm hm=>by
  rw[aBp];rcases B9.mp hm with z | z
  ·omega
  ·have:=hn m z;omega
 have hc:s.ahead k<((s.e1 k key aT aS gF).rs.length:Int):=by show _<((s.wr _ _ _).rs.length:Int);rw[oR];exact c
 refine⟨w.wr b hc U (w.qg eB) ?_ (by rw[aBp];omega) λz=>rfl,eB,hc⟩;unfold Wb.ns;rw[D1];have:=nY ((s.e1 k key aT aS gF).co.get (s.ahead k));simp;omega
def aDC(s:Wb)(k key aT aS gF:Int)(fu:List Int):(s.ent k key aT aS gF fu).n=s.n+2:=by show (s.e2 k key aT aS gF fu).n=_;unfold Wb.e2;rw[qe,aBp]
def Ql(s:Wb)(k key aT aS gF:Int)(fu:List Int):(s.ent k key aT aS gF fu).rs.length=s.rs.length:=by show (s.e2 k key aT aS gF fu).rs.length=_;unfold Wb.e2;rw[oR];exact oR _ _ _ _
def Eg{x:Int}(hn:l.Nodup):y∈l.eraseIdx (l.idxOf x)↔y∈l∧y≠x:=by rw[←W4 U,hn.mem_erase_iff];exact and_comm
def Wb.Fits(s:Wb)(k key:Int):Prop:=(∀x∈s.od.take k.toNat,s.key x<key)∧∀x∈s.od.drop k.toNat,key<s.key x
def mJ.ent(h:mJ s)(hl:0<s.lo.length)(hm:s.n<123){key:Int}(h0:0≤k)(h1:k≤(s.od.length:Int))(hn:∀m∈fu,0≤m∧m<(s.n:Int))(hf:fu.length≤5)(hk:s.Fits k key):mJ (s.ent k key aT aS gF fu):=by
 obtain⟨w,_,_⟩:=h.e2 hl hm (key:=key) (aT:=aT) (aS:=aS) (gF:=gF) h0 h1 hn hf;obtain⟨a1,a2,a3,a4,a5⟩:=h.new hl;have hA:=h.ahead h0 h1;have fg:∀x,x∈s.od.take k.toNat++s.new::s.od.drop k.toNat↔x=s.new∨x∈s.od:=λx=>by
  conv=>rhs;rw[←M0 k.toNat s.od]
  simp only[F8,B9];constructor
  ·rintro(z | z | z)
   ·exact .inr (.inl z)
   ·exact .inl z
   ·exact .inr (.inr z)
  ·rintro(z | z | z)
   ·exact .inr (.inl z)
   ·exact .inl z
   ·exact .inr (.inr z)
 have ag:=Ql s k key aT aS gF fu;have gu:=aDC s k key aT aS gF fu;have kk:∀x,x=s.new∨x∈s.od→(s.ent k key aT aS gF fu).key x=if x=s.new then key else s.key x:=λx hx=>by
  have x0:0≤x:=by
   rcases hx with z | z
   ·omega
   ·have:=h.sV x z;omega
  show ((s.e2 k key aT aS gF fu).R x).getD 0 0=_;have e1r:∀y,0≤y→(s.e1 k key aT aS gF).R y=if y=s.new then [key,(s.R (s.ahead k)).getD 1 0,aT,aS,gF]else s.R y:=λy hy=>Et a5 a3 hy;have ne:s.ahead k≠s.new:=λz=>by
   rcases hA.1 with y | y
   ·omega
   ·exact a4 (z▸y)
  unfold Wb.e2;rw[Et hA.2.1 (by show _<((s.wr _ _ _).rs.length:Int);rw[oR];exact hA.2.2) x0];by_cases c:x=s.ahead k
  ·rw[sk c,sv (by rw[c];exact ne),e1r _ hA.2.1,sv ne,c]
   rfl
  ·rw[sv c,e1r x x0]
   by_cases c2:x=s.new
   ·rw[sk c2,sk c2];rfl
   ·rw[sv c2,sv c2];rfl
 refine⟨w.bn,w.p1,w.len,w.few,w.pos,w.rcd,w.las,w.lao,?_,?_,?_,?_,?_,?_,?_,?_,?_,w.th⟩
 ·rw[gu];exact(h.coo.put _ _).mono (by omega)
 ·rw[gu];exact h.goo.mono (by omega)
 ·intro x y e
  have e:(s.co.put s.new (s.n+1:Nat)).get x=NR y:=e;rw[Mp.mO h.coo.1]at e;rw[gu];split at e
  ·cases e
   omega
  ·have:=h.coi x y e
   omega
 ·intro x y e
  have:=h.goi x y e;rw[gu];omega
 ·refine Q1.mpr ⟨h.Oc.sublist (M6 _ _),F1.mpr ⟨λz=>a4 (X2 z),h.Oc.sublist (o7 _ _)⟩,λx hx y hy=>?_⟩
  rcases B9.mp hy with z | z
  ·rintro rfl
   exact a4 (z▸L7 hx)
  ·have:=h.Oc
   rw[←M0 k.toNat s.od]at this;exact(Q1.mp this).2.2 x hx y z
 ·intro x hx
  rw[ag]
  rcases(fg x).mp hx with z | z
  ·omega
  ·exact h.sV x z
 ·exact h.lon.sublist (W0 _ _)
 ·intro x
  show x∈s.lo.eraseIdx (s.lo.idxOf s.new)↔_;rw[ag,Eg h.lon,h.lom x];show _↔1≤x∧x<(s.rs.length:Int)∧x∉s.od.take k.toNat++s.new::s.od.drop k.toNat;rw[fg x,not_or];constructor
  ·rintro⟨⟨z1,z2,z3⟩,z4⟩
   exact⟨z1,z2,z4,z3⟩
  ·rintro⟨z1,z2,z4,z3⟩
   exact⟨⟨z1,z2,z3⟩,z4⟩
 ·have hp:=h.key
  rw[←M0 k.toNat s.od]at hp;obtain⟨p1,p2,p3⟩:=K6.mp hp;have nt:∀x∈s.od.take k.toNat,x≠s.new:=λx hx z=>a4 (z▸L7 hx);have nd:∀x∈s.od.drop k.toNat,x≠s.new:=λx hx z=>a4 (z▸X2 hx);have kt:∀x∈s.od.take k.toNat,(s.ent k key aT aS gF fu).key x=s.key x:=λx hx=>by rw[kk x (.inr (L7 hx)),sv (nt x hx)]
  have kd:∀x∈s.od.drop k.toNat,(s.ent k key aT aS gF fu).key x=s.key x:=λx hx=>by rw[kk x (.inr (X2 hx)),sv (nd x hx)]
  have kn:(s.ent k key aT aS gF fu).key s.new=key:=by rw[kk _ (.inl U),sk rfl]
  show (s.od.take k.toNat++s.new::s.od.drop k.toNat).Pairwise _;refine K6.mpr ⟨p1.imp_of_mem λ{x y} hx hy q=>by rw[kt x hx,kt y hy];exact q,F6.mpr ⟨λy hy=>by rw[kn,kd y hy];exact hk.2 y hy,p2.imp_of_mem λ{x y} hx hy q=>by rw[kd x hx,kd y hy];exact q⟩,λx hx y hy=>?_⟩;rw[kt x hx];rcases B9.mp hy with z | z
  ·rw[z,kn]
   exact hk.1 x hx
  ·rw[kd y z]
   exact p3 x hx y z
def aFU{key:Int}(h0:0≤k)(h1:k≤(s.od.length:Int))(hk:s.Fits k key):(((s.od.filter λx=>decide (s.key x<key)).length:Nat):Int)=k:=by
 conv=>lhs;rw[←M0 k.toNat s.od]
 rw[P6,R4.mpr λx hx=>tf (hk.1 x hx),g9.mpr λx hx=>by have:=hk.2 x hx;simp;omega,F0,G7];omega
def aIT{env:EN}{p:List L2.Step}{ns:List Int}(h1:env[i]?=NR (.own d0))(h2:π (rE env)=NR p)(h3:gJ p d0=NR (aN ns))(h4:f (rE env)=NR (.int k))(h5:g (rE env)=NR (.int y))(k0:0≤k)(k1:k≤(ns.length:Int))(hl:ns.length<1000):aA2 i π f g env=.next (env.set i (.own (fO p d0 (aN (ns.take k.toNat++y::ns.drop k.toNat))))):=by unfold aA2;rw[h1,h2,h4,h5];dsimp only;rw[h3];unfold aN;dsimp only;rw[lM];dsimp only;rw[sk ⟨k0,by omega,hl⟩]
def aDD{env:EN}{p:List L2.Step}{ns:List Int}(h1:env[i]?=NR (.own d0))(h2:π (rE env)=NR p)(h3:gJ p d0=NR (aN ns))(h5:g (rE env)=NR (.int y))(hy:y∈ns):jj i π g env=.next (env.set i (.own (fO p d0 (aN (ns.eraseIdx (ns.idxOf y)))))):=by unfold jj;rw[h1,h2,h5];dsimp only;rw[h3];unfold aN;dsimp only;rw[lM];dsimp only;rw[sk hy]
def aDE(h:mJ s)(hl:0<s.lo.length)(hm:s.n<123){key aT aS gF:Int}(h0:0≤k)(h1:k≤(s.od.length:Int))(hn:∀m∈fu,0≤m∧m<(s.n:Int))(hf:fu.length≤5)(hk:s.Fits k key)(ia:(nd=.non∧fu=[])∨nd=aN fu):
 tQ κ [lR κ s,.int key,.int aT,.int aS,.int gF,nd]=NR (.tup [.int s.new,.int (s.n+1:Nat)],lR κ (s.ent k key aT aS gF fu)):=by
 refine qD U λv=>?_;unfold Jm;obtain⟨a1,a2,a3,a4,a5⟩:=h.new hl;obtain⟨b1,b2,b3⟩:=h.ahead h0 h1;obtain⟨W2,eB,hc⟩:=h.e2 hl hm (key:=key) (aT:=aT) (aS:=aS) (gF:=gF) h0 h1 hn hf;have W1:=h.e1 hl (by omega) k key aT aS gF;have h5:=h.five b2 b3;have ho:=h.aBo;refine wY (cB (aJ (cV (aA (dW U (pM w3 U)) U) (qN _)) U (kZ _ _))) (tj (by omega)) (yS ?_);refine cD (d:=aN fu) (bU (nm:=uZ) U (by walk_at "k") U U (Hj κ hn ia)) (by walk_at "n") ?_;have Cu:=Lq (fi:=kO (tG (fP (κ 1) "string") (aD 0))) (fr:=[0,1]) (fc:=fB (f2 gw (f2 cW (fH (κ 1) "record_of" 2 (bC κ) (aD 1) (aB (aD 0) aL) []) (fC (.int (0)))) (aD 2))) (fe:=cL (aD 0)) (e:=rE [.inn v (lR κ s),.fro (.int key),.fro (.int aT),.fro (.int aS),.fro (.int gF),.fro nd,.own (aN fu),.no,.no,.no,.no,.no]) (ms:=s.od) (λx=>decide (s.key x<key)) (λx=>.int x) (gD (dW U (pM w2 U))) (by omega) (λx hx=>by
  have:=h.sV x hx;exact cB (aJ (aJ (bU (nm:=uZ) U (by walk_at "k") U U (lJ κ h (by omega) this.2)) U (pN (k:=0) (by rw[h.five (by omega) this.2];decide))) U (vI _ _))) λx hx _=>bD U U
 refine cD (d:=.int k) ((cV (aA Cu U) (Tt _)).trans (by rw[B8,aFU h0 h1 hk])) (by walk_at "n") ?_;refine cD (d:=.int (s.ahead k)) (bU (nm:=uZ) U (by walk_at "k") U U (Oe κ h h0 h1)) (by walk_at "n") ?_;refine cD (d:=.int s.new) (cV (aA (dW U (pM w3 U)) U) (ju hl)) (by walk_at "n") ?_;refine HJ (d:=.int s.n) (aI:=[.inn v (lR κ (s.e1 k key aT aS gF)),.fro (.int key),.fro (.int aT),.fro (.int aS),.fro (.int gF),.fro nd,.own (aN fu),.own (.int k),.own (.int (s.ahead k)),.own (.int s.new),.no,.no])
  (lD (p:=[]) (nm:=uZ) (es:=[.int s.new,dTup [key,(s.R (s.ahead k)).getD 1 0,aT,aS,gF],nD [s.go.get s.new]]) U U U (by walk_at "k") (mapA (fU U (Uc (pF (aA (bD U U) (aA (bD (aJ (bU (nm:=uZ) U (by walk_at "k") U U (lJ κ h b2 b3)) U (pN (k:=1) (by omega))) U) (aA (bD U U) (aA (bD U U) (aA (bD U U) U))))) (by walk_at "n")) (Uc (iD (aA (bU (nm:=uZ) U (by walk_at "k") U U (YM κ h s.new)) U) (by walk_at "n")) U)))) ((YQ κ h a5 a3 (by rw[Kg];exact λm hm=>h.aIS _ m (by simpa[Vp]using hm)) (by simp)).trans (by rw[Kg,show Vp []=[]from rfl,F0];rfl))) (by walk_at "n") ?_
 refine HJ (d:=.int (s.n+1:Nat)) (aI:=[.inn v (lR κ (s.e2 k key aT aS gF fu)),.fro (.int key),.fro (.int aT),.fro (.int aS),.fro (.int gF),.fro nd,.own (aN fu),.own (.int k),.own (.int (s.ahead k)),.own (.int s.new),.own (.int s.n),.no])
  (lD (p:=[]) (nm:=uZ) (es:=[.int (s.ahead k),.int s.new,aN ((s.n:Int)::fu)]) U U U (by walk_at "k") (mapA (fU U (fU U (fU (aJ (iD (aA U U) (by walk_at "n")) U (yW [(s.n:Int)] fu (by simp;omega))) U)))) ((aFT κ W1 b2 hc eB (by simp;omega)).trans (by rw[aBp];rfl))) (by walk_at "n") ?_
 refine rC U (aIT (p:=[L2.Step.fld (κ 1) "string"]) (ns:=s.od) U U (wJ w2 U) U U h0 h1 (by omega)) U ?_;rw[show fO [L2.Step.fld (κ 1) "string"] (lR κ (s.e2 k key aT aS gF fu)) (aN (s.od.take k.toNat++s.new::s.od.drop k.toNat))=.ins (κ 1) uZ _ from wK w2 rfl];refine rC U (aDD (p:=[L2.Step.fld (κ 1) "loose"]) (ns:=s.lo) U U (wJ w3 U) U a1) U ?_;rw[wK w3 rfl];refine rC U (Qg (p:=[L2.Step.fld (κ 1) "comings"]) (k:=.inl s.new) (kd:=.int s.new) (d:=.int (s.n+1:Nat)) U U (wJ w5 U) U U U U (by rw[B8];have:=W2.coo.2;have:=W2.aKD;omega)) U ?_;rw[wK w5 U,ph];exact Qh (aIF (pF (aA (bD U U) (aA (bD U U) U)) (by walk_at "n"))) ⟨_,.inl U,U⟩
def Vc(s:Wb):jY κ [lR κ s]=NR (aN s.od):=nO U (gB (cV (aA (dW U (pM w2 U)) U) (wX (fK _))))
def YX(h:mJ s):vP κ [lR κ s]=NR (aN (sortI s.lo)):=nO U (gB (cV (aA (dW U (pM w3 U)) U) (Jf h.aKE)))
def Ws(h:mJ s)(x:Int):mL κ [lR κ s,.int x]=NR (KN (s.la.get x)):=nO U (gB (aJ (dW U (pM w4 U)) U (ou h.lao.1 x)))
def Wb.cv(s:Wb)(r:List Int):Wb:={s with b:=s.b.bW r}
def mJ.cv(h:mJ s){r:List Int}(hu:r.Nodup)(hm:∀x∈r,0≤x∧x<(s.n:Int))(hn:∀x∈r,x∉s.b.held):mJ (s.cv r)∧bkD (s.cv r)=bkD s∧(s.cv r).n=s.n∧(s.cv r).P=s.P:=by
 have e1:=iQ r s.b;obtain⟨e2,e3⟩:=kE r s.b;have en:(s.cv r).n=s.n:=congrArg f7 e1;have eP:(s.cv r).P=s.P:=e2;refine⟨⟨h.bn.bW hu hm hn,by rw[eP];exact h.p1,λk hk=>?_,h.few,h.pos,λk hk=>?_,λk hk=>?_,by rw[en];exact h.lao,by rw[en];exact h.coo,by rw[en];exact h.goo,by rw[en];exact h.coi,by rw[en];exact h.goi,h.Oc,h.sV,h.lon,h.lom,h.key,λk hk=>?_⟩,?_,en,eP⟩
 ·rw[eP];show _<((s.b.bW r).bB.getD _ []).length;rw[e3];exact h.len k hk
 ·rw[eP];show s.rs.getD k []=face (s.b.bW r) _ _∧_;rw[KJ h.bn (O3 _) (O3 _) hm];exact h.rcd k hk
 ·rw[eP];show s.la.get k=lastAt (s.b.bW r).asked _ _;rw[e1];exact h.las k hk
 ·show (at_ (s.b.bW r).asked k).thing.length=5;rw[e1];exact h.th k (by rw[←en];exact hk)
 ·unfold bkD;rw[eP];show D.dk bks [_,_,_,_,_,yX (s.b.bW r).asked,_]=_;rw[e1];rfl
def Wb.o1(s:Wb)(k x:Int)(fu:List Int):Wb:=s.wr (s.ahead k) (Od (s.R (s.ahead k)) ((s.R x).getD 1 0)) (s.ns (s.ahead k) ((s.la.get x).toList++fu))
def Wb.out(s:Wb)(k x:Int)(fu:List Int):Wb:={s.o1 k x fu with od:=s.od.eraseIdx k.toNat,lo:=s.lo++[x],go:=s.go.put x s.n}
def Vd{x:Int}:∀{k:Nat},l.Nodup→l[k]?=NR x→l.idxOf x=k:=by
 induction l with
 | nil=>intro k _ h;cases h
 | cons a l ih=>
  intro k hn h;have hn':=F1.mp hn;cases k with
  | zero=>cases h;exact X3
  | succ k=>have h:l[k]?=NR x:=h;have ne:a≠x:=λz=>hn'.1 (z▸D6 h);rw[W9,show (a==x)=NV from beq_false_of_ne ne,←ih hn'.2 h];rfl
def mJ.aMg(h:mJ s){x:Int}(h0:0≤x)(h1:x<(s.rs.length:Int)):∀m∈(s.la.get x).toList,0≤m∧m<(s.n:Int):=λm hm=>by
 have e:=h.las x.toNat (by omega);rw[T7 h0]at e;rw[e]at hm;cases z:lastAt s.b.asked ((x.toNat%s.P:Nat):Int) ((x.toNat/s.P:Nat):Int)with
 | none=>rw[z]at hm;cases hm
 | some y=>rw[z]at hm;rw[D2.mp hm];have:=Ef z;exact⟨this.1,this.2.1⟩
def mJ.o1(h:mJ s)(hm:s.n<124){x:Int}(h0:0≤k)(h1:k≤(s.od.length:Int))(x0:0≤x)(x1:x<(s.rs.length:Int))(hn:∀m∈fu,0≤m∧m<(s.n:Int))(hf:fu.length≤5):mJ (s.o1 k x fu)∧∀m∈(s.la.get x).toList++fu,0≤m∧m<(s.n:Int):=by
 obtain⟨b1,b2,b3⟩:=h.ahead h0 h1;have eB:∀m∈(s.la.get x).toList++fu,0≤m∧m<(s.n:Int):=λm hm=>by
  rcases F8.mp hm with z | z
  ·exact h.aMg x0 x1 m z
  ·exact hn m z
 refine⟨h.wr b2 b3 U (h.qg eB) ?_ hm λ_=>rfl,eB⟩;unfold Wb.ns;rw[D1,D1];have:=nY (s.co.get (s.ahead k));have:=nY (s.la.get x);omega
def aGS(s:Wb)(k x:Int)(fu:List Int):(s.out k x fu).n=s.n+1:=by show (s.o1 k x fu).n=_;unfold Wb.o1;exact qe _ _ _ _
def Qm(s:Wb)(k x:Int)(fu:List Int):(s.out k x fu).rs.length=s.rs.length:=by show (s.o1 k x fu).rs.length=_;unfold Wb.o1;exact oR _ _ _ _
def mJ.out(h:mJ s)(hm:s.n<124){x:Int}(h0:0≤k)(h1:k<(s.od.length:Int))(hx:s.od[k.toNat]?=NR x)(hn:∀m∈fu,0≤m∧m<(s.n:Int))(hf:fu.length≤5):mJ (s.out k x fu):=by
 have xm:x∈s.od:=D6 hx;have xr:=h.sV x xm;obtain⟨w,_⟩:=h.o1 hm h0 (M3 h1) (x:=x) (by omega) xr.2 hn hf;have hi:=Vd h.Oc hx;have ag:=Qm s k x fu;have gu:=aGS s k x fu;refine⟨w.bn,w.p1,w.len,w.few,w.pos,w.rcd,w.las,w.lao,?_,?_,?_,?_,h.Oc.sublist (W0 _ _),?_,?_,?_,w.key.sublist (W0 _ _),w.th⟩
 ·rw[gu];exact h.coo.mono (by omega)
 ·rw[gu];exact h.goo.put _ _
 ·intro z y e
  have:=h.coi z y e;rw[gu];omega
 ·intro z y e
  have e:(s.go.put x s.n).get z=NR y:=e;rw[Mp.mO h.goo.1]at e;rw[gu];split at e
  ·cases e
   omega
  ·have:=h.goi z y e
   omega
 ·intro z hz
  rw[ag];exact h.sV z (List.mem_of_mem_eraseIdx hz)
 ·refine Q1.mpr ⟨h.lon,by simp,λy hy z hz q=>?_⟩
  rw[D2.mp hz]at q;exact((h.lom y).mp hy).2.2 (q▸xm)
 ·intro y
  show y∈s.lo++[x]↔_;rw[ag];show _↔1≤y∧y<(s.rs.length:Int)∧y∉s.od.eraseIdx k.toNat;rw[←hi,Eg h.Oc,F8,D2,h.lom y];constructor
  ·rintro(⟨z1,z2,z3⟩ | rfl)
   ·exact⟨z1,z2,λq=>z3 q.1⟩
   ·exact⟨xr.1,xr.2,λq=>q.2 U⟩
  ·rintro⟨z1,z2,z3⟩
   by_cases e:y=x
   ·exact .inr e
   ·exact .inl ⟨z1,z2,λq=>z3 ⟨q,e⟩⟩
def aDF(h:mJ s)(hm:s.n<124){x:Int}(h0:0≤k)(h1:k<(s.od.length:Int))(hx:s.od[k.toNat]?=NR x)(hn:∀m∈fu,0≤m∧m<(s.n:Int))(hf:fu.length≤5)(ia:(nd=.non∧fu=[])∨nd=aN fu):nR κ [lR κ s,.int x,nd]=NR (.int s.n,lR κ (s.out k x fu)):=by
 refine qD U λv=>?_;unfold Jk;obtain⟨b1,b2,b3⟩:=h.ahead h0 (M3 h1);have xm:x∈s.od:=D6 hx;have xr:=h.sV x xm;have hi:=Vd h.Oc hx;have h5:=h.five (x:=x) (by omega) xr.2;obtain⟨W,eB⟩:=h.o1 hm h0 (M3 h1) (x:=x) (by omega) xr.2 hn hf;have ek:Vp (s.la.get x::fu.map NR)=(s.la.get x).toList++fu:=by rw[Kg,Cv]
 have gv:Bh (aN s.od) (.int x)=NR (.int k):=by unfold Bh aN;dsimp only;rw[lM,C4,sk xm,hi,T7 h0]
 have aKF:=Hj κ (s:=s) hn ia;rw[Nf]at aKF;refine cD (d:=.int (s.ahead k)) (bU (nm:=uZ) U (by walk_at "k") (aA (aJ (dW U (pM w2 U)) U gv) U) U (Oe κ h h0 (M3 h1))) (by walk_at "n") ?_;refine cD (d:=nD (s.la.get x::fu.map NR)) (aJ (a:=nD [s.la.get x]) (b:=nD (fu.map NR)) (iD (aA (bU (nm:=uZ) U (by walk_at "k") U U (Ws κ h x)) U) (by walk_at "n")) (bU (nm:=uZ) U (by walk_at "k") U U aKF) (Vb _ _ (by simp;omega))) (by walk_at "n") ?_;refine HJ (d:=.int s.n) (aI:=[.inn v (lR κ (s.o1 k x fu)),.fro (.int x),.fro nd,.own (.int (s.ahead k)),.own (nD (s.la.get x::fu.map NR)),.no]) (lD (p:=[]) (nm:=uZ) (es:=[.int (s.ahead k),.int ((s.R x).getD 1 0),nD (s.la.get x::fu.map NR)]) U U U (by walk_at "k") (mapA (fU U (Uc (bD (aJ (bU (nm:=uZ) U (by walk_at "k") U U (lJ κ h (by omega) xr.2)) U (pN (k:=1) (by omega))) U) (fU U U)))) ((YW κ h b2 b3 (by rw[ek];exact eB) (by simp;omega)).trans (by rw[ek];rfl))) (by walk_at "n") ?_;refine rC U (aDD (p:=[L2.Step.fld (κ 1) "string"]) (ns:=s.od) U U (wJ w2 U) U xm) U ?_;rw[hi,show fO [L2.Step.fld (κ 1) "string"] (lR κ (s.o1 k x fu)) (aN (s.od.eraseIdx k.toNat))=.ins (κ 1) uZ _ from wK w2 rfl];refine rC U (Lr (p:=[L2.Step.fld (κ 1) "loose"]) (ds:=s.lo.map D.int) (d:=.int x) U U (wJ w3 U) (bD U U) (by rw[B8];have:=h.aKE;omega)) U ?_;rw[wK w3 U,yR];refine rC U (Qg (p:=[L2.Step.fld (κ 1) "goings"]) (k:=.inl x) (kd:=.int x) (d:=.int s.n) U U (wJ w6 U) U U U U (by rw[B8];exact R6 (show s.go.k.length≤s.n from h.goo.2) (by omega))) U ?_;rw[wK w6 U,ph];exact Qi U ⟨_,.inl U,U⟩
section
variable{env e1 e2:EN}{b:Bool}{d2 r:D}{ft:FT}{g1 g2:GS}{gb gc:GB}{eF eZ:DE}{z y:FE2}{fs:FA2}{es xs ys:List D}{js:List Nat}{φ:D→D→Option D}
end
section
variable{env e1 e2 e0:EN}{b:Bool}{r:D}{gb:GB}{gn:GM}{as:List Ar}{F:List D→Option (D×List D)}{Qc TJ bE:List D}{ds:List D}
def aDG(h1:takes (chA as) env=NR (Qc,e0))(h2:rdA as (rE env) (rE e0)=NR TJ)(h3:F (wG (rB as) Qc TJ)=NR (r,bE)):TQ as F env=NR (r,Wg (chA as) bE env):=by unfold TQ;rw[h1,C4,h2,C4,h3];rfl
def aKG(h1:f eZ=NR d)(h2:rdA as eF eZ=NR ds):rdA (.rd f::as) eF eZ=NR (d::ds):=by show (f eZ).bind _=_;rw[h1,C4,h2];rfl
def aGT(h2:rdA as eF eZ=NR ds):rdA (.ch i::as) eF eZ=NR ds:=h2
end
def Ve(ns:List Int)(k:Nat):mX [aN ns,.int k]=NR (.int (ns.getD k 0)):=by
 refine lW U ?_;unfold WD;by_cases c:k<ns.length
 ·have hx:=jX (ns:=ns) (i:=k) (by omega) (by omega);rw[C7]at hx;apply aIA
  ·walk_at "et"
  ·exact tf (by omega)
  exact aKr (bD (aJ U U hx) U) U
 ·apply aIz
  ·walk_at "et"
  ·exact tj (by omega)
  apply aKq;rw[B7,D9 (by omega)];exact gB U
def aBq(c:Int):∃s:Int,0≤s∧mY [.int c]=NR (.int s):=by
 suffices h:∃d,mY [.int c]=NR d∧∃s:Int,0≤s∧d=.int s by obtain⟨d,h1,s,h0,rfl⟩:=h;exact⟨s,h0,h1⟩
 refine oM U ?_;unfold Ui;have a0:=F2 c (show (2147483629:Int)≠0 by decide);have a1:=G0 c (show (0:Int)<2147483629 by decide)
 walk_at "q"
 have n0:=F2 ((c%2147483629+1)*48271) (show (2147483629:Int)≠0 by decide);have n1:=G0 ((c%2147483629+1)*48271) (show (0:Int)<2147483629 by decide);generalize (c%2147483629+1)*48271%2147483629=n at *;have e50:Ek (.int 10) (.int 50)=NR (.int (10 ^ 50)):=pA ⟨by decide,by decide,by decide⟩;have m0:=F2 c (show (10 ^ 50:Int)≠0 by decide);have q0:=F2 (n*n) (show (2147483587:Int)≠0 by decide);refine pL (aJ (aJ (aJ U U (gC (Ep (by omega) (by omega)))) U (bI (by decide))) (aJ (aJ U (aJ U U e50) (bI (by decide))) U (gC (aKp (by decide) (by decide)))) (bZ _ _)) ⟨_,U,_,?_,U⟩;have:=j5 m0 (show (0:Int)≤2147483587 by decide);omega
abbrev bJ(s:List (List (List Int))):D:=jM s
def xU{s:List (List (List Int))}{k:Nat}{p:List (List Int)}(h:s[k]?=NR p):cW (bJ s) (.int k)=NR (eN p):=by unfold bJ;exact tK (by omega) (by rw[C7,C5,h];rfl)
def aKH{p:List (List Int)}{k:Nat}(h:p[k]?=NR t):cW (eN p) (.int k)=NR (dTup t):=by unfold eN;exact tK (by omega) (by rw[C7,C5,h];rfl)
def xV(s:List (List (List Int))):gZ [bJ s]=NR (.int s.length):=xT s
def aU(P R:Nat)(cO:List (List Int))(aQ:List Int):List (List (List Int)):=(D5 P).map λp=>((D5 R).map λr=>cO.getD (p+P*r) [])++[[aQ.getD p 0]]
def KR{P R p r:Nat}(hp:p<P)(hr:r<R):p+P*r<P*R:=by have h1:P*(r+1)≤P*R:=Nat.mul_le_mul_left P hr;rw[Nat.mul_succ]at h1;omega
def getD_mem{k:Nat}(h:k<l.length):l.getD k 0∈l:=by rw[B7,B6 h];exact L0 h
def Cw(h:l.Nodup)(hi:i<l.length)(hj:j<l.length)(kF:i≠j):l.getD i 0≠l.getD j 0:=by
 rw[B7,B7,B6 hi,B6 hj];show l[i]≠l[j];have pd:=J8.mp h;rcases G4 i j with q | q
 ·exact pd i j hi hj q
 ·exact λe=>pd j i hj hi (by omega) e.symm
def zj{s:List (List (List Int))}{b:Int}(h:0<s.length)(h2:s.length≤1000):yZ [bJ s,.int b]=NR (dTup [b%s.length,b/s.length]):=by
 refine lW U ?_;unfold yu;have ag:=xV s;apply gB;show _=NR (D.tup [.int (b%s.length),.int (b/s.length)])
 walk_at "ev"
def aDH{s:List (List (List Int))}{p:List (List Int)}(h1:s[i]?=NR p)(h2:p[j]?=NR t):Bo [bJ s,dTup [(i:Int),(j:Int)]]=NR (dTup t):=by refine lW U ?_;unfold WK;apply gB;exact bD (aJ (aJ U (aJ U U (vJ (by decide) U)) (xU h1)) (aJ U U (vJ (by decide) U)) (aKH h2)) (lY _)
def aDI{s:List (List (List Int))}{b:Nat}{p:List (List Int)}(h:0<s.length)(h2:s.length≤1000)(h1:s[b%s.length]?=NR p)(h3:p[b/s.length]?=NR t):jO [bJ s,.int b]=NR (dTup t):=by
 refine lW U ?_;unfold Yy;have hs:=zj (b:=(b:Int)) h h2;have ht:Bo [bJ s,dTup [(b:Int)%s.length,(b:Int)/s.length]]=NR (dTup t):=aDH (i:=b%s.length) (j:=b/s.length) h1 h3;apply gB
 walk_at "ev"
def pI(P R:Nat)(cO:List (List Int))(aQ:List Int):(aU P R cO aQ).length=P:=by unfold aU;rw[B8,E1]
def tX{P R:Nat}{p:Nat}(h:p<P):(aU P R cO aQ)[p]?=NR (((D5 R).map λr=>cO.getD (p+P*r) [])++[[aQ.getD p 0]]):=by unfold aU;rw[C5,I0 h];rfl
def Kh{P R:Nat}{q:List (List Int)}(h:q∈aU P R cO aQ):q.length=R+1:=by unfold aU at h;obtain⟨p,_,rfl⟩:=J4.mp h;rw[D1,B8,E1];rfl
def ZC{P R:Nat}{p r:Nat}(hr:r<R):(((D5 R).map λr=>cO.getD (p+P*r) [])++[[aQ.getD p 0]])[r]?=NR (cO.getD (p+P*r) []):=by rw[F9 (by rw[B8,E1];exact hr),C5,I0 hr];rfl
def Vf{P R:Nat}{b:Nat}(hP:0<P)(hb:b<P*R):∃q,(aU P R cO aQ)[b%P]?=NR q∧q[b/P]?=NR (cO.getD b []):=by have h1:b%P<P:=R8 _ hP;have h2:b/P<R:=T0 hb;refine⟨_,tX h1,?_⟩;rw[ZC h2,X4]
def Chain(cO:List (List Int))(aw:List Int):Prop:=∀k,k≤aw.length→∃key aT aS gF:Int,cO[(([0]++aw).getD k 0).toNat]?=NR [key,(aw++[0]).getD k 0,aT,aS,gF]
def Vg{P R:Nat}{x:Int}(hP:0<P)(lT:P≤8)(h0:0≤x)(h1:x<(P*R:Nat))(ht:cO[x.toNat]?=NR t):jO [bJ (aU P R cO aQ),.int x]=NR (dTup t):=by obtain⟨q,q1,q2⟩:=Vf (cO:=cO) (aQ:=aQ) (b:=x.toNat) hP (show x.toNat<P*R by omega);have hl:=pI P R cO aQ;have:=aDI (s:=aU P R cO aQ) (b:=x.toNat) (by omega) (by omega) (by rw[hl];exact q1) (by rw[hl];exact q2);rw[T7 h0,dY ht]at this;exact this
def Ng{P R:Nat}{aw:List Int}(hP:0<P)(lT:P≤8)(hR:0<R)(hc:Chain cO aw)(hb:∀x∈aw,1≤x∧x<(P*R:Nat))(hn:aw.Nodup)(hl:aw.length≤64):nP [bJ (aU P R cO aQ)]=NR (aN aw):=by
 suffices h:∃d,nP [bJ (aU P R cO aQ)]=NR d∧d=aN aw by obtain⟨d,h1,rfl⟩:=h;exact h1
 have hm:0<P*R:=T2 hP hR;generalize hbd:P*R=m at *;have nx:∀k,k≤aw.length→∃t:List Int,jO [bJ (aU P R cO aQ),.int (([0]++aw).getD k 0)]=NR (dTup t)∧cW (dTup t) (.int 1)=NR (.int ((aw++[0]).getD k 0)):=λk hk=>by
  obtain⟨key,aT,aS,gF,h1⟩:=hc k hk;have hx:([0]++aw).getD k 0∈[0]++aw:=getD_mem (by rw[D1];simp;omega);have hx2:0≤([0]++aw).getD k 0∧([0]++aw).getD k 0<((P*R:Nat):Int):=by
   rw[hbd];rcases F8.mp hx with q | q
   ·have:=D2.mp q;omega
   ·have:=hb _ q;omega
  exact⟨_,Vg hP lT hx2.1 hx2.2 h1,vJ (by decide) U⟩
 refine oM U ?_;unfold Yz
 walk_at "q"
 obtain⟨t0,ht0,pk⟩:=nx 0 (L5 _);have aOy:jO [bJ (aU P R cO aQ),.int 0]=NR (dTup t0):=ht0
 walk_at "q"
 refine aFH (n:=aw.length) (λn env=>n≤aw.length∧env=[.fro (bJ (aU P R cO aQ)),.own (.dk ((aw.take (aw.length-n)).map G2) ((aw.take (aw.length-n)).map λ_=>D.bl NU)),.own (.int ((aw++[0]).getD (aw.length-n) 0))]) ⟨C9 _,by rw[S5];rfl⟩ (by omega) ?_ ?_
 ·rintro n env ⟨hnl,rfl⟩;by_cases c:n=0
  ·left;subst c;have e:(aw++[0]).getD (aw.length-0) 0=0:=by rw[a9,B7,J7 (C9 _),S5];rfl
   rw[e];refine jm (cB ((aJ U U (Dw 0 0)).trans ?_));rw[tf rfl];rfl
  ·right;generalize hk:aw.length-n=k;have gI:k<aw.length:=by omega
   have e:(aw++[0]).getD k 0=aw.getD k 0:=by rw[B7,B7,F9 gI]
   have hx:=hb _ (getD_mem gI);have lh:aw.getD k 0∉aw.take k:=by intro z;obtain⟨j,hj,ej⟩:=G6 z;rw[G7]at hj;rw[V4]at ej;have:=Cw hn (i:=j) (j:=k) (by omega) gI (by omega);rw[B7,B6 (show j<aw.length by omega)]at this;exact this ej
   rw[e];obtain⟨t,ht,hxt⟩:=nx (k+1) gI;have ht':jO [bJ (aU P R cO aQ),.int (aw.getD k 0)]=NR (dTup t):=ht;refine⟨?_,by omega,_,aKs (aFG (k:=G2 (aw.getD k 0)) U U U U (Bm lh) U (by rw[B8,G7];omega)) (yO (bD (aJ (bM (aA U (aA U U)) U ht') U hxt) U) (by walk_at "n")),by omega,?_⟩
   ·refine(jl (cB (b:=NU) ((aJ U U (Dw _ _)).trans ?_))).trans (cB (aJ U U ?_))
    ·rw[tj (by omega)];rfl
    ·show (NR _:Option D)=_;rw[Bm lh];rfl
   ·have e2:aw.length-(n-1)=k+1:=by omega
    have e3:aw.take (k+1)=aw.take k++[aw.getD k 0]:=by rw[Q2,dU (d:=0) gI];rfl
    rw[e2,e3,J6,J6];rfl
 ·rintro env n ⟨hnl,rfl⟩ hf;by_cases c:n=0
  ·subst c;rw[a9,P1];apply pL (cV (aA U U) U);exact⟨_,U,Yr aw⟩
  ·exfalso;generalize hk:aw.length-n=k at hf;have gI:k<aw.length:=by omega
   have e:(aw++[0]).getD k 0=aw.getD k 0:=by rw[B7,B7,F9 gI]
   have hx:=hb _ (getD_mem gI);have lh:aw.getD k 0∉aw.take k:=by intro z;obtain⟨j,hj,ej⟩:=G6 z;rw[G7]at hj;rw[V4]at ej;have:=Cw hn (i:=j) (j:=k) (by omega) gI (by omega);rw[B7,B6 (show j<aw.length by omega)]at this;exact this ej
   rw[e]at hf;have:(El (fB (f2 ak (aD 2) (fC (.int (0))))) (fB (f2 (Ib NU) (aD 2) (aD 1)))) (rE [.fro (bJ (aU P R cO aQ)),.own (.dk ((aw.take k).map G2) ((aw.take k).map λ_=>D.bl NU)),.own (.int (aw.getD k 0))])=NR NU:=by
    refine(jl (cB (b:=NU) ((aJ U U (Dw _ _)).trans ?_))).trans (cB (aJ U U ?_))
    ·rw[tj (by omega)];rfl
    ·show (NR _:Option D)=_;rw[Bm lh];rfl
   rw[this]at hf;cases hf
def pB(m:Nat):List Int:=(D5 (m-1)).map λi:Nat=>(1:Int)+(i:Int)
def aDJ{P R:Nat}{aQ aw:List Int}(hP:0<P)(lT:P≤8)(hR:0<R)(hR8:R≤8)(hc:Chain cO aw)(hb:∀x∈aw,1≤x∧x<(P*R:Nat))(hn:aw.Nodup)(hl:aw.length≤64):
 rF [bJ (aU P R cO aQ)]=NR (aN ((pB (P*R)).filter λi=>!decide (i∈aw))):=by
 have sM:P*R≤8*8:=Q6 lT hR8;have lj:0<P*R:=T2 hP hR;have sN:=Ng (aQ:=aQ) hP lT hR hc hb hn hl;have ZD:lN [bJ (aU P R cO aQ)]=NR (.int ((P*R:Nat):Int)):=by
  refine lW U ?_;unfold Gq;apply gB;have hls:=xV (aU P R cO aQ);rw[pI]at hls;have h0:(aU P R cO aQ)[0]?=NR _:=tX (p:=0) hP;have gv:cW (bJ (aU P R cO aQ)) (.int 0)=NR (eN _):=xU (k:=0) h0;have mf:=rQ (((D5 R).map λr=>cO.getD (0+P*r) [])++[[aQ.getD 0 0]]);rw[Kh (D6 h0)]at mf;rw[U1];have e:(R:Int)=((R+1:Nat):Int)-1:=by omega
  rw[e];exact aJ (cV (aA U U) hls) (aJ (cV (aA (aJ U U gv) U) mf) U (lX _ _)) (gC (Ep (by omega) (by omega)))
 suffices h:∃d,rF [bJ (aU P R cO aQ)]=NR d∧d=aN ((pB (P*R)).filter λi=>!decide (i∈aw)) by obtain⟨d,h1,rfl⟩:=h;exact h1
 refine oM U ?_;unfold Nx
 walk_at "q"
 generalize P*R=m at *;have e:jL (0+1) ((m:Int)-(0+1)).toNat=(pB m).map D.int:=by unfold jL pB;rw[M4,show ((m:Int)-(0+1)).toNat=m-1 by omega];rfl
 refine pL (d:=aN ((pB m).filter λi=>!decide (i∈aw))) ?_ ⟨_,U,U⟩;refine(Bk (ys:=((jL (0+1) ((m:Int)-(0+1)).toNat).filter λd=>match d with | .int i=>!decide (i∈aw) | _=>NV).map id) (aC6 (i:=0+1) (j:=m) (aA (aJ U U (bZ _ _)) (aA (bM (aA U U) U ZD) U)) (by decide) (by decide) (by omega) (by omega)) (by rw[yQ];omega) ?_).trans ?_
 ·refine Je (p:=λd=>match d with | .int i=>!decide (i∈aw) | _=>NV) (φ:=id) ?_ ?_
  ·intro x hx
   obtain⟨k,hk,rfl⟩:=Gi hx;exact cB (aJ U U (VH NU _ aw))
  ·intro x hx _
   obtain⟨k,hk,rfl⟩:=Gi hx;exact bD U U
 ·rw[List.map_id,e,x6]
  rfl
def qm{a b:Nat}{f':FE}{env:EN}{s:List (List (List Int))}{q:List (List Int)}(h1:env[i]?=NR (.own (bJ s)))(h2:g (rE env)=NR (.int (a:Int)))(h3:f (rE env)=NR (.int (b:Int)))(h4:f' (rE env)=NR (dTup t))(h5:s[a]?=NR q)(h6:b<q.length):
 wU i (EY dC g) f f' env=.next (env.set i (.own (bJ (s.set a (q.set b t))))):=by
 have hk:(s.map eN)[a]?=NR (eN q):=by rw[C5,h5];rfl
 have hp:EY dC g (rE env)=NR [.ix a]:=by unfold EY dC;rw[C4,h2,C4];dsimp only;rw[sk (by omega),C7];rfl
 have hget:gJ [.ix a] (bJ s)=NR (.lst (q.map dTup)):=by show ((s.map eN)[a]?).bind (gJ [])=_;rw[hk];rfl
 have aMi:∀d:List D,fO [.ix a] (bJ s) (.lst d)=.lst ((s.map eN).set a (.lst d)):=λd=>by show (match (s.map eN)[a]? with | some c=>_ | none=>_)=_;rw[hk];rfl
 have gv:ZW (q.map dTup).length (b:Int)=NR b:=by unfold ZW;rw[sk (by omega),sk (by rw[B8];omega),C7]
 unfold wU;rw[h1,hp,h3,h4];dsimp only;rw[hget];dsimp only;rw[gv];dsimp only;rw[aMi,←X1];show SR.next (env.set i (.own (.lst ((s.map eN).set a (eN (q.set b t))))))=_;rw[←X1];rfl
def aDL(ns:List Int):∃P R:Nat,xF [aN ns]=NR (.tup [.int P,.int R])∧1≤P∧P≤8∧1≤R∧R≤8:=by
 suffices hh:∃d,xF [aN ns]=NR d∧∃P R:Nat,d=.tup [.int P,.int R]∧1≤P∧P≤8∧1≤R∧R≤8 by obtain⟨d,e,P,R,rfl,q⟩:=hh;exact⟨P,R,e,q⟩
 refine oM U ?_;unfold Yv;have ef:=Ve ns 0;generalize ns.getD 0 0=c at ef;have aIU:mX [aN ns,.int 0]=NR (.int c):=ef;refine cD (d:=.int c) (bM (aA U (aA U U)) U aIU) (by walk_at "n") ?_;have nn:∀{a m:Int},0<m→m≤8→∃P:Nat,1+a%m=(P:Int)∧1≤P∧P≤8:=λ{a m} h h2=>by have h0:=F2 a (show m≠0 by omega);have h1:=G0 a h;exact⟨(1+a%m).toNat,by omega,by omega,by omega⟩
 refine GQ (cB (aJ (aJ (aJ U U (fD (by decide) (by decide))) U (bI (by decide))) U (kZ _ _))) (λ_=>?_) λ_=>yS ?_
 ·obtain⟨P,e1,p1,p2⟩:=nn (a:=c) (m:=8) (by decide) (by decide);obtain⟨R,e2,r1,r2⟩:=nn (a:=c/240) (m:=8) (by decide) (by decide);exact VF ((pF (aA (aJ U (aJ U U (bI (by decide))) (bZ _ _)) (aA (aJ U (aJ (aJ U U (fD (by decide) (by decide))) U (bI (by decide))) (bZ _ _)) U)) (by walk_at "n")).trans (by rw[e1,e2])) ⟨_,U,P,R,U,p1,p2,r1,r2⟩
 ·obtain⟨P,e1,p1,p2⟩:=nn (a:=c) (m:=5) (by decide) (by decide);obtain⟨R,e2,r1,r2⟩:=nn (a:=c/5) (m:=6) (by decide) (by decide);exact pL ((pF (aA (aJ U (aJ U U (bI (by decide))) (bZ _ _)) (aA (aJ U (aJ (aJ U U (fD (by decide) (by decide))) U (bI (by decide))) (bZ _ _)) U)) (by walk_at "n")).trans (by rw[e1,e2])) ⟨_,U,P,R,U,p1,p2,r1,r2⟩
def Cy(c:Int)(h0:0≤k)(h1:k≤100000):∃m:Int,mD [.int c,.int k]=NR (.int m)∧0≤m∧m<2147483587:=by
 suffices hh:∃d,mD [.int c,.int k]=NR d∧∃m:Int,d=.int m∧0≤m∧m<2147483587 by obtain⟨d,e,m,rfl,q⟩:=hh;exact⟨m,e,q⟩
 refine oM U ?_;unfold Yw;have a0:=F2 c (show (2147483629:Int)≠0 by decide);have a1:=G0 c (show (0:Int)<2147483629 by decide);refine cD (aJ (aJ (aJ (aJ U U (bI (by decide))) U (bZ _ _)) (aJ U (aJ (aJ U U (gC (Ep (by decide) (by decide)))) U (gC (Ep (by omega) (by omega)))) (bZ _ _)) (gC (Ep (by omega) (by omega)))) U (bI (by decide))) (by walk_at "n") ?_;generalize hn:(c%2147483629+1)*(48271+2*k*k)%2147483629=n;have n0:0≤n:=by rw[←hn];exact F2 _ (by decide)
 have n1:n<2147483629:=by rw[←hn];exact G0 _ (by decide)
 exact pL (aJ (aJ U U (gC (Ep (by omega) (by omega)))) U (bI (by decide))) ⟨_,U,_,U,F2 _ (by decide),G0 _ (by decide)⟩
def Kq(m:Nat)(r:List Int):Prop:=∃key f aT aS gF:Int,r=[key,f,aT,aS,gF]∧0≤f∧f<(m:Int)∧-1≤aT∧-1≤aS∧0≤gF
def Kq.five{r:List Int}(h:Kq m r):r.length=5:=by obtain⟨_,_,_,_,_,rfl,_⟩:=h;rfl
def qp(r:List Int):Prop:=r.getD 4 0=0→0≤r.getD 3 0
def Vh(c:Int)(key f:Int)(h0:0≤k)(h1:k≤1000):∃a b e:Int,qO [.int c,.int k,.int key,.int f]=NR (dTup [key,f,a,b,e])∧-1≤a∧-1≤b∧0≤e∧(e=0→0≤b):=by
 suffices hh:∃d,qO [.int c,.int k,.int key,.int f]=NR d∧∃a b e:Int,d=dTup [key,f,a,b,e]∧-1≤a∧-1≤b∧0≤e∧(e=0→0≤b) by obtain⟨d,q,a,b,e,rfl,w⟩:=hh;exact⟨a,b,e,q,w⟩
 refine oM U ?_;unfold Ue;obtain⟨p,hp,p0,p1⟩:=Cy c (k:=5*k) (by omega) (by omega);obtain⟨m,hm,m0,m1⟩:=Cy c (k:=5*k+1) (by omega) (by omega);have pick:∀(l:List Int)(k:Int),0≤k→k<(l.length:Int)→∃y,cW (aN l) (.int k)=NR (.int y)∧y∈l:=λl k a b=>⟨_,jX a b,getD_mem (by omega)⟩
 obtain⟨aS,aIV,aMj⟩:=pick [0,1,2,m*10 ^ (40:Int).toNat,-1] (p%5) (F2 _ (by decide)) (G0 _ (by decide));obtain⟨aT,aMk,aMl⟩:=pick [-1,0,5,p] (p/90%4) (F2 _ (by decide)) (G0 _ (by decide));have q40:0≤m*10 ^ (40:Int).toNat:=j5 m0 (M3 (Q5 (by decide)));have aMm:-1≤aS:=by generalize m*10 ^ (40:Int).toNat=q at *;simp only[B9,N5,or_false]at aMj;omega
 have aMn:-1≤aT:=by simp only[B9,N5,or_false]at aMl;omega
 refine cD (d:=.int p) (bM (aA U (aA (aJ U U (gC (Ep (by decide) (by decide)))) U)) U hp) (by walk_at "n") ?_;refine cD (d:=.int aS) (bD (aJ (iD (aA U (aA U (aA U (aA (aJ (bM (aA U (aA (aJ (aJ U U (gC (Ep (by decide) (by decide)))) U (bZ _ _)) U)) U hm) (aJ U U (pA ⟨by decide,by decide,by decide⟩)) (gC (Ep (by omega) (by omega)))) (aA (qC U) U))))) (by walk_at "n")) (aJ U U (bI (by decide))) aIV) U) (by walk_at "n") ?_;refine cD (d:=.int 0) U (by walk_at "n") ?_;have ck:∀gF:Int,0≤gF→Qs (λr=>∃d,r=.ret d∧∃a b e:Int,d=dTup [key,f,a,b,e]∧-1≤a∧-1≤b∧0≤e∧(e=0→0≤b)) (aY (qU (fB (f2 Fv (aD 6) (fC (.int 0)))) (cT 5 (fL aFy (aB (aD 5) aL))) fM) (eY (wO (aB (cL (aD 2)) (aB (cL (aD 3)) (aB (cL (f2 cW (mR (aB (yM (fC (.int 1))) (aB (fC (.int 0)) (aB (fC (.int 5)) (aB (aD 4) aL))))) (f2 gH (f2 rR (aD 4) (fC (.int 90))) (fC (.int 4))))) (aB (cL (aD 5)) (aB (cL (aD 6)) aL))))))) [.fro (.int c),.fro (.int k),.fro (.int key),.fro (.int f),.own (.int p),.own (.int aS),.own (.int gF)]):=λgF aMo=>by
  have last:∀b:Int,-1≤b→(gF=0→0≤b)→Qs (λr=>∃d,r=.ret d∧∃a b e:Int,d=dTup [key,f,a,b,e]∧-1≤a∧-1≤b∧0≤e∧(e=0→0≤b)) (eY (wO (aB (cL (aD 2)) (aB (cL (aD 3)) (aB (cL (f2 cW (mR (aB (yM (fC (.int 1))) (aB (fC (.int 0)) (aB (fC (.int 5)) (aB (aD 4) aL))))) (f2 gH (f2 rR (aD 4) (fC (.int 90))) (fC (.int 4))))) (aB (cL (aD 5)) (aB (cL (aD 6)) aL)))))) [.fro (.int c),.fro (.int k),.fro (.int key),.fro (.int f),.own (.int p),.own (.int b),.own (.int gF)]):=λb hb1 rg=>pL (pF (aA (bD U U) (aA (bD U U) (aA (bD (aJ (iD (aA (qC U) (aA U (aA U (aA U U)))) (by walk_at "n")) (aJ (aJ U U (fD (by decide) (by decide))) U (bI (by decide))) aMk) U) (aA (bD U U) (aA (bD U U) U))))) (by walk_at "n")) ⟨_,U,_,_,_,U,aMn,hb1,aMo,rg⟩;refine GQ (cB (aJ U U (kZ _ _))) (λ_=>?_) λz=>yS (last aS aMm λy=>absurd y (of_decide_eq_false z));have ab:0≤(if aS<0 then -aS else aS):=by split<;>omega
  exact aDc (yO (d:=.int (if aS<0 then -aS else aS)) (cV (aA U U) U) (by walk_at "n")) (last _ (by omega) λ_=>ab)
 refine GQ (cB (aJ (aJ (aJ U U (fD (by decide) (by decide))) U (bI (by decide))) U (kZ _ _))) (λ_=>?_) λ_=>yS (ck 0 (by decide));exact aDc (yO (aJ U (aJ (aJ U U (fD (by decide) (by decide))) U (bI (by decide))) (bZ _ _)) (by walk_at "n")) (ck _ (by have:=F2 (p/10) (show (9:Int)≠0 by decide);omega))
def Eu(P R:Nat)(rs:List (List Int)):List (List (List Int)):=(D5 P).map λp=>(D5 R).map λr=>rs.getD (p+P*r) []
def Nh{P R:Nat}{rs:List (List Int)}{p:Nat}(h:p<P):(Eu P R rs)[p]?=NR ((D5 R).map λr=>rs.getD (p+P*r) []):=by unfold Eu;rw[C5,I0 h];rfl
def aDM{P x:Nat}{p r:Nat}(hp:p<P)(h:p+P*r=x):x%P=p∧x/P=r:=by subst h;exact⟨by rw[Z5,t9 hp],by rw[j7 _ _ (by omega),u3 hp,N6]⟩
def aDN{P R x:Nat}{rs:List (List Int)}(hP:0<P)(h:x<P*R)(hl:rs.length=P*R):(Eu P R rs).set (x%P) (((D5 R).map λr=>rs.getD (x%P+P*r) []).set (x/P) t)=Eu P R (rs.set x t):=by
 have a:=R8 x hP;have b:x/P<R:=T0 h;apply K5;intro p;rw[G8,show (Eu P R rs).length=P by unfold Eu;rw[B8,E1]];by_cases hp:p<P
 ·rw[Nh hp,Nh hp];by_cases e:x%P=p
  ·rw[sk e,sk a];congr 1;apply K5;intro r;rw[G8,B8,E1,C5,C5];by_cases hr:r<R
   ·rw[I0 hr,J3,J3,lZ _ _ _ _ _ (by omega)];by_cases e2:x/P=r
    ·rw[sk e2,sk b,sk (by rw[←e,←e2];exact(X4 x P).symm)]
    ·rw[sv e2,sv λz=>e2 (aDM hp z.symm).2,e]
   ·rw[D9 (by rw[E1];omega)];rw[sv (by omega)];rfl
  ·rw[sv e];congr 1;apply T5;intro r hr;have:=KR hp (F7.mp hr);rw[lZ _ _ _ _ _ (by omega),sv λz=>e (aDM hp z.symm).1]
 ·rw[sv (by omega)];unfold Eu;rw[C5,C5,D9 (by rw[E1];omega)];rfl
def ZF{P R x:Nat}{f':FE}{env:EN}{rs:List (List Int)}(hP:0<P)(h:x<P*R)(hl:rs.length=P*R)(h1:env[i]?=NR (.own (bJ (Eu P R rs))))(h2:g (rE env)=NR (.int ((x:Int)%(P:Int))))(h3:f (rE env)=NR (.int ((x:Int)/(P:Int))))(h4:f' (rE env)=NR (dTup t)):
 wU i (EY dC g) f f' env=.next (env.set i (.own (bJ (Eu P R (rs.set x t))))):=by
 rw[←b8]at h2;rw[←b9]at h3;rw[qm (a:=x%P) (b:=x/P) h1 h2 h3 h4 (Nh (R8 x hP)) (by rw[B8,E1];exact T0 h),aDN hP h hl]
structure Built(P R:Nat)(rs:List (List Int))(od:List Int):Prop where
 p1:1≤P
 p8:P≤8
 r1:1≤R
 r8:R≤8
 len:rs.length=P*R
 five:∀k,k<P*R→(rs.getD k []).length=5
 Oc:od.Nodup
 sV:∀x∈od,1≤x∧x<(P*R:Nat)
 chain:Chain rs od
 key:od.Pairwise λx y=>(rs.getD x.toNat []).getD 0 0<(rs.getD y.toNat []).getD 0 0
structure Cz(P R:Nat)(rs:List (List Int))(aQ od:List Int):Prop where
 b:Built P R rs od
 rec_:∀k,k<P*R→Kq (P*R) (rs.getD k [])
 snd:∀x∈od,qp (rs.getD x.toNat [])
 sel:∀p,p<P→0≤aQ.getD p 0
def aDO{ns:List Int}:∃(P R:Nat)(rs:List (List Int))(aQ od:List Int),xH [aN ns]=NR (bJ (aU P R rs aQ))∧Cz P R rs aQ od:=by
 suffices hh:∃d,xH [aN ns]=NR d∧∃(P R:Nat)(rs:List (List Int))(aQ od:List Int),d=bJ (aU P R rs aQ)∧Cz P R rs aQ od by obtain⟨d,e,P,R,rs,aQ,od,rfl,q⟩:=hh;exact⟨P,R,rs,aQ,od,e,q⟩
 refine oM U ?_;unfold Yx;obtain⟨P,R,hsz,p1,p8,r1,r8⟩:=aDL ns;have lj:0<P*R:=T2 p1 r1;have sM:P*R≤8*8:=Q6 p8 r8;have hPR:((P:Int)*(R:Int))=((P*R:Nat):Int):=(U1 P R).symm;generalize hM:P*R=M at *;have pr:(0:Int)<P:=by omega
 have hP9:(P:Int)<1073741824:=by omega
 have hmul:∀{env:EN},(rE env)[1]?=NR (NR (.int (P:Int)))→(rE env)[2]?=NR (NR (.int (R:Int)))→f2 sZ (aD 1) (aD 2) (rE env)=NR (.int (M:Int)):=λh1 h2=>(aJ (nJ h1) (nJ h2) (gC (Ep (by omega) (by omega)))).trans (by rw[hPR]);refine aKw (ds:=[.int P,.int R]) (bM (aA U U) U hsz) U U ?_;have gE:fL Jc (aB (fC (.int 1)) (aB (f2 sZ (aD 1) (aD 2)) aL)) (rE (pX ([aN ns].map SD.fro++E9 (11-1) SD.no) [1,2] [.int P,.int R]))=NR (aN (pB M)):=by refine(cV (aA U (aA (hmul U U) U)) (show Jc [.int 1,.int (M:Int)]=NR _ from sk ⟨by decide,by decide,by omega,by omega⟩)).trans ?_;unfold aN pB;rw[M4,show ((M:Int)-1).toNat=M-1 by omega];rfl
 refine cD gE (by walk_at "n") ?_;refine cD (d:=aN [0]) U (by walk_at "n") ?_;have ko:mX [aN ns,.int 1]=NR (.int (ns.getD 1 0)):=Ve ns 1;have nB:mX [aN ns,.int 2]=NR (.int (ns.getD 2 0)):=Ve ns 2;generalize ns.getD 1 0=c1 at ko;generalize ns.getD 2 0=c at nB;have b0:=F2 c1 (show (M:Int)≠0 by omega);have b1:=G0 c1 (show 0<(M:Int) by omega);refine GR (n:=(c1%(M:Int)).toNat) (λk env=>∃(sp bs:List Int)(v:SD),env=[.fro (aN ns),.own (.int P),.own (.int R),.own (aN sp),.own (aN (0::bs)),v,.no,.no,.no,.no,.no]∧bs.length=k∧(bs++sp).Perm (pB M)) (UL (aA (aJ (bM (aA U (aA U U)) U ko) (hmul U U) (bI (by omega))) U) (by omega) (by omega)) ⟨pB M,[],_,U,U,U8 _⟩ ?_ ?_
 ·rintro k env hk ⟨sp,bs,v,rfl,hb,hp⟩;refine⟨by walk_at "lt",?_⟩;have ag:=hp.length_eq;rw[D1,hb,show (pB M).length=M-1 by unfold pB;rw[B8,E1]]at ag;obtain⟨m,hm,_,_⟩:=Cy c1 (k:=(k:Int)) (by omega) (by omega);have i0:=F2 m (show (sp.length:Int)≠0 by omega);have i1:=G0 m (show 0<(sp.length:Int) by omega);refine⟨_,GP (ns:=0::bs) (ms:=sp) (k:=m%(sp.length:Int)) U U (aJ (bM (aA (bM (aA U (aA U U)) U ko) (aA U U)) U hm) (cV (aA U U) (qN _)) (bI (by omega))) (by decide) (by simp;omega) (by omega) i0 i1,sp.eraseIdx (m%(sp.length:Int)).toNat,bs++[sp.getD (m%(sp.length:Int)).toNat 0],_,U,by rw[D1,hb];rfl,?_⟩;rw[P9];exact(i6 bs (Tw sp _ 0 (by omega))).trans hp
 rintro env ⟨sp,bs,v5,rfl,hb,hp⟩;have ia:(bs++sp).Nodup:=hp.nodup_iff.mpr (by
  unfold pB;refine p5 _ (λa b (h:a≠b)=>by omega) u4)
 have gN:∀x,x∈bs++sp→1≤x∧x<(M:Int):=λx hx=>by have:=hp.mem_iff.mp hx;unfold pB at this;obtain⟨i,hi,rfl⟩:=J4.mp this;have:=F7.mp hi;omega
 have oC:=(Q1.mp ia).1;have hbm:∀x∈bs,1≤x∧x<(M:Int):=λx hx=>gN x (F5 _ hx);have rh:∀x∈sp,1≤x∧x<(M:Int):=λx hx=>gN x (E5 _ hx);have aOA:sp.length≤M:=by have:=hp.length_eq;rw[D1,show (pB M).length=M-1 by unfold pB;rw[B8,E1]]at this;omega
 have hbl:bs.length<M:=by omega
 generalize aIW:E9 M ([0,0,-1,-1,0]:List Int)=rs0;have hl0:rs0.length=M:=by rw[←aIW,P7]
 have aKI:eE (rA (aB (aD 1) aL)) [2] gP (eE (rA (aB (aD 1) aL)) [] gP (wO (aB (fC (.int 0)) (aB (fC (.int 0)) (aB (yM (fC (.int 1))) (aB (yM (fC (.int 1))) (aB (fC (.int 0)) aL))))))) (rE [.fro (aN ns),.own (.int P),.own (.int R),.own (aN sp),.own (aN (0::bs)),v5,.no,.no,.no,.no,.no])=NR (bJ (Eu P R rs0)):=by
  refine(yV (n:=P) (φ:=λp=>eN ((D5 R).map λr=>rs0.getD (p+P*r) [])) (yU (aA U U) (by omega)) (by omega) λp hp=>?_).trans ?_
  ·refine(yV (n:=R) (φ:=λr=>dTup (rs0.getD (p+P*r) [])) (yU (aA U U) (by omega)) (by omega) λr hr=>?_).trans ?_
   ·have:=KR hp hr;rw[←aIW,B7,O7,sk (by omega)];exact pF (aA U (aA U (aA (qC U) (aA (qC U) (aA U U))))) (by walk_at "n")
   ·unfold eN;rw[M4];rfl
  ·show _=NR (D.lst ((Eu P R rs0).map eN));unfold Eu;rw[M4];rfl
 refine cD aKI (by walk_at "n") ?_;refine cD (d:=.int c) (bM (aA U (aA U U)) U nB) (by walk_at "n") ?_;have p9:(0:Int)<10 ^ (9:Int).toNat:=Q5 (by decide);have p58:(0:Int)<10 ^ (58:Int).toNat:=Q5 (by decide);have pd:∀n:Int,0≤n→n<100→Ek (.int 10) (.int n)=NR (.int (10 ^ n.toNat)):=λn a b=>pA ⟨a,by omega,by omega⟩;have f5:∀{l:List (List Int)} {x:Nat} {t:List Int},l.length=M→x<M→Kq M t→(∀k,k<M→Kq M (l.getD k []))→∀k,k<M→Kq M ((l.set x t).getD k []):=λ{l x t} h1 h2 h3 h4 k hk=>by
  rw[lZ _ _ _ _ _ (by omega)];split
  ·exact h3
  ·exact h4 k hk
 refine yh (xs:=sp.map D.int) (λk env=>∃(rs:List (List Int))(v:SD),env=[.fro (aN ns),.own (.int P),.own (.int R),.fro (aN sp),.own (aN (0::bs)),v5,.own (bJ (Eu P R rs)),.own (.int c),v,.no,.no]∧rs.length=M∧∀k,k<M→Kq M (rs.getD k [])) U (gD U) ⟨rs0,_,U,hl0,λk hk=>by rw[←aIW,B7,O7,sk hk];exact⟨0,0,-1,-1,0,U,by decide,by omega,by decide,by decide,by decide⟩⟩ ?_ ?_
 ·rintro k x env hx ⟨rs,v,rfl,hl,h5⟩;refine⟨by walk_at "lt",?_⟩;rw[C5]at hx;obtain⟨y,hy,rfl⟩:=kJ hx;have ym:=rh y (D6 hy);have yy0:=F2 (y*y) (show (M:Int)≠0 by omega);have yy1:=G0 (y*y) (show 0<(M:Int) by omega);obtain⟨a,b,e,hU,ra,rb,re,_⟩:=Vh c (k:=y) (c%10 ^ (9:Int).toNat) (y*y%(M:Int)) (by omega) (by omega);have ye:((y.toNat:Nat):Int)=y:=by omega
  refine⟨_,ZF (x:=y.toNat) (t:=[c%10 ^ (9:Int).toNat,y*y%(M:Int),a,b,e]) p1 (by rw[hM];omega) (by rw[hM];exact hl) U (by rw[ye];exact aJ U U (bI pr)) (by rw[ye];exact aJ U U (fD pr hP9)) (bM (aA U (aA U (aA (aJ U (aJ U U (pd 9 (by decide) (by decide))) (bI p9)) (aA (aJ (aJ U U (gC (Ep (by omega) (by omega)))) (hmul U U) (bI (by omega))) U)))) U hU),_,_,U,by rw[J5];exact hl,f5 hl (by omega) ⟨_,_,_,_,_,U,yy0,yy1,ra,rb,re⟩ h5⟩
 rintro env ⟨rs1,v8,rfl,hl1,h51⟩;refine cD (d:=.int (c%10 ^ (58:Int).toNat)) (aJ U (aJ U U (pd 58 (by decide) (by decide))) (bI p58)) (by walk_at "n") ?_;have hb0:∀i,i<bs.length+1→0≤(0::bs).getD i 0∧(0::bs).getD i 0<(M:Int):=λi hi=>by
  have:=getD_mem (l:=0::bs) (k:=i) (by simp;omega);rcases B9.mp this with z | z
  ·rw[z];omega
  ·have:=hbm _ z;omega
 have aIX:(0::bs).Nodup:=F1.mpr ⟨λz=>by have:=hbm 0 z;omega,oC⟩;refine GR (n:=bs.length+1) (λk env=>∃(rs:List (List Int))(key:Int)(v5 v8:SD),env=[.fro (aN ns),.own (.int P),.own (.int R),.fro (aN sp),.own (aN (0::bs)),v5,.own (bJ (Eu P R rs)),.own (.int c),v8,.own (.int key),.no]∧rs.length=M∧(∀k,k<M→Kq M (rs.getD k [])) ∧
  (∀i,i<k→∃y aT aS gF:Int,rs[((0::bs).getD i 0).toNat]?=NR [y,(bs++[0]).getD i 0,aT,aS,gF]∧y<key∧(gF=0→0≤aS))∧(∀i j,i<j→j<k→(rs.getD ((0::bs).getD i 0).toNat []).getD 0 0<(rs.getD ((0::bs).getD j 0).toNat []).getD 0 0)) (yU (aA ((cV (aA U U) (qN _)).trans U) U) (by omega)) ⟨rs1,_,_,_,U,hl1,h51,λi hi=>absurd hi (J9 _),λi j _ hj=>absurd hj (J9 _)⟩ ?_ ?_
 ·rintro k env hk ⟨rs,key,w5,w8,rfl,hl,h5,gs,hke⟩;refine⟨by walk_at "lt",?_⟩;obtain⟨x0,x1⟩:=hb0 k hk;generalize hx:(0::bs).getD k 0=x at *;have xe:((x.toNat:Nat):Int)=x:=by omega
  have ix:cW (aN (0::bs)) (.int (k:Int))=NR (.int x):=(jX (by omega) (by simp;omega)).trans (by rw[C7,hx]);have ixn:cW (aN ((0::bs)++[0])) (.int ((k:Int)+1))=NR (.int ((bs++[0]).getD k 0)):=(jX (by omega) (by simp;omega)).trans (by rw[show ((k:Int)+1).toNat=k+1 by omega];rfl);have ZG:0≤(bs++[0]).getD k 0∧(bs++[0]).getD k 0<(M:Int):=by
   have:=getD_mem (l:=bs++[0]) (k:=k) (by simp;omega);rcases F8.mp this with z | z
   ·have:=hbm _ z;omega
   ·have:=D2.mp z;omega
  obtain⟨a,b,e,hU,ra,rb,re,rn⟩:=Vh c (k:=(k:Int)+100) key ((bs++[0]).getD k 0) (by omega) (by omega);obtain⟨m,hm,m0,m1⟩:=Cy c (k:=(k:Int)+7) (by omega) (by omega);refine cD (d:=.int x) (bD (aJ U U ix) U) (by walk_at "n") ?_;refine aDc (ZF (x:=x.toNat) (t:=[key,(bs++[0]).getD k 0,a,b,e]) p1 (by rw[hM];omega) (by rw[hM];exact hl) U (by rw[xe];exact aJ U U (bI pr)) (by rw[xe];exact aJ U U (fD pr hP9)) (bM (aA U (aA (aJ U U (bZ _ _)) (aA U (aA (aJ (aJ U (iD (aA U U) (by walk_at "n")) (yW (0::bs) [0] (by simp;omega))) (aJ U U (bZ _ _)) ixn) U)))) U hU)) ?_;have c20:=F2 c (show (2:Int)≠0 by decide);have c21:=G0 c (show (0:Int)<2 by decide);have pos:∃z:Int,0≤z∧cW (aN [1,10 ^ (40:Int).toNat]) (.int (c%2))=NR (.int z):=by
   rcases(show c%2=0∨c%2=1 by omega)with z | z
   ·exact⟨1,by decide,by rw[z];rfl⟩
   ·exact⟨10 ^ (40:Int).toNat,M3 (Q5 (by decide)),by rw[z];rfl⟩
  obtain⟨z,z0,hz⟩:=pos;have mm:=F2 m (show (3:Int)≠0 by decide);have mm1:=G0 m (show (0:Int)<3 by decide);have bt:0≤m%3*z:=j5 mm z0;refine jo (d:=.int (key+1+m%3*z)) (aJ (aJ U U (bZ _ _)) (aJ (aJ (bM (aA U (aA (aJ U U (bZ _ _)) U)) U hm) U (bI (by decide))) (aJ (iD (aA U (aA (aJ U U (pd 40 (by decide) (by decide))) U)) (by walk_at "n")) (aJ U U (bI (by decide))) hz) (gC (Ep (by omega) (by omega)))) (bZ _ _)) (by walk_at "n") ⟨_,U,_,_,_,_,U,by rw[J5];exact hl,f5 hl (by omega) ⟨_,_,_,_,_,U,ZG.1,ZG.2,ra,rb,re⟩ h5,?_,?_⟩
  ·intro i hi;rcases G4 i k with q | q
   ·obtain⟨y,aT,aS,gF,h1,h2,h3⟩:=gs i q;have oj:=hb0 i (by omega);have ne:(0::bs).getD i 0≠x:=by rw[←hx];exact Cw aIX (by simp;omega) (by simp;omega) (by omega)
    exact⟨y,aT,aS,gF,by rw[W5 (by omega)];exact h1,by omega,h3⟩
   ·have:i=k:=by omega
    subst this;rw[hx];exact⟨key,a,b,e,by rw[K0 (by omega)],by omega,rn⟩
  ·intro i j kF hj;have oj:=hb0 i (by omega);have nei:(0::bs).getD i 0≠x:=by rw[←hx];exact Cw aIX (by simp;omega) (by simp;omega) (by omega)
   rw[lZ _ _ _ _ _ (by omega),sv (by omega)];rcases G4 j k with q | q
   ·have hj0:=hb0 j (by omega);have nej:(0::bs).getD j 0≠x:=by rw[←hx];exact Cw aIX (by simp;omega) (by simp;omega) (by omega)
    rw[lZ _ _ _ _ _ (by omega),sv (by omega)];exact hke i j kF q
   ·have:j=k:=by omega
    subst this;rw[hx,lZ _ _ _ _ _ (by omega),sk rfl];obtain⟨y,aT,aS,gF,h1,h2,_⟩:=gs i kF;rw[dY h1];exact h2
 rintro env ⟨rs,key,w5,w8,rfl,hl,h5,gs,hke⟩;refine GR (n:=P) (λk env=>∃(se:List Int)(v:SD),env=[.fro (aN ns),.own (.int P),.own (.int R),.fro (aN sp),.own (aN (0::bs)),w5,.own (bJ ((D5 P).map λp=>((D5 R).map λr=>rs.getD (p+P*r) [])++(if p<k then [[se.getD p 0]]else []))),.own (.int c),w8,.own (.int key),v]∧se.length=k∧∀x∈se,0≤x) (yU (aA U U) (by omega)) ⟨[],_,by
  have:(D5 P).map (λp=>((D5 R).map λr=>rs.getD (p+P*r) [])++(if p<0 then [[([]:List Int).getD p 0]]else []))=Eu P R rs:=by unfold Eu;apply T5;intro p _;rw[sv (J9 _),F0]
  rw[this],U,λx hx=>by cases hx⟩ ?_ ?_
 ·rintro k env hk ⟨se,v,rfl,hse,hs0⟩;refine⟨by walk_at "lt",?_⟩;obtain⟨m,hm,mm0,_⟩:=Cy c (k:=(k:Int)+70) (by omega) (by omega);generalize hS:((D5 P).map λp=>((D5 R).map λr=>rs.getD (p+P*r) [])++(if p<k then [[se.getD p 0]]else []))=S;have hk2:S[k]?=NR ((D5 R).map λr=>rs.getD (k+P*r) []):=by rw[←hS,C5,I0 hk,J3,sv (L9 _),F0]
  have hgp:gJ [.ix k] (bJ S)=NR (.lst (((D5 R).map λr=>rs.getD (k+P*r) []).map dTup)):=JX (by rw[C5,hk2];rfl);refine⟨_,Lr (p:=[.ix k]) (d:=dTup [m%10]) U (by
   show EY dC (aD 10) _=_;rw[mz (k:=(k:Int)) U U (by omega),C7]
   rfl) hgp (pF (aA (aJ (bM (aA U (aA (aJ U U (bZ _ _)) U)) U hm) U (bI (by decide))) U) (by walk_at "n")) (by rw[B8,B8,E1];omega),se++[m%10],.fro (.int k),?_,by rw[D1,hse];rfl,λx hx=>by
   rcases F8.mp hx with z | z
   ·exact hs0 x z
   ·rw[D2.mp z];exact F2 _ (by decide)⟩
  rw[show fO [.ix k] (bJ S) (.lst (((D5 R).map λr=>rs.getD (k+P*r) []).map dTup++[dTup [m%10]]))=bJ ((D5 P).map λp=>((D5 R).map λr=>rs.getD (p+P*r) [])++(if p<k+1 then [[(se++[m%10]).getD p 0]]else []))from ?_]
  ·rfl
  refine(JZ (y:=eN _) (by rw[C5,hk2];rfl)).trans ?_;refine congrArg D.lst (?_:(S.map eN).set k _=_);apply K5;intro p;rw[G8,B8,←hS,B8,E1,C5,C5,C5,C5];by_cases hp:p<P
  ·rw[I0 hp];by_cases e:k=p
   ·subst e;rw[sk U,sk hp,J3,J3,sk (by omega),B7,J7 (by omega),hse,S5];unfold eN;rw[J6];rfl
   ·rw[sv e,J3,J3,J3,J3];by_cases q:p<k
    ·rw[sk q,sk (by omega),B7,B7,F9 (by omega)]
    ·rw[sv q,sv (by omega)]
  ·rw[sv (by omega),D9 (by rw[E1];omega)];rfl
 rintro env ⟨se,v,rfl,hse,hs0⟩;refine aDf U ⟨_,U,P,R,rs,se,bs,?_,⟨⟨p1,p8,r1,r8,by rw[hM];exact hl,by rw[hM];exact λk hk=>(h5 k hk).five,oC,by rw[hM];exact hbm,?_,?_⟩,by rw[hM];exact h5,λx hx=>?_,λp hp=>?_⟩⟩
 ·refine congrArg jM ?_;unfold aU;apply T5;intro p hp;rw[sk (F7.mp hp)]
 ·intro k hk;obtain⟨y,aT,aS,gF,h1,_⟩:=gs k (by omega);exact⟨y,aT,aS,gF,h1⟩
 ·rw[J8];intro i j hi hj kF;have:=hke (i+1) (j+1) (by omega) (by omega);have ei:(0::bs).getD (i+1) 0=bs[i]:=by rw[T6,B7,B6 hi];rfl
  have ej:(0::bs).getD (j+1) 0=bs[j]:=by rw[T6,B7,B6 hj];rfl
  rw[ei,ej]at this;exact this
 ·obtain⟨i,hi,ei⟩:=G6 hx;obtain⟨y,aT,aS,gF,h1,_,h3⟩:=gs (i+1) (by omega);rw[show (0::bs).getD (i+1) 0=x by rw[T6,B7,B6 hi];exact ei]at h1;rw[dY h1];exact h3
 ·exact hs0 _ (getD_mem (by omega))
def zm{P R:Nat}(hP:0<P)(lT:P≤8):lN [bJ (aU P R cO aQ)]=NR (.int ((P*R:Nat):Int)):=by
 refine lW U ?_;unfold Gq;apply gB;have hls:=xV (aU P R cO aQ);rw[pI]at hls;have h0:(aU P R cO aQ)[0]?=NR _:=tX (p:=0) hP;have gv:cW (bJ (aU P R cO aQ)) (.int 0)=NR (eN _):=xU (k:=0) h0;have mf:=rQ (((D5 R).map λr=>cO.getD (0+P*r) [])++[[aQ.getD 0 0]]);rw[Kh (D6 h0)]at mf;rw[U1];have e:(R:Int)=((R+1:Nat):Int)-1:=by omega
 rw[e];exact aJ (cV (aA U U) hls) (aJ (cV (aA (aJ U U gv) U) mf) U (lX _ _)) (gC (Ep (by omega) (by omega)))
def Wb.first(P R:Nat)(rs:List (List Int))(aQ od:List Int):Wb:=⟨⟨aU P R rs aQ,[],[],[],[]⟩,rs,od,(pB (P*R)).filter λi=>!decide (i∈od),⟨[],[]⟩,⟨[],[]⟩,⟨[],[]⟩⟩
section
variable{P R:Nat}{rs:List (List Int)}{od:List Int}
def Built.ok(h:Built P R rs od):mJ (Wb.first P R rs aQ od):=by
 have sM:P*R≤8*8:=Q6 h.p8 h.r8;have lj:0<P*R:=T2 h.p1 h.r1;have cE:(Wb.first P R rs aQ od).P=P:=pI _ _ _ _;have box:∀k,k<P*R→∃q,(aU P R rs aQ)[k%P]?=NR q∧q[k/P]?=NR (rs.getD k []):=λk hk=>Vf h.p1 hk;have hb:∀k,k<rs.length→k<P*R:=λk hk=>by rw[←h.len];exact hk
 refine⟨Cq.init (by rw[pI];exact h.p8),by rw[cE];exact h.p1,?_,?_,?_,?_,?_,⟨U,C9 _⟩,⟨U,C9 _⟩,⟨U,C9 _⟩,nofun,nofun,h.Oc,?_,?_,?_,h.key,λk hk=>absurd hk (J9 _)⟩
 ·intro k hk;rw[cE];obtain⟨q,q1,q2⟩:=box k (hb k hk);show k/P<((aU P R rs aQ).getD (k%P) []).length;rw[dY q1];exact(D4.mp q2).1
 ·show rs.length≤64;rw[h.len];exact sM
 ·show 0<rs.length;rw[h.len];exact lj
 ·intro k hk;rw[cE];obtain⟨q,q1,q2⟩:=box k (hb k hk);refine⟨?_,h.five k (hb k hk)⟩;show rs.getD k []=((aU P R rs aQ).getD ((k%P:Nat):Int).toNat []).getD ((k/P:Nat):Int).toNat [];rw[C7,C7,dY q1,dY q2]
 ·intro k hk;rfl
 ·intro x hx;show 1≤x∧x<(rs.length:Int);rw[h.len];exact h.sV x hx
 ·refine List.Nodup.sublist R3 ?_;unfold pB;exact p5 _ (λa b (h:a≠b)=>by omega) u4
 ·intro x;show x∈(pB (P*R)).filter _↔1≤x∧x<(rs.length:Int)∧x∉od;rw[h.len,K3];unfold pB;rw[J4];constructor
  ·rintro⟨⟨i,hi,rfl⟩,z⟩
   have:=F7.mp hi;exact⟨by omega,by omega,by simpa using z⟩
  ·rintro⟨z1,z2,z3⟩
   exact⟨⟨(x-1).toNat,F7.mpr (by omega),by omega⟩,by simpa using z3⟩
def Zk{v:V}{nm:List Str}{ds:List D}{x:Str}{g:GS}{rest:EN}(h:f (rE (.own (.ins C nm ds)::rest))=NR d)(hx:posK nm x=sx)(hl:nm.length<900)(k:Qs Pr (g (.inn v (.ins C (nm++[x]) (ds++[d]))::rest))):Qs Pr (aY (jW 0 (wV C 0 dC x f)) g (.inn v (.ins C nm ds)::rest)):=rC U (uX (p:=[]) U U U h hl hx) U k
def aIY{v:V}{nm:List Str}{ds:List D}{x:Str}{rest:EN}(h:f (rE (.own (.ins C nm ds)::rest))=NR d)(hx:posK nm x=sx)(hl:nm.length<900)(k:Pr (.next (.inn v (.ins C (nm++[x]) (ds++[d]))::rest))):Qs Pr (jW 0 (wV C 0 dC x f) (.inn v (.ins C nm ds)::rest)):=Ua U (uX (p:=[]) U U U h hl hx) U k
variable(κ:Nat→AF)
def ZJ(h:Built P R rs od):pP κ [.ins (κ 1) [] [],bJ (aU P R rs aQ)]=NR (.non,lR κ (Wb.first P R rs aQ od)):=by
 refine qD U λv=>?_;have sM:P*R≤8*8:=Q6 h.p8 h.r8;have h64:od.length≤64:=by
  have:=nM (P*R) od h.Oc λx hx=>by have:=h.sV x hx;omega
  omega
 have hl:=pI P R rs aQ;have ZD:=zm (R:=R) (cO:=rs) (aQ:=aQ) h.p1 h.p8;have oC:uN κ [.ins (κ 0) [] [],bJ (aU P R rs aQ)]=_:=aFN κ (uY:=aU P R rs aQ) (by rw[hl];exact h.p8);have sN:=Ng (aQ:=aQ) h.p1 h.p8 h.r1 h.chain h.sV h.Oc h64;have fT:=aDJ (aQ:=aQ) h.p1 h.p8 h.r1 h.r8 h.chain h.sV h.Oc h64;have hso:∀k:Nat,yZ [bJ (aU P R rs aQ),.int (k:Int)]=NR (dTup [((k%P:Nat):Int),((k/P:Nat):Int)]):=λk=>(zj (by rw[hl];exact h.p1) (by rw[hl];have:=h.p8;omega)).trans (by rw[hl,b8,b9]);have hwv:lR κ (Wb.first P R rs aQ od)=.ins (κ 1) uZ [dX (κ 0) ⟨aU P R rs aQ,[],[],[],[]⟩,pq P (P*R),aN od,aN ((pB (P*R)).filter λi=>!decide (i∈od)),Ox ⟨[],[]⟩,Ox ⟨[],[]⟩,Ox ⟨[],[]⟩]:=by unfold lR Wb.P Wb.first;dsimp only;rw[hl,h.len]
 rw[hwv];clear hwv;generalize bJ (aU P R rs aQ)=st at *;generalize dX (κ 0) ⟨aU P R rs aQ,[],[],[],[]⟩=bd at *;generalize ((pB (P*R)).filter λi=>!decide (i∈od))=lo at *
 suffices hh:Qs (RQ .non (.ins (κ 1) uZ [bd,pq P (P*R),aN od,aN lo,Ox ⟨[],[]⟩,Ox ⟨[],[]⟩,Ox ⟨[],[]⟩]) v) (Bp κ [.inn v (.ins (κ 1) [] []),.fro st])from hh
 unfold Bp;refine Zk (d:=bd) (Ub (aA U U) oC) U (by decide) ?_;refine Zk (d:=pq P (P*R)) (yV (n:=P*R) (yU (aA (bM (aA U U) U ZD) U) (by omega)) (by omega) λk hk=>bM (aA U (aA U U)) U (hso k)) (by walk_at "k") (by decide) ?_;refine Zk (d:=aN od) (bM (aA U U) U sN) (by walk_at "k") (by decide) ?_;refine Zk (d:=aN lo) (bM (aA U U) U fT) (by walk_at "k") (by decide) ?_;refine Zk (d:=Ox ⟨[],[]⟩) U (by walk_at "k") (by decide) ?_;refine Zk (d:=Ox ⟨[],[]⟩) U (by walk_at "k") (by decide) ?_;exact aIY (d:=Ox ⟨[],[]⟩) U (by walk_at "k") (by decide) ⟨_,.inr ⟨U,U⟩,U⟩
end
def aBr(h:b.bB.length≤8):rG κ [dX (κ 0) b]=NR (jM b.bB):=nO U (gB (mC (xs:=b.bB) (ψ:=eN) (φ:=eN) (gD (dW U Ed)) (by omega) λx _=>cV (aA U U) (wX (Tv λd hd=>by
 obtain⟨t,_,rfl⟩:=J4.mp hd;exact lY t))))
def KY(l:List Int):ak (aN l) (.lst [])=NR (.bl (!decide (l=[]))):=VR l []
def setAt(ps:List (List (List Int)))(c:lH):List (List (List Int)):=ps.set c.bY.toNat ((ps.getD c.bY.toNat []).set c.place.toNat c.thing)
def lay(st:List (List (List Int)))(cs:List lH)(l:List Int):List (List (List Int)):=l.foldl (λps k=>setAt ps (at_ cs k.toNat)) st
def aDP(st:List (List (List Int)))(cs:List lH)(l:List Int)(k:Int):lay st cs (l++[k])=setAt (lay st cs l) (at_ cs k.toNat):=by unfold lay;rw[V1];rfl
def aFW(st:List (List (List Int)))(cs:List lH)(l m:List Int):lay st cs (l++m)=lay (lay st cs l) cs m:=by unfold lay;rw[V1]
def Wt(r:List Int):∀b:Bn,(b.bW r).bB=lay b.bB b.asked r:=by
 induction r with
 | nil=>intro b;rfl
 | cons k r ih=>intro b;exact(ih (b.strike k)).trans U
def aDQ{st:List (List (List Int))}{cs:List lH}(h:∀x∈l,0≤x∧x<(cs.length:Int)):lay st (cs++[c]) l=lay st cs l:=by
 unfold lay
 induction l generalizing st with
 | nil=>rfl
 | cons k l ih=>have hk:=h k C8;rw[x8,x8,gK (show k.toNat<cs.length by omega)];exact ih λx hx=>h x (C6 _ hx)
def Shape(a b:List (List (List Int))):Prop:=a.length=b.length∧∀p:Nat,(a.getD p []).length=(b.getD p []).length
def Vi{α:Type}(l:List α)(i j:Nat)(x d:α):(l.set i x).getD j d=if i=j∧i<l.length then x else l.getD j d:=by
 simp only[B7,G8];by_cases c:i=j
 ·rw[sk c];by_cases e:i<l.length
  ·rw[sk e,sk ⟨c,e⟩];rfl
  ·rw[sv e,sv λz=>e z.2,D9 (by omega)]
 ·rw[sv c,sv λz=>c z.1]
def ZK(ps:List (List (List Int)))(c:lH):Shape (setAt ps c) ps:=by
 refine⟨by unfold setAt;rw[J5],λp=>?_⟩;unfold setAt;rw[Vi];split
 ·rename_i h;rw[J5,h.1]
 ·rfl
def Shape.trans{a b c:List (List (List Int))}(h:Shape a b)(k:Shape b c):Shape a c:=⟨h.1.trans k.1,λp=>(h.2 p).trans (k.2 p)⟩
def Eh(cs:List lH)(l:List Int):∀st,Shape (lay st cs l) st:=by
 induction l with
 | nil=>exact λst=>⟨U,λ_=>rfl⟩
 | cons k l ih=>exact λst=>(ih (setAt st (at_ cs k.toNat))).trans (ZK _ _)
def Zm{a b:List (List (List Int))}(h:Shape a b)(v:∀p q,p<a.length→q<(a.getD p []).length→val a p q=val b p q):a=b:=by
 apply K5;intro p;by_cases hp:p<a.length
 ·have hp':p<b.length:=by rw[←h.1];exact hp
  rw[dU (d:=[]) hp,dU (d:=[]) hp'];congr 1;apply K5;intro q;have hq:=h.2 p;by_cases lS:q<(a.getD p []).length
  ·rw[dU (d:=[]) lS,dU (d:=[]) (by omega)];exact congrArg NR (v p q hp lS)
  ·rw[D9 (by omega),D9 (by omega)]
 ·rw[D9 (by omega),D9 (by have:=h.1;omega)]
def Spot(st:List (List (List Int)))(c:lH):Prop:=0≤c.bY∧c.bY<(st.length:Int)∧0≤c.place∧c.place<((st.getD c.bY.toNat []).length:Int)
def here(cs:List lH)(p q:Nat)(k:Int):Bool:=decide ((at_ cs k.toNat).bY=(p:Int)∧(at_ cs k.toNat).place=(q:Int))
def aBs(h:Spot ps c)(p q:Nat):val (setAt ps c) p q=if c.bY=(p:Int)∧c.place=(q:Int)then c.thing else val ps p q:=by
 obtain⟨h1,h2,h3,h4⟩:=h;unfold val setAt;rw[Vi];by_cases c1:c.bY.toNat=p
 ·rw[sk ⟨c1,by omega⟩,Vi];by_cases c2:c.place.toNat=q
  ·rw[sk ⟨c2,by omega⟩,sk ⟨by omega,by omega⟩]
  ·rw[sv λz=>c2 z.1,sv λz=>c2 (by omega),c1]
 ·rw[sv λz=>c1 z.1,sv λz=>c1 (by omega)]
def Vj{a b:List (List (List Int))}(h:Shape a b)(s:Spot b c):Spot a c:=by obtain⟨h1,h2,h3,h4⟩:=s;refine⟨h1,by rw[h.1];exact h2,h3,by rw[h.2];exact h4⟩
def snoc_ind{α:Type}{P:List α→Prop}(h0:P [])(hs:∀l a,P l→P (l++[a]))(l:List α):P l:=by
 have:∀m:List α,P m.reverse:=λm=>by
  induction m with
  | nil=>exact h0
  | cons a m ih=>rw[o6];exact hs _ _ ih
 have h:=this l.reverse;rw[j6]at h;exact h
def KZ{st:List (List (List Int))}{cs:List lH}{p q:Nat}:∀(l:List Int),(∀k∈l,Spot st (at_ cs k.toNat))→val (lay st cs l) p q=topOf cs (val st p q) (l.filter (here cs p q)).getLast?:=by
 refine snoc_ind ?_ ?_
 ·exact λ_=>rfl
 ·intro l k ih h;have ih:=ih λx hx=>h x (F5 _ hx);have hk:=h k (E5 _ (by simp));rw[aDP,aBs (Vj (Eh cs l st) hk),P6];by_cases c:(at_ cs k.toNat).bY=(p:Int)∧(at_ cs k.toNat).place=(q:Int)
  ·rw[sk c,O8 (show here cs p q k=NU from tf c),N9,S9];rfl
  ·rw[sv c,O9 (by unfold here;simpa using c),N9,F0];exact ih
def Inc(cs:List lH)(l:List Int):Prop:=∀p q:Nat,(l.filter (here cs p q)).Pairwise (·<·)
def aDR{st:List (List (List Int))}{cs:List lH}{m:List Int}(hl:Inc cs l)(hm:Inc cs m)(h:∀x,x∈l↔x∈m)(hs:∀k∈l,Spot st (at_ cs k.toNat)):lay st cs l=lay st cs m:=by have a:=Eh cs l st;have b:=Eh cs m st;refine Zm ⟨a.1.trans b.1.symm,λp=>(a.2 p).trans (b.2 p).symm⟩ λp q _ _=>?_;rw[KZ l hs,KZ m λk hk=>hs k ((h k).mpr hk)];congr 2;exact qT (hl p q) (hm p q) λx=>by rw[K3,K3,h x]
def aIZ{cs:List lH}(h:l.Pairwise (·<·)):Inc cs l:=λp q=>h.sublist R3
def aFX(cs:List lH):Prop:=∀k,k<cs.length→∀j,lastAt (cs.take k) (at_ cs k).bY (at_ cs k).place=NR j→j∈(at_ cs k).needs
theorem Zo{cs:List lH}:∀(k:Nat),k≤cs.length→∀j:Nat,j<k→(at_ cs j).bY=p→(at_ cs j).place=q→∃m:Int,lastAt (cs.take k) p q=NR m∧(j:Int)≤m∧m<(k:Int)∧(at_ cs m.toNat).bY=p∧(at_ cs m.toNat).place=q
 | 0,_,j,hj,_,_=>absurd hj (J9 _)
 | k+1,hk,j,hj,h1,h2=>by
  have e:cs.take (k+1)=cs.take k++[at_ cs k]:=by rw[Q2,dU (d:=default) (show k<cs.length by omega)];rfl
  rw[e,rP,G7,show min k cs.length=k by omega];by_cases c:(at_ cs k).bY=p∧(at_ cs k).place=q
  ·rw[sk c];exact⟨k,U,by omega,by omega,by rw[C7];exact c.1,by rw[C7];exact c.2⟩
  ·rw[sv c];have:j≠k:=λz=>c (by rw[←z];exact⟨h1,h2⟩);obtain⟨m,a1,a2,a3,a4⟩:=Zo k (by omega) j (by omega) h1 h2;exact⟨m,a1,a2,by omega,a4⟩
def Ni(cs:List lH)(l:List Int):Prop:=∀x∈l,∀m∈(at_ cs x.toNat).needs,m∈l
def below{cs:List lH}(hp:aFX cs)(hc:Ni cs l)(hb:∀x∈l,0≤x∧x<(cs.length:Int)):∀(n x j:Nat),x<n→(x:Int)∈l→j<x→(at_ cs j).bY=(at_ cs x).bY→(at_ cs j).place=(at_ cs x).place→(j:Int)∈l:=by
 intro n
 induction n with
 | zero=>exact λx j hx=>absurd hx (J9 _)
 | succ n ih=>
  intro x j hx hxl hj h1 h2;have hxb:=hb _ hxl;obtain⟨m,a1,a2,a3,a4,a5⟩:=Zo x (show x≤cs.length by omega) j hj h1 h2;have hm:=hc _ hxl m (by rw[C7];exact hp x (by omega) m a1);obtain⟨i,rfl⟩:∃i:Nat,m=i:=⟨m.toNat,by omega⟩
  rw[C7]at a4 a5;by_cases e:i=j
  ·rw[←e];exact hm
  ·exact ih i j (by omega) hm (by omega) (h1.trans a4.symm) (h2.trans a5.symm)
def aDS{cs:List lH}(hp:aFX cs)(hc:Ni cs l)(hb:∀x∈l,0≤x∧x<(cs.length:Int))(hi:Inc cs l)(h0:0≤k)(hn:k∉l):Inc cs (l++[k]):=λp q=>by
 rw[P6];by_cases c:here cs p q k=NU
 ·rw[O8 c,N9];refine K6.mpr ⟨hi p q,by simp,λx hx y hy=>?_⟩;rw[D2.mp hy];obtain⟨x1,x2⟩:=K3.mp hx;have hxb:=hb x x1;have x2:=of_decide_eq_true x2;have c:=of_decide_eq_true c;refine Decidable.byContradiction λz=>?_;obtain⟨i,rfl⟩:∃i:Nat,x=i:=⟨x.toNat,by omega⟩
  obtain⟨j,rfl⟩:∃j:Nat,k=j:=⟨k.toNat,by omega⟩
  rw[C7]at x2 c;have ne:i≠j:=λe=>hn (by rw[←e];exact x1);exact hn (below hp hc hb (i+1) i j (by omega) x1 (by omega) (c.1.trans x2.1.symm) (c.2.trans x2.2.symm))
 ·rw[O9 c,N9,F0];exact hi p q
def Og{cs:List lH}{r:List Int}(hg:Good cs)(hc:Ni cs l)(hR:ni cs l p r)(n:Nat):Ni cs (l++r.take n):=λx hx m hm=>by
 rcases F8.mp hx with z | z
 ·exact F5 _ (hc x z m hm)
 ·have hxr:=(hR.2.2 x).mp (L7 z);rcases hxr.2 m hm with y | y
  ·exact F5 _ y
  ·refine E5 _ ?_;have dA:=(hg.2 x.toNat (by omega)).1 m hm;obtain⟨i,hi,ei⟩:=G6 y;obtain⟨j,hj,ej⟩:=G6 z;rw[G7]at hj;rw[V4]at ej;have kF:i<j:=by
    refine Decidable.byContradiction λw=>?_;rcases G4 j i with w2 | w2
    ·have:=J8.mp hR.1 j i (by omega) hi w2;omega
    ·have e:i=j:=by omega
     subst e;rw[ei]at ej;omega
   exact D6 (i:=i) (by rw[U6,sk (by omega),B6 hi,ei])
theorem ZL{cs:List lH}{r:List Int}(hg:Good cs)(hp:aFX cs)(hc:Ni cs l)(hb:∀x∈l,0≤x∧x<(cs.length:Int))(hi:Inc cs l)(hR:ni cs l p r):∀n,Inc cs (l++r.take n)
 | 0=>by rw[List.take_zero,F0];exact hi
 | n+1=>by
  have ih:=ZL hg hp hc hb hi hR n;by_cases hn:n<r.length
  ·have e:r.take (n+1)=r.take n++[r[n]]:=by rw[Q2,B6 hn];rfl
   have hx:=(hR.2.2 r[n]).mp (L0 hn);rw[e,←P9];refine aDS hp (Og hg hc hR n) (λx fN=>?_) ih hx.1.1 λz=>?_
   ·rcases F8.mp fN with z | z
    ·exact hb x z
    ·have:=((hR.2.2 x).mp (L7 z)).1
     exact⟨this.1,this.2.1⟩
   ·rcases F8.mp z with z | z
    ·exact hx.1.2.2.2 z
    ·have hu:=hR.1.sublist (M6 (n+1) r)
     rw[e]at hu;have:=(K6.mp hu).2.2 _ z r[n] (by simp);omega
  ·rw[P2 (by omega)]at ih ⊢
   exact ih
structure Dc(st:List (List (List Int)))(b:Bn):Prop where
 ok:Cq b
 bB:b.bB=lay st b.asked b.held
 prev:aFX b.asked
 closed:Ni b.asked b.held
 inc:Inc b.asked b.held
def Dc.shape{st:List (List (List Int))}(h:Dc st b):Shape b.bB st:=by rw[h.bB];exact Eh _ _ _
def Dc.init{st:List (List (List Int))}(hl:st.length≤8):Dc st ⟨st,[],[],[],[]⟩:=⟨Cq.init hl,U,λk hk=>absurd hk (J9 _),λx hx=>(by cases hx),λp q=>o9⟩
def Dc.put{st:List (List (List Int))}(h:Dc st b){ns:List Int}(h60:b.asked.length<124)(h0:0≤p)(h1:p<(b.bB.length:Int))(h2:0≤q)(h3:q<((b.bB.getD p.toNat []).length:Int))(hn:∀m∈ns,0≤m∧m<(b.asked.length:Int))(hl:ns.length≤8):Dc st (b.put p q th ns):=by
 have hb:=h.ok.nums.2;have ke:∀x∈b.held,at_ (b.asked++[eV b p q th ns]) x.toNat=at_ b.asked x.toNat:=λx hx=>gK (by have:=hb x hx;omega);refine⟨h.ok.put h60 h0 h1 h2 h3 hn hl,h.bB.trans (aDQ hb).symm,λk hk j hj=>?_,λx hx m hm=>?_,λp' q'=>?_⟩
 ·have ag:(b.put p q th ns).asked.length=b.asked.length+1:=by unfold Bn.put;rw[D1];rfl
  rw[ag]at hk;have kq:(b.put p q th ns).asked.take k=b.asked.take k:=by show (b.asked++[eV b p q th ns]).take k=_;rw[List.take_append_of_le_length (by omega)]
  rcases G4 k b.asked.length with z | z
  ·have e:at_ (b.put p q th ns).asked k=at_ b.asked k:=gK z;rw[kq,e]at hj;rw[e];exact h.prev k z j hj
  ·have ek:k=b.asked.length:=by omega
   have e:at_ (b.put p q th ns).asked k=eV b p q th ns:=by rw[ek];exact mK _ _
   rw[kq,e,ek,P1]at hj;rw[e];have hj:lastAt b.asked p q=NR j:=hj;show j∈aq (ns++(lastAt b.asked p q).toList);rw[Dq,hj];simp
 ·have hx:x∈b.held:=hx;have hm:m∈(at_ (b.asked++[eV b p q th ns]) x.toNat).needs:=hm;rw[ke x hx]at hm;exact h.closed x hx m hm
 ·have:=h.inc p' q';rw[show (b.put p q th ns).held=b.held from rfl];rw[V3 (q:=here b.asked p' q') λx hx=>by unfold here;rw[show (b.put p q th ns).asked=b.asked++[eV b p q th ns]from rfl,ke x hx]];exact this
def Dc.bW{st:List (List (List Int))}(h:Dc st b){r:List Int}(hR:ni b.asked b.held p r)(n:Nat):Dc st (b.bW (r.take n)):=by
 have e1:=iQ (r.take n) b;have e2:=tW (r.take n) b;have pV:∀x∈r.take n,0≤x∧x<(b.asked.length:Int)∧_∧x∉b.held:=λx hx=>((hR.2.2 x).mp (L7 hx)).1;refine⟨h.ok.bW ((hR.1.sublist (M6 _ _)).imp λz=>by omega) (λx hx=>⟨(pV x hx).1,(pV x hx).2.1⟩) (λx hx=>(pV x hx).2.2.2),?_,by rw[e1];exact h.prev,?_,?_⟩
 ·rw[Wt,e1,e2,aFW,←h.bB]
 ·rw[e1,e2];exact Og h.ok.good h.closed hR n
 ·rw[e1,e2];exact ZL h.ok.good h.prev h.closed h.ok.nums.2 h.inc hR n
theorem ZM{g:GS}(I:Nat→EN→Prop)(Rt:D→Prop):∀(xs:List D)(env:EN)(n:Nat),I n env→(∀k x env,xs[k]?=NR x→I (n+k) env→i<env.length∧((∃aI,g (env.set i (.fro x))=.next aI∧I (n+k+1) aI)∨(∃d,g (env.set i (.fro x))=.ret d∧Rt d)))→(∃aI,yK i g xs env=.next aI∧I (n+xs.length) aI)∨∃d,yK i g xs env=.ret d∧Rt d
 | [],env,n,h,_=>.inl ⟨env,U,h⟩
 | x::xs,env,n,h,st=>by
  obtain⟨hl,q⟩:=st 0 x env U h;unfold yK;rw[sk hl];rcases q with ⟨aI,q1,q2⟩ | ⟨d,q1,q2⟩
  ·rw[q1];have:=ZM I Rt xs aI (n+1) q2 λk y e hy hi=>by have z:=st (k+1) y e hy (by rw[show n+(k+1)=n+1+k by omega];exact hi);rw[show n+(k+1)=n+1+k by omega]at z;exact z
   rw[E3,show n+(xs.length+1)=n+1+xs.length by omega];exact this
  ·rw[q1];exact .inr ⟨d,U,q2⟩
def qt{i:Nat}{gb g:GS}{env:EN}{Pr:SR→Prop}{fi:FA}{n:Nat}(I:Nat→EN→Prop)(h:fi (rE env)=NR (jL 0 n))(h0:I 0 env)
 (st:∀(k:Nat) env,k<n→I k env→i<env.length∧Qs (λr=>(∃aI,r=.next aI∧I (k+1) aI)∨∃d,r=.ret d∧Pr (.ret d)) (gb (env.set i (.fro (.int k))))) (k:∀aI,I n aI→Qs Pr (g aI)):Qs Pr (aY (zV i fi gb) g env):=by
 rcases ZM (i:=i) (g:=gb) I (λd=>Pr (.ret d)) (jL 0 n) env 0 h0 λk x e hx hi=>by obtain⟨hk,rfl⟩:=Gh hx;rw[N6]at hi ⊢;rw[a8];exact⟨(st k e hk hi).1,(st k e hk hi).2⟩with ⟨aI,h1,h2⟩ | ⟨d,h1,h2⟩
 ·rw[N6,yQ]at h2;rw[dH ((Tr h).trans h1)];exact k aI h2
 ·rw[Jd ((Tr h).trans h1)];exact h2
def Ai(nx:Int→Int):List Int→Prop
 | []=>True
 | a::r=>nx a=r.headD 0∧Ai nx r
def Ai.congr{kH:Int→Int}:∀{l:List Int},(∀y∈l,kH y=nx y)→Ai nx l→Ai kH l
 | [],_,_=>trivial
 | a::r,h,⟨h1,h2⟩=>⟨(h a C8).trans h1,Ai.congr (λy hy=>h y (C6 _ hy)) h2⟩
def Dd(p b:Int):List Int→List Int
 | []=>[]
 | a::r=>if a=p then a::b::r else a::Dd p b r
def aBt(p b:Int)(l:List Int):(Dd p b l).headD 0=l.headD 0:=by
 cases l with
 | nil=>rfl
 | cons a r=>
  unfold Dd
  split<;>rfl
theorem De{b x:Int}:∀{l:List Int},p∈l→(x∈Dd p b l↔x=b∨x∈l)
 | [],h=>by cases h
 | a::r,h=>by
  unfold Dd;by_cases c:a=p
  ·rw[sk c]
   simp only[B9];constructor
   ·rintro(z | z | z)
    ·exact .inr (.inl z)
    ·exact .inl z
    ·exact .inr (.inr z)
   ·rintro(z | z | z)
    ·exact .inr (.inl z)
    ·exact .inl z
    ·exact .inr (.inr z)
  ·rw[sv c]
   have hp:p∈r:=(B9.mp h).elim (λz=>absurd z.symm c) id;rw[B9,De hp,B9];constructor
   ·rintro(z | z | z)
    ·exact .inr (.inl z)
    ·exact .inl z
    ·exact .inr (.inr z)
   ·rintro(z | z | z)
    ·exact .inr (.inl z)
    ·exact .inl z
    ·exact .inr (.inr z)
theorem Hl{b:Int}:∀{l:List Int},l.Nodup→p∈l→b∉l→(Dd p b l).Nodup
 | [],_,h,_=>by cases h
 | a::r,hn,h,hb=>by
  obtain⟨n1,n2⟩:=F1.mp hn;have ba:b≠a:=λz=>hb (by rw[z];exact C8);have br:b∉r:=λz=>hb (C6 _ z);unfold Dd;by_cases c:a=p
  ·rw[sk c];exact F1.mpr ⟨λz=>(B9.mp z).elim (λe=>ba e.symm) n1,F1.mpr ⟨br,n2⟩⟩
  ·rw[sv c];have hp:p∈r:=(B9.mp h).elim (λz=>absurd z.symm c) id;exact F1.mpr ⟨λz=>((De hp).mp z).elim (λe=>ba e.symm) n1,Hl n2 hp br⟩
theorem zp{b:Int}:∀{l:List Int},p∈l→Dd p b l=l.take (l.idxOf p+1)++b::l.drop (l.idxOf p+1)
 | [],h=>by cases h
 | a::r,h=>by
  unfold Dd;by_cases c:a=p
  ·subst c;rw[sk U,X3];rfl
  ·have hp:p∈r:=(B9.mp h).elim (λz=>absurd z.symm c) id;rw[sv c,W9,show (a==p)=NV from beq_false_of_ne c,zp hp];rfl
theorem Ai.ins{nx kH:Int→Int}{p b:Int}(h1:kH p=b)(h2:kH b=nx p):∀{l:List Int},l.Nodup→p∈l→(∀y∈l,y≠p→kH y=nx y)→Ai nx l→Ai kH (Dd p b l)
 | [],_,h,_,_=>by cases h
 | a::r,hn,h,hy,⟨q1,q2⟩=>by
  obtain⟨n1,n2⟩:=F1.mp hn;unfold Dd;by_cases c:a=p
  ·subst c;rw[sk rfl];exact⟨h1,h2.trans q1,q2.congr λy hr=>hy y (C6 _ hr) λz=>n1 (z▸hr)⟩
  ·rw[sv c];have hp:p∈r:=(B9.mp h).elim (λz=>absurd z.symm c) id;exact⟨(hy a C8 c).trans (q1.trans (aBt p b r).symm),Ai.ins h1 h2 n2 hp (λy hr=>hy y (C6 _ hr)) q2⟩
theorem Ai.era{kH:Int→Int}{x:Int}(h1:nx p=x)(h0:x≠0)(h2:kH p=nx x):∀{l:List Int},l.Nodup→p∈l→(∀y∈l,y≠p→kH y=nx y)→Ai nx l→x∈l.tail∧Ai kH (l.erase x)
 | [],_,h,_,_=>by cases h
 | a::r,hn,h,hy,⟨q1,q2⟩=>by
  obtain⟨n1,n2⟩:=F1.mp hn;by_cases c:a=p
  ·subst c;cases r with
   | nil=>exact absurd (h1.symm.trans q1) h0
   | cons e r=>have ex:e=x:=q1.symm.trans h1;subst ex;have ae:a≠e:=λz=>n1 (by rw[z];exact C8);refine⟨C8,?_⟩;rw[Q4 (by simpa using ae),List.erase_cons_head];refine⟨h2.trans q2.1,q2.2.congr λy hr=>hy y (C6 _ (C6 _ hr)) λz=>n1 (z▸C6 _ hr)⟩
  ·have hp:p∈r:=(B9.mp h).elim (λz=>absurd z.symm c) id;obtain⟨i1,i2⟩:=Ai.era h1 h0 h2 n2 hp (λy hr=>hy y (C6 _ hr)) q2;have xr:x∈r:=X5 i1;have ax:a≠x:=λz=>n1 (z▸xr);refine⟨xr,?_⟩;rw[Q4 (by simpa using ax)];refine⟨(hy a C8 c).trans (q1.trans ?_),i2⟩;cases r with
   | nil=>cases xr
   | cons e r=>have ex:e≠x:=λz=>(F1.mp n2).1 (z▸i1);rw[Q4 (by simpa using ex)];rfl
def Ai.get:∀{r:List Int} {a:Int},Ai nx (a::r)→∀k,k≤r.length→nx ((a::r).getD k 0)=(r++[0]).getD k 0
 | [],a,h,k,hk=>by obtain rfl:k=0:=Nat.le_zero.mp hk;exact h.1
 | b::r,a,h,0,hk=>h.1
 | b::r,a,h,k+1,hk=>Ai.get h.2 k (Nat.le_of_succ_le_succ hk)
def Ai.of:∀{r:List Int} {a:Int},(∀k,k≤r.length→nx ((a::r).getD k 0)=(r++[0]).getD k 0)→Ai nx (a::r)
 | [],a,h=>⟨h 0 (C9 _),trivial⟩
 | b::r,a,h=>⟨h 0 (L5 _),Ai.of λk hk=>h (k+1) (S7 hk)⟩
def vX(cs:List lH)(S:Int→Bool)(p q:Int):Option Int:=((D5 cs.length).filter λk=>decide ((at_ cs k).bY=p∧(at_ cs k).place=q)&&S (k:Int)).getLast?.map λk=>((k:Nat):Int)
def Vk(cs:List lH)(S:Int→Bool)(c:lH)(p q:Int):vX (cs++[c]) S p q=if(c.bY=p∧c.place=q)∧S (cs.length:Int)=NU then NR (cs.length:Int)else vX cs S p q:=by
 unfold vX;have e:(D5 cs.length).filter (λk=>decide ((at_ (cs++[c]) k).bY=p∧(at_ (cs++[c]) k).place=q)&&S (k:Int))=(D5 cs.length).filter λk=>decide ((at_ cs k).bY=p∧(at_ cs k).place=q)&&S (k:Int):=V3 λk hk=>by rw[gK (F7.mp hk)]
 rw[D1,show cs.length+[c].length=cs.length+1 from rfl,e9,P6,e];by_cases h:(c.bY=p∧c.place=q)∧S (cs.length:Int)=NU
 ·rw[sk h,O8 (by rw[mK,tf h.1,h.2];rfl),N9,S9];rfl
 ·rw[sv h,O9 (by rw[mK,J2,decide_eq_true_iff];exact h),N9,F0]
def ZP{cs:List lH}(h:vX cs S p q=NR k):0≤k∧k<(cs.length:Int):=by unfold vX at h;obtain⟨j,h1,rfl⟩:=kJ h;have:=F7.mp (K3.mp (X0 h1)).1;omega
def Ag(st:List (List (List Int)))(cs:List lH)(S:Int→Bool)(p q:Int):List Int:=topOf cs (val st p.toNat q.toNat) (vX cs S p q)
def Zq(st:List (List (List Int)))(cs:List lH)(S:Int→Bool)(c:lH)(p q:Int):Ag st (cs++[c]) S p q=if(c.bY=p∧c.place=q)∧S (cs.length:Int)=NU then c.thing else Ag st cs S p q:=by
 unfold Ag;rw[Vk];by_cases h:(c.bY=p∧c.place=q)∧S (cs.length:Int)=NU
 ·rw[sk h,sk h];show (at_ (cs++[c]) (cs.length:Int).toNat).thing=c.thing;rw[C7,mK]
 ·rw[sv h,sv h];cases e:vX cs S p q with
  | none=>rfl
  | some k=>have:=ZP e;show (at_ _ k.toNat).thing=(at_ _ k.toNat).thing;rw[gK (by omega)]
def zQ(cs:List lH):(∀k,lastAt cs p q=NR k→S k=NU)→vX cs S p q=lastAt cs p q:=by
 induction cs using snoc_ind with
 | h0=>exact λ_=>rfl
 | hs cs c ih=>
  rw[rP,Vk];by_cases h:c.bY=p∧c.place=q
  ·rw[sk h];intro k;rw[sk ⟨h,k _ U⟩]
  ·rw[sv h,sv λz=>h z.1];exact ih
def Dn(cs:List lH)(S:Int→Bool):Prop:=∀k,k<cs.length→S (k:Int)=NU→∀m∈(at_ cs k).needs,S m=NU
def Dn.init{cs:List lH}(h:Dn (cs++[c]) S):Dn cs S:=λk hk hS m hm=>h k (by rw[D1];omega) hS m (by rw[gK hk];exact hm)
def Dn.last{cs:List lH}(h:Dn (cs++[c]) S)(hS:S (cs.length:Int)=NU):∀m∈c.needs,S m=NU:=λm hm=>h cs.length (by rw[D1];exact N2 _) hS m (by rw[mK];exact hm)
def inB(l:List Int):Int→Bool:=λk=>decide (k∈l)
def Dc.dn{st:List (List (List Int))}(h:Dc st b):Dn b.asked (inB b.held):=λk _ hS m hm=>tf (h.closed (k:Int) (of_decide_eq_true hS) m (by rw[C7];exact hm))
def Dc.val{st:List (List (List Int))}(h:Dc st b)(p q:Nat):val b.bB p q=Ag st b.asked (inB b.held) p q:=by
 have hm:∀x,x∈b.held↔x∈((D5 b.asked.length).filter λk:Nat=>inB b.held (k:Int)).map λk:Nat=>((k:Nat):Int):=λx=>by
  rw[J4];constructor
  ·intro hx;have:=h.ok.nums.2 x hx;exact⟨x.toNat,K3.mpr ⟨F7.mpr (by omega),tf (by rw[show ((x.toNat:Nat):Int)=x by omega];exact hx)⟩,by omega⟩
  ·rintro⟨k,hk,rfl⟩
   exact of_decide_eq_true (K3.mp hk).2
 have hs:∀k∈b.held,Spot st (at_ b.asked k.toNat):=λk hk=>by have hb:=h.ok.nums.2 k hk;exact Vj ⟨h.shape.1.symm,λp=>(h.shape.2 p).symm⟩ (h.ok.YH k.toNat (by omega))
 have hu:(((D5 b.asked.length).filter λk:Nat=>inB b.held (k:Int)).map λk:Nat=>((k:Nat):Int)).Pairwise (·<·):=by rw[V2];exact(V5.sublist R3).imp λz=>by omega
 rw[h.bB,aDR h.inc (aIZ hu) hm hs,KZ _ λk hk=>hs k ((hm k).mpr hk)];unfold Ag vX;rw[C7,C7];congr 1;rw[x6,Y8,List.filter_filter];congr 2
structure Ev where
 i:Bool
 n:Int
 b:Int
 a:Int
variable{bg:List Ev}
def rep1(S:Int→Bool)(l:List Int)(e:Ev):Option (List Int):=if S e.n=NU then(if e.i=NU then(if e.b∈l∨e.a∉l then sx else NR (Dd e.a e.b l))else(if e.b∉l then sx else NR (l.erase e.b)))else NR l
def replay(S:Int→Bool):List Int→List Ev→Option (List Int)
 | l,[]=>NR l
 | l,e::es=>(rep1 S l e).bind λl'=>replay S l' es
def nF{e:Ev}:∀{es:List Ev} {l:List Int},replay S l (es++[e])=(replay S l es).bind λl'=>rep1 S l' e
 | [],l=>by
  show (rep1 S l e).bind (λl'=>NR l')=rep1 S l e;cases rep1 S l e<;>rfl
 | x::es,l=>by
  show (rep1 S l x).bind (λl'=>replay S l' (es++[e]))=((rep1 S l x).bind λl'=>replay S l' es).bind _;cases rep1 S l x with
  | none=>rfl
  | some y=>exact nF
def Vl(st:List (List (List Int)))(P:Nat)(cs:List lH)(S:Int→Bool)(x:Int):Int:=(Ag st cs S ((x.toNat%P:Nat):Int) ((x.toNat/P:Nat):Int)).getD 1 0
structure Row(st:List (List (List Int)))(first:List Int)(bg:List Ev)(s:Wb)(S:Int→Bool)(row:List Int):Prop where
 rep:replay S (0::first) bg=NR (0::row)
 nd:(0::row).Nodup
 bd:∀x∈row,1≤x∧x<(s.rs.length:Int)
 pth:Ai (Vl st s.P s.b.asked S) (0::row)
 ins:∀x∈s.od,(∀c,s.co.get x=NR c→S c=NU)→x∈row
 out:∀x,1≤x→x<(s.rs.length:Int)→x∉s.od→(∀g,s.go.get x=NR g→S g=NU)→x∉row
structure Ey(st:List (List (List Int)))(first:List Int)(bg:List Ev)(s:Wb):Prop where
 lb:Dc st s.b
 rows:∀S,Dn s.b.asked S→∃row,Row st first bg s S row
 mem:Ai (λx=>(s.R x).getD 1 0) (0::s.od)
section
variable{st:List (List (List Int))}{first:List Int}
def vY{x:Int}{r ns:List Int}(w:mJ s)(h0:0≤x)(h1:x<(s.rs.length:Int))(hD:Dn (s.wr x r ns).b.asked S)(hS:S (s.n:Int)=NU):(∀m∈ns,S m=NU)∧∀k,s.la.get x=NR k→S k=NU:=by have hl:∀m∈aq (ns++(lastAt s.b.asked ((x.toNat%s.P:Nat):Int) ((x.toNat/s.P:Nat):Int)).toList),S m=NU:=Dn.last (cs:=s.b.asked) (c:=eV s.b ((x.toNat%s.P:Nat):Int) ((x.toNat/s.P:Nat):Int) r ns) hD hS;have e:=w.las x.toNat (by omega);rw[show ((x.toNat:Nat):Int)=x by omega]at e;refine⟨λm hm=>hl m ((Dq _ _).mpr (F5 _ hm)),λk hk=>hl k ((Dq _ _).mpr (E5 _ ?_))⟩;rw[←e,hk];exact D2.mpr U
def LC{x:Int}{r ns:List Int}(h0:0≤x)(hy:0≤y):Vl st s.P (s.wr x r ns).b.asked S y=if y=x∧S (s.n:Int)=NU then r.getD 1 0 else Vl st s.P s.b.asked S y:=by
 unfold Vl;show (Ag st (s.b.asked++[eV s.b ((x.toNat%s.P:Nat):Int) ((x.toNat/s.P:Nat):Int) r ns]) S _ _).getD 1 0=_;rw[Zq];by_cases c:y=x∧S (s.n:Int)=NU
 ·rw[sk c,sk ⟨by rw[c.1];exact⟨U,U⟩,c.2⟩];rfl
 ·rw[sv c,sv]
  rintro⟨⟨z1,z2⟩,z3⟩
  have:=Kf (a:=x.toNat) (b:=y.toNat) z1 z2;exact c ⟨by omega,z3⟩
def Ey.full(h:Ey st first bg s)(w:mJ s){x:Int}(h0:0≤x)(h1:x<(s.rs.length:Int))(hS:∀k,s.la.get x=NR k→S k=NU):Vl st s.P s.b.asked S x=(s.R x).getD 1 0:=by
 have e:=w.las x.toNat (by omega);rw[show ((x.toNat:Nat):Int)=x by omega]at e;unfold Vl Ag;rw[zQ s.b.asked (by rw[←e];exact hS),Wb.R,(w.rcd x.toNat (by omega)).1];unfold face;cases q:lastAt s.b.asked ((x.toNat%s.P:Nat):Int) ((x.toNat/s.P:Nat):Int)with
 | some k=>rfl
 | none=>have v:=h.lb.val (x.toNat%s.P) (x.toNat/s.P);unfold Ag at v;rw[zQ s.b.asked (by rw[q];exact λk z=>nomatch z),q]at v;rw[C7,C7]at v ⊢;show (val st _ _).getD 1 0=(val s.b.bB _ _).getD 1 0;rw[v];rfl
def Ey.rw(h:Ey st first bg s)(w:mJ s){x:Int}{r ns:List Int}(h0:0≤x)(h1:x<(s.rs.length:Int))(hn:∀m∈ns,0≤m∧m<(s.n:Int))(hl:ns.length≤8)(hm:s.n<124)(hr:r.getD 1 0=(s.R x).getD 1 0):Ey st first bg (s.wr x r ns):=by
 obtain⟨a,b,c,d⟩:=w.spot h0 h1;refine⟨h.lb.put hm a b c d hn hl,λS hD=>?_,?_⟩
 ·obtain⟨row,R⟩:=h.rows S (Dn.init (cs:=s.b.asked) hD);refine⟨row,R.rep,R.nd,λy hy=>by rw[oR];exact R.bd y hy,R.pth.congr λy hy=>?_,R.ins,λy y1 y2=>R.out y y1 (by rw[oR]at y2;exact y2)⟩;have y0:0≤y:=by
   rcases B9.mp hy with z | z
   ·omega
   ·have:=R.bd y z;omega
  show Vl st s.P _ S y=_;rw[LC h0 y0];split
  ·rename_i q;rw[q.1,hr,h.full w h0 h1 (vY w h0 h1 hD q.2).2]
  ·rfl
 ·refine h.mem.congr λy hy=>?_;have y0:0≤y:=by
   rcases B9.mp hy with z | z
   ·omega
   ·have:=w.sV y z;omega
  show ((s.wr x r ns).R y).getD 1 0=(s.R y).getD 1 0;rw[Et h0 h1 y0];split
  ·rename_i q;rw[hr,q]
  ·rfl
def Ey.ent(h:Ey st first bg s)(w:mJ s)(fT:0<s.lo.length)(hm:s.n<123){key:Int}(h0:0≤k)(h1:k≤(s.od.length:Int))(hn:∀m∈fu,0≤m∧m<(s.n:Int))(hf:fu.length≤5):Ey st first (bg++[⟨NU,(s.n+1:Nat),s.new,s.ahead k⟩]) (s.ent k key aT aS gF fu):=by
 obtain⟨b1,b2,b3,b4,b5⟩:=w.new fT;obtain⟨p1,p2,p3⟩:=w.ahead h0 h1;have w1:=w.e1 fT (by omega) k key aT aS gF;obtain⟨w2,eB,hc⟩:=w.e2 fT hm (key:=key) (aT:=aT) (aS:=aS) (gF:=gF) h0 h1 hn hf;have pb:s.ahead k≠s.new:=λz=>by
  rcases p1 with y | y
  ·omega
  ·exact b4 (z▸y)
 have fg:∀x,x∈s.od.take k.toNat++s.new::s.od.drop k.toNat↔x=s.new∨x∈s.od:=λx=>by
  conv=>rhs;rw[←M0 k.toNat s.od]
  simp only[F8,B9];constructor
  ·rintro(z | z | z)
   ·exact .inr (.inl z)
   ·exact .inl z
   ·exact .inr (.inr z)
  ·rintro(z | z | z)
   ·exact .inr (.inl z)
   ·exact .inl z
   ·exact .inr (.inr z)
 have ag:=Ql s k key aT aS gF fu;have en:=aBp s k key aT aS gF;have qA:(s.e1 k key aT aS gF).rs.length=s.rs.length:=oR _ _ _ _;have kR:∀x,(s.ent k key aT aS gF fu).co.get x=if x=s.new then NR ((s.n+1:Nat):Int)else s.co.get x:=λx=>Mp.mO w.coo.1 _ _ _;obtain⟨f1,f2,f3,f4⟩:=w.spot b5 b3;obtain⟨g1,g2,g3,g4⟩:=w1.spot p2 (by rw[qA];exact p3);have aI0:((s.e1 k key aT aS gF).ns (s.ahead k) ((s.n:Int)::fu)).length≤8:=by unfold Wb.ns;rw[D1];have:=nY ((s.e1 k key aT aS gF).co.get (s.ahead k));simp;omega
 have lb1:Dc st (s.e1 k key aT aS gF).b:=h.lb.put (by have:s.b.asked.length=s.n:=rfl;omega) f1 f2 f3 f4 (w.aIS _) (G1 (nY _) (by decide));refine⟨lb1.put (by have:(s.e1 k key aT aS gF).b.asked.length=s.n+1:=en;omega) g1 g2 g3 g4 (w1.qg eB) aI0,λS hD=>?_,?_⟩
 ·have kg:Dn ((s.e1 k key aT aS gF).wr (s.ahead k) (Od ((s.e1 k key aT aS gF).R (s.ahead k)) s.new) ((s.e1 k key aT aS gF).ns (s.ahead k) ((s.n:Int)::fu))).b.asked S:=hD
  have sP:Dn (s.wr s.new [key,(s.R (s.ahead k)).getD 1 0,aT,aS,gF] (s.go.get s.new).toList).b.asked S:=Dn.init (cs:=(s.e1 k key aT aS gF).b.asked) kg;obtain⟨row,R⟩:=h.rows S (Dn.init (cs:=s.b.asked) sP);have rz:∀y∈(0:Int)::row,0≤y:=λy hy=>by
   rcases B9.mp hy with z | z
   ·omega
   ·have:=R.bd y z;omega
  have mh:∀y,0≤y→Vl st s.P (s.ent k key aT aS gF fu).b.asked S y=if y=s.ahead k∧S ((s.n+1:Nat):Int)=NU then s.new else if y=s.new∧S (s.n:Int)=NU then(s.R (s.ahead k)).getD 1 0 else Vl st s.P s.b.asked S y:=λy hy=>by have t1:Vl st s.P (s.e1 k key aT aS gF).b.asked S y=if y=s.new∧S (s.n:Int)=NU then(s.R (s.ahead k)).getD 1 0 else Vl st s.P s.b.asked S y:=LC b5 hy;have t2:=LC (st:=st) (s:=s.e1 k key aT aS gF) (S:=S) (r:=Od ((s.e1 k key aT aS gF).R (s.ahead k)) s.new) (ns:=(s.e1 k key aT aS gF).ns (s.ahead k) ((s.n:Int)::fu)) p2 hy;rw[en]at t2;exact t2.trans (by rw[show Vl st (s.e1 k key aT aS gF).P (s.e1 k key aT aS gF).b.asked S y=Vl st s.P (s.e1 k key aT aS gF).b.asked S y from rfl,t1];rfl)
  have fil:S (s.n:Int)=NU→s.new∉row:=λhS=>R.out s.new b2 b3 b4 λg hg=>(vY w b5 b3 sP hS).1 g (by rw[hg];exact D2.mpr U);by_cases c:S ((s.n+1:Nat):Int)=NU
  ·have qu:=vY w1 p2 (by rw[qA];exact p3) kg (by rw[en];exact c)
   have hSn:S (s.n:Int)=NU:=qu.1 _ (E5 _ C8);have bn:s.new∉(0:Int)::row:=λz=>(B9.mp z).elim (λz=>by omega) (fil hSn);have pm:s.ahead k∈(0:Int)::row:=by
    rcases p1 with z | z
    ·rw[z];exact C8
    ·refine C6 _ (R.ins _ z λc0 hc0=>qu.1 _ (F5 _ ?_))
     rw[show (s.e1 k key aT aS gF).co.get (s.ahead k)=s.co.get (s.ahead k)from rfl,hc0];exact D2.mpr U
   have full:Vl st s.P s.b.asked S (s.ahead k)=(s.R (s.ahead k)).getD 1 0:=h.full w p2 p3 λj hj=>qu.2 j (by
    show (s.la.put s.new s.n).get (s.ahead k)=NR j;rw[Mp.mO w.lao.1,sv pb];exact hj)
   obtain⟨Ah,e⟩:∃Ah,Dd (s.ahead k) s.new ((0:Int)::row)=0::Ah:=by
    unfold Dd
    split<;>exact⟨_,U⟩
   have gN:∀x,x∈(0:Int)::Ah↔x=s.new∨x∈(0:Int)::row:=λx=>by rw[←e];exact De pm
   have qB:∀x,x≠0→(x∈Ah↔x=s.new∨x∈row):=λx hx=>by have:=gN x;simp only[B9,hx,false_or]at this;exact this
   refine⟨Ah,?_,?_,λx hx=>?_,?_,λx hx hco=>?_,λx x1 x2 x3 hgo=>?_⟩
   ·rw[nF,R.rep,C4]
    unfold rep1;rw[sk c,sk U,sv λz=>z.elim bn λy=>y pm,e]
   ·rw[←e]
    exact Hl R.nd pm bn
   ·rw[ag]
    have pk:x≠0:=λz=>by
     have nn:((0:Int)::Ah).Nodup:=by rw[←e];exact Hl R.nd pm bn
     exact(F1.mp nn).1 (z▸hx)
    rcases(qB x pk).mp hx with z | z
    ·omega
    ·exact R.bd x z
   ·rw[←e]
    refine Ai.ins ?_ ?_ R.nd pm (λy hy hyp=>?_) R.pth
    ·exact(mh _ p2).trans (sk ⟨U,c⟩)
    ·refine(mh _ b5).trans ?_
     rw[sv λz:s.new=s.ahead k∧_=>pb z.1.symm,sk ⟨U,hSn⟩,full]
    ·refine(mh _ (rz y hy)).trans ?_
     rw[sv λz:y=s.ahead k∧_=>hyp z.1,sv λz:y=s.new∧_=>bn (z.1▸hy)]
   ·have pk:x≠0:=λz=>by
     rcases(fg x).mp hx with y | y
     ·omega
     ·have:=w.sV x y;omega
    refine(qB x pk).mpr ?_
    rcases(fg x).mp hx with z | z
    ·exact .inl z
    ·refine .inr (R.ins x z λc0 hc0=>hco c0 ?_)
     rw[kR,sv λy:x=s.new=>b4 (y▸z)];exact hc0
   ·have x3:x∉s.od.take k.toNat++s.new::s.od.drop k.toNat:=x3
    rw[fg,not_or]at x3;intro z;rw[ag]at x2
    rcases(qB x (by omega)).mp z with y | y
    ·exact x3.1 y
    ·exact R.out x x1 x2 x3.2 hgo y
  ·refine⟨row,?_,R.nd,λx hx=>by rw[ag];exact R.bd x hx,R.pth.congr λy hy=>?_,λx hx hco=>?_,λx x1 x2 x3 hgo=>?_⟩
   ·rw[nF,R.rep,C4]
    unfold rep1;rw[sv c]
   ·refine(mh _ (rz y hy)).trans ?_
    rw[sv λz=>c z.2];split
    ·rename_i q
     rcases B9.mp hy with z | z
     ·omega
     ·exact absurd (q.1▸z) (fil q.2)
    ·rfl
   ·rcases(fg x).mp hx with z | z
    ·exact absurd (hco _ (by rw[kR,sk z])) c
    ·refine R.ins x z λc0 hc0=>hco c0 ?_
     rw[kR,sv λy:x=s.new=>b4 (y▸z)];exact hc0
   ·have x3:x∉s.od.take k.toNat++s.new::s.od.drop k.toNat:=x3
    rw[fg,not_or]at x3;rw[ag]at x2;exact R.out x x1 x2 x3.2 hgo
 ·have oI:((0:Int)::s.od).Nodup:=F1.mpr ⟨λz=>by have:=w.sV 0 z;omega,w.Oc⟩
  have kl:k.toNat<((0:Int)::s.od).length:=by rw[E3];omega
  have gk:((0:Int)::s.od)[k.toNat]?=NR (s.ahead k):=dU (d:=0) kl;have pm:s.ahead k∈(0:Int)::s.od:=D6 gk;have ei:Dd (s.ahead k) s.new ((0:Int)::s.od)=0::(s.od.take k.toNat++s.new::s.od.drop k.toNat):=by rw[zp pm,Vd oI gk];rfl
  show Ai _ ((0:Int)::(s.od.take k.toNat++s.new::s.od.drop k.toNat));rw[←ei];have R2:∀y,0≤y→(s.ent k key aT aS gF fu).R y=if y=s.ahead k then Od ((s.e1 k key aT aS gF).R (s.ahead k)) s.new else if y=s.new then [key,(s.R (s.ahead k)).getD 1 0,aT,aS,gF]else s.R y:=λy hy=>by
   show ((s.e1 k key aT aS gF).wr (s.ahead k) (Od ((s.e1 k key aT aS gF).R (s.ahead k)) s.new) ((s.e1 k key aT aS gF).ns (s.ahead k) ((s.n:Int)::fu))).R y=_;rw[Et p2 hc hy];split
   ·rfl
   ·exact Et (ns:=(s.go.get s.new).toList) b5 b3 hy
  refine Ai.ins ?_ ?_ oI pm (λy hy hyp=>?_) h.mem
  ·show ((s.ent k key aT aS gF fu).R (s.ahead k)).getD 1 0=_
   rw[R2 _ p2,sk rfl];rfl
  ·show ((s.ent k key aT aS gF fu).R s.new).getD 1 0=(s.R (s.ahead k)).getD 1 0
   rw[R2 _ b5,sv pb.symm,sk rfl];rfl
  ·have y0:0≤y:=by
    rcases B9.mp hy with z | z
    ·omega
    ·have:=w.sV y z;omega
   show ((s.ent k key aT aS gF fu).R y).getD 1 0=(s.R y).getD 1 0;rw[R2 _ y0,sv hyp,sv];rintro rfl;rcases B9.mp hy with z | z
   ·omega
   ·exact b4 z
def Ey.out(h:Ey st first bg s)(w:mJ s)(hm:s.n<124){x:Int}(h0:0≤k)(h1:k<(s.od.length:Int))(hx:s.od[k.toNat]?=NR x)(hn:∀m∈fu,0≤m∧m<(s.n:Int))(hf:fu.length≤5):Ey st first (bg++[⟨NV,(s.n:Int),x,0⟩]) (s.out k x fu):=by
 obtain⟨p1,p2,p3⟩:=w.ahead h0 (M3 h1);have xm:x∈s.od:=D6 hx;have xr:=w.sV x xm;obtain⟨w1,eB⟩:=w.o1 hm h0 (M3 h1) (x:=x) (by omega) xr.2 hn hf;have hi:=Vd w.Oc hx;have ag:=Qm s k x fu;have oI:((0:Int)::s.od).Nodup:=F1.mpr ⟨λz=>by have:=w.sV 0 z;omega,w.Oc⟩;have px:(s.R (s.ahead k)).getD 1 0=x:=by have:=h.mem.get k.toNat (by omega);rw[B7 (l:=s.od++[0]),F9 (by omega),hx]at this;exact this
 have fg:∀y,y∈s.od.eraseIdx k.toNat↔y∈s.od∧y≠x:=λy=>by rw[←hi];exact Eg w.Oc
 have go':∀y,(s.out k x fu).go.get y=if y=x then NR (s.n:Int)else s.go.get y:=λy=>Mp.mO w.goo.1 _ _ _;have kl:k.toNat<((0:Int)::s.od).length:=by rw[E3];omega
 have gk:((0:Int)::s.od)[k.toNat]?=NR (s.ahead k):=dU (d:=0) kl;have pm0:s.ahead k∈(0:Int)::s.od:=D6 gk;obtain⟨g1,g2,g3,g4⟩:=w.spot p2 p3;have aI0:(s.ns (s.ahead k) ((s.la.get x).toList++fu)).length≤8:=by unfold Wb.ns;rw[D1,D1];have:=nY (s.co.get (s.ahead k));have:=nY (s.la.get x);omega
 refine⟨h.lb.put hm g1 g2 g3 g4 (w.qg eB) aI0,λS hD=>?_,?_⟩
 ·have sP:Dn (s.wr (s.ahead k) (Od (s.R (s.ahead k)) ((s.R x).getD 1 0)) (s.ns (s.ahead k) ((s.la.get x).toList++fu))).b.asked S:=hD;obtain⟨row,R⟩:=h.rows S (Dn.init (cs:=s.b.asked) sP);have rz:∀y∈(0:Int)::row,0≤y:=λy hy=>by
   rcases B9.mp hy with z | z
   ·omega
   ·have:=R.bd y z;omega
  have mh:∀y,0≤y→Vl st s.P (s.out k x fu).b.asked S y=if y=s.ahead k∧S (s.n:Int)=NU then(s.R x).getD 1 0 else Vl st s.P s.b.asked S y:=λy hy=>LC p2 hy;by_cases c:S (s.n:Int)=NU
  ·have qu:=vY w p2 p3 sP c;have pm:s.ahead k∈(0:Int)::row:=by
    rcases p1 with z | z
    ·rw[z];exact C8
    ·refine C6 _ (R.ins _ z λc0 hc0=>qu.1 _ (F5 _ ?_));rw[hc0];exact D2.mpr U
   have fp:Vl st s.P s.b.asked S (s.ahead k)=x:=(h.full w p2 p3 qu.2).trans px;have fx:Vl st s.P s.b.asked S x=(s.R x).getD 1 0:=h.full w (by omega) xr.2 λj hj=>qu.1 _ (E5 _ (F5 _ (by rw[hj];exact D2.mpr U)));obtain⟨x1,x2⟩:=Ai.era (kH:=Vl st s.P (s.out k x fu).b.asked S) fp (by omega) (by rw[mh _ p2,sk ⟨U,c⟩,fx]) R.nd pm (λy hy hyp=>by rw[mh _ (rz y hy),sv λz=>hyp z.1]) R.pth;have x1:x∈row:=x1;have er:((0:Int)::row).erase x=0::row.erase x:=Q4 (by simp;omega);have nr:=(F1.mp R.nd).2;have hme:∀y,y∈row.erase x↔y∈row∧y≠x:=λy=>by rw[nr.mem_erase_iff];exact and_comm
   refine⟨row.erase x,?_,?_,λy hy=>?_,?_,λy hy hco=>?_,λy y1 y2 y3 hgo=>?_⟩
   ·rw[nF,R.rep,C4];unfold rep1;rw[sk c,sv E8,sv λz=>z (C6 _ x1),er]
   ·rw[←er];exact R.nd.sublist n9
   ·rw[ag];exact R.bd y ((hme y).mp hy).1
   ·rw[←er];exact x2
   ·have hy:=(fg y).mp hy;exact(hme y).mpr ⟨R.ins y hy.1 hco,hy.2⟩
   ·have y3:y∉s.od.eraseIdx k.toNat:=y3;rw[fg]at y3;rw[ag]at y2;intro z;obtain⟨z1,z2⟩:=(hme y).mp z;exact R.out y y1 y2 (λq=>y3 ⟨q,z2⟩) (λg hg=>hgo g (by rw[go',sv z2];exact hg)) z1
  ·refine⟨row,?_,R.nd,λy hy=>by rw[ag];exact R.bd y hy,R.pth.congr λy hy=>?_,λy hy hco=>R.ins y ((fg y).mp hy).1 hco,λy y1 y2 y3 hgo=>?_⟩
   ·rw[nF,R.rep,C4];unfold rep1;rw[sv c]
   ·refine(mh _ (rz y hy)).trans ?_;rw[sv λz=>c z.2]
   ·have y3:y∉s.od.eraseIdx k.toNat:=y3;rw[fg]at y3;rw[ag]at y2;by_cases e:y=x
    ·exact absurd (hgo _ (by rw[go',sk e])) c
    ·exact R.out y y1 y2 (λq=>y3 ⟨q,e⟩) λg hg=>hgo g (by rw[go',sv e];exact hg)
 ·have R2:∀y,0≤y→(s.out k x fu).R y=if y=s.ahead k then Od (s.R (s.ahead k)) ((s.R x).getD 1 0)else s.R y:=λy hy=>Et (ns:=s.ns (s.ahead k) ((s.la.get x).toList++fu)) p2 p3 hy;have er:((0:Int)::s.od).erase x=0::s.od.eraseIdx k.toNat:=by rw[Q4 (by simp;omega),W4 hi]
  show Ai _ ((0:Int)::s.od.eraseIdx k.toNat);rw[←er];refine(Ai.era (nx:=λy=>(s.R y).getD 1 0) px (by omega) ?_ oI pm0 (λy hy hyp=>?_) h.mem).2
  ·show ((s.out k x fu).R (s.ahead k)).getD 1 0=(s.R x).getD 1 0;rw[R2 _ p2,sk rfl];rfl
  ·have y0:0≤y:=by
    rcases B9.mp hy with z | z
    ·omega
    ·have:=w.sV y z;omega
   show ((s.out k x fu).R y).getD 1 0=(s.R y).getD 1 0;rw[R2 _ y0,sv hyp]
def Ey.cv(h:Ey st first bg s){r:List Int}(hR:ni s.b.asked s.b.held p r)(n:Nat):Ey st first bg (s.cv (r.take n)):=by have e1:=iQ (r.take n) s.b;have e2:=(kE (r.take n) s.b).1;refine⟨h.lb.bW hR n,λS hD=>?_,h.mem⟩;have ea:(s.cv (r.take n)).b.asked=s.b.asked:=e1;have eP:(s.cv (r.take n)).P=s.P:=e2;rw[ea]at hD;obtain⟨row,R⟩:=h.rows S hD;exact⟨row,R.rep,R.nd,R.bd,by rw[ea,eP];exact R.pth,R.ins,R.out⟩
end
def Ai.LK:∀{r:List Int} {a:Int},Ai nx (a::r)→∀p∈a::r,nx p=0∨nx p∈r
 | [],a,h,p,hp=>by rw[D2.mp hp];exact .inl h.1
 | b::r,a,h,p,hp=>by
  rcases B9.mp hp with z | z
  ·rw[z]
   exact .inr (by rw[h.1];exact C8)
  ·rcases Ai.LK h.2 p z with y | y
   ·exact .inl y
   ·exact .inr (C6 _ y)
theorem aDU{kf:Int→Int}{b:Int}(hpb:p=0∨kf p<kf b)(oC:nx p≠0→kf b<kf (nx p)):∀{l:List Int},(∀y∈l.tail,y≠0)→p∈l→Ai nx l→l.Pairwise (λx y=>x=0∨kf x<kf y)→(Dd p b l).Pairwise (λx y=>x=0∨kf x<kf y)
 | [],_,h,_,_=>by cases h
 | a::r,ht,hp,⟨h1,h2⟩,hw=>by
  obtain⟨w1,w2⟩:=F6.mp hw;unfold Dd;by_cases c:a=p
  ·subst c
   rw[sk rfl];refine F6.mpr ⟨λy hy=>?_,F6.mpr ⟨λy hy=>?_,w2⟩⟩
   ·rcases B9.mp hy with z | z
    ·rw[z];exact hpb
    ·exact w1 y z
   ·right
    cases r with
    | nil=>cases hy
    | cons y0 r=>
     have e:nx a=y0:=h1;have n0:y0≠0:=ht y0 C8;have q:=oC (by rw[e];exact n0);rw[e]at q;rcases B9.mp hy with z | z
     ·rw[z];exact q
     ·rcases(F6.mp w2).1 y z with y1 | y1
      ·exact absurd y1 n0
      ·exact Int.lt_trans q y1
  ·rw[sv c]
   have hpr:p∈r:=(B9.mp hp).elim (λz=>absurd z.symm c) id;refine F6.mpr ⟨λy hy=>?_,aDU hpb oC (λy hy=>ht y (X5 hy)) hpr h2 w2⟩
   rcases(De hpr).mp hy with z | z
   ·rw[z]
    rcases w1 p hpr with q | q
    ·exact .inl q
    ·rcases hpb with q2 | q2
     ·exact absurd q2 (ht p hpr)
     ·exact .inr (Int.lt_trans q q2)
   ·exact w1 y z
def gU(st:List (List (List Int)))(P:Nat)(cs:List lH)(S:Int→Bool)(x:Int):List Int:=Ag st cs S ((x.toNat%P:Nat):Int) ((x.toNat/P:Nat):Int)
structure Oz(st:List (List (List Int)))(first:List Int)(bg:List Ev)(s:Wb)(ks:List (List Int)):Prop where
 fl:∀S,Dn s.b.asked S→∀p,p=0∨p∈s.od→(∀c,s.co.get p=NR c→S c=NU)→(∀k,s.la.get p=NR k→S k=NU)→(s.R p).getD 1 0≠0→∀c,s.co.get ((s.R p).getD 1 0)=NR c→S c=NU
 ky:∀S,Dn s.b.asked S→∀y∈s.od,(∀c,s.co.get y=NR c→S c=NU)→(gU st s.P s.b.asked S y).getD 0 0=s.key y
 rs:∀S,Dn s.b.asked S→∀row,Row st first bg s S row→((0:Int)::row).Pairwise (λx y=>x=0∨(gU st s.P s.b.asked S x).getD 0 0<(gU st s.P s.b.asked S y).getD 0 0)∧(∀x∈row,(gU st s.P s.b.asked S x).getD 0 0∈ks.getD x.toNat [])∧∀x∈row,qp (gU st s.P s.b.asked S x)
 th:∀k,k<s.n→Kq s.rs.length (at_ s.b.asked k).thing∧∃x:Nat,x<s.rs.length∧(at_ s.b.asked k).bY=((x%s.P:Nat):Int)∧(at_ s.b.asked k).place=((x/s.P:Nat):Int)
 mr:∀x,0≤x→x<(s.rs.length:Int)→Kq s.rs.length (s.R x)
section
variable{st:List (List (List Int))}{first:List Int}
def Ei{x:Int}{r ns:List Int}(h0:0≤x)(hy:0≤y):gU st s.P (s.wr x r ns).b.asked S y=if y=x∧S (s.n:Int)=NU then r else gU st s.P s.b.asked S y:=by
 unfold gU;show Ag st (s.b.asked++[eV s.b ((x.toNat%s.P:Nat):Int) ((x.toNat/s.P:Nat):Int) r ns]) S _ _=_;rw[Zq];by_cases c:y=x∧S (s.n:Int)=NU
 ·rw[sk c,sk ⟨by rw[c.1];exact⟨U,U⟩,c.2⟩];rfl
 ·rw[sv c,sv]
  rintro⟨⟨z1,z2⟩,z3⟩
  have:=Kf (a:=x.toNat) (b:=y.toNat) z1 z2;exact c ⟨by omega,z3⟩
def Ey.aGW(h:Ey st first bg s)(w:mJ s){x:Int}(h0:0≤x)(h1:x<(s.rs.length:Int))(hS:∀k,s.la.get x=NR k→S k=NU):gU st s.P s.b.asked S x=s.R x:=by
 have e:=w.las x.toNat (by omega);rw[show ((x.toNat:Nat):Int)=x by omega]at e;unfold gU Ag;rw[zQ s.b.asked (by rw[←e];exact hS),Wb.R,(w.rcd x.toNat (by omega)).1];unfold face;cases q:lastAt s.b.asked ((x.toNat%s.P:Nat):Int) ((x.toNat/s.P:Nat):Int)with
 | some k=>rfl
 | none=>have v:=h.lb.val (x.toNat%s.P) (x.toNat/s.P);unfold Ag at v;rw[zQ s.b.asked (by rw[q];exact λk z=>nomatch z),q]at v;rw[C7,C7]at v ⊢;show val st _ _=val s.b.bB _ _;rw[v];rfl
def aDV{x:Int}{r ns:List Int}(h:Oz st first bg s ks)(h0:0≤x)(h1:x<(s.rs.length:Int))(hr:Kq s.rs.length r):∀k,k<(s.wr x r ns).n→Kq (s.wr x r ns).rs.length (at_ (s.wr x r ns).b.asked k).thing∧∃y:Nat,y<(s.wr x r ns).rs.length∧(at_ (s.wr x r ns).b.asked k).bY=((y%s.P:Nat):Int)∧(at_ (s.wr x r ns).b.asked k).place=((y/s.P:Nat):Int):=λk hk=>by
 rw[qe]at hk;rw[oR];show Kq _ (at_ (s.b.asked++[eV _ _ _ _ _]) k).thing∧∃y:Nat,_∧(at_ (s.b.asked++[eV _ _ _ _ _]) k).bY=_∧(at_ (s.b.asked++[eV _ _ _ _ _]) k).place=_;rcases G4 k s.n with z | z
 ·rw[gK z];exact h.th k z
 ·have e:k=s.b.asked.length:=x4 (x5.mp hk) z;rw[e,mK];exact⟨hr,x.toNat,by omega,U,U⟩
def aGX{x:Int}{r ns:List Int}(h:Oz st first bg s ks)(h0:0≤x)(h1:x<(s.rs.length:Int))(hr:Kq s.rs.length r):∀y,0≤y→y<((s.wr x r ns).rs.length:Int)→Kq (s.wr x r ns).rs.length ((s.wr x r ns).R y):=λy y0 y1=>by
 rw[oR]at y1 ⊢;rw[Et h0 h1 y0];split
 ·exact hr
 ·exact h.mr y y0 y1
def Row.one{row Ah:List Int}(h:Row st first bg s S row)(e:replay S (0::first) bg=NR (0::Ah)):Ah=row:=by have:=h.rep.symm.trans e;exact(k9 (E6 this)).2.symm
def zq{x:Int}{r ns:List Int}(w:mJ s):(s.wr x r ns).la.get y=if y=x then NR (s.n:Int)else s.la.get y:=Mp.mO w.lao.1 _ _ _
def aDW{r:List Int}(h:Kq m r)(y0:0≤y)(y1:y<(m:Int)):Kq m (Od r y):=by obtain⟨a,b,c,d,e,rfl,h1,h2,h3,h4,h5⟩:=h;exact⟨a,y,c,d,e,U,y0,y1,h3,h4,h5⟩
def Kl{f g:Int→Int}(h:∀x∈l,x≠0→f x=g x)(hn:∀y∈l.tail,y≠0)(hp:l.Pairwise (λx y=>x=0∨g x<g y)):l.Pairwise (λx y=>x=0∨f x<f y):=by
 induction l with
 | nil=>exact .nil
 | cons a r ih=>
  obtain⟨p1,p2⟩:=F6.mp hp;refine F6.mpr ⟨λy hy=>?_,ih (λx hx=>h x (C6 _ hx)) (λy hy=>hn y (X5 hy)) p2⟩;by_cases c:a=0
  ·exact .inl c
  ·rcases p1 y hy with z | z
   ·exact .inl z
   ·right
    rw[h a C8 c,h y (C6 _ hy) (hn y hy)];exact z
def Oz.rw(h:Oz st first bg s ks)(V:Ey st first bg s)(w:mJ s){x:Int}{r:List Int}(hx:x∈s.od)(hr:Kq s.rs.length r)(hk:r.getD 0 0=s.key x)(hn:r.getD 1 0=(s.R x).getD 1 0)(hs:qp r):Oz st first bg (s.wr x r (s.ns x [])) ks:=by
 have xr:=w.sV x hx;have x0:0≤x:=by omega
 have need:∀{S},Dn (s.wr x r (s.ns x [])).b.asked S→S (s.n:Int)=NU→(∀c,s.co.get x=NR c→S c=NU)∧∀k,s.la.get x=NR k→S k=NU:=λ{S} hD hS=>by obtain⟨n1,n2⟩:=vY w x0 xr.2 hD hS;refine⟨λc hc=>n1 c ?_,n2⟩;unfold Wb.ns;rw[hc];exact F5 _ (D2.mpr U)
 have kk:∀y∈s.od,(s.wr x r (s.ns x [])).key y=s.key y:=λy hy=>by
  show ((s.wr x r (s.ns x [])).R y).getD 0 0=_;rw[Et x0 xr.2 (by have:=w.sV y hy;omega)];split
  ·rename_i e;rw[hk,e]
  ·rfl
 refine⟨λS hD p hp hco lP dS c hc=>?_,λS hD y hy hco=>?_,λS hD row Rw=>?_,aDV h x0 xr.2 hr,aGX h x0 xr.2 hr⟩
 ·have Vq:Dn s.b.asked S:=Dn.init (cs:=s.b.asked) hD;have p0:0≤p:=by
   rcases hp with z | z
   ·omega
   ·have:=w.sV p z;omega
  have eR:((s.wr x r (s.ns x [])).R p).getD 1 0=(s.R p).getD 1 0:=by
   rw[Et x0 xr.2 p0];split
   ·rename_i e;rw[hn,e]
   ·rfl
  rw[eR]at dS hc;refine h.fl S Vq p hp hco (λk kG=>?_) dS c hc;by_cases e:p=x
  ·have hS:=lP _ (by rw[zq w,sk e]);rw[e]at kG;exact(need hD hS).2 k kG
  ·exact lP k (by rw[zq w,sv e];exact kG)
 ·rw[kk y hy];show (gU st s.P _ S y).getD 0 0=_;rw[Ei x0 (by have:=w.sV y hy;omega)];split
  ·rename_i q;rw[hk,q.1]
  ·exact h.ky S (Dn.init (cs:=s.b.asked) hD) y hy hco
 ·have Vq:Dn s.b.asked S:=Dn.init (cs:=s.b.asked) hD;obtain⟨aOJ,R0⟩:=V.rows S Vq;have er:=R0.one Rw.rep;subst er;obtain⟨a1,a2,a3⟩:=h.rs S Vq row R0;have r0:∀y∈row,0≤y∧y≠0:=λy hy=>by have:=R0.bd y hy;omega
  have ek:∀y∈row,(gU st s.P (s.wr x r (s.ns x [])).b.asked S y).getD 0 0=(gU st s.P s.b.asked S y).getD 0 0:=λy hy=>by
   rw[Ei x0 (r0 y hy).1];split
   ·rename_i q;rw[hk,q.1,h.ky S Vq x hx (need hD q.2).1]
   ·rfl
  refine⟨Kl (λy hy y0=>ek y ((B9.mp hy).resolve_left y0)) (λy hy=>(r0 y hy).2) a1,λy hy=>by
   show (gU st s.P _ S y).getD 0 0∈_;rw[ek y hy];exact a2 y hy,λy hy=>?_⟩
  show qp (gU st s.P _ S y);rw[Ei x0 (r0 y hy).1];split
  ·exact hs
  ·exact a3 y hy
def Oz.ent(h:Oz st first bg s ks)(V:Ey st first bg s)(w:mJ s)(fT:0<s.lo.length)(hm:s.n<123){key:Int}(h0:0≤k)(h1:k≤(s.od.length:Int))(fit:s.Fits k key)(hw:-1≤aT)(aIV:0≤aS)(hks:s.rs.length≤ks.length):
 Oz st first (bg++[⟨NU,(s.n+1:Nat),s.new,s.ahead k⟩]) (s.ent k key aT aS 0 []) (ks.set s.new.toNat (ks.getD s.new.toNat []++[key])):=by
 obtain⟨b1,b2,b3,b4,b5⟩:=w.new fT;obtain⟨p1,p2,p3⟩:=w.ahead h0 h1;have w1:=w.e1 fT (by omega) k key aT aS 0;have pb:s.ahead k≠s.new:=λz=>by
  rcases p1 with y | y
  ·omega
  ·exact b4 (z▸y)
 have fg:∀x,x∈s.od.take k.toNat++s.new::s.od.drop k.toNat↔x=s.new∨x∈s.od:=λx=>by
  conv=>rhs;rw[←M0 k.toNat s.od]
  simp only[F8,B9];constructor
  ·rintro(z | z | z)
   ·exact .inr (.inl z)
   ·exact .inl z
   ·exact .inr (.inr z)
  ·rintro(z | z | z)
   ·exact .inr (.inl z)
   ·exact .inl z
   ·exact .inr (.inr z)
 have ag:=Ql s k key aT aS 0 [];have en:=aBp s k key aT aS 0;have qA:(s.e1 k key aT aS 0).rs.length=s.rs.length:=oR _ _ _ _;have ko:s.ahead k<((s.e1 k key aT aS 0).rs.length:Int):=by rw[qA];exact p3
 have kR:∀x,(s.ent k key aT aS 0 []).co.get x=if x=s.new then NR ((s.n+1:Nat):Int)else s.co.get x:=λx=>Mp.mO w.coo.1 _ _ _;have sQ:∀x,(s.ent k key aT aS 0 []).la.get x=if x=s.ahead k then NR ((s.n+1:Nat):Int)else if x=s.new then NR (s.n:Int)else s.la.get x:=λx=>by have t1:(s.e1 k key aT aS 0).la.get x=if x=s.new then NR (s.n:Int)else s.la.get x:=zq w;have t2:=zq (s:=s.e1 k key aT aS 0) (x:=s.ahead k) (y:=x) (r:=Od ((s.e1 k key aT aS 0).R (s.ahead k)) s.new) (ns:=(s.e1 k key aT aS 0).ns (s.ahead k) [(s.n:Int)]) w1;rw[en,t1]at t2;exact t2
 have R1p:(s.e1 k key aT aS 0).R (s.ahead k)=s.R (s.ahead k):=(Et (ns:=(s.go.get s.new).toList) b5 b3 p2).trans (sv pb);have R2:∀y,0≤y→(s.ent k key aT aS 0 []).R y=if y=s.ahead k then Od (s.R (s.ahead k)) s.new else if y=s.new then [key,(s.R (s.ahead k)).getD 1 0,aT,aS,0]else s.R y:=λy hy=>by
  show ((s.e1 k key aT aS 0).wr (s.ahead k) (Od ((s.e1 k key aT aS 0).R (s.ahead k)) s.new) ((s.e1 k key aT aS 0).ns (s.ahead k) [(s.n:Int)])).R y=_;rw[Et p2 ko hy,R1p];split
  ·rfl
  ·exact Et (ns:=(s.go.get s.new).toList) b5 b3 hy
 have rX:∀{S:Int→Bool} y,0≤y→gU st s.P (s.ent k key aT aS 0 []).b.asked S y=if y=s.ahead k∧S ((s.n+1:Nat):Int)=NU then Od (s.R (s.ahead k)) s.new else if y=s.new∧S (s.n:Int)=NU then [key,(s.R (s.ahead k)).getD 1 0,aT,aS,0]else gU st s.P s.b.asked S y:=λ{S} y hy=>by have t1:gU st s.P (s.e1 k key aT aS 0).b.asked S y=if y=s.new∧S (s.n:Int)=NU then [key,(s.R (s.ahead k)).getD 1 0,aT,aS,0]else gU st s.P s.b.asked S y:=Ei b5 hy;have t2:=Ei (st:=st) (s:=s.e1 k key aT aS 0) (S:=S) (r:=Od ((s.e1 k key aT aS 0).R (s.ahead k)) s.new) (ns:=(s.e1 k key aT aS 0).ns (s.ahead k) [(s.n:Int)]) p2 hy;rw[en]at t2;exact t2.trans (by rw[R1p,show gU st (s.e1 k key aT aS 0).P (s.e1 k key aT aS 0).b.asked S y=gU st s.P (s.e1 k key aT aS 0).b.asked S y from rfl,t1])
 have IR:Kq s.rs.length (s.R (s.ahead k)):=h.mr _ p2 p3;have ZG:0≤(s.R (s.ahead k)).getD 1 0∧(s.R (s.ahead k)).getD 1 0<(s.rs.length:Int):=by obtain⟨a,b,c,d,e,q,q1,q2,_⟩:=IR;rw[q];exact⟨q1,q2⟩
 have I1:Kq s.rs.length [key,(s.R (s.ahead k)).getD 1 0,aT,aS,0]:=⟨_,_,_,_,_,U,ZG.1,ZG.2,hw,by omega,by decide⟩
 have oI:((0:Int)::s.od).Nodup:=F1.mpr ⟨λz=>by have:=w.sV 0 z;omega,w.Oc⟩;have nxm:∀p,p=0∨p∈s.od→(s.R p).getD 1 0≠s.new:=λp hp e=>by
  rcases V.mem.LK p (hp.elim (λz=>by rw[z];exact C8) λz=>C6 _ z)with z | z
  ·have z:(s.R p).getD 1 0=0:=z
   omega
  ·have z:(s.R p).getD 1 0∈s.od:=z
   exact b4 (e▸z)
 have aDX:∀{S},Dn (s.ent k key aT aS 0 []).b.asked S→S ((s.n+1:Nat):Int)=NU→S (s.n:Int)=NU∧(∀c,s.co.get (s.ahead k)=NR c→S c=NU)∧∀j,s.la.get (s.ahead k)=NR j→S j=NU:=λ{S} hD c=>by
  have qu:=vY (s:=s.e1 k key aT aS 0) (x:=s.ahead k) (r:=Od ((s.e1 k key aT aS 0).R (s.ahead k)) s.new) (ns:=(s.e1 k key aT aS 0).ns (s.ahead k) [(s.n:Int)]) w1 p2 ko hD (by rw[en];exact c);refine⟨qu.1 _ (E5 _ C8),λc0 hc0=>qu.1 _ (F5 _ ?_),λj hj=>qu.2 j ?_⟩
  ·rw[show (s.e1 k key aT aS 0).co.get (s.ahead k)=s.co.get (s.ahead k)from rfl,hc0]
   exact D2.mpr U
  ·show (s.la.put s.new s.n).get (s.ahead k)=NR j
   rw[Mp.mO w.lao.1,sv pb];exact hj
 have aDY:∀{S},Dn (s.ent k key aT aS 0 []).b.asked S→Dn s.b.asked S:=λ{S} hD=>Dn.init (cs:=s.b.asked) (Dn.init (cs:=(s.e1 k key aT aS 0).b.asked) hD);have rN:∀y,0≤y→(s.ent k key aT aS 0 []).key y=if y=s.new then key else s.key y:=λy hy=>by
  show ((s.ent k key aT aS 0 []).R y).getD 0 0=_;rw[R2 y hy];by_cases c:y=s.ahead k
  ·rw[sk c,sv (by rw[c];exact pb),c]
   rfl
  ·rw[sv c]
   by_cases c2:y=s.new
   ·rw[sk c2,sk c2];rfl
   ·rw[sv c2,sv c2];rfl
 refine⟨λS hD p hp hco lP dS c hc=>?_,λS hD y hy hco=>?_,λS hD Ah Rw=>?_,?_,?_⟩
 ·have Vq:=aDY hD
  have hp:p=0∨p∈s.od.take k.toNat++s.new::s.od.drop k.toNat:=hp;rw[fg]at hp;have pz:0≤p:=by
   rcases hp with z | z | z
   ·omega
   ·omega
   ·have:=w.sV p z;omega
  rw[R2 p pz]at dS hc;by_cases q:p=s.ahead k
  ·rw[sk q]at hc
   have hS:=lP _ (by rw[sQ,sk q]);have hc:(s.ent k key aT aS 0 []).co.get s.new=NR c:=hc;rw[kR,sk rfl]at hc;cases hc;exact hS
  ·rw[sv q]at dS hc
   by_cases q2:p=s.new
   ·rw[sk q2]at dS hc
    have hS:=hco _ (by rw[kR,sk q2]);obtain⟨_,n2,n3⟩:=aDX hD hS;have hc:(s.ent k key aT aS 0 []).co.get ((s.R (s.ahead k)).getD 1 0)=NR c:=hc;have dS:(s.R (s.ahead k)).getD 1 0≠0:=dS;rw[kR,sv (nxm _ p1)]at hc;exact h.fl S Vq _ p1 n2 n3 dS c hc
   ·rw[sv q2]at dS hc
    have sR:p=0∨p∈s.od:=hp.imp id λz=>z.resolve_left q2;rw[kR,sv (nxm p sR)]at hc;exact h.fl S Vq p sR (λc0 hc0=>hco c0 (by rw[kR,sv q2];exact hc0)) (λj hj=>lP j (by rw[sQ,sv q,sv q2];exact hj)) dS c hc
 ·have Vq:=aDY hD
  have hy:y∈s.od.take k.toNat++s.new::s.od.drop k.toNat:=hy;rw[fg]at hy;have yz:0≤y:=by
   rcases hy with z | z
   ·omega
   ·have:=w.sV y z;omega
  rw[rN y yz];show (gU st s.P _ S y).getD 0 0=_;rw[rX y yz];by_cases q2:y=s.new
  ·have hS:=hco _ (by rw[kR,sk q2])
   rw[sv λz:y=s.ahead k∧_=>pb (z.1.symm.trans q2),sk ⟨q2,(aDX hD hS).1⟩,sk q2];rfl
  ·have hyo:=hy.resolve_left q2
   rw[sv q2];split
   ·rename_i q
    rw[q.1];rfl
   ·rw[sv λz:y=s.new∧_=>q2 z.1]
    exact h.ky S Vq y hyo λc0 hc0=>hco c0 (by rw[kR,sv q2];exact hc0)
 ·have Vq:=aDY hD
  obtain⟨row,R0⟩:=V.rows S Vq;obtain⟨a1,a2,a3⟩:=h.rs S Vq row R0;have r0:∀y∈row,0≤y∧y≠0:=λy hy=>by have:=R0.bd y hy;omega
  have er:rep1 S (0::row) ⟨NU,(s.n+1:Nat),s.new,s.ahead k⟩=NR (0::Ah):=by have:=Rw.rep;rw[nF,R0.rep,C4]at this;exact this
  have aKK:∀{y:Int} {z:Int},z∈ks.getD y.toNat []→z∈(ks.set s.new.toNat (ks.getD s.new.toNat []++[key])).getD y.toNat []:=λ{y z} hz=>by
   rw[lZ _ _ _ _ _ (by omega)];split
   ·rename_i e
    rw[e];exact F5 _ hz
   ·exact hz
  unfold rep1 at er;by_cases c:S ((s.n+1:Nat):Int)=NU
  ·rw[sk c,sk rfl]at er
   split at er
   ·cases er
   ·rename_i q
    rw[not_or]at q;have bn:=q.1;have pm:s.ahead k∈(0:Int)::row:=Decidable.byContradiction q.2;have e:=E6 er;obtain⟨n1,n2,n3⟩:=aDX hD c;have full:gU st s.P s.b.asked S (s.ahead k)=s.R (s.ahead k):=V.aGW w p2 p3 n3;have nxf:Vl st s.P s.b.asked S (s.ahead k)=(s.R (s.ahead k)).getD 1 0:=V.full w p2 p3 n3;have gN:∀x,x∈(0:Int)::Ah↔x=s.new∨x∈(0:Int)::row:=λx=>by rw[←e];exact De pm
    have qB:∀x∈Ah,x=s.new∨x∈row:=λx hx=>by
     have pk:x≠0:=λz=>(F1.mp Rw.nd).1 (z▸hx)
     rcases(gN x).mp (C6 _ hx)with z | z
     ·exact .inl z
     ·exact .inr ((B9.mp z).resolve_left pk)
    have rb:gU st s.P (s.ent k key aT aS 0 []).b.asked S s.new=[key,(s.R (s.ahead k)).getD 1 0,aT,aS,0]:=by rw[rX _ b5,sv λz:s.new=s.ahead k∧_=>pb z.1.symm,sk ⟨U,n1⟩]
    have rp:∀y∈(0:Int)::row,0≤y→gU st s.P (s.ent k key aT aS 0 []).b.asked S y=if y=s.ahead k then Od (s.R (s.ahead k)) s.new else gU st s.P s.b.asked S y:=λy hy yz=>by
     rw[rX y yz];by_cases q:y=s.ahead k
     ·rw[sk ⟨q,c⟩,sk q]
     ·rw[sv λz:y=s.ahead k∧_=>q z.1,sv λz:y=s.new∧_=>bn (z.1▸hy),sv q]
    have ek:∀y∈row,(gU st s.P (s.ent k key aT aS 0 []).b.asked S y).getD 0 0=(gU st s.P s.b.asked S y).getD 0 0:=λy hy=>by
     rw[rp y (C6 _ hy) (r0 y hy).1];split
     ·rename_i q
      rw[q,full];rfl
     ·rfl
    refine⟨?_,λx hx=>?_,λx hx=>?_⟩
    ·rw[←e]
     refine aDU (nx:=Vl st s.P s.b.asked S) (kf:=λx=>(gU st s.P (s.ent k key aT aS 0 []).b.asked S x).getD 0 0) ?_ ?_ (λy hy=>(r0 y hy).2) pm R0.pth (Kl (λy hy y0=>ek y ((B9.mp hy).resolve_left y0)) (λy hy=>(r0 y hy).2) a1)
     ·rcases p1 with z | z
      ·exact .inl z
      ·right
       show (gU st s.P _ S (s.ahead k)).getD 0 0<(gU st s.P _ S s.new).getD 0 0;rw[rb,rp _ pm p2,sk rfl];show s.key (s.ahead k)<key;have hk0:0<k.toNat:=m9 λy=>by
        have e0:s.ahead k=0:=by unfold Wb.ahead;rw[y];rfl
        have:=w.sV _ z;omega
       refine fit.1 _ (D6 (i:=k.toNat-1) ?_);rw[U6,sk (by omega)];have gk:((0:Int)::s.od)[k.toNat]?=NR (s.ahead k):=dU (d:=0) (by rw[E3];omega);rw[show k.toNat=(k.toNat-1)+1 by omega,R5]at gk;exact gk
     ·intro dS
      rw[nxf]at dS ⊢;have hmo:(s.R (s.ahead k)).getD 1 0∈s.od:=by
       rcases V.mem.LK (s.ahead k) (p1.elim (λz=>by rw[z];exact C8) λz=>C6 _ z)with z | z
       ·exact absurd z dS
       ·exact z
      have aKL:(s.R (s.ahead k)).getD 1 0∈row:=by
       rcases R0.pth.LK _ pm with z | z
       ·rw[nxf]at z
        exact absurd z dS
       ·rw[nxf]at z
        exact z
      show (gU st s.P _ S s.new).getD 0 0<(gU st s.P _ S ((s.R (s.ahead k)).getD 1 0)).getD 0 0;rw[rb,ek _ aKL,h.ky S Vq _ hmo (h.fl S Vq _ p1 n2 n3 dS)];show key<s.key _;refine fit.2 _ ?_;have gn:=V.mem.get k.toNat (by omega);have gn:(s.R (s.ahead k)).getD 1 0=(s.od++[0]).getD k.toNat 0:=gn;have kl:k.toNat<s.od.length:=by refine Decidable.byContradiction λz=>dS ?_;rw[gn,B7,show k.toNat=s.od.length by omega,J7 (C9 _),S5];rfl
      rw[gn,B7,F9 kl,B6 kl];exact D6 (i:=0) (by rw[U3,Nat.add_zero,B6 kl];rfl)
    ·show (gU st s.P _ S x).getD 0 0∈_
     rcases qB x hx with z | z
     ·rw[z,rb,lZ _ _ _ _ _ (by omega),sk rfl]
      exact E5 _ (D2.mpr U)
     ·rw[ek x z]
      exact aKK (a2 x z)
    ·show qp (gU st s.P _ S x)
     rcases qB x hx with z | z
     ·rw[z,rb]
      exact λ_=>aIV
     ·rw[rp x (C6 _ z) (r0 x z).1]
      split
      ·rename_i q
       have:=a3 x z;rw[q,full]at this;exact this
      ·exact a3 x z
  ·rw[sv c]at er
   have e:row=Ah:=(k9 (E6 er)).2;subst e;have fil:S (s.n:Int)=NU→s.new∉row:=λhS=>R0.out s.new b2 b3 b4 λg hg=>(vY (s:=s) (x:=s.new) (r:=[key,(s.R (s.ahead k)).getD 1 0,aT,aS,0]) (ns:=(s.go.get s.new).toList) w b5 b3 (Dn.init (cs:=(s.e1 k key aT aS 0).b.asked) hD) hS).1 g (by rw[hg];exact D2.mpr U);have ek:∀y∈row,gU st s.P (s.ent k key aT aS 0 []).b.asked S y=gU st s.P s.b.asked S y:=λy hy=>by
    rw[rX y (r0 y hy).1,sv λz:y=s.ahead k∧_=>c z.2,sv]
    rintro⟨z1,z2⟩
    exact fil z2 (z1▸hy)
   refine⟨Kl (λy hy y0=>by rw[show gU st (s.ent k key aT aS 0 []).P (s.ent k key aT aS 0 []).b.asked S y=_ from ek y ((B9.mp hy).resolve_left y0)]) (λy hy=>(r0 y hy).2) a1,λx hx=>?_,λx hx=>?_⟩
   ·show (gU st s.P _ S x).getD 0 0∈_
    rw[ek x hx];exact aKK (a2 x hx)
   ·show qp (gU st s.P _ S x)
    rw[ek x hx];exact a3 x hx
 ·intro j hj
  have hj:j<(s.ent k key aT aS 0 []).n:=hj;rw[aDC]at hj;rw[ag];show Kq _ (at_ ((s.e1 k key aT aS 0).b.asked++[eV _ _ _ _ _]) j).thing∧∃y:Nat,_∧(at_ ((s.e1 k key aT aS 0).b.asked++[eV _ _ _ _ _]) j).bY=_∧(at_ ((s.e1 k key aT aS 0).b.asked++[eV _ _ _ _ _]) j).place=_;have t1:=aDV (ns:=(s.go.get s.new).toList) h b5 b3 I1;rw[oR,qe]at t1;rcases G4 j (s.n+1)with z | z
  ·rw[gK (show j<(s.e1 k key aT aS 0).b.asked.length by have:(s.e1 k key aT aS 0).b.asked.length=s.n+1:=en;omega)]
   exact t1 j z
  ·have e:j=(s.e1 k key aT aS 0).b.asked.length:=by have:(s.e1 k key aT aS 0).b.asked.length=s.n+1:=en;omega
   rw[e,mK];refine⟨?_,(s.ahead k).toNat,by omega,U,U⟩;show Kq _ (Od ((s.e1 k key aT aS 0).R (s.ahead k)) s.new);rw[R1p];exact aDW IR b5 b3
 ·intro y y0 y1
  rw[ag]at y1 ⊢;rw[R2 y y0];split
  ·exact aDW IR b5 b3
  ·split
   ·exact I1
   ·exact h.mr y y0 y1
def Oz.out(h:Oz st first bg s ks)(V:Ey st first bg s)(w:mJ s)(hm:s.n<124){x:Int}(h0:0≤k)(h1:k<(s.od.length:Int))(hx:s.od[k.toNat]?=NR x):Oz st first (bg++[⟨NV,(s.n:Int),x,0⟩]) (s.out k x []) ks:=by
 obtain⟨p1,p2,p3⟩:=w.ahead h0 (M3 h1);have xm:x∈s.od:=D6 hx;have xr:=w.sV x xm;have hi:=Vd w.Oc hx;have ag:=Qm s k x [];have px:(s.R (s.ahead k)).getD 1 0=x:=by have:=V.mem.get k.toNat (by omega);rw[B7 (l:=s.od++[0]),F9 (by omega),hx]at this;exact this
 have fg:∀y,y∈s.od.eraseIdx k.toNat↔y∈s.od∧y≠x:=λy=>by rw[←hi];exact Eg w.Oc
 have sQ:∀y,(s.out k x []).la.get y=if y=s.ahead k then NR (s.n:Int)else s.la.get y:=λy=>Mp.mO w.lao.1 _ _ _;have R2:∀y,0≤y→(s.out k x []).R y=if y=s.ahead k then Od (s.R (s.ahead k)) ((s.R x).getD 1 0)else s.R y:=λy hy=>Et (ns:=s.ns (s.ahead k) ((s.la.get x).toList++[])) p2 p3 hy;have rX:∀{S:Int→Bool} y,0≤y→gU st s.P (s.out k x []).b.asked S y=if y=s.ahead k∧S (s.n:Int)=NU then Od (s.R (s.ahead k)) ((s.R x).getD 1 0)else gU st s.P s.b.asked S y:=λ{S} y hy=>Ei p2 hy;have need:∀{S},Dn (s.out k x []).b.asked S→S (s.n:Int)=NU→(∀c,s.co.get (s.ahead k)=NR c→S c=NU)∧(∀j,s.la.get (s.ahead k)=NR j→S j=NU)∧∀j,s.la.get x=NR j→S j=NU:=λ{S} hD c=>by have qu:=vY (s:=s) (x:=s.ahead k) (r:=Od (s.R (s.ahead k)) ((s.R x).getD 1 0)) (ns:=s.ns (s.ahead k) ((s.la.get x).toList++[])) w p2 p3 hD c;refine⟨λc0 hc0=>qu.1 _ (F5 _ ?_),qu.2,λj hj=>qu.1 _ (E5 _ (F5 _ (by rw[hj];exact D2.mpr U)))⟩;rw[hc0];exact D2.mpr U
 have aDZ:∀{S},Dn (s.out k x []).b.asked S→Dn s.b.asked S:=λ{S} hD=>Dn.init (cs:=s.b.asked) hD;have IR:Kq s.rs.length (s.R (s.ahead k)):=h.mr _ p2 p3;have ZG:0≤(s.R x).getD 1 0∧(s.R x).getD 1 0<(s.rs.length:Int):=by obtain⟨a,b,c,d,e,q,q1,q2,_⟩:=h.mr x (by omega) xr.2;rw[q];exact⟨q1,q2⟩
 have I1:=aDW IR ZG.1 ZG.2;have rN:∀y,0≤y→(s.out k x []).key y=s.key y:=λy hy=>by
  show ((s.out k x []).R y).getD 0 0=_;rw[R2 y hy];split
  ·rename_i e;rw[e];rfl
  ·rfl
 refine⟨λS hD p hp hco lP dS c hc=>?_,λS hD y hy hco=>?_,λS hD Ah Rw=>?_,?_,?_⟩
 ·have Vq:=aDZ hD;have sR:p=0∨p∈s.od:=hp.imp id λz=>((fg p).mp z).1;have pz:0≤p:=by
   rcases sR with z | z
   ·omega
   ·have:=w.sV p z;omega
  have hc:s.co.get (((s.out k x []).R p).getD 1 0)=NR c:=hc;rw[R2 p pz]at dS hc;by_cases q:p=s.ahead k
  ·rw[sk q]at dS hc;have hS:=lP _ (by rw[sQ,sk q]);obtain⟨n1,n2,n3⟩:=need hD hS;have cx:=h.fl S Vq _ p1 n1 n2 (by rw[px];omega);rw[px]at cx;have hc:s.co.get ((s.R x).getD 1 0)=NR c:=hc;have dS:(s.R x).getD 1 0≠0:=dS;exact h.fl S Vq x (.inr xm) cx n3 dS c hc
  ·rw[sv q]at dS hc;exact h.fl S Vq p sR hco (λj hj=>lP j (by rw[sQ,sv q];exact hj)) dS c hc
 ·have hy:y∈s.od.eraseIdx k.toNat:=hy;have hyo:=((fg y).mp hy).1;have yz:0≤y:=by have:=w.sV y hyo;omega
  rw[rN y yz];show (gU st s.P _ S y).getD 0 0=_;rw[rX y yz];split
  ·rename_i q;rw[q.1];rfl
  ·exact h.ky S (aDZ hD) y hyo hco
 ·have Vq:=aDZ hD;obtain⟨row,R0⟩:=V.rows S Vq;obtain⟨a1,a2,a3⟩:=h.rs S Vq row R0;have r0:∀y∈row,0≤y∧y≠0:=λy hy=>by have:=R0.bd y hy;omega
  have er:rep1 S (0::row) ⟨NV,(s.n:Int),x,0⟩=NR (0::Ah):=by have:=Rw.rep;rw[nF,R0.rep,C4]at this;exact this
  unfold rep1 at er;have sub:((0:Int)::Ah).Sublist (0::row):=by
   by_cases c:S (s.n:Int)=NU
   ·rw[sk c,sv E8]at er;split at er
    ·cases er
    ·rw[←E6 er];exact n9
   ·rw[sv c]at er;rw[←E6 er];exact List.Sublist.refl _
  have eI:∀y∈Ah,y∈row:=λy hy=>by have hy0:y≠0:=λz=>(F1.mp Rw.nd).1 (z▸hy);exact(B9.mp (sub.subset (C6 _ hy))).resolve_left hy0
  have ek:∀y∈row,gU st s.P (s.out k x []).b.asked S y=if y=s.ahead k∧S (s.n:Int)=NU then Od (gU st s.P s.b.asked S y) ((s.R x).getD 1 0)else gU st s.P s.b.asked S y:=λy hy=>by
   rw[rX y (r0 y hy).1];split
   ·rename_i q;rw[q.1,V.aGW w p2 p3 (need hD q.2).2.1]
   ·rfl
  have ekk:∀y∈row,(gU st s.P (s.out k x []).b.asked S y).getD 0 0=(gU st s.P s.b.asked S y).getD 0 0:=λy hy=>by
   rw[ek y hy]
   split<;>rfl
  refine⟨Kl (λy hy y0=>ekk y (eI y ((B9.mp hy).resolve_left y0))) (λy hy=>(r0 y (eI y hy)).2) (a1.sublist sub),λy hy=>?_,λy hy=>?_⟩
  ·show (gU st s.P _ S y).getD 0 0∈_;rw[ekk y (eI y hy)];exact a2 y (eI y hy)
  ·show qp (gU st s.P _ S y);rw[ek y (eI y hy)];split
   ·exact a3 y (eI y hy)
   ·exact a3 y (eI y hy)
 ·have t1:=aDV (ns:=s.ns (s.ahead k) ((s.la.get x).toList++[])) h p2 p3 I1;exact t1
 ·exact aGX (ns:=s.ns (s.ahead k) ((s.la.get x).toList++[])) h p2 p3 I1
def Oz.cv(h:Oz st first bg s ks)(r:List Int):Oz st first bg (s.cv r) ks:=by have ea:(s.cv r).b.asked=s.b.asked:=iQ r s.b;have eP:(s.cv r).P=s.P:=(kE r s.b).1;have en:(s.cv r).n=s.n:=congrArg f7 ea;refine⟨by rw[ea];exact h.fl,by rw[ea,eP];exact h.ky,λS hD row Rw=>?_,by rw[ea,eP,en];exact h.th,h.mr⟩;rw[ea]at hD;rw[ea,eP];exact h.rs S hD row ⟨Rw.rep,Rw.nd,Rw.bd,by have:=Rw.pth;rw[ea,eP]at this;exact this,Rw.ins,Rw.out⟩
end
def zu{f1 f2 f3:FE}{b c:Int}(h1:f1 e=NR (.int a))(h2:f2 e=NR (.int b))(h3:f3 e=NR (.int c)):We QH QH f1 f2 f3 e=NR (decide (a≤b)&&decide (b≤c)):=by
 unfold We;rw[h1,h2,h3];dsimp only[C4];rw[Dv,C4];by_cases q:a≤b
 ·rw[tf q];dsimp only;rw[Dv];rfl
 ·rw[tj q];rfl
def aFY{f1 f2 f3:FE}{b c:Int}(h1:f1 e=NR (.int a))(h2:f2 e=NR (.int b))(h3:f3 e=NR (.int c)):jk QH QH f1 f2 f3 e=NR (.bl (decide (a≤b)&&decide (b≤c))):=by unfold jk;rw[zu h1 h2 h3];rfl
def aFZ{f1 f2 f3:FE}{b c:Int}(h1:f1 e=NR (.int a))(h2:f2 e=NR (.int b))(h3:f3 e=NR (.int c)):jk QH gw f1 f2 f3 e=NR (.bl (decide (a≤b)&&decide (b<c))):=by unfold jk;rw[Qj h1 h2 h3];rfl
def aF0{s:List (List (List Int))}{R:Nat}(hl:1≤s.length)(h8:s.length≤8)(hR1:1≤R)(hR:R≤8)(h:∀q∈s,q.length=R+1):Jr [bJ s]=NR (.bl NU):=by
 suffices hh:∃d,Jr [bJ s]=NR d∧d=.bl NU by obtain⟨d,h1,rfl⟩:=hh;exact h1
 refine oM U ?_;unfold zb;have e0:s[0]?=NR s[0]:=B6 hl;have l0:=h _ (L0 hl);have ix0:=xU e0;refine wY (b:=NV) ((Yl (pZ (b:=NU) (cB (Dy U U)))).trans ((pZ (zu (a:=1) (b:=s.length) (c:=8) U (cV (aA U U) (xV s)) U)).trans ?_)) U (yS ?_)
 ·rw[tf (show (1:Int)≤s.length by omega),tf (show (s.length:Int)≤8 by omega)];rfl
 have ko:eE (kO (aD 0)) [] gP (Sx "list" (aD 0)) (rE [.fro (bJ s)])=NR (.lst (s.map λq=>D.bl ((λ_=>NU) q))):=
  mC (xs:=s) (ψ:=eN) (φ:=λ_=>D.bl NU) (gD U) (by omega) λq _=>Dy U U
 refine wY (pZ (cB (cV (aA ko U) (Jg (λ_=>NU) s)))) (by simp) (yS ?_);have nB:eE (kO (aD 0)) [0] gP (f2 Fv (fL gZ (aB (aD 0) aL)) (fL gZ (aB (f2 cW (aD 1) (fC (.int 0))) aL))) (rE [.fro (bJ s)])=NR (.lst (s.map λq=>D.bl ((λ_=>NU) q))):=by refine mC (xs:=s) (ψ:=eN) (φ:=λ_=>D.bl NU) (gD U) (by omega) λq hq=>?_;refine(aJ (cV (aA U U) (rQ q)) (cV (aA (aJ U U ix0) U) (rQ _)) (kZ _ _)).trans ?_;rw[tf (by rw[h q hq,l0])]
 refine pL (UT (aFY (a:=2) (c:=9) U (cV (aA (aJ U U ix0) U) (rQ _)) U) (cV (aA nB U) (Jg (λ_=>NU) s))) ⟨_,U,?_⟩;rw[l0,tf (show (2:Int)≤((R+1:Nat):Int) by omega),tf (show ((R+1:Nat):Int)≤9 by omega)];simp
def qw(n:Int):By [.int n]=NR (.bl NU):=lW U (gB (tL (Dy U U) (aC9 (b:=NV) (Dy U U))))
def Qn{α:Type}(l:List α):Sg [.lst (l.map λ_=>D.bl NU)]=NR (.bl NU):=(Jg (λ_=>NU) l).trans (by simp)
def Oh{n:Int}(h:t.length≤1000)(hn:n=t.length):uC [dTup t,.int n]=NR (.bl NU):=by
 have hc:eE (kO (aD 0)) [] gP (cJ 1 By (aB (aD 0) aL)) (rE [.fro (dTup t),.fro (.int n)])=NR (.lst (t.map λ_=>D.bl NU)):=
  mC (xs:=t) (ψ:=D.int) (φ:=λ_=>D.bl NU) (UW U) h λq _=>bM (aA U U) U (qw q)
 refine lW U (gB (tL (Dy U U) (tL ?_ (cV (aA hc U) (Qn t)))));refine(aJ (b:=.int n) (cV (aA (a:=dTup t) U U) (Tu _)) U (kZ _ _)).trans ?_;rw[B8,hn,tf rfl]
def aBv{x:Int}(h:0≤x):Qk [dTup [x]]=NR (.bl NU):=
 lW U (gB (tL (bM (aA U (aA U U)) U (Oh (t:=[x]) (O2 U) U)) ((aJ (aJ U U U) U (yP x 0)).trans (by rw[tf h]))))
def aD0{r:List Int}(h:Kq m r):uD [dTup r,.int m]=NR (.bl NU):=by
 obtain⟨a,b,c,d,e,rfl,h1,h2,h3,h4,h5⟩:=h
 suffices hh:∃y,uD [dTup [a,b,c,d,e],.int m]=NR y∧y=.bl NU by obtain⟨y,h1,rfl⟩:=hh;exact h1
 refine oM U ?_;unfold Zc;refine wY (b:=NV) (pZ (b:=NU) (cB (bM (aA U (aA U U)) U (Oh (t:=[a,b,c,d,e]) (n:=5) (O2 U) U)))) U (yS ?_);refine pL (d:=.bl NU) (tL ((aFZ (a:=0) (b:=b) (c:=m) U U U).trans ?_) (tL ((aJ U U (yP c (-1))).trans ?_) (tL ((aJ U U (yP d (-1))).trans ?_) ((aJ U U (yP e 0)).trans ?_)))) ⟨_,U,U⟩
 ·rw[tf h1,tf h2];rfl
 ·rw[tf h3]
 ·rw[tf h4]
 ·rw[tf h5]
def aF1{q:List (List Int)}{x:Int}(hq:∀t∈q,Kq m t)(hx:0≤x)(hl:q.length≤8):rJ [eN (q++[[x]]),.int m]=NR (.bl NU):=by
 have ep:(q++[[x]]).map dTup=q.map dTup++[dTup [x]]:=J6;have hc:eE (kO (ao NV (aD 0) (Bc) (mV (yM (fC (.int 1)))))) [1] gP (cJ 2 uD (aB (aD 0) (aB (aD 1) aL))) (rE [.fro (eN (q++[[x]])),.fro (.int m)])=NR (.lst (q.map λ_=>D.bl NU)):=by refine mC (xs:=q) (ψ:=dTup) (φ:=λ_=>D.bl NU) (gD ((jq (lo:=sx) (hi:=NR (-1)) U U (wZ (qC U)) (.inl U)).trans ?_)) (by omega) λt ht=>bM (aA U (aA U U)) U (aD0 (hq t ht));rw[VG,ep,List.dropLast_concat]
 refine lW U (gB (tL (bM (aA (aJ (b:=.int (-1)) U (qC U) (GX (x:=dTup [x]) ?_)) U) U (aBv hx)) (cV (aA hc U) (Qn q))));rw[ep,S9]
def aI2{α:Type}(l:List α):aE1 [.lst (l.map λ_=>D.bl NV)]=NR (.bl NV):=by show (zT (l.map λx=>D.bl ((λ_=>NV) x))).map _=_;rw[Ld];show NR (D.bl ((l.map λ_=>NV).any id))=_;rw[List.any_map];simp
theorem Vm{c:D→D→Option Bool}{el:D→D→Option D}:∀{xs:List (D×D)},(∀p∈xs,c p.1 p.2=NR NU)→(∀p∈xs,el p.1 p.2=NR (.bl NU))→Bj c el xs=NR (xs.map λ_=>.bl NU)
 | [],_,_=>rfl
 | (x,y)::r,h1,h2=>by unfold Bj;rw[h1 (x,y) C8,C4,sk U,h2 (x,y) C8,C4,Vm (λp hp=>h1 p (C6 _ hp)) λp hp=>h2 p (C6 _ hp)];rfl
def aF2{α:Type}(l:List α):wC l (NR 1) sx=l.drop 1:=by
 cases l with
 | nil=>rfl
 | cons a r=>exact aIB (c:=1) (by simp)
section
variable{P R:Nat}{rs:List (List Int)}{od:List Int}
def Built.aBo(h:Built P R rs od):od.length≤64:=by
 have:=nM (P*R) od h.Oc λx hx=>by have:=h.sV x hx;omega
 have:P*R≤8*8:=Q6 h.p8 h.r8;omega
def qy(B:Cz P R rs aQ od):nA [bJ (aU P R rs aQ)]=NR (.bl NU):=by
 suffices hh:∃y,nA [bJ (aU P R rs aQ)]=NR y∧y=.bl NU by obtain⟨y,h1,rfl⟩:=hh;exact h1
 have b:=B.b;have o64:=b.aBo;have lj:0<P*R:=T2 b.p1 b.r1;refine oM U ?_;unfold Bw;refine cD (d:=aN od) (bM (aA U U) U (Ng b.p1 b.p8 b.r1 b.chain b.sV b.Oc o64)) (by walk_at "n") ?_;obtain⟨key,aT,aS,gF,e⟩:=b.chain od.length (C9 _);have hy:(0:Int)≤([0]++od).getD od.length 0∧([0]++od).getD od.length 0<((P*R:Nat):Int):=by
  have:=getD_mem (l:=[0]++od) (k:=od.length) (by simp);rcases B9.mp this with z | z
  ·rw[z];omega
  ·have:=b.sV _ z;omega
 have e0:(od++[0]).getD od.length 0=0:=by rw[B7,J7 (C9 _),S5];rfl
 have aD1:cW (aN ([0]++od)) (.int (-1))=NR (.int (([0]++od).getD od.length 0)):=GX (by
  rw[Y8,U0,show ([(0:Int)]++od).length-1=od.length by simp,dU (d:=(0:Int)) (by simp)]
  rfl)
 refine wY (b:=NV) ((cB (aJ (aJ (bM (aA U (aA (aJ (aJ (a:=aN [0]) (iD (aA U U) (by decide)) U (aIR od (by omega))) (qC U) aD1) U)) U (Vg b.p1 b.p8 hy.1 hy.2 e)) U U) U (Dw _ _))).trans (by rw[e0,tf rfl];rfl)) U (yS ?_);have hU:∀x∈od,∃a b c d e:Int,rs.getD x.toNat []=[a,b,c,d,e]∧(e=0→0≤d):=λx hx=>by have x1:=b.sV x hx;obtain⟨a,b,c,d,e,q,_⟩:=B.rec_ x.toNat (by omega);have:=B.snd x hx;rw[q]at this;exact⟨a,b,c,d,e,q,this⟩
 have ke:∀x∈od,rs[x.toNat]?=NR (rs.getD x.toNat []):=λx hx=>by have x1:=b.sV x hx;exact dU (by rw[b.len];omega)
 refine cD (d:=.lst (od.map λx=>dTup (rs.getD x.toNat []))) (mC (xs:=od) (ψ:=D.int) (φ:=λx=>dTup (rs.getD x.toNat [])) (gD U) (by omega) λx hx=>by
  have x1:=b.sV x hx;exact bM (aA U (aA U U)) U (Vg b.p1 b.p8 (by omega) x1.2 (ke x hx))) (by walk_at "n") ?_
 have ko:eE (kO (aD 2)) [] gP (qL (f2 Fv (f2 cW (aD 0) (fC (.int (4)))) (fC (.int 0))) (f2 Fv (f2 cW (aD 0) (fC (.int (3)))) (fC (.int (-1))))) (rE [.fro (bJ (aU P R rs aQ)),.own (aN od),.own (.lst (od.map λx=>dTup (rs.getD x.toNat [])))])=NR (.lst (od.map λ_=>D.bl NV)):=by
  refine mC (xs:=od) (ψ:=λx=>dTup (rs.getD x.toNat [])) (φ:=λ_=>D.bl NV) (gD U) (by omega) λx hx=>?_;obtain⟨a,b,c,d,e,q,q2⟩:=hU x hx;rw[q];refine(UT (aJ U U (kZ e 0)) (aJ U U (kZ d (-1)))).trans ?_;by_cases z:e=0
  ·rw[tj (show ¬d=-1 by have:=q2 z;omega),i5]
  ·rw[tj z,x9]
 refine wY (b:=NV) (cB (cV (aA ko U) (aI2 od))) U (yS ?_);have hz:Lp (aD 2) (ao NV (aD 2) (mV (fC (.int 1))) (Bc)) [] gP (f2 gw (f2 cW (aD 0) (fC (.int (0)))) (f2 cW (aD 1) (fC (.int (0))))) (rE [.fro (bJ (aU P R rs aQ)),.own (aN od),.own (.lst (od.map λx=>dTup (rs.getD x.toNat [])))])=NR (.lst (((od.map λx=>dTup (rs.getD x.toNat [])).zip ((od.map λx=>dTup (rs.getD x.toNat [])).drop 1)).map λ_=>.bl NU)):=by
  have hs:=jq (b:=NV) (f:=aD 2) (l:=mV (fC (.int 1))) (h:=Bc) (e:=rE [.fro (bJ (aU P R rs aQ)),.own (aN od),.own (.lst (od.map λx=>dTup (rs.getD x.toNat [])))]) (lo:=NR 1) (hi:=sx) (ds:=od.map λx=>dTup (rs.getD x.toNat [])) U (wZ U) U (.inl U);rw[aF2]at hs;unfold Lp;rw[show aD 2 (rE [.fro (bJ (aU P R rs aQ)),.own (aN od),.own (.lst (od.map λx=>dTup (rs.getD x.toNat [])))])=NR (.lst (od.map λx=>dTup (rs.getD x.toNat [])))from rfl,C4,hs,C4];dsimp only;rw[sk (by rw[B8];omega),Vm (λ_ _=>rfl) λp hp=>?_]
  ·rfl
  obtain⟨i,hi,ei⟩:=G6 hp;rw[T9,O1,B8]at hi;have oj:i<od.length:=by omega
  have hi1:i+1<od.length:=by omega
  rw[t7,a7,p6,a7]at ei;have e2:od[1+i]=od[i+1]:=by congr 1;omega
  have hk:=J8.mp b.key i (i+1) oj hi1 (by omega);obtain⟨a1,a2,a3,a4,a5,q1,_⟩:=hU od[i] (L0 oj);obtain⟨c1,c2,c3,c4,c5,q2,_⟩:=hU od[i+1] (L0 hi1);rw[←ei];dsimp only;rw[e2,q1,q2];rw[q1,q2]at hk;exact(aJ U U (vI a1 c1)).trans (by rw[tf (show a1<c1 from hk)])
 exact pL (cV (aA hz U) (Qn _)) ⟨_,U,U⟩
def aD2(B:Cz P R rs aQ od):xM [bJ (aU P R rs aQ)]=NR (.bl NU):=by
 suffices hh:∃y,xM [bJ (aU P R rs aQ)]=NR y∧y=.bl NU by obtain⟨y,h1,rfl⟩:=hh;exact h1
 have b:=B.b;have hl:=pI P R rs aQ;have p1:=b.p1;have p8:=b.p8;refine oM U ?_;unfold WQ;refine wY (b:=NV) (pZ (b:=NU) (cB (bM (aA U U) U (aF0 (R:=R) (by omega) (by omega) b.r1 b.r8 λq hq=>Kh hq)))) U (yS ?_);refine cD (d:=.int (P*R:Nat)) (bM (aA U U) U (zm p1 p8)) (by walk_at "n") ?_;have hc:eE (kO (aD 0)) [1] gP (cJ 2 rJ (aB (aD 0) (aB (aD 1) aL))) (rE [.fro (bJ (aU P R rs aQ)),.own (.int (P*R:Nat))])=NR (.lst ((aU P R rs aQ).map λ_=>D.bl NU)):=by refine mC (xs:=aU P R rs aQ) (ψ:=eN) (φ:=λ_=>D.bl NU) (gD U) (by omega) λq hq=>?_;unfold aU at hq;obtain⟨p,hp,rfl⟩:=J4.mp hq;have hp:=F7.mp hp;refine bM (aA U (aA U U)) U (aF1 (λt ht=>?_) (B.sel p hp) (by rw[B8,E1];exact b.r8));obtain⟨r,hr,rfl⟩:=J4.mp ht;exact B.rec_ _ (KR hp (F7.mp hr))
 exact pL (tL (cV (aA hc U) (Qn _)) (bM (aA U U) U (qy B))) ⟨_,U,U⟩
end
def aF3(a b:Str):Fv (.str a) (.str b)=NR (.bl (a==b)):=by unfold Fv;show (if aAk (V.str a) (V.str b)=NU then _ else _)=_;rw[show aAk (V.str a) (V.str b)=NU from rfl,sk U,BK]
def aKM:(("in":Str)==("in":Str))=NU:=by simp
def aI3:(("out":Str)==("in":Str))=NV:=by decide +kernel
def qz(e:Ev):D:=.tup [.str (if e.i=NU then "in" else "out"),.int e.n,.int e.b,.int e.a]
def aF4{is:List Nat}{g:GS}{ds xs:List D}{env:EN}(hl:is.length=ds.length∧is.all (λi=>decide (i<env.length))=NU)(h:g (Gg env is ds)=.next aI):Wi is g (.tup ds::xs) env=Wi is g xs aI:=by
 show (if is.length=ds.length∧is.all (λi=>decide (i<env.length))=NU then(match g (Gg env is ds)with
  | .next aI=>Wi is g xs aI
  | .cont aI=>Wi is g xs aI
  | .brk aI=>.next aI
  | r=>r)else .bad)=_
 rw[sk hl,h]
def aF5{x:Int}(h:x∈l):Bh (aN l) (.int x)=NR (.int (l.idxOf x:Nat)):=by unfold Bh aN;dsimp only;rw[lM,C4,sk h]
def aF6{ps:List (List (List Int))}{row:List Int}{m R:Nat}(hP:0<ps.length)(lT:ps.length≤8)(hm:m=ps.length*R)(hR8:R≤8)(hR:(ps.getD 0 []).length=R+1)(hv:∀k,k<m→2≤(val ps (k%ps.length) (k/ps.length)).length)(nd:((0:Int)::row).Nodup)(bd:∀x∈row,1≤x∧x<(m:Int))(lj:0<m)
 (hp:Ai (λx=>(val ps (x.toNat%ps.length) (x.toNat/ps.length)).getD 1 0) (0::row)):vN [jM ps]=NR (aN row):=by
 suffices hh:∃d,vN [jM ps]=NR d∧d=aN row by obtain⟨d,e,rfl⟩:=hh;exact e
 have hrl:row.length<m:=by
  have:=nM m (0::row) nd λx hx=>by
   rcases B9.mp hx with z | z
   ·omega
   ·have:=bd x z;omega
  rw[E3]at this;omega
 have sM:m≤64:=by rw[hm];exact Q6 lT hR8
 have hPR:(ps.length:Int)*((((ps.getD 0 []).length:Nat):Int)-1)=(m:Int):=by rw[hR,hm,U1];congr 1;omega
 have gv:∀{env:EN} {f:FE} {x:Int},(rE env)[0]?=NR (NR (jM ps))→f (rE env)=NR (.int x)→0≤x→x<(m:Int)→f2 cW (f2 cW (f2 cW (aD 0) (f2 gH f (fL gZ (aB (aD 0) aL)))) (f2 rR f (fL gZ (aB (aD 0) aL)))) (fC (.int 1)) (rE env)=NR (.int ((val ps (x.toNat%ps.length) (x.toNat/ps.length)).getD 1 0)):=by
  intro env f x he hf x0 x1;obtain⟨e1,e2⟩:=divmod (P:=ps.length) x0;have hv:=hv x.toNat (by omega);have hml:=R8 x.toNat hP;have hdl:x.toNat/ps.length<(ps.getD (x.toNat%ps.length) []).length:=by refine Decidable.byContradiction λz=>?_;unfold val at hv;rw[B7 (l:=ps.getD (x.toNat%ps.length) []),D9 (by omega)]at hv;simp at hv
  have hL:=cV (aA (nJ he) VD) (xT ps);refine aJ (aJ (aJ (nJ he) (aJ hf hL (bI (by omega))) (by rw[e1];exact xR (O3 _) (by omega))) (aJ hf hL (fD (by omega) (by omega))) (by rw[e2];exact Va (O3 _) (by rw[C7];omega))) U ?_;rw[C7,C7];exact pN (k:=1) (by unfold val at hv;omega)
 refine oM U ?_;unfold yw;refine cD (d:=.int m) ((aJ (cV (aA U U) (xT ps)) (aJ (cV (aA (aJ U U (xR (by decide) (by omega))) U) (rQ _)) U (lX _ _)) (gC (Ep (by omega) (by omega)))).trans (by rw[←hPR];rfl)) (by walk_at "n") ?_;refine cD (iD U (by decide)) (by walk_at "n") ?_;have hg:=hp.get;have h00:f2 cW (f2 cW (f2 cW (aD 0) (fC (.int 0))) (fC (.int 0))) (fC (.int 1)) (rE [.fro (jM ps),.own (.int m),.own (.lst []),.no,.no])=NR (.int ((row++[0]).getD 0 0)):=by have hv:=hv 0 lj;rw[Nat.zero_mod,Nat.zero_div]at hv;have e0:=hg 0 (L5 _);have e0:(val ps (0%ps.length) (0/ps.length)).getD 1 0=(row++[0]).getD 0 0:=e0;rw[Nat.zero_mod,Nat.zero_div]at e0;rw[←e0];exact aJ (aJ (aJ U U (xR (by decide) (by omega))) U (Va (by decide) (by rw[show (0:Int).toNat=0 from rfl,hR];omega))) U (pN (k:=1) (by unfold val at hv;exact hv))
 refine cD (bD h00 U) (by walk_at "n") ?_;refine qt (n:=m+1) (λk env=>k≤row.length∧∃v4,env=[.fro (jM ps),.own (.int m),.own (aN (row.take k)),.own (.int ((row++[0]).getD k 0)),v4]) (yU (aA ((aJ U U (bZ _ _)).trans (by rw[Int.natCast_succ])) U) (by omega)) ⟨L5 _,_,U⟩ ?_ ?_
 ·rintro k env hk ⟨hkr,v4,rfl⟩;refine⟨by walk_at "lt",?_⟩;by_cases c:k=row.length
  ·have ez:(row++[0]).getD k 0=0:=by rw[c,B7,J7 (C9 _),S5];rfl
   rw[ez];refine aGL (cB (aJ U U (kZ _ _))) (tf U) ?_;rw[Jd (Yn (i:=2) U),c,P1];exact .inr ⟨_,U,_,U,U⟩
  ·have dA:k<row.length:=by omega
   have ek:(row++[0]).getD k 0=row[k]:=by rw[B7,F9 dA,B6 dA];rfl
   have hb:=bd row[k] (L0 dA);have en:=hg (k+1) (by omega);rw[show ((0:Int)::row).getD (k+1) 0=row[k] by rw[B7,R5,B6 dA];rfl]at en;rw[ek];refine wY (cB (aJ U U (kZ _ _))) (tj (by omega)) (yS ?_);refine wY (b:=NV) ((Yl (pZ (b:=NU) (cB (Dy U U)))).trans ((Yl ((cB (aJ U U (vI _ _))).trans (congrArg NR (tj (by omega))))).trans ((cB (aJ U U (yP _ _))).trans (congrArg NR (tj (by omega)))))) U (yS ?_);refine aKv (ds:=(row.take k).map D.int) U (bD U U) (by rw[B8,G7];omega) ?_;rw[yR,show row.take k++[row[k]]=row.take (k+1) by rw[Q2,B6 dA];rfl];refine jo (bD (gv (x:=row[k]) U U (by omega) hb.2) U) (by walk_at "n") (.inl ⟨_,U,dA,.fro (.int k),?_⟩);rw[←en];rfl
 ·rintro env ⟨hk,_⟩;omega
def Zr{at_ c:Int}(ho:0<s.od.length)(sf:(s.od.map s.key).length=s.od.length)(Vn:∀i j,i<j→j<s.od.length→(s.od.map s.key).getD i 0<(s.od.map s.key).getD j 0)(ZQ:∀{j:Nat} {x:Int},x∈s.od.take j→∃i,i<j∧i<s.od.length∧s.key x=(s.od.map s.key).getD i 0)(Zt:∀{j:Nat} {x:Int},x∈s.od.drop j→∃i,j≤i∧i<s.od.length∧s.key x=(s.od.map s.key).getD i 0)(lx:(0:Int)<10 ^ (50:Int).toNat):
 Qs (λr=>∃d,r=.ret d∧∃key k:Int,d=.int key∧0≤k∧k≤(s.od.length:Int)∧s.Fits k key) (eY (f2 eX (f2 eX (f2 cW (aD 0) (yM (fC (.int 1)))) (fC (.int 1))) (f2 gH (aD 2) (f2 Ek (fC (.int 10)) (fC (.int 50))))) [.fro (aN (s.od.map s.key)),.fro (.int at_),.fro (.int c)]):=by
 have m0:=F2 c (show (10 ^ (50:Int).toNat:Int)≠0 by omega);have aD1:cW (aN (s.od.map s.key)) (.int (-1))=NR (.int ((s.od.map s.key).getD (s.od.length-1) 0)):=by refine GX ?_;rw[Y8,U0,sf,dU (d:=0) (by omega)];rfl
 refine pL (aJ (aJ (aJ U (qC U) aD1) U (bZ _ _)) (aJ U (aJ U U (pA ⟨by decide,by decide,by decide⟩)) (bI lx)) (bZ _ _)) ⟨_,U,_,(s.od.length:Int),U,by omega,g6 _,λx hx=>?_,λx hx=>?_⟩
 ·obtain⟨i,i1,i2,e⟩:=ZQ hx;rw[e];rcases G4 i (s.od.length-1)with z | z
  ·have:=Vn i (s.od.length-1) z (by omega);omega
  ·rw[show i=s.od.length-1 by omega];omega
 ·obtain⟨i,i1,i2,e⟩:=Zt hx;omega
def aF8(h:mJ s){at_ c:Int}(a0:0≤at_)(a1:at_≤(s.od.length:Int)):∃key k:Int,Jl [aN (s.od.map s.key),.int at_,.int c]=NR (.int key)∧0≤k∧k≤(s.od.length:Int)∧s.Fits k key:=by
 suffices hh:∃d,Jl [aN (s.od.map s.key),.int at_,.int c]=NR d∧∃key k:Int,d=.int key∧0≤k∧k≤(s.od.length:Int)∧s.Fits k key by obtain⟨d,e,key,k,rfl,q⟩:=hh;exact⟨key,k,e,q⟩
 have p58:(0:Int)<10 ^ (58:Int).toNat:=Q5 (by decide);have lx:(0:Int)<10 ^ (50:Int).toNat:=Q5 (by decide);have sf:(s.od.map s.key).length=s.od.length:=B8 _;have hkp:(s.od.map s.key).Pairwise (·<·):=V2.mpr h.key;have aKN:∀j,j<s.od.length→∀x,s.od[j]?=NR x→(s.od.map s.key).getD j 0=s.key x:=λj _ x hx=>by rw[B7,C5,hx];rfl
 have Vn:∀i j,i<j→j<s.od.length→(s.od.map s.key).getD i 0<(s.od.map s.key).getD j 0:=λi j kF hj=>by have:=J8.mp hkp i j (by omega) (by omega) kF;rw[B7,B6 (by omega),B7,B6 (by omega)];exact this
 have ZQ:∀{j:Nat} {x:Int},x∈s.od.take j→∃i,i<j∧i<s.od.length∧s.key x=(s.od.map s.key).getD i 0:=λ{j x} hx=>by obtain⟨i,hi,e⟩:=G6 hx;rw[G7]at hi;rw[V4]at e;exact⟨i,by omega,by omega,(aKN i (by omega) x (by rw[B6 (by omega),e])).symm⟩
 have Zt:∀{j:Nat} {x:Int},x∈s.od.drop j→∃i,j≤i∧i<s.od.length∧s.key x=(s.od.map s.key).getD i 0:=λ{j x} hx=>by obtain⟨i,hi,e⟩:=G6 hx;rw[O1]at hi;rw[p6]at e;exact⟨j+i,by omega,by omega,(aKN (j+i) (by omega) x (by rw[B6 (by omega),e])).symm⟩
 refine oM U ?_;unfold yx;refine GQ (cB (aJ U (iD U (by decide)) (aDa _ []))) (λhb=>?_) (λhb=>yS ?_)
 ·have hb:=List.map_eq_nil_iff.mp (of_decide_eq_true hb);refine VF (aJ U (aJ U U (pA ⟨by decide,by decide,by decide⟩)) (bI p58)) ⟨_,U,_,0,U,by decide,by omega,λx hx=>?_,λx hx=>?_⟩
  ·rw[hb]at hx;cases hx
  ·rw[hb]at hx;cases hx
 have ho:0<s.od.length:=T8.mpr λz=>of_decide_eq_false hb (by rw[z];rfl);refine GQ (cB (aJ U U (kZ _ _))) (λhb=>?_) (λhb=>yS ?_)
 ·have m0:=F2 c (show (10 ^ (50:Int).toNat:Int)≠0 by omega);refine VF (aJ (aJ (aJ U U (jX (by decide) (by omega))) U (lX _ _)) (aJ U (aJ U U (pA ⟨by decide,by decide,by decide⟩)) (bI lx)) (lX _ _)) ⟨_,U,_,0,U,by decide,by omega,λx hx=>(by cases hx),λx hx=>?_⟩;obtain⟨i,i1,i2,e⟩:=Zt (j:=0) hx;rw[e];show (s.od.map s.key).getD 0 0-1-_<_;rcases m8 i with z | z
  ·rw[z];omega
  ·have:=Vn 0 i z i2;omega
 have a0':0<at_:=by have:=of_decide_eq_false hb;omega
 have ag:fL gZ (aB (aD 0) aL) (rE [.fro (aN (s.od.map s.key)),.fro (.int at_),.fro (.int c)])=NR (.int s.od.length):=(cV (aA U U) (qN _)).trans (by rw[sf]);by_cases q1:at_<(s.od.length:Int)
 ·have ex:f2 Az (f2 cW (aD 0) (aD 1)) (f2 cW (aD 0) (f2 Az (aD 1) (fC (.int 1)))) (rE [.fro (aN (s.od.map s.key)),.fro (.int at_),.fro (.int c)])=NR (.int ((s.od.map s.key).getD at_.toNat 0-(s.od.map s.key).getD (at_-1).toNat 0)):=aJ (aJ U U (jX a0 (by omega))) (aJ U (aJ U U (lX _ _)) (jX (by omega) (by omega))) (lX _ _);refine GQ (GK (cB (aJ U ag (vI _ _))) (cB (aJ ex U (GJ _ _)))) (λhb=>?_) (λhb=>yS ?_)
  ·rw[J2]at hb;have hgap:=of_decide_eq_true hb.2;generalize hA:(s.od.map s.key).getD at_.toNat 0=A at *;generalize hB:(s.od.map s.key).getD (at_-1).toNat 0=B at *;have m0:=F2 c (show A-B-1≠0 by omega);have m1:=G0 c (show 0<A-B-1 by omega);refine VF (aJ (aJ (aJ U (aJ U U (lX _ _)) ((jX (by omega) (by omega)).trans (by rw[hB]))) U (bZ _ _)) (aJ U (aJ ex U (lX _ _)) (bI (by omega))) (bZ _ _)) ⟨_,U,_,at_,U,a0,a1,λx hx=>?_,λx hx=>?_⟩
   ·obtain⟨i,i1,i2,e⟩:=ZQ hx;rw[e];rcases G4 i (at_-1).toNat with z | z
    ·have:=Vn i (at_-1).toNat z (by omega);rw[hB]at this;omega
    ·rw[show i=(at_-1).toNat by omega,hB];omega
   ·obtain⟨i,i1,i2,e⟩:=Zt hx;rw[e];rcases G4 at_.toNat i with z | z
    ·have:=Vn at_.toNat i z i2;rw[hA]at this;omega
    ·rw[show i=at_.toNat by omega,hA];omega
  ·exact Zr ho sf Vn ZQ Zt lx
 ·refine wY (b:=NV) ((jm ((cB (aJ U ag (vI _ _))).trans (congrArg NR (tj q1))))) U (yS ?_);exact Zr ho sf Vn ZQ Zt lx
def aI4{is:List Nat}{g:GS}{env:EN}{ds:List D}(h:gm env=NR (.tup ds,aI))(hl:is.length=ds.length∧is.all (λi=>decide (i<aI.length))=NU)(hi:D.gR ds=NU)(k:Qs Pr (g (pX aI is ds))):Qs Pr (aY (Yk is gm) g env):=by
 have:Yk is gm env=.next (pX aI is ds):=by unfold Yk;rw[h];dsimp only;rw[sk ⟨hl,hi⟩]
 rw[dH this];exact k
def aD3{env:EN}(h:gm env=NR (d,aI))(k:Pr (.next aI)):Qs Pr (uL gm env):=by rw[Ls h];exact k
def aD4{x:Int}{k:Nat}(hp:l.Pairwise (·<·))(h1:∀y∈l.take k,y<x)(h2:∀y∈l.drop k,x<y)(hk:k≤l.length):sortI (l++[x])=l.take k++x::l.drop k∧(l.take k++x::l.drop k).idxOf x=k∧x∈l.take k++x::l.drop k:=by
 refine⟨(Ii ⟨?_,?_⟩).symm,?_,E5 _ C8⟩
 ·refine List.perm_middle.trans ?_;rw[M0];exact(List.perm_append_singleton x l).symm
 ·have hp':=hp;rw[←M0 k l]at hp';obtain⟨p1,p2,p3⟩:=K6.mp hp';refine K6.mpr ⟨p1.imp M3,F6.mpr ⟨λy hy=>M3 (h2 y hy),p2.imp M3⟩,λa ha b hb=>?_⟩;rcases B9.mp hb with z | z
  ·rw[z];exact M3 (h1 a ha)
  ·exact M3 (p3 a ha b z)
 ·have hn:x∉l.take k:=λz=>Int.lt_irrefl _ (h1 x z);rw[List.idxOf_append,sv hn,X3,G7];omega
def Oi(ks:List (List Int)):D:=.lst (ks.map aN)
def aKO{P R:Nat}{rs:List (List Int)}{h:FE}{x:Int}(hP:0<P)(lT:P≤8)(x0:0≤x)(x1:x<((P*R:Nat):Int))(h1:f e=NR (bJ (aU P R rs aQ)))(h2:g e=NR (.int x))(h3:h e=NR (.int P)):f2 cW (f2 cW f (f2 gH g h)) (f2 rR g h) e=NR (dTup (rs.getD x.toNat [])):=by
 obtain⟨k,rfl⟩:∃k:Nat,x=(k:Int):=⟨x.toNat,by omega⟩
 obtain⟨q,q1,q2⟩:=Vf (R:=R) (cO:=rs) (aQ:=aQ) (b:=k) hP (by omega);refine aJ (a:=eN q) (b:=.int ((k/P:Nat):Int)) (aJ (b:=.int ((k%P:Nat):Int)) h1 ((aJ h2 h3 (bI (by omega))).trans U) (xU q1)) ((aJ h2 h3 (fD (by omega) (by omega))).trans U) ?_;rw[C7];exact aKH q2
def aBw{P R:Nat}{rs:List (List Int)}{row:List Int}(B:Cz P R rs aQ row)(hl:ks.length=P*R)(hk:∀x∈row,(rs.getD x.toNat []).getD 0 0∈ks.getD x.toNat []):uB [bJ (aU P R rs aQ),aN row,Oi ks]=NR (.bl NU):=by
 suffices hh:∃y,uB [bJ (aU P R rs aQ),aN row,Oi ks]=NR y∧y=.bl NU by obtain⟨y,h1,rfl⟩:=hh;exact h1
 have b:=B.b;have p1:=b.p1;have p8:=b.p8;have hln:gZ [bJ (aU P R rs aQ)]=NR (.int P):=(xV _).trans (by rw[pI]);refine oM U ?_;unfold Zb;refine cD (d:=.non) U (by walk_at "n") ?_;refine yh (xs:=row.map D.int) (λn env=>∃v3 v4 v5:SD,env=[.fro (bJ (aU P R rs aQ)),.fro (aN row),.fro (Oi ks),v3,v4,v5]∧((n=0∧v3=.own .non)∨∃m,n=m+1∧v3=.own (.int ((rs.getD (row.getD m 0).toNat []).getD 0 0)))) U (gD U) ⟨_,_,_,U,.inl ⟨U,U⟩⟩ ?_ ?_
 ·rintro n x env hx ⟨v3,v4,v5,rfl,hv⟩
  refine⟨by walk_at "lt",?_⟩;rw[C5]at hx;obtain⟨y,hy,rfl⟩:=kJ hx;have hn:=(D4.mp hy).1;have ym:=D6 hy;have yb:=b.sV y ym;have hks:=hk y ym;have h5:=b.five y.toNat (by omega);have eh:∀{e:DE},e[5]?=NR (NR (dTup (rs.getD y.toNat [])))→f2 cW (aD 5) (fC (.int 0)) e=NR (.int ((rs.getD y.toNat []).getD 0 0)):=λe5=>aJ (nJ e5) U (pN (k:=0) (by rw[h5];decide));refine cD (d:=dTup (rs.getD y.toNat [])) (bD (aKO (R:=R) p1 p8 (by omega) yb.2 U U (cV (aA U U) hln)) (lY _)) (by walk_at "n") ?_;have gv:cW (Oi ks) (.int y)=NR (aN (ks.getD y.toNat [])):=tK (by omega) (by rw[C5,dU (d:=([]:List Int)) (by rw[hl];omega)];rfl);refine wY (b:=NV) ((Yl ((cB (aJ (eh U) (aJ U U gv) (VH NU _ _))).trans (by rw[sk U,tf hks];rfl))).trans ?_) U (yS ?_)
  ·rcases hv with ⟨_,rfl⟩ | ⟨m,rfl,rfl⟩
   ·exact jm (cB (aJ U U U))
   ·refine(jl (cB (aJ U U U))).trans ((cB (aJ (eh U) U (Dv _ _))).trans ?_)
    have:=J8.mp b.key m (m+1) (by omega) hn (by omega);rw[(D4.mp hy).2]at this;rw[B7 (l:=row),B6 (show m<row.length by omega),tj];intro z;exact Int.lt_irrefl _ (Int.lt_of_lt_of_le this z)
  refine jo (d:=.int ((rs.getD y.toNat []).getD 0 0)) (bD (eh U) U) (by walk_at "n") ⟨_,U,_,_,_,U,.inr ⟨n,U,?_⟩⟩;rw[dY hy]
 ·rintro env ⟨v3,v4,v5,rfl,_⟩
  exact pL U ⟨_,U,U⟩
def ZR{cs:List lH}(h:vX cs S p q=NR k):0≤k∧k<(cs.length:Int)∧(at_ cs k.toNat).bY=p∧(at_ cs k.toNat).place=q:=by unfold vX at h;obtain⟨j,h1,rfl⟩:=kJ h;obtain⟨h2,h3⟩:=K3.mp (X0 h1);have:=F7.mp h2;rw[J2,decide_eq_true_iff]at h3;rw[C7];exact⟨by omega,by omega,h3.1⟩
def rm{x P R:Nat}(h:x<P*R):x/P<R:=T0 h
def aF9{P p r:Nat}(hp:p<P):(p+P*r)%P=p∧(p+P*r)/P=r:=by
 have hP:0<P:=by omega
 constructor
 ·rw[Z5,t9 hp]
 ·rw[j7 _ _ hP,u3 hp,N6]
def aD5(P R:Nat)(a b:List (List Int))(aQ:List Int):Shape (aU P R a aQ) (aU P R b aQ):=by
 refine⟨by rw[pI,pI],λp=>?_⟩;rcases G4 p P with z | z
 ·rw[dY (tX z),dY (tX z)];simp
 ·rw[B7,D9 (by rw[pI];exact z),B7,D9 (by rw[pI];exact z)]
def LQ{P R p r:Nat}{a:List (List Int)}(hp:p<P)(hr:r<R):val (aU P R a aQ) p r=a.getD (p+P*r) []:=by unfold val;rw[dY (tX hp),dY (ZC hr)]
def ZV{P R p:Nat}{a:List (List Int)}(hp:p<P):val (aU P R a aQ) p R=[aQ.getD p 0]:=by unfold val;rw[dY (tX hp),B7,J7 (by rw[B8,E1];exact C9 _),B8,E1,S5];rfl
section
variable{P R:Nat}{rs:List (List Int)}{od:List Int}
def Built.aD6{row:List Int}(hl:rs.length=P*R)(h5:∀k,k<P*R→∃m,Kq m (rs.getD k []))(hb:∀x∈(0:Int)::row,0≤x∧x<((P*R:Nat):Int))(hp:Ai (λx=>(rs.getD x.toNat []).getD 1 0) (0::row)):Chain rs row:=λk hk=>by have hm:=hb _ (getD_mem (l:=0::row) (k:=k) (by simp;omega));have e:=hp.get k hk;obtain⟨m,a,b,c,d,f,q,_⟩:=h5 ((0::row).getD k 0).toNat (by omega);refine⟨a,c,d,f,?_⟩;have e:(rs.getD ((0::row).getD k 0).toNat []).getD 1 0=(row++[0]).getD k 0:=e;rw[←e];show rs[((0::row).getD k 0).toNat]?=_;rw[dU (d:=[]) (by omega),q];rfl
def aD7(B:Cz P R rs aQ od)(V:Ey (aU P R rs aQ) od bg s)(N:Oz (aU P R rs aQ) od bg s ks)(w:mJ s)(hP:s.P=P)(hr:s.rs.length=P*R):∃(rS:List (List Int))(row:List Int),Row (aU P R rs aQ) od bg s (inB s.b.held) row∧s.b.bB=aU P R rS aQ∧Cz P R rS aQ row∧∀x∈row,(rS.getD x.toNat []).getD 0 0∈ks.getD x.toNat []:=by
 have b:=B.b;have p1:=b.p1;have lj:0<P*R:=T2 b.p1 b.r1;obtain⟨row,Rw⟩:=V.rows _ V.lb.dn;obtain⟨a1,a2,a3⟩:=N.rs _ V.lb.dn row Rw;have eP:s.b.bB.length=P:=hP;have fR:∀p q:Nat,val s.b.bB p q=Ag (aU P R rs aQ) s.b.asked (inB s.b.held) (p:Int) (q:Int):=λp q=>V.lb.val p q;have hrS:∀k,k<P*R→((D5 (P*R)).map λk=>val s.b.bB (k%P) (k/P)).getD k []=val s.b.bB (k%P) (k/P):=λk hk=>by rw[B7,C5,I0 hk];rfl
 have hX:∀x:Int,gU (aU P R rs aQ) s.P s.b.asked (inB s.b.held) x=val s.b.bB (x.toNat%P) (x.toNat/P):=λx=>by unfold gU;rw[hP,fR]
 have hlS:((D5 (P*R)).map λk=>val s.b.bB (k%P) (k/P)).length=P*R:=by rw[B8,E1]
 generalize hg:((D5 (P*R)).map λk=>val s.b.bB (k%P) (k/P))=rS at *;have sg:∀x:Int,0≤x→x<((P*R:Nat):Int)→gU (aU P R rs aQ) s.P s.b.asked (inB s.b.held) x=rS.getD x.toNat []:=λx x0 x1=>(hX x).trans (hrS x.toNat (by omega)).symm;have rc:∀k,k<P*R→Kq (P*R) (rS.getD k []):=λk hk=>by
  rw[hrS k hk,fR];unfold Ag;cases e:vX s.b.asked (inB s.b.held) ((k%P:Nat):Int) ((k/P:Nat):Int)with
  | none=>show Kq (P*R) (val (aU P R rs aQ) ((k%P:Nat):Int).toNat ((k/P:Nat):Int).toNat);rw[C7,C7,LQ (R8 _ p1) (rm hk),X4];exact B.rec_ k hk
  | some j=>have:=ZR e;have q:=(N.th j.toNat (show j.toNat<s.b.asked.length by omega)).1;rw[hr]at q;exact q
 have bd:∀x∈row,1≤x∧x<((P*R:Nat):Int):=λx hx=>by rw[←hr];exact Rw.bd x hx
 have qE:∀x∈(0:Int)::row,0≤x∧x<((P*R:Nat):Int):=λx hx=>by
  rcases B9.mp hx with z | z
  ·omega
  ·have:=bd x z;omega
 have pth:Ai (λx=>(rS.getD x.toNat []).getD 1 0) (0::row):=Rw.pth.congr λy hy=>by have:=sg y (qE y hy).1 (qE y hy).2;show (rS.getD y.toNat []).getD 1 0=Vl _ _ _ _ y;rw[←this];rfl
 refine⟨rS,row,Rw,?_,⟨⟨p1,b.p8,b.r1,b.r8,hlS,λk hk=>(rc k hk).five,(F1.mp Rw.nd).2,bd,Built.aD6 hlS (λk hk=>⟨_,rc k hk⟩) qE pth,?_⟩,rc,λx hx=>?_,B.sel⟩,λx hx=>?_⟩
 ·refine Zm (V.lb.shape.trans (aD5 _ _ _ _ _)) λp q hp hq=>?_;have hp:p<P:=by omega
  rw[V.lb.shape.2 p,dY (tX hp),D1,B8,E1,i3]at hq;rcases G4 q R with z | z
  ·obtain⟨m1,m2⟩:=aF9 (r:=q) hp;rw[LQ hp z,hrS _ (KR hp z),m1,m2]
  ·obtain rfl:q=R:=by omega
   rw[ZV hp,fR];unfold Ag;cases e:vX s.b.asked (inB s.b.held) (p:Int) (q:Int)with
   | none=>show val (aU P q rs aQ) ((p:Nat):Int).toNat ((q:Nat):Int).toNat=_;rw[C7,C7,ZV hp]
   | some j=>obtain⟨j0,j1,j2,j3⟩:=ZR e;obtain⟨_,x,x1,x2,x3⟩:=N.th j.toNat (show j.toNat<s.b.asked.length by omega);rw[hr]at x1;rw[hP]at x3;have:=rm x1;omega
 ·refine(F6.mp a1).2.imp_of_mem λ{x y} hx hy z=>?_;have bx:=bd x hx;have by_:=bd y hy;rcases z with z | z
  ·omega
  ·rw[sg x (by omega) bx.2,sg y (by omega) by_.2]at z;exact z
 ·have bx:=bd x hx;have:=a3 x hx;rw[sg x (by omega) bx.2]at this;exact this
 ·have bx:=bd x hx;have:=a2 x hx;rw[sg x (by omega) bx.2]at this;exact this
def Oz.init(B:Cz P R rs aQ od)(V:Ey (aU P R rs aQ) od [] (Wb.first P R rs aQ od))(hk:∀x∈od,(rs.getD x.toNat []).getD 0 0∈ks.getD x.toNat []):Oz (aU P R rs aQ) od [] (Wb.first P R rs aQ od) ks:=by
 have b:=B.b;have hP:(Wb.first P R rs aQ od).P=P:=pI _ _ _ _;have hr:(Wb.first P R rs aQ od).rs.length=P*R:=b.len;have hx:∀(S:Int→Bool)(x:Int),x∈od→gU (aU P R rs aQ) (Wb.first P R rs aQ od).P (Wb.first P R rs aQ od).b.asked S x=rs.getD x.toNat []:=λS x hx=>by have bx:=b.sV x hx;rw[hP];show val (aU P R rs aQ) ((x.toNat%P:Nat):Int).toNat ((x.toNat/P:Nat):Int).toNat=_;rw[C7,C7,LQ (R8 _ b.p1) (rm (by omega)),X4]
 refine⟨λS _ p _ _ _ _ c hc=>(by cases hc),λS _ y hy _=>(by rw[hx S y hy];rfl),λS _ row Rw=>?_,λk hk=>absurd hk (J9 _),λx x0 x1=>?_⟩
 ·have e:(0:Int)::od=0::row:=E6 Rw.rep;obtain rfl:od=row:=(k9 e).2;refine⟨F6.mpr ⟨λ_ _=>.inl U,b.key.imp_of_mem λ{x y} h1 h2 z=>.inr ?_⟩,λx h1=>?_,λx h1=>?_⟩
  ·rw[hx S x h1,hx S y h2];exact z
  ·rw[hx S x h1];exact hk x h1
  ·rw[hx S x h1];exact B.snd x h1
 ·rw[hr]at x1 ⊢;exact B.rec_ x.toNat (by omega)
end
def aGa{key:Int}(w:mJ s)(fT:0<s.lo.length)(hm:s.n<123)(h0:0≤k)(h1:k≤(s.od.length:Int)):(s.ent k key aT aS 0 []).key s.new=key:=by
 obtain⟨b1,b2,b3,b4,b5⟩:=w.new fT;obtain⟨p1,p2,p3⟩:=w.ahead h0 h1;have pb:s.new≠s.ahead k:=λz=>by
  rcases p1 with y | y
  ·omega
  ·exact b4 (z▸y)
 have qA:(s.e1 k key aT aS 0).rs.length=s.rs.length:=oR _ _ _ _;show (((s.e1 k key aT aS 0).wr (s.ahead k) (Od ((s.e1 k key aT aS 0).R (s.ahead k)) s.new) ((s.e1 k key aT aS 0).ns (s.ahead k) [(s.n:Int)])).R s.new).getD 0 0=_;rw[Et p2 (by rw[qA];exact p3) b5,sv pb];show ((s.wr s.new [key,(s.R (s.ahead k)).getD 1 0,aT,aS,0] (s.go.get s.new).toList).R s.new).getD 0 0=_;rw[Et b5 b3 b5,sk rfl];rfl
def kup(s:Wb)(ks:List (List Int))(e:Ev):List (List Int):=if e.i=NU then ks.set e.b.toNat (ks.getD e.b.toNat []++[s.key e.b])else ks
def aGb{st:List (List (List Int))}{first:List Int}(V:Ey st first bg s)(N:Oz st first bg s ks)(hks:s.rs.length≤ks.length)(h:mJ s)(hm:s.n<123)(c:Int):∃s' ev,Ey st first (bg++ev) s'∧Oz st first (bg++ev) s' (ev.foldl (kup s') ks)∧mJ s'∧s'.n≤s.n+2∧s'.P=s.P∧s'.rs.length=s.rs.length∧ev.length≤1∧(∀e∈ev,0≤e.b∧e.b<(s'.rs.length:Int))∧Bv κ [lR κ s,.lst [],.int c]=NR (.non,[lR κ s',.lst (ev.map qz)]):=by
 have o64:=h.aBo;have hsl:(sortI s.lo).length=s.lo.length:=(yJ s.lo).1.length_eq;have nil:∀m∈([]:List Int),0≤m∧m<(s.n:Int):=λm hm=>by cases hm
 have ly:=Vc κ s;have ag:∀{env:EN},(rE env)[3]?=NR (NR (aN s.od))→fL gZ (aB (aD 3) aL) (rE env)=NR (.int s.od.length):=λe=>cV (aA (nJ e) U) (qN _);have cond:∀(j:Int) {env:EN},(rE env)[2]?=NR (NR (.int c))→(rE env)[3]?=NR (NR (aN s.od))→(El (fB (f2 Fv (f2 gH (aD 2) (fC (.int 3))) (fC (.int j)))) (fB (f2 ak (aD 3) (mR aL)))) (rE env)=NR (decide (c%3=j)&&!decide (s.od=[])):=λj {env} e2 e3=>GK (cB (aJ (aJ (nJ e2) U (bI (by decide))) U (kZ _ _))) (cB (aJ (nJ e3) (iD U (by decide)) (KY _)));by_cases q1:(decide (c%3=0)&&!decide (s.od=[]))=NU
 ·have nN:=q1;rw[J2]at nN;have ho:0<s.od.length:=T8.mpr λz=>by rw[tf z]at nN;cases nN.2
  have x0:=F2 (c/3) (show (s.od.length:Int)≠0 by omega);have x1:=G0 (c/3) (show 0<(s.od.length:Int) by omega);generalize ke:c/3%(s.od.length:Int)=at_ at *;obtain⟨x,hx⟩:∃x,s.od[at_.toNat]?=NR x:=⟨_,B6 (show at_.toNat<s.od.length by omega)⟩
  have V':=V.out h (by omega) x0 x1 hx nil (by decide);have N':=N.out V h (by omega) x0 x1 hx;have xr:=h.sV x (D6 hx);have h':=h.out (by omega) x0 x1 hx nil (by decide);have hlv:=aDF κ h (by omega) x0 x1 hx nil (by decide) (nd:=.non) (.inl ⟨U,U⟩);have hn':=aGS s at_ x [];have ib:=Qm s at_ x [];have eP:(s.out at_ x []).P=s.P:=rfl;have eH:(s.out at_ x []).b.held=s.b.held:=rfl;generalize s.out at_ x []=s' at *;refine⟨s',_,V',N',h',by omega,eP,ib,C9 _,λe he=>?_,Jb U λvs hv=>?_⟩
  ·rw[D2.mp he,ib];exact⟨show (0:Int)≤x by omega,xr.2⟩
  match vs,hv with
  | [v0,v1,v2],_=>
   suffices hh:Qs (Wh [NU,NU,NV] .non [lR κ s',.lst ([Ev.mk NV (s.n:Int) x 0].map qz)] [v0,v1,v2]) (qI κ [.inn v0 (lR κ s),.inn v1 (.lst []),.fro (.int c),.no,.no,.no,.no,.no,.no,.no])from hh
   unfold qI;refine cD (d:=aN s.od) (bU (nm:=uZ) U (by walk_at "k") U U ly) (by walk_at "n") ?_;refine cD (d:=.int (c/3)) (aJ U U (fD (by decide) (by decide))) (by walk_at "n") ?_;refine Bl (cond 0 U U) (λ_=>?_) λz=>by rw[q1]at z;cases z
   refine cD (d:=.int at_) ((aJ U (ag U) (bI (by omega))).trans (by rw[ke])) (by walk_at "n") ?_;have gv:cW (aN s.od) (.int at_)=NR (.int x):=(jX x0 x1).trans (by rw[dY hx]);have hg:=lD (env:=[.inn v0 (lR κ s),.own (.lst []),.fro (.int c),.own (aN s.od),.own (.int (c/3)),.own (.int at_),.no,.no,.no,.no]) (i:=0) (π:=dC) (C:=κ 1) (m:="leave") (F:=nR κ) (fs:=λeF eZ=>((Be (f2 cW (aD 3) (aD 5)) oK) eF eZ).map (·++[.non])) (d0:=lR κ s) (p:=[]) (nm:=uZ) (es:=[.int x,.non]) U U U (by walk_at "k") (by
    rw[fU (d:=.int x) (aJ U U gv) rfl]
    rfl) hlv
   have hgt:Yj 1 (fC (.str "out")) (pO (κ 1) "leave" 0 dC (nR κ) (λeF eZ=>((Be (f2 cW (aD 3) (aD 5)) oK) eF eZ).map (·++[.non]))) (aB (cL (f2 cW (aD 3) (aD 5))) (aB (fC (.int 0)) aL)) [.inn v0 (lR κ s),.own (.lst []),.fro (.int c),.own (aN s.od),.own (.int (c/3)),.own (.int at_),.no,.no,.no,.no]=.next [.inn v0 (lR κ s'),.own (.lst ([Ev.mk NV (s.n:Int) x 0].map qz)),.fro (.int c),.own (aN s.od),.own (.int (c/3)),.own (.int at_),.no,.no,.no,.no]:=by unfold Yj;rw[hg];dsimp only[fC];rw[aA (bD (d:=.int x) (aJ U U gv) U) (aA (a:=.int 0) U U)];show (if _ then _ else _)=_;rw[sk ⟨⟨U,U⟩,U,O2 U,by decide⟩];rfl
   exact Ua U hgt U ⟨_,.inr ⟨U,U⟩,_,_,U,U,_,_,U,U,U⟩
 have q1:=Y7.mpr q1;by_cases q2:(decide (c%3=1)&&!decide (s.od=[]))=NU
 ·have q2':=q2;rw[J2]at q2';have ho:0<s.od.length:=T8.mpr λz=>by rw[tf z]at q2';cases q2'.2
  have x0:=F2 (c/3) (show (s.od.length:Int)≠0 by omega);have x1:=G0 (c/3) (show 0<(s.od.length:Int) by omega);generalize ke:c/3%(s.od.length:Int)=at_ at *;obtain⟨x,hx⟩:∃x,s.od[at_.toNat]?=NR x:=⟨_,B6 (show at_.toNat<s.od.length by omega)⟩
  have xr:=h.sV x (D6 hx);have lx:(0:Int)<10 ^ (50:Int).toNat:=Q5 (by decide);have mw:(s.ns x []).length≤8:=by unfold Wb.ns;rw[F0];have:=nY (s.co.get x);omega
  have hre:=ql κ h (x:=x) (a:=-1) (b:=c/3%10 ^ (50:Int).toNat) (c:=0) (ns:=[]) (nd:=.non) (by omega) xr.2 nil (by decide) (.inl ⟨U,U⟩);have V':=V.rw h (x:=x) (r:=[(s.R x).getD 0 0,(s.R x).getD 1 0,-1,c/3%10 ^ (50:Int).toNat,0]) (ns:=s.ns x []) (by omega) xr.2 (h.qg nil) mw (by omega) U;have N':=N.rw V h (x:=x) (r:=[(s.R x).getD 0 0,(s.R x).getD 1 0,-1,c/3%10 ^ (50:Int).toNat,0]) (D6 hx) (by
   obtain⟨a,b,_,_,_,q,q1,q2,_⟩:=N.mr x (by omega) xr.2;have w0:=F2 (c/3) (show (10 ^ (50:Int).toNat:Int)≠0 by omega);rw[q];exact⟨_,_,_,_,_,U,q1,q2,by decide,by omega,by decide⟩) U U λ_=>F2 (c/3) (show (10 ^ (50:Int).toNat:Int)≠0 by omega)
  have h':=h.wr (x:=x) (r:=[(s.R x).getD 0 0,(s.R x).getD 1 0,-1,c/3%10 ^ (50:Int).toNat,0]) (ns:=s.ns x []) (by omega) xr.2 U (h.qg nil) mw (by omega) λ_=>rfl;have hn':=qe s x [(s.R x).getD 0 0,(s.R x).getD 1 0,-1,c/3%10 ^ (50:Int).toNat,0] (s.ns x []);have ib:=oR s x [(s.R x).getD 0 0,(s.R x).getD 1 0,-1,c/3%10 ^ (50:Int).toNat,0] (s.ns x []);have eP:(s.wr x [(s.R x).getD 0 0,(s.R x).getD 1 0,-1,c/3%10 ^ (50:Int).toNat,0] (s.ns x [])).P=s.P:=rfl;have eH:(s.wr x [(s.R x).getD 0 0,(s.R x).getD 1 0,-1,c/3%10 ^ (50:Int).toNat,0] (s.ns x [])).b.held=s.b.held:=rfl;generalize s.wr x [(s.R x).getD 0 0,(s.R x).getD 1 0,-1,c/3%10 ^ (50:Int).toNat,0] (s.ns x [])=s' at *;refine⟨s',[],by rw[F0];exact V',by rw[F0];exact N',h',by omega,eP,ib,L5 _,λe he=>by(cases he),Jb U λvs hv=>?_⟩
  match vs,hv with
  | [v0,v1,v2],_=>
   suffices hh:Qs (Wh [NU,NU,NV] .non [lR κ s',.lst (([]:List Ev).map qz)] [v0,v1,v2]) (qI κ [.inn v0 (lR κ s),.inn v1 (.lst []),.fro (.int c),.no,.no,.no,.no,.no,.no,.no])from hh
   unfold qI;refine cD (d:=aN s.od) (bU (nm:=uZ) U (by walk_at "k") U U ly) (by walk_at "n") ?_;refine cD (d:=.int (c/3)) (aJ U U (fD (by decide) (by decide))) (by walk_at "n") ?_;refine Bl (cond 0 U U) (λz=>by rw[q1]at z;cases z) λ_=>?_;refine Bl (cond 1 U U) (λ_=>?_) λz=>by rw[q2]at z;cases z
   have gv:cW (aN s.od) (.int at_)=NR (.int x):=(jX x0 x1).trans (by rw[dY hx]);refine aD3 (d:=.int s.n) (aI:=[.inn v0 (lR κ s'),.inn v1 (.lst []),.fro (.int c),.own (aN s.od),.own (.int (c/3)),.no,.no,.no,.no,.no]) (lD (p:=[]) (nm:=uZ) (es:=[.int x,.int (-1),.int (c/3%10 ^ (50:Int).toNat),.int 0,.non]) U U U (by walk_at "k") (by
    rw[fU (d:=.int x) (aJ U ((aJ U (ag U) (bI (by omega))).trans (by rw[ke])) gv) (fU (d:=.int (-1)) (qC U) (fU (d:=.int (c/3%10 ^ (50:Int).toNat)) (aJ U (aJ U U (pA ⟨by decide,by decide,by decide⟩)) (bI lx)) (fU (d:=.int 0) U U)))]
    rfl) hre) ⟨_,.inr ⟨U,U⟩,_,_,U,U,_,_,U,U,U⟩
 have q2:=Y7.mpr q2;by_cases q3:sortI s.lo=[]
 ·refine⟨s,[],by rw[F0];exact V,by rw[F0];exact N,h,by omega,U,U,L5 _,λe he=>by(cases he),Jb U λvs hv=>?_⟩
  match vs,hv with
  | [v0,v1,v2],_=>
   suffices hh:Qs (Wh [NU,NU,NV] .non [lR κ s,.lst (([]:List Ev).map qz)] [v0,v1,v2]) (qI κ [.inn v0 (lR κ s),.inn v1 (.lst []),.fro (.int c),.no,.no,.no,.no,.no,.no,.no])from hh
   unfold qI;refine cD (d:=aN s.od) (bU (nm:=uZ) U (by walk_at "k") U U ly) (by walk_at "n") ?_;refine cD (d:=.int (c/3)) (aJ U U (fD (by decide) (by decide))) (by walk_at "n") ?_;refine Bl (cond 0 U U) (λz=>by rw[q1]at z;cases z) λ_=>?_;refine Bl (cond 1 U U) (λz=>by rw[q2]at z;cases z) λ_=>?_;refine aDe (b:=!decide (sortI s.lo=[])) (cB (aJ (bU (nm:=uZ) U (by walk_at "k") U U (YX κ h)) (iD U (by decide)) (KY _))) (by rw[tf q3];rfl) ?_;exact aDd ⟨_,.inr ⟨U,U⟩,_,_,U,U,_,_,U,U,U⟩
 have fT:0<s.lo.length:=by rw[←hsl];exact T8.mpr q3
 have aNr:s.od.length≤62:=by
  obtain⟨b1,b2,b3,b4,b5⟩:=h.new fT;have:=nM s.rs.length (0::s.new::s.od) (F1.mpr ⟨λz=>by
   rcases B9.mp z with y | y
   ·omega
   ·have:=h.sV 0 y;omega,F1.mpr ⟨b4,h.Oc⟩⟩) λx hx=>by
   rcases B9.mp hx with z | z
   ·have:=h.pos;omega
   rcases B9.mp z with z | z
   ·omega
   ·have:=h.sV x z;omega
  simp only[E3]at this;have:=h.few;omega
 have a0:=F2 (c/3) (show ((s.od.length:Int)+1)≠0 by omega);have a1:=G0 (c/3) (show 0<((s.od.length:Int)+1) by omega);obtain⟨key,k,hk,g0,g1,fit⟩:=aF8 h (at_:=c/3%((s.od.length:Int)+1)) (c:=c/3/5) a0 (by omega);have lx:(0:Int)<10 ^ (50:Int).toNat:=Q5 (by decide);have V':=V.ent h fT hm (key:=key) (aT:=-1) (aS:=c/3%10 ^ (50:Int).toNat) (gF:=0) g0 g1 nil (by decide);obtain⟨b1,b2,b3,b4,b5⟩:=h.new fT;have N':=N.ent V h fT hm (key:=key) (aT:=-1) (aS:=c/3%10 ^ (50:Int).toNat) g0 g1 fit (by decide) (F2 (c/3) (show (10 ^ (50:Int).toNat:Int)≠0 by omega)) hks;have hkn:=aGa (aT:=-1) (aS:=c/3%10 ^ (50:Int).toNat) (key:=key) h fT hm g0 g1;have h':=h.ent fT hm (aT:=-1) (aS:=c/3%10 ^ (50:Int).toNat) (gF:=0) g0 g1 nil (by decide) fit;have hn':=aDC s k key (-1) (c/3%10 ^ (50:Int).toNat) 0 [];have ib:=Ql s k key (-1) (c/3%10 ^ (50:Int).toNat) 0 [];have hen:=aDE κ h fT hm (aT:=-1) (aS:=c/3%10 ^ (50:Int).toNat) (gF:=0) g0 g1 nil (by decide) fit (.inl ⟨U,U⟩);have eP:(s.ent k key (-1) (c/3%10 ^ (50:Int).toNat) 0 []).P=s.P:=rfl;have eH:(s.ent k key (-1) (c/3%10 ^ (50:Int).toNat) 0 []).b.held=s.b.held:=rfl;generalize s.ent k key (-1) (c/3%10 ^ (50:Int).toNat) 0 []=s' at *;have hkp:(s.od.map s.key).Pairwise (·<·):=V2.mpr h.key;obtain⟨so1,so2,so3⟩:=aD4 (l:=s.od.map s.key) (x:=key) (k:=k.toNat) hkp (λy hy=>by
  rw[←k7]at hy;obtain⟨x,hx,rfl⟩:=J4.mp hy;exact fit.1 x hx) (λy hy=>by
  rw[←k8]at hy;obtain⟨x,hx,rfl⟩:=J4.mp hy;exact fit.2 x hx) (by rw[B8];omega)
 refine⟨s',[Ev.mk NU ((s.n+1:Nat):Int) s.new (s.ahead k)],V',?_,h',by omega,eP,ib,C9 _,λe he=>?_,Jb U λvs hv=>?_⟩
 ·show Oz st first _ s' (ks.set s.new.toNat (ks.getD s.new.toNat []++[s'.key s.new]))
  rw[hkn];exact N'
 ·rw[D2.mp he,ib];exact⟨b5,b3⟩
 match vs,hv with
 | [v0,v1,v2],_=>
  suffices hh:Qs (Wh [NU,NU,NV] .non [lR κ s',.lst ([Ev.mk NU ((s.n+1:Nat):Int) s.new (s.ahead k)].map qz)] [v0,v1,v2]) (qI κ [.inn v0 (lR κ s),.inn v1 (.lst []),.fro (.int c),.no,.no,.no,.no,.no,.no,.no])from hh
  unfold qI;refine cD (d:=aN s.od) (bU (nm:=uZ) U (by walk_at "k") U U ly) (by walk_at "n") ?_;refine cD (d:=.int (c/3)) (aJ U U (fD (by decide) (by decide))) (by walk_at "n") ?_;refine Bl (cond 0 U U) (λz=>by rw[q1]at z;cases z) λ_=>?_;refine Bl (cond 1 U U) (λz=>by rw[q2]at z;cases z) λ_=>?_;refine Bl (b:=!decide (sortI s.lo=[])) (cB (aJ (bU (nm:=uZ) U (by walk_at "k") U U (YX κ h)) (iD U (by decide)) (KY _))) (λ_=>?_) λz=>by rw[tj q3]at z;cases z
  have Cu:=Gk (fi:=kO (aD 3)) (fr:=[0]) (fc:=gP) (fe:=cL (f2 cW (fH (κ 1) "record_of" 2 (bC κ) (aD 1) (aB (aD 0) aL) []) (fC (.int 0)))) (e:=rE [.inn v0 (lR κ s),.inn v1 (.lst []),.fro (.int c),.own (aN s.od),.own (.int (c/3)),.no,.no,.no,.no,.no]) (ms:=s.od) (λ_=>NU) (λx=>s.key x) (gD U) (by omega) (λx hx=>rfl) λx hx _=>by have:=h.sV x hx;exact bD (aJ (bU (nm:=uZ) U (by walk_at "k") U U (lJ κ h (by omega) this.2)) U (pN (k:=0) (by rw[h.five (by omega) this.2];decide))) U
  rw[R4.mpr λ_ _=>rfl]at Cu;refine cD (d:=aN (s.od.map s.key)) Cu (by walk_at "n") ?_;refine cD (d:=.int (c/3%((s.od.length:Int)+1))) (aJ U (aJ (ag U) U (bZ _ _)) (bI (by omega))) (by walk_at "n") ?_;refine cD (d:=.int key) (bM (aA U (aA U (aA (aJ U U (fD (by decide) (by decide))) U))) U hk) (by walk_at "n") ?_;refine aI4 (ds:=[.int s.new,.int (s.n+1:Nat)]) (aI:=[.inn v0 (lR κ s'),.inn v1 (.lst []),.fro (.int c),.own (aN s.od),.own (.int (c/3)),.own (.int (c/3%((s.od.length:Int)+1))),.own (aN (s.od.map s.key)),.own (.int key),.no,.no]) (lD (p:=[]) (nm:=uZ) (es:=[.int key,.int (-1),.int (c/3%10 ^ (50:Int).toNat),.int 0,.non]) U U U (by walk_at "k") (by
   rw[fU (d:=.int key) U (fU (d:=.int (-1)) (qC U) (fU (d:=.int (c/3%10 ^ (50:Int).toNat)) (aJ U (aJ U U (pA ⟨by decide,by decide,by decide⟩)) (bI lx)) (fU (d:=.int 0) U U)))]
   rfl) hen) ⟨U,U⟩ U ?_
  refine cD (d:=.int k) ((aJ (cV (aA (aJ (b:=aN [key]) U (iD (aA U U) (O2 U)) (yW _ [key] (by rw[B8];simp;omega))) U) (Jf (by rw[D1,B8];simp;omega))) U (aF5 (by rw[so1];exact so3))).trans (by rw[so1,so2,T7 g0])) (by walk_at "n") ?_;refine Ua U (Lr (p:=[]) (ds:=[]) (d:=qz (Ev.mk NU ((s.n+1:Nat):Int) s.new (s.ahead k))) U U U (pF (aA U (aA (bD U U) (aA (bD U U) (aA (bD (aJ (aJ (a:=aN [0]) (iD (aA U U) (by decide)) U (aIR _ (by omega))) U (jX g0 (by simp;omega))) U) U)))) (O2 U)) (by decide)) U ⟨_,.inr ⟨U,U⟩,_,_,U,U,_,_,U,U,U⟩
def zy{e:FE}{env:EN}{x key:Int}(h1:env[i]?=NR (.own (Oi ks)))(hj:aD j (rE env)=NR (.int x))(h2:e (rE env)=NR (.int key))(x0:0≤x)(x1:x.toNat<ks.length)(hl:(ks.getD x.toNat []).length<100000):vA i (EY dC (aD j)) (cL e) env=.next (env.set i (.own (Oi (ks.set x.toNat (ks.getD x.toNat []++[key]))))):=by
 have hg:(ks.map aN)[x.toNat]?=NR (aN (ks.getD x.toNat [])):=by rw[C5,dU (d:=([]:List Int)) x1];rfl
 refine(Lr (p:=[.ix x.toNat]) (ds:=(ks.getD x.toNat []).map D.int) (d:=.int key) h1 (by
  rw[mz (p:=[]) (k:=x) U hj x0]
  rfl) (JX hg) (bD h2 U) (by rw[B8];exact hl)).trans ?_
 rw[show fO [.ix x.toNat] (Oi ks) (.lst ((ks.getD x.toNat []).map D.int++[.int key]))=Oi (ks.set x.toNat (ks.getD x.toNat []++[key]))from ?_];refine(JZ hg).trans (congrArg D.lst ?_);rw[X1];congr 1;show _=D.lst ((ks.getD x.toNat []++[key]).map D.int);rw[J6];rfl
def aI5{i:Nat}{f:FE}{gb g:GS}{env:EN}{Pr:SR→Prop}{xs:List D}(I:Nat→EN→Prop)(h:f (rE env)=NR (.lst xs))(h0:I 0 env)
 (st:∀(k:Nat) x env,xs[k]?=NR x→I k env→i<env.length∧Qs (λr=>∃aI,r=.next aI∧I (k+1) aI) (gb (env.set i (.fro x)))) (k:∀aI,I xs.length aI→Qs Pr (g aI)):Qs Pr (aY (Tg i f gb) g env):=by
 obtain⟨aI,h1,h2⟩:=Du (i:=i) (g:=gb) I xs env 0 h0 λk x e hx hi=>by rw[N6]at hi ⊢;exact⟨(st k x e hx hi).1,let ⟨e,a,b⟩:=(st k x e hx hi).2;⟨e,a,b⟩⟩
 rw[N6]at h2;have hf:Tg i f gb env=.next aI:=by unfold Tg;rw[h];exact h1
 rw[dH hf];exact k aI h2
def Kb(ks:List (List Int))(n:Nat):Prop:=∀j,(ks.getD j []).length≤n
def Kb.set{n x:Nat}{key:Int}(h:Kb ks n)(hx:x<ks.length):Kb (ks.set x (ks.getD x []++[key])) (n+1):=λj=>by
 rw[lZ _ _ _ _ _ hx];split
 ·rw[D1];exact S7 (h x)
 ·exact Nat.le_succ_of_le (h j)
def aD8(ns:List Int)(hl:ns.length≤63)(hs:∀k∈ns,Small k):aIH κ [.lst (ns.map D.int)]=NR (.bl NU):=by
 suffices hh:∃d,aIH κ [.lst (ns.map D.int)]=NR d∧d=.bl NU by obtain⟨d,e,rfl⟩:=hh;exact e
 refine oM U ?_;unfold aKy;obtain⟨P,R,rs,aQ,od,hb,BB⟩:=aDO (ns:=ns);have B:=BB.b;have sh:=pI P R rs aQ;have h8:=B.p8;have h1:=B.p1;have r1:=B.r1;have r8:=B.r8;have hln:gZ [bJ (aU P R rs aQ)]=NR (.int P):=(xT _).trans (by rw[sh]);have lj:0<P*R:=T2 h1 r1;have w0':mJ (Wb.first P R rs aQ od):=B.ok;have aMw:∀k,k<P*R→(val (aU P R rs aQ) (k%P) (k/P)).length=5:=λk hk=>by obtain⟨q,q1,q2⟩:=Vf (R:=R) (cO:=rs) (aQ:=aQ) h1 hk;unfold val;rw[dY q1,dY q2];exact B.five k hk
 have aMx:((aU P R rs aQ).getD 0 []).length=R+1:=Kh (D6 (i:=0) (by rw[dU (d:=[]) (by rw[sh];exact h1)]));have aMy:∀x:Int,0≤x→x<((P*R:Nat):Int)→val (aU P R rs aQ) (x.toNat%P) (x.toNat/P)=rs.getD x.toNat []:=λx x0 x1=>by obtain⟨q,q1,q2⟩:=Vf (R:=R) (cO:=rs) (aQ:=aQ) (b:=x.toNat) h1 (by omega);unfold val;rw[dY q1,dY q2]
 have aKR:Ai (λx=>(rs.getD x.toNat []).getD 1 0) (0::od):=Ai.of λk hk=>by obtain⟨key,aT,aS,gF,e⟩:=B.chain k hk;have e:rs[((0::od).getD k 0).toNat]?=_:=e;show (rs.getD ((0::od).getD k 0).toNat []).getD 1 0=_;rw[dY e];rfl
 have qE:∀y∈(0:Int)::od,0≤y∧y<(P*R:Nat):=λy hy=>by
  rcases B9.mp hy with z | z
  ·omega
  ·have:=B.sV y z;omega
 have oI:((0:Int)::od).Nodup:=F1.mpr ⟨λz=>by have:=B.sV 0 z;omega,B.Oc⟩;have V0:Ey (aU P R rs aQ) od [] (Wb.first P R rs aQ od):=by refine⟨Dc.init (by rw[sh];exact h8),λS _=>⟨od,U,oI,λx hx=>by show _∧x<(rs.length:Int);rw[B.len];exact B.sV x hx,aKR.congr λy hy=>?_,λx hx _=>hx,λx _ _ hx _=>hx⟩,aKR⟩;show (val (aU P R rs aQ) ((y.toNat%(aU P R rs aQ).length:Nat):Int).toNat ((y.toNat/(aU P R rs aQ).length:Nat):Int).toNat).getD 1 0=_;rw[C7,C7,sh,aMy y (qE y hy).1 (qE y hy).2]
 have pr:(Wb.first P R rs aQ od).P=P:=sh;have hR0:(Wb.first P R rs aQ od).rs.length=P*R:=B.len;have own:∀{s:Wb} {bg:List Ev} {row:List Int},Ey (aU P R rs aQ) od bg s→mJ s→s.P=P→s.rs.length=P*R→Row (aU P R rs aQ) od bg s (inB s.b.held) row→vN [jM s.b.bB]=NR (aN row):=λ{s bg row} V w hP hr Rw=>by
  have shp:=V.lb.shape;have eP:s.b.bB.length=P:=hP;have fR:∀k:Nat,val s.b.bB (k%P) (k/P)=Ag (aU P R rs aQ) s.b.asked (inB s.b.held) ((k%P:Nat):Int) ((k/P:Nat):Int):=λk=>V.lb.val _ _;refine aF6 (m:=P*R) (R:=R) (by omega) (by omega) (by rw[eP]) r8 ((shp.2 0).trans aMx) (λk hk=>?_) Rw.nd (λx hx=>by rw[←hr];exact Rw.bd x hx) lj (Rw.pth.congr λy hy=>?_)
  ·rw[eP,fR];unfold Ag;cases e:vX s.b.asked (inB s.b.held) ((k%P:Nat):Int) ((k/P:Nat):Int)with
   | none=>
    show 2≤(val (aU P R rs aQ) ((k%P:Nat):Int).toNat ((k/P:Nat):Int).toNat).length;rw[C7,C7,aMw k hk]
    decide
   | some j=>
    have:=ZP e;show 2≤(at_ s.b.asked j.toNat).thing.length;rw[w.th j.toNat (show j.toNat<s.b.asked.length by omega)]
    decide
  ·unfold Vl;rw[eP,fR,hP]
 generalize bt:bJ (aU P R rs aQ)=sd at *;refine cD (d:=sd) (bM (aA U U) U hb) (by walk_at "n") ?_;refine cD (d:=lR κ (Wb.first P R rs aQ od)) (Ub (aA U U) (by rw[←bt];exact ZJ κ B)) (by walk_at "n") ?_;have ZD:∀{e:DE},e[1]?=NR (NR sd)→f2 sZ (fL gZ (aB (aD 1) aL)) (f2 Az (fL gZ (aB (f2 cW (aD 1) (fC (.int 0))) aL)) (fC (.int 1))) e=NR (.int ((P*R:Nat):Int)):=λ{e} e1=>by
  have p0:=tX (P:=P) (R:=R) (cO:=rs) (aQ:=aQ) (p:=0) h1;have ix0:cW sd (.int 0)=NR (eN (((D5 R).map λr=>rs.getD (0+P*r) [])++[[aQ.getD 0 0]])):=by rw[←bt];exact xU (k:=0) p0
  have mf:=rQ (((D5 R).map λr=>rs.getD (0+P*r) [])++[[aQ.getD 0 0]]);rw[Kh (D6 p0)]at mf;rw[U1,show (R:Int)=((R+1:Nat):Int)-1 by omega];exact aJ (cV (aA (nJ e1) U) hln) (aJ (cV (aA (aJ (nJ e1) U ix0) U) mf) U (lX _ _)) (gC (Ep (by omega) (by omega)))
 refine cD (d:=.int ((P*R:Nat):Int)) (ZD U) (by walk_at "n") ?_;have m64:P*R≤8*8:=Q6 h8 r8;refine cD (d:=Oi (E9 (P*R) [])) ((yV (n:=P*R) (φ:=λ_=>.lst []) (yU (aA U U) (by omega)) (by omega) λk hk=>iD U (by decide)).trans (by
  unfold Oi;rw[List.map_replicate,List.map_const',E1]
  rfl)) (by walk_at "n") ?_
 have odl:od.length≤64:=w0'.aBo;refine aI5 (xs:=od.map D.int) (λn env=>∃(ks:List (List Int))(v5:SD),env=[.fro (aN ns),.own sd,.own (lR κ (Wb.first P R rs aQ od)),.own (.int ((P*R:Nat):Int)),.own (Oi ks),v5,.no,.no,.no,.no,.no,.no,.no,.no]∧ks.length=P*R∧Kb ks n∧∀i,i<n→(rs.getD (od.getD i 0).toNat []).getD 0 0∈ks.getD (od.getD i 0).toNat []) (bU (nm:=uZ) U (by walk_at "k") U U (Vc κ _)) ⟨_,_,U,P7,λj=>by
  rw[B7,O7]
  split<;>exact C9 _,λi hi=>absurd hi (J9 _)⟩ ?_ ?_
 ·rintro n x env hx ⟨ks,v5,rfl,gI,hkb,hkm⟩;refine⟨by walk_at "lt",?_⟩;rw[C5]at hx;obtain⟨y,hy,rfl⟩:=kJ hx;have hn:=(D4.mp hy).1;have yb:=B.sV y (D6 hy);have yr:y<((Wb.first P R rs aQ od).rs.length:Int):=by rw[hR0];exact yb.2
  refine⟨_,zy (ks:=ks) (key:=(rs.getD y.toNat []).getD 0 0) U U (aJ (bU (nm:=uZ) U (by walk_at "k") U U (lJ κ w0' (by omega) yr)) U (pN (k:=0) (by rw[w0'.five (by omega) yr];decide))) (by omega) (by omega) (R6 (hkb _) (by omega)),_,_,U,by rw[J5];exact gI,hkb.set (by omega),λi hi=>?_⟩;rw[lZ _ _ _ _ _ (by omega)];split
  ·rename_i e;rcases G4 i n with z | z
   ·have:=hkm i z;rw[←e]at this ⊢;exact F5 _ this
   ·obtain rfl:i=n:=by omega
    rw[dY hy];exact E5 _ (D2.mpr U)
  ·rename_i e;rcases G4 i n with z | z
   ·exact hkm i z
   ·obtain rfl:i=n:=by omega
    rw[dY hy]at e;exact absurd U e
 rintro env ⟨ks0,v5,rfl,hkl0,hkb0,hkm0⟩;rw[B8]at hkb0 hkm0;have N0:Oz (aU P R rs aQ) od [] (Wb.first P R rs aQ od) ks0:=Oz.init BB V0 λx hx=>by obtain⟨i,hi,ei⟩:=G6 hx;have:=hkm0 i hi;rw[B7 (l:=od),B6 hi]at this;rw[←ei];exact this
 obtain⟨cells,hcells,c1⟩:∃cells:List Int,eE (kO (ao NV (aD 0) (mV (fC (.int 3))) (mV (fC (.int 123))))) [] gP (cJ 1 mY (aB (aD 0) aL)) (zE [.fro (aN ns),.own sd,.own (lR κ (Wb.first P R rs aQ od)),.own (.int ((P*R:Nat):Int)),.own (Oi ks0),v5,.no,.no,.no,.no,.no,.no,.no,.no])=NR (aN cells)∧cells.length≤60:=by have gE:∀c:Int,∃s:Int,0≤s∧mY [.int c]=NR (.int s):=aBq;refine⟨((ns.drop 3).take 120).map λc=>(gE c).choose,?_,by rw[B8,G7,O1];omega⟩;have:=Gk (fi:=kO (ao NV (aD 0) (mV (fC (.int 3))) (mV (fC (.int 123))))) (fr:=[]) (fc:=gP) (fe:=cJ 1 mY (aB (aD 0) aL)) (e:=zE [.fro (aN ns),.own sd,.own (lR κ (Wb.first P R rs aQ od)),.own (.int ((P*R:Nat):Int)),.own (Oi ks0),v5,.no,.no,.no,.no,.no,.no,.no,.no]) (ms:=(ns.drop 3).take 120) (λ_=>NU) (λc=>(gE c).choose) (gD ((VM U (wZ U) (wZ U)).trans (by rw[show (3:Int)=((3:Nat):Int)from rfl,show (123:Int)=((123:Nat):Int)from rfl,aDh]))) (by rw[G7];omega) (λm hm=>rfl) λm hm _=>bM (aA U U) U (gE m).choose_spec.2;rw[R4.mpr λ_ _=>rfl]at this;exact this
 refine yh (xs:=cells.map D.int) (λn env=>∃(s:Wb)(bg:List Ev)(ks:List (List Int))(v5 v6 v7 v8 v9 v10 v11 kK kL:SD),env=[.fro (aN ns),.own sd,.own (lR κ s),.own (.int ((P*R:Nat):Int)),.own (Oi ks),v5,v6,v7,v8,v9,v10,v11,kK,kL]∧Ey (aU P R rs aQ) od bg s∧Oz (aU P R rs aQ) od bg s ks∧mJ s∧s.n≤2*n∧s.P=P∧s.rs.length=P*R∧ks.length=P*R∧Kb ks (64+n)) U (gD hcells) ⟨_,[],ks0,_,_,_,_,_,_,_,_,_,U,V0,N0,w0',C9 _,pr,hR0,hkl0,λj=>G1 (hkb0 j) odl⟩ ?_ ?_
 ·rintro n x env hx ⟨s,bg,ks,v5,v6,v7,v8,v9,v10,v11,kK,kL,rfl,V,N,h,hn,hP,hr,gI,hkb⟩;refine⟨by walk_at "lt",?_⟩;rw[C5]at hx;obtain⟨c,hc,rfl⟩:=kJ hx;have hnc:=(D4.mp hc).1;refine cD (d:=.int (c/3)) (aJ U U (fD (by decide) (by decide))) (by walk_at "n") ?_;apply Bl (b:=decide (c%3=0))
  ·exact cB (aJ (aJ U U (bI (by decide))) U (kZ _ _))
  ·intro _;have p0:=F2 (c/3/9) (show (P:Int)≠0 by omega);have p1:=G0 (c/3/9) (show 0<(P:Int) by omega);have tail:∀(r:List Int)(t:Nat),ni s.b.asked s.b.held (c/3/9%(P:Int)) r→Qs (λr=>∃aI,r=.next aI∧∃(s:Wb)(bg:List Ev)(ks:List (List Int))(v5 v6 v7 v8 v9 v10 v11 kK kL:SD),aI=[.fro (aN ns),.own sd,.own (lR κ s),.own (.int ((P*R:Nat):Int)),.own (Oi ks),v5,v6,v7,v8,v9,v10,v11,kK,kL]∧Ey (aU P R rs aQ) od bg s∧Oz (aU P R rs aQ) od bg s ks∧mJ s∧s.n≤2*(n+1)∧s.P=P∧s.rs.length=P*R∧ks.length=P*R∧Kb ks (64+(n+1))) ((aY (cT 8 (fH (κ 0) "stone" 1 (rG κ) (tG (fP (κ 1) "bench") (aD 2)) aL []))
 (aY (cT 9 (cJ 1 vN (aB (aD 8) aL)))
 (aY (qU (fOr (fB (f2 (Ja NV) (aD 9) (fC .non))) (fOr (Em (fB (cJ 3 uB (aB (aD 8) (aB (aD 9) (aB (aD 4) aL)))))) (fB (f2 (dIs NU) (cJ 1 xM (aB (aD 8) aL)) (fC (.bl NU)))))) (eY (fC (.bl NV))) fM)
 (qU (fB (f2 ak (fH (κ 1) "order" 1 (jY κ) (Th (κ 1) (pP κ) (aB (aD 8) aL)) aL []) (aD 9))) (eY (fC (.bl NV))) fM)))) [.fro (aN ns),.own sd,.own (lR κ (s.cv (r.take t))),.own (.int ((P*R:Nat):Int)),.own (Oi ks),v5,.fro (.int c),.own (.int (c/3)),v8,v9,v10,v11,kK,kL]):=by
    intro r t hR;have V':=V.cv hR t;have N':=N.cv (r.take t);have ia:(r.take t).Nodup:=(hR.1.sublist (M6 _ _)).imp λq=>Int.ne_of_lt q;have hrm:∀x∈r.take t,(0≤x∧x<(s.n:Int))∧x∉s.b.held:=λx hx=>by have:=((hR.2.2 x).mp (L7 hx)).1;exact⟨⟨this.1,this.2.1⟩,this.2.2.2⟩
    obtain⟨h',_,e2,e3⟩:=h.cv ia (λx hx=>(hrm x hx).1) λx hx=>(hrm x hx).2;have ib:(s.cv (r.take t)).rs.length=P*R:=hr;have hn':(s.cv (r.take t)).n=s.n:=e2;have qS:=e3.trans hP;generalize s.cv (r.take t)=s' at *;have e8:s'.b.bB.length≤8:=h'.bn.few;obtain⟨rS,row,Rw,ep,BS,hkS⟩:=aD7 BB V' N' h' qS ib;have mB:=own V' h' qS ib Rw;have si:=aBr κ (b:=s'.b) e8;rw[ep]at mB si;have mB:vN [bJ (aU P R rS aQ)]=NR (aN row):=mB;have hky:=aBw BS gI hkS;have hsd:=aD2 BS;have kQ:=ZJ κ (aQ:=aQ) BS.b;have hor:=Vc κ (Wb.first P R rS aQ row);refine cD (d:=bJ (aU P R rS aQ)) (bU (nm:=Ze) (dW U (pM w0 U)) (by walk_at "k") U U si) (by walk_at "n") ?_;generalize bJ (aU P R rS aQ)=fd at *;refine cD (d:=aN row) (bM (aA U U) U mB) (by walk_at "n") ?_;refine wY (b:=NV) ((Yl (cB (b:=NV) (aJ U U U))).trans ((Yl (pZ (b:=NU) (cB (bM (aA U (aA U (aA U U))) U hky)))).trans (cB (aJ (a:=.bl NU) (bM (aA U U) U hsd) U U)))) U (yS ?_);refine aDe (b:=NV) (cB (aJ (bU (nm:=uZ) (Ub (aA U U) kQ) (by walk_at "k") U U hor) U ((VR row row).trans (by rw[tf rfl];rfl)))) U ?_;exact aDd ⟨_,U,s',bg,ks,_,_,_,_,_,_,_,_,_,U,V',N',h',by omega,qS,ib,gI,λj=>G1 (hkb j) (by omega)⟩
   have ew:∀(r:List Int)(t:Nat),D.ins (κ 1) uZ [dX (κ 0) (s.b.bW (r.take t)),pq s.P s.rs.length,aN s.od,aN s.lo,Ox s.la,Ox s.co,Ox s.go]=lR κ (s.cv (r.take t)):=λr t=>by unfold lR;rw[show (s.cv (r.take t)).P=s.P from(kE (r.take t) s.b).1];rfl
   have sj:∀{env:EN},(rE env)[7]?=NR (NR (.int (c/3)))→(rE env)[1]?=NR (NR sd)→f2 gH (f2 rR (aD 7) (fC (.int 9))) (fL gZ (aB (aD 1) aL)) (rE env)=NR (.int (c/3/9%(P:Int))):=λe7 e1=>aJ (aJ (nJ e7) U (fD (by decide) (by decide))) (cV (aA (nJ e1) U) hln) (bI (by omega));have hp1:c/3/9%(P:Int)<(s.b.bB.length:Int):=by rw[show s.b.bB.length=P from hP];exact p1
   apply GQ (b:=decide (c/3%3=0))
   ·exact cB (aJ (aJ U U (bI (by decide))) U (kZ _ _))
   ·intro _;obtain⟨r,hR,oP⟩:=YJ κ h.bn (p:=c/3/9%(P:Int)) (most:=.int (c/3/3%3)) p0 hp1 (.inr ⟨_,U⟩);have oP:=oP (r.take (c/3/3%3).toNat) (λz=>by cases z) λm z=>by cases z;rfl
    refine HN (d:=aN (r.take (c/3/3%3).toNat)) (aI:=[.fro (aN ns),.own sd,.own (lR κ (s.cv (r.take (c/3/3%3).toNat))),.own (.int ((P*R:Nat):Int)),.own (Oi ks),v5,.fro (.int c),.own (.int (c/3)),v8,v9,v10,v11,kK,kL]) ((lD (p:=[L2.Step.fld (κ 1) "bench"]) (nm:=Ze) (es:=[.int (c/3/9%(P:Int)),.int (c/3/3%3)]) U U (wJ w0 U) (by walk_at "k") (by
     rw[fU (d:=.int (c/3/9%(P:Int))) (sj U U) (fU (d:=.int (c/3/3%3)) (aJ (aJ U U (fD (by decide) (by decide))) U (bI (by decide))) U)]
     rfl) oP).trans (by
     rw[wK w0 U,←ew r _]
     rfl)) (tail r _ hR)
   ·intro _;obtain⟨r,hR,oP⟩:=YJ κ h.bn (p:=c/3/9%(P:Int)) (most:=.non) p0 hp1 (.inl U);have oP:=oP r (λ_=>rfl) λm z=>by cases z
    have et:r.take r.length=r:=P1;have tl:=tail r r.length hR;rw[et]at tl;have ewr:=ew r r.length;rw[et]at ewr;refine HN (d:=aN r) (aI:=[.fro (aN ns),.own sd,.own (lR κ (s.cv r)),.own (.int ((P*R:Nat):Int)),.own (Oi ks),v5,.fro (.int c),.own (.int (c/3)),v8,v9,v10,v11,kK,kL]) ((lD (p:=[L2.Step.fld (κ 1) "bench"]) (nm:=Ze) (es:=[.int (c/3/9%(P:Int)),.non]) U U (wJ w0 U) (by walk_at "k") (by
     rw[fU (d:=.int (c/3/9%(P:Int))) (sj U U) rfl]
     rfl) oP).trans (by
     rw[wK w0 U,←ewr]
     rfl)) tl
  ·intro _;obtain⟨s',ev,V',N',h',hn',qS,ib,aMz,hbd,hstep⟩:=aGb κ V N (by omega) h (by omega) (c/3);refine cD (d:=.lst []) (iD U (by decide)) (by walk_at "n") ?_;have hg:TQ (.ch 2::.ch 10::.rd (aD 7)::[]) (Bv κ) [.fro (aN ns),.own sd,.own (lR κ s),.own (.int ((P*R:Nat):Int)),.own (Oi ks),v5,.fro (.int c),.own (.int (c/3)),v8,v9,.own (.lst []),v11,kK,kL]=NR (.non,[.fro (aN ns),.own sd,.own (lR κ s'),.own (.int ((P*R:Nat):Int)),.own (Oi ks),v5,.fro (.int c),.own (.int (c/3)),v8,v9,.own (.lst (ev.map qz)),v11,kK,kL]):=(aDG (bE:=[lR κ s',.lst (ev.map qz)]) (Qc:=[lR κ s,.lst []]) (TJ:=[.int (c/3)]) U (aGT (aGT (aKG U U))) hstep).trans U;refine HN hg ?_;have hrl:s'.rs.length=P*R:=ib.trans hr
   match ev,aMz,hbd,V',N' with
   | [],_,_,V',N'=>exact⟨_,U,s',_,ks,_,_,_,_,_,_,_,_,_,U,V',N',h',by omega,qS.trans hP,hrl,gI,λj=>G1 (hkb j) (by omega)⟩
   | [e],_,hbd,V',N'=>
    obtain⟨e0,e1⟩:=hbd e C8;have N':Oz (aU P R rs aQ) od (bg++[e]) s' (kup s' ks e):=N';have aKS:(kup s' ks e).length=P*R∧Kb (kup s' ks e) (64+(n+1)):=by
     unfold kup;split
     ·exact⟨by rw[J5];exact gI,hkb.set (by omega)⟩
     ·exact⟨gI,λj=>G1 (hkb j) (by omega)⟩
    have bS:(qU (fB (f2 Fv (aD 11) (fC (.str "in")))) (vA 4 (EY dC (aD 5)) (cL (f2 cW (fH (κ 1) "record_of" 2 (bC κ) (aD 2) (aB (aD 5) aL) []) (fC (.int 0))))) fM) [.fro (aN ns),.own sd,.own (lR κ s'),.own (.int ((P*R:Nat):Int)),.own (Oi ks),.fro (.int e.b),.fro (.int c),.own (.int (c/3)),v8,v9,.fro (.lst ([e].map qz)),.fro (.str (if e.i=NU then "in" else "out")),.fro (.int e.n),.fro (.int e.a)]=.next [.fro (aN ns),.own sd,.own (lR κ s'),.own (.int ((P*R:Nat):Int)),.own (Oi (kup s' ks e)),.fro (.int e.b),.fro (.int c),.own (.int (c/3)),v8,v9,.fro (.lst ([e].map qz)),.fro (.str (if e.i=NU then "in" else "out")),.fro (.int e.n),.fro (.int e.a)]:=by
     refine aKt (cB (aJ U U (aF3 _ _))) (λz=>?_) λz=>?_
     ·have ci:e.i=NU:=by
       cases q:e.i with
       | true=>rfl
       | false=>rw[q,sv E8,aI3]at z;cases z
      have ek:kup s' ks e=ks.set e.b.toNat (ks.getD e.b.toNat []++[s'.key e.b]):=sk ci;rw[ek];refine(zy (env:=[.fro (aN ns),.own sd,.own (lR κ s'),.own (.int ((P*R:Nat):Int)),.own (Oi ks),.fro (.int e.b),.fro (.int c),.own (.int (c/3)),v8,v9,.fro (.lst ([e].map qz)),.fro (.str (if e.i=NU then "in" else "out")),.fro (.int e.n),.fro (.int e.a)]) (e:=f2 cW (fH (κ 1) "record_of" 2 (bC κ) (aD 2) (aB (aD 5) aL) []) (fC (.int 0))) (i:=4) (j:=5) (ks:=ks) (key:=s'.key e.b) U U (aJ (bU (nm:=uZ) U (by walk_at "k") U U (lJ κ h' e0 e1)) U (pN (k:=0) (by rw[h'.five e0 e1];decide))) e0 (by omega) (R6 (hkb _) (by omega))).trans U
     ·have ci:e.i=NV:=by
       cases q:e.i with
       | false=>rfl
       | true=>rw[q,sk U,aKM]at z;cases z
      have ek:kup s' ks e=ks:=sv (by rw[ci];decide);rw[ek];rfl
    have aMA:Yh [10] [11,12,5,13] (kO (aD 10)) (qU (fB (f2 Fv (aD 11) (fC (.str "in")))) (vA 4 (EY dC (aD 5)) (cL (f2 cW (fH (κ 1) "record_of" 2 (bC κ) (aD 2) (aB (aD 5) aL) []) (fC (.int 0))))) fM) [.fro (aN ns),.own sd,.own (lR κ s'),.own (.int ((P*R:Nat):Int)),.own (Oi ks),v5,.fro (.int c),.own (.int (c/3)),v8,v9,.own (.lst ([e].map qz)),v11,kK,kL]=.next [.fro (aN ns),.own sd,.own (lR κ s'),.own (.int ((P*R:Nat):Int)),.own (Oi (kup s' ks e)),.fro (.int e.b),.fro (.int c),.own (.int (c/3)),v8,v9,.fro (.lst ([e].map qz)),.fro (.str (if e.i=NU then "in" else "out")),.fro (.int e.n),.fro (.int e.a)]:=(aF4 (env:=[.fro (aN ns),.own sd,.own (lR κ s'),.own (.int ((P*R:Nat):Int)),.own (Oi ks),v5,.fro (.int c),.own (.int (c/3)),v8,v9,.fro (.lst ([e].map qz)),v11,kK,kL]) (is:=[11,12,5,13]) (xs:=[]) ⟨U,U⟩ bS).trans U;show Qs _ (Yh [10] [11,12,5,13] _ _ _);unfold Qs;rw[aMA];exact⟨_,U,s',_,kup s' ks e,_,_,_,_,_,_,_,_,_,U,V',N',h',by omega,qS.trans hP,hrl,aKS.1,aKS.2⟩
 ·rintro env ⟨s,bg,ks,v5,v6,v7,v8,v9,v10,v11,kK,kL,rfl,_⟩;exact pL U ⟨_,U,U⟩
end
end Rs
namespace PySem.W.Fast
def tw1508304336630533074:=()
def tw3708964525823627150:=()
def tw12030730306902414215:=()
def tw11638830029466305498:=()
def tw5067461125367124325:=()
def tw5765067043335412595:=()
def tw8563380687096887615:=()
def tw13775575970089195153:=()
def tw14334500951384595646:=()
def tw9832483619379674574:=()
def tw7209607290388223769:=()
def tw15716994918409836890:=()
def tw6965311592763453752:=()
def tw8223361747657813295:=()
def tw16242328694652818769:=()
def tw16062002948950647307:=()
def tw17978407808698933957:=()
def tw5124873024761655715:=()
def tw17496210522596066849:=()
def tw481911157047220479:=()
def tw7225676794488915953:=()
def tw14579313808406644192:=()
def tw5602451307965608334:=()
def tw6892445710960951994:=()
def tw14004680206041684414:=()
def tw1173972568326913374:=()
def tw15183411124324231712:=()
def tw12580395083187318791:=()
def tw12896293736635817355:=()
def tw6005286153716100394:=()
def tw5835466019582875299:=()
def tw4147410169416744226:=()
def tw2047793640291827095:=()
def tw11909133665213016725:=()
def tw3910354521601347204:=()
def tw8378634424338781058:=()
def tw3517197138530696459:=()
def tw15508363891893101667:=()
def tw10570838178736465275:=()
def tw11993064304068602319:=()
def tw1488941884622376373:=()
def tw760469505515024504:=()
def tw200338616687629932:=()
def tw3772577550258895890:=()
def tw8605483331390114781:=()
def tw12458222784869357082:=()
def tw13075868571811419587:=()
def tw6983183799288042814:=()
def tw6445253276640010334:=()
def tw8492612761756567463:=()
def tw2403500027800428782:=()
def tw5451624712485440190:=()
def tw17634838330653113515:=()
def tw16306661371008353125:=()
def tw6863308763711323337:=()
def tw4463392257390970914:=()
def tw3259100369929463900:=()
def tw15773116284285518631:=()
def tw870962798346404773:=()
def tw12753950287951963329:=()
def tw1435184554569923885:=()
def tw8051203252852410803:=()
def tw12191744291732969961:=()
def tw9499128531175764607:=()
def tw17300530181495827533:=()
def tw13050936598849936110:=()
def tw6047114898307938320:=()
def tw11516159200146645526:=()
def tw17426235025467757385:=()
def tw9233349134935661909:=()
def tw909640684066681962:=()
def tw10097257022750791174:=()
def tw13443829229106670335:=()
def tw10535592357802742590:=()
def tw5355385425508046940:=()
def tw7882066888153856015:=()
def tw7666125558248007976:=()
def tw14442361187645145639:=()
def tw13243470432673020416:=()
def tw5297177313091086212:=()
def tw15403198487580117017:=()
def tw1211230691563290796:=()
def tw18297906099712631327:=()
def tw7136476291948219221:=()
def tw1839610225778808395:=()
def tw4158331698463136743:=()
def tw16361316459998759290:=()
def tw1338198185720203279:=()
def tw6409466634050085309:=()
def tw13488729150072917364:=()
def tw7782514506226153752:=()
def tw5165775005483723300:=()
def tw12738202559150594243:=()
def tw5568204546586241365:=()
def tw2156271796146233379:=()
def tw2046809458983826613:=()
def tw13383367373940061018:=()
def tw17938636580637001770:=()
def tw1998743909177989946:=()
def tw15840382583866646280:=()
def tw177157430149860907:=()
def tw12358109465812849479:=()
def tw4272638679394851143:=()
def tw4292116048695670899:=()
def tw1161196035460623422:=()
def tw5193189958177512241:=()
def tw13466261215008101670:=()
def tw9325289799922055372:=()
def tw8047134839612110275:=()
def tw13009211120209878672:=()
def tw1656951613834035220:=()
def tw1955195600849380456:=()
def tw5960072417107226990:=()
def tw11733714141302515113:=()
def tw4348013327421605133:=()
def tw13678689502931391723:=()
def tw16075405982338868607:=()
def tw6955108102447627442:=()
def tw4940183131140392416:=()
def tw252618813175442746:=()
def tw801373195779363996:=()
def tw16144915565387209726:=()
def tw5944812861418183027:=()
def tw6277073525074389375:=()
def tw12487795443501743916:=()
def tw9639434779597654382:=()
def tw12414464057608870805:=()
def tw14522724888297688347:=()
def tw15744552121677857811:=()
def tw13500230228034835399:=()
def tw549814642178646336:=()
def tw10104730418165540510:=()
def tw14349120086811543244:=()
def tw9327403986974536467:=()
def tw8900820093121068974:=()
def tw10319081677961769580:=()
def tw16704860509986620548:=()
def tw6071868427388254519:=()
def tw3492634802378174108:=()
def tw11628195534816504225:=()
def tw5068393489088784939:=()
def tw9766012217623097022:=()
def tw10925423482085593261:=()
def tw5153818275641079269:=()
def tw4932514649994518653:=()
def tw16207770646200298767:=()
def tw12305601554858333912:=()
def tw14949505542572037723:=()
def tw15597206879565269123:=()
def tw5448520423650952270:=()
def tw18093548811571406878:=()
def tw17233397509229429633:=()
def tw1095484988387213211:=()
def tw9871647687357152827:=()
end PySem.W.Fast
namespace Rs
open PySem L2
variable{s:Wb}{p k q y a aT aS gF:Int}{κ:Nat→AF}{l aQ fu t th:List Int}{b:Bn}{i j m:Nat}{d nd:D}{C:AF}{f g:FE}{K:aG}{cO ks:List (List Int)}{S:Int→Bool}{c:lH}{nx:Int→Int}{e:DE}{Pr:SR→Prop}{od:Option AF}{aI:EN}{sl:Array (Option AE)}{π:FP}{gm:GM}{bg:List Ev}{ct:AE}
def LR{f:AF}{oc:AE}{fd:BU}(l:K.lookup f=NR ⟨oc,od,.func fd,sl⟩):K7 K (.ref f)=NU:=by unfold K7;dsimp only;rw[l]
def MF{f:AF}{fd:BU}(l:K.lookup f=NR ⟨.type "function",od,.func fd,sl⟩):Q8 K (.ref f)=NU:=by
 unfold Q8 y4;dsimp only;rw[l];show (NR (CO "function")==NR (CO "function"))=NU
 decide +kernel
def aMB{h:Heap}{mg:Str→Option AE}{x:Str}{st:AO}{f:AF}{oc:AE}{an:Option AF}{dQ:Array (Option AE)}{kV bX pm ai:AE}(X:K.In h)(G:h.Ns As mg)(a:U4 K As x=NR (NR (.ref f)))(l:K.lookup f=NR ⟨oc,od,.func (G5 x x (gA st) (cM st) (aK st) .none kV bX pm an ai ct),dQ⟩)(c:L6 K ai x=NU):Raw K mg x st:=aHL X G a l c (LR l)
def rM{f:AF}{nm q:Str}{st:AO}{kV dc pm cd:AE}{an:Option AF}(a:G3 K (.ref C) nm=NR (NR (.ref f)))(l:K.lookup f=NR ⟨.type "function",od,.func (G5 nm q (gA st) (cM st) (aK st) .none kV dc pm an cd ct),sl⟩)(c:L6 K cd q=NU):iB K C nm q st NV:=aFn a (MF l) l c (LR l)
def rD{f T:AF}{nm q:Str}{st:AO}{kV dc pm cd ot:AE}{an dt:Option AF}{s2:Array (Option AE)}(a:G3 K (.ref C) nm=NR (NR (.ref f)))(l:K.lookup f=NR ⟨.type "function",od,.func (G5 nm q (gA st) (cM st) (aK st) (.ref T) kV dc pm an cd ct),sl⟩)(c:L6 K cd q=NU)(t:K.lookup T=NR ⟨ot,dt,.seq #[.none] nt,s2⟩):iB K C nm q st NU:=aCR a (MF l) l c (LR l) t
def rI{h:Heap}{mg:Str→Option AE}(X:K.In h)(G:h.Ns As mg){f:AF}{cn q:Str}{st:AO}{kV dc pm cd:AE}{an:Option AF}(x:U4 K As cn=NR (NR (.ref C)))(a:G3 K (.ref C) "__init__"=NR (NR (.ref f)))(l:K.lookup f=NR ⟨.type "function",od,.func (G5 "__init__" q (gA st) (cM st) (aK st) .none kV dc pm an cd ct),sl⟩)(c:L6 K cd q=NU)(m:W6 K C=NU)(k:K7 K (.ref C)=NU):RP K mg cn C q st:=aFo X G x a (MF l) l c m k
def cX{h:Heap}{P:AF→Prop}(X:K.In h)(a:U4 K As cn=NR (NR (.ref C)))(p:P C):∃C,P C:=⟨C,p⟩
def cF{fn:List Str}(a:S6 K C MW=NU)(b:U9 K C=NU)(c:Y3 K C=NU)(d:G3 K (.ref C) "__setattr__"=NR (NR (.builtin "object.__setattr__")))(e:∀x∈fn,G3 K (.ref C) x=NR sx):kW K C fn:=⟨⟨a,b,c,d⟩,e⟩
def walk{l:u9}{q:AQ}{loose:List Str}{XP:(Str→Option AE)→Heap→Prop}{YP:AS→Heap→Prop}{d:DefRec}{K:LN→aG}(hn:l.most=NR 63)(sK:d.params.defaults=[])(hdn:d.name = "law")
 (hY:∀(w:AS)(h:Heap),YP w h→(K w.params).In h)
 (F:∀(w:AS)(mg:Str→Option AE)(h:Heap)(k:aG),k=K w.params→k.In h→h.Ns As mg→(∃C:AF,kW k C lA∧RP k mg "Bench" C "Bench.__init__" uM∧iB k C "stone" "Bench.stone" vM NV∧iB k C "check_pane" "Bench.check_pane" sE NV∧iB k C "check_place" "Bench.check_place" qP NV∧iB k C "seen" "Bench.seen" Gs NV∧iB k C "check_change" "Bench.check_change" qF NV∧iB k C "put" "Bench.put" Ma NU∧iB k C "strike" "Bench.strike" zH NV∧iB k C "carve" "Bench.carve" vQ NU)∧(∃C:AF,kW k C fV∧RP k mg "Weaver" C "Weaver.__init__" vL∧iB k C "order" "Weaver.order" zA NV∧iB k C "record_of" "Weaver.record_of" sG NV∧iB k C "write" "Weaver.write" zB NV∧iB k C "coming_in" "Weaver.coming_in" sH NV∧iB k C "write_tied" "Weaver.write_tied" qQ NV∧iB k C "further_needs" "Weaver.further_needs" oO NV∧iB k C "rewrite" "Weaver.rewrite" uP NU∧iB k C "box_ahead" "Weaver.box_ahead" sI NV∧iB k C "link" "Weaver.link" Br NV∧iB k C "last_change" "Weaver.last_change" qH NV∧iB k C "leave" "Weaver.leave" zF NU∧iB k C "free" "Weaver.free" Bu NV∧iB k C "going_out" "Weaver.going_out" sJ NV∧iB k C "enter" "Weaver.enter" tO NU)∧Raw k mg "_law_cell" Ud∧Raw k mg "_law_sizes" Lw∧Raw k mg "_law_mixed" Lx∧Raw k mg "_law_record" Gn∧Raw k mg "_law_built" xG∧Raw k mg "thing_at" Uh∧Raw k mg "spot_of" HQ∧Raw k mg "record_at" Ly∧Raw k mg "string_of" Lz∧Raw k mg "many_boxes" Gp∧Raw k mg "loose_boxes" vK∧Raw k mg "_law_spread" Gr∧Raw k mg "_law_own" HS∧Raw k mg "known" HW∧Raw k mg "_law_key" HY∧Raw k mg "_law_done" Jo∧Raw k mg "ripe_among" zG∧Raw k mg "_law_keyed" Mf∧Raw k mg "is_grid" Jq∧Raw k mg "is_sound_string" lE∧Raw k mg "is_whole" Ul∧Raw k mg "are_whole" Eb∧Raw k mg "is_seal" IK∧Raw k mg "is_record" Mg∧Raw k mg "is_full_pane" vR∧Raw k mg "is_sound" Js∧Raw k mg "law" aDk∧mg "len"=sx∧mg "abs"=sx∧mg "list"=sx∧mg "range"=sx∧mg "isinstance"=sx∧mg "int"=sx∧mg "sorted"=sx∧mg "set"=sx∧mg "tuple"=sx∧mg "min"=sx∧mg "all"=sx∧mg "max"=sx∧mg "any"=sx∧mg "zip"=sx∧mg "bool"=sx∧eG mg "HEAD" (0)∧eG mg "NEXT" (1)∧eG mg "THING" (2)∧eG mg "KEY" (0)∧eG mg "WAS" (2)∧eG mg "NOW" (3)∧eG mg "AGE" (4)∧eG mg "NEEDS" (3)∧eG mg "PANE" (0)∧eG mg "PLACE" (1)∧eG mg "NONE" (-1)) :
 z8 q loose XP YP l.row.toRowW d [] (λf vs=>u8 f vs):=by
 refine L2.aAS (n:=63) (k:=9) (x:="script") (CX:=λ_=>MJ) (sp:=λw=>spB (K w.params)) hn (by decide) sK ⟨U,by decide,by decide⟩ hY ?_ (λ_ _ a ns hl hb _ hS=>⟨a,ns,U,hS,hl,hb,λ_=>rfl⟩) λ_ _ _ _ _ z=>z;intro w mg fa h KX G om;obtain⟨⟨C0,bG,hV,gS,eJ,du,hW,dE,ic,fm,gT⟩,⟨C1,aV,gX,fq,eK,fv,eL,dv,cf,fE,eS,gg,dP,fw,gh,eW,fz⟩,kS,ij,ip,hZ,iq,kT,mE,jI,jS,iA,gi,iE,mI,oQ,mM,kU,iF,ja,mN,fF,kX,jv,mP,kA,gp,kb,RLaw,dZ,aII,kI,lF,dG,pS,tU,aIJ,Ml,aIK,zO,aIL,aIM,aIN,aDq,vU,qJ,Mj,Ms,pT,JH,JK,lg,aDo,lq,Uv⟩:=F w mg h _ rfl KX G;obtain⟨κ,e0,e1⟩:∃κ:Nat→AF,κ 0=C0∧κ 1=C1:=⟨(λn=>match n with | 0=>C0 | _=>C1),U,U⟩
 subst e0 e1;obtain⟨f,fd,FL,m⟩:=RLaw.ex;rw[hdn]at om;have e:=om.symm.trans m;cases e;refine⟨fd,iw FL (λ_ _ _ _ _ _ u=>rfl),λbase _ _=>?_⟩;have rK:=jy l.prog w mg base kS  dZ;have Mh:=WR l.prog w mg base ij rK;have nT:=WT l.prog w mg base ip;have zJ:=IV l.prog w mg base hZ nT  aII;have Mx:=WW l.prog w mg base iq Mh rK nT zJ  kI lF dZ;have Gu:=IW l.prog w mg base hV bG  kI;have Up:=jz l.prog w mg base kT;have Ec:=aBb l.prog w mg base mE  dZ;have pR:=WY l.prog w mg base jI Ec Up;have nU:=XC l.prog w mg base jS pR  kI vU qJ;have lO:=JB l.prog w mg base iA  dZ;have Ca:=Wj l.prog w mg base gi nU lO  lF vU;have vV:=Wk l.prog w mg base gX bG aV Gu lO Ec nU Ca  lF;have lQ:=Uq l.prog w mg base fq aV  kI;have Hg:=JD l.prog w mg base iE;have Cj:=Wm l.prog w mg base gS bG  kI;have JS:=aBc l.prog w mg base mI  dZ lF dG pS;have jR:=Ju l.prog w mg base eJ bG  dZ;have iV:=Gv l.prog w mg base du bG jR  dZ;have Gw:=JG l.prog w mg base hW bG iV  Mj;have bH:=Jw l.prog w mg base eK aV bG Gw;have iH:=Er l.prog w mg base dE bG  dZ;have Mm:=XH l.prog w mg base ic bG iV iH  kI dZ tU aIJ Ml;have kj:=aDm l.prog w mg base oQ;have nW:=Ur l.prog w mg base fv aV bG Mm kj;have sO:=Jx l.prog w mg base eL aV;have iW:=Gy l.prog w mg base dv aV nW sO;have cH:=Af l.prog w mg base cf bG aV iH  kI;have uR:=Mr l.prog w mg base fE aV bH iW cH  Ms qJ;have jT:=Jz l.prog w mg base eS aV  vU;have pU:=Wn l.prog w mg base gg aV bH iW  Ms pT JH JK;have qK:=Es l.prog w mg base dP aV;have zM:=Us l.prog w mg base fw aV jT qK cH pU bH  qJ;have Cd:=Wo l.prog w mg base gh aV  tU;have JM:=aBf l.prog w mg base mM  dZ;have sS:=Kc l.prog w mg base eW aV;have zN:=Ut l.prog w mg base fz aV cH bH jT nW sS pU  dZ aIK Ms qJ;have Uy:=km l.prog w mg base kU aV lQ zM uR Cd bH JM zN  dZ tU;have Hf:=JN l.prog w mg base iF  zO kI lg;have zP:=Uu l.prog w mg base fm bG  aDo lq Mj;have vW:=Wq l.prog w mg base gT bG jR Hf zP  aIL;have My:=XQ l.prog w mg base ja  dZ;have JR:=aBg l.prog w mg base mN  dZ dG kI zO;have uU:=Mv l.prog w mg base fF nU pR  aIM aIN zO vU qJ JH Uv JK Ms;have Uw:=lr l.prog w mg base kX  dG aDq pS;have uE:=XS l.prog w mg base jv Uw  zO dZ dG Ml;have JQ:=aBi l.prog w mg base mP uE;have Mw:=XX l.prog w mg base kA uE  JK JH Uv pT qJ;have Cg:=Wr l.prog w mg base gp Mw JQ  zO;have Ux:=mj l.prog w mg base kb JR lO uU Cg  zO;exact aIO _ _ _ _ FL aV bG Mx vV lQ bH Hg vW Cj JS Ux My Uy  dZ lF (aD8 κ)
end Rs
open PySem PySem.W PyProof.Rows
set_option maxRecDepth 100000 in
set_option maxHeartbeats 0 in
theorem PySem.Challenge.cw_ripestone_k32_whole_sound_holds : PySem.Challenge.rw_ripestone_k32_whole_sound.Holds := by
 w_on;o_law;k_head;(case hw=>w_witness2)
 k_fill
 refine Rs.walk (l:=PySem.Challenge.rw_ripestone_k32_whole_sound) U U U (λw h Y=>PySem.W.kIn_of Y) ?F
 case F=>
  intro w mg h k e KX G;subst e;refine⟨?_,?_,?_,?_,?_,?_,?_,?_,?_,?_,?_,?_,?_,?_,?_,?_,?_,?_,?_,?_,?_,?_,?_,?_,?_,?_,?_,?_,?_,G9 KX G ?_,G9 KX G ?_,G9 KX G ?_,G9 KX G ?_,G9 KX G ?_,G9 KX G ?_,G9 KX G ?_,G9 KX G ?_,G9 KX G ?_,G9 KX G ?_,G9 KX G ?_,G9 KX G ?_,G9 KX G ?_,G9 KX G ?_,G9 KX G ?_,?_,?_,?_,?_,?_,?_,?_,?_,?_,?_,?_⟩
  ·refine' Rs.cX (cn:="Bench") KX ?xa0 ?zz0
   (case xa0=>k_is)
   refine⟨?_,?_,?_,?_,?_,?_,?_,?_,?_,?_⟩
   ·refine' Rs.cF ?fa0 ?fb0 ?fc0 ?fd0 ?fe0
    (case fa0=>k_is);(case fb0=>k_is);(case fc0=>k_is);(case fd0=>k_is)
    dsimp only[Rs.lA]
    repeat' (first | refine j8.mpr ⟨?_,?_⟩ | exact l4 _ | k_is)
   ·refine' Rs.rI KX G ?ix0 ?ia0 ?il0 ?ic0 ?im0 ?ik0
    (case ix0=>k_is);(case ia0=>k_is);(case il0=>k_is);(case ic0=>k_is);(case im0=>k_is);(case ik0=>k_is)
   ·walk_at "m"
   ·walk_at "m"
   ·walk_at "m"
   ·walk_at "m"
   ·walk_at "m"
   ·walk_at "e"
   ·walk_at "m"
   ·walk_at "e"
  ·refine' Rs.cX (cn:="Weaver") KX ?xa1 ?zz1
   (case xa1=>k_is)
   refine⟨?_,?_,?_,?_,?_,?_,?_,?_,?_,?_,?_,?_,?_,?_,?_,?_⟩
   ·refine' Rs.cF ?fa1 ?fb1 ?fc1 ?fd1 ?fe1
    (case fa1=>k_is);(case fb1=>k_is);(case fc1=>k_is);(case fd1=>k_is)
    dsimp only[Rs.fV]
    repeat' (first | refine j8.mpr ⟨?_,?_⟩ | exact l4 _ | k_is)
   ·refine' Rs.rI KX G ?ix1 ?ia1 ?il1 ?ic1 ?im1 ?ik1
    (case ix1=>k_is);(case ia1=>k_is);(case il1=>k_is);(case ic1=>k_is);(case im1=>k_is);(case ik1=>k_is)
   ·walk_at "m"
   ·walk_at "m"
   ·walk_at "m"
   ·walk_at "m"
   ·walk_at "m"
   ·walk_at "m"
   ·walk_at "e"
   ·walk_at "m"
   ·walk_at "m"
   ·walk_at "m"
   ·walk_at "e"
   ·walk_at "m"
   ·walk_at "m"
   ·walk_at "e"
  iterate 27
   ·refine' Rs.aMB KX G ?a ?l ?c
    (case a=>k_is);(case l=>k_is);(case c=>k_is)
  iterate 15
   ·k_is
  ·refine' L2.mW KX G ?a
   (case a=>k_is)
  ·refine' L2.mW KX G ?a
   (case a=>k_is)
  ·refine' L2.mW KX G ?a
   (case a=>k_is)
  ·refine' L2.mW KX G ?a
   (case a=>k_is)
  ·refine' L2.mW KX G ?a
   (case a=>k_is)
  ·refine' L2.mW KX G ?a
   (case a=>k_is)
  ·refine' L2.mW KX G ?a
   (case a=>k_is)
  ·refine' L2.mW KX G ?a
   (case a=>k_is)
  ·refine' L2.mW KX G ?a
   (case a=>k_is)
  ·refine' L2.mW KX G ?a
   (case a=>k_is)
  ·refine' L2.mW KX G ?a
   (case a=>k_is)
#print axioms PySem.Challenge.cw_ripestone_k32_whole_sound_holds
