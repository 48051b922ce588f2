import PyProof.Rows.All
import Wide.All
import OpenK.AllK
import Wide.FinOn
import Lean
import PyProof.EqAt
import PyProof.EqKinds
import PyProof.TupleCall
import PySem.Challenge.RW_ripestone_k31_whole_string
macro"~"t:term:tactic=>`(tactic|exact $t)
macro"&"t:term:tactic=>`(tactic|refine $t)
macro"A6":term=>`(by omega)
macro"A7":term=>`(by decide +kernel)
macro"A8":term=>`(by decide)
macro"A9":term=>`(by exact Nat.le_of_ble_eq_true rfl)
macro"B4"i:(ppSpace colGt ident)+ l:(Lean.Parser.Tactic.location)?:tactic=>`(tactic|unfold $i* $[$l]?)
macro"B3"p:Lean.Parser.Tactic.rcasesPatMed":="t:term:tactic=>`(tactic|obtain $p := $t)
macro"B3"p:Lean.Parser.Tactic.rcasesPatMed":"y:term":="t:term:tactic=>`(tactic|obtain $p : $y := $t)
open Lean.Parser.Command in
macro"B5"n:declId s:declSig v:declVal:command=>`(command|theorem $n $s $v)
open Array renaming length_toList→K3,getElem?_toList→L8,getElem?_eq_getElem→O1,getD→P5,getElem_toList→V3,toList_push→j9,toList→u4
open Bool renaming false_ne_true→E2,and_eq_true→G9,eq_iff_iff→N3,false_eq_true→W8,eq_false_iff→X7,or_eq_true→m8,and_false→o9,or_false→t8
open Int renaming toNat_natCast→C8,emod_nonneg→F6,emod_lt_of_pos→F9,le_of_lt→N0,natCast_nonneg→N9,toNat_of_nonneg→Q2,pow_pos→Q8,natCast_mul→V9,zero_add→Y4,natCast_emod→Y8,natCast_ediv→Y9,le_refl→b9,mul_nonneg→r6
open Int.ofNat renaming inj→u3
open List renaming getElem?_eq_getElem→B6,length_map→B7,getD_eq_getElem?_getD→B8,getElem?_map→C4,mem_cons→C5,mem_cons_of_mem→C6,length_append→C7,mem_cons_self→C9,range→D2,size_toArray→D3,getElem?_eq_some_iff→D4,map_cons→D5,length_cons→D8,mem_singleton→D9,getElem?_eq_none→E1,length_range→E3,mem_of_getElem?→E4,replicate→E7,nodup_cons→E8,mem_append_right→F0,append_nil→F2,length_take→F3,mem_range→F5,mem_append→G0,getElem?_append_left→G3,getElem?_set→G4,mem_map→G5,mem_append_left→G6,getElem?_range→G8,map_append→J0,getElem_of_mem→J1,getElem?_set_self→J3,zipWith_cons_cons→J4,pairwise_cons→J7,length_set→K2,map_map→K4,ext_getElem?→K5,pairwise_iff_getElem→K6,pairwise_append→K7,mem_filter→K9,map_nil→L3,mem_of_mem_take→L5,eq_nil_of_length_eq_zero→L6,getElem?_append_right→M0,take_sublist→M5,take_append_drop→M6,all_eq_true→M8,eraseIdx_cons_succ→N1,filter_nil→N4,length_drop→N6,getElem_mem→N7,take_length→N8,drop_eq_getElem_cons→O0,append_assoc→O3,take_add_one→O4,filter_cons_of_pos→O5,filter_cons_of_neg→O6,take_of_length_le→O7,filter_append→P1,find?_cons→P2,nodup_append→P4,erase_cons_tail→P6,cons_append→Q1,filter_sublist→Q3,filter_eq_self→Q4,erase_eq_eraseIdx_of_idxOf→Q5,getElem?_replicate→Q6,zip_cons_cons→Q7,getElem_take→Q9,length_replicate→R0,zipWith→R1,zipWith_nil_left→R3,idxOf_lt_length_of_mem→R5,lookup→R7,filterMap_cons→R8,map_congr_left→R9,length_pos_iff→S0,foldl_append→T6,pairwise_map→T7,filter_congr→T8,pairwise_lt_range→T9,any_cons→U0,lookup_cons→U2,any_eq_true→U4,drop_length→U5,eraseIdx_sublist→U7,eraseIdxIfInBounds_toArray→U8,getElem?_set_ne→U9,idxOf_cons→V4,getLast?_concat→V5,mem_of_mem_drop→V6,idxOf_cons_self→V7,getD_cons_succ→W3,getElem?_drop→W9,getElem?_take→X0,length_eraseIdx_of_lt→X1,getLast?_eq_getElem?→X9,ext_getElem→Y1,length_erase_of_mem→Y2,set_set→Y3,map_set→Y7,getElem?_cons_succ→Z6,of_mem_zip→a7,nil_append→a8,length_zip→a9,range_succ→b6,filter_eq_nil_iff→c7,nodup_nil→c9,reverse_reverse→d9,range_eq_range'→e9,mem_of_getLast?→f6,forall_mem_cons→f7,map_take→g6,map_drop→g7,take_succ_cons→g8,replicate_succ→g9,forall_mem_nil→h9,mem_filterMap→i4,getElem_idxOf→j0,erase_sublist→j5,reverse_cons→j7,drop_sublist→j8,getLast?_map→k9,length→l0,range'_succ→l5,filter_cons→l7,nodup_range→l8,filter_map→o6,foldl_cons→o7,drop_zero→r0,take_zero→r9,all_cons→t9
open List.Pairwise renaming nil→k7,map→k8
open List.Perm renaming refl→T1,append_left→d6,swap→p6
open Nat renaming le_refl→D1,lt_of_lt_of_le→E5,ne_of_lt→E9,le_trans→G1,not_lt_zero→I0,lt_or_ge→J2,lt_irrefl→L7,le_succ→L9,zero_le→M3,lt_succ_self→M7,lt_succ_of_lt→N2,le_of_lt→O8,zero_add→P0,mul_le_mul→P7,ne_of_gt→P8,le_of_ble_eq_true→R4,mod_lt→T2,succ_le_succ→U1,div_lt_of_lt_mul→V8,mul_pos→W5,lt_of_le_of_lt→W7,sub_self→Z0,le_of_eq→i5,min_self→i8,eq_zero_or_pos→i9,sub_zero→j4,div_add_mod→n9,mod_add_div→o0
open Nat.succ renaming inj→u5
open Option renaming bind_some→B9,map_some→G7,isSome_iff_exists→S5,getD_some→U3,isSome_map→X6,map_eq_none_iff→c6,isSome_some→i7,getD_none→l4,map_map→p7,none→u6
open Option.some renaming inj→F1
open Or renaming inr→D6,inl→D7
open Prod renaming ext→l6
open PyProof.Rows renaming boot_list→J5,callWith_type1→J6,boot_sorted→T0,callWith_builtin1→V2,boot_range→Z8
open PyProof.Rows.F renaming plain_set_update_loop→O9,entry_set_update_loop→S7
open PySem renaming boot_len→F4,mem_of_lookup→N5,Within→i3,call→m9
open PySem.F renaming plainAttrs_list→E6,slot_list_append→J8,type_list_append→J9,called_set→M9,slot_list_remove→S8,type_list_remove→S9,slot_list_index→T3,type_list_index→T4,slot_dict_get→U6,plain_extend_loop→X8,slot_list_insert→Y5,type_list_insert→Y6,args_dict_get_2→Z5,plain_list_iadd→Z7,entry_dict_get→b8,plain_set_new→d7,slot_set_iter→d8
open PySem.W renaming findIn→F8,fnOf→G2,mg_none_of→K0,kitOne→K1,keepIn→K8,kia_one→L0,codeIn→L4,emptyDict→M4,instObj→O2,isFn→P9,plainGet→R6,nsIn→S6,hasDictIn→T5,makesIn→V1,plainGet_of→W0,lookIn→W4,callWith_K→W6,methodObj→X2,plainOver→X3,specialIn→X4,kitx_list→X5,takerIn→Z9,cellsFrom_some→b7,methodCall_KW→c8,mg_of→f9,kitx_tuple→i6,kitx_dict→j6,handedIn→l3,hideAll→l9,takesIn→m7,OpenLaw→n8,typeIn→o8,kitCls→p5,mroIn→t7,WalkO→u0
open Sum renaming inl→F7,inr→Y0
abbrev aF:=PySem.W.Frag
B5 aX{α:Type u_1}{b:α}{β:Type u_2}{x:Option β}{f:β→Option α}(h:x.bind f=some b):∃a,x=some a∧f a=some b:=Option.bind_eq_some_iff.mp h
B5 lJ{α:Type u_1}{b:α}{β:Type u_2}{x:Option β}{f:β→α}(h:x.map f=some b):∃a,x=some a∧f a=b:=Option.map_eq_some_iff.mp h

set_option Elab.async false
set_option linter.all false
set_option maxRecDepth 100000
namespace L2
open PySem PySem.Spec PyProof.Rows
abbrev Key:=Sum Int Str
def Tt:Key→Value→Bool
 | .inl k,v=>Value.isInt k v
 | .inr x,v=>Value.isStrOf x v
def aI4(w:World):Key→Int
 | .inl k=>hashInt k
 | .inr x=>hashStr w x
B5 gK:∀{k:Key} {v:Value},Tt k v=true→(∃i t,k=F7 i∧v=Value.int i t)∨(∃x t,k=Y0 x∧v=Value.str x t)
 | .inl i,v,h=>by
  B3⟨t,e⟩:=Value.isInt_shape (k:=i) (v:=v) h
  ~.inl ⟨i,t,rfl,e⟩
 | .inr x,v,h=>by
  B3⟨t,e⟩:=Value.isStrOf_shape (x:=x) (v:=v) h
  ~.inr ⟨x,t,rfl,e⟩
B5 jx(i:Int)(t:Tok):Tt (.inl i) (.int i t)=true:=by simp[Tt,Value.isInt]
B5 jy(x:Str)(t:Tok):Tt (.inr x) (.str x t)=true:=by simp[Tt,Value.isStrOf]
B5 aEZ(a b:Int):decide ((F7 a:Key)=F7 b)=(a==b):=by
 by_cases e:a=b
 ·subst e;simp
 ·have h:¬(F7 a:Key)=F7 b:=fun q=>e (Sum.inl.inj q)
  rw[decide_eq_false h]
  ~(beq_eq_false_iff_ne.mpr e).symm
B5 aE0(a b:Str):decide ((Y0 a:Key)=Y0 b)=decide (a=b):=by
 by_cases e:a=b
 ·subst e;simp
 ·have h:¬(Y0 a:Key)=Y0 b:=fun q=>e (Sum.inr.inj q)
  rw[decide_eq_false h,decide_eq_false e]
B5 aE1(a:Int)(b:Str):decide ((F7 a:Key)=Y0 b)=false:=decide_eq_false (fun q=>nomatch q)
B5 aE2(a:Str)(b:Int):decide ((Y0 a:Key)=F7 b)=false:=decide_eq_false (fun q=>nomatch q)
def iB(prog:Program)(w:World):PySem.KeyKind prog w Key where
  is:=Tt
  hash:=aI4 w
  inj:=fun v a b ha hb=>by
    rcases gK ha with ⟨i,t,rfl,rfl⟩ | ⟨x,t,rfl,rfl⟩
    · rcases gK hb with ⟨j,u,rfl,e⟩ | ⟨y,u,rfl,e⟩
      · injection e with e1 _;rw[e1]
      · ~nomatch e
    · rcases gK hb with ⟨j,u,rfl,e⟩ | ⟨y,u,rfl,e⟩
      · ~nomatch e
      · injection e with e1 _;rw[e1]
  byValue:=fun k v h=>by
    rcases gK h with ⟨i,t,rfl,rfl⟩ | ⟨x,t,rfl,rfl⟩<;>rfl
  pyHash:=fun hv h=>by
    rcases gK hv with ⟨i,t,rfl,rfl⟩ | ⟨x,t,rfl,rfl⟩
    · ~wpAny_pyHash_int h
    · ~wpAny_pyHash_str h
  eqBool:=fun hu hv h=>by
    rcases gK hu with ⟨i,t,rfl,rfl⟩ | ⟨x,t,rfl,rfl⟩
    · rcases gK hv with ⟨j,u,rfl,rfl⟩ | ⟨y,u,rfl,rfl⟩
      · rw[aEZ]at h;~wpAny_eqBool_int h
      · rw[aE1]at h;~SeqAt.EqAt.int_str i t y u _ _ _ _ h
    · rcases gK hv with ⟨j,u,rfl,rfl⟩ | ⟨y,u,rfl,rfl⟩
      · rw[aE2]at h;~SeqAt.EqAt.str_int x t j u _ _ _ _ h
      · rw[aE0]at h;~wpAny_eqBool_str h
  «strs»:=fun k x t v h=>by
    rcases gK h with ⟨i,u,rfl,e⟩ | ⟨y,u,rfl,e⟩
    · ~nomatch e
    · injection e with e1 _
      subst e1
      cases v<;>rfl
B5 CV(prog:Program)(w:World)(i:Int)(t:Tok):(iB prog w).is (.inl i) (.int i t)=true:=jx i t
B5 CW(prog:Program)(w:World)(x:Str)(t:Tok):(iB prog w).is (.inr x) (.str x t)=true:=jy x t
end L2
namespace L2
open PySem PySem.Spec PyProof.Rows
inductive V where
  | non | bl (b:Bool) | int (i:Int) | str (x:Str) | byt (b:Array UInt8) | flt (b:UInt64) | ref (a:Addr) | ty (n:String)
  deriving DecidableEq
def RelV:V→Value→Prop
 | .non,u=>u=Value.none
 | .bl b,u=>u=Value.bool b
 | .int i,u=>∃t,u=Value.int i t
 | .str x,u=>∃t,u=Value.str x t
 | .byt b,u=>∃t,u=Value.bytes b t
 | .flt b,u=>∃t,u=Value.float b t
 | .ref a,u=>u=Value.ref a
 | .ty n,u=>u=Value.type n
abbrev Vals:List V→List Value→Prop:=Paired RelV
B5 Vals.length{xs:List V}{us:List Value}(r:Vals xs us):xs.length=us.length:=Paired.length r
B5 Vals.get:∀{xs:List V} {us:List Value} {i:Nat} {x:V},Vals xs us→xs[i]?=some x→∃u,us[i]?=some u∧RelV x u
 | _,_,_,_,.nil,e=>by simp at e
 | _,_,0,_,.cons r _,e=>by simp at e;subst e;~⟨_,rfl,r⟩
 | _,_,i+1,x,.cons _ t,e=>by
  B3⟨u,h1,h2⟩:=Vals.get (i:=i) (x:=x) t (by simpa using e)
  ~⟨u,by simpa using h1,h2⟩
B5 Vals.set{x:V}{u:Value}(r:RelV x u):∀{xs:List V} {us:List Value} (i:Nat),Vals xs us→Vals (xs.set i x) (us.set i u)
 | _,_,_,.nil=>.nil
 | _,_,0,.cons _ t=>.cons r t
 | _,_,i+1,.cons q t=>.cons q (Vals.set r i t)
B5 Vals.append:∀{xs ys:List V} {us ws:List Value},Vals xs us→Vals ys ws→Vals (xs++ys) (us++ws)
 | _,_,_,_,.nil,s=>s
 | _,_,_,_,.cons r t,s=>.cons r (Vals.append t s)
B5 Vals.take:∀{xs:List V} {us:List Value} (n:Nat),Vals xs us→Vals (xs.take n) (us.take n)
 | _,_,0,_=>.nil
 | _,_,_+1,.nil=>.nil
 | _,_,n+1,.cons r t=>.cons r (Vals.take n t)
B5 Vals.drop:∀{xs:List V} {us:List Value} (n:Nat),Vals xs us→Vals (xs.drop n) (us.drop n)
 | _,_,0,r=>r
 | _,_,_+1,.nil=>.nil
 | _,_,n+1,.cons _ t=>Vals.drop n t
def yD:Option V→Option Value→Prop
 | some v,some u=>RelV v u
 | none,none=>True
 | _,_=>False
def KV{κ:Type}:List (κ×V)→List (κ×Value)→Prop:=Paired fun(p:κ×V) (q:κ×Value)=>p.1=q.1∧RelV p.2 q.2
def kV:Key→V
 | .inl i=>.int i
 | .inr x=>.str x
inductive HO where
  | lst (xs:List V)
  | tup (xs:List V)
  | dK (kvs:List (Key×V)) | dT (kvs:List (List Key×V))
  | set (S:Int→Bool) (n:Nat)
  | ins (C dx:Addr) (fs:List (Str×V))
  | own (x:Addr)
  | xd (fs:List (Str×V))
  | met (f x:Addr)
  | rng (lo hi:Int)
  | yM (o:Obj) (u:HO)
  | tbl (ps:Array Value)
  | ext (φ:Heap→Prop)
abbrev Hp:=Addr→Option HO
def upd(H:Hp)(a:Addr)(o:HO):Hp:=fun b=>if b=a then some o else H b
B5 cD{H:Hp}{a:Addr}{o:HO}:upd H a o a=some o:=by B4 upd;rw[if_pos rfl]
B5 bN{H:Hp}{a b:Addr}{o:HO}(h:b≠a):upd H a o b=H b:=by B4 upd;rw[if_neg h]
B5 aHj{H:Hp}{a b:Addr}{o u:HO}(h:H a=some o)(h':H b=some u)(d:o≠u):a≠b:=by
 intro e;subst e;rw[h]at h';~d (F1 h')
B5 gR{H:Hp}{a b:Addr}{o:HO}(h:H a=some o)(h':H b=none):a≠b:=by
 intro e;subst e;rw[h]at h';cases h'
section
variable(P:Program)(w:World)
def iV(H:Hp)(h:Heap)(a:Addr):HO→Prop
 | .lst xs=>xs.length≤sizeLine∧∃(its:List Value)(n:Nat),Vals xs its∧h.get? a=some {cls:=.type "list", data:=.seq its.toArray n}
 | .tup xs=>xs.length≤sizeLine∧∃its:List Value,Vals xs its∧IsTup h a its.toArray
 | .dK kvs=>kvs.length≤sizeLine∧(a==sysModules)=false∧∃vs,KV kvs vs∧h.DictOf (iB P w) a vs
 | .dT kvs=>kvs.length≤sizeLine∧(a==sysModules)=false∧∃xs:List (List Key×Addr×Value),
   Paired (fun(p:List Key×V) (q:List Key×Addr×Value)=>p.1=q.1∧H q.2.1=some (.tup (p.1.map kV))∧RelV p.2 q.2.2) kvs xs ∧
   ∃o es ep,h.get? a=some o∧o.ExactDict∧o.data=.dict es ep∧es.toList=xs.map (entryOfKey (tupleKind (iB P w)))∧(xs.map (·.1)).Nodup
 | .set S n=>h.SetOf (intKind P w) a S n
 | .ins C dx fs=>H dx=some (.own a)∧fs.length≤1000∧dx≠a∧h.get? a=some (O2 C dx) ∧
   ∃mA,h.Ns1 dx mA∧(∀f,yD (fs.lookup f) (mA f))∧i3 mA (fs.map (·.1))
 | .own _=>∃o,h.get? a=some o
 | .xd fs=>∃mA,h.Ns1 a mA∧∀f,yD (fs.lookup f) (mA f)
 | .rng lo hi=>∃t u v,h.get? a=some {cls:=.type "range", data:=.fields #[.int lo t,.int hi u,.int 1 v]}
 | .yM o u=>h.get? a=some o∧iV H h a u
 | .tbl ps=>h.get? a=some {cls:=.none,data:=.fields ps}
 | .met f x=>h.get? a=some (X2 (.ref f) (.ref x))
 | .ext φ=>φ h∧(∃o,h.get? a=some o)∧∀h1 h2:Heap,φ h1→(∀o,h1.get? a=some o→h2.get? a=some o)→φ h2
def Cq(H:Hp)(h:Heap):Prop:=∀a o,H a=some o→iV P w H h a o
end
section
variable{P:Program}{w:World}{H H':Hp}{h h':Heap}{a:Addr}{o:HO}
B5 iV.lt(x:iV P w H h a o):a<h.objs.size:=by
 cases o with
 | lst xs=>B3⟨_,_,_,_,e⟩:=x;~Heap.lt_size e
 | tup xs=>B3⟨_,_,_,p⟩:=x;~p.lt
 | dK kvs=>B3⟨_,_,_,_,o,_,_,e,_⟩:=x;~Heap.lt_size e
 | dT kvs=>B3⟨_,_,_,_,o,_,_,e,_⟩:=x;~Heap.lt_size e
 | set S n=>B3⟨o,_,_,_,e,_⟩:=x;~Heap.lt_size e
 | ins C dx fs=>B3⟨_,_,_,e,_⟩:=x;~Heap.lt_size e
 | own y=>B3⟨_,e⟩:=x;~Heap.lt_size e
 | xd fs=>B3⟨_,⟨_,_,_,e,_⟩,_⟩:=x;~Heap.lt_size e
 | rng lo hi=>B3⟨_,_,_,e⟩:=x;~Heap.lt_size e
 | yM ob u=>B3⟨e,_⟩:=x;~Heap.lt_size e
 | tbl ps=>~Heap.lt_size (show h.get? a=some _ from x)
 | met f y=>~Heap.lt_size (show h.get? a=some _ from x)
 | ext φ=>B3⟨_,⟨_,e⟩,_⟩:=x;~Heap.lt_size e
B5 Paired.aE3{α β:Type}{F G:α→β→Prop}:∀{l₁:List α} {l₂:List β},Paired F l₁ l₂→(∀a b,F a b→G a b)→Paired G l₁ l₂
 | _,_,.nil,_=>.nil
 | _,_,.cons r t,f=>.cons (f _ _ r) (Paired.aE3 t f)
B5 iV.stay(x:iV P w H h a o)(k:∀b u,(b=a∨H b=some (.own a))→h.get? b=some u→h'.get? b=some u)
  (ho:∀b,H b=some (.own a)→H' b=some (.own a)) (ht:∀b xs,H b=some (.tup xs)→H' b=some (.tup xs)):iV P w H' h' a o:=by
 induction o with
 | lst xs=>B3⟨z,its,n,r,e⟩:=x;~⟨z,its,n,r,k _ _ (.inl rfl) e⟩
 | tup xs=>B3⟨z,its,r,ob,e,c⟩:=x;~⟨z,its,r,ob,k _ _ (.inl rfl) e,c⟩
 | dK kvs=>B3⟨z,y,vs,r,ob,es,ep,e,c⟩:=x;~⟨z,y,vs,r,ob,es,ep,k _ _ (.inl rfl) e,c⟩
 | dT kvs=>
  B3⟨z,y,xs,r,ob,es,ep,e,c⟩:=x
  ~⟨z,y,xs,Paired.aE3 r fun p q z=>⟨z.1,ht _ _ z.2.1,z.2.2⟩,ob,es,ep,k _ _ (.inl rfl) e,c⟩
 | set S n=>B3⟨ob,es,ep,t,e,c⟩:=x;~⟨ob,es,ep,t,k _ _ (.inl rfl) e,c⟩
 | ins C dx fs=>
  B3⟨d,z,ne,e,mA,⟨od,es,ep,e2,c⟩,r⟩:=x
  ~⟨ho _ d,z,ne,k _ _ (.inl rfl) e,mA,⟨od,es,ep,k _ _ (.inr d) e2,c⟩,r⟩
 | own y=>B3⟨ob,e⟩:=x;~⟨ob,k _ _ (.inl rfl) e⟩
 | xd fs=>B3⟨mA,⟨od,es,ep,e,c⟩,r⟩:=x;~⟨mA,⟨od,es,ep,k _ _ (.inl rfl) e,c⟩,r⟩
 | rng lo hi=>B3⟨t,u,v,e⟩:=x;~⟨t,u,v,k _ _ (.inl rfl) e⟩
 | yM ob u ih=>B3⟨e,q⟩:=x;~⟨k _ _ (.inl rfl) e,ih q⟩
 | tbl ps=>
  have e:h.get? a=some {cls:=.none,data:=.fields ps}:=x
  show h'.get? a=some {cls:=.none,data:=.fields ps}
  ~k a _ (.inl rfl) e
 | met f y=>
  have e:h.get? a=some (X2 (.ref f) (.ref y)):=x
  show h'.get? a=some (X2 (.ref f) (.ref y))
  ~k a _ (.inl rfl) e
 | ext φ=>B3⟨p,⟨o,e⟩,st⟩:=x;~⟨st _ _ p fun o q=>k _ _ (.inl rfl) q,⟨o,k _ _ (.inl rfl) e⟩,st⟩
B5 Cq.lt(x:Cq P w H h)(e:H a=some o):a<h.objs.size:=(x a o e).lt
B5 Cq.fresh(x:Cq P w H h)(e:h.objs.size≤a):H a=none:=by
 cases q:H a with
 | none=>rfl
 | some u=>~absurd (E5 (x.lt q) e) (L7 _)
B5 Cq.kept(x:Cq P w H h)(k:∀b u,h.get? b=some u→h'.get? b=some u):Cq P w H h':=fun a o e=>
 (x a o e).stay (fun b u _ q=>k b u q) (fun _ q=>q) fun _ _ q=>q
B5 Cq.laid(x:Cq P w H h)(k:∀b u,h.get? b=some u→h'.get? b=some u)(hp:h.objs.size≤a)(new:iV P w (upd H a o) h' a o):Cq P w (upd H a o) h':=fun b u e=>by
 have hn:=x.fresh hp
 by_cases hb:b=a
 ·subst hb;rw[cD]at e;cases e;~new
 ·rw[bN hb]at e
  ~(x b u e).stay (fun c v _ q=>k c v q) (fun c q=>by rw[bN (gR q hn)];~q) fun c xs q=>by rw[bN (gR q hn)];~q
end
def Rd(H:Hp)(a:Addr)(u:HO):Prop:=H a=some u∨∃o,H a=some (.yM o u)
B5 Rd.ok{P:Program}{w:World}{H:Hp}{h:Heap}{a:Addr}{u:HO}(r:Rd H a u)(x:Cq P w H h):iV P w H h a u:=by
 rcases r with r | ⟨o,r⟩
 ·~x a u r
 ·B3⟨_,q⟩:=x a _ r
  ~q
def Mut:Option HO→Prop
 | some (.lst _)=>True
 | some (.dK _)=>True
 | some (.dT _)=>True
 | some (.set _ _)=>True
 | some (.ins _ _ _)=>True
 | some (.ext _)=>True
 | _=>False
section
variable{P:Program}{w:World}{H:Hp}{h h':Heap}{x e:Addr}{o':HO}
B5 Cq.write(ok:Cq P w H h)(mu:Mut (H x))(he:e=x∨H e=some (.own x))(k:∀b u,b≠e→h.get? b=some u→h'.get? b=some u)(heo:∃u,h'.get? e=some u)
  (new:iV P w (upd H x o') h' x o'):Cq P w (upd H x o') h':=fun b u q=>by
 have aHl:∀c y,H c=some (.own y)→c≠x:=fun c y r z=>by subst z;rw[r]at mu;~mu
 have aI5:∀c xs,H c=some (.tup xs)→c≠x:=fun c xs r z=>by subst z;rw[r]at mu;~mu
 by_cases hb:b=x
 ·subst hb;rw[cD]at q;cases q;~new
 ·rw[bN hb]at q
  by_cases hbe:b=e
  ·have q':H b=some (.own x):=by
    rcases he with z | z
    ·~absurd (hbe.trans z) hb
    ·rw[hbe];~z
   rw[q]at q';cases q'
   B3⟨v,hv⟩:=heo
   ~⟨v,by rw[hbe];~hv⟩
  ·&(ok b u q).stay (fun c v hc r=>k c v ?_ r) (fun c r=>by rw[bN (aHl c b r)];~r) fun c xs r=>by rw[bN (aI5 c xs r)];~r
   rcases hc with rfl | hc
   ·~hbe
   ·rintro rfl
    rcases he with z | z
    ·~aHl c b hc z
    ·rw[hc]at z;cases z;~hb rfl
end
structure Un(fs ex:List Addr)(H H':Hp)(h h':Heap):Prop where
 keep:∀b o,h.get? b=some o→H b=none→b∉fs→b∉ex→h'.get? b=some o
 slot:∀b o,h.get? b=some o→H b=none→b∈fs→b∉ex→∃sl,h'.get? b=some {o with slots:=sl}
 free:∀b o,h.get? b=some o→H b=none→b∉ex→H' b=none
 there:∀b o,h.get? b=some o→b∉ex→∃o',h'.get? b=some o'
 tups:∀b xs,H b=some (.tup xs)→H' b=some (.tup xs)
 Wo:∀b o u,H b=some (.yM o u)→H' b=some (.yM o u)
 CZ:∀b ps,H b=some (.tbl ps)→∃more,H' b=some (.tbl (ps++more))
section
variable{fs fs' ex ex':List Addr}{H H1 H2:Hp}{h h1 h2 h':Heap}{a x e:Addr}{o:HO}
B5 Un.any(u:Un fs ex H H1 h h1){b:Addr}{ob:Obj}(q:h.get? b=some ob)(n:H b=none)(hx:b∉ex):∃sl,h1.get? b=some {ob with slots:=sl}:=by
 by_cases hb:b∈fs
 ·~u.slot b ob q n hb hx
 ·~⟨ob.slots,u.keep b ob q n hb hx⟩
B5 Un.kept(k:∀b u,h.get? b=some u→h'.get? b=some u):Un fs ex H H h h':=
 ⟨fun b ob q _ _ _=>k b ob q,fun b ob q _ _ _=>⟨ob.slots,k b ob q⟩,fun _ _ _ n _=>n,fun b ob q _=>⟨ob,k b ob q⟩,fun _ _ q=>q,fun _ _ _ q=>q,fun _ ps q=>⟨#[],by rw[q];simp⟩⟩
B5 Un.refl:Un fs ex H H h h:=Un.kept fun _ _ q=>q
B5 Un.laid(k:∀b u,h.get? b=some u→h'.get? b=some u)(hp:h.objs.size≤a)(hn:H a=none):Un fs ex H (upd H a o) h h' where
 keep:=fun b u q _ _ _=>k b u q
 slot:=fun b u q _ _ _=>⟨u.slots,k b u q⟩
 free:=fun b u q n _=>by rw[bN (E9 (E5 (Heap.lt_size q) hp))];~n
 there:=fun b u q _=>⟨u,k b u q⟩
 tups:=fun b xs q=>by rw[bN (gR q hn)];~q
 Wo:=fun b u xs q=>by rw[bN (gR q hn)];~q
 CZ:=fun b ps q=>⟨#[],by rw[bN (gR q hn),q];simp⟩
B5 Un.write(mu:Mut (H x))(he:e=x∨H e=some (.own x))(k:∀b u,b≠e→h.get? b=some u→h'.get? b=some u)(heo:∃u,h'.get? e=some u):Un fs ex H (upd H x o) h h':=by
 have hx:∀b,H b=none→b≠x:=fun b n z=>by subst z;rw[n]at mu;~mu
 have hb:∀b,H b=none→b≠e:=fun b n z=>by
  subst z
  rcases he with r | r
  ·~hx b n r
  ·rw[n]at r;cases r
 have hm:∀b u,H b=some u→¬Mut (some u)→b≠x:=fun b u q nm z=>by subst z;rw[q]at mu;~nm mu
 &⟨fun b u q n _ _=>k b u (hb b n) q,fun b u q n _ _=>⟨u.slots,k b u (hb b n) q⟩,fun b u q n _=>by rw[bN (hx b n)];~n,fun b u q _=>?_,
  fun b xs q=>by rw[bN (hm b _ q fun z=>z)];~q,fun b u xs q=>by rw[bN (hm b _ q fun z=>z)];~q,fun b ps q=>⟨#[],by rw[bN (hm b _ q fun z=>z),q];simp⟩⟩
 by_cases hbe:b=e
 ·subst hbe;~heo
 ·~⟨u,k b u hbe q⟩
end
def trk(h:Heap)(H:Hp):List Addr:=(D2 h.objs.size).filter fun a=>(H a).isSome
def Wq(h:Heap)(H:Hp):Heap:=l9 h (trk h H)
B5 jz(h:Heap)(H:Hp):(Wq h H).objs.size=h.objs.size:=PySem.W.hideAll_size _ _
B5 xx{h:Heap}{H:Hp}{b:Addr}{o:Obj}(e:h.get? b=some o)(n:H b=none):(Wq h H).get? b=some o:=
 PySem.W.hideAll_get _ e fun hm=>by
  have q:(H b).isSome=true:=(K9.mp hm).2
  rw[n]at q;simp at q
B5 aCl{h:Heap}{H:Hp}{b:Addr}{o:Obj}(e:(Wq h H).get? b=some o):h.get? b=some o∧H b=none:=by
 have e':h.get? b=some o:=PySem.W.of_hideAll (trk h H) e
 &⟨e',?_⟩
 cases q:H b with
 | none=>rfl
 | some x=>
  have hm:b∈trk h H:=K9.mpr ⟨F5.mpr (Heap.lt_size e'),by simp[q]⟩
  have z:(Wq h H).get? b=none:=PySem.W.hideAll_none (trk h H) hm
  rw[z]at e;cases e
def aCm(g h:Heap)(L:Addr):List (Addr×Obj):=(D2 h.objs.size).filterMap fun a=>if a=L∨(g.get? a).isSome=true then none else(h.get? a).map fun o=>(a,o)
def rest(g h:Heap)(L d:Addr):List (Addr×Obj):=(aCm g h L).filter fun p=>decide (p.1≠d)
end L2
namespace L2
open PySem PySem.Spec PyProof.Rows
structure Mod(K:aF)(mg:Str→Option Value)(base:Heap):Prop where
 kin:K.In base
 glob:base.Ns mainGlobals mg
 blt:∃mb,base.Ns builtinsNs mb∧∀x:Str,x ≠ "__name__" → mb x=bootBuiltins x
 nolimit:base.NoLimit
structure Cx where
 prog:Program
 w:World
 K:aF
 mg:Str→Option Value
 base:Heap
 A:Around
 N:List Str
 s₀:Shared
 H₀:Hp
 env:Env
 outer:List Env
 stack:List Env
 ex:List Addr
 fn:Str→Bool
 calm:Bool
 pn:List (Addr×Obj)
 xe:Value→Shared→Prop
def frs(l:List Env):List Addr:=l.filterMap (·.frame)
abbrev Cx.fs(X:Cx):List Addr:=frs X.outer
def Ks(sc:Scope)(x:Str):Prop:=sc.names.lookup x=some .local∨sc.names.lookup x=some .cell∨sc.names.lookup x=some .free
def Loc(sc:Scope)(x:Str):Prop:=sc.names.lookup x=some .local∨sc.names.lookup x=some .cell
def Look(env:Env)(h:Heap)(m:Str→Option Value)(x:Str)(u:Value):Prop:=
 (env.kindOf x=some .local∧m x=some u)∨((env.kindOf x=some .cell∨env.kindOf x=some .free)∧∃c,env.cells.lookup x=some c∧h.IsCell c (some u))
structure Cx.Ok(X:Cx):Prop where
 mod:Mod X.K X.mg X.base
 kind:X.env.scope.kind=.function
 glob:X.env.globals=mainGlobals
 blt:X.env.builtins=builtinsNs
 above:X.s₀.heap.objs.size≤X.env.locals
 inj:∀x y c,X.env.cells.lookup x=some c→X.env.cells.lookup y=some c→x=y
 has:∀x,(X.env.kindOf x=some .cell∨X.env.kindOf x=some .free)→∃c,X.env.cells.lookup x=some c
 cab:∀x c,X.fn x=true→X.env.cells.lookup x=some c→X.s₀.heap.objs.size≤c
 hd:X.calm=true→X.A.handled=none
 frames:X.A.frames=some X.stack
 stk:X.stack=X.outer∨(X.stack=X.env::X.outer∧X.env.frame=some X.env.locals)
 exf:∀b∈X.ex,b≠X.env.locals∧∀x c,X.env.cells.lookup x=some c→c≠b
 bs:∀b o,X.base.get? b=some o→X.s₀.heap.get? b=some o∧X.H₀ b=none
 bsz:X.base.objs.size≤X.s₀.heap.objs.size
 yc:∀b o,X.base.get? b=some o→b∉X.ex
 aCp:∀b∈X.ex,b∉X.fs
 Ku:X.s₀.heap.FunFrames X.base X.outer
 frf:∀b∈X.fs,X.H₀ b=none
structure Inv(X:Cx)(pins:List (Addr×Obj))(σ:List (Option V))(H:Hp)(s:Shared):Prop where
 ok:X.Ok
 os:s.os=X.s₀.os
 bare:AllBare s.gens
 base:Un X.fs X.ex X.H₀ H X.s₀.heap s.heap
 loc:∃m,s.heap.Ns X.env.locals m∧∀(i:Nat)(x:Str)(v:V),X.N[i]?=some x→σ[i]?=some (some v)→Ks X.env.scope x→∃u,RelV v u∧Look X.env s.heap m x u
 cell:∀x c,X.env.cells.lookup x=some c→∃v,s.heap.IsCell c v
 free:H X.env.locals=none
 xQ:∀x c,X.env.cells.lookup x=some c→H c=none
 pin:∀p∈X.pn++pins,s.heap.get? p.1=some p.2∧H p.1=none∧p.1≠X.env.locals∧p.1∉X.fs∧∀v,p.2.data≠.cell v
 hok:Cq X.prog X.w H s.heap
 len:σ.length=X.N.length
section
variable{X:Cx}{pins:List (Addr×Obj)}{σ:List (Option V)}{H H':Hp}{s:Shared}{h':Heap}
B5 Cx.Ok.aI6(ok:X.Ok){b:Addr}{o:Obj}(e:X.base.get? b=some o):b∉X.fs:=fun hb=>by
 have:=(ok.Ku.mem hb).1
 rw[e]at this;cases this
B5 Inv.bs(I:Inv X pins σ H s):∀b o,X.base.get? b=some o→s.heap.get? b=some o∧H b=none:=fun b o e=>
 ⟨I.base.keep b o (I.ok.bs b o e).1 (I.ok.bs b o e).2 (I.ok.aI6 e) (I.ok.yc b o e),I.base.free b o (I.ok.bs b o e).1 (I.ok.bs b o e).2 (I.ok.yc b o e)⟩
B5 Inv.bk(I:Inv X pins σ H s):∀b o,X.base.get? b=some o→s.heap.get? b=some o:=fun b o e=>(I.bs b o e).1
B5 Inv.mod(I:Inv X pins σ H s):Mod X.K X.mg X.base:=I.ok.mod
B5 Inv.Ht(I:Inv X pins σ H s):X.K.In s.heap:=I.ok.mod.kin.keeps I.bk
B5 Inv.lt(I:Inv X pins σ H s):X.env.locals<s.heap.objs.size:=let ⟨_,hn,_⟩:=I.loc;hn.lt
B5 Inv.sz(I:Inv X pins σ H s):X.s₀.heap.objs.size≤s.heap.objs.size:=G1 I.ok.above (O8 I.lt)
B5 Inv.aI7(I:Inv X pins σ H s){a:Addr}(h:s.heap.objs.size≤a):a∉X.fs:=fun hb=>by
 B3⟨_,o,ho,_⟩:=I.ok.Ku.mem hb
 ~absurd (E5 (Heap.lt_size ho) (G1 I.sz h)) (L7 _)
B5 Inv.cne(I:Inv X pins σ H s):∀x c,X.env.cells.lookup x=some c→c≠X.env.locals:=fun x c e z=>by
 B3⟨v,o,ho,hd⟩:=I.cell x c e
 B3⟨m,⟨o',es,ep,ho',hd',_⟩,_⟩:=I.loc
 rw[z,ho']at ho;cases ho;rw[hd']at hd;cases hd
B5 Inv.Ku(I:Inv X pins σ H s):s.heap.FunFrames X.base X.outer:=by
 have all:∀(l:List Env),(∀b∈frs l,b∈X.fs)→X.s₀.heap.FunFrames X.base l→s.heap.FunFrames X.base l:=by
  intro l
  induction l with
  | nil=>intro _ _;trivial
  | cons env r ih=>
   intro hs hl
   B3⟨hk,⟨L,o,hf,hn,ho,hd⟩,hr⟩:=hl
   have hL:L∈X.fs:=hs L (by B4 frs;rw[R8,hf];~C9)
   B3⟨sl,e⟩:=I.base.slot L o ho (I.ok.frf L hL) hL fun z=>I.ok.aCp L z hL
   ~⟨hk,⟨L,_,hf,hn,e,hd⟩,ih (fun b hb=>hs b (by B4 frs;rw[R8,hf];~C6 _ hb)) hr⟩
 ~all X.outer (fun _ hb=>hb) I.ok.Ku
B5 Inv.stack(I:Inv X pins σ H s):s.heap.FunFrames X.base X.stack:=by
 rcases I.ok.stk with e | ⟨e,hf⟩
 ·rw[e];~I.Ku
 ·rw[e]
  B3⟨m,hn,_⟩:=I.loc
  &.cons (by rw[I.ok.kind];decide) hf hn ?_ I.Ku
  ~Heap.get?_none_of_le (G1 I.ok.bsz I.ok.above)
B5 Inv.Wr(I:Inv X pins σ H s):∀b∈frs X.stack,b∈X.env.locals::X.fs:=fun b hb=>by
 rcases I.ok.stk with e | ⟨e,hf⟩
 ·rw[e]at hb;~C6 _ hb
 ·rw[e]at hb
  B4 frs at hb
  rw[R8,hf]at hb
  ~hb
B5 Inv.ZQ(I:Inv X pins σ H s):∀b∈frs X.stack,H b=none:=fun b hb=>by
 rcases C5.mp (I.Wr b hb)with e | hb
 ·rw[e];~I.free
 ·B3⟨_,o,ho,_⟩:=I.ok.Ku.mem hb
  ~I.base.free b o ho (I.ok.frf b hb) fun z=>I.ok.aCp b z hb
B5 Inv.step{g':Array GenState}{t':Nat}{d':Drawn}{ch:List Addr}(I:Inv X pins σ H s)
  (hch:∀b∈ch,(b∈X.ex∨X.s₀.heap.objs.size≤b)∧b≠X.env.locals∧(∀x c,X.env.cells.lookup x=some c→c≠b)∧∀p∈X.pn++pins,p.1≠b)
  (keep:∀b o,b≠X.env.locals→b∉X.fs→b∉ch→s.heap.get? b=some o→H b=none→h'.get? b=some o)
  (slot:∀b o,b≠X.env.locals→b∈X.fs→b∉ch→s.heap.get? b=some o→H b=none→∃sl,h'.get? b=some {o with slots:=sl}) (free:∀b o,b∉ch→s.heap.get? b=some o→H b=none→H' b=none)
  (there:∀b o,b∉ch→s.heap.get? b=some o→∃o',h'.get? b=some o')
  (tups:∀b xs,H b=some (.tup xs)→H' b=some (.tup xs)) (Wo:∀b o u,H b=some (.yM o u)→H' b=some (.yM o u)) (CZ:∀b ps,H b=some (.tbl ps)→∃more,H' b=some (.tbl (ps++more)))
  (ns:∀m,s.heap.Ns X.env.locals m→h'.Ns X.env.locals m) (hok:Cq X.prog X.w H' h') (hg:AllBare g') :
  Inv X pins σ H' {s with heap:=h',gens:=g',drawn:=d',toks:=t'}:=by
 have neL:∀b o,X.s₀.heap.get? b=some o→b≠X.env.locals:=fun b o e=>E9 (E5 (Heap.lt_size e) I.ok.above)
 have neC:∀b o,X.s₀.heap.get? b=some o→b∉X.ex→b∉ch:=fun b o e hx hb=>by
  rcases(hch b hb).1 with z | z
  ·~hx z
  ·~absurd (E5 (Heap.lt_size e) z) (L7 _)
 have cellK:∀x c,X.env.cells.lookup x=some c→∀v,s.heap.IsCell c v→h'.IsCell c v:=fun x c e v ⟨o,ho,hd⟩=>by
  have nch:c∉ch:=fun z=>(hch c z).2.2.1 x c e rfl
  by_cases hc:c∈X.fs
  ·B3⟨sl,q⟩:=slot c o (I.cne x c e) hc nch ho (I.xQ x c e)
   ~⟨_,q,hd⟩
  ·~⟨o,keep c o (I.cne x c e) hc nch ho (I.xQ x c e),hd⟩
 &⟨I.ok,I.os,hg,⟨fun b o e n hb hx=>?_,fun b o e n hb hx=>?_,fun b o e n hx=>?_,fun b o e hx=>?_,fun b xs e=>tups b xs (I.base.tups b xs e),fun b o xs e=>Wo b o xs (I.base.Wo b o xs e),fun b ps e=>?_⟩,?_,fun x c e=>?_,?_,fun x c e=>?_,fun p hp=>?_,hok,I.len⟩
 ·~keep b o (neL b o e) hb (neC b o e hx) (I.base.keep b o e n hb hx) (I.base.free b o e n hx)
 ·B3⟨sl,e1⟩:=I.base.slot b o e n hb hx
  B3⟨sl',e2⟩:=slot b _ (neL b o e) hb (neC b o e hx) e1 (I.base.free b o e n hx)
  ~⟨sl',e2⟩
 ·B3⟨o',e1⟩:=I.base.there b o e hx
  ~free b o' (neC b o e hx) e1 (I.base.free b o e n hx)
 ·B3⟨o',e1⟩:=I.base.there b o e hx
  ~there b o' (neC b o e hx) e1
 ·B3⟨m1,e1⟩:=I.base.CZ b ps e
  B3⟨m2,e2⟩:=CZ b _ e1
  ~⟨m1++m2,by rw[e2,Array.append_assoc]⟩
 ·B3⟨m,hn,hl⟩:=I.loc
  &⟨m,ns m hn,fun i x v e1 e2 e3=>?_⟩
  B3⟨u,r,l⟩:=hl i x v e1 e2 e3
  &⟨u,r,?_⟩
  rcases l with l | ⟨k,c,e,z⟩
  ·~.inl l
  ·~.inr ⟨k,c,e,cellK x c e _ z⟩
 ·B3⟨v,z⟩:=I.cell x c e
  ~⟨v,cellK x c e v z⟩
 ·B3⟨m,⟨o,_,_,ho,_⟩,_⟩:=I.loc
  ~free _ o (fun z=>(hch _ z).2.1 rfl) ho I.free
 ·B3⟨v,o,ho,hd⟩:=I.cell x c e
  ~free c o (fun z=>(hch c z).2.2.1 x c e rfl) ho (I.xQ x c e)
 ·B3⟨e,n,ne,nf,d⟩:=I.pin p hp
  have nch:p.1∉ch:=fun z=>(hch p.1 z).2.2.2 p hp rfl
  ~⟨keep p.1 p.2 ne nf nch e n,free p.1 p.2 nch e n,ne,nf,d⟩
B5 Inv.un{t':Nat}(I:Inv X pins σ H s)(u:Un X.fs [] H H' s.heap h')(hok:Cq X.prog X.w H' h'):Inv X pins σ H' {s with heap:=h',toks:=t'}:=by
 B3⟨m,⟨o,es,ep,ho,r⟩,_⟩:=id I.loc
 B3⟨sl,hL⟩:=u.any ho I.free (by simp)
 ~I.step (g':=s.gens) (d':=s.drawn) (ch:=[]) (fun _ z=>nomatch z) (fun b o _ hb _ e n=>u.keep b o e n hb (by simp)) (fun b o _ hb _ e n=>u.slot b o e n hb (by simp)) (fun b o _ e n=>u.free b o e n (by simp)) (fun b o _ e=>u.there b o e (by simp)) u.tups u.Wo u.CZ (fun m' hm=>by
  B3⟨o',es',ep',ho',r'⟩:=hm
  rw[ho]at ho';cases ho'
  ~⟨_,es',ep',hL,r'⟩) hok I.bare
B5 Inv.call{g':Array GenState}{t':Nat}{d':Drawn}{ch:List Addr}(I:Inv X pins σ H s)(u:Un (frs X.stack) ch H H' s.heap h')(hok:Cq X.prog X.w H' h')(hg:AllBare g')
  (hch:∀b∈ch,(b∈X.ex∨X.s₀.heap.objs.size≤b)∧b≠X.env.locals∧(∀x c,X.env.cells.lookup x=some c→c≠b)∧∀p∈X.pn++pins,p.1≠b) :
  Inv X pins σ H' {s with heap:=h',gens:=g',drawn:=d',toks:=t'}:=by
 B3⟨m,⟨o,es,ep,ho,r⟩,_⟩:=id I.loc
 B3⟨sl,hL⟩:=u.any ho I.free fun z=>(hch _ z).2.1 rfl
 ~I.step (ch:=ch) hch (fun b o hL hb hc e n=>u.keep b o e n (fun z=>(C5.mp (I.Wr b z)).elim hL hb) hc) (fun b o _ _ hc e n=>u.any e n hc) (fun b o hc e n=>u.free b o e n hc) (fun b o hc e=>u.there b o e hc) u.tups u.Wo u.CZ (fun m' hm=>by
  B3⟨o',es',ep',ho',r'⟩:=hm
  rw[ho]at ho';cases ho'
  ~⟨_,es',ep',hL,r'⟩) hok hg
B5 Inv.turned{t':Nat}{it:Addr}(I:Inv X pins σ H s)(k:∀b o,b≠it→s.heap.get? b=some o→h'.get? b=some o)(hn:H it=none)(hL:it≠X.env.locals)
  (h1:it∈X.ex∨X.s₀.heap.objs.size≤it) (h2:∀x c,X.env.cells.lookup x=some c→c≠it) (h3:∀p∈X.pn++pins,p.1≠it):Inv X pins σ H {s with heap:=h',toks:=t'}:=by
 have nit:∀b u,H b=some u→b≠it:=fun b u e z=>by rw[z,hn]at e;cases e
 &I.step (g':=s.gens) (d':=s.drawn) (ch:=[it]) (fun b hb=>?_) (fun b o _ _ hc e _=>k b o (fun z=>hc (by simp[z])) e) (fun b o _ _ hc e _=>⟨o.slots,k b o (fun z=>hc (by simp[z])) e⟩) (fun _ _ _ _ n=>n)
  (fun b o hc e=>⟨o,k b o (fun z=>hc (by simp[z])) e⟩) (fun _ _ e=>e) (fun _ _ _ e=>e) (fun b ps e=>⟨#[],by rw[e];simp⟩) (fun m hm=>?_) (fun b u e=>?_) I.bare
 ·have e:b=it:=by simpa using hb
  subst e
  ~⟨h1,hL,h2,h3⟩
 ·B3⟨o,es,ep,ho,r⟩:=hm
  ~⟨o,es,ep,k _ o (Ne.symm hL) ho,r⟩
 ·&(I.hok b u e).stay (fun c v hc q=>k c v ?_ q) (fun _ q=>q) fun _ _ q=>q
  rcases hc with z | z
  ·rw[z];~nit b u e
  ·~nit c _ z
B5 Inv.tok(I:Inv X pins σ H s)(t:Nat):Inv X pins σ H {s with toks:=t}:=I.un (h':=s.heap) (t':=t) Un.refl I.hok
B5 Inv.kept{t':Nat}(I:Inv X pins σ H s)(k:∀b u,s.heap.get? b=some u→h'.get? b=some u):Inv X pins σ H {s with heap:=h',toks:=t'}:=I.un (Un.kept k) (I.hok.kept k)
B5 Inv.laid{a:Addr}{o:HO}{t':Nat}(I:Inv X pins σ H s)(k:∀b u,s.heap.get? b=some u→h'.get? b=some u)(hp:s.heap.objs.size≤a)(new:iV X.prog X.w (upd H a o) h' a o) :
  Inv X pins σ (upd H a o) {s with heap:=h',toks:=t'}:=I.un (Un.laid k hp (I.hok.fresh hp)) (I.hok.laid k hp new)
B5 Inv.write{x e:Addr}{o:HO}{t':Nat}(I:Inv X pins σ H s)(mu:Mut (H x))(he:e=x∨H e=some (.own x))(k:∀b u,b≠e→s.heap.get? b=some u→h'.get? b=some u)(heo:∃u,h'.get? e=some u)
  (new:iV X.prog X.w (upd H x o) h' x o):Inv X pins σ (upd H x o) {s with heap:=h',toks:=t'}:=I.un (Un.write mu he k heo) (I.hok.write mu he k heo new)
B5 Inv.weak{σ':List (Option V)}(I:Inv X pins σ H s)(hl:σ'.length=σ.length)(w:∀(i:Nat) v,σ'[i]?=some (some v)→σ[i]?=some (some v)):Inv X pins σ' H s:=
 ⟨I.ok,I.os,I.bare,I.base,let ⟨m,hn,hl'⟩:=I.loc;⟨m,hn,fun i x v e1 e2 e3=>hl' i x v e1 (w i v e2) e3⟩,I.cell,I.free,I.xQ,I.pin,I.hok,hl.trans I.len⟩
B5 Inv.ZR{yd:List (Addr×Obj)}(I:Inv X pins σ H s)(h:∀p∈yd,s.heap.get? p.1=some p.2∧H p.1=none∧p.1≠X.env.locals∧p.1∉X.fs∧∀v,p.2.data≠.cell v):Inv X yd σ H s:=
 ⟨I.ok,I.os,I.bare,I.base,I.loc,I.cell,I.free,I.xQ,fun p hp=>(G0.mp hp).elim (fun z=>I.pin p (G6 _ z)) (h p),I.hok,I.len⟩
B5 DG{N:List Str}(hN:N.Nodup){i j:Nat}{x:Str}(a:N[i]?=some x)(b:N[j]?=some x):i=j:=by
 B3⟨h1,e1⟩:=D4.mp a
 B3⟨h2,e2⟩:=D4.mp b
 ~(List.getElem_inj hN).mp (e1.trans e2.symm)
B5 Tu{M:Model}{A:Around}{E:Value→Shared→Prop}{i:Nat}{x:Str}{v:V}{u:Value}{Q:Unit→Shared→Prop}(I:Inv X pins σ H s)(hN:X.N.Nodup)(hi:X.N[i]?=some x)(hx:Loc X.env.scope x)(r:RelV v u)
  (h:∀s',Inv X pins (σ.set i (some v)) H s'→(∃a,Heap.SameBut a s.heap s'.heap∧(a=X.env.locals∨X.env.cells.lookup x=some a))→Q () s') (hf:X.fn x=true∨X.env.scope.names.lookup x=some .local:=by first | ~.inl rfl | ~.inr rfl | assumption):wpAny M A (storeName X.env x u) Q E s:=by
 B3⟨m,hn,hl⟩:=id I.loc
 have hcls:(X.env.scope.kind==.class||(X.env.scope.kind==.module&&X.env.locals != X.env.globals))=false:=by rw[I.ok.kind];rfl
 have hiσ:i<σ.length:=by rw[I.len];~(D4.mp hi).1
 have cne:=I.cne
 have tracked:∀{a:Addr} {h':Heap},(∃o,s.heap.get? a=some o∧H a=none)→Heap.SameBut a s.heap h'→Cq X.prog X.w H h':=fun{a h'} ha hs b ob e=>by
  B3⟨_,_,hfree⟩:=ha
  &(I.hok b ob e).stay (fun c w' hc q=>(hs.2 c ?_).trans q) (fun _ q=>q) fun _ _ q=>q
  rintro rfl
  rcases hc with rfl | hc
  ·rw[hfree]at e;cases e
  ·rw[hfree]at hc;cases hc
 rcases hx with hk | hk
 ·&wpAny_storeName_local hk hn (fun h' hn' hs=>?_) hcls
  B3⟨oL,_,_,hoL,_⟩:=id hn
  &h _ ⟨I.ok,I.os,I.bare,⟨fun b o e n hb hx=>?_,fun b o e n hb hx=>?_,I.base.free,fun b o e hx=>?_,I.base.tups,I.base.Wo,I.base.CZ⟩,⟨_,hn',fun j y v' e1 e2 e3=>?_⟩,fun y c e=>?_,I.free,I.xQ,fun p hp=>?_,tracked ⟨oL,hoL,I.free⟩ hs,by simpa using I.len⟩ ⟨_,hs,.inl rfl⟩
  ·~(hs.2 b (E9 (E5 (Heap.lt_size e) I.ok.above))).trans (I.base.keep b o e n hb hx)
  ·B3⟨sl,e1⟩:=I.base.slot b o e n hb hx
   ~⟨sl,(hs.2 b (E9 (E5 (Heap.lt_size e) I.ok.above))).trans e1⟩
  ·B3⟨o',e1⟩:=I.base.there b o e hx
   ~⟨o',(hs.2 b (E9 (E5 (Heap.lt_size e) I.ok.above))).trans e1⟩
  ·by_cases hj:j=i
   ·subst hj
    rw[hi]at e1;cases e1
    rw[J3 hiσ]at e2
    cases e2
    ~⟨u,r,.inl ⟨hk,by simp⟩⟩
   ·rw[U9 (Ne.symm hj)]at e2
    B3⟨u',r',q⟩:=hl j y v' e1 e2 e3
    &⟨u',r',?_⟩
    rcases q with ⟨k,e⟩ | ⟨k,c,e,z⟩
    ·&.inl ⟨k,?_⟩
     have:y≠x:=fun e=>hj (DG hN e1 (e▸hi))
     simp[this,e]
    ·~.inr ⟨k,c,e,z.sameBut hs (cne y c e)⟩
  ·B3⟨w',z⟩:=I.cell y c e
   ~⟨w',z.sameBut hs (cne y c e)⟩
  ·B3⟨e,n,ne,nf,d⟩:=I.pin p hp
   ~⟨(hs.2 p.1 ne).trans e,n,ne,nf,d⟩
 ·have hfn:X.fn x=true:=by
   rcases hf with z | z
   ·~z
   ·rw[z]at hk;cases hk
  B3⟨c,hc⟩:=I.ok.has x (.inl hk)
  B3⟨w',z⟩:=I.cell x c hc
  &wpAny_storeName_cell I.ok.kind hk hc z (fun h' hc' hs=>?_)
  B3⟨oc,hoc,aI8⟩:=id z
  &h {s with heap:=h'} ⟨I.ok,I.os,I.bare,⟨fun b o e n hb hx=>?_,fun b o e n hb hx=>?_,I.base.free,fun b o e hx=>?_,I.base.tups,I.base.Wo,I.base.CZ⟩,⟨m,hn.sameBut hs (Ne.symm (cne x c hc)),fun j y v' e1 e2 e3=>?_⟩,fun y c' e=>?_,I.free,I.xQ,fun p hp=>?_,tracked ⟨oc,hoc,I.xQ x c hc⟩ hs,by simpa using I.len⟩ ⟨c,hs,.inr hc⟩
  ·~(hs.2 b (E9 (E5 (Heap.lt_size e) (I.ok.cab x c hfn hc)))).trans (I.base.keep b o e n hb hx)
  ·B3⟨sl,e1⟩:=I.base.slot b o e n hb hx
   ~⟨sl,(hs.2 b (E9 (E5 (Heap.lt_size e) (I.ok.cab x c hfn hc)))).trans e1⟩
  ·B3⟨o',e1⟩:=I.base.there b o e hx
   ~⟨o',(hs.2 b (E9 (E5 (Heap.lt_size e) (I.ok.cab x c hfn hc)))).trans e1⟩
  ·by_cases hj:j=i
   ·subst hj
    rw[hi]at e1;cases e1
    rw[J3 hiσ]at e2
    cases e2
    ~⟨u,r,.inr ⟨.inl hk,c,hc,hc'⟩⟩
   ·rw[U9 (Ne.symm hj)]at e2
    B3⟨u',r',q⟩:=hl j y v' e1 e2 e3
    &⟨u',r',?_⟩
    rcases q with q | ⟨k,c',e,z'⟩
    ·~.inl q
    ·&.inr ⟨k,c',e,z'.sameBut hs ?_⟩
     rintro rfl
     ~hj (DG hN e1 (I.ok.inj _ _ _ e hc▸hi))
  ·by_cases hcc:c'=c
   ·subst hcc;~⟨_,hc'⟩
   ·B3⟨w2,z2⟩:=I.cell y c' e
    ~⟨w2,z2.sameBut hs hcc⟩
  ·B3⟨e,n,ne,nf,d⟩:=I.pin p hp
   &⟨(hs.2 p.1 ?_).trans e,n,ne,nf,d⟩
   intro q
   rw[q,hoc]at e
   have q':oc=p.2:=F1 e
   ~d w' (by rw[←q'];~aI8)
B5 DK{M:Model}{A:Around}{E:Value→Shared→Prop}{i:Nat}{x:Str}{v:V}{u:Value}{Q:Unit→Shared→Prop}(I:Inv X pins σ H s)(hN:X.N.Nodup)(hi:X.N[i]?=some x)(hx:Loc X.env.scope x)(r:RelV v u)
  (h:∀s',Inv X pins (σ.set i (some v)) H s'→Q () s') (hf:X.fn x=true∨X.env.scope.names.lookup x=some .local:=by first | ~.inl rfl | ~.inr rfl | assumption):wpAny M A (storeName X.env x u) Q E s:=
 Tu I hN hi hx r (fun s' I' _=>h s' I') hf
B5 Inv.call'{s':Shared}{ch:List Addr}(I:Inv X pins σ H s)(ho:s'.os=s.os)(u:Un (frs X.stack) ch H H' s.heap s'.heap)(hok:Cq X.prog X.w H' s'.heap)(hg:AllBare s'.gens)
  (hch:∀b∈ch,(b∈X.ex∨X.s₀.heap.objs.size≤b)∧b≠X.env.locals∧(∀x c,X.env.cells.lookup x=some c→c≠b)∧∀p∈X.pn++pins,p.1≠b):Inv X pins σ H' s':=by
 B3⟨h',g',d',t',o'⟩:=s'
 have e:o'=s.os:=ho
 subst e
 ~I.call (g':=g') (t':=t') (d':=d') u hok hg hch
end
abbrev XK:=Value→Option Addr→Hp→Prop
abbrev St:=List (Option V)
abbrev VK:=V→Hp→Prop
abbrev TE:=St→Hp→VK→Prop
abbrev TT:=St→Hp→(Bool→Hp→Prop)→Prop
abbrev TA:=St→Hp→(List V→Hp→Prop)→Prop
structure Ends where
 nx:St→Hp→Prop
 rt:VK
 bk:St→Hp→Prop:=fun _ _=>False
 ct:St→Hp→Prop:=fun _ _=>False
abbrev TS:=Ends→St→Hp→Prop
def EP(X:Cx)(pins:List (Addr×Obj))(σ:St)(Q:VK)(u:Value)(s':Shared):Prop:=∃v H',Inv X pins σ H' s'∧RelV v u∧Q v H'
def TP(X:Cx)(pins:List (Addr×Obj))(σ:St)(Q:Bool→Hp→Prop)(b:Bool)(s':Shared):Prop:=∃H',Inv X pins σ H' s'∧Q b H'
def AP(X:Cx)(pins:List (Addr×Obj))(σ:St)(Q:List V→Hp→Prop)(us:List Value)(s':Shared):Prop:=∃vs H',Inv X pins σ H' s'∧Vals vs us∧Q vs H'
def SP(X:Cx)(pins:List (Addr×Obj))(D:Ends)(f:Flow)(s':Shared):Prop:=
 match f with
 | .next=>∃σ' H',Inv X pins σ' H' s'∧D.nx σ' H'
 | .brk=>∃σ' H',Inv X pins σ' H' s'∧D.bk σ' H'
 | .cont=>∃σ' H',Inv X pins σ' H' s'∧D.ct σ' H'
 | .ret u=>∃v σ' H',Inv X pins σ' H' s'∧RelV v u∧D.rt v H'
def PE(X:Cx)(e:Expr)(t:TE):Prop:=
 ∀(pins:List (Addr×Obj))(s:Shared)(σ:St)(H:Hp)(Q:VK),Inv X pins σ H s→t σ H Q→wpAny (model X.prog X.w) X.A (eval e X.env) (EP X pins σ Q) X.xe s
def PT(X:Cx)(e:Expr)(t:TT):Prop:=
 ∀(pins:List (Addr×Obj))(s:Shared)(σ:St)(H:Hp)(Q:Bool→Hp→Prop),Inv X pins σ H s→t σ H Q→wpAny (model X.prog X.w) X.A (isTrue e X.env (eval e X.env)) (TP X pins σ Q) X.xe s
def PW(X:Cx)(e:Expr)(t:TT):Prop:=
 ∀(whole:Sem Value)(pins:List (Addr×Obj))(s:Shared)(σ:St)(H:Hp)(Q:Bool→Hp→Prop),Inv X pins σ H s→t σ H Q→wpAny (model X.prog X.w) X.A (isTrue e X.env whole) (TP X pins σ Q) X.xe s
B5 PW.pt{X:Cx}{e:Expr}{t:TT}(h:PW X e t):PT X e t:=h _
def PA(X:Cx)(es:List Expr)(t:TA):Prop:=
 ∀(pos:Pos)(pins:List (Addr×Obj))(s:Shared)(σ:St)(H:Hp)(Q:List V→Hp→Prop),Inv X pins σ H s→t σ H Q→wpAny (model X.prog X.w) X.A (spliced (backTo pos (starEach es X.env))) (AP X pins σ Q) X.xe s
def PS(X:Cx)(st:Stmt)(t:TS):Prop:=
 ∀(pins:List (Addr×Obj))(s:Shared)(σ:St)(H:Hp)(D:Ends),Inv X pins σ H s→t D σ H→wpAny (model X.prog X.w) X.A (exec st X.env) (SP X pins D) X.xe s
def DN(X:Cx)(st:List Stmt)(t:TS):Prop:=
 ∀(pins:List (Addr×Obj))(s:Shared)(σ:St)(H:Hp)(D:Ends),Inv X pins σ H s→t D σ H→wpAny (model X.prog X.w) X.A (execs st X.env) (SP X pins D) X.xe s
B5 iM{α:Type}{t:Sem α}{Q Q':α→Shared→Prop}{M:Model}{A:Around}{E:Value→Shared→Prop}{s:Shared}(h:wpAny M A t Q E s)(hQ:∀a s,Q a s→Q' a s):wpAny M A t Q' E s:=wpAny_mono h hQ fun _ _ x=>x
end L2
namespace L2
open PySem PySem.Spec PyProof.Rows
section
variable{X:Cx}
def pH(i:Nat):TE:=fun σ H Q=>∃v,σ[i]?=some (some v)∧Q v H
def tC(v:V):TE:=fun _ H Q=>Q v H
B5 aE5{i:Nat}{x:Str}{pos:Pos}(hN:X.N[i]?=some x)(hv:Ks X.env.scope x)(hd:(x==("__debug__" : Str))=false:=by decide) (hcd:(x==("__classdict__" : Str))=false:=by decide):PE X (.Name x pos) (pH i):=by
  intro pins s σ H Q I h
  B3⟨v,e,h⟩:=h
  B3⟨m,hn,hl⟩:=I.loc
  B3⟨u,r,l⟩:=hl i x v hN e hv
  have fin:EP X pins σ Q u s:=⟨v,H,I,r,h⟩
  rcases l with ⟨hk,hm⟩ | ⟨hk,c,hc,hcell⟩
  · ~wpAny_Name (wpAny_loadName_local I.ok.kind hk hn hm fin) hd
  · rcases hk with hk | hk
    · ~wpAny_Name (wpAny_loadName_cell I.ok.kind hk hc hcell fin) hd
    · ~wpAny_Name (wpAny_loadName_free I.ok.kind hk hc hcell fin hcd) hd
B5 aE6{i j pos}:PE X (.Constant (.int i) j pos) (tC (.int i)):=fun _ _ _ H _ I h=>wpAny_Constant_int ⟨.int i,H,I.tok _,⟨_,rfl⟩,h⟩
B5 aHn{b j pos}:PE X (.Constant (.bool b) j pos) (tC (.bl b)):=fun _ _ _ H _ I h=>Constant_bool ⟨.bl b,H,I,rfl,h⟩
B5 aE7{j pos}:PE X (.Constant .none j pos) (tC .non):=fun _ _ _ H _ I h=>Constant_none ⟨.non,H,I,rfl,h⟩
B5 aE8{x j pos}:PE X (.Constant (.str x) j pos) (tC (.str x)):=fun _ _ _ H _ I h=>Calls.Constant_str ⟨.str x,H,I.tok _,⟨_,rfl⟩,h⟩
def Gl(X:Cx)(x:Str):Prop:=X.env.kindOf x=some .globalImplicit
B5 Ws{E:Value→Shared→Prop}{pins:List (Addr×Obj)}{s:Shared}{σ:St}{H:Hp}{x:Str}{u:Value}{pos:Pos}{Q:Value→Shared→Prop}(I:Inv X pins σ H s)(hg:Gl X x)(hm:X.mg x=some u)(h:Q u s)
  (hd:(x==("__debug__" : Str))=false:=by decide):wpAny (model X.prog X.w) X.A (eval (.Name x pos) X.env) Q E s:=
 Calls.Name_function_global I.ok.kind hg (Calls.loadGlobal_global (by rw[I.ok.glob];~I.mod.glob.keeps I.bk) hm h) hd
B5 sI{E:Value→Shared→Prop}{pins:List (Addr×Obj)}{s:Shared}{σ:St}{H:Hp}{x:Str}{u:Value}{pos:Pos}{Q:Value→Shared→Prop}(I:Inv X pins σ H s)(hg:Gl X x)(hm:X.mg x=none)(hv:bootBuiltins x=some u)(h:Q u s)
  (hn:x ≠ "__name__" := by decide) (hd:(x==("__debug__" : Str))=false:=by decide):wpAny (model X.prog X.w) X.A (eval (.Name x pos) X.env) Q E s:=by
 B3⟨mb,h1,h2⟩:=I.mod.blt
 ~Calls.Name_function_global I.ok.kind hg (Calls.loadGlobal_builtin (by rw[I.ok.glob];~I.mod.glob.keeps I.bk) hm (by rw[I.ok.blt];~h1.keeps I.bk) ((h2 x hn).trans hv) h) hd
B5 aCq{x:Str}{v:V}{u:Value}{pos:Pos}(hg:Gl X x)(hm:X.mg x=some u)(r:RelV v u)(hd:(x==("__debug__" : Str))=false:=by decide):PE X (.Name x pos) (tC v):=
 fun _ _ _ H _ I h=>Ws I hg hm ⟨v,H,I,r,h⟩ hd
B5 aCr{x:Str}{v:V}{u:Value}{pos:Pos}(hg:Gl X x)(hm:X.mg x=none)(hv:bootBuiltins x=some u)(r:RelV v u)(hn:x ≠ "__name__" := by decide) (hd:(x==("__debug__" : Str))=false:=by decide):PE X (.Name x pos) (tC v):=
 fun _ _ _ H _ I h=>sI I hg hm hv ⟨v,H,I,r,h⟩ hn hd
variable{a b:Expr}{ta tb:TE}{pos:Pos}
def PC(X:Cx)(op:CmpOp)(a b:Expr)(t:TE):Prop:=
 ∀(pins:List (Addr×Obj))(s:Shared)(σ:St)(H:Hp)(Q:VK),Inv X pins σ H s→t σ H Q →
  wpAny (model X.prog X.w) X.A (eval a X.env) (fun v s₁=>wpAny (model X.prog X.w) X.A (eval b X.env) (fun u s₂=>wpAny (model X.prog X.w) X.A (compareOp op v u) (EP X pins σ Q) X.xe s₂) X.xe s₁) X.xe s
def tB(t:TE):TT:=fun σ H Q=>t σ H fun x H1=>∃c,x=.bl c∧Q c H1
B5 RG{op:CmpOp}{t:TE}(h:PC X op a b t)(h1:behindInMarks op b=false:=by first | ~nobehind _ A8 A8 | rfl):PE X (.Compare a [op] [b] pos) t:=fun pins s σ H Q I hw=>wpAny_Compare1 (h pins s σ H Q I hw) h1
B5 aE9{op:CmpOp}{t:TE}(h:PC X op a b t)(h1:behindInMarks op b=false:=by first | ~nobehind _ A8 A8 | rfl):PT X (.Compare a [op] [b] pos) (tB t):=by
 intro pins s σ H Q I hw
 &wpAny_isTrue_Compare1 (iM (h pins s σ H _ I hw) fun v s1 h1=>iM h1 fun u s2 h2=>iM h2 fun c s3 ⟨x,H1,I1,r1,q1⟩=>?_) h1
 B3⟨d,rfl,q⟩:=q1
 cases r1
 ~wpAny_truthy_bool ⟨H1,I1,q⟩
B5 aFa{e:Expr}{t:TE}(h:PE X e t)(he:∀whole,isTrue e X.env whole=(do let v ←whole;standAt e.pos;holding [v] (truthy v)):=by intro _;rfl):PT X e (tB t):=by
 intro pins s σ H Q I hw
 &isTrue_plain (iM (h pins s σ H _ I hw) fun v s1 ⟨x,H1,I1,r1,q1⟩=>?_) (he _)
 B3⟨d,rfl,q⟩:=q1
 cases r1
 ~wpAny_truthy_bool ⟨H1,I1,q⟩
variable{tA tB':TT}{rest:List Expr}
def aFb(t u:TT):TT:=fun σ H Q=>t σ H fun c H1=>if c=true then u σ H1 Q else Q false H1
def tOr(t u:TT):TT:=fun σ H Q=>t σ H fun c H1=>if c=true then Q true H1 else u σ H1 Q
def aFc(t:TT):TT:=fun σ H Q=>t σ H fun c H1=>Q (!c) H1
B5 aCs(ha:PT X a tA):PW X (.BoolOp .And [a] pos) tA:=by
 intro wh pins s σ H Q I h
 &isTrue_and (iM (ha pins s σ H Q I h) fun c s1 e=>?_)
 cases c with
 | true=>~isTrue_and_nil e
 | false=>~e
B5 aFd(ha:PT X a tA):PW X (.BoolOp .Or [a] pos) tA:=by
 intro wh pins s σ H Q I h
 &isTrue_or (iM (ha pins s σ H Q I h) fun c s1 e=>?_)
 cases c with
 | false=>~isTrue_or_nil e
 | true=>~e
B5 aFe(ha:PT X a tA)(hb:PW X (.BoolOp .And (b::rest) pos) tB'):PW X (.BoolOp .And (a::b::rest) pos) (aFb tA tB'):=by
 intro wh pins s σ H Q I h
 &isTrue_and (iM (ha pins s σ H _ I h) fun c s1 ⟨H1,I1,q1⟩=>?_)
 cases c with
 | true=>~hb wh pins s1 σ H1 Q I1 q1
 | false=>~⟨H1,I1,q1⟩
B5 aHo(ha:PT X a tA)(hb:PW X (.BoolOp .Or (b::rest) pos) tB'):PW X (.BoolOp .Or (a::b::rest) pos) (tOr tA tB'):=by
 intro wh pins s σ H Q I h
 &isTrue_or (iM (ha pins s σ H _ I h) fun c s1 ⟨H1,I1,q1⟩=>?_)
 cases c with
 | true=>~⟨H1,I1,q1⟩
 | false=>~hb wh pins s1 σ H1 Q I1 q1
B5 aFf(ha:PT X a tA):PT X (.UnaryOp .Not a pos) (aFc tA):=by
 intro pins s σ H Q I h
 ~isTrue_not (ha pins s σ H (fun c H1=>Q (!c) H1) I h)
def aHp(ta tb:TE):TE:=fun σ H Q=>ta σ H fun x H1=>∃c,x=.bl c∧if c=true then Q (.bl true) H1 else tb σ H1 Q
B5 aFg{op}{t:TE}(h:PE X a t):PE X (.BoolOp op [a] pos) t:=fun pins s σ H Q I hw=>BoolOp_one (h pins s σ H Q I hw)
B5 aHq(ha:PE X a ta)(hb:PE X (.BoolOp .Or (b::rest) pos) tb):PE X (.BoolOp .Or (a::b::rest) pos) (aHp ta tb):=by
 intro pins s σ H Q I h
 &BoolOp_or (iM (ha pins s σ H _ I h) fun v s1 ⟨x,H1,I1,r1,q1⟩=>?_)
 B3⟨c,rfl,q1⟩:=q1
 cases r1
 &wpAny_truthy_bool ?_
 cases c with
 | false=>~hb pins s1 σ H1 Q I1 q1
 | true=>~⟨.bl true,H1,I1,rfl,q1⟩
def tIf(t:TT)(ta tb:TE):TE:=fun σ H Q=>t σ H fun c H1=>if c=true then ta σ H1 Q else tb σ H1 Q
B5 yf{c:Expr}(hc:PT X c tA)(ha:PE X a ta)(hb:PE X b tb):PE X (.IfExp c a b pos) (tIf tA ta tb):=by
 intro pins s σ H Q I h
 &wpAny_IfExp (iM (hc pins s σ H _ I h) fun d s1 ⟨H1,I1,q1⟩=>?_)
 cases d with
 | true=>~ha pins s1 σ H1 Q I1 q1
 | false=>~hb pins s1 σ H1 Q I1 q1
end
end L2
namespace L2
open PySem PySem.Spec PyProof.Rows
def pQ(K:aF)(H:Hp)(a:Addr)(xs:List V):Prop:=
 Rd H a (.lst xs) ∨
  ∃(o:Obj)(its:Array Value)(n:Nat),K.lookup a=some o∧o.cls=.type "list" ∧ o.dict=none∧o.data=.seq its n∧its.size≤sizeLine∧Vals xs its.toList
def xR(K:aF)(H:Hp)(a:Addr)(xs:List V):Prop:=
 Rd H a (.tup xs) ∨
  ∃(o:Obj)(its:Array Value)(n:Nat),K.lookup a=some o∧o.cls=.type "tuple" ∧ o.data=.seq its n∧its.size≤sizeLine∧Vals xs its.toList
def aJa:Value→Option V
 | .none=>some .non
 | .bool b=>some (.bl b)
 | .int i _=>some (.int i)
 | .str x _=>some (.str x)
 | .bytes b _=>some (.byt b)
 | .float b _=>some (.flt b)
 | .ref a=>some (.ref a)
 | .type n=>some (.ty n)
 | _=>none
B5 RelV.abs{x:V}{u:Value}(r:RelV x u):aJa u=some x:=by
 cases x with
 | non=>cases r;rfl
 | bl _=>cases r;rfl
 | int _=>B3⟨t,rfl⟩:=r;rfl
 | str _=>B3⟨t,rfl⟩:=r;rfl
 | byt _=>B3⟨t,rfl⟩:=r;rfl
 | flt _=>B3⟨t,rfl⟩:=r;rfl
 | ref _=>cases r;rfl
 | ty _=>cases r;rfl
B5 RelV.inj{x y:V}{u:Value}(r:RelV x u)(q:RelV y u):x=y:=F1 (r.abs.symm.trans q.abs)
B5 Vals.inj:∀{xs ys:List V} {us:List Value},Vals xs us→Vals ys us→xs=ys
 | _,_,_,.nil,.nil=>rfl
 | _,_,_,.cons r t,.cons r' t'=>by rw[r.inj r',Vals.inj t t']
section
variable{X:Cx}{pins:List (Addr×Obj)}{σ:St}{H:Hp}{s:Shared}{a:Addr}{xs ys:List V}
B5 pQ.of{K:aF}(h:H a=some (.lst xs)):pQ K H a xs:=.inl (.inl h)
B5 xR.of{K:aF}(h:H a=some (.tup xs)):xR K H a xs:=.inl (.inl h)
B5 Inv.list(I:Inv X pins σ H s)(h:pQ X.K H a xs):∃its:List Value,Vals xs its∧PlainL s.heap a its.toArray∧xs.length≤sizeLine:=by
 rcases h with h | ⟨o,its,n,hk,hc,hd,hs,hz,r⟩
 ·B3⟨z,its,n,r,e⟩:=h.ok I.hok
  ~⟨its,r,⟨_,n,e,rfl,rfl,rfl⟩,z⟩
 ·&⟨its.toList,r,⟨o,n,I.Ht a o hk,hc,hd,by simpa using hs⟩,?_⟩
  have e:=r.length
  simp only[K3]at e
  omega
B5 Inv.tuple(I:Inv X pins σ H s)(h:xR X.K H a xs):∃its:List Value,Vals xs its∧IsTup s.heap a its.toArray∧xs.length≤sizeLine:=by
 rcases h with h | ⟨o,its,n,hk,hc,hs,hz,r⟩
 ·B3⟨z,its,r,p⟩:=h.ok I.hok
  ~⟨its,r,p,z⟩
 ·&⟨its.toList,r,⟨o,I.Ht a o hk,hc,n,by simpa using hs⟩,?_⟩
  have e:=r.length
  simp only[K3]at e
  omega
B5 Inv.DP(I:Inv X pins σ H s)(h:pQ X.K H a xs)(h':pQ X.K H a ys):xs=ys:=by
 B3⟨its,r,⟨o,n,e,_,_,d⟩,_⟩:=I.list h
 B3⟨its',r',⟨o',n',e',_,_,d'⟩,_⟩:=I.list h'
 rw[e]at e';cases e'
 rw[d]at d'
 injection d' with d1 _
 have:its=its':=by simpa using congrArg u4 d1
 subst this
 ~r.inj r'
B5 Inv.Tv(I:Inv X pins σ H s)(h:xR X.K H a xs)(h':xR X.K H a ys):xs=ys:=by
 B3⟨its,r,⟨o,e,_,n,d⟩,_⟩:=I.tuple h
 B3⟨its',r',⟨o',e',_,n',d'⟩,_⟩:=I.tuple h'
 rw[e]at e';cases e'
 rw[d]at d'
 injection d' with d1 _
 have:its=its':=by simpa using congrArg u4 d1
 subst this
 ~r.inj r'
end
abbrev Cx.wish(X:Cx)(E:Value→Shared→Prop):Cx:={X with xe:=E}
abbrev Cx.ZV(X:Cx):Cx:=X.wish fun _ _=>False
B5 Cx.Ok.wish{X:Cx}(ok:X.Ok)(E:Value→Shared→Prop):(X.wish E).Ok:=
 ⟨ok.mod,ok.kind,ok.glob,ok.blt,ok.above,ok.inj,ok.has,ok.cab,ok.hd,ok.frames,ok.stk,ok.exf,ok.bs,ok.bsz,ok.yc,ok.aCp,ok.Ku,ok.frf⟩
B5 Cx.Ok.yN{X:Cx}{E:Value→Shared→Prop}(ok:(X.wish E).Ok):X.Ok:=
 ⟨ok.mod,ok.kind,ok.glob,ok.blt,ok.above,ok.inj,ok.has,ok.cab,ok.hd,ok.frames,ok.stk,ok.exf,ok.bs,ok.bsz,ok.yc,ok.aCp,ok.Ku,ok.frf⟩
section
variable{X:Cx}{pins:List (Addr×Obj)}{σ:St}{H:Hp}{s:Shared}{E:Value→Shared→Prop}
B5 Inv.wish(I:Inv X pins σ H s)(E:Value→Shared→Prop):Inv (X.wish E) pins σ H s:=⟨I.ok.wish E,I.os,I.bare,I.base,I.loc,I.cell,I.free,I.xQ,I.pin,I.hok,I.len⟩
B5 Inv.yN(I:Inv (X.wish E) pins σ H s):Inv X pins σ H s:=⟨I.ok.yN,I.os,I.bare,I.base,I.loc,I.cell,I.free,I.xQ,I.pin,I.hok,I.len⟩
B5 SP.yN{D:Ends}{f:Flow}{s':Shared}(h:SP (X.wish E) pins D f s'):SP X pins D f s':=by
 cases f with
 | next=>B3⟨σ',H',I,q⟩:=h;~⟨σ',H',I.yN,q⟩
 | brk=>B3⟨σ',H',I,q⟩:=h;~⟨σ',H',I.yN,q⟩
 | cont=>B3⟨σ',H',I,q⟩:=h;~⟨σ',H',I.yN,q⟩
 | ret u=>B3⟨v,σ',H',I,r,q⟩:=h;~⟨v,σ',H',I.yN,r,q⟩
B5 DN.ZV{st:List Stmt}{t:TS}(h:DN X.ZV st t):DN X st t:=fun pins s σ H D I hw=>
 wpAny_mono (h pins s σ H D (I.wish _) hw) (fun _ _ q=>q.yN) fun _ _ z=>False.elim z
end
section
variable{X:Cx}{st:Stmt}{rest:List Stmt}{t u:TS}{e:Expr}{te:TE}{pos:Pos}
def aEa:TS:=fun D σ H=>D.nx σ H
def aFh(t u:TS):TS:=fun D σ H=>t {D with nx:=u D} σ H
B5 aCt:DN X [] aEa:=fun _ _ σ H _ I h=>wpAny_execs_nil ⟨σ,H,I,h⟩
B5 yg(h1:PS X st t)(h2:DN X rest u):DN X (st::rest) (aFh t u):=by
 intro pins s σ H D I h
 &wpAny_execs_cons (iM (h1 pins s σ H {D with nx:=u D} I h) fun f s1 q=>?_)
 cases f with
 | next=>
  B3⟨σ',H',I',q⟩:=q
  ~h2 pins s1 σ' H' D I' q
 | ret v=>~q
 | brk=>~q
 | cont=>~q
B5 aCu(h1:PS X st t):DN X [st] t:=by
 intro pins s σ H D I h
 &wpAny_execs_cons (iM (h1 pins s σ H D I h) fun f s1 q=>?_)
 cases f with
 | next=>~wpAny_execs_nil q
 | ret v=>~q
 | brk=>~q
 | cont=>~q
B5 Inv.quiet{pins:List (Addr×Obj)}{σ:St}{H:Hp}{s:Shared}(I:Inv X pins σ H s):interactive X.env=false:=by simp[interactive,I.ok.kind]
def kE(te:TE):TS:=fun D σ H=>te σ H fun _ H1=>D.nx σ H1
B5 jJ(he:PE X e te)(hs:swapsWith e none pos.line X.env=pure false:=by rfl):PS X (.Expr e pos) (kE te):=by
 intro pins s σ H D I h
 ~wpAny_Expr_any (iM (he pins s σ H _ I h) fun v s1 ⟨x,H1,I1,r1,q1⟩=>⟨σ,H1,I1,q1⟩) I.quiet hs
def yh(te:TE):TS:=fun D σ H=>te σ H D.rt
B5 Wt(he:PE X e te):PS X (.Return (some e) pos) (yh te):=by
 intro pins s σ H D I h
 ~wpAny_Return_some (iM (he pins s σ H _ I h) fun v s1 ⟨x,H1,I1,r1,q1⟩=>⟨x,σ,H1,I1,r1,q1⟩)
def aHr(c:TT)(t u:TS):TS:=fun D σ H=>c σ H fun b H1=>if b=true then t D σ H1 else u D σ H1
B5 aHs{c:Expr}{a b:List Stmt}{tc:TT}(hc:PT X c tc)(ha:DN X a t)(hb:DN X b u):PS X (.If c a b pos) (aHr tc t u):=by
 intro pins s σ H D I h
 &wpAny_If (iM (hc pins s σ H _ I h) fun d s1 ⟨H1,I1,q1⟩=>?_)
 cases d with
 | true=>~ha pins s1 σ H1 D I1 q1
 | false=>~hb pins s1 σ H1 D I1 q1
def yj:TS:=fun _ _ _=>False
B5 yl:PS X st yj:=fun _ _ _ _ _ _ h=>h.elim
end
abbrev TG:=V→St→Hp→(St→Hp→Prop)→Prop
abbrev TGs:=List V→St→Hp→(St→Hp→Prop)→Prop
def PG(X:Cx)(target:Expr)(t:TG):Prop:=
 ∀(pins:List (Addr×Obj))(s:Shared)(σ:St)(H:Hp)(v:V)(u:Value)(Q:St→Hp→Prop),Inv X pins σ H s→RelV v u→t v σ H Q →
  wpAny (model X.prog X.w) X.A (assign target X.env u) (fun _ s'=>∃σ' H',Inv X pins σ' H' s'∧Q σ' H') X.xe s
def PGs(X:Cx)(ts:List Expr)(t:TGs):Prop:=
 ∀(pins:List (Addr×Obj))(s:Shared)(σ:St)(H:Hp)(vs:List V)(us:List Value)(Q:St→Hp→Prop),Inv X pins σ H s→Vals vs us→t vs σ H Q →
  wpAny (model X.prog X.w) X.A (assignInOrder ((assignEach ts X.env).map (·.2)) us) (fun _ s'=>∃σ' H',Inv X pins σ' H' s'∧Q σ' H') X.xe s
abbrev aFi:=V→V→V→Hp→(Hp→Prop)→Prop
def aHt(X:Cx)(t:aFi):Prop:=
 ∀(pins:List (Addr×Obj))(s:Shared)(σ:St)(H:Hp)(o i v:V)(ov iv u:Value)(Q:Hp→Prop),Inv X pins σ H s→RelV o ov→RelV i iv→RelV v u→t o i v H Q →
  wpAny (model X.prog X.w) X.A (setItem ov iv u) (fun _ s'=>∃H',Inv X pins σ H' s'∧Q H') X.xe s
section
variable{X:Cx}{pos:Pos}
def jR(i:Nat):TG:=fun v σ H Q=>Q (σ.set i (some v)) H
B5 fW{i:Nat}{x:Str}(hN:X.N.Nodup)(hi:X.N[i]?=some x)(hx:Loc X.env.scope x)(hf:X.fn x=true∨X.env.scope.names.lookup x=some .local:=by first | ~.inl rfl | ~.inr rfl | assumption):PG X (.Name x pos) (jR i):=by
 intro pins s σ H v u Q I r h
 ~wpAny_assign_Name (DK I hN hi hx r (fun s' I'=>⟨_,H,I',h⟩) hf)
def aHu:TGs:=fun vs σ H Q=>vs=[]∧Q σ H
def aEc(t:TG)(u:TGs):TGs:=fun vs σ H Q=>∃v r,vs=v::r∧t v σ H fun σ' H'=>u r σ' H' Q
B5 Wu:PGs X [] aHu:=by
 intro pins s σ H vs us Q I r h
 B3⟨e,h⟩:=h
 subst e
 cases r
 ~assignInOrder_nil ⟨σ,H,I,h⟩
B5 pZ{e:Expr}{es:List Expr}{t:TG}{u:TGs}(h1:PG X e t)(h2:PGs X es u)
  (hs:(assignEach (e::es) X.env).map (·.2)=assign e X.env::(assignEach es X.env).map (·.2):=by rfl):PGs X (e::es) (aEc t u):=by
 intro pins s σ H vs us Q I r h
 B3⟨v,vr,e1,h⟩:=h
 subst e1
 cases r with
 | cons r rr=>
  rw[hs]
  &assignInOrder_cons (iM (h1 pins s σ H _ _ _ I r h) fun _ s1 ⟨σ1,H1,I1,q1⟩=>?_)
  ~h2 pins s1 σ1 H1 _ _ Q I1 rr q1
def Wv(K:aF)(n:Nat)(t:TGs):TG:=fun v σ H Q=>∃a xs,v=.ref a∧xR K H a xs∧xs.length=n∧t xs σ H Q
B5 RJ{es:List Expr}{k:Nat}{t:TGs}{n:Nat}(hc:X.calm=true)(h:PGs X es t)
  (hn:(assignEach es X.env).length=n:=by rfl) (hst:(assignEach es X.env).findIdx? (·.1)=none:=by rfl):PG X (.Tuple es k pos) (Wv X.K n t):=by
 intro pins s σ H v u Q I r hw
 B3⟨a,xs,e1,hq,hl,hw⟩:=hw
 subst e1
 cases r
 B3⟨its,rv,ht,hz⟩:=I.tuple hq
 &assign_Tuple_tuple (I.ok.hd hc) ht (by simp[hn,←hl,rv.length]) hst fun h' hx=>?_
 have I1:Inv X pins σ H {s with heap:=h'}:=I.kept (t':=s.toks) fun b o e=>hx b o (E9 (Heap.lt_size e)) e
 ~h pins _ σ H xs _ Q I1 (by simpa using rv) hw
def kh(to ti:TE)(t:aFi):TG:=fun v σ H Q=>to σ H fun o H1=>ti σ H1 fun i H2=>t o i v H2 fun H3=>Q σ H3
B5 Ww{o i:Expr}{to ti:TE}{t:aFi}(ho:PE X o to)(hi:PE X i ti)(hs:aHt X t)
  (ha:∀v,assign (.Subscript o i pos) X.env v=(do
   let ov ←holding [v] (eval o X.env)
   let iv ←holding [v,ov] (eval i X.env)
   standAt pos
   holding [v,ov,iv] (setItem ov iv v)
   release [v,ov,iv] []):=by intro _;rfl):PG X (.Subscript o i pos) (kh to ti t):=by
 intro pins s σ H v u Q I r h
 rw[ha]
 &wpAny_bind (wpAny_holding (iM (ho pins s σ H _ I h) fun ov s1 ⟨x,H1,I1,r1,q1⟩=>?_))
 &wpAny_bind (wpAny_holding (iM (hi pins s1 σ H1 _ I1 q1) fun iv s2 ⟨y,H2,I2,r2,q2⟩=>?_))
 &wpAny_bind (wpAny_standAt (wpAny_bind (wpAny_holding (iM (hs pins s2 σ H2 x y v ov iv u _ I2 r1 r2 r q2) fun _ s3 ⟨H3,I3,q3⟩=>?_))))
 ~wpAny_release ⟨σ,H3,I3,q3⟩
def wF(te:TE)(g:TG):TS:=fun D σ H=>te σ H fun x H1=>g x σ H1 D.nx
B5 Hu{tg e:Expr}{te:TE}{g:TG}(he:PE X e te)(hg:PG X tg g)(hs:swapsWithSole [tg] e pos.line X.env=pure false:=by rfl)(hw:swappedStores [tg] e X.env=pure none:=by rfl)
  (h1:(assignEach [tg] X.env).map (·.2)=[assign tg X.env]:=by rfl):PS X (.Assign [tg] e pos) (wF te g):=by
 intro pins s σ H D I h
 &wpAny_Assign_stores (iM (he pins s σ H _ I h) fun v s1 ⟨x,H1,I1,r1,q1⟩=>?_) hs hw
 rw[h1]
 ~iM (hg pins s1 σ H1 x v _ I1 r1 q1) fun _ s2 q=>q
B5 bH{i:Nat}{x:Str}{e:Expr}{te:TE}{pos':Pos}(hN:X.N.Nodup)(hi:X.N[i]?=some x)(hx:Loc X.env.scope x)(he:PE X e te)(hs:swapsWith e (some (.Name x pos')) pos.line X.env=pure false:=by rfl)(hf:X.fn x=true∨X.env.scope.names.lookup x=some .local:=by first | ~.inl rfl | ~.inr rfl | assumption) :
  PS X (.Assign [.Name x pos'] e pos) (wF te (jR i)):=by
 intro pins s σ H D I h
 &wpAny_Assign_Name (iM (he pins s σ H _ I h) fun v s1 ⟨y,H1,I1,r1,q1⟩=>?_) hs
 ~DK I1 hN hi hx r1 (fun s2 I2=>⟨_,H1,I2,q1⟩) hf
end
section
variable{X:Cx}{pos:Pos}
def RK(c:TT)(tb:TS):TS:=fun D σ H=>∃W:Nat→St→Hp→Prop,(∃m,W m σ H)∧∀m σ H,W m σ H →
 c σ H fun b H1=>if b=true then ∃N:St→Hp→Prop,(∀σ' H',N σ' H'→∃m',m'<m∧W m' σ' H')∧tb {D with nx:=N,ct:=N,bk:=D.nx} σ H1 else D.nx σ H1
B5 yo{c:Expr}{body:List Stmt}{tc:TT}{tb:TS}(hp:PassesOwn (model X.prog X.w) X.A X.env X.xe)(hc:PT X c tc)(hb:DN X body tb):PS X (.While c body [] pos) (RK tc tb):=by
 intro pins s σ H D I h
 B3⟨W,⟨m0,w0⟩,turn⟩:=h
 &wpAny_While (codeAny_whileLoop (fun n s'=>∃σ' H',Inv X pins σ' H' s'∧W n σ' H') ?_ m0 ⟨σ,H,I,w0⟩)
 rintro n s1 ⟨σ1,H1,I1,w1⟩
 &wpAny_passesOwn hp (iM (hc pins s1 σ1 H1 _ I1 (turn n σ1 H1 w1)) fun b s2 ⟨H2,I2,q2⟩=>?_)
 cases b with
 | true=>
  B3⟨N,hN,q2⟩:=q2
  rw[if_pos rfl]
  &wpAny_passesOwn hp (iM (hb pins s2 σ1 H2 _ I2 q2) fun f s3 q3=>?_)
  cases f with
  | next=>
   B3⟨σ3,H3,I3,n3⟩:=q3
   B3⟨m',hm,w3⟩:=hN σ3 H3 n3
   ~⟨m',hm,σ3,H3,I3,w3⟩
  | cont=>
   B3⟨σ3,H3,I3,n3⟩:=q3
   B3⟨m',hm,w3⟩:=hN σ3 H3 n3
   ~⟨m',hm,σ3,H3,I3,w3⟩
  | brk=>~q3
  | ret v=>~q3
 | false=>
  rw[if_neg E2]
  ~wpAny_execs_nil ⟨σ1,H2,I2,q2⟩
end
structure It where
 go:Nat→Hp→Prop
 yld:Nat→Hp→V→Hp→Prop
 stop:Nat→Hp→Prop
def Wx(X:Cx)(pins:List (Addr×Obj))(H:Hp)(b:Addr):Prop:=
 H b=none∧b≠X.env.locals∧b∉X.fs∧(b∈X.ex∨X.s₀.heap.objs.size≤b)∧(∀x c,X.env.cells.lookup x=some c→c≠b)∧∀p∈X.pn++pins,p.1≠b
B5 Inv.aFj{X:Cx}{pins:List (Addr×Obj)}{σ:St}{H H':Hp}{s:Shared}{b:Addr}(I:Inv X pins σ H s)(hb:s.heap.objs.size≤b)(hn:H' b=none):Wx X pins H' b:=by
 &⟨hn,P8 (E5 I.lt hb),I.aI7 hb,.inr (G1 I.sz hb),fun x c e z=>?_,fun p hp z=>?_⟩
 ·B3⟨v,q⟩:=I.cell x c e
  ~absurd (E5 q.lt (by rw[z];~hb)) (L7 _)
 ·~absurd (E5 (Heap.lt_size (I.pin p hp).1) (by rw[z];~hb)) (L7 _)
structure Turn(P:Program)(w:World)(K:aF)(tg:Expr)(J:It)(fp:List Addr)(it:Addr)(tn:Nat→Heap→Prop):Prop where
 mem:it∈fp
 obj:∀i h,tn i h→∀b∈fp,∃o,h.get? b=some o∧∀v,o.data≠.cell v
 keep:∀i h h',tn i h→(∀b∈fp,∀o,h.get? b=some o→h'.get? b=some o)→tn i h'
 item:∀(X:Cx),X.prog=P→X.w=w→X.K=K→X.calm=true→∀(i:Nat)(pins:List (Addr×Obj))(s:Shared)(σ:St)(H:Hp)(E:Value→Shared→Prop),Inv X pins σ H s→(∀b∈fp,Wx X pins H b)→tn i s.heap→J.go i H →
  wpAny (model P w) X.A (pyNext (.ref it)) (fun r s1=>∃u,r=some u ∧
   wpAny (model P w) X.A (letOwnedTupleGo tg (.ref it) u) (fun _ s2=>∃x H',Inv X pins σ H' s2∧RelV x u∧J.yld i H x H'∧tn (i+1) s2.heap∧∀b∈fp,H' b=none) E s1) E s
 done:∀(X:Cx),X.prog=P→X.w=w→X.K=K→X.calm=true→∀(i:Nat)(pins:List (Addr×Obj))(s:Shared)(σ:St)(H:Hp)(E:Value→Shared→Prop),Inv X pins σ H s→(∀b∈fp,Wx X pins H b)→tn i s.heap→J.stop i H →
  wpAny (model P w) X.A (pyNext (.ref it)) (fun r s1=>r=none∧Inv X pins σ H s1) E s
 self:∀(A:Around)(i:Nat)(s:Shared)(Q:Value→Shared→Prop)(E:Value→Shared→Prop),tn i s.heap→Q (.ref it) s→wpAny (model P w) A (pyIter (.ref it)) Q E s
abbrev TI:=St→Hp→(It→Hp→Prop)→Prop
def PIE(X:Cx)(pins:List (Addr×Obj))(σ:St)(tg:Expr)(R:It→Hp→Prop)(itv:Value)(s2:Shared):Prop:=
 ∃(it:Addr)(fp:List Addr)(tn:Nat→Heap→Prop)(J:It)(H':Hp),itv=.ref it∧Inv X pins σ H' s2∧Turn X.prog X.w X.K tg J fp it tn∧tn 0 s2.heap∧(∀b∈fp,Wx X pins H' b)∧R J H'
def PI(X:Cx)(tg iter:Expr)(wi:TI):Prop:=
 ∀(pins:List (Addr×Obj))(s:Shared)(σ:St)(H:Hp)(R:It→Hp→Prop),Inv X pins σ H s→wi σ H R →
  wpAny (model X.prog X.w) X.A (eval iter X.env) (fun v s1=>wpAny (model X.prog X.w) X.A (pyIter v) (PIE X pins σ tg R) X.xe s1) X.xe s
B5 yp{M:Model}{A:Around}{E:Value→Shared→Prop}{s:Shared}{tg:Expr}{it:Addr}{u:Value}{o:Obj}{n:String}{vs:Array Value}{Q:Unit→Shared→Prop}(ho:s.heap.get? it=some o)(hc:o.cls=.type n)(hd:o.data=.fields vs)
    (hn:["enumerate", "zip", "dict_itemiterator", "dict_reverseitemiterator", "odict_iterator", "itertools.zip_longest", "itertools.pairwise"].contains n=false) (hQ:Q () s):wpAny M A (letOwnedTupleGo tg (.ref it) u) Q E s:=by
  B4 letOwnedTupleGo
  cases tg<;>first
    | ~wpAny_pure hQ
    | (cases u<;>first
        | ~wpAny_pure hQ
        | (&wpAny_bind (wpAny_load ho ?_)
           rw[hc,hd]
           show wpAny M A (if(["enumerate", "zip", "dict_itemiterator", "dict_reverseitemiterator", "odict_iterator", "itertools.zip_longest", "itertools.pairwise"].contains n&&vs[0]?==some (rawInt _))=true then _ else _) Q E s
           rw[if_neg (by intro h;rw[hn,Bool.false_and]at h;cases h)]
           ~wpAny_pure hQ))
def Itl(K:aF)(a:Addr):It:=
 ⟨fun i H=>∃xs x,pQ K H a xs∧xs[i]?=some x,fun i H x H'=>H'=H∧∀xs,pQ K H a xs→xs[i]?=some x,fun i H=>∃xs,pQ K H a xs∧xs.length≤i⟩
def Itt(K:aF)(a:Addr):It:=
 ⟨fun i H=>∃xs x,xR K H a xs∧xs[i]?=some x,fun i H x H'=>H'=H∧∀xs,xR K H a xs→xs[i]?=some x,fun i H=>∃xs,xR K H a xs∧xs.length≤i⟩
def Itr(lo:Int)(n:Nat):It:=⟨fun i _=>i<n,fun i H x H'=>H'=H∧x=.int (lo+i),fun i _=>n≤i⟩
B5 kj{P:Program}{w:World}{K:aF}{tg:Expr}(a it:Addr):Turn P w K tg (Itl K a) [it] it (fun i h=>h.IsListIter it a i) where
 mem:=by simp
 obj:=fun i h st b hb=>by
  have e:b=it:=by simpa using hb
  subst e
  B3⟨o,e,c,d⟩:=st
  ~⟨o,e,fun v z=>by rw[d]at z;cases z⟩
 keep:=fun i h h' st k=>st.at fun o e=>k it (by simp) o e
 item:=by
  intro X hP hw hK hc i pins s σ H E I hf st hg
  subst hP hw hK
  B3⟨xs,x,hq,hx⟩:=hg
  B3⟨its,rv,p,hz⟩:=I.list hq
  B3⟨u,hu,ru⟩:=rv.get hx
  B3⟨f0,f1,f2,f3,f4,f5⟩:=hf it (by simp)
  &wpAny_pyNext_list_item st p.isList (x:=u) (by simpa using hu) fun h' st' sb=>?_
  have I1:Inv X pins σ H {s with heap:=h'}:=I.turned (t':=s.toks) (fun b o hb e=>(sb.2 b hb).trans e) f0 f1 f3 f4 f5
  B3⟨o,e,c,d⟩:=id st'
  ~⟨u,rfl,yp (s:={s with heap:=h'}) e c d A8 ⟨x,H,I1,ru,⟨rfl,fun ys hy=>by rw[I.DP hy hq];~hx⟩,st',fun b hb=>(hf b hb).1⟩⟩
 done:=by
  intro X hP hw hK hc i pins s σ H E I hf st hg
  subst hP hw hK
  B3⟨xs,hq,hx⟩:=hg
  B3⟨its,rv,p,hz⟩:=I.list hq
  B3⟨f0,f1,f2,f3,f4,f5⟩:=hf it (by simp)
  have hl:=rv.length
  ~wpAny_pyNext_list_end (I.ok.hd hc) st p.isList (by simp;omega) fun h' eb=>⟨rfl,I.turned (t':=s.toks) (fun b o hb e=>eb b o hb e) f0 f1 f3 f4 f5⟩
 self:=fun _ _ _ _ _ st h=>wpAny_pyIter_listiter st h
B5 RL{P:Program}{w:World}{K:aF}{tg:Expr}(a it:Addr):Turn P w K tg (Itt K a) [it] it (fun i h=>h.IsTupleIter it a i) where
 mem:=by simp
 obj:=fun i h st b hb=>by
  have e:b=it:=by simpa using hb
  subst e
  B3⟨o,e,c,d⟩:=st
  ~⟨o,e,fun v z=>by rw[d]at z;cases z⟩
 keep:=fun i h h' st k=>st.at fun o e=>k it (by simp) o e
 item:=by
  intro X hP hw hK hc i pins s σ H E I hf st hg
  subst hP hw hK
  B3⟨xs,x,hq,hx⟩:=hg
  B3⟨its,rv,p,hz⟩:=I.tuple hq
  B3⟨u,hu,ru⟩:=rv.get hx
  B3⟨f0,f1,f2,f3,f4,f5⟩:=hf it (by simp)
  &wpAny_pyNext_tuple_item st (show s.heap.IsTuple a its.toArray from p) (x:=u) (by simpa using hu) fun h' st' sb=>?_
  have I1:Inv X pins σ H {s with heap:=h'}:=I.turned (t':=s.toks) (fun b o hb e=>(sb.2 b hb).trans e) f0 f1 f3 f4 f5
  B3⟨o,e,c,d⟩:=id st'
  ~⟨u,rfl,yp (s:={s with heap:=h'}) e c d A8 ⟨x,H,I1,ru,⟨rfl,fun ys hy=>by rw[I.Tv hy hq];~hx⟩,st',fun b hb=>(hf b hb).1⟩⟩
 done:=by
  intro X hP hw hK hc i pins s σ H E I hf st hg
  subst hP hw hK
  B3⟨xs,hq,hx⟩:=hg
  B3⟨its,rv,p,hz⟩:=I.tuple hq
  B3⟨f0,f1,f2,f3,f4,f5⟩:=hf it (by simp)
  have hl:=rv.length
  ~wpAny_pyNext_tuple_end (I.ok.hd hc) st (show s.heap.IsTuple a its.toArray from p) (by simp;omega) fun h' eb=>⟨rfl,I.turned (t':=s.toks) (fun b o hb e=>eb b o hb e) f0 f1 f3 f4 f5⟩
 self:=fun _ _ _ _ _ st h=>wpAny_pyIter_tupleiter st h
B5 RM{P:Program}{w:World}{K:aF}{tg:Expr}(it:Addr)(lo:Int)(n:Nat):Turn P w K tg (Itr lo n) [it] it (fun i h=>IsRangeIter h it (lo+(i:Nat)*1) ((n:Int)-(i:Nat)) 1) where
 mem:=by simp
 obj:=fun i h st b hb=>by
  have e:b=it:=by simpa using hb
  subst e
  ~⟨_,st,fun v z=>by
   have z':Data.fields _=Data.cell v:=z
   cases z'⟩
 keep:=fun i h h' st k=>k it (by simp) _ st
 item:=by
  intro X hP hw hK hc i pins s σ H E I hf st hg
  subst hP hw hK
  B3⟨f0,f1,f2,f3,f4,f5⟩:=hf it (by simp)
  have W:=Walks.range (prog:=X.prog) (w:=X.w) (I.ok.hd hc) it lo 1 n
  &W.item i s _ _ hg st fun v h' tk hv st' kk=>?_
  B3⟨t,rfl⟩:=hv
  have I1:Inv X pins σ H {s with heap:=h',toks:=tk}:=I.turned (fun b o hb e=>kk b o (by simpa using hb) e) f0 f1 f3 f4 f5
  &⟨_,rfl,yp (s:={s with heap:=h',toks:=tk}) (n := "range_iterator") st' rfl rfl A8 ⟨.int (lo+i),H,I1,⟨t,?_⟩,⟨rfl,rfl⟩,st',fun b hb=>(hf b hb).1⟩⟩
  rw[Int.mul_one]
 done:=by
  intro X hP hw hK hc i pins s σ H E I hf st hg
  subst hP hw hK
  B3⟨f0,f1,f2,f3,f4,f5⟩:=hf it (by simp)
  ~wpAny_pyNext_range_end (I.ok.hd hc) st (by have:n≤i:=hg;omega) fun h' eb=>⟨rfl,I.turned (t':=s.toks) (fun b o hb e=>eb b o hb e) f0 f1 f3 f4 f5⟩
 self:=fun _ _ _ _ _ st h=>wpAny_pyIter_rangeiter st h
end L2
namespace L2
open PySem PySem.Spec PyProof.Rows
section
variable{X:Cx}{tg:Expr}
def aEd(K:aF)(tl:TE):TI:=fun σ H R=>tl σ H fun x H1=>∃a,x=.ref a∧(∃xs,pQ K H1 a xs)∧R (Itl K a) H1
def aHx(K:aF)(tl:TE):TI:=fun σ H R=>tl σ H fun x H1=>∃a,x=.ref a∧(∃xs,xR K H1 a xs)∧R (Itt K a) H1
B5 ZW{l:Expr}{tl:TE}(hl:PE X l tl):PI X tg l (aEd X.K tl):=by
 intro pins s σ H R I h
 &iM (hl pins s σ H _ I h) fun v s1 ⟨x,H1,I1,r1,q1⟩=>?_
 B3⟨a,e,⟨xs,hq⟩,q⟩:=q1
 subst e
 cases r1
 B3⟨its,rv,p,hz⟩:=I1.list hq
 &wpAny_pyIter_list p.isList ?_
 &⟨s1.heap.objs.size,[s1.heap.objs.size],_,_,H1,rfl,I1.kept (t':=s1.toks) fun b o e=>Heap.get?_push_of_some _ e,kj a _,⟨_,Heap.get?_push_size _ rfl,rfl,rfl⟩,fun b hb=>?_,q⟩
 have e:b=s1.heap.objs.size:=by simpa using hb
 subst e
 ~I1.aFj (D1 _) (I1.hok.fresh (D1 _))
B5 yq{l:Expr}{tl:TE}(hl:PE X l tl):PI X tg l (aHx X.K tl):=by
 intro pins s σ H R I h
 &iM (hl pins s σ H _ I h) fun v s1 ⟨x,H1,I1,r1,q1⟩=>?_
 B3⟨a,e,⟨xs,hq⟩,q⟩:=q1
 subst e
 cases r1
 B3⟨its,rv,p,hz⟩:=I1.tuple hq
 &wpAny_pyIter_tuple (show s1.heap.IsTuple a its.toArray from p) ?_
 &⟨s1.heap.objs.size,[s1.heap.objs.size],_,_,H1,rfl,I1.kept (t':=s1.toks) fun b o e=>Heap.get?_push_of_some _ e,RL a _,⟨_,Heap.get?_push_size _ rfl,rfl,rfl⟩,fun b hb=>?_,q⟩
 have e:b=s1.heap.objs.size:=by simpa using hb
 subst e
 ~I1.aFj (D1 _) (I1.hok.fresh (D1 _))
B5 DQ{pins:List (Addr×Obj)}{σ:St}{H:Hp}{s:Shared}{R:It→Hp→Prop}{E:Value→Shared→Prop}{lo hi:Int}{t u v:Tok}{tk:Nat}(I:Inv X pins σ H s)(h1:-(2 ^ 62)≤lo)(h2:lo<2 ^ 62)(h3:-(2 ^ 62)≤hi)(h4:hi<2 ^ 62)
  (q:R (Itr lo (hi-lo).toNat) H):wpAny (model X.prog X.w) X.A (pyIter (.ref s.heap.objs.size)) (PIE X pins σ tg R) E {s with heap:=s.heap.push {cls:=.type "range", data:=.fields #[.int lo t,.int hi u,.int 1 v]},toks:=tk}:=by
 &wpAny_pyIter_range (IsRange.new ..) (small_one h1 h2 h3 h4) ?_
 have I1:Inv X pins σ H {s with heap:=s.heap.push {cls:=.type "range", data:=.fields #[.int lo t,.int hi u,.int 1 v]},toks:=tk}:=I.kept fun b o e=>Heap.get?_push_of_some _ e
 &⟨(s.heap.push {cls:=.type "range", data:=.fields #[.int lo t,.int hi u,.int 1 v]}).objs.size,[(s.heap.push {cls:=.type "range", data:=.fields #[.int lo t,.int hi u,.int 1 v]}).objs.size],_,_,H,rfl,
  I1.kept (t':=tk) fun b o e=>Heap.get?_push_of_some _ e,RM _ lo (hi-lo).toNat,?_,fun b hb=>?_,q⟩
 ·have e1:lo+((0:Nat):Int)*1=lo:=by simp
  have e2:(((hi-lo).toNat:Nat):Int)-((0:Nat):Int)=Builtin.Range.rangeSize lo hi 1:=by rw[rangeSize_one];split<;>omega
  show IsRangeIter _ _ (lo+((0:Nat):Int)*1) ((((hi-lo).toNat:Nat):Int)-((0:Nat):Int)) 1
  rw[e1,e2]
  ~Heap.get?_push_size _ rfl
 ·have e:b=(s.heap.push {cls:=.type "range", data:=.fields #[.int lo t,.int hi u,.int 1 v]}).objs.size:=by simpa using hb
  subst e
  ~I1.aFj (D1 _) (I1.hok.fresh (D1 _))
def yr(ta:TA):TI:=fun σ H R=>ta σ H fun vs H1=>∃j:Int,vs=[.int j]∧-(2 ^ 62)≤j∧j<2 ^ 62∧R (Itr 0 j.toNat) H1
def yu(ta:TA):TI:=fun σ H R=>ta σ H fun vs H1=>∃i j:Int,vs=[.int i,.int j]∧(-(2 ^ 62)≤i∧i<2 ^ 62∧-(2 ^ 62)≤j∧j<2 ^ 62)∧R (Itr i (j-i).toNat) H1
B5 Tw{a:Expr}{ta:TA}{p pos:Pos}(hg:Gl X "range") (hm:X.mg "range" = none) (ha:PA X [a] ta) (hs:starEach [a] X.env=[(false,eval a X.env)]:=by rfl):PI X tg (.Call (.Name "range" p) [a] [] pos) (yr ta):=by
 intro pins s σ H R I h
 &Call_ (sI I hg hm boot_range (J6 (iM (ha pos pins s σ H _ I h) fun us s1 ⟨vs,H1,I1,r1,q1⟩=>?_) hs rfl))
 B3⟨j,e,q1,q2,q⟩:=q1
 subst e
 cases r1 with
 | cons r rr=>
  cases rr
  B3⟨t,rfl⟩:=r
  ~call_range_1 (DQ I1 A6 A6 q1 q2 (by simpa using q))
B5 km{a b:Expr}{ta:TA}{p pos:Pos}(hg:Gl X "range") (hm:X.mg "range" = none) (ha:PA X [a,b] ta) (hs:starEach [a,b] X.env=[(false,eval a X.env),(false,eval b X.env)]:=by rfl) (hs2:starEach [b] X.env=[(false,eval b X.env)]:=by rfl) :
  PI X tg (.Call (.Name "range" p) [a,b] [] pos) (yu ta):=by
 intro pins s σ H R I h
 &Call_ (sI I hg hm boot_range (J6 (iM (ha pos pins s σ H _ I h) fun us s1 ⟨vs,H1,I1,r1,q1⟩=>?_) (by rw[hs,hs2]) (by rw[hs2];rfl)))
 B3⟨i,j,e,⟨q1,q2,q3,q4⟩,q⟩:=q1
 subst e
 cases r1 with
 | cons r rr=>
  cases rr with
  | cons r' rr=>
   cases rr
   B3⟨t,rfl⟩:=r
   B3⟨t',rfl⟩:=r'
   ~call_range_2 (DQ I1 q1 q2 q3 q4 q)
def Wy(wi:TI)(g:TG)(tb:TS):TS:=fun D σ H=>wi σ H fun J H1=>∃W:Nat→Nat→St→Hp→Prop,(∃m,W 0 m σ H1)∧∀i m σ H,W i m σ H →
 (J.stop i H∧D.nx σ H)∨(J.go i H∧∃N:St→Hp→Prop,(∀σ' H',N σ' H'→∃m',m'<m∧W (i+1) m' σ' H')∧∀x H',J.yld i H x H'→g x σ H' fun σ2 H2=>tb {D with nx:=N,ct:=N,bk:=D.nx} σ2 H2)
def Mw(fp:List Addr)(h:Heap):List (Addr×Obj):=fp.filterMap fun b=>(h.get? b).map fun o=>(b,o)
B5 wG{fp:List Addr}{h:Heap}{b:Addr}{o:Obj}(hb:b∈fp)(e:h.get? b=some o):(b,o)∈Mw fp h:=i4.mpr ⟨b,hb,by rw[e];rfl⟩
B5 lg{fp:List Addr}{h:Heap}{p:Addr×Obj}(hp:p∈Mw fp h):p.1∈fp∧h.get? p.1=some p.2:=by
 B3⟨b,hb,e⟩:=i4.mp hp
 cases q:h.get? b with
 | none=>rw[q]at e;cases e
 | some o=>
  rw[q]at e
  have e':(b,o)=p:=F1 e
  subst e'
  ~⟨hb,q⟩
B5 Inv.pinned{pins:List (Addr×Obj)}{σ:St}{H:Hp}{s:Shared}{fp:List Addr}(I:Inv X pins σ H s)(hf:∀b∈fp,Wx X pins H b)(ho:∀b∈fp,∃o,s.heap.get? b=some o∧∀v,o.data≠.cell v):Inv X (pins++Mw fp s.heap) σ H s:=
 I.ZR fun p hp=>(G0.mp hp).elim (fun z=>I.pin p (F0 _ z)) fun z=>by
  B3⟨hb,e⟩:=lg z
  B3⟨f0,f1,f2,_⟩:=hf p.1 hb
  B3⟨o,e',d⟩:=ho p.1 hb
  rw[e]at e';cases e'
  ~⟨e,f0,f1,f2,d⟩
B5 Inv.Fb{pins pl:List (Addr×Obj)}{σ:St}{H:Hp}{s:Shared}(I:Inv X (pins++pl) σ H s):Inv X pins σ H s:=I.ZR fun p hp=>I.pin p (F0 _ (G6 _ hp))
B5 Wz{iter:Expr}{body:List Stmt}{wi:TI}{g:TG}{tb:TS}{pos:Pos}(hp:PassesOwn (model X.prog X.w) X.A X.env X.xe)(hc:X.calm=true)(hi:PI X tg iter wi)(hg:PG X tg g)(hb:DN X body tb)
  (hs:∀x,foldedSetIterable iter X.env x=pure x:=by intro _;rfl):PS X (.For tg iter body [] pos) (Wy wi g tb):=by
 intro pins s σ H D I h
 &wpAny_For (iM (hi pins s σ H _ I h) fun v s1 h1=>iM h1 fun itv s2 h2=>?_) hs
 B3⟨it,fp,tn,J,H2,e,I2,T,st2,f2,W,⟨m0,w0⟩,turn⟩:=h2
 subst e
 have stat:∀{H':Hp},(∀b∈fp,H' b=none)→∀b∈fp,Wx X pins H' b:=fun hn b hb=>⟨hn b hb,(f2 b hb).2⟩
 &codeAny_forLoop_any (fun n s'=>∃i σ' H',Inv X pins σ' H' s'∧tn i s'.heap∧(∀b∈fp,H' b=none)∧W i n σ' H') ?_ m0 ⟨0,σ,H2,I2,st2,fun b hb=>(f2 b hb).1,w0⟩
 rintro n s3 ⟨i,σ3,H3,I3,st3,fr3,w3⟩
 rcases turn i n σ3 H3 w3 with ⟨stop,qn⟩ | ⟨go,N,hN,step⟩
 ·&wpAny_passesOwn hp (iM (T.done X rfl rfl rfl hc i pins s3 σ3 H3 X.xe I3 (stat fr3) st3 stop) fun r s4 ⟨hr,I4⟩=>?_)
  subst hr
  ~wpAny_execs_nil ⟨σ3,H3,I4,qn⟩
 ·&wpAny_passesOwn hp (iM (T.item X rfl rfl rfl hc i pins s3 σ3 H3 X.xe I3 (stat fr3) st3 go) fun r s4 ⟨u,hr,h4⟩=>?_)
  subst hr
  &wpAny_passesOwn hp (iM h4 fun _ s5 ⟨x,H5,I5,r5,y5,st5,fr5⟩=>?_)
  have I5':=I5.pinned (stat fr5) (T.obj _ _ st5)
  &wpAny_passesOwn hp (iM (hg _ s5 σ3 H5 x u _ I5' r5 (step x H5 y5)) fun _ s6 ⟨σ6,H6,I6,q6⟩=>?_)
  &wpAny_passesOwn hp (iM (hb _ s6 σ6 H6 _ I6 q6) fun f s7 q7=>?_)
  have again:∀{σ7:St} {H7:Hp},Inv X (pins++Mw fp s5.heap) σ7 H7 s7→N σ7 H7→∃m,m<n∧∃i σ' H',Inv X pins σ' H' s7∧tn i s7.heap∧(∀b∈fp,H' b=none)∧W i m σ' H':=fun{σ7 H7} I7 n7=>by
   B3⟨m',hm,w7⟩:=hN σ7 H7 n7
   &⟨m',hm,i+1,σ7,H7,I7.Fb,T.keep _ _ _ st5 fun b hb o e=>(I7.pin (b,o) (F0 _ (F0 _ (wG hb e)))).1,fun b hb=>?_,w7⟩
   B3⟨o,e,d⟩:=T.obj _ _ st5 b hb
   ~(I7.pin (b,o) (F0 _ (F0 _ (wG hb e)))).2.1
  cases f with
  | next=>B3⟨σ7,H7,I7,n7⟩:=q7;~again I7 n7
  | cont=>B3⟨σ7,H7,I7,n7⟩:=q7;~again I7 n7
  | brk=>B3⟨σ7,H7,I7,q7⟩:=q7;~⟨σ7,H7,I7.Fb,q7⟩
  | ret v=>B3⟨x7,σ7,H7,I7,r7,q7⟩:=q7;~⟨x7,σ7,H7,I7.Fb,r7,q7⟩
end
end L2
namespace L2
open PySem PySem.Spec PyProof.Rows
abbrev R2:=V→V→Hp→VK→Prop
def uM(X:Cx)(f:Value→Value→Sem Value)(r:R2):Prop:=
 ∀(pins:List (Addr×Obj))(s:Shared)(σ:St)(H:Hp)(x y:V)(v u:Value)(Q:VK),Inv X pins σ H s→RelV x v→RelV y u→r x y H Q →
  wpAny (model X.prog X.w) X.A (f v u) (EP X pins σ Q) X.xe s
def UnR(X:Cx)(f:Value→Sem Value)(r:V→Hp→VK→Prop):Prop:=
 ∀(pins:List (Addr×Obj))(s:Shared)(σ:St)(H:Hp)(x:V)(v:Value)(Q:VK),Inv X pins σ H s→RelV x v→r x H Q →
  wpAny (model X.prog X.w) X.A (f v) (EP X pins σ Q) X.xe s
def mZ(X:Cx)(f:Value)(r:List V→Hp→VK→Prop):Prop:=
 ∀(pins:List (Addr×Obj))(s:Shared)(σ:St)(H:Hp)(xs:List V)(us:List Value)(Q:VK),Inv X pins σ H s→Vals xs us→r xs H Q →
  wpAny (model X.prog X.w) X.A (call f us) (EP X pins σ Q) X.xe s
def DR(r:R2)(ta tb:TE):TE:=fun σ H Q=>ta σ H fun x H1=>tb σ H1 fun y H2=>r x y H2 Q
def tUn(r:V→Hp→VK→Prop)(ta:TE):TE:=fun σ H Q=>ta σ H fun x H1=>r x H1 Q
def rI(C:Int→Int→Prop)(g:Int→Int→V):R2:=fun x y H Q=>∃i j,x=.int i∧y=.int j∧C i j∧Q (g i j) H
def lq(g:Int→Int→V):R2:=fun x y H Q=>∃i j,x=.int i∧y=.int j∧Q (g i j) H
def rU(g:Int→V):V→Hp→VK→Prop:=fun x H Q=>∃i,x=.int i∧Q (g i) H
section
variable{X:Cx}{a b c:Expr}{ta tb tc:TE}{pos:Pos}
B5 aFl(ha:PE X a ta)(hb:PE X b tb){pins:List (Addr×Obj)}{s:Shared}{σ:St}{H:Hp}{R:V→V→Hp→Prop}(I:Inv X pins σ H s)
  (h:ta σ H fun x H1=>tb σ H1 fun y H2=>R x y H2) {Q:Value→Shared→Prop} {f:Value→Value→Sem Value}
  (hf:∀v u s2 x y H2,Inv X pins σ H2 s2→RelV x v→RelV y u→R x y H2→wpAny (model X.prog X.w) X.A (f v u) Q X.xe s2) :
  wpAny (model X.prog X.w) X.A (eval a X.env) (fun v s₁=>wpAny (model X.prog X.w) X.A (eval b X.env) (fun u s₂=>wpAny (model X.prog X.w) X.A (f v u) Q X.xe s₂) X.xe s₁) X.xe s:=by
 &iM (ha pins s σ H _ I h) fun v s1 ⟨x,H1,I1,r1,q1⟩=>?_
 &iM (hb pins s1 σ H1 _ I1 q1) fun u s2 ⟨y,H2,I2,r2,q2⟩=>?_
 ~hf v u s2 x y H2 I2 r1 r2 q2
B5 aHy{op:Operator}{r:R2}(ho:uM X (binaryOp op) r)(ha:PE X a ta)(hb:PE X b tb):PE X (.BinOp a op b pos) (DR r ta tb):=by
 intro pins s σ H Q I h
 ~wpAny_BinOp (aFl ha hb I h fun v u s2 x y H2 I2 rx ry q=>ho pins s2 σ H2 x y v u Q I2 rx ry q)
B5 aHz{op:UnaryOp}{r:V→Hp→VK→Prop}(ho:UnR X (unaryOp op) r)(ha:PE X a ta):PE X (.UnaryOp op a pos) (tUn r ta):=by
 intro pins s σ H Q I h
 ~UnaryOp_ (iM (ha pins s σ H _ I h) fun v s1 ⟨x,H1,I1,r1,q1⟩=>ho pins s1 σ H1 x v Q I1 r1 q1)
B5 opI{f:Value→Value→Sem Value}{C:Int→Int→Prop}{g:Int→Int→Int}
  (rule:∀(i j:Int)(t u:Tok)(s:Shared)(Q:Value→Shared→Prop)(E:Value→Shared→Prop),C i j→Q (.int (g i j) s.toks) {s with toks:=s.toks+1}→wpAny (model X.prog X.w) X.A (f (.int i t) (.int j u)) Q E s) :
  uM X f (rI C fun i j=>.int (g i j)):=by
 intro pins s σ H x y v u Q I rx ry h
 B3⟨i,j,rfl,rfl,hc,q⟩:=h
 B3⟨t,rfl⟩:=rx
 B3⟨t',rfl⟩:=ry
 ~rule i j t t' s _ _ hc ⟨.int (g i j),H,I.tok _,⟨_,rfl⟩,q⟩
B5 aHA{f:Value→Value→Sem Value}{g:Int→Int→Int}
  (rule:∀(i j:Int)(t u:Tok)(s:Shared)(Q:Value→Shared→Prop)(E:Value→Shared→Prop),Q (.int (g i j) s.toks) {s with toks:=s.toks+1}→wpAny (model X.prog X.w) X.A (f (.int i t) (.int j u)) Q E s) :
  uM X f (lq fun i j=>.int (g i j)):=by
 intro pins s σ H x y v u Q I rx ry h
 B3⟨i,j,rfl,rfl,q⟩:=h
 B3⟨t,rfl⟩:=rx
 B3⟨t',rfl⟩:=ry
 ~rule i j t t' s _ _ ⟨.int (g i j),H,I.tok _,⟨_,rfl⟩,q⟩
B5 aCv{f:Value→Value→Sem Value}{g:Int→Int→Bool}
  (rule:∀(i j:Int)(t u:Tok)(s:Shared)(Q:Value→Shared→Prop)(E:Value→Shared→Prop),Q (.bool (g i j)) s→wpAny (model X.prog X.w) X.A (f (.int i t) (.int j u)) Q E s) :
  uM X f (lq fun i j=>.bl (g i j)):=by
 intro pins s σ H x y v u Q I rx ry h
 B3⟨i,j,rfl,rfl,q⟩:=h
 B3⟨t,rfl⟩:=rx
 B3⟨t',rfl⟩:=ry
 ~rule i j t t' s _ _ ⟨.bl (g i j),H,I,rfl,q⟩
def lr(i j:Int):Prop:=0<j∧j<1073741824
def lu(i j:Int):Prop:=0≤j∧j≤1000000∧i.natAbs<2 ^ 64
def Rr(i j:Int):Prop:=(-(2 ^ 64)<i∧i<2 ^ 64)∨(-(2 ^ 64)<j∧j<2 ^ 64)
B5 Rr.ok{i j:Int}(h:Rr i j):IntMulOk i j:=by
 rcases h with ⟨h1,h2⟩ | ⟨h1,h2⟩
 ·~.of_left (intBits_le_64 h1 h2)
 ·~.of_right (intBits_le_64 h1 h2)
B5 aFm:uM X (binaryOp .Add) (lq fun i j=>.int (i+j)):=aHA fun _ _ _ _ _ _ _ q=>add_int q
B5 aFn:uM X (binaryOp .Sub) (lq fun i j=>.int (i-j)):=aHA fun _ _ _ _ _ _ _ q=>sub_int q
B5 aFo:uM X (binaryOp .Mult) (rI Rr fun i j=>.int (i*j)):=opI fun _ _ _ _ _ _ _ hc q=>mul_int q hc.ok
B5 aCw:uM X (binaryOp .FloorDiv) (rI lr fun i j=>.int (i/j)):=opI fun i j _ _ _ _ _ hc q=>by
 have h1:(0:Int)<j:=hc.1
 have h2:j<1073741824:=hc.2
 ~floordiv_int A6 (by rw[Int.fdiv_eq_ediv_of_nonneg i A6];~q) (.inl (PyProof.noPylong_small A6))
B5 aFp:uM X (binaryOp .Mod) (rI (fun _ j=>0<j) fun i j=>.int (i%j)):=opI fun i j _ _ _ _ _ hc q=>by
 have h1:(0:Int)<j:=hc
 ~mod_int' A6 (by rw[Int.fmod_eq_emod_of_nonneg i A6];~q)
B5 aFq:uM X (binaryOp .Pow) (rI lu fun i j=>.int (i ^ j.toNat)):=opI fun _ _ _ _ _ _ _ hc q=>pow_int_small hc.1 hc.2.1 hc.2.2 q
B5 unI{f:Value→Sem Value}{g:Int→Int}
  (rule:∀(i:Int)(t:Tok)(s:Shared)(Q:Value→Shared→Prop)(E:Value→Shared→Prop),Q (.int (g i) s.toks) {s with toks:=s.toks+1}→wpAny (model X.prog X.w) X.A (f (.int i t)) Q E s) :
  UnR X f (rU fun i=>.int (g i)):=by
 intro pins s σ H x v Q I rx h
 B3⟨i,rfl,q⟩:=h
 B3⟨t,rfl⟩:=rx
 ~rule i t s _ _ ⟨.int (g i),H,I.tok _,⟨_,rfl⟩,q⟩
B5 aFr:UnR X (unaryOp .USub) (rU fun i=>.int (-i)):=unI fun _ _ _ _ _ q=>neg_int q
end
def lz:V→V→Bool
  | .non,.non=>true | .non,.int _=>true | .int _,.non=>true | .non,.bl _=>true | .bl _,.non=>true | .non,.str _=>true | .str _,.non=>true
  | .int _,.int _=>true | .bl _,.bl _=>true | .str _,.str _=>true | .byt _,.byt _=>true
  | .int _,.str _=>true | .str _,.int _=>true | .bl _,.str _=>true | .str _,.bl _=>true
  | _,_=>false
def rEq:R2:=fun x y H Q=>lz x y=true∧Q (.bl (decide (x=y))) H
def rNe:R2:=fun x y H Q=>lz x y=true∧Q (.bl (!decide (x=y))) H
B5 ZX{i j:Int}:decide (V.int i=V.int j)=(i==j):=by
 rw[N3]
 simp
B5 yw{i j:Bool}:decide (V.bl i=V.bl j)=(i==j):=by
 rw[N3]
 simp
B5 Xa{i j:Str}:decide (V.str i=V.str j)=(i==j):=by
 rw[N3]
 simp
B5 ZZ{i j:Array UInt8}:decide (V.byt i=V.byt j)=(i.toList==j.toList):=by
 rw[N3]
 cases i
 cases j
 simp
section
variable{X:Cx}{a b c:Expr}{ta tb tc:TE}{pos:Pos}
B5 dC{pins:List (Addr×Obj)}{σ:St}{H:Hp}{s:Shared}{Q:VK}{k k':Bool}(I:Inv X pins σ H s)(q:Q (.bl k) H)(e:k=k'):EP X pins σ Q (.bool k') s:=by
 subst e
 ~⟨.bl k,H,I,rfl,q⟩
B5 aHB:uM X (compareOp .Eq) rEq:=by
 intro pins s σ H x y v u Q I rx ry h
 B3⟨hs,q⟩:=h
 cases x with
 | non=>
  cases rx
  cases y with
  | non=>cases ry;~PySem.EqNone.eq_none_none (dC I q (by simp))
  | bl j=>cases ry;~PySem.EqNone.eq_none_bool (dC I q (by simp))
  | int j=>B3⟨t',rfl⟩:=ry;~PySem.EqNone.eq_none_int (dC I q (by simp))
  | str j=>B3⟨t',rfl⟩:=ry;~PySem.EqNone.eq_none_str (dC I q (by simp))
  | _=>~absurd (show false=true from hs) E2
 | bl i=>
  cases rx
  cases y with
  | non=>cases ry;~PySem.EqNone.eq_bool_none (dC I q (by simp))
  | bl j=>cases ry;~eq_bool (dC I q yw)
  | str j=>B3⟨t',rfl⟩:=ry;~PySem.EqMixed.eq_bool_str (dC I q (by simp))
  | _=>~absurd (show false=true from hs) E2
 | int i=>
  B3⟨t,rfl⟩:=rx
  cases y with
  | non=>cases ry;~PySem.EqNone.eq_int_none (dC I q (by simp))
  | int j=>B3⟨t',rfl⟩:=ry;~eq_int (dC I q ZX)
  | str j=>B3⟨t',rfl⟩:=ry;~PySem.EqMixed.eq_int_str (dC I q (by simp))
  | _=>~absurd (show false=true from hs) E2
 | str i=>
  B3⟨t,rfl⟩:=rx
  cases y with
  | non=>cases ry;~PySem.EqNone.eq_str_none (dC I q (by simp))
  | bl j=>cases ry;~PySem.EqMixed.eq_str_bool (dC I q (by simp))
  | int j=>B3⟨t',rfl⟩:=ry;~PySem.EqMixed.eq_str_int (dC I q (by simp))
  | str j=>B3⟨t',rfl⟩:=ry;~eq_str (dC I q Xa)
  | _=>~absurd (show false=true from hs) E2
 | byt i=>
  B3⟨t,rfl⟩:=rx
  cases y with
  | byt j=>B3⟨t',rfl⟩:=ry;~PySem.W.eq_bytes (dC I q ZZ)
  | _=>~absurd (show false=true from hs) E2
 | _=>cases y<;>~absurd (show false=true from hs) E2
B5 aHC:uM X (compareOp .NotEq) rNe:=by
 intro pins s σ H x y v u Q I rx ry h
 B3⟨hs,q⟩:=h
 cases x with
 | non=>
  cases rx
  cases y with
  | non=>cases ry;~PySem.EqNone.ne_none_none (dC I q (by simp))
  | bl j=>cases ry;~PySem.EqNone.ne_none_bool (dC I q (by simp))
  | int j=>B3⟨t',rfl⟩:=ry;~PySem.EqNone.ne_none_int (dC I q (by simp))
  | str j=>B3⟨t',rfl⟩:=ry;~PySem.EqNone.ne_none_str (dC I q (by simp))
  | _=>~absurd (show false=true from hs) E2
 | bl i=>
  cases rx
  cases y with
  | non=>cases ry;~PySem.EqNone.ne_bool_none (dC I q (by simp))
  | bl j=>cases ry;~ne_bool (dC I q (congrArg not yw))
  | str j=>B3⟨t',rfl⟩:=ry;~PySem.EqMixed.ne_bool_str (dC I q (by simp))
  | _=>~absurd (show false=true from hs) E2
 | int i=>
  B3⟨t,rfl⟩:=rx
  cases y with
  | non=>cases ry;~PySem.EqNone.ne_int_none (dC I q (by simp))
  | int j=>B3⟨t',rfl⟩:=ry;~ne_int (dC I q (congrArg not ZX))
  | str j=>B3⟨t',rfl⟩:=ry;~PySem.EqMixed.ne_int_str (dC I q (by simp))
  | _=>~absurd (show false=true from hs) E2
 | str i=>
  B3⟨t,rfl⟩:=rx
  cases y with
  | non=>cases ry;~PySem.EqNone.ne_str_none (dC I q (by simp))
  | bl j=>cases ry;~PySem.EqMixed.ne_str_bool (dC I q (by simp))
  | int j=>B3⟨t',rfl⟩:=ry;~PySem.EqMixed.ne_str_int (dC I q (by simp))
  | str j=>B3⟨t',rfl⟩:=ry;~ne_str (dC I q (congrArg not Xa))
  | _=>~absurd (show false=true from hs) E2
 | byt i=>
  B3⟨t,rfl⟩:=rx
  cases y with
  | byt j=>B3⟨t',rfl⟩:=ry;~PySem.W.ne_bytes (dC I q (congrArg not ZZ))
  | _=>~absurd (show false=true from hs) E2
 | _=>cases y<;>~absurd (show false=true from hs) E2
B5 Mx:uM X (compareOp .Lt) (lq fun i j=>.bl (decide (i<j))):=aCv fun _ _ _ _ _ _ _ q=>lt_int q
B5 yx:uM X (compareOp .LtE) (lq fun i j=>.bl (decide (i≤j))):=aCv fun _ _ _ _ _ _ _ q=>le_int q
B5 aHD:uM X (compareOp .Gt) (lq fun i j=>.bl (decide (j<i))):=aCv fun _ _ _ _ _ _ _ q=>gt_int q
B5 aHE:uM X (compareOp .GtE) (lq fun i j=>.bl (decide (j≤i))):=aCv fun _ _ _ _ _ _ _ q=>ge_int q
B5 RN:uM X (compareOp .Is) (fun x y H Q=>y=.non∧Q (.bl (decide (x=.non))) H):=by
 intro pins s σ H x y v u Q I rx ry h
 B3⟨rfl,q⟩:=h
 cases ry
 &is_none_gen (dC I q ?_)
 cases x<;>first
  | (cases rx;rfl)
  | (B3⟨t,rfl⟩:=rx;rfl)
B5 aj:uM X (compareOp .IsNot) (fun x y H Q=>y=.non∧Q (.bl (!decide (x=.non))) H):=by
 intro pins s σ H x y v u Q I rx ry h
 B3⟨rfl,q⟩:=h
 cases ry
 &isnot_none_gen (dC I q ?_)
 cases x<;>first
  | (cases rx;rfl)
  | (B3⟨t,rfl⟩:=rx;rfl)
B5 uM.or{f:Value→Value→Sem Value}{r r':R2}(h:uM X f r)(h':uM X f r'):uM X f (fun x y H Q=>r x y H Q∨r' x y H Q):=by
 intro pins s σ H x y v u Q I rx ry q
 rcases q with q | q
 ·~h pins s σ H x y v u Q I rx ry q
 ·~h' pins s σ H x y v u Q I rx ry q
B5 dO(b:Expr){op:CmpOp}(h:op≠.In:=by decide)(h2:op≠.NotIn:=by decide):behindInMarks op b=false:=by
 have e1:(op==CmpOp.In)=false:=by cases op<;>first | rfl | ~absurd rfl h
 have e2:(op==CmpOp.NotIn)=false:=by cases op<;>first | rfl | ~absurd rfl h2
 cases b<;>simp[behindInMarks,e1,e2]
B5 aCx{op:CmpOp}{r:R2}(ho:uM X (compareOp op) r)(ha:PE X a ta)(hb:PE X b tb)(hm:behindInMarks op b=false):PE X (.Compare a [op] [b] pos) (DR r ta tb):=by
 intro pins s σ H Q I h
 ~wpAny_Compare1 (aFl ha hb I h fun v u s2 x y H2 I2 rx ry q=>ho pins s2 σ H2 x y v u Q I2 rx ry q) hm
def DW(t:TE):TT:=fun σ H Q=>t σ H fun x H'=>∃k,x=.bl k∧Q k H'
B5 aCy{op:CmpOp}{r:R2}(ho:uM X (compareOp op) r)(ha:PE X a ta)(hb:PE X b tb)(hm:behindInMarks op b=false):PT X (.Compare a [op] [b] pos) (DW (DR r ta tb)):=by
 intro pins s σ H Q I h
 &wpAny_isTrue_Compare1 (iM (ha pins s σ H _ I h) fun v s1 ⟨x,H1,I1,r1,q1⟩=>iM (hb pins s1 σ H1 _ I1 q1) fun u s2 ⟨y,H2,I2,r2,q2⟩=>
  iM (ho pins s2 σ H2 x y v u _ I2 r1 r2 q2) fun c s3 ⟨z,H3,I3,r3,k,e,q3⟩=>?_) hm
 subst e
 cases r3
 ~wpAny_truthy_bool ⟨H3,I3,q3⟩
def yz(r r':R2)(ta tb tc:TE):TE:=fun σ H Q=>ta σ H fun x H1=>tb σ H1 fun y H2=>r x y H2 fun z H3=>∃k,z=.bl k ∧
 (if k=true then tc σ H3 fun w' H4=>r' y w' H4 Q else Q (.bl false) H3)
B5 zb{op op':CmpOp}{r r':R2}(ho:uM X (compareOp op) r)(ho':uM X (compareOp op') r')(ha:PE X a ta)(hb:PE X b tb)(hc:PE X c tc)
  (hm:lastMarks [op,op'] [b,c]=false:=by with_unfolding_all rfl):PT X (.Compare a [op,op'] [b,c] pos) (DW (yz r r' ta tb tc)):=by
 intro pins s σ H Q I h
 &isTrue_chain (iM (ha pins s σ H _ I h) fun v s1 ⟨x,H1,I1,r1,q1⟩=>test_link (iM (hb pins s1 σ H1 _ I1 q1) fun u s2 ⟨y,H2,I2,r2,q2⟩=>
  iM (ho pins s2 σ H2 x y v u _ I2 r1 r2 q2) fun d s3 ⟨z,H3,I3,r3,k,e,q3⟩=>?_)) hm
 subst e
 cases r3
 &wpAny_truthy_bool ?_
 cases k with
 | false=>
  B3⟨k',e',q'⟩:=q3
  cases e'
  ~ite_ff ⟨H3,I3,q'⟩
 | true=>
  &ite_tt (test_last (iM (hc pins s3 σ H3 _ I3 q3) fun w' s4 ⟨z',H4,I4,r4,q4⟩=>iM (ho' pins s4 σ H4 y z' u w' _ I4 r2 r4 q4) fun d' s5 ⟨z2,H5,I5,r5,k2,e2,q5⟩=>?_))
  subst e2
  cases r5
  ~wpAny_truthy_bool ⟨H5,I5,q5⟩
B5 My:(sizeLine:Nat)<2 ^ 63:=by rw[sizeLine_eq];decide
B5 vals1{x:V}{us:List Value}(r:Vals [x] us):∃u,us=[u]∧RelV x u:=by
 cases r with
 | cons r1 r2=>cases r2;~⟨_,rfl,r1⟩
B5 vals2{x y:V}{us:List Value}(r:Vals [x,y] us):∃u w',us=[u,w']∧RelV x u∧RelV y w':=by
 cases r with
 | cons r1 r2=>
  cases r2 with
  | cons r3 r4=>cases r4;~⟨_,_,rfl,r1,r3⟩
B5 mj(hc:X.calm=true):mZ X (.builtin "max") (fun xs H Q=>∃i j,xs=[.int i,.int j]∧Q (.int (if j > i then j else i)) H):=by
 intro pins s σ H xs us Q I r h
 B3⟨i,j,rfl,q⟩:=h
 B3⟨u,w',rfl,⟨t,rfl⟩,⟨t',rfl⟩⟩:=vals2 r
 &max_two_ints (I.ok.hd hc) fun h' tk k=>⟨_,H,I.kept k,?_,q⟩
 by_cases hj:j > i
 ·rw[if_pos hj,if_pos hj];~⟨_,rfl⟩
 ·rw[if_neg hj,if_neg hj];~⟨_,rfl⟩
end
end L2
namespace L2
open PySem PySem.Spec PyProof.Rows
structure RP(h:Heap)(x dx C:Addr)(mA:Str→Option Value):Prop where
 obj:h.get? x=some (O2 C dx)
 ns:h.Ns1 dx mA
 ne:dx≠x
B5 mq{h:Heap}{dx:Addr}{mA:Str→Option Value}(n:h.Ns1 dx mA):∃od,h.get? dx=some od∧∀name,W4 name od=some (mA name):=by
 B3⟨o,es,ep,ho,hd,hk,_,hm⟩:=n
 &⟨o,ho,fun name=>?_⟩
 have e:=hm name
 B4 nsFind findBy at e
 rw[←Array.find?_toList]at e
 B4 W4
 rw[hd]
 dsimp only
 split
 ·rename_i y q
  rw[q]at e
  ~congrArg some e
 ·rename_i q
  rw[q]at e
  have a:es.toList.any (·.refKey)=false:=by
   rw[List.any_eq_false]
   intro y hy
   B3⟨z,t,hkey⟩:=hk y (Array.mem_toList_iff.mp hy)
   simp[DictEntry.refKey,hkey]
  have a':¬es.toList.any (·.refKey)=true:=by rw[a];~E2
  rw[if_neg a']
  ~congrArg some e
B5 RP.look{h:Heap}{x dx C:Addr}{mA:Str→Option Value}(I:RP h x dx C mA):∃od,PySem.W.InstAt h x (O2 C dx) C (some od)∧∀name,W4 name od=some (mA name):=
 let ⟨od,ho,hl⟩:=mq I.ns
 ⟨od,⟨I.obj,rfl,rfl,ho⟩,hl⟩
section
variable{prog:Program}{w:World}{A:Around}{E:Value→Shared→Prop}{s:Shared}{K:aF}{x dx C f:Addr}{mA:Str→Option Value}{name:Str}{v:Value}
B5 get_map{expr:Bool}{Q:Value→Shared→Prop}(X:K.In s.heap)(I:RP s.heap x dx C mA)(hg:R6 K C name=true)(hh:T5 K C=true)
  (ha:F8 K (.ref C) name=some none) (hv:mA name=some v) (hv':l3 v=true) (h:Q v {s with toks:=s.toks+1}) :
  wpAny (model prog w) A (getAttr (.ref x) name expr) Q E s:=by
 B3⟨od,J,hl⟩:=I.look
 ~PySem.W.get_value X J (W0 hg).1 (PySem.W.findObj_own hh ha rfl (by rw[hl,hv])) hv' h
B5 zc{pl:Sem Bool}{Q:Value×List Value→Shared→Prop}(X:K.In s.heap)(I:RP s.heap x dx C mA)(hg:R6 K C name=true)
  (hf:F8 K (.ref C) name=some (some (.ref f))) (ht:P9 K (.ref f)=true) (hv:mA name=none) (h:Q (.ref f,[.ref x]) s) :
  wpAny (model prog w) A (getMethod (.ref x) name pl) Q E s:=by
 B3⟨od,J,hl⟩:=I.look
 ~PySem.W.method_fn X J (W0 hg).1 (W0 hg).2 hf (beq_iff_eq.mp ht) (by show (W4 name od).map (·.isSome)=some false;rw[hl,hv];rfl) h
B5 aCz{ns:List Str}{Q:Unit→Shared→Prop}(X:K.In s.heap)(I:RP s.heap x dx C mA)
  (hs:F8 K (.ref C) "__setattr__" = some (some (.builtin "object.__setattr__"))) (hp:X3 K C=true) (ht:Z9 K C name=some none) (hh:T5 K C=true)
  (hw:i3 mA ns) (hsz:ns.length≤sizeLine)
  (h:∀h',RP h' x dx C (fun y=>if y=name then some v else mA y)→Heap.SameBut dx s.heap h'→Q () {s with heap:=h',toks:=s.toks+2}) :
  wpAny (model prog w) A (setAttr (.ref x) name v) Q E s:=by
 B3⟨od,J,hl⟩:=I.look
 &PySem.W.set_plain X J hs (PySem.W.osa_open (s:={s with toks:=s.toks+1}) (r:=none) X J hp ht fun b=>?_)
 B3⟨cd,hc,hd'⟩:=PySem.W.any_some hh
 have hx:s.heap.get? x=some ⟨.ref C,some dx,.plain,#[]⟩:=I.obj
 &wpAny_bind (wpAny_pure (wpAny_bind (wpAny_bind (wpAny_loadPart hx (wpAny_bind (PySem.W.Looks.here (s:={s with toks:=s.toks+1}) (PySem.W.looks_clsIn X hc) ?_))))))
 rw[hd']
 &wpAny_pure (a:=some dx) (wpAny_bind (wpAny_pure (wpAny_bind ?_)))
 &wpAny_nsSet1 (s:={s with toks:=s.toks+1}) I.ns fun h' hn2 hs2=>?_
 B3⟨oD,esD,epD,hoD,hdD,hcD⟩:=hn2.count (PySem.Within.cons name v hw)
 &wpAny_bind (wpAny_lookBehind hoD (by rw[hdD];~pastItsLine_dict (G1 hcD (by rw[D8];omega))) ?_)
 ~wpAny_pure (h _ ⟨(hs2.2 _ (Ne.symm I.ne)).trans I.obj,hn2,I.ne⟩ hs2)
B5 zf{R:Result→Shared→Prop}{vs:List Value}{kw:List (Str×Value)}(X:K.In s.heap)(hm:V1 K C=true)
  (hi:F8 K (.ref C) "__init__" = some (some (.ref f))) (hf:o8 K (.ref f)=some (.type "function"))
  (h:codeAny (model prog w) (A.under (.builtin "type.__call__" ⟨.ref C::vs,kw⟩)) (.call (.ref f) ⟨.ref (s.heap.objs.size+1)::vs,kw⟩) (PySem.W.InitBack (s.heap.objs.size+1) R)
   {s with heap:=(s.heap.push M4).push (O2 C s.heap.objs.size)}) :
  codeAny (model prog w) A (.call (.ref C) ⟨vs,kw⟩) R s:=by
 B3⟨hh,g,d,t,os⟩:=s
 ~PySem.W.make_core (PySem.W.makes_of X hm) (PySem.W.looks_findIn X hi) (fun self=>PySem.W.bind_fn X self hf) (.inl rfl) h
end
def yE(f:Str)(v:V):List (Str×V)→List (Str×V)
 | []=>[(f,v)]
 | (g,x)::r=>if g=f then(g,v)::r else(g,x)::yE f v r
B5 Jv(f g:Str)(v:V):∀fs:List (Str×V),(yE f v fs).lookup g=if g=f then some v else fs.lookup g
 | []=>by
  show R7 g [(f,v)]=_
  by_cases h:g=f
  ·have hb:(g==f)=true:=beq_iff_eq.mpr h
   simp only[R7,hb,if_pos h]
  ·have hb:(g==f)=false:=beq_eq_false_iff_ne.mpr h
   simp only[R7,hb,if_neg h]
 | (k,x)::r=>by
  have ih:=Jv f g v r
  rw[show yE f v ((k,x)::r)=(if k=f then(k,v)::r else(k,x)::yE f v r)from rfl]
  by_cases hk:k=f
  ·rw[if_pos hk]
   by_cases h:g=k
   ·have hb:(g==k)=true:=beq_iff_eq.mpr h
    simp only[R7,hb,if_pos (h.trans hk)]
   ·have hb:(g==k)=false:=beq_eq_false_iff_ne.mpr h
    simp only[R7,hb,if_neg (fun e:g=f=>h (e.trans hk.symm))]
  ·rw[if_neg hk]
   by_cases h:g=k
   ·have hb:(g==k)=true:=beq_iff_eq.mpr h
    simp only[R7,hb,if_neg (fun e:g=f=>hk (h.symm.trans e))]
   ·have hb:(g==k)=false:=beq_eq_false_iff_ne.mpr h
    simp only[R7,hb]
    ~ih
B5 Hv(f:Str)(v:V):∀fs:List (Str×V),f∈(yE f v fs).map (·.1)∧∀g,g∈fs.map (·.1)→g∈(yE f v fs).map (·.1)
 | []=>⟨by simp[yE],fun g h=>by simp at h⟩
 | (k,x)::r=>by
  B3⟨i1,i2⟩:=Hv f v r
  rw[show yE f v ((k,x)::r)=(if k=f then(k,v)::r else(k,x)::yE f v r)from rfl]
  by_cases hk:k=f
  ·rw[if_pos hk]
   subst hk
   ~⟨by simp,fun g h=>by simpa using h⟩
  ·rw[if_neg hk]
   &⟨?_,fun g h=>?_⟩
   ·rw[D5]
    ~C6 _ i1
   ·rw[D5]at h ⊢
    rcases C5.mp h with e | e
    ·~C5.mpr (.inl e)
    ·~C6 _ (i2 g e)
B5 Jw(f:Str)(v:V):∀fs:List (Str×V),(yE f v fs).length≤fs.length+1
 | []=>by simp[yE]
 | (k,x)::r=>by
  have ih:=Jw f v r
  rw[show yE f v ((k,x)::r)=(if k=f then(k,v)::r else(k,x)::yE f v r)from rfl]
  by_cases hk:k=f
  ·rw[if_pos hk,D8,D8];omega
  ·rw[if_neg hk,D8,D8];omega
B5 yD.some_of{v:V}{o:Option Value}(r:yD (some v) o):∃u,o=some u∧RelV v u:=by
 cases o with
 | none=>~(show False from r).elim
 | some u=>~⟨u,rfl,r⟩
B5 yD.none_of{o:Option Value}(r:yD none o):o=none:=by
 cases o with
 | none=>rfl
 | some u=>~(show False from r).elim
B5 my{v:V}{u:Value}(r:RelV v u):l3 u=true:=by
 cases v with
 | non=>cases(show u=Value.none from r);rfl
 | bl b=>cases(show u=Value.bool b from r);rfl
 | int i=>B3⟨t,e⟩:=(show ∃t,u=Value.int i t from r);cases e;rfl
 | str x=>B3⟨t,e⟩:=(show ∃t,u=Value.str x t from r);cases e;rfl
 | byt b=>B3⟨t,e⟩:=(show ∃t,u=Value.bytes b t from r);cases e;rfl
 | flt b=>B3⟨t,e⟩:=(show ∃t,u=Value.float b t from r);cases e;rfl
 | ref a=>cases(show u=Value.ref a from r);rfl
 | ty n=>cases(show u=Value.type n from r);rfl
section
variable{P:Program}{w:World}{H H':Hp}{h h':Heap}{a C dx:Addr}{fs fs':List (Str×V)}
B5 Lk(hok:Cq P w H h)(e:H a=some (.ins C dx fs)):∃mA,RP h a dx C mA∧(∀f,yD (fs.lookup f) (mA f))∧i3 mA (fs.map (·.1))∧fs.length≤1000∧H dx=some (.own a):=by
 B3⟨d,z,ne,ob,mA,n,r,q⟩:=(show iV P w H h a (.ins C dx fs)from hok a _ e)
 ~⟨mA,⟨ob,n,ne⟩,r,q,z,d⟩
end
structure zg(K:aF)(C:Addr):Prop where
 pg:R6 K C Str.empty=true
 hd:T5 K C=true
 po:X3 K C=true
 sa:F8 K (.ref C) "__setattr__" = some (some (.builtin "object.__setattr__"))
B5 zg.get{K:aF}{C:Addr}(c:zg K C)(f:Str):R6 K C f=true:=c.pg
def De(K:aF)(C:Addr)(f:Str):Prop:=F8 K (.ref C) f=some none
B5 De.taker{K:aF}{C:Addr}{f:Str}(n:De K C f):Z9 K C f=some none:=by
 B4 Z9
 rw[show F8 K (.ref C) f=some none from n]
 rfl
structure Con(K:aF)(C:Addr)(f:Str)(v:V)(u:Value):Prop where
 at_:F8 K (.ref C) f=some (some u)
 rel:RelV v u
 get:X4 K u "__get__" = some none
 cp:PySem.W.copiedNames.contains f=false
structure Meth(K:aF)(C:Addr)(m:Str)(f:Addr):Prop where
 at_:F8 K (.ref C) m=some (some (.ref f))
 fn:P9 K (.ref f)=true
 kp:K8 K (.ref f)=true
section
variable{X:Cx}{pins:List (Addr×Obj)}{σ:St}{H:Hp}{s:Shared}{a C dx:Addr}{fs:List (Str×V)}{f:Str}{v:V}{A:Around}{E:Value→Shared→Prop}
B5 RQ{b:Bool}{Q:Value→Shared→Prop}(I:Inv X pins σ H s)(e:H a=some (.ins C dx fs))(c:zg X.K C)(n:De X.K C f)(l:fs.lookup f=some v)
  (h:∀u s',Inv X pins σ H s'→RelV v u→Q u s'):wpAny (model X.prog X.w) A (getAttr (.ref a) f b) Q E s:=by
 B3⟨mA,O,r,_,_,_⟩:=Lk I.hok e
 B3⟨u,hu,ru⟩:=yD.some_of (v:=v) (o:=mA f) (by rw[←l];~r f)
 ~get_map I.Ht O (c.get f) c.hd n hu (my ru) (h u _ (I.tok _) ru)
B5 Mz{m:Str}{g:Addr}{pl:Sem Bool}{Q:Value×List Value→Shared→Prop}(I:Inv X pins σ H s)(e:H a=some (.ins C dx fs))(c:zg X.K C)(k:Meth X.K C m g)(l:fs.lookup m=none)
  (h:Q (.ref g,[.ref a]) s):wpAny (model X.prog X.w) A (getMethod (.ref a) m pl) Q E s:=by
 B3⟨mA,O,r,_,_,_⟩:=Lk I.hok e
 have hn:mA m=none:=yD.none_of (by rw[←l];~r m)
 ~zc I.Ht O (c.get m) k.at_ k.fn hn h
B5 RT{y:V}{u:Value}{Q:Unit→Shared→Prop}(I:Inv X pins σ H s)(e:H a=some (.ins C dx fs))(c:zg X.K C)(n:De X.K C f)(hl:fs.length<1000)(ry:RelV y u)
  (h:∀s',Inv X pins σ (upd H a (.ins C dx (yE f y fs))) s'→Q () s'):wpAny (model X.prog X.w) A (setAttr (.ref a) f u) Q E s:=by
 B3⟨mA,O,r,wi,_,ho⟩:=Lk I.hok e
 have hz:(fs.map (·.1)).length≤sizeLine:=by rw[B7,sizeLine_eq];omega
 &aCz I.Ht O c.sa c.po n.taker c.hd wi hz fun h' O' sb=>h _ ?_
 have hd:∃o,h'.get? dx=some o:=let ⟨o,_,_,e',_⟩:=O'.ns;⟨o,e'⟩
 &I.write (x:=a) (e:=dx) (by rw[e];~True.intro) (.inr ho) (fun b q hb z=>(sb.2 b hb).trans z) hd ?_
 &⟨by rw[bN O.ne];~ho,?_,O.ne,O'.obj,_,O'.ns,fun g=>?_,fun g hg=>?_⟩
 ·have:=Jw f y fs;omega
 ·show yD ((yE f y fs).lookup g) (if g=f then some u else mA g)
  rw[Jv]
  by_cases q:g=f
  ·rw[if_pos q,if_pos q];~ry
  ·rw[if_neg q,if_neg q];~r g
 ·by_cases q:g=f
  ·rw[q];~(Hv f y fs).1
  ·&(Hv f y fs).2 g (wi g fun z=>hg ?_)
   show (if g=f then some u else mA g)=none
   rw[if_neg q];~z
B5 Inv.made(I:Inv X pins σ H s):Inv X pins σ (upd (upd H s.heap.objs.size (.own (s.heap.objs.size+1))) (s.heap.objs.size+1) (.ins C s.heap.objs.size []))
  {s with heap:=(s.heap.push M4).push (O2 C s.heap.objs.size)}:=by
 have e1:(s.heap.push M4).get? s.heap.objs.size=some M4:=Heap.get?_push_size s.heap rfl
 have e2:((s.heap.push M4).push (O2 C s.heap.objs.size)).get? (s.heap.objs.size+1)=some (O2 C s.heap.objs.size):=by
  have:=Heap.get?_push_size (s.heap.push M4) (o:=O2 C s.heap.objs.size) rfl
  rwa [Heap.size_push]at this
 have e3:(s.heap.push M4).Ns s.heap.objs.size (fun _=>none):=⟨M4,#[],_,e1,rfl,(fun e he=>absurd he (by simp)),fun _=>rfl⟩
 have I1:=I.laid (a:=s.heap.objs.size) (o:=.own (s.heap.objs.size+1)) (h':=s.heap.push M4) (t':=s.toks) (fun b u q=>Heap.get?_push_of_some _ q) (D1 _) ⟨_,e1⟩
 &I1.laid (a:=s.heap.objs.size+1) (o:=.ins C s.heap.objs.size []) (t':=s.toks) (fun b u q=>Heap.get?_push_of_some _ q) (i5 (Heap.size_push _ _)) ?_
 have ne:s.heap.objs.size≠s.heap.objs.size+1:=E9 (M7 _)
 &⟨by rw[bN ne,cD],M3 _,ne,e2,fun _=>none,(Heap.Ns1.of_empty e3).at fun o q=>Heap.get?_push_of_some _ q,fun _=>True.intro,fun y hy=>absurd rfl hy⟩
B5 aCA{prog:Program}{w:World}{env:Env}{e:Expr}{f:Str}{pos:Pos}{s:Shared}{Q:Value→Shared→Prop}(hb:attributeBase e f env (eval e env)=eval e env)
  (h:wpAny (model prog w) A (eval e env) (fun o s₁=>wpAny (model prog w) A (getAttr o f true) Q E s₁) E s):wpAny (model prog w) A (eval (.Attribute e f pos) env) Q E s:=
 Attribute_any_ h (by rw[arm_eval_Attribute,hb])
end
def aFs(K:aF)(ta:TE)(f:Str):TE:=fun σ H Q=>ta σ H fun x H1=>∃a C dx fs v,x=.ref a∧H1 a=some (.ins C dx fs)∧zg K C∧De K C f∧fs.lookup f=some v∧Q v H1
def aFt(K:aF)(ta tv:TE)(f:Str):TS:=fun D σ H=>tv σ H fun y H1=>ta σ H1 fun x H2=>∃a C dx fs,x=.ref a∧H2 a=some (.ins C dx fs)∧zg K C∧De K C f∧fs.length<1000 ∧
 D.nx σ (upd H2 a (.ins C dx (yE f y fs)))
section
variable{X:Cx}{o e value:Expr}{f:Str}{pos pos' tpos:Pos}{ta tv:TE}
B5 zj(he:PE X e ta)(hb:attributeBase e f X.env (eval e X.env)=eval e X.env):PE X (.Attribute e f pos) (aFs X.K ta f):=by
 intro pins s σ H Q I h
 &aCA hb (iM (he pins s σ H _ I h) fun u s1 ⟨x,H1,I1,rx,a,C,dx,fs,v,ex,ea,c,n,l,q⟩=>?_)
 subst ex
 B3 rfl:u=Value.ref a:=rx
 ~RQ I1 ea c n l fun u' s2 I2 ru=>⟨v,H1,I2,ru,q⟩
B5 aFu(ha:PE X o ta)(hv:PE X value tv)(hs:swapsWith value (some (.Attribute o f pos')) pos.line X.env=pure false):PS X (.Assign [.Attribute o f pos'] value pos) (aFt X.K ta tv f):=by
 intro pins s σ H D I h
 &plainObj_wpAny_Assign_Attribute (iM (hv pins s σ H _ I h) fun u s1 ⟨y,H1,I1,ry,q⟩=>iM (ha pins s1 σ H1 _ I1 q) fun ov s2 ⟨x,H2,I2,rx,a,C,dx,fs,ex,ea,c,n,l,q2⟩=>?_) hs
 subst ex
 B3 rfl:ov=Value.ref a:=rx
 ~RT I2 ea c n l ry fun s3 I3=>⟨σ,_,I3,q2⟩
end
section
variable{X:Cx}{pins:List (Addr×Obj)}{σ:St}{H:Hp}{s:Shared}{A:Around}{E:Value→Shared→Prop}{Q:Value→Shared→Prop}{c:Value}{b:Bool}
inductive Kv(K:aF)(H:Hp):V→Value→Prop where
 | non:Kv K H .non (.type "NoneType")
 | bl (x:Bool):Kv K H (.bl x) (.type "bool")
 | int (i:Int):Kv K H (.int i) (.type "int")
 | str (x:Str):Kv K H (.str x) (.type "str")
 | flt (x:UInt64):Kv K H (.flt x) (.type "float")
 | lst {a:Addr} {xs:List V} (e:H a=some (.lst xs)):Kv K H (.ref a) (.type "list")
 | yM {a:Addr} {o:Obj} {xs:List V} (e:H a=some (.yM o (.lst xs))):Kv K H (.ref a) (.type "list")
 | tup {a:Addr} {xs:List V} (e:H a=some (.tup xs)):Kv K H (.ref a) (.type "tuple")
 | dK {a:Addr} {kvs:List (Key×V)} (e:H a=some (.dK kvs)):Kv K H (.ref a) (.type "dict")
 | dT {a:Addr} {kvs:List (List Key×V)} (e:H a=some (.dT kvs)):Kv K H (.ref a) (.type "dict")
 | ins {a C dx:Addr} {fs:List (Str×V)} (e:H a=some (.ins C dx fs)) (cl:zg K C) (ha:F8 K (.ref C) "__class__" = some (some (.builtin "object.__class__")))
   (hn:X4 K (.builtin "object.__class__") "__get__" = some (some (.builtin "getset_descriptor.__get__"))) (htk:m7 K (.builtin "object.__class__")=some true)
   (hm:t7 K C (.type "object")=some true):Kv K H (.ref a) (.ref C)
B5 Tz{x:V}{u t:Value}(I:Inv X pins σ H s)(rx:RelV x u)(ty:Kv X.K H x t)(e:K1 X.K t c=some b)(h:∀tk,Q (.bool b) {s with toks:=tk}) :
  wpAny (model X.prog X.w) A (call (.builtin "isinstance") [u,c]) Q E s:=by
 cases ty with
 | non=>cases(show u=Value.none from rx);~L0 PySem.W.kitx_none I.Ht True.intro e (fun z=>nomatch z) h
 | bl y=>cases(show u=Value.bool y from rx);~L0 PySem.W.kitx_bool I.Ht True.intro e (fun z=>nomatch z) h
 | int i=>B3⟨t,q⟩:=(show ∃t,u=Value.int i t from rx);cases q;~L0 PySem.W.kitx_int I.Ht True.intro e (fun z=>nomatch z) h
 | str y=>B3⟨t,q⟩:=(show ∃t,u=Value.str y t from rx);cases q;~L0 PySem.W.kitx_str I.Ht True.intro e (fun z=>nomatch z) h
 | flt y=>B3⟨t,q⟩:=(show ∃t,u=Value.float y t from rx);cases q;~L0 PySem.W.kitx_float I.Ht True.intro e (fun z=>nomatch z) h
 | @lst a xs ea=>
  cases(show u=Value.ref a from rx)
  B3⟨_,_,n,_,h1⟩:=(show iV X.prog X.w H s.heap a (.lst xs)from I.hok a _ ea)
  ~L0 X5 I.Ht ⟨_,h1,rfl⟩ e (fun z=>nomatch z) h
 | @yM a ob xs ea=>
  cases(show u=Value.ref a from rx)
  B3⟨_,_,_,n,_,h1⟩:=(show iV X.prog X.w H s.heap a (.yM ob (.lst xs))from I.hok a _ ea)
  ~L0 X5 I.Ht ⟨_,h1,rfl⟩ e (fun z=>nomatch z) h
 | @tup a xs ea=>
  cases(show u=Value.ref a from rx)
  B3⟨_,_,_,p⟩:=(show iV X.prog X.w H s.heap a (.tup xs)from I.hok a _ ea)
  B3⟨o,h1,h2,_⟩:=p
  ~L0 i6 I.Ht ⟨o,h1,h2⟩ e (fun z=>nomatch z) h
 | @dK a kvs ea=>
  cases(show u=Value.ref a from rx)
  B3⟨_,_,vs,_,p⟩:=(show iV X.prog X.w H s.heap a (.dK kvs)from I.hok a _ ea)
  B3⟨o,es,ep,h1,h2,_⟩:=p
  ~L0 j6 I.Ht ⟨o,h1,h2.1⟩ e (fun z=>nomatch z) h
 | @dT a kvs ea=>
  cases(show u=Value.ref a from rx)
  B3⟨_,_,xs,_,o,es,ep,h1,h2,_⟩:=(show iV X.prog X.w H s.heap a (.dT kvs)from I.hok a _ ea)
  ~L0 j6 I.Ht ⟨o,h1,h2.1⟩ e (fun z=>nomatch z) h
 | @ins a C dx fs ea cl ha hn htk hm=>
  cases(show u=Value.ref a from rx)
  B3⟨mA,O,_⟩:=Lk I.hok ea
  B3⟨od,J,_⟩:=O.look
  ~L0 (PySem.W.kitx_own (cl.get _) cl.hd ha hn htk hm) I.Ht J e (fun z=>nomatch z) h
end
end L2
namespace L2
open PySem PySem.Spec PyProof.Rows
structure jK(k:Nat)(A:Around):Prop where
 hd:A.handled=none
 dp:A.depth+3*k+5<recursionLimit
 un:A.units+16*k+200<cLine
B5 jK.mono{j k:Nat}{A:Around}(r:jK k A)(h:j≤k):jK j A:=⟨r.hd,by have:=r.dp;omega,by have:=r.un;omega⟩
B5 jK.deeper{k:Nat}{A:Around}(r:jK (k+1) A)(env:Env):jK k (A.deeper env):=
 ⟨r.hd,by have:=r.dp;show A.depth+1+3*k+5<_;omega,by have:=r.un;show A.units+3+16*k+200<_;omega⟩
B5 RV{A:Around}{C:Addr}{us:List Value}{kw:List (Str×Value)}:(A.under (.builtin "type.__call__" ⟨.ref C::us,kw⟩)).depth=A.depth+1:=by
  first | rfl | simp[Around.under,Code.weight,Code.isCreation,Code.isGuard,Code.isCaller,Code.frames,Code.isFrame,guardIds]
B5 RW{A:Around}{C:Addr}{us:List Value}{kw:List (Str×Value)}:(A.under (.builtin "type.__call__" ⟨.ref C::us,kw⟩)).units=A.units+1:=by
  first | rfl | simp[Around.under,Code.cUnits,Code.frames,Code.isFrame]
B5 jK.make{k:Nat}{A:Around}(r:jK (k+1) A)(C:Addr)(us:List Value)(kw:List (Str×Value)):jK k (A.under (.builtin "type.__call__" ⟨.ref C::us,kw⟩)):=
 ⟨r.hd,by have:=r.dp;rw[RV];omega,by have:=r.un;rw[RW];omega⟩
B5 jK.depth{k:Nat}{A:Around}(r:jK k A):A.depth<recursionLimit:=by have:=r.dp;omega
B5 jK.units{k:Nat}{A:Around}(r:jK k A):A.units+64<cLine:=by have:=r.un;omega
def lG:TA:=fun _ H Q=>Q [] H
def cI(ta:TE)(tr:TA):TA:=fun σ H Q=>ta σ H fun x H1=>tr σ H1 fun xs H2=>Q (x::xs) H2
section
variable{X:Cx}{e:Expr}{es:List Expr}{te:TE}{t:TA}{pos:Pos}
B5 gU:PA X [] lG:=fun _ _ _ _ H Q I h=>Calls.spliced_nil ⟨[],H,I,.nil,h⟩
B5 cH(ha:PE X e te)(hr:PA X es t)(hs:starEach (e::es) X.env=(false,eval e X.env)::starEach es X.env:=by rfl):PA X (e::es) (cI te t):=by
 intro pos pins s σ H Q I h
 rw[hs]
 show wpAny _ _ (spliced ((false,eval e X.env)::backTo pos (starEach es X.env))) _ _ s
 &Calls.spliced_cons (iM (ha pins s σ H _ I h) fun u s1 ⟨x,H1,I1,r1,q1⟩=>?_)
 ~iM (hr pos pins s1 σ H1 _ I1 q1) fun us s2 ⟨xs,H2,I2,r2,q2⟩=>⟨x::xs,H2,I2,.cons r1 r2,q2⟩
def DX(t:TA):TE:=fun σ H Q=>t σ H fun xs H1=>xs.length≤sizeLine∧∀p,H1 p=none→Q (.ref p) (upd H1 p (.tup xs))
def zm(t:TA):TE:=fun σ H Q=>t σ H fun xs H1=>xs.length≤sizeLine∧∀p,H1 p=none→Q (.ref p) (upd H1 p (.lst xs))
B5 RX{x1}(h:PA X es t):PE X (.Tuple es x1 pos) (DX t):=by
 intro pins s σ H Q I hq
 &wpAny_Tuple_spliced (iM (h pos pins s σ H _ I hq) fun us s1 ⟨xs,H1,I1,r,z,q⟩=>⟨by rw[←r.length];~z,?_⟩)
 have hf:H1 s1.heap.objs.size=none:=I1.hok.fresh (D1 _)
 &⟨.ref s1.heap.objs.size,upd H1 s1.heap.objs.size (.tup xs),I1.laid (t':=s1.toks) (fun b u e=>Heap.get?_push_of_some _ e) (D1 _) ?_,rfl,q _ hf⟩
 ~⟨z,us,r,⟨_,Heap.get?_push_size _ rfl,rfl,_,rfl⟩⟩
B5 zp(h:PA X es t):PE X (.List es pos) (zm t):=by
 intro pins s σ H Q I hq
 &wpAny_List_spliced (iM (h pos pins s σ H _ I hq) fun us s1 ⟨xs,H1,I1,r,z,q⟩=>⟨by rw[←r.length];~z,?_⟩)
 have hf:H1 s1.heap.objs.size=none:=I1.hok.fresh (D1 _)
 &⟨.ref s1.heap.objs.size,upd H1 s1.heap.objs.size (.lst xs),I1.laid (t':=s1.toks) (fun b u e=>Heap.get?_push_of_some _ e) (D1 _) ?_,rfl,q _ hf⟩
 ~⟨z,us,0,r,Heap.get?_push_size _ rfl⟩
end
abbrev Sp:=List V→Hp→VK→XK→Prop
abbrev mz:=List Env→Hp→Shared→XK→Value→Shared→Prop
structure RZ(P:Program)(w:World)(K:aF)(mg:Str→Option Value)(base:Heap)(A:Around)(outer:List Env)(s:Shared)(H:Hp):Prop where
 frames:A.frames=some outer
 mod:Mod K mg base
 bs:∀b o,base.get? b=some o→s.heap.get? b=some o∧H b=none
 bsz:base.objs.size≤s.heap.objs.size
 Ku:s.heap.FunFrames base outer
 frf:∀b∈frs outer,H b=none
 hok:Cq P w H s.heap
 bare:AllBare s.gens
def CE(outer:List Env)(P:Program)(w:World)(H:Hp)(s:Shared)(Q:VK)(u:Value)(s':Shared):Prop:=
 ∃v H',s'.os=s.os∧AllBare s'.gens∧Un (frs outer) [] H H' s.heap s'.heap∧Cq P w H' s'.heap∧RelV v u∧Q v H'
def CR(CX:mz)(outer:List Env)(P:Program)(w:World)(H:Hp)(s:Shared)(Q:VK)(E:XK)(r:Result)(s':Shared):Prop:=
 match r with
 | .ok (.ret u)=>CE outer P w H s Q u s'
 | .ok _=>False
 | .error e=>CX outer H s E e s'
structure yF(P:Program)(w:World)(K:aF)(mg:Str→Option Value)(base:Heap)(CX:mz)(k:Nat)(f:Addr)(fd:FuncData)(ps:List Str)(sp:Sp):Prop where
 len:∀vs H Q E,sp vs H Q E→vs.length=ps.length
 run:∀(A:Around)(outer:List Env)(s:Shared)(H:Hp)(args:Args)(us:List Value)(vs:List V)(Q:VK)(E:XK),jK k A→RZ P w K mg base A outer s H→BindsTo s fd args (ps.zip us)→Vals vs us→sp vs H Q E →
  codeAny (model P w) A (.call (.ref f) args) (CR CX outer P w H s Q E) s
B5 RZ.make{P:Program}{w:World}{K:aF}{mg:Str→Option Value}{base:Heap}{A:Around}{outer:List Env}{s:Shared}{H:Hp}(e:RZ P w K mg base A outer s H)(C:Addr)(us:List Value)(kw:List (Str×Value)) :
  RZ P w K mg base (A.under (.builtin "type.__call__" ⟨.ref C::us,kw⟩)) outer s H:=⟨by first | ~e.frames | (simpa[Around.under,Code.envs,Code.isFrame,pushEnvs]using e.frames),e.mod,e.bs,e.bsz,e.Ku,e.frf,e.hok,e.bare⟩
section
variable{X:Cx}{pins:List (Addr×Obj)}{σ:St}{H:Hp}{s s':Shared}
B5 Inv.env0(I:Inv X pins σ H s):RZ X.prog X.w X.K X.mg X.base X.A X.stack s H:=
 ⟨I.ok.frames,I.ok.mod,I.bs,G1 I.ok.bsz I.sz,I.stack,I.ZQ,I.hok,I.bare⟩
B5 Inv.after{Q:VK}{u:Value}(I:Inv X pins σ H s)(h:CE X.stack X.prog X.w H s Q u s'):EP X pins σ Q u s':=by
 B3⟨v,H',os,bare,un,hok,r,q⟩:=h
 B3⟨hh,g,d,t,os'⟩:=s'
 B3 rfl:os'=s.os:=os
 ~⟨v,H',I.call (h':=hh) (g':=g) (d':=d) (t':=t) (ch:=[]) un hok bare (fun b z=>absurd z (by simp)),r,q⟩
end
def Ua(sp:Sp)(Hs:List V)(E:XK)(t:TA):TE:=fun σ H Q=>t σ H fun vs H1=>sp (vs++Hs) H1 Q E
def Jx(C:Addr)(m:Str)(sp:Sp)(Hs:List V)(E:XK)(ta:TE)(t:TA):TE:=fun σ H Q=>ta σ H fun x H1=>∃a dx fs,x=.ref a∧H1 a=some (.ins C dx fs)∧fs.lookup m=none ∧
 t σ H1 fun vs H2=>sp (x::(vs++Hs)) H2 Q E
def aEe(C:Addr)(sp:Sp)(Hs:List V)(E:XK)(t:TA):TE:=fun σ H Q=>t σ H fun vs H1=>∀x dx,H1 x=none→H1 dx=none→dx≠x →
 sp (.ref x::(vs++Hs)) (upd (upd H1 dx (.own x)) x (.ins C dx [])) (fun v H2=>v=.non∧Q (.ref x) H2) E
def Binds(K:aF)(fd:FuncData)(ps:List Str)(ds:List Value):Prop:=
 ∀(s:Shared)(us:List Value),K.In s.heap→(us++ds).length=ps.length→BindsTo s fd ⟨us,[]⟩ (ps.zip (us++ds))
B5 Binds.all{K:aF}{fd:FuncData}{ps:List Str}(h:∀us:List Value,us.length=ps.length→bindArgs fd ⟨us,[]⟩=pure (ps.zip us)):Binds K fd ps []:=fun s us _ hl=>by
 rw[F2]at hl ⊢
 ~.of_eq (h us hl)
def Passes(CX:mz)(X:Cx)(E:XK):Prop:=∀(pins:List (Addr×Obj))(σ:St)(H:Hp)(s:Shared)(e:Value)(s':Shared),Inv X pins σ H s→CX X.stack H s E e s'→X.xe e s'
section
variable{X:Cx}{CX:mz}{k:Nat}{f C:Addr}{fd:FuncData}{ps:List Str}{sp:Sp}{Hs:List V}{ds:List Value}{E:XK}{x m:Str}{p pos apos:Pos}{e o:Expr}{es:List Expr}{ta:TE}{t:TA}
B5 SJ{pins:List (Addr×Obj)}{σ:St}{H:Hp}{s:Shared}{Q:VK}{us:List Value}{vs:List V}(F:yF X.prog X.w X.K X.mg X.base CX k f fd ps sp)(hr:jK k X.A)(hb:Binds X.K fd ps ds)(hd:Vals Hs ds)(hx:Passes CX X E)
  (I:Inv X pins σ H s) (r:Vals vs us) (h:sp (vs++Hs) H Q E):wpAny (model X.prog X.w) X.A (call (.ref f) us) (EP X pins σ Q) X.xe s:=by
 have r2:Vals (vs++Hs) (us++ds):=r.append hd
 have hl:(us++ds).length=ps.length:=by rw[←r2.length];~F.len _ _ _ _ h
 &wpAny_call (codeAny_mono (F.run X.A X.stack s H ⟨us,[]⟩ (us++ds) (vs++Hs) Q E hr I.env0 (hb s us I.Ht hl) r2 h) fun r s' hq=>?_)
 cases r with
 | error e=>~hx pins σ H s e s' I hq
 | ok fl=>
  cases fl with
  | ret u=>~I.after hq
  | next=>~False.elim hq
  | brk=>~False.elim hq
  | cont=>~False.elim hq
B5 aCB(F:yF X.prog X.w X.K X.mg X.base CX k f fd ps sp)(hr:jK k X.A)(hg:Gl X x)(hm:X.mg x=some (.ref f))(hk:K8 X.K (.ref f)=true)(hb:Binds X.K fd ps ds)(hd:Vals Hs ds)(hx:Passes CX X E)
  (ha:PA X (e::es) t) (hdb:(x==("__debug__" : Str))=false:=by decide) (he:starEach (e::es) X.env=(false,eval e X.env)::starEach es X.env:=by rfl) (hpl:(backTo pos (starEach es X.env)).any (·.1)=false:=by rfl) :
  PE X (.Call (.Name x p) (e::es) [] pos) (Ua sp Hs E t):=by
 intro pins s σ H Q I h
 &wpAny_Call_Name_kw (Ws I hg hm ?_ hdb)
 &W6 (h₀:=X.base) I.ok.mod.kin hk (iM (ha pos pins s σ H _ I h) fun us s1 ⟨vs,H1,I1,r,q⟩=>⟨I1.Ht,?_⟩) he hpl
 ~SJ F hr hb hd hx I1 r q
B5 Xb{pl:Sem Bool}(he:PE X o ta)(c:zg X.K C)(hm:Meth X.K C m f)(F:yF X.prog X.w X.K X.mg X.base CX k f fd ps sp)(hr:jK k X.A)(hb:Binds X.K fd ps ds)(hd:Vals Hs ds)(hx:Passes CX X E)(ha:PA X (e::es) t)
  (hst:starEach (e::es) X.env=(false,eval e X.env)::starEach es X.env:=by rfl) (hpl:(backTo pos (starEach es X.env)).any (·.1)=false:=by rfl)
  (ht:eval (.Call (.Attribute o m apos) (e::es) [] pos) X.env=(do
   let ov ←eval o X.env
   standAt apos.atName
   let (f,first) ←holding [ov] (getMethod ov m pl)
   callWith pos f first (backTo pos (starEach (e::es) X.env)) (backToKw pos (keywordEach [] X.env))):=by rfl) :
  PE X (.Call (.Attribute o m apos) (e::es) [] pos) (Jx C m sp Hs E ta t):=by
 intro pins s σ H Q I h
 &c8 (pl:=pl) (iM (he pins s σ H _ I h) fun u s1 ⟨x,H1,I1,rx,a,dx,fs,ex,ea,l,q⟩=>?_) ht
 subst ex
 B3 rfl:u=Value.ref a:=rx
 &Mz I1 ea c hm l ?_
 &W6 (first:=[.ref a]) (h₀:=X.base) I.ok.mod.kin hm.kp (iM (ha pos pins s1 σ H1 _ I1 q) fun us s2 ⟨vs,H2,I2,r,q2⟩=>⟨I2.Ht,?_⟩) hst hpl
 ~SJ (us:=.ref a::us) (vs:=.ref a::vs) F hr hb hd hx I2 (.cons rfl r) q2
B5 zq{pl:Sem Bool}(he:PE X o ta)(c:zg X.K C)(hm:Meth X.K C m f)(F:yF X.prog X.w X.K X.mg X.base CX k f fd ps sp)(hr:jK k X.A)(hb:Binds X.K fd ps ds)(hd:Vals Hs ds)(hx:Passes CX X E)
  (ht:eval (.Call (.Attribute o m apos) [] [] pos) X.env=(do
   let ov ←eval o X.env
   standAt apos.atName
   let (f,first) ←holding [ov] (getMethod ov m pl)
   callWith pos f first (backTo pos (starEach [] X.env)) (backToKw pos (keywordEach [] X.env))):=by rfl) :
  PE X (.Call (.Attribute o m apos) [] [] pos) (Jx C m sp Hs E ta lG):=by
 intro pins s σ H Q I h
 &c8 (pl:=pl) (iM (he pins s σ H _ I h) fun u s1 ⟨x,H1,I1,rx,a,dx,fs,ex,ea,l,q⟩=>?_) ht
 subst ex
 B3 rfl:u=Value.ref a:=rx
 &Mz I1 ea c hm l ?_
 ~PySem.W.callWith_K0 (first:=[.ref a]) I1.Ht hm.kp (SJ (us:=[.ref a]) (vs:=[.ref a]) F hr hb hd hx I1 (.cons rfl .nil) q)
structure Mk(K:aF)(C f:Addr):Prop where
 makes:V1 K C=true
 init:F8 K (.ref C) "__init__" = some (some (.ref f))
 fn:P9 K (.ref f)=true
 kp:K8 K (.ref C)=true
B5 zu{pins:List (Addr×Obj)}{σ:St}{H:Hp}{s:Shared}{Q:VK}{us:List Value}{vs:List V}(M:Mk X.K C f)(F:yF X.prog X.w X.K X.mg X.base CX k f fd ps sp)(hr:jK (k+1) X.A)(hb:Binds X.K fd ps ds)(hd:Vals Hs ds)
  (hx:Passes CX X E) (I:Inv X pins σ H s) (r:Vals vs us)
  (h:∀x dx,H x=none→H dx=none→dx≠x→sp (.ref x::(vs++Hs)) (upd (upd H dx (.own x)) x (.ins C dx [])) (fun v H2=>v=.non∧Q (.ref x) H2) E) :
  wpAny (model X.prog X.w) X.A (call (.ref C) us) (EP X pins σ Q) X.xe s:=by
 have hq:=h (s.heap.objs.size+1) s.heap.objs.size (I.hok.fresh (L9 _)) (I.hok.fresh (D1 _)) (E9 (M7 _))
 have I2:=Inv.made (C:=C) I
 have r2:Vals (V.ref (s.heap.objs.size+1)::(vs++Hs)) (Value.ref (s.heap.objs.size+1)::(us++ds)):=.cons rfl (r.append hd)
 have hl:(Value.ref (s.heap.objs.size+1)::us++ds).length=ps.length:=by
  have e:=r2.length
  rw[F.len _ _ _ _ hq]at e
  ~e.symm
 &wpAny_call (zf (f:=f) I.Ht M.makes M.init (beq_iff_eq.mp M.fn) (codeAny_mono (F.run _ X.stack _ _ ⟨Value.ref (s.heap.objs.size+1)::us,[]⟩ (Value.ref (s.heap.objs.size+1)::(us++ds)) _ _ E (hr.make C us [])
  (I2.env0.make C us []) (hb _ (Value.ref (s.heap.objs.size+1)::us) I2.Ht hl) r2 hq) fun r s' hq'=>?_))
 cases r with
 | error e=>~hx pins σ _ _ e s' I2 hq'
 | ok fl=>
  cases fl with
  | ret u=>
   B3⟨v,H',I3,rv,ev,q3⟩:=I2.after hq'
   subst ev
   ~⟨rv,⟨V.ref (s.heap.objs.size+1),H',I3,rfl,q3⟩⟩
  | next=>~False.elim hq'
  | brk=>~False.elim hq'
  | cont=>~False.elim hq'
B5 aCC(M:Mk X.K C f)(F:yF X.prog X.w X.K X.mg X.base CX k f fd ps sp)(hr:jK (k+1) X.A)(hg:Gl X x)(hm:X.mg x=some (.ref C))(hb:Binds X.K fd ps ds)(hd:Vals Hs ds)(hx:Passes CX X E)
  (ha:PA X (e::es) t) (hdb:(x==("__debug__" : Str))=false:=by decide) (he:starEach (e::es) X.env=(false,eval e X.env)::starEach es X.env:=by rfl) (hpl:(backTo pos (starEach es X.env)).any (·.1)=false:=by rfl) :
  PE X (.Call (.Name x p) (e::es) [] pos) (aEe C sp Hs E t):=by
 intro pins s σ H Q I h
 &wpAny_Call_Name_kw (Ws I hg hm ?_ hdb)
 &W6 (h₀:=X.base) I.ok.mod.kin M.kp (iM (ha pos pins s σ H _ I h) fun us s1 ⟨vs,H1,I1,r,q⟩=>⟨I1.Ht,?_⟩) he hpl
 ~zu M F hr hb hd hx I1 r q
end
section
variable{X:Cx}{CX:mz}{k:Nat}{f C:Addr}{fd:FuncData}{ps ks:List Str}{sp:Sp}{E:XK}{x m:Str}{p pos apos kpos:Pos}{e o:Expr}{es:List Expr}{kws:List Keyword}{te ta:TE}{t tk:TA}{nm:Option Str}
structure aJf(K:aF)(fd:FuncData)(ps ks:List Str)(g:List Value→List Value→List Value)(gV:List V→List V→List V):Prop where
 to:∀(s:Shared)(us ws:List Value),K.In s.heap→(g us ws).length=ps.length→BindsTo s fd ⟨us,ks.zip ws⟩ (ps.zip (g us ws))
 rel:∀{vs:List V} {us:List Value} {zs:List V} {ws:List Value},Vals vs us→Vals zs ws→Vals (gV vs zs) (g us ws)
variable{g:List Value→List Value→List Value}{gV:List V→List V→List V}
end
structure bA(N P:List Str)(sc:Scope):Prop where
 kind:sc.kind=.function
 co:sc.isCoroutine=false
 gen:sc.isGenerator=false
 nd:N.Nodup
 pre:N.take P.length=P
 par:∀x∈P,sc.names.lookup x=some .local∨sc.names.lookup x=some .cell
 aFv:∀y∈sc.names,y.2≠.free
B5 Ub{kindOf:Str→Option NameKind}{x:Str}:∀{binds:List (Str×Value)} {m:Str→Option Value},(∀v,(x,v)∉binds)→bindL kindOf binds m x=m x
 | [],_,_=>rfl
 | (n,v)::r,m,h=>by
  B4 bindL
  rw[Ub fun w hw=>h w (C6 _ hw)]
  split
  ·have:x≠n:=by rintro rfl;~h v C9
   simp[this]
  ·rfl
B5 Uc{kindOf:Str→Option NameKind}{x:Str}:∀{binds:List (Str×Value)} {m:Str→Option Value},(∀v,(x,v)∉binds)→bindC kindOf binds m x=m x
 | [],_,_=>rfl
 | (n,v)::r,m,h=>by
  B4 bindC
  rw[Uc fun w hw=>h w (C6 _ hw)]
  split
  ·rfl
  ·have:x≠n:=by rintro rfl;~h v C9
   simp[this]
B5 Ud{kindOf:Str→Option NameKind}{x:Str}{v:Value}:∀{P:List Str} {vs:List Value} {i:Nat} {m:Str→Option Value},P.Nodup→P[i]?=some x→vs[i]?=some v→kindOf x=some .local →
  bindL kindOf (P.zip vs) m x=some v
 | [],_,_,_,_,h,_,_=>by simp at h
 | _::_,[],_,_,_,_,h,_=>by simp at h
 | p::P,w::vs,0,m,nd,h1,h2,hk=>by
  simp at h1 h2;subst h1;subst h2
  show bindL kindOf ((p,w)::P.zip vs) m p=_
  B4 bindL
  rw[Ub fun v hv=>(E8.mp nd).1 (a7 hv).1,if_pos hk]
  simp
 | p::P,w::vs,i+1,m,nd,h1,h2,hk=>by
  show bindL kindOf ((p,w)::P.zip vs) m x=_
  B4 bindL
  ~Ud (i:=i) (E8.mp nd).2 (by simpa using h1) (by simpa using h2) hk
B5 Ue{kindOf:Str→Option NameKind}{x:Str}{v:Value}:∀{P:List Str} {vs:List Value} {i:Nat} {m:Str→Option Value},P.Nodup→P[i]?=some x→vs[i]?=some v→kindOf x≠some .local →
  bindC kindOf (P.zip vs) m x=some v
 | [],_,_,_,_,h,_,_=>by simp at h
 | _::_,[],_,_,_,_,h,_=>by simp at h
 | p::P,w::vs,0,m,nd,h1,h2,hk=>by
  simp at h1 h2;subst h1;subst h2
  show bindC kindOf ((p,w)::P.zip vs) m p=_
  B4 bindC
  rw[Uc fun v hv=>(E8.mp nd).1 (a7 hv).1,if_neg hk]
  simp
 | p::P,w::vs,i+1,m,nd,h1,h2,hk=>by
  show bindC kindOf ((p,w)::P.zip vs) m x=_
  B4 bindC
  ~Ue (i:=i) (E8.mp nd).2 (by simpa using h1) (by simpa using h2) hk
def start(N:List Str)(vs:List V):St:=vs.map some++E7 (N.length-vs.length) none
def Fd(CX:mz)(P:Program)(w:World)(K:aF)(mg:Str→Option Value)(base:Heap)(N:List Str)(qual:Str)(scope:Scope)(f:Addr)(cd:Value)(A:Around)(outer:List Env)(s:Shared)(H:Hp)(E:XK):Cx where
 prog:=P
 w:=w
 K:=K
 mg:=mg
 base:=base
 A:=A.deeper (envOfC qual scope s.heap.objs.size f cd)
 N:=N
 s₀:=s
 H₀:=H
 env:=envOfC qual scope s.heap.objs.size f cd
 outer:=outer
 stack:=envOfC qual scope s.heap.objs.size f cd::outer
 ex:=[]
 calm:=true
 fn:=fun _=>true
 pn:=[]
 xe:=fun e s'=>wpAny (model P w) (A.deeper (envOfC qual scope s.heap.objs.size f cd)) (leaving (envOfC qual scope s.heap.objs.size f cd) e) (fun _ s''=>CX outer H s E e s'') (fun e' s''=>CX outer H s E e' s'') s'
B5 DY{sc:Scope}{n:Nat}{x:Str}(h:sc.names.lookup x=some .cell):∃c,(cellsFrom n sc.names []).lookup x=some c:=by
 have q:=b7 sc.names n [] (.inl h)
 ~S5.mp q
B5 ni{CX:mz}{P:Program}{w:World}{K:aF}{mg:Str→Option Value}{base:Heap}{N ps:List Str}{qual:Str}{scope:Scope}{f:Addr}{cd:Value}{A:Around}{outer:List Env}{s s1:Shared}{H:Hp}{E:XK}{us:List Value}{vs:List V}
  (S:bA N ps scope) (hd:A.handled=none) (e0:RZ P w K mg base A outer s H) (hl:vs.length=ps.length) (r:Vals vs us)
  (x:InCallC s s.heap.objs.size (bindL (envOfC qual scope s.heap.objs.size f cd).kindOf (ps.zip us) fun _=>none) (cellsFrom (s.heap.objs.size+1) scope.names []) (bindC (envOfC qual scope s.heap.objs.size f cd).kindOf (ps.zip us) fun _=>none) s1) :
  Inv (Fd CX P w K mg base N qual scope f cd A outer s H E) [] (start N vs) H s1:=by
 have hpl:ps.length≤N.length:=by have:=congrArg l0 S.pre;rw[F3]at this;omega
 B3⟨h1,tk,rfl,hk⟩:=x.done
 have noA:∀b:Addr,b∉(Fd CX P w K mg base N qual scope f cd A outer s H E).ex:=fun b z=>absurd (show b∈([]:List Addr)from z) (by simp)
 &⟨⟨e0.mod,S.kind,rfl,rfl,D1 _,fun y z c h1 h2=>?_,fun y hy=>?_,fun y c _ h=>?_,fun _=>hd,Around.frames_deeper e0.frames,.inr ⟨rfl,rfl⟩,fun b z=>absurd z (noA b),e0.bs,e0.bsz,fun b _ _=>noA b,fun b z=>absurd z (noA b),e0.Ku,e0.frf⟩,
  rfl,e0.bare,Un.kept hk,⟨_,x.toInCall.ns,fun i y v h1 h2 h3=>?_⟩,fun y c h=>⟨_,x.cell y c h⟩,e0.hok.fresh (D1 _),fun y c h=>?_,fun p hp=>absurd (show p∈([]:List (Addr×Obj))from hp) (by simp),e0.hok.kept hk,?_⟩
 ·~name_of_addr x.apart (N5 h1) (N5 h2)
 ·have hy:scope.names.lookup y=some .cell∨scope.names.lookup y=some .free:=hy
  rcases hy with hy | hy
  ·~DY hy
  ·~absurd rfl (S.aFv _ (N5 hy))
 ·~O8 (x.above y c (N5 h))
 ·have hi:i<vs.length:=by
   B4 start at h2
   by_cases hi:i<vs.length
   ·~hi
   ·rw[M0 (by simpa using hi)]at h2
    rw[Q6]at h2
    split at h2<;>cases h2
  have ha:vs[i]?=some v:=by
   B4 start at h2
   rw[G3 (by simpa using hi),C4]at h2
   cases e:vs[i]? with
   | none=>rw[e]at h2;cases h2
   | some a=>rw[e]at h2;cases h2;rfl
  B3⟨u,hu,rv⟩:=r.get ha
  have hp:ps[i]?=some y:=by
   rw[←S.pre,List.getElem?_take_of_lt A6];~h1
  have ndP:ps.Nodup:=by rw[←S.pre];~S.nd.sublist (M5 _ _)
  &⟨u,rv,?_⟩
  rcases S.par y (E4 hp)with k | k
  ·~.inl ⟨k,Ud ndP hp hu k⟩
  ·B3⟨c,e⟩:=DY (n:=s.heap.objs.size+1) k
   &.inr ⟨.inl k,c,e,?_⟩
   have q:=x.cell y c e
   rw[Ue ndP hp hu (by show scope.names.lookup y≠_;rw[k];decide)]at q
   ~q
 ·~e0.hok.fresh (O8 (x.above y c (N5 h)))
 ·B4 start
  show _=N.length
  rw[C7,B7,R0]
  omega
B5 zy{CX:mz}{P:Program}{w:World}{K:aF}{mg:Str→Option Value}{base:Heap}{k:Nat}{f:Addr}{name qual:Str}{params:Arguments}{body:List Stmt}{scope:Scope}{dV kV doc pm cdv ct oc:Value}{an od:Option Addr}
  {osl:Array (Option Value)} {N ps:List Str} {sp:Sp} (lk:K.lookup f=some ⟨oc,od,.func (G2 name qual params body scope dV kV doc pm an cdv ct),osl⟩) (hcd:L4 K cdv qual=true) (S:bA N ps scope)
  (len:∀vs H Q E,sp vs H Q E→vs.length=ps.length)
  (hbody:∀(A:Around)(outer:List Env)(s:Shared)(H:Hp)(vs:List V)(Q:VK)(E:XK),jK k (A.deeper (envOfC qual scope s.heap.objs.size f cdv))→sp vs H Q E →
   ∃t,DN (Fd CX P w K mg base N qual scope f cdv A outer s H E) body t∧t {nx:=fun _ H'=>Q .non H',rt:=Q} (start N vs) H) :
  yF P w K mg base CX (k+1) f (G2 name qual params body scope dV kV doc pm an cdv ct) ps sp:=by
 &⟨len,fun A outer s H args us vs Q E hr e0 hb r hsp=>?_⟩
 have hl:=len _ _ _ _ hsp
 have KX:K.In s.heap:=e0.mod.kin.keeps fun b o e=>(e0.bs b o e).1
 have lim:s.heap.NoLimit:=e0.mod.nolimit.keeps fun b o e=>(e0.bs b o e).1
 have hkind:∀y∈ps.zip us,scope.names.lookup y.1=some .local∨(scope.names.lookup y.1=some .cell∧((cellsFrom (s.heap.objs.size+1) scope.names []).lookup y.1).isSome=true):=fun⟨n,v⟩ hy=>by
  rcases S.par n (a7 hy).1 with q | q
  ·~.inl q
  ·~.inr ⟨q,b7 _ _ _ (.inl q)⟩
 &codeAny_call_function hr.depth (KX _ _ lk) rfl S.co S.gen rfl (PySem.W.codeRec_of KX hcd) (hb _ _ _ _ ?_)
 &wpAny_newFunctionEnv_cells S.kind hkind fun env he s1 x=>?_
 subst he
 &⟨lim.keeps x.toInCall.keep,codeAny_func ?_⟩
 B3⟨t,ht,hq⟩:=hbody A outer s H vs Q E (hr.deeper _) hsp
 have I:Inv (Fd CX P w K mg base N qual scope f cdv A outer s H E) [] (start N vs) H s1:=ni S hr.hd e0 hl r x
 &wpAny_mono (ht [] s1 (start N vs) H _ I hq) (fun fl s' hs=>?_) fun e s' hs=>hs
 have fin:∀{σ':St} {H':Hp} {v:V} {u:Value},Inv (Fd CX P w K mg base N qual scope f cdv A outer s H E) [] σ' H' s'→RelV v u→Q v H'→CE outer P w H s Q u s':=
  fun{σ' H' v u} J rv q=>⟨v,H',J.os,J.bare,J.base,J.hok,rv,q⟩
 cases fl with
 | ret u=>
  B3⟨v,σ',H',J,rv,q⟩:=hs
  ~fin J rv q
 | next=>
  B3⟨σ',H',J,q⟩:=hs
  ~fin (v:=V.non) (u:=Value.none) J rfl q
 | brk=>
  B3⟨_,_,_,q⟩:=hs
  ~False.elim q
 | cont=>
  B3⟨_,_,_,q⟩:=hs
  ~False.elim q
end L2
namespace L2
open PySem PySem.Spec PyProof.Rows
section
variable{X:Cx}{x:Str}{p pos:Pos}{e:Expr}{es:List Expr}{t:TA}{id T:String}{r:List V→Hp→VK→Prop}
def tCB(r:List V→Hp→VK→Prop)(t:TA):TE:=fun σ H Q=>t σ H fun vs H1=>r vs H1 Q
B5 EY(hc:mZ X (.builtin id) r)(hg:Gl X x)(hm:X.mg x=none)(hv:bootBuiltins x=some (.builtin id))(ha:PA X (e::es) t)(hn:x ≠ "__name__" := by decide) (hdb:(x==("__debug__" : Str))=false:=by decide)
  (he:starEach (e::es) X.env=(false,eval e X.env)::starEach es X.env:=by rfl) (hpl:(backTo pos (starEach es X.env)).any (·.1)=false:=by rfl):PE X (.Call (.Name x p) (e::es) [] pos) (tCB r t):=by
 intro pins s σ H Q I h
 &wpAny_Call_Name_kw (sI I hg hm hv ?_ hn hdb)
 ~V2 (iM (ha pos pins s σ H _ I h) fun us s1 ⟨vs,H1,I1,r1,q1⟩=>hc pins s1 σ H1 vs us Q I1 r1 q1) he hpl
B5 nq(hc:mZ X (.type T) r)(hg:Gl X x)(hm:X.mg x=none)(hv:bootBuiltins x=some (.type T))(ha:PA X (e::es) t)(hn:x ≠ "__name__" := by decide) (hdb:(x==("__debug__" : Str))=false:=by decide)
  (he:starEach (e::es) X.env=(false,eval e X.env)::starEach es X.env:=by rfl) (hpl:(backTo pos (starEach es X.env)).any (·.1)=false:=by rfl):PE X (.Call (.Name x p) (e::es) [] pos) (tCB r t):=by
 intro pins s σ H Q I h
 &wpAny_Call_Name_kw (sI I hg hm hv ?_ hn hdb)
 ~J6 (iM (ha pos pins s σ H _ I h) fun us s1 ⟨vs,H1,I1,r1,q1⟩=>hc pins s1 σ H1 vs us Q I1 r1 q1) he hpl
end
end L2
namespace HT
open PySem PyProof.Rows
B5 aAa(A:Around)(s:Shared)(a:Int)(t:Tok)(c:Int)(u:Tok)(prog:Program)(w:World)(E:Value→Shared→Prop)(Q:Value→Shared→Prop)(h:Q (.bool (decide (a<c))) s) :
  wpAny (model prog w) A (richCompare .Lt (.int a t) (.int c u)) Q E s:=
 (PyProof.Rows.lt_int h:wpAny (model prog w) A (compareOp .Lt (.int a t) (.int c u)) Q E s)
section
open PySem.SeqAt
open PySem.AutoSeq1 (wpAny_loadPart')
open PySem.MeetsSeq PySem.MeetsSeq2 PySem.MeetsSeq3
end
section
variable{prog:Program}{w:World}{A:Around}{E:Value→Shared→Prop}{s:Shared}
def Kw(n d:Nat):Option Int→Nat
 | none=>d
 | some v=>if v<0 then(v+(n:Int)).toNat else min v.toNat n
B5 aCD(n d k:Nat):Kw n d (some (k:Int))=min k n:=by
 show (if(k:Int)<0 then((k:Int)+(n:Int)).toNat else min (k:Int).toNat n)=min k n
 rw[if_neg A6,C8]
end
end HT
namespace L2
open PySem PySem.Spec PyProof.Rows
abbrev TO:=St→Hp→(Option Int→Hp→Prop)→Prop
def PO(X:Cx)(e:Option Expr)(t:TO):Prop:=
 ∀(pins:List (Addr×Obj))(s:Shared)(σ:St)(H:Hp)(Q:Option Int→Hp→Prop),Inv X pins σ H s→t σ H Q →
  wpAny (model X.prog X.w) X.A (evalPart e X.env) (fun u s'=>∃o H',Inv X pins σ H' s'∧IsPart u o∧Q o H') X.xe s
def ak:TO:=fun _ H Q=>Q none H
def aEg(t:TE):TO:=fun σ H Q=>t σ H fun x H1=>∃i,x=.int i∧Q (some i) H1
B5 intsAre_of{ns:List Int}:∀{us:List Value},Vals (ns.map V.int) us→IntsAre us ns:=by
 induction ns with
 | nil=>intro us r;rw[L3]at r;cases r;~.nil
 | cons n ns ih=>
  intro us r
  rw[D5]at r
  cases r with
  | cons r1 r2=>
   B3⟨t,e⟩:=r1
   subst e
   ~.cons n t (ih r2)
section
variable{X:Cx}{e:Expr}{te:TE}{lo hi:Option Expr}{tl th:TO}{pos p2:Pos}
B5 aCE:PO X none ak:=by
 intro pins s σ H Q I h
 rw[evalPart_none]
 ~wpAny_pure ⟨none,H,I,.none,h⟩
B5 aCF(h:PE X e te):PO X (some e) (aEg te):=by
 intro pins s σ H Q I hw
 rw[evalPart_some]
 &iM (h pins s σ H _ I hw) fun u s1 ⟨x,H1,I1,r1,q1⟩=>?_
 B3⟨i,rfl,q⟩:=q1
 B3⟨t,rfl⟩:=r1
 ~⟨some i,H1,I1,.int i t,q⟩
def SlR(X:Cx)(r:V→Option Int→Option Int→Hp→VK→Prop):Prop:=
 ∀(pins:List (Addr×Obj))(s:Shared)(σ:St)(H:Hp)(x:V)(v vl vu:Value)(lo hi:Option Int)(sl:Addr)(Q:VK),Inv X pins σ H s→RelV x v→s.heap.IsSliceOf sl vl vu .none→IsPart vl lo→IsPart vu hi→r x lo hi H Q →
  ∃T id,typeLookup (.type T) "__getitem__" = pure (some (.builtin id))∧s.TypeIs v T∧wpAny (model X.prog X.w) X.A (getItem v (.ref sl)) (EP X pins σ Q) X.xe s
def tSl(r:V→Option Int→Option Int→Hp→VK→Prop)(te:TE)(tl th:TO):TE:=fun σ H Q=>te σ H fun x H1=>tl σ H1 fun l H2=>th σ H2 fun u H3=>r x l u H3 Q
B5 FJ{r:V→Option Int→Option Int→Hp→VK→Prop}(hr:SlR X r)(he:PE X e te)(hl:PO X lo tl)(hu:PO X hi th):PE X (.Subscript e (.Slice lo hi none p2) pos) (tSl r te tl th):=by
 intro pins s σ H Q I h
 &Subscript_ (iM (he pins s σ H _ I h) fun v s1 ⟨x,H1,I1,r1,q1⟩=>?_)
 &wpAny_Slice (iM (hl pins s1 σ H1 _ I1 q1) fun vl s2 ⟨l,H2,I2,pl,q2⟩=>iM (hu pins s2 σ H2 _ I2 q2) fun vu s3 ⟨u,H3,I3,pu,q3⟩=>?_)
 rw[evalPart_none]
 &wpAny_pure ?_
 have I4:Inv X pins σ H3 {s3 with heap:=s3.heap.push {cls:=.type "slice", data:=.fields #[vl,vu,.none]}}:=I3.kept (t':=s3.toks) fun b ob q=>Heap.get?_push_of_some _ q
 B3⟨T,id,hT,ht,hg⟩:=hr pins {s3 with heap:=s3.heap.push {cls:=.type "slice", data:=.fields #[vl,vu,.none]}} σ H3 x v vl vu l u s3.heap.objs.size Q I4 r1 (Heap.IsSliceOf.new ..) pl pu q3
 show wpAny (model X.prog X.w) X.A (subscriptTail e (.Slice lo hi none p2) v (.ref s3.heap.objs.size)) (EP X pins σ Q) X.xe {s3 with heap:=s3.heap.push {cls:=.type "slice", data:=.fields #[vl,vu,.none]}}
 ~tail_any (ops:=[.ref s3.heap.objs.size,v]) ht hT hg (by with_unfolding_all rfl)
def SM(xs:List V)(lo hi:Option Int):List V:=(xs.drop (HT.Kw xs.length 0 lo)).take (HT.Kw xs.length xs.length hi-HT.Kw xs.length 0 lo)
B5 FN(xs:List V)(lo hi:Option Int):(SM xs lo hi).length≤xs.length:=by
 B4 SM
 rw[F3,N6]
 omega
end
end L2
namespace L2
open PySem PySem.Spec PyProof.Rows
def QW(n:Nat)(i:Int):Option Nat:=if 0≤i then(if i<n then some i.toNat else none)else if -(n:Int)≤i then some (i+n).toNat else none
def QX{α:Type}(xs:List α)(i:Int):Option α:=(QW xs.length i).bind fun j=>xs[j]?
B5 ao{n:Nat}{i:Int}{j:Nat}(h:QW n i=some j):seqIndex? i n=some j∧j<n∧-(n:Int)≤i∧i<n:=by
 B4 QW at h
 by_cases h0:0≤i
 ·rw[if_pos h0]at h
  by_cases h1:i<n
  ·rw[if_pos h1]at h
   have e:i.toNat=j:=F1 h
   ~⟨by rw[seqIndex_of h0 h1,e],by omega,by omega,h1⟩
  ·rw[if_neg h1]at h;cases h
 ·rw[if_neg h0]at h
  by_cases h1:-(n:Int)≤i
  ·rw[if_pos h1]at h
   have e:(i+n).toNat=j:=F1 h
   ~⟨by rw[seqIndex_neg A6 h1,e],by omega,h1,by omega⟩
  ·rw[if_neg h1]at h;cases h
B5 Xc{α:Type}{xs:List α}{i:Int}{v:α}(h:QX xs i=some v):∃j,seqIndex? i xs.length=some j∧xs[j]?=some v∧j<xs.length∧-(xs.length:Int)≤i∧i<xs.length:=by
 B4 QX at h
 cases e:QW xs.length i with
 | none=>rw[e]at h;cases h
 | some j=>
  rw[e]at h
  B3⟨h1,h2,h3,h4⟩:=ao e
  ~⟨j,h1,h,h2,h3,h4⟩
B5 aCG{α:Type}{xs:List α}{j:Nat}{v:α}(h:xs[j]?=some v):QX xs (j:Int)=some v:=by
 have hj:j<xs.length:=(D4.mp h).1
 have e:QW xs.length (j:Int)=some j:=by
  B4 QW
  rw[if_pos A6,if_pos A6];simp
 B4 QX;rw[e];~h
def Xd(b:Expr):Prop:=∀o i,subscripted b false o i=operate [o,i] (getItem o i)
def IxR(X:Cx)(r:R2):Prop:=
 ∀(value slice:Expr)(pins:List (Addr×Obj))(s:Shared)(σ:St)(H:Hp)(x y:V)(v u:Value)(Q:VK),Inv X pins σ H s→RelV x v→RelV y u→r x y H Q →
  subscripted slice false v u=operate [v,u] (getItem v u)→wpAny (model X.prog X.w) X.A (subscriptTail value slice v u) (EP X pins σ Q) X.xe s
def MtR(X:Cx)(id:String)(r:V→List V→Hp→VK→Prop):Prop:=
 ∀(pins:List (Addr×Obj))(s:Shared)(σ:St)(H:Hp)(x:V)(xs:List V)(v:Value)(us:List Value)(Q:VK),Inv X pins σ H s→RelV x v→Vals xs us→r x xs H Q →
  wpAny (model X.prog X.w) X.A (call (.builtin id) (v::us)) (EP X pins σ Q) X.xe s
section
variable{X:Cx}{a b:Expr}{ta tb:TE}{pos:Pos}
B5 IxR.or{r r':R2}(h:IxR X r)(h':IxR X r'):IxR X (fun x y H Q=>r x y H Q∨r' x y H Q):=by
 intro value slice pins s σ H x y v u Q I rx ry q hs
 rcases q with q | q
 ·~h value slice pins s σ H x y v u Q I rx ry q hs
 ·~h' value slice pins s σ H x y v u Q I rx ry q hs
B5 aEh{r:R2}(hr:IxR X r)(ha:PE X a ta)(hb:PE X b tb)(hs:Xd b):PE X (.Subscript a b pos) (DR r ta tb):=by
 intro pins s σ H Q I h
 ~Subscript_ (aFl ha hb I h fun v u s2 x y H2 I2 rx ry q=>hr a b pins s2 σ H2 x y v u Q I2 rx ry q (hs _ _))
def aHG(K:aF):R2:=fun x y H Q=>∃p xs i v,x=.ref p∧y=.int i∧pQ K H p xs∧QX xs i=some v∧Q v H
def aHH(K:aF):R2:=fun x y H Q=>∃p xs i v,x=.ref p∧y=.int i∧xR K H p xs∧QX xs i=some v∧Q v H
def aHI:R2:=fun x y H Q=>∃z i c,x=.str z∧y=.int i∧z.length≤sizeLine∧QX z.cps.toList i=some c∧Q (.str ⟨#[c]⟩) H
B5 aCH:IxR X (aHG X.K):=by
 intro value slice pins s σ H x y v u Q I rx ry h hs
 B3⟨p,xs,i,z,rfl,rfl,hq,he,q⟩:=h
 cases rx
 B3⟨t,rfl⟩:=ry
 B3⟨its,r,pl,hz⟩:=I.list hq
 B3⟨j,h1,h2,h3,h4,h5⟩:=Xc he
 B3⟨w,ew,Ru⟩:=r.get h2
 have hl:=r.length
 have hn:=My
 have fin:EP X pins σ Q w s:=⟨z,H,I,Ru,q⟩
 by_cases h0:0≤i
 ·have hj:i.toNat=j:=by
   rw[seqIndex_of h0 h5]at h1
   ~F1 h1
  ~item_listR pl.isList h0 A6 (by rw[hj];simpa using ew) fin hs
 ·have hj:(i+(its.toArray.size:Int)).toNat=j:=by
   rw[seqIndex_neg A6 h4]at h1
   rw[D3,←hl]
   ~F1 h1
  ~subscriptTail_builtinR (x:=w) pl.isList.typeIs slot_list_getitem.lookup
   (wpAny_getItem_list_neg (Q:=fun r s'=>r=w∧EP X pins σ Q r s') pl.isList A6 (by rw[D3]<;>omega) A6 (by rw[hj];simpa using ew) ⟨rfl,fin⟩) hs
B5 aFw:IxR X (aHH X.K):=by
 intro value slice pins s σ H x y v u Q I rx ry h hs
 B3⟨p,xs,i,z,rfl,rfl,hq,he,q⟩:=h
 cases rx
 B3⟨t,rfl⟩:=ry
 B3⟨its,r,pl,hz⟩:=I.tuple hq
 B3⟨j,h1,h2,h3,h4,h5⟩:=Xc he
 B3⟨w,ew,Ru⟩:=r.get h2
 have hl:=r.length
 have hn:=My
 have fin:EP X pins σ Q w s:=⟨z,H,I,Ru,q⟩
 ~subscriptTail_builtinR (x:=w) pl.typeIs slot_tuple_getitem.lookup
  (getItem_tuple (j:=j) (Q:=fun r s'=>r=w∧EP X pins σ Q r s') pl A6 A6 (by rw[D3,←hl];~h1) (by simpa using ew) ⟨rfl,fin⟩) hs
B5 aFx:IxR X aHI:=by
 intro value slice pins s σ H x y v u Q I rx ry h hs
 B3⟨z,i,c,rfl,rfl,hz,he,q⟩:=h
 B3⟨t,rfl⟩:=rx
 B3⟨t',rfl⟩:=ry
 B3⟨j,h1,h2,h3,h4,h5⟩:=Xc he
 have hl:z.cps.toList.length=z.length:=by simp[Str.length]
 rw[hl]at h1 h4 h5
 have hn:=My
 ~tail_any (typeIs_str s z t) slot_str_getitem.lookup (getItem_str (c:=c) (by
  have e1:decide (i < -(2 ^ 63:Int))=false:=decide_eq_false A6
  have e2:decide (i≥2 ^ 63)=false:=decide_eq_false A6
  rw[e1,e2,t8]) (by rw[h1];simpa using h2) ⟨.str ⟨#[c]⟩,H,I.tok _,⟨_,rfl⟩,q⟩) hs
def rIx(K:aF):R2:=fun x y H Q=>aHG K x y H Q∨aHH K x y H Q∨aHI x y H Q
B5 aFy:IxR X (rIx X.K):=aCH.or (aFw.or aFx)
B5 SN(its:List Value)(n j:Nat)(u:Value):Obj.mapSeq (·.setIfInBounds j u) {cls:=.type "list", data:=.seq its.toArray n}={cls:=.type "list", data:=.seq (its.set j u).toArray n}:=by
 simp[Obj.mapSeq]
B5 Inv.lst{pins:List (Addr×Obj)}{σ:St}{H:Hp}{s:Shared}{p:Addr}{xs:List V}(I:Inv X pins σ H s)(h:H p=some (.lst xs)) :
  ∃(its:List Value)(n:Nat),Vals xs its∧s.heap.get? p=some {cls:=.type "list", data:=.seq its.toArray n}∧xs.length≤sizeLine:=by
 B3⟨z,its,n,r,e⟩:=I.hok p _ h
 ~⟨its,n,r,e,z⟩
B5 Inv.aFz{pins:List (Addr×Obj)}{σ:St}{H:Hp}{s:Shared}{p:Addr}{xs ys:List V}{its its':List Value}{n n':Nat}{f:Obj→Obj}(I:Inv X pins σ H s)(h:H p=some (.lst xs))
  (ho:s.heap.get? p=some {cls:=.type "list", data:=.seq its.toArray n}) (hf:f {cls:=.type "list", data:=.seq its.toArray n}={cls:=.type "list", data:=.seq its'.toArray n'}) (r:Vals ys its') (hz:ys.length≤sizeLine) (t:Nat) :
  Inv X pins σ (upd H p (.lst ys)) {s with heap:=s.heap.update p f,toks:=t}:=by
 have e:(s.heap.update p f).get? p=some {cls:=.type "list", data:=.seq its'.toArray n'}:=by
  rw[Heap.get?_update_self f ho (by rw[hf]<;>rfl),hf]
 &I.write (x:=p) (e:=p) (by rw[h];trivial) (.inl rfl) (fun b u hb q=>(Heap.get?_update_other _ _ (Ne.symm hb)).trans q) ⟨_,e⟩ ?_
 ~⟨hz,its',n',r,e⟩
def Ug:V→V→V→Hp→(Hp→Prop)→Prop:=fun o i v H Q=>∃p xs k j,o=.ref p∧i=.int k∧H p=some (.lst xs)∧QW xs.length k=some j∧Q (upd H p (.lst (xs.set j v)))
B5 set_list:aHt X Ug:=by
 intro pins s σ H o i v ov iv u Q I ro ri rv h
 B3⟨p,xs,k,j,rfl,rfl,hp,hj,q⟩:=h
 cases ro
 B3⟨t,rfl⟩:=ri
 B3⟨its,n,r,ho,hz⟩:=I.lst hp
 B3⟨h1,h2,h3,h4⟩:=ao hj
 have hl:=r.length
 have hn:=My
 have I':Inv X pins σ (upd H p (.lst (xs.set j v))) {s with heap:=s.heap.update p (Obj.mapSeq (·.setIfInBounds j u))}:=
  I.aFz hp ho (SN its n j u) (r.set rv j) (by rw[K2];~hz) s.toks
 by_cases h0:0≤k
 ·have hk:k.toNat=j:=by
   rw[seqIndex_of h0 h4]at h1
   ~F1 h1
  ~PySem.W.ki_setAt ho h0 A6 (by rw[D3,←hl];~h4) (by rw[hk];~⟨_,I',q⟩)
 ·have hk:(k+(its.toArray.size:Int)).toNat=j:=by
   rw[seqIndex_neg A6 h3]at h1
   rw[D3,←hl]
   ~F1 h1
  ~PySem.W.ki_setBack ho A6 (by rw[D3,←hl];~h3) A6 (by rw[hk];~⟨_,I',q⟩)
B5 Xe(lo hi:Option Int)(n:Nat):(sliceBounds lo hi none n).1=((HT.Kw n 0 lo:Nat):Int)∧(sliceBounds lo hi none n).2.1=((HT.Kw n n hi:Nat):Int)∧(sliceBounds lo hi none n).2.2=1:=by
 &⟨?_,?_,rfl⟩
 ·cases lo with
  | none=>simp[sliceBounds,HT.Kw]
  | some i=>
   simp only[sliceBounds,HT.Kw,l4,show (1:Int) > 0 by decide,if_true]
   by_cases h:i<0
   ·simp only[h,if_true]<;>omega
   ·simp only[h,if_false]<;>omega
 ·cases hi with
  | none=>simp[sliceBounds,HT.Kw]
  | some i=>
   simp only[sliceBounds,HT.Kw,l4,show (1:Int) > 0 by decide,if_true]
   by_cases h:i<0
   ·simp only[h,if_true]<;>omega
   ·simp only[h,if_false]<;>omega
B5 Rx(its:List Value)(lo hi:Option Int):slicePick its.toArray lo hi none=((its.drop (HT.Kw its.length 0 lo)).take (HT.Kw its.length its.length hi-HT.Kw its.length 0 lo)).toArray:=by
 B3⟨h1,h2,h3⟩:=Xe lo hi its.toArray.size
 B4 slicePick
 rw[h1,h2,h3]
 simp only[sliceRange_one,pick_run,D3]<;>rfl
def aCI(K:aF):V→Option Int→Option Int→Hp→VK→Prop:=fun x lo hi H Q=>∃a xs,x=.ref a∧pQ K H a xs∧∀p,H p=none→Q (.ref p) (upd H p (.lst (SM xs lo hi)))
B5 aCJ:SlR X (aCI X.K):=by
 intro pins s σ H x v vl vu lo hi sl Q I rx hs pl pu h
 B3⟨a,xs,rfl,hx,q⟩:=h
 cases rx
 B3⟨its,r,ht,hz⟩:=I.list hx
 have hlen:=r.length
 &⟨"list", _,slot_list_getitem.lookup,ht.isList.typeIs,?_⟩
 &wpAny_getItem_list_slice ht.isList hs pl pu .none (by simp) ?_ (by rw[D3]<;>omega)
 rw[Rx,←hlen]
 &⟨.ref s.heap.objs.size,_,I.laid (t':=s.toks) (o:=.lst (SM xs lo hi)) (fun b ob q=>Heap.get?_push_of_some _ q) (D1 _) ?_,rfl,q _ (I.hok.fresh (D1 _))⟩
 ~⟨G1 (FN xs lo hi) hz,_,0,(r.drop (HT.Kw xs.length 0 lo)).take (HT.Kw xs.length xs.length hi-HT.Kw xs.length 0 lo),Heap.get?_push_size _ rfl⟩
def yO:V→Bool
 | .non=>true
 | .bl _=>true
 | .int _=>true
 | .str _=>true
 | _=>false
def eqV:V→V→Bool
 | .non,.non=>true
 | .bl a,.bl b=>a==b
 | .bl a,.int b=>(if a then 1 else 0)==b
 | .int a,.bl b=>a==(if b then 1 else 0)
 | .int a,.int b=>a==b
 | .str a,.str b=>a==b
 | _,_=>false
B5 aFA{A:Around}{s:Shared}{y x:V}{u v:Value}(ry:RelV y u)(rx:RelV x v)(fy:yO y=true)(fx:yO x=true):SeqAt.EqAt A s u v (eqV y x):=by
 cases y with
 | non=>
  cases ry
  cases x with
  | non=>cases rx;~SeqAt.EqAt.same _
  | bl b=>cases rx;~SeqAt.EqAt.none_bool b
  | int b=>B3⟨t,rfl⟩:=rx;~SeqAt.EqAt.none_int b t
  | str b=>B3⟨t,rfl⟩:=rx;~SeqAt.EqAt.none_str b t
  | _=>~absurd (show false=true from fx) E2
 | bl a=>
  cases ry
  cases x with
  | non=>cases rx;~SeqAt.EqAt.bool_none a
  | bl b=>cases rx;~SeqAt.EqAt.bool_bool a b
  | int b=>B3⟨t,rfl⟩:=rx;~SeqAt.EqAt.bool_int a b t
  | str b=>B3⟨t,rfl⟩:=rx;~SeqAt.EqAt.bool_str a b t
  | _=>~absurd (show false=true from fx) E2
 | int a=>
  B3⟨t',rfl⟩:=ry
  cases x with
  | non=>cases rx;~SeqAt.EqAt.int_none a t'
  | bl b=>cases rx;~SeqAt.EqAt.int_bool a t' b
  | int b=>B3⟨t,rfl⟩:=rx;~SeqAt.EqAt.int_int a t' b t
  | str b=>B3⟨t,rfl⟩:=rx;~SeqAt.EqAt.int_str a t' b t
  | _=>~absurd (show false=true from fx) E2
 | str a=>
  B3⟨t',rfl⟩:=ry
  cases x with
  | non=>cases rx;~SeqAt.EqAt.str_none a t'
  | bl b=>cases rx;~SeqAt.EqAt.str_bool a t' b
  | int b=>B3⟨t,rfl⟩:=rx;~SeqAt.EqAt.str_int a t' b t
  | str b=>B3⟨t,rfl⟩:=rx;~SeqAt.EqAt.str_str a t' b t
  | _=>~absurd (show false=true from fx) E2
 | _=>~absurd (show false=true from fy) E2
def Xf(x:V)(u:Value):Bool:=match u with
 | .none=>eqV .non x
 | .bool b=>eqV (.bl b) x
 | .int i _=>eqV (.int i) x
 | .str z _=>eqV (.str z) x
 | _=>false
B5 aAb{x y:V}{u:Value}(r:RelV y u)(f:yO y=true):Xf x u=eqV y x:=by
 cases y with
 | non=>cases r;rfl
 | bl b=>cases r;rfl
 | int i=>B3⟨t,rfl⟩:=r;rfl
 | str z=>B3⟨t,rfl⟩:=r;rfl
 | _=>~absurd (show false=true from f) E2
B5 Fe{x:V}:∀{xs:List V} {us:List Value},Vals xs us→xs.all yO=true→us.any (Xf x)=xs.any fun y=>eqV y x
 | _,_,.nil,_=>rfl
 | y::xs,u::us,.cons r t,f=>by
  rw[t9,G9]at f
  rw[U0,U0,aAb r f.1,Fe t f.2]
B5 yP{A:Around}{s:Shared}{x:V}{v:Value}(rx:RelV x v)(fx:yO x=true):∀{xs:List V} {us:List Value},Vals xs us→xs.all yO=true→∀u∈us,SeqAt.EqAt A s u v (Xf x u)
 | _,_,.nil,_=>fun u hu=>by cases hu
 | y::xs,u::us,.cons r t,f=>fun u' hu=>by
  rw[t9,G9]at f
  rcases C5.mp hu with rfl | hu
  ·rw[aAb r f.1];~aFA r rx f.1 fx
  ·~yP rx fx t f.2 u' hu
def inV(x:V)(xs:List V):Bool:=xs.any fun y=>eqV y x
def rIn(K:aF)(neg:Bool):R2:=fun x y H Q=>∃p xs,y=.ref p∧(pQ K H p xs∨xR K H p xs)∧yO x=true∧xs.all yO=true∧Q (.bl (if neg then !inV x xs else inV x xs)) H
B5 nu:uM X (compareOp .In) (rIn X.K false):=by
 intro pins s σ H x y v u Q I rx ry h
 B3⟨p,xs,rfl,hq,fx,fs,q⟩:=h
 cases ry
 rcases hq with hq | hq
 ·B3⟨its,r,pl,hz⟩:=I.list hq
  &SeqAt.in_listAt (Xf x) pl.isList (fun w hw=>yP rx fx r fs w (by simpa using hw)) ⟨.bl _,H,I,rfl,?_⟩
  rw[show its.toArray.any (Xf x)=its.any (Xf x) by simp,Fe r fs]
  ~q
 ·B3⟨its,r,pl,hz⟩:=I.tuple hq
  &SeqAt.in_tupleAt (Xf x) pl (fun w hw=>yP rx fx r fs w (by simpa using hw)) ⟨.bl _,H,I,rfl,?_⟩
  rw[show its.toArray.any (Xf x)=its.any (Xf x) by simp,Fe r fs]
  ~q
B5 Xg:uM X (compareOp .NotIn) (rIn X.K true):=by
 intro pins s σ H x y v u Q I rx ry h
 B3⟨p,xs,rfl,hq,fx,fs,q⟩:=h
 cases ry
 rcases hq with hq | hq
 ·B3⟨its,r,pl,hz⟩:=I.list hq
  &SeqAt.notIn_listAt (Xf x) pl.isList (fun w hw=>yP rx fx r fs w (by simpa using hw)) ⟨.bl _,H,I,rfl,?_⟩
  rw[show its.toArray.any (Xf x)=its.any (Xf x) by simp,Fe r fs]
  ~q
 ·B3⟨its,r,pl,hz⟩:=I.tuple hq
  &SeqAt.notIn_tupleAt (Xf x) pl (fun w hw=>yP rx fx r fs w (by simpa using hw)) ⟨.bl _,H,I,rfl,?_⟩
  rw[show its.toArray.any (Xf x)=its.any (Xf x) by simp,Fe r fs]
  ~q
B5 Xh:mZ X (.builtin "len") (fun xs H Q=>∃p ys,xs=[.ref p]∧(pQ X.K H p ys∨xR X.K H p ys)∧Q (.int ys.length) H):=by
 intro pins s σ H xs us Q I r h
 B3⟨p,ys,rfl,hq,q⟩:=h
 B3⟨u,rfl,rx⟩:=vals1 r
 cases rx
 have hn:=My
 rcases hq with hq | hq
 ·B3⟨its,r',pl,hz⟩:=I.list hq
  have hlen:=r'.length
  ~Calls.call_len_list pl.isList (by simp only[D3]<;>omega) ⟨.int ys.length,H,I.tok _,⟨s.toks+1,by rw[D3,hlen]⟩,q⟩
 ·B3⟨its,r',pl,hz⟩:=I.tuple hq
  have hlen:=r'.length
  ~len_tuple pl (by simp only[D3]<;>omega) ⟨.int ys.length,H,I.tok _,⟨s.toks+1,by rw[D3,hlen]⟩,q⟩
B5 Xi:mZ X (.type "list") (fun xs H Q=>∃p ys,xs=[.ref p]∧(pQ X.K H p ys∨xR X.K H p ys)∧∀l,H l=none→Q (.ref l) (upd H l (.lst ys))):=by
 intro pins s σ H xs us Q I r h
 B3⟨p,ys,rfl,hq,q⟩:=h
 B3⟨u,rfl,rx⟩:=vals1 r
 cases rx
 have fin:∀(its:List Value),Vals ys its→ys.length≤sizeLine→∀(h':Heap)(c':Nat),(∀b o',s.heap.get? b=some o'→h'.get? b=some o') →
   h'.get? s.heap.objs.size=some {cls:=.type "list", dict:=none,data:=.seq its.toArray c',slots:=#[]}→EP X pins σ Q (.ref s.heap.objs.size) {s with heap:=h'}:=fun its r' hz h' c' kp e=>
  ⟨.ref s.heap.objs.size,_,I.laid (t':=s.toks) kp (D1 _) (show iV X.prog X.w _ h' _ (.lst ys)from⟨hz,its,c',r',e⟩),rfl,q _ (I.hok.fresh (D1 _))⟩
 rcases hq with hq | hq
 ·B3⟨its,r',pl,hz⟩:=I.list hq
  have hlen:=r'.length
  B3⟨o,ho,hc,n,hd⟩:=pl.isList
  ~call_list_seq p (.inl rfl) ho hc hd (fun h' c' kp e=>fin its r' hz h' c' kp e) (by simp only[D3]<;>omega)
 ·B3⟨its,r',pl,hz⟩:=I.tuple hq
  have hlen:=r'.length
  B3⟨o,ho,hc,n,hd⟩:=pl
  ~call_list_seq p (.inr rfl) ho hc hd (fun h' c' kp e=>fin its r' hz h' c' kp e) (by simp only[D3]<;>omega)
B5 Ry:mZ X (.type "tuple") (fun xs H Q=>∃p ys,xs=[.ref p]∧((pQ X.K H p ys∧∀l,H l=none→Q (.ref l) (upd H l (.tup ys)))∨(xR X.K H p ys∧Q (.ref p) H))):=by
 intro pins s σ H xs us Q I r h
 B3⟨p,ys,rfl,h⟩:=h
 B3⟨u,rfl,rx⟩:=vals1 r
 cases rx
 rcases h with ⟨hq,q⟩ | ⟨hq,q⟩
 ·B3⟨its,r',pl,hz⟩:=I.list hq
  have hlen:=r'.length
  &call_tuple_list pl.isList (fun h' kp=>?_) (by simp only[D3]<;>omega)
  have I1:Inv X pins σ H {s with heap:=h'}:=I.kept (t':=s.toks) kp
  have I2:Inv X pins σ (upd H h'.objs.size (.tup ys)) {s with heap:=h'.push {cls:=.type "tuple", data:=.seq its.toArray}}:=
   I1.laid (t':=s.toks) (fun b o e=>Heap.get?_push_of_some _ e) (D1 _) (show iV X.prog X.w _ _ _ (.tup ys)from⟨hz,its,r',IsTup.new _ _⟩)
  ~⟨.ref h'.objs.size,_,I2,rfl,q _ (I1.hok.fresh (D1 _))⟩
 ·B3⟨its,r',pl,hz⟩:=I.tuple hq
  ~call_tuple_same pl ⟨.ref p,H,I,rfl,q⟩
def tyV(K:aF)(T:String)(x:V)(H:Hp):Prop:=match x with
 | .str _=>T = "str"
 | .int _=>T = "int"
 | .ref p=>(T = "list" ∧ ∃xs,pQ K H p xs)∨(T = "tuple" ∧ ∃o,K.lookup p=some o∧o.cls=.type "tuple" ∧ o.dict=none) ∨
   (T = "dict" ∧ ((∃kvs,H p=some (.dK kvs))∨∃kvs,H p=some (.dT kvs)))∨(T = "set" ∧ ∃S n,H p=some (.set S n))
 | _=>False
B5 aFC{pins:List (Addr×Obj)}{σ:St}{H:Hp}{s:Shared}{T:String}{x:V}{v:Value}(I:Inv X pins σ H s)(r:RelV x v)(ty:tyV X.K T x H) :
  s.TypeIs v T∧∀a,v=.ref a→∃ob,s.heap.get? a=some ob∧ob.dict=none:=by
 cases x with
 | str z=>
  B3⟨t,rfl⟩:=r
  cases(show T = "str" from ty)
  ~⟨typeIs_str s z t,fun _ e=>nomatch e⟩
 | int i=>
  B3⟨t,rfl⟩:=r
  cases(show T = "int" from ty)
  ~⟨typeIs_int s i t,fun _ e=>nomatch e⟩
 | ref p=>
  cases r
  rcases ty with ⟨rfl,xs,hq⟩ | ⟨rfl,o,hk,hc,hd⟩ | ⟨rfl,hk⟩ | ⟨rfl,S,n,hk⟩
  ·B3⟨its,_,pl,_⟩:=I.list hq
   &⟨pl.isList.typeIs,fun a e=>?_⟩
   cases e
   B3⟨o,n,e,c,hd,_⟩:=pl
   ~⟨o,e,hd⟩
  ·&⟨⟨o,I.Ht p o hk,hc⟩,fun a e=>?_⟩
   cases e
   ~⟨o,I.Ht _ o hk,hd⟩
  ·have z:∃o,s.heap.get? p=some o∧o.ExactDict:=by
    rcases hk with ⟨kvs,hk⟩ | ⟨kvs,hk⟩
    ·B3⟨_,_,_,_,o,_,_,e,ex,_⟩:=I.hok p _ hk
     ~⟨o,e,ex⟩
    ·B3⟨_,_,_,_,o,_,_,e,ex,_⟩:=I.hok p _ hk
     ~⟨o,e,ex⟩
   B3⟨o,e,ex⟩:=z
   &⟨⟨o,e,ex.1⟩,fun a e2=>?_⟩
   cases e2
   ~⟨o,e,ex.2.1⟩
  ·B3⟨o,_,_,_,e,ex,_⟩:=I.hok p _ hk
   &⟨⟨o,e,ex.1⟩,fun a e2=>?_⟩
   cases e2
   ~⟨o,e,ex.2.1⟩
 | _=>~False.elim ty
def Hw(K:aF)(T:String)(r:V→List V→Hp→VK→Prop)(to:TE)(t:TA):TE:=fun σ H Q=>to σ H fun x H1=>tyV K T x H1∧t σ H1 fun xs H2=>r x xs H2 Q
variable{o e:Expr}{es:List Expr}{to:TE}{t:TA}{name:Str}{apos cpos:Pos}{T id:String}{r:V→List V→Hp→VK→Prop}
B5 pF(pa:PlainAttrs T)(slot:Slot T name id)(hty:typeOf (.builtin id)=pure (.type "method_descriptor")) (hm:MtR X id r) (ho:PE X o to) (ha:PA X (e::es) t)
  (hbase:attributeBase o name X.env (eval o X.env)=eval o X.env:=by rfl)
  (hfew:((backTo cpos (starEach (e::es) X.env)).all (fun x=>!x.1)&&(backToKw cpos (keywordEach [] X.env)).all (fun x=>x.1.isSome)
   && decide ((e::es).length+([]:List Keyword).length+(if([]:List Keyword).isEmpty then 0 else 1)<30))=true:=by rfl)
  (hline:(apos.endLine==cpos.line)=true:=by rfl) (hs:starEach (e::es) X.env=(false,eval e X.env)::starEach es X.env:=by rfl) (hplain:(backTo cpos (starEach es X.env)).any (·.1)=false:=by rfl) :
  PE X (.Call (.Attribute o name apos) (e::es) [] cpos) (Hw X.K T r to t):=by
 intro pins s σ H Q I h
 &wpAny_Call_method_late hbase hfew hline rfl (iM (ho pins s σ H _ I h) fun v s1 ⟨x,H1,I1,r1,ty,q1⟩=>?_)
 B3⟨h1,h2⟩:=aFC I1 r1 ty
 &⟨T,id,pa,slot,hty,h1,h2,?_⟩
 have hA:=ha cpos pins s1 σ H1 _ I1 q1
 rw[hs]at hA ⊢
 &Calls.callWith_builtin (by show (false||(backTo cpos (starEach es X.env)).any (·.1))=false;rw[hplain]<;>rfl) (Calls.evalArgs_plain ?_)
 ~iM hA fun us s2 ⟨vs,H2,I2,r2,q2⟩=>hm pins s2 σ H2 x vs v us Q I2 r1 r2 q2
end
end L2
namespace L2
open PySem PySem.Spec PyProof.Rows
def MtM(X:Cx)(id:String)(r:V→List V→Hp→VK→Prop):Prop:=
 ∀(pins:List (Addr×Obj))(s:Shared)(σ:St)(H:Hp)(x:V)(xs:List V)(v:Value)(us:List Value)(Q:VK),Inv X pins σ H s→RelV x v→Vals xs us→r x xs H Q →
  wpAny (model X.prog X.w) X.A (call (.builtin id) (v::us)) (EP X pins σ Q) X.xe s
B5 Vals.one:∀{x:V} {us:List Value},Vals [x] us→∃u,us=[u]∧RelV x u
 | _,_,.cons r .nil=>⟨_,rfl,r⟩
B5 Vals.two:∀{x y:V} {us:List Value},Vals [x,y] us→∃u v,us=[u,v]∧RelV x u∧RelV y v
 | _,_,_,.cons r (.cons q .nil)=>⟨_,_,rfl,r,q⟩
B5 Vals.eraseIdx:∀{xs:List V} {us:List Value} (i:Nat),Vals xs us→Vals (xs.eraseIdx i) (us.eraseIdx i)
 | _,_,_,.nil=>.nil
 | _,_,0,.cons _ t=>t
 | _,_,i+1,.cons r t=>.cons r (Vals.eraseIdx i t)
B5 Hx{α:Type}:∀(l:List α)(i:Nat),(l.eraseIdx i).length≤l.length
 | [],_=>D1 _
 | _::_,0=>L9 _
 | _::r,i+1=>U1 (Hx r i)
section
variable{X:Cx}{pins:List (Addr×Obj)}{σ:St}{H:Hp}{s:Shared}{l b:Addr}{xs ys zs:List V}
B5 Inv.aCK{its its':List Value}{n:Nat}{f:Array Value→Array Value}{t':Nat}(I:Inv X pins σ H s)(hH:H l=some (.lst xs))
  (e:s.heap.get? l=some {cls:=.type "list", data:=.seq its.toArray n}) (hf:f its.toArray=its'.toArray) (hv:Vals ys its') (hz:ys.length≤sizeLine) :
  Inv X pins σ (upd H l (.lst ys)) {s with heap:=s.heap.update l (Obj.mapSeq f),toks:=t'}:=by
 have q:=PySem.IsL.update e f
 rw[hf]at q
 &I.write (x:=l) (e:=l) (by rw[hH];~trivial) (.inl rfl) (fun b' u hb hu=>(Heap.get?_update_other s.heap (Obj.mapSeq f) (Ne.symm hb)).trans hu) ⟨_,q⟩ ?_
 ~⟨hz,its',_,hv,q⟩
B5 Inv.aHK{its:List Value}{t':Nat}(I:Inv X pins σ H s)(hv:Vals ys its)(hz:ys.length≤sizeLine) :
  Inv X pins σ (upd H s.heap.objs.size (.lst ys)) {s with heap:=s.heap.push {cls:=.type "list", data:=.seq its.toArray},toks:=t'}:=
 I.laid (fun _ _ q=>Heap.get?_push_of_some _ q) (D1 _) ⟨hz,its,0,hv,Heap.get?_push_size _ rfl⟩
B5 Inv.fresh(I:Inv X pins σ H s):H s.heap.objs.size=none:=I.hok.fresh (D1 _)
B5 Inv.aCL(I:Inv X pins σ H s)(hH:H l=some (.lst xs)):xs.length≤sizeLine∧∃(its:List Value)(n:Nat),Vals xs its∧xs.length=its.length∧s.heap.get? l=some {cls:=.type "list", data:=.seq its.toArray n}:=by
 B3⟨z,its,n,r,e⟩:=I.hok l _ hH
 ~⟨z,its,n,r,r.length,e⟩
end
section
variable{X:Cx}
def nH:V→List V→Hp→VK→Prop:=fun x vs H Q=>∃l xs y,x=.ref l∧vs=[y]∧H l=some (.lst xs)∧xs.length<sizeLine∧Q .non (upd H l (.lst (xs++[y])))
B5 kW:MtM X "list.append" nH:=by
 intro pins s σ H x vs v us Q I rx rv h
 B3⟨l,xs,y,rfl,rfl,hH,hz,q⟩:=h
 cases rx
 B3⟨u,rfl,ru⟩:=rv.one
 B3⟨z,its,n,r,hl,e⟩:=I.aCL hH
 &call_meets F.slot_list_append ⟨_,e,rfl⟩ F.entry_list_append (F.args_list_append_2 _ _) (PySem.list_append l its.toArray n u (by rw[D3];omega)) ⟨e,?_⟩
 &⟨.non,_,I.aCK (its':=its++[u]) hH e (by simp) (r.append (.cons ru .nil)) ?_,rfl,q⟩
 rw[C7,List.length_singleton]
 omega
def Xj:V→List V→Hp→VK→Prop:=fun x vs H Q=>∃l xs i k y,x=.ref l∧vs=[.int i]∧H l=some (.lst xs)∧-(2 ^ 63)≤i∧i<2 ^ 63∧seqIndex? i xs.length=some k∧xs[k]?=some y∧Q y (upd H l (.lst (xs.eraseIdx k)))
B5 aAc:MtM X "list.pop" Xj:=by
 intro pins s σ H x vs v us Q I rx rv h
 B3⟨l,xs,i,k,y,rfl,rfl,hH,h1,h2,hk,hy,q⟩:=h
 cases rx
 B3⟨u,rfl,ru⟩:=rv.one
 B3⟨t,rfl⟩:=ru
 B3⟨z,its,n,r,hl,e⟩:=I.aCL hH
 B3⟨w,hw,Ru⟩:=r.get hy
 &call_meets F.slot_list_pop ⟨_,e,rfl⟩ F.entry_list_pop (F.args_list_pop_2 _ _)
  (MeetsSeq.list_pop_at l its.toArray n i t k w (fitsIndex_both h1 h2) (by rw[D3,←hl];~hk) (by rw[←L8];~hw) (by rw[D3];omega)) ⟨e,?_⟩
 &⟨y,_,I.aCK (its':=its.eraseIdx k) hH e ?_ (r.eraseIdx k) ?_,Ru,q⟩
 ·show its.toArray.eraseIdxIfInBounds k=(its.eraseIdx k).toArray
  rw[U8]
 ·have:=Hx xs k
  omega
end
section
variable{prog:Program}{w:World}{A:Around}{E:Value→Shared→Prop}{s:Shared}
end
section
variable{X:Cx}
end
end L2
namespace L2
open PySem PySem.Spec PyProof.Rows
section
variable{κ:Type} [DecidableEq κ]
def wH(kvs:List (κ×V))(k:κ):Option V:=(kvs.find? fun kv=>decide (kv.1=k)).map (·.2)
def putK(kvs:List (κ×V))(k:κ)(v:V):List (κ×V):=
 if(kvs.any fun kv=>decide (kv.1=k))=true then kvs.map (fun kv=>if kv.1=k then(kv.1,v)else kv)else kvs++[(k,v)]
def aKh(kvs:List (κ×V))(k:κ):List (κ×V):=kvs.filter fun kv=>decide (kv.1≠k)
B5 Nb{p:κ×V}{r:List (κ×V)}{k:κ}(e:p.1=k):wH (p::r) k=some p.2:=by simp[wH,P2,e]
B5 Nf{p:κ×V}{r:List (κ×V)}{k:κ}(e:¬p.1=k):wH (p::r) k=wH r k:=by simp[wH,P2,e]
B5 Ng(k:κ):∀kvs:List (κ×V),(kvs.any fun kv=>decide (kv.1=k))=(wH kvs k).isSome
 | []=>rfl
 | p::r=>by
  rw[U0]
  by_cases e:p.1=k
  ·simp only[Nb e,decide_eq_true e,Bool.true_or,i7]
  ·rw[Nf e,decide_eq_false e,Bool.false_or];~Ng k r
B5 yQ(kvs:List (κ×V))(k:κ)(v:V):(putK kvs k v).length≤kvs.length+1:=by
 B4 putK
 split
 ·rw[B7];omega
 ·rw[C7,D8,List.length_nil];omega
B5 yD.vC{o:Option V}{u:Option Value}(r:yD o u):o.isSome=u.isSome:=by
 cases o with
 | none=>cases u with
  | none=>rfl
  | some _=>~(show False from r).elim
 | some _=>cases u with
  | none=>~(show False from r).elim
  | some _=>rfl
B5 yD.getD{o:Option V}{u:Option Value}{d:V}{d':Value}(r:yD o u)(rd:RelV d d'):RelV (o.getD d) (u.getD d'):=by
 cases o with
 | none=>cases u with
  | none=>~rd
  | some _=>~(show False from r).elim
 | some _=>cases u with
  | none=>~(show False from r).elim
  | some _=>~r
B5 KV.val{kvs:List (κ×V)}{vs:List (κ×Value)}(r:KV kvs vs)(k:κ):yD (wH kvs k) (valueAt vs k):=by
 B4 KV at r
 induction r with
 | nil=>~True.intro
 | @cons p q ps qs h t ih=>
  B3⟨h1,h2⟩:=h
  by_cases e:p.1=k
  ·have e':q.1=k:=h1.symm.trans e
   have b:valueAt (q::qs) k=some q.2:=by simp[valueAt,P2,e']
   rw[Nb e,b];~h2
  ·have e':¬q.1=k:=fun z=>e (h1.trans z)
   have b:valueAt (q::qs) k=valueAt qs k:=by simp[valueAt,P2,e']
   rw[Nf e,b];~ih
B5 KV.any{kvs:List (κ×V)}{vs:List (κ×Value)}(r:KV kvs vs)(k:κ):(kvs.any fun kv=>decide (kv.1=k))=vs.any fun kv=>decide (kv.1=k):=by
 B4 KV at r
 induction r with
 | nil=>rfl
 | cons h t ih=>rw[U0,U0,ih,h.1]
B5 KV.repl{kvs:List (κ×V)}{vs:List (κ×Value)}(r:KV kvs vs)(k:κ){y:V}{u:Value}(ry:RelV y u) :
  KV (kvs.map fun kv=>if kv.1=k then(kv.1,y)else kv) (vs.map fun kv=>if kv.1=k then(kv.1,u)else kv):=by
 B4 KV at r ⊢
 induction r with
 | nil=>~.nil
 | @cons p q ps qs h t ih=>
  rw[D5,D5]
  &.cons ?_ ih
  B3⟨h1,h2⟩:=h
  by_cases e:p.1=k
  ·rw[if_pos e,if_pos (h1.symm.trans e)];~⟨h1,ry⟩
  ·rw[if_neg e,if_neg (fun z=>e (h1.trans z))];~⟨h1,h2⟩
B5 KV.put{kvs:List (κ×V)}{vs:List (κ×Value)}(r:KV kvs vs)(k:κ){y:V}{u:Value}(ry:RelV y u):KV (putK kvs k y) (stored vs k u):=by
 B4 putK stored
 rw[r.any k]
 by_cases e:(vs.any fun kv=>decide (kv.1=k))=true
 ·rw[if_pos e,if_pos e];~r.repl k ry
 ·rw[if_neg e,if_neg e];~Paired.snoc r ⟨rfl,ry⟩
B5 KV.keys{kvs:List (κ×V)}{vs:List (κ×Value)}(r:KV kvs vs):kvs.map (·.1)=vs.map (·.1):=by
 B4 KV at r
 induction r with
 | nil=>rfl
 | cons h t ih=>rw[D5,D5,ih,h.1]
B5 KV.length{kvs:List (κ×V)}{vs:List (κ×Value)}(r:KV kvs vs):kvs.length=vs.length:=Paired.length r
end
B5 Uh{P:Program}{w:World}{k:Key}{u:Value}(r:RelV (kV k) u):(iB P w).is k u=true:=by
 cases k with
 | inl i=>B3⟨t,e⟩:=(show ∃t,u=Value.int i t from r);subst e;~CV P w i t
 | inr x=>B3⟨t,e⟩:=(show ∃t,u=Value.str x t from r);subst e;~CW P w x t
B5 Ui{P:Program}{w:World}:∀{ks:List Key} {us:List Value},Vals (ks.map kV) us→ItemsAre (iB P w) ks us
 | [],_,r=>by rw[L3]at r;cases r;~.nil
 | k::ks,_,r=>by
  rw[D5]at r
  cases r with
  | cons h t=>~.cons (Uh h) (Ui t)
abbrev KT(H:Hp):List (List Key×V)→List (List Key×Addr×Value)→Prop:=Paired fun p q=>p.1=q.1∧H q.2.1=some (.tup (p.1.map kV))∧RelV p.2 q.2.2
B5 KT.val{H:Hp}{kvs:List (List Key×V)}{xs:List (List Key×Addr×Value)}(r:KT H kvs xs)(k:List Key):yD (wH kvs k) ((atKey xs k).map (·.2)):=by
 induction r with
 | nil=>~True.intro
 | @cons p q ps qs h t ih=>
  B3⟨h1,_,h2⟩:=h
  by_cases e:p.1=k
  ·have e':q.1=k:=h1.symm.trans e
   have b:atKey (q::qs) k=some q.2:=by simp[atKey,P2,e']
   rw[Nb e,b];~h2
  ·have e':¬q.1=k:=fun z=>e (h1.trans z)
   have b:atKey (q::qs) k=atKey qs k:=by simp[atKey,P2,e']
   rw[Nf e,b];~ih
B5 KT.repl{H:Hp}{kvs:List (List Key×V)}{xs:List (List Key×Addr×Value)}(r:KT H kvs xs)(k:List Key){y:V}{u:Value}(ry:RelV y u) :
  KT H (kvs.map fun kv=>if kv.1=k then(kv.1,y)else kv) (xs.map (putAt k u)):=by
 induction r with
 | nil=>~.nil
 | @cons p q ps qs h t ih=>
  rw[D5,D5]
  &.cons ?_ ih
  B3⟨h1,h2,h3⟩:=h
  B4 putAt
  by_cases e:p.1=k
  ·rw[if_pos e,if_pos (h1.symm.trans e)];~⟨h1,h2,ry⟩
  ·rw[if_neg e,if_neg (fun z=>e (h1.trans z))];~⟨h1,h2,h3⟩
B5 KT.put{H:Hp}{kvs:List (List Key×V)}{xs:List (List Key×Addr×Value)}(r:KT H kvs xs)(k:List Key){b:Addr}{y:V}{u:Value}(hb:H b=some (.tup (k.map kV)))(ry:RelV y u) :
  KT H (putK kvs k y) (storedH xs k b u):=by
 have e:(kvs.any fun kv=>decide (kv.1=k))=(atKey xs k).isSome:=by
  rw[Ng,(r.val k).vC,X6]
 B4 putK storedH
 rw[e]
 by_cases q:(atKey xs k).isSome=true
 ·rw[if_pos q,if_pos q];~r.repl k ry
 ·rw[if_neg q,if_neg q];~Paired.snoc r ⟨rfl,hb,ry⟩
B5 KT.keeps{H H':Hp}{kvs:List (List Key×V)}{xs:List (List Key×Addr×Value)}(r:KT H kvs xs)(ht:∀b ys,H b=some (.tup ys)→H' b=some (.tup ys)):KT H' kvs xs:=
 Paired.aE3 r fun _ _ z=>⟨z.1,ht _ _ z.2.1,z.2.2⟩
section
variable{P:Program}{w:World}{H:Hp}{h:Heap}{a:Addr}
B5 aEi{u:HO}(ok:Cq P w H h)(e:Rd H a u):iV P w H h a u:=e.ok ok
B5 Jy{kvs:List (Key×V)}(ok:Cq P w H h)(e:Rd H a (.dK kvs)):kvs.length≤sizeLine∧(a==sysModules)=false∧∃vs,KV kvs vs∧h.DictOf (iB P w) a vs:=
 show iV P w H h a (.dK kvs)from aEi ok e
B5 aHL{kvs:List (Key×V)}(ok:Cq P w H h)(e:H a=some (.dK kvs)):kvs.length≤sizeLine∧(a==sysModules)=false∧∃vs,KV kvs vs∧h.DictOf (iB P w) a vs:=Jy ok (.inl e)
B5 Hy{ks:List Key}(ok:Cq P w H h)(e:H a=some (.tup (ks.map kV))):(tupleKind (iB P w)).is h ks a:=by
 B3⟨_,its,r,o,h1,h2,n,h3⟩:=(show iV P w H h a (.tup (ks.map kV))from ok a _ e)
 ~⟨o,its.toArray,n,h1,h2,h3,by simpa using Ui r⟩
B5 Nh{kvs:List (List Key×V)}(ok:Cq P w H h)(e:Rd H a (.dT kvs)):kvs.length≤sizeLine∧(a==sysModules)=false ∧
  ∃xs,KT H kvs xs∧h.DictOfH (tupleKind (iB P w)) a xs:=by
 B3⟨z,y,xs,r,o,es,ep,h1,h2,h3,h4,h5⟩:=(show iV P w H h a (.dT kvs)from aEi ok e)
 &⟨z,y,xs,r,o,es,ep,h1,h2,h3,h4,fun x hx=>?_,h5⟩
 have all:∀{l:List (List Key×V)} {m:List (List Key×Addr×Value)},KT H l m→∀x∈m,(tupleKind (iB P w)).is h x.1 x.2.1:=by
  intro l m q
  induction q with
  | nil=>intro x hx;~nomatch hx
  | @cons p q ps qs hq t ih=>
   intro x hx
   rcases C5.mp hx with e | hx
   ·subst e
    ~Hy ok (by rw[←hq.1];~hq.2.1)
   ·~ih x hx
 ~all r x hx
B5 aHM{kvs:List (List Key×V)}(ok:Cq P w H h)(e:H a=some (.dT kvs)):kvs.length≤sizeLine∧(a==sysModules)=false ∧
  ∃xs,KT H kvs xs∧h.DictOfH (tupleKind (iB P w)) a xs:=Nh ok (.inl e)
end
def Ky(H:Hp)(a:Addr)(y:V)(r:Option V):Prop:=
 (∃kvs k,Rd H a (.dK kvs)∧y=kV k∧r=wH kvs k)∨∃kvs k b,Rd H a (.dT kvs)∧y=.ref b∧H b=some (.tup (k.map kV))∧r=wH kvs k
def aHN(H:Hp)(a:Addr)(y v:V)(H':Hp):Prop:=
 (∃kvs k,H a=some (.dK kvs)∧y=kV k∧kvs.length<sizeLine∧H'=upd H a (.dK (putK kvs k v))) ∨
 ∃kvs k b,H a=some (.dT kvs)∧y=.ref b∧H b=some (.tup (k.map kV))∧kvs.length<sizeLine∧H'=upd H a (.dT (putK kvs k v))
section
variable{X:Cx}{pins:List (Addr×Obj)}{σ:St}{H:Hp}{s:Shared}{a:Addr}{y v:V}{u r:Value}{o:Option V}{A:Around}{E:Value→Shared→Prop}
B5 Inv.big(I:Inv X pins σ H s):sysModules<s.heap.objs.size:=by
 have h:mainGlobals<s.heap.objs.size:=(I.mod.glob.keeps I.bk).lt
 ~Nat.lt_trans A8 h
B5 oh{Q:Value→Shared→Prop}(hu:A.units+1<cLine)(I:Inv X pins σ H s)(g:Ky H a y (some v))(ry:RelV y u)(h:∀w' s',Inv X pins σ H s'→RelV v w'→Q w' s') :
  wpAny (model X.prog X.w) A (getItem (.ref a) u) Q E s:=by
 rcases g with ⟨kvs,k,e,ey,l⟩ | ⟨kvs,k,b,e,ey,eb,l⟩
 ·subst ey
  B3⟨z,hd,vs,rel,dd⟩:=Jy I.hok e
  B3⟨w',hw,Ru⟩:=yD.some_of (v:=v) (o:=valueAt vs k) (by rw[l];~rel.val k)
  ~wpAny_getItem_of (Uh ry) dd.mapOf hw (h w' _ (I.tok _) Ru)
 ·subst ey
  cases(show u=Value.ref b from ry)
  B3⟨z,hd,xs,rel,dd⟩:=Nh I.hok e
  B3⟨w',hw,Ru⟩:=yD.some_of (v:=v) (o:=(atKey xs k).map (·.2)) (by rw[l];~rel.val k)
  B3⟨p,hp,hp2⟩:=lJ hw
  &wpAny_getItem_heap (tupleKind_room_in1 hu) (Hy I.hok eb) dd hp ?_
  rw[hp2]
  ~h w' _ (I.tok _) Ru
B5 aHO{Q:Value→Shared→Prop}(hu:A.units+1<cLine)(I:Inv X pins σ H s)(g:Ky H a y o)(ry:RelV y u)(h:∀s',Inv X pins σ H s'→Q (.bool o.isSome) s') :
  wpAny (model X.prog X.w) A (compareOp .In u (.ref a)) Q E s:=by
 rcases g with ⟨kvs,k,e,ey,l⟩ | ⟨kvs,k,b,e,ey,eb,l⟩
 ·subst ey
  B3⟨z,hd,vs,rel,dd⟩:=Jy I.hok e
  &wpAny_in_of (Uh ry) hd dd.mapOf ?_
  rw[←(rel.val k).vC,←l]
  ~h _ (I.tok _)
 ·subst ey
  cases(show u=Value.ref b from ry)
  B3⟨z,hd,xs,rel,dd⟩:=Nh I.hok e
  &wpAny_in_heap (tupleKind_room_in1 hu) (Hy I.hok eb) hd dd ?_
  have q:=(rel.val k).vC
  rw[X6]at q
  rw[←q,←l]
  ~h _ (I.tok _)
B5 aCM{Q:Value→Shared→Prop}(hu:A.units+1<cLine)(I:Inv X pins σ H s)(g:Ky H a y o)(ry:RelV y u)(h:∀s',Inv X pins σ H s'→Q (.bool (!o.isSome)) s') :
  wpAny (model X.prog X.w) A (compareOp .NotIn u (.ref a)) Q E s:=by
 rcases g with ⟨kvs,k,e,ey,l⟩ | ⟨kvs,k,b,e,ey,eb,l⟩
 ·subst ey
  B3⟨z,hd,vs,rel,dd⟩:=Jy I.hok e
  &wpAny_notIn_of (Uh ry) hd dd.mapOf ?_
  rw[←(rel.val k).vC,←l]
  ~h _ (I.tok _)
 ·subst ey
  cases(show u=Value.ref b from ry)
  B3⟨z,hd,xs,rel,dd⟩:=Nh I.hok e
  &wpAny_notIn_heap (tupleKind_room_in1 hu) (Hy I.hok eb) hd dd ?_
  have q:=(rel.val k).vC
  rw[X6]at q
  rw[←q,←l]
  ~h _ (I.tok _)
B5 aq{h':Heap}{t':Nat}{ob:HO}(I:Inv X pins σ H s)(mu:Mut (H a))(hs:Heap.SameBut a s.heap h')(he:∃q,h'.get? a=some q)(new:iV X.prog X.w (upd H a ob) h' a ob) :
  Inv X pins σ (upd H a ob) {s with heap:=h',toks:=t'}:=
 I.write (x:=a) (e:=a) mu (.inl rfl) (fun b q hb z=>(hs.2 b hb).trans z) he new
B5 aFD{P:Program}{w:World}{H':Hp}{h':Heap}{kvs:List (Key×V)}{vs:List (Key×Value)}(z:kvs.length≤sizeLine)(hd:(a==sysModules)=false)(rel:KV kvs vs)(dd:h'.DictOf (iB P w) a vs) :
  iV P w H' h' a (.dK kvs):=⟨z,hd,vs,rel,dd⟩
B5 ou{H':Hp}{Q:Unit→Shared→Prop}(hu:A.units+1<cLine)(I:Inv X pins σ H s)(g:aHN H a y v H')(ry:RelV y u)(rv:RelV v r)(h:∀s',Inv X pins σ H' s'→Q () s') :
  wpAny (model X.prog X.w) A (setItem (.ref a) u r) Q E s:=by
 rcases g with ⟨kvs,k,e,ey,l,eH⟩ | ⟨kvs,k,b,e,ey,eb,l,eH⟩
 ·subst ey eH
  B3⟨z,hd,vs,rel,dd⟩:=aHL I.hok e
  have hz:vs.length≤sizeLine:=by rw[←rel.length];~z
  have hl:(putK kvs k v).length≤sizeLine:=by have:=yQ kvs k v;omega
  &wpAny_setItem_pairs (hsz:=hz) (Uh ry) dd fun h' dd' hs=>h _ ?_
  have he:∃q,h'.get? a=some q:=let ⟨q,_,_,hq,_⟩:=dd';⟨q,hq⟩
  ~aq I (by rw[e];~True.intro) hs he (aFD hl hd (rel.put k rv) dd')
 ·subst ey eH
  cases(show u=Value.ref b from ry)
  B3⟨z,hd,xs,rel,dd⟩:=aHM I.hok e
  have hz:xs.length≤sizeLine:=by rw[←Paired.length rel];~z
  have hl:(putK kvs k v).length≤sizeLine:=by have:=yQ kvs k v;omega
  &wpAny_setItem_heap (hsz:=hz) (tupleKind_room_in1 hu) (Hy I.hok eb) dd fun h' dd' hs=>h _ ?_
  B3⟨q,es,ep,hq,h2,h3,h4,_,h5⟩:=dd'
  &aq I (by rw[e];~True.intro) hs ⟨q,hq⟩ ⟨hl,hd,_,(rel.put k eb rv).keeps fun c ys ec=>?_,q,es,ep,hq,h2,h3,h4,h5⟩
  rw[bN (aHj ec e (fun z=>nomatch z))]
  ~ec
end
section
variable{X:Cx}{pins:List (Addr×Obj)}{σ:St}{H:Hp}{s:Shared}{a:Addr}{kvs:List (Key×V)}{k:Key}{u:Value}{A:Around}{E:Value→Shared→Prop}
end
def aFE(i:Expr):Prop:=∀ov iv,subscripted i false ov iv=operate [ov,iv] (getItem ov iv)
B5 aCN{prog:Program}{w:World}{A:Around}{E:Value→Shared→Prop}{s:Shared}{env:Env}{value slice:Expr}{pos:Pos}{T id:String}{Q:Value→Shared→Prop}
  (hl:typeLookup (.type T) "__getitem__" = pure (some (.builtin id))) (hs:aFE slice)
  (h:wpAny (model prog w) A (eval value env) (fun o s₁=>wpAny (model prog w) A (eval slice env) (fun i s₂=>s₂.TypeIs o T∧wpAny (model prog w) A (getItem o i) Q E s₂) E s₁) E s) :
  wpAny (model prog w) A (eval (.Subscript value slice pos) env) Q E s:=by
 &Subscript_ (wpAny_mono h (fun o s₁ h₁=>wpAny_mono h₁ (fun i s₂ h₂=>?_) fun _ _ x=>x) fun _ _ x=>x)
 B3⟨hT,h₂⟩:=h₂
 B4 subscriptTail
 &wpAny_bind ?_
 rw[getitemInPython_of_ne hT.not_modules]
 &wpAny_bind (wpAny_specialOf hT hl ?_)
 have fin:wpAny (model prog w) A (subscripted slice false o i) (fun r s₃=>wpAny (model prog w) A (letTemporaryGo value o r >>= fun _=>pure r) Q E s₃) E s₂:=by
  rw[hs o i]
  ~wpAny_operating (wpAny_mono h₂ (fun r s₃ h₃=>wpAny_bind (wpAny_letTemporaryGo (wpAny_pure h₃))) fun _ _ x=>x)
 first
  | ~wpAny_pure (wpAny_bind fin)
  | ~wpAny_bind (wpAny_pure (wpAny_bind fin))
  | ~wpAny_bind fin
B5 FQ{X:Cx}{pins:List (Addr×Obj)}{σ:St}{H:Hp}{s:Shared}{a:Addr}{y:V}{o:Option V}(I:Inv X pins σ H s)(g:Ky H a y o):s.TypeIs (.ref a) "dict" := by
 rcases g with ⟨kvs,k,e,_,_⟩ | ⟨kvs,k,b,e,_,_,_⟩
 ·B3⟨_,_,vs,_,dd⟩:=Jy I.hok e
  ~dd.typeIs
 ·B3⟨_,_,xs,_,dd⟩:=Nh I.hok e
  ~dd.typeIs
def aEj(td ty:TE):TE:=fun σ H Q=>td σ H fun x H1=>ty σ H1 fun y H2=>∃a v,x=.ref a∧Ky H2 a y (some v)∧Q v H2
def aCO(ty td:TE):TE:=fun σ H Q=>ty σ H fun y H1=>td σ H1 fun x H2=>∃a o,x=.ref a∧Ky H2 a y o∧Q (.bl o.isSome) H2
def Xk(ty td:TE):TE:=fun σ H Q=>ty σ H fun y H1=>td σ H1 fun x H2=>∃a o,x=.ref a∧Ky H2 a y o∧Q (.bl (!o.isSome)) H2
def Ff(td ty tv:TE):TS:=fun D σ H=>tv σ H fun v H1=>td σ H1 fun x H2=>ty σ H2 fun y H3=>∃a H4,x=.ref a∧aHN H3 a y v H4∧D.nx σ H4
section
variable{X:Cx}{o i e value:Expr}{pos pos' tpos:Pos}{td ty tv:TE}
B5 aCP(hu:X.A.units+1<cLine)(ho:PE X o td)(hi:PE X i ty)(hs:aFE i):PE X (.Subscript o i pos) (aEj td ty):=by
 intro pins s σ H Q I h
 &aCN PySem.F.slot_dict_getitem.lookup hs (iM (ho pins s σ H _ I h) fun u s1 ⟨x,H1,I1,rx,q1⟩=>iM (hi pins s1 σ H1 _ I1 q1) fun iv s2 ⟨y,H2,I2,ry,a,v,ex,g,q2⟩=>?_)
 subst ex
 B3 rfl:u=Value.ref a:=rx
 ~⟨FQ I2 g,oh hu I2 g ry fun w' s3 I3 Ru=>⟨v,H2,I3,Ru,q2⟩⟩
B5 SQ(hu:X.A.units+1<cLine)(hi:PE X i ty)(ho:PE X o td):PC X .In i o (aCO ty td):=by
 intro pins s σ H Q I h
 &iM (hi pins s σ H _ I h) fun iv s1 ⟨y,H1,I1,ry,q1⟩=>iM (ho pins s1 σ H1 _ I1 q1) fun u s2 ⟨x,H2,I2,rx,a,ov,ex,g,q2⟩=>?_
 subst ex
 B3 rfl:u=Value.ref a:=rx
 ~aHO hu I2 g ry fun s3 I3=>⟨.bl ov.isSome,H2,I3,rfl,q2⟩
B5 Uj(hu:X.A.units+1<cLine)(hi:PE X i ty)(ho:PE X o td):PC X .NotIn i o (Xk ty td):=by
 intro pins s σ H Q I h
 &iM (hi pins s σ H _ I h) fun iv s1 ⟨y,H1,I1,ry,q1⟩=>iM (ho pins s1 σ H1 _ I1 q1) fun u s2 ⟨x,H2,I2,rx,a,ov,ex,g,q2⟩=>?_
 subst ex
 B3 rfl:u=Value.ref a:=rx
 ~aCM hu I2 g ry fun s3 I3=>⟨.bl (!ov.isSome),H2,I3,rfl,q2⟩
B5 tX(hu:X.A.units+1<cLine)(ho:PE X o td)(hi:PE X i ty)(hv:PE X value tv)(hs:swapsWith value (some (.Subscript o i pos')) pos.line X.env=pure false) :
  PS X (.Assign [.Subscript o i pos'] value pos) (Ff td ty tv):=by
 intro pins s σ H D I h
 &wpAny_Assign_Subscript (iM (hv pins s σ H _ I h) fun r s1 ⟨v,H1,I1,rv,q1⟩=>iM (ho pins s1 σ H1 _ I1 q1) fun u s2 ⟨x,H2,I2,rx,q2⟩=>iM (hi pins s2 σ H2 _ I2 q2) fun iv s3 ⟨y,H3,I3,ry,a,H4,ex,g,q3⟩=>?_) hs
 subst ex
 B3 rfl:u=Value.ref a:=rx
 ~ou hu I3 g ry rv fun s4 I4=>⟨σ,H4,I4,q3⟩
end
B5 aAd{P:Program}{w:World}{H:Hp}(h:Heap)(hb:sysModules<h.objs.size):iV P w H (h.push {cls:=.type "dict", data:=.dict #[]}) h.objs.size (.dK []):=
 ⟨M3 _,beq_eq_false_iff_ne.mpr (Ne.symm (E9 hb)),[],.nil,Heap.DictOf.new h⟩
B5 aAe{P:Program}{w:World}{H:Hp}(h:Heap)(hb:sysModules<h.objs.size):iV P w H (h.push {cls:=.type "dict", data:=.dict #[]}) h.objs.size (.dT []):=
 ⟨M3 _,beq_eq_false_iff_ne.mpr (Ne.symm (E9 hb)),[],.nil,_,#[],0,Heap.get?_push_size _ rfl,⟨rfl,rfl,rfl⟩,rfl,rfl,c9⟩
def SX:TE:=fun _ H Q=>∀p,H p=none→Q (.ref p) (upd H p (.dK []))
def aAf:TE:=fun _ H Q=>∀p,H p=none→Q (.ref p) (upd H p (.dT []))
section
variable{X:Cx}{pos:Pos}
B5 aAg:PE X (.Dict [] [] pos) SX:=fun pins s σ H Q I h=>
 wpAny_Dict_empty ⟨.ref s.heap.objs.size,_,I.laid (a:=s.heap.objs.size) (o:=.dK []) (t':=s.toks) (fun _ _ q=>Heap.get?_push_of_some _ q) (D1 _) (aAd s.heap I.big),rfl,h _ (I.hok.fresh (D1 _))⟩
B5 aAh:PE X (.Dict [] [] pos) aAf:=fun pins s σ H Q I h=>
 wpAny_Dict_empty ⟨.ref s.heap.objs.size,_,I.laid (a:=s.heap.objs.size) (o:=.dT []) (t':=s.toks) (fun _ _ q=>Heap.get?_push_of_some _ q) (D1 _) (aAe s.heap I.big),rfl,h _ (I.hok.fresh (D1 _))⟩
end
def TF:List (TE×TE)→St→Hp→(List (V×V)→Hp→Prop)→Prop
 | [],_,H,Q=>Q [] H
 | (tk,tv)::r,σ,H,Q=>tk σ H fun x H1=>tv σ H1 fun y H2=>TF r σ H2 fun ps H3=>Q ((x,y)::ps) H3
abbrev VV:List (V×V)→List (Value×Value)→Prop:=Paired fun p q=>RelV p.1 q.1∧RelV p.2 q.2
def PPs(X:Cx)(pos:Pos)(keys:List (Option Expr))(values:List Expr)(trs:List (TE×TE)):Prop:=
 ∀(pins:List (Addr×Obj))(s:Shared)(σ:St)(H:Hp)(Q:List (V×V)→Hp→Prop),Inv X pins σ H s→TF trs σ H Q →
  wpAny (model X.prog X.w) X.A (evalPairs (pairTrees keys values X.env pos)) (fun vs s'=>∃ps H',Inv X pins σ H' s'∧VV ps vs∧Q ps H') X.xe s
structure M1(X:Cx)(o:Expr)(m:Str)(apos:Pos)(e:Expr)(cpos:Pos):Prop where
 base:attributeBase o m X.env (eval o X.env)=eval o X.env
 few:((backTo cpos (starEach [e] X.env)).all (fun x=>!x.1)&&(backToKw cpos (keywordEach [] X.env)).all (fun x=>x.1.isSome)
  && decide (([e]:List Expr).length+([]:List Keyword).length+(if([]:List Keyword).isEmpty then 0 else 1)<30))=true
 line:(apos.endLine==cpos.line)=true
 trees:backTo cpos (starEach [e] X.env)=[(false,eval e X.env)]
structure M2(X:Cx)(o:Expr)(m:Str)(apos:Pos)(e f:Expr)(cpos:Pos):Prop where
 base:attributeBase o m X.env (eval o X.env)=eval o X.env
 few:((backTo cpos (starEach [e,f] X.env)).all (fun x=>!x.1)&&(backToKw cpos (keywordEach [] X.env)).all (fun x=>x.1.isSome)
  && decide (([e,f]:List Expr).length+([]:List Keyword).length+(if([]:List Keyword).isEmpty then 0 else 1)<30))=true
 line:(apos.endLine==cpos.line)=true
 trees:backTo cpos (starEach [e,f] X.env)=[(false,eval e X.env),(false,eval f X.env)]
def IsD(H:Hp)(a:Addr):Prop:=(∃kvs,Rd H a (.dK kvs))∨∃kvs,Rd H a (.dT kvs)
B5 aFF{X:Cx}{pins:List (Addr×Obj)}{σ:St}{H:Hp}{s:Shared}{a:Addr}(I:Inv X pins σ H s)(d:IsD H a) :
  s.TypeIs (.ref a) "dict" ∧ (∀b,Value.ref a=.ref b→∃ob,s.heap.get? b=some ob∧ob.dict=none)∧(a==sysModules)=false:=by
 rcases d with ⟨kvs,e⟩ | ⟨kvs,e⟩
 ·B3⟨_,hd,vs,_,dd⟩:=Jy I.hok e
  &⟨dd.typeIs,fun b q=>?_,hd⟩
  cases q
  B3⟨ob,_,_,h1,h2,_⟩:=dd
  ~⟨ob,h1,h2.2.1⟩
 ·B3⟨_,hd,xs,_,dd⟩:=Nh I.hok e
  &⟨dd.typeIs,fun b q=>?_,hd⟩
  cases q
  B3⟨ob,_,_,h1,h2,_⟩:=dd
  ~⟨ob,h1,h2.2.1⟩
section
variable{X:Cx}{pins:List (Addr×Obj)}{σ:St}{H:Hp}{s:Shared}{a:Addr}{y d:V}{u r:Value}{o:Option V}{A:Around}{E:Value→Shared→Prop}
B5 aFG{Q:Value→Shared→Prop}(hu:A.units+1<cLine)(I:Inv X pins σ H s)(g:Ky H a y o)(ry:RelV y u)(h:∀w' s',Inv X pins σ H s'→RelV (o.getD .non) w'→Q w' s') :
  wpAny (model X.prog X.w) A (call (.builtin "dict.get") [.ref a,u]) Q E s:=by
 rcases g with ⟨kvs,k,e,ey,l⟩ | ⟨kvs,k,b,e,ey,eb,l⟩
 ·subst ey
  B3⟨z,hd,vs,rel,dd⟩:=Jy I.hok e
  &call_meetsIn U6 dd.typeIs b8 (Z5 _ _) (meets_dict_get (iB X.prog X.w) a (Uh ry) hd) ⟨_,dd.mapOf,h _ _ (I.tok _) ?_⟩
  rw[l]
  ~(rel.val k).getD rfl
 ·subst ey
  cases(show u=Value.ref b from ry)
  B3⟨z,hd,xs,rel,dd⟩:=Nh I.hok e
  &call_meetsIn U6 dd.typeIs b8 (Z5 _ _) (meetsH_dict_get (tupleKind (iB X.prog X.w)) a b hd) ⟨tupleKind_room_in1 hu,k,xs,Hy I.hok eb,dd,h _ _ (I.tok _) ?_⟩
  rw[l]
  ~(rel.val k).getD rfl
end
def aAi(td ty:TE):TE:=fun σ H Q=>td σ H fun x H1=>∃a,x=.ref a∧IsD H1 a∧ty σ H1 fun y H2=>∃o,Ky H2 a y o∧Q (o.getD .non) H2
section
variable{X:Cx}{o e f:Expr}{apos cpos:Pos}{td ty tx:TE}
B5 aAj(hu:X.A.units+1<cLine)(ho:PE X o td)(he:PE X e ty)(m:M1 X o "get" apos e cpos):PE X (.Call (.Attribute o "get" apos) [e] [] cpos) (aAi td ty):=by
 intro pins s σ H Q I h
 &wpAny_Call_method m.base m.few m.line PySem.F.plainAttrs_dict U6 PySem.F.type_dict_get (iM (ho pins s σ H _ I h) fun u s1 ⟨x,H1,I1,rx,a,ex,d,q1⟩=>?_)
 subst ex
 B3 rfl:u=Value.ref a:=rx
 B3⟨t1,t2,_⟩:=aFF I1 d
 &⟨t1,t2,?_⟩
 rw[m.trees]
 &Calls.callWith_builtin rfl (Calls.evalArgs_plain (Calls.spliced_cons (iM (he pins s1 σ H1 _ I1 q1) fun iv s2 ⟨y,H2,I2,ry,ov,g,q2⟩=>Calls.spliced_nil ?_)))
 ~aFG hu I2 g ry fun w' s3 I3 Ru=>⟨_,H2,I3,Ru,q2⟩
end
section
variable{X:Cx}{pins:List (Addr×Obj)}{σ:St}{H:Hp}{s:Shared}{a:Addr}{kvs:List (Key×V)}{A:Around}{E:Value→Shared→Prop}
end
section
variable{X:Cx}{pins:List (Addr×Obj)}{σ:St}{H:Hp}{s:Shared}{a:Addr}{y:V}{u:Value}{A:Around}{E:Value→Shared→Prop}
end
end L2
namespace Att
open PySem PySem.W PySem.Calls PyProof.Rows
B5 Kz{P:Params}{h:Heap}:∀(ns:List Int)(vs:List Value),WellAll P h vs (ns.map WData.int)→IntsAre vs ns:=by
 intro ns
 induction ns with
 | nil=>
  intro vs w
  rw[L3]at w
  cases w
  ~.nil
 | cons n ns ih=>
  intro vs w
  rw[D5]at w
  cases w with
  | cons a b=>
   cases a
   ~.cons _ _ (ih _ b)
B5 ph{l:OpenLaw}{n:Nat}(hn:l.most=some n){P:Params}{h:Heap}{args:List WData}{vals:List Value}
  (hpre:l.row.toRowW.claim.pre args=true) (hwl:WellAll P h vals args) :
  ∃a vs ns,vals=[Value.ref a]∧args=[WData.list (ns.map WData.int)]∧h.get? a=some {cls:=.type "list", data:=.seq vs.toArray}∧IntsAre vs ns∧ns.length≤n:=by
 have hsh:WShape.hasAll [] args [.list .int]=true:=(pre_splitW hpre).1
 have hc:l.pre.holds [] {args:=args}=true:=(pre_splitW hpre).2
 B3⟨d,r,rfl,h1,h2⟩:=hasAllW_cons hsh
 B3 rfl:=hasAllW_nil h2
 B3⟨xs,rfl,h3⟩:=hasW_list h1
 B3⟨ns,rfl⟩:=items_int h3
 have hlen:ns.length≤n:=by
  B4 OpenLaw.pre at hc
  have h4:(WTm.not (.lt (.lit (.int (n:Int))) (.len (.arg 0)))).holds [] {args:=[.list (ns.map .int)]}=true:=by
   have h4:=(holds_andW hc).1
   rw[hn]at h4
   ~h4
  have h5:=condW_of h4 (w_not (w_lt w_lit (w_len_list (w_arg rfl))))
  rw[B7]at h5
  &Nat.le_of_not_lt fun q=>?_
  have q':(n:Int)<((ns.length:Nat):Int):=by omega
  first
   | (rw[decide_eq_true q']at h5;~absurd h5 A8)
   | (simp at h5;omega)
 cases hwl with
 | cons w1 w2=>
  cases w2
  cases w1 with
  | list ho hall=>~⟨_,_,ns,rfl,rfl,ho,Kz ns _ hall,hlen⟩
B5 pq(l:OpenLaw)(args:List WData):l.row.toRowW.claim.post args (.bool true) args=true:=
 postW_of (r:=l.row.toRowW) (X:=(true==true))
  (show WShape.has [] (.bool true) .bool=true by first | rfl | decide | simp[WShape.has,WShape.arms,WShape.armsAll])
  (show (WTm.eq .res (.lit (.bool true))).value [] {args:=args,res:=some (.bool true),after:=args}=some (.bool (true==true))from w_eq_bool (w_res rfl) w_lit) rfl
section
variable{prog:Program}{w:World}{A:Around}{E:Value→Shared→Prop}{s:Shared}{K:Frag}
end
end Att
namespace L2
open PySem PySem.Spec PyProof.Rows
B5 Ao:∀{vs:List Value} {ns:List Int},IntsAre vs ns→Vals (ns.map V.int) vs
 | _,_,.nil=>.nil
 | _,_,.cons n t h=>.cons ⟨t,rfl⟩ (Ao h)
def Only(H:Hp):Prop:=∀b,H b=none∨∃o xs,H b=some (.yM o (.lst xs))
B5 aAk{P:Program}{w:World}{K:aF}{mg mb:Str→Option Value}{CX:mz}{k:Nat}{fa a:Addr}{fd:FuncData}{x:Str}{sp:Sp}{s₁:Shared}{vs:List Value}{ns:List Int}
  (KX:K.In s₁.heap) (hns:s₁.heap.Ns mainGlobals mg) (hb:s₁.heap.Ns builtinsNs mb) (hbb:∀x:Str,x ≠ "__name__" → mb x=bootBuiltins x) (hlim:s₁.heap.NoLimit) (hg:s₁.gens=#[])
  (ha:s₁.heap.get? a=some {cls:=.type "list", data:=.seq vs.toArray}) (hi:IntsAre vs ns) (hl:ns.length≤sizeLine) (hr:jK k callerA)
  (F:∀base:Heap,K.In base→base.Ns mainGlobals mg→yF P w K mg base CX k fa fd [x] sp) (hbind:∀(s:Shared)(u:Value),BindsTo s fd ⟨[u],[]⟩ [(x,u)])
  (hsp:∀H:Hp,Only H→pQ K H a (ns.map V.int)→sp [.ref a] H (fun v _=>v=.bl true) fun _ _ _=>False)
  (hCX:∀H e s',CX [] H s₁ (fun _ _ _=>False) e s'→False) :
  codeAny (model P w) callerA (.call (.ref fa) ⟨[.ref a],[]⟩) (fun r s'=>r=.ok (.ret (.bool true))∧OldK s₁.heap s'.heap∧s'.os=s₁.os∧AllBare s'.gens) s₁:=by
 have rv:=Ao hi
 have lenV:=hi.length
 have core:∀H:Hp,Only H→pQ K H a (ns.map V.int)→Cq P w H s₁.heap→(∀b,H b≠none→b=a)→(H a≠none→K.lookup a=none) →
   codeAny (model P w) callerA (.call (.ref fa) ⟨[.ref a],[]⟩) (fun r s'=>r=.ok (.ret (.bool true))∧OldK s₁.heap s'.heap∧s'.os=s₁.os∧AllBare s'.gens) s₁:=by
  intro H hO hS hok hA hK
  have au:∀{b:Addr} {o:Obj},s₁.heap.get? b=some o→H b=none→(Wq s₁.heap H).get? b=some o:=fun e n=>xx e n
  have noA:∀{b:Addr} {o:Obj} {es:Array DictEntry} {ep:Nat},s₁.heap.get? b=some o→o.data=.dict es ep→H b=none:=fun{b o es ep} e d=>by
   cases q:H b with
   | none=>rfl
   | some u=>
    have e':b=a:=hA b (by rw[q];simp)
    subst e'
    rw[ha]at e;cases e
    have d':Data.seq vs.toArray _=Data.dict es ep:=d
    cases d'
  have nsK:∀{b:Addr} {m:Str→Option Value},s₁.heap.Ns b m→(Wq s₁.heap H).Ns b m:=fun{b m} ⟨o,es,ep,e,d,r⟩=>⟨o,es,ep,au e (noA e d),d,r⟩
  have hKb:K.In (Wq s₁.heap H):=fun b o e=>au (KX b o e) (by
   cases q:H b with
   | none=>rfl
   | some u=>
    have e':b=a:=hA b (by rw[q];simp)
    subst e'
    rw[hK (by rw[q];simp)]at e;cases e)
  have hM:Mod K mg (Wq s₁.heap H):=⟨hKb,nsK hns,⟨mb,nsK hb,hbb⟩,let ⟨mc,h1,h2⟩:=hlim;⟨mc,nsK h1,h2⟩⟩
  have e0:RZ P w K mg (Wq s₁.heap H) callerA [] s₁ H:=⟨rfl,hM,fun b o e=>aCl e,i5 (jz _ _),trivial,fun b hb=>absurd (show b∈([]:List Addr)from hb) (by simp),hok,.of_eq hg⟩
  &codeAny_mono ((F _ hKb (nsK hns)).run callerA [] s₁ H ⟨[.ref a],[]⟩ [.ref a] [.ref a] _ _ hr e0 (hbind s₁ (.ref a)) (.cons rfl .nil) (hsp H hO hS)) fun r s' h=>?_
  cases r with
  | error e=>~(hCX H e s' h).elim
  | ok fl=>
   cases fl with
   | next=>~False.elim h
   | brk=>~False.elim h
   | cont=>~False.elim h
   | ret u=>
    B3⟨v,H',os,bare,un,hok',r',q⟩:=h
    have q':v=.bl true:=q
    subst q'
    B3 rfl:u=Value.bool true:=r'
    &⟨rfl,OldK.of_keep fun b o e=>?_,os,bare⟩
    cases q:H b with
    | none=>~un.keep b o e q (by intro z;~absurd (show b∈([]:List Addr)from z) (by simp)) (by simp)
    | some u=>
     rcases hO b with z | ⟨ob,xs,z⟩
     ·rw[q]at z;cases z
     ·have z2:=un.Wo b ob _ z
      B3⟨e1,_⟩:=hok b _ z
      B3⟨e2,_⟩:=hok' b _ z2
      rw[e]at e1;cases e1
      ~e2
 cases hk:K.lookup a with
 | some o=>
  have e:=KX a o hk
  rw[ha]at e
  cases e
  &core (fun _=>none) (fun _=>.inl rfl) (.inr ⟨_,vs.toArray,_,hk,rfl,rfl,rfl,by rw[D3,lenV];~hl,by simpa using rv⟩) (fun b u z=>by have z':(none:Option HO)=some u:=z;cases z') (fun b z=>absurd rfl z) fun z=>absurd rfl z
 | none=>
  &core (fun b=>if b=a then some (.yM {cls:=.type "list", data:=.seq vs.toArray} (.lst (ns.map V.int)))else none) (fun b=>?_) (.inl (.inr ⟨{cls:=.type "list", data:=.seq vs.toArray},if_pos rfl⟩)) (fun b u z=>?_) (fun b z=>?_) fun _=>hk
  ·by_cases hb:b=a
   ·~.inr ⟨_,_,if_pos hb⟩
   ·~.inl (if_neg hb)
  ·by_cases hb:b=a
   ·have z':=(if_pos hb).symm.trans z
    cases z'
    subst hb
    ~⟨ha,by rw[B7];~hl,vs,_,rv,ha⟩
   ·have z':=(if_neg hb).symm.trans z
    cases z'
  ·by_cases hb:b=a
   ·~hb
   ·~absurd (if_neg hb) z
end L2
namespace L2
open PySem PySem.Spec PyProof.Rows
end L2
namespace L2
open PySem PySem.Spec PyProof.Rows
def inClass(s:Stmt)(j:Nat):Stmt:=match s with
 | .ClassDef _ _ _ body _ _ _ _ _ _ _=>body.getD j (.Pass ⟨0,0,0,0⟩)
 | _=>.Pass ⟨0,0,0,0⟩
def eQ(s:Stmt):Arguments:=match s with
 | .FunctionDef _ a _ _ _ _ _ _ _ _=>a
 | _=>{posonlyargs:=[],args:=[],vararg:=none,kwonlyargs:=[],kw_defaults:=[],kwarg:=none,defaults:=[]}
def cC(s:Stmt):List Stmt:=match s with
 | .FunctionDef _ _ b _ _ _ _ _ _ _=>b
 | _=>[]
def aL(s:Stmt):Scope:=match s with
 | .FunctionDef _ _ _ _ _ _ sc _ _ _=>sc
 | _=>{kind:=.function,names:=[],isGenerator:=false,isCoroutine:=false}
abbrev CQ:mz:=fun _ _ _ _ _ _=>False
abbrev E0:XK:=fun _ _ _=>False
B5 Uk{X:Cx}:Passes CQ X E0:=fun _ _ _ _ _ _ _ h=>h.elim
structure Fun(K:aF)(x qual:Str)(st:Stmt)(f:Addr)(fd:FuncData):Prop where
 ex:∃(oc:Value)(od:Option Addr)(kV doc pm:Value)(an:Option Addr)(cdv ct:Value)(osl:Array (Option Value)),
  fd=G2 x qual (eQ st) (cC st) (aL st) .none kV doc pm an cdv ct∧K.lookup f=some ⟨oc,od,.func fd,osl⟩∧L4 K cdv qual=true
 kp:K8 K (.ref f)=true
section
variable{P:Program}{w:World}{K:aF}{mg:Str→Option Value}{base:Heap}
B5 Fun.ok{x qual:Str}{st:Stmt}{f:Addr}{fd:FuncData}{N ps:List Str}{k:Nat}{sp:Sp}(F:Fun K x qual st f fd)(S:bA N ps (aL st))(len:∀vs H Q E,sp vs H Q E→vs.length=ps.length)
  (hbody:∀(cdv:Value)(A:Around)(outer:List Env)(s:Shared)(H:Hp)(vs:List V)(Q:VK)(E:XK),jK k (A.deeper (envOfC qual (aL st) s.heap.objs.size f cdv))→sp vs H Q E →
   ∃t,DN (Fd CQ P w K mg base N qual (aL st) f cdv A outer s H E).ZV (cC st) t∧t {nx:=fun _ H'=>Q .non H',rt:=Q} (start N vs) H):yF P w K mg base CQ (k+1) f fd ps sp:=by
 B3⟨oc,od,kV,doc,pm,an,cdv,ct,osl,rfl,lk,hcd⟩:=F.ex
 &zy lk hcd S len fun A outer s H vs Q E hr hsp=>?_
 B3⟨t,h,q⟩:=hbody cdv A outer s H vs Q E hr hsp
 ~⟨t,h.ZV,q⟩
B5 Fun.binds{x qual:Str}{st:Stmt}{f:Addr}{fd:FuncData}{ps:List Str}(F:Fun K x qual st f fd)
  (h:∀(kV doc pm:Value)(an:Option Addr)(cdv ct:Value)(us:List Value),us.length=ps.length→bindArgs (G2 x qual (eQ st) (cC st) (aL st) .none kV doc pm an cdv ct) ⟨us,[]⟩=pure (ps.zip us)):Binds K fd ps []:=by
 B3⟨oc,od,kV,doc,pm,an,cdv,ct,osl,rfl,lk,hcd⟩:=F.ex
 ~.all (h kV doc pm an cdv ct)
B5 aFH{x qual:Str}{st:Stmt}{f:Addr}{oc:Value}{od an:Option Addr}{osl:Array (Option Value)}{kV doc pm cdv ct:Value}(l:K.lookup f=some ⟨oc,od,.func (G2 x qual (eQ st) (cC st) (aL st) .none kV doc pm an cdv ct),osl⟩)
  (c:L4 K cdv qual=true) (k:K8 K (.ref f)=true):Fun K x qual st f (G2 x qual (eQ st) (cC st) (aL st) .none kV doc pm an cdv ct):=⟨⟨oc,od,kV,doc,pm,an,cdv,ct,osl,rfl,l,c⟩,k⟩
end
B5 cY{A:Around}{k:Nat}(hr:jK k A):A.units+1<cLine:=W7 (Nat.add_le_add_left (by decide:1≤64) _) hr.units
B5 rY{n:Nat}(h:n≤1000):n<sizeLine:=W7 h A8
section
variable{X:Cx}
B5 pv(i:Nat){x:Str}{pos:Pos}(hN:X.N[i]?=some x:=by rfl)(hv:Ks X.env.scope x:=by first | ~D7 rfl | ~D6 (D7 rfl) | ~D6 (D6 rfl))(hd:(x==("__debug__" : Str))=false:=by decide)
  (hcd:(x==("__classdict__" : Str))=false:=by decide):PE X (.Name x pos) (pH i):=aE5 hN hv hd hcd
end
def aU(H H':Hp):Prop:=∀b o,H b=some o→H' b=some o
B5 aU.refl(H:Hp):aU H H:=fun _ _ h=>h
B5 aU.trans{H H1 H2:Hp}(a:aU H H1)(b:aU H1 H2):aU H H2:=fun c o h=>b c o (a c o h)
B5 aU.free{H H':Hp}(e:aU H H'){l:Addr}(h:H' l=u6):H l=u6:=by
 cases q:H l with
 | none=>rfl
 | some o=>
  rw[e l o q]at h
  cases h
B5 aU.seq{K:aF}{H H':Hp}{a:Addr}{xs:List V}(e:aU H H')(h:pQ K H a xs):pQ K H' a xs:=by
 rcases h with (h | ⟨o,h⟩) | h
 ·~.inl (.inl (e _ _ h))
 ·~.inl (.inr ⟨o,e _ _ h⟩)
 ·~.inr h
section
variable{κ:Type} [DecidableEq κ]
end
end L2


namespace L2
open PySem PySem.Spec PyProof.Rows
B5 Df(env:Env):∀(names:List (Str×NameKind))(acc:List (Str×Addr)),(∀x∈names,x.2=.free→∃c,env.cells.lookup x.1=some c) →
    ∃cl:List (Str×Addr),(forIn names acc (fun(x:Str×NameKind) (r:List (Str×Addr))=>(match x with
      | (name,kind)=>if(kind==.free)=true then do let c ←cellOf env name;pure (ForInStep.yield ((name,c)::r))else pure (ForInStep.yield r):Sem (ForInStep (List (Str×Addr))))))=pure cl ∧
      (∀x c,cl.lookup x=some c→(∃k,(x,k)∈names∧k=.free∧env.cells.lookup x=some c)∨acc.lookup x=some c) ∧
      (∀x,(x,NameKind.free)∈names→∃c,cl.lookup x=some c)∧(∀x c,acc.lookup x=some c→∃c',cl.lookup x=some c')
  | [],acc,_=>⟨acc,rfl,fun x c h=>.inr h,fun x h=>by simp at h,fun x c h=>⟨c,h⟩⟩
  | (n,k)::r,acc,h=>by
    rw[List.forIn_cons]
    by_cases hk:k=.free
    · subst hk
      B3⟨c,hc⟩:=h (n,.free) C9 rfl
      B3⟨cl,e,h1,h2,h3⟩:=Df env r ((n,c)::acc) fun x hx=>h x (C6 _ hx)
      &⟨cl,?_,fun x d hd=>?_,fun x hx=>?_,fun x d hd=>?_⟩
      · have e0:cellOf env n=pure c:=by B4 cellOf;rw[hc]
        simp only[beq_self_eq_true,if_true,e0,pure_bind]
        ~e
      · rcases h1 x d hd with ⟨k',m,q⟩ | q
        · ~.inl ⟨k',C6 _ m,q⟩
        · rw[U2]at q
          by_cases e:x==n
          · rw[e]at q
            have e':=eq_of_beq e
            subst e'
            cases q
            ~.inl ⟨.free,C9,rfl,hc⟩
          · have e':(x==n)=false:=by simpa using e
            rw[e']at q
            ~.inr q
      · rcases C5.mp hx with q | q
        · cases q
          ~h3 n c (by simp)
        · ~h2 x q
      · by_cases e:x==n
        · ~h3 x c (by rw[U2,e])
        · have e':(x==n)=false:=by simpa using e
          ~h3 x d (by rw[U2,e'];~hd)
    · B3⟨cl,e,h1,h2,h3⟩:=Df env r acc fun x hx=>h x (C6 _ hx)
      have hb:(k==NameKind.free)=false:=by simpa using hk
      &⟨cl,?_,fun x d hd=>?_,fun x hx=>?_,h3⟩
      · simp only[hb,W8,if_false,pure_bind]
        ~e
      · rcases h1 x d hd with ⟨k',m,q⟩ | q
        · ~.inl ⟨k',C6 _ m,q⟩
        · ~.inr q
      · rcases C5.mp hx with q | q
        · cases q
          ~absurd rfl hk
        · ~h2 x q
B5 Cr(scope:Scope)(env:Env)(h:∀x∈scope.names,x.2=.free→∃c,env.cells.lookup x.1=some c) :
    ∃cl,closureFor scope env=pure cl∧(∀x c,cl.lookup x=some c→(x,NameKind.free)∈scope.names∧env.cells.lookup x=some c)∧∀x,(x,NameKind.free)∈scope.names→∃c,cl.lookup x=some c:=by
  B3⟨cl,e,h1,h2,_⟩:=Df env scope.names [] h
  &⟨cl,?_,fun x c hx=>?_,h2⟩
  · B4 closureFor
    ~(congrArg (fun t=>t >>= pure) e).trans (pure_bind _ _)
  · rcases h1 x c hx with ⟨k,m,rfl,q⟩ | q
    · ~⟨m,q⟩
    · simp at q
B5 Xl{scope:Scope}{env:Env}(hcell:∀y∈scope.names,y.2≠.cell){x:Str}(h:(relabel scope env).names.lookup x=some .cell∨(relabel scope env).names.lookup x=some .free):(x,NameKind.free)∈scope.names:=by
 have m:(x,NameKind.cell)∈(relabel scope env).names∨(x,NameKind.free)∈(relabel scope env).names:=by
  rcases h with h | h
  ·~.inl (N5 h)
  ·~.inr (N5 h)
 B4 relabel at m
 rcases m with m | m
 all_goals
  B3⟨⟨n,k⟩,hm,e⟩:=G5.mp m
  dsimp only at e
  split at e
  ·rename_i hc
   simp only[G9,beq_iff_eq]at hc
   cases e
   first
    | (rw[hc.1.1]at hm;~hm)
    | skip
  ·cases e
   first
    | ~hm
    | ~absurd rfl (hcell _ hm)
def lD(X:Cx)(scope:Scope)(N:List Str)(cl:List (Str×Addr))(fp:List Addr)(s:Shared)(H:Hp)(C:Addr):Cx where
 prog:=X.prog
 w:=X.w
 K:=X.K
 mg:=X.mg
 base:=X.base
 A:=X.A
 N:=N
 s₀:=s
 H₀:=H
 env:=compEnvC scope cl C X.env
 outer:=X.stack
 stack:=X.stack
 ex:=fp
 calm:=X.calm
 fn:=fun _=>false
 pn:=[]
 xe:=fun _ _=>False
def TJ(σ:St)(fr:List Nat):St:=fr.map fun i=>σ.getD i none
def blk(k:Nat)(σ:St)(fr:List Nat):St:=E7 k none++TJ σ fr
def Kp(k:Nat)(σ:St)(fr:List Nat)(σ2:St):Prop:=σ2.length=(blk k σ fr).length∧∀(j:Nat) v,(blk k σ fr)[j]?=some (some v)→σ2[j]?=some (some v)
def PTs(X:Cx)(ifs:List Expr)(t:TT):Prop:=
 ∀(pins:List (Addr×Obj))(s:Shared)(σ:St)(H:Hp)(Q:Bool→Hp→Prop),Inv X pins σ H s→t σ H Q →
  wpAny (model X.prog X.w) X.A (forIn ifs true fun c r=>if r=true then do let ok ←isTrue c X.env (eval c X.env);pure (ForInStep.yield ok)else pure (ForInStep.yield r)) (TP X pins σ Q) X.xe s
def aHP:TT:=fun _ H Q=>Q true H
B5 aCQ{X:Cx}:PTs X [] aHP:=fun _ _ _ H _ I h=>wpAny_tests_nil ⟨H,I,h⟩
B5 aCR{X:Cx}{c:Expr}{t:TT}(h:PT X c t):PTs X [c] t:=fun pins s σ H Q I q=>wpAny_tests_one (h pins s σ H Q I q)
B5 Bv{prog:Program}{w:World}{A:Around}{R:Result→Shared→Prop}{s:Shared}{elt target iter:Expr}{ifs:List Expr}{scope:Scope}{pos:Pos}{it acc:Value}{env:Env}(I:Nat→Shared→Prop)
  (turn:∀n s,I n s→wpAny (model prog w) A (pyNext it) (fun r s₁=>match r with
   | none=>R (.ok .next) s₁
   | some v=>wpAny (model prog w) A (letOwnedTupleGo target it v) (fun _ s₀=>wpAny (model prog w) A (assign target env v) (fun _ s₂=>
     wpAny (model prog w) A (forIn ifs true fun c r=>if r=true then do let ok ←isTrue c env (eval c env);pure (ForInStep.yield ok)else pure (ForInStep.yield r)) (fun ok s₃=>
      if ok=true then wpAny (model prog w) A (eval elt env) (fun x s₄=>
       wpAny (model prog w) A (call (.builtin "list.append") [acc,x]) (fun _ s₅=>∃m,m<n∧I m s₅) (fun _ _=>False) s₄) (fun _ _=>False) s₃
      else ∃m,m<n∧I m s₃) (fun _ _=>False) s₂) (fun _ _=>False) s₀) (fun _ _=>False) s₁) (fun _ _=>False) s)
  (n:Nat) (h:I n s) :
  codeAny (model prog w) A (.compLoop (.ListComp elt [⟨target,iter,ifs,0⟩] scope pos) 0 it acc env) R s:=by
 &codeAny_loop rfl I (fun n s hI=>?_) n h
 show wpAny _ A ((compTurn (.ListComp elt [⟨target,iter,ifs,0⟩] scope pos) 0 it acc env).onRaise (fun x=>do noteFrame x env;theTreesLotGoes x)) _ _ s
 &wpAny_noted ?_
 rw[compTurn_list]
 &wpAny_mono (E:=fun _ _=>False) ?_ (fun _ _ q=>q) fun _ _ x=>x.elim
 &wpAny_bind (wpAny_standAt (wpAny_bind (wpAny_mono (turn n s hI) (fun r s₁ h₁=>?_) fun _ _ h'=>h')))
 cases r with
 | none=>~wpAny_pure h₁
 | some v=>
  &wpAny_bind (wpAny_mono h₁ (fun _ s₀ h₀=>?_) fun _ _ h'=>h')
  &wpAny_bind (wpAny_mono h₀ (fun _ s₂ h₂=>wpAny_bind (wpAny_mono h₂ (fun ok s₃ h₃=>?_) fun _ _ h'=>h')) fun _ _ h'=>h')
  cases ok with
  | false=>~wpAny_pure ⟨rfl,h₃⟩
  | true=>
   ~wpAny_bind (wpAny_bind (wpAny_mono h₃ (fun x s₄ h₄=>wpAny_bind (wpAny_mono h₄ (fun _ s₅ h₅=>wpAny_pure (wpAny_pure ⟨rfl,h₅⟩)) fun _ _ h'=>h')) fun _ _ h'=>h'))
def aEk(J:It)(k:Nat)(fr:List Nat)(g:TG)(tc:TT)(te:TE)(σ:St)(H1:Hp)(Q:VK)(D:Addr):Prop:=∃W:Nat→Nat→List V→Hp→Prop,(∃m,W 0 m [] (upd H1 D (.lst []))) ∧
 ∀i m ys H,W i m ys H→H D=some (.lst ys)∧((J.stop i H∧Q (.ref D) H)∨(J.go i H∧∀x H',J.yld i H x H'→g x (blk k σ fr) H' fun σ2 H2=>Kp k σ fr σ2∧tc σ2 H2 fun ok H3=>if ok=true then
  te σ2 H3 fun y H4=>H4 D=some (.lst ys)∧ys.length<sizeLine∧∃m',m'<m∧W (i+1) m' (ys++[y]) (upd H4 D (.lst (ys++[y])))else ∃m',m'<m∧W (i+1) m' ys H3))
def FW(wi:TI)(k:Nat)(fr:List Nat)(g:TG)(tc:TT)(te:TE):TE:=fun σ H Q=>wi σ H fun J H1=>∀D,H1 D=none→aEk J k fr g tc te σ H1 Q D
def vD(scope CT:Scope):Scope:=
 {scope with names:=scope.names.map fun(n,k)=>if(k==.free&&CT.kind==.function&&CT.names.lookup n==some .cell)then(n,.cell)else(n,k)}
structure kI(CT scope:Scope)(oN N:List Str)(k:Nat)(fr:List Nat):Prop where
 kind:scope.kind=.function
 cell:∀y∈scope.names,y.2≠.cell
 loc:∀y∈scope.names,y.2=.local→scope.names.lookup y.1=some .local
 free:∀y∈scope.names,y.2=.free→CT.names.lookup y.1=some .cell∨CT.names.lookup y.1=some .free
 len:N.length=k+fr.length
 slots:∀j∈D2 fr.length,oN[fr.getD j 0]?=N[k+j]?
 from_:∀x∈N.drop k,(x,NameKind.free)∈scope.names∧((vD scope CT).names.lookup x=some .cell∨(vD scope CT).names.lookup x=some .free)
def az(CT scope:Scope)(oN N:List Str)(k:Nat)(fr:List Nat):Bool:=
 decide (scope.kind=.function)&&decide (∀y∈scope.names,y.2≠.cell)&&decide (∀y∈scope.names,y.2=.local→scope.names.lookup y.1=some .local) &&
 decide (∀y∈scope.names,y.2=.free→CT.names.lookup y.1=some .cell∨CT.names.lookup y.1=some .free)&&decide (N.length=k+fr.length) &&
 decide (∀j∈D2 fr.length,oN[fr.getD j 0]?=N[k+j]?) &&
 decide (∀x∈N.drop k,(x,NameKind.free)∈scope.names∧((vD scope CT).names.lookup x=some .cell∨(vD scope CT).names.lookup x=some .free))
B5 kI.of{CT scope:Scope}{oN N:List Str}{k:Nat}{fr:List Nat}(h:az CT scope oN N k fr=true):kI CT scope oN N k fr:=by
 B4 az at h
 simp only[G9,decide_eq_true_eq]at h
 B3⟨⟨⟨⟨⟨⟨h1,h2⟩,h3⟩,h4⟩,h5⟩,h6⟩,h7⟩:=h
 ~⟨h1,h2,h3,h4,h5,h6,h7⟩
section
variable{X:Cx}
B5 aCS{k:Nat}{σ:St}{fr:List Nat}{i:Nat}{v:V}(h:(blk k σ fr)[i]?=some (some v)):∃j o,i=k+j∧fr[j]?=some o∧σ[o]?=some (some v):=by
 B4 blk at h
 by_cases hi:i<k
 ·rw[G3 (by simpa using hi),Q6]at h
  rw[if_pos hi]at h
  cases h
 ·rw[M0 (by simpa using hi),R0]at h
  B4 TJ at h
  rw[C4]at h
  cases e:fr[i-k]? with
  | none=>rw[e]at h;cases h
  | some o=>
   rw[e]at h
   &⟨i-k,o,by omega,e,?_⟩
   have h:some (σ.getD o none)=some (some v):=h
   have h:=F1 h
   rw[B8]at h
   cases e2:σ[o]? with
   | none=>rw[e2]at h;cases h
   | some z=>rw[e2]at h;~congrArg some h
B5 TQ{pins:List (Addr×Obj)}{σ:St}{H:Hp}{s:Shared}{scope:Scope}{N:List Str}{k:Nat}{fr:List Nat}{cl:List (Str×Addr)}{fp:List Addr}{h₁:Heap}{tk:Nat}{m:Str→Option Value}
    (I:Inv X pins σ H s) (B:kI X.env.scope scope X.N N k fr) (hf:∀b∈fp,Wx X pins H b) (hfo:∀b∈fp,b<s.heap.objs.size)
    (hcl:∀x c,cl.lookup x=some c→(x,NameKind.free)∈scope.names∧X.env.cells.lookup x=some c) (aCT:∀x,(x,NameKind.free)∈scope.names→∃c,cl.lookup x=some c)
    (hn:h₁.Ns (s.heap.objs.size+1) m) (hs:Heap.SameBut (s.heap.objs.size+1) ((s.heap.push {cls:=.type "list", data:=.seq ([]:List Value).toArray}).push {cls:=.type "dict", data:=.dict #[]}) h₁) :
    Inv (lD X scope N cl fp s H (s.heap.objs.size+1)) [] (blk k σ fr) (upd H s.heap.objs.size (.lst [])) {s with heap:=h₁,toks:=tk}:=by
  have I3:=I.aHK (ys:=[]) (its:=[]) (t':=tk) .nil (M3 _)
  have hD:H s.heap.objs.size=none:=I.fresh
  have hC:H (s.heap.objs.size+1)=none:=I.hok.fresh (L9 _)
  have neC:∀b o,(s.heap.push {cls:=.type "list", data:=.seq ([]:List Value).toArray}).get? b=some o→b≠s.heap.objs.size+1:=fun b o e=>by
    have:=Heap.lt_size e
    rw[Heap.size_push]at this
    ~E9 this
  have aEm:∀b o,(s.heap.push {cls:=.type "list", data:=.seq ([]:List Value).toArray}).get? b=some o→h₁.get? b=some o:=fun b o e=>
    hs.extBut b o (neC b o e) (Heap.get?_push_of_some _ e)
  have kept:∀b o,s.heap.get? b=some o→h₁.get? b=some o:=fun b o e=>aEm b o (Heap.get?_push_of_some _ e)
  &⟨⟨I.ok.mod,B.kind,I.ok.glob,I.ok.blt,L9 _,fun x y c h1 h2=>I.ok.inj x y c (hcl x c h1).2 (hcl y c h2).2,fun x hx=>aCT x (Xl B.cell hx),fun x c h _=>(nomatch h),
      I.ok.hd,I.ok.frames,.inl rfl,fun b hb=>⟨?_,fun x c e=>(hf b hb).2.2.2.2.1 x c (hcl x c e).2⟩,fun b o e=>I.bs b o e,G1 I.ok.bsz I.sz,fun b o e hb=>?_,fun b hb hb2=>?_,I.stack,I.ZQ⟩,
    rfl,I.bare,Un.laid kept (D1 _) hD,⟨m,hn,fun i x v h1 h2 h3=>?_⟩,fun x c e=>?_,?_,fun x c e=>?_,fun p hp=>absurd (show p∈([]:List (Addr×Obj))from hp) (by simp),?_,?_⟩
  · ~E9 (N2 (hfo b hb))
  · rcases(hf b hb).2.2.2.1 with z | z
    · ~I.ok.yc b o e z
    · ~absurd (E5 (Heap.lt_size e) (G1 I.ok.bsz z)) (L7 _)
  · rcases C5.mp (I.Wr b hb2)with z | z
    · ~(hf b hb).2.1 z
    · ~(hf b hb).2.2.1 z
  · B3⟨j,o,rfl,h4,h5⟩:=aCS h2
    have h1:N[k+j]?=some x:=h1
    have hj:j<fr.length:=(D4.mp h4).1
    have hx:X.N[o]?=some x:=by
      have q:=B.slots j (F5.mpr hj)
      rw[B8,h4]at q
      ~q.trans h1
    B3⟨hfr,hre⟩:=B.from_ x (E4 (i:=j) (by rw[W9];~h1))
    have hk:=B.free _ hfr rfl
    B3⟨m0,hn0,hl0⟩:=I.loc
    have hv:Ks X.env.scope x:=by
      rcases hk with q | q
      · ~.inr (.inl q)
      · ~.inr (.inr q)
    B3⟨u,r,l⟩:=hl0 o x v hx h5 hv
    &⟨u,r,.inr ?_⟩
    rcases l with ⟨q,_⟩ | ⟨_,c,e,z⟩
    · rcases hk with q' | q'
      · ~absurd (q.symm.trans q') (by intro z;cases z)
      · ~absurd (q.symm.trans q') (by intro z;cases z)
    · B3⟨c',e'⟩:=aCT x hfr
      have e2:=(hcl x c' e').2
      rw[e]at e2
      cases e2
      &⟨hre,c,e',?_⟩
      B3⟨oc,hoc,hd⟩:=z
      ~⟨oc,kept c oc hoc,hd⟩
  · B3⟨v,oc,hoc,hd⟩:=I.cell x c (hcl x c e).2
    ~⟨v,oc,kept c oc hoc,hd⟩
  · show upd H s.heap.objs.size (.lst []) (s.heap.objs.size+1)=none
    rw[bN (P8 (M7 _))]
    ~hC
  · have hc:=(hcl x c e).2
    B3⟨v,oc,hoc,hd⟩:=I.cell x c hc
    show upd H s.heap.objs.size (.lst []) c=none
    rw[bN (E9 (Heap.lt_size hoc))]
    ~I.xQ x c hc
  · ~Cq.kept I3.hok aEm
  · show (blk k σ fr).length=N.length
    rw[B.len]
    B4 blk TJ
    simp
B5 FZ{tg elt iter:Expr}{ifs:List Expr}{scope:Scope}{pos:Pos}{N:List Str}{k:Nat}{fr:List Nat}{g:TG}{tc:TT}{te:TE}{cl:List (Str×Addr)}{pins:List (Addr×Obj)}{σ:St}{H:Hp}{s:Shared}{it:Addr}{fp:List Addr}{tn:Nat→Heap→Prop}{J:It}{Q:VK}
    {RR:Value→Addr→Result→Shared→Prop} {E:Value→Shared→Prop} (hcalm:X.calm=true) (I:Inv X pins σ H s) (T:Turn X.prog X.w X.K tg J fp it tn) (st:tn 0 s.heap) (hf:∀b∈fp,Wx X pins H b) (B:kI X.env.scope scope X.N N k fr)
    (hcl:∀x c,cl.lookup x=some c→(x,NameKind.free)∈scope.names∧X.env.cells.lookup x=some c) (aCT:∀x,(x,NameKind.free)∈scope.names→∃c,cl.lookup x=some c)
    (hg:∀cl fp s H C,PG (lD X scope N cl fp s H C) tg g) (hc:∀cl fp s H C,PTs (lD X scope N cl fp s H C) ifs tc) (he:∀cl fp s H C,PE (lD X scope N cl fp s H C) elt te)
    (hw:∀D,H D=none→aEk J k fr g tc te σ H Q D)
    (hRR:∀D C m s' H',s'.heap.Ns C m→s.heap.objs.size≤C→H' C=none→C≠D→Inv X pins σ H' s'→Q (.ref D) H'→RR (.ref D) C (.ok .next) s') :
    wpAny (model X.prog X.w) X.A (newList []) (fun acc s₃=>wpAny (model X.prog X.w) X.A (newFunctionEnv scope X.env.globals cl [] X.env.qual none .none (some X.env)) (fun cenv s₄=>
      codeAny (model X.prog X.w) X.A (.compStart (.ListComp elt [⟨tg,iter,ifs,0⟩] scope pos) 0 (.ref it) acc {cenv with scope:=relabel scope X.env}) (RR acc cenv.locals) s₄) E s₃) E s:=by
  &wpAny_newObj_type (wpAny_newFunctionEnv B.cell (by intro y hy;simp at hy) (fun h₁ hns₁ hsb₁=>?_) B.kind)
  dsimp only at hns₁ hsb₁ ⊢
  rw[Heap.size_push]at hns₁ hsb₁ ⊢
  have hfo:∀b∈fp,b<s.heap.objs.size:=fun b hb=>by
    B3⟨o,e,_⟩:=T.obj 0 _ st b hb
    ~Heap.lt_size e
  have I4:=TQ (tk:=s.toks+([]:List (Str×Value)).length) I B hf hfo hcl aCT hns₁ hsb₁
  generalize hD:s.heap.objs.size=D at *
  have hDn:H D=none:=by rw[←hD];~I.fresh
  B3⟨W,⟨m0,w0⟩,turn⟩:=hw D hDn
  have st1:tn 0 h₁:=T.keep 0 _ _ st fun b hb o e=>hsb₁.extBut b o (E9 (N2 (by have:=hfo b hb;~this))) (Heap.get?_push_of_some _ (Heap.get?_push_of_some _ e))
  have fr0:∀b∈fp,(upd H D (.lst [])) b=none:=fun b hb=>by
    rw[bN (E9 (hfo b hb))]
    ~(hf b hb).1
  generalize hX':lD X scope N cl fp s H (D+1)=X' at I4
  have stat:∀{H':Hp},(∀b∈fp,H' b=none)→∀b∈fp,Wx X' [] H' b:=fun{H'} hn b hb=>by
    subst hX'
    &⟨hn b hb,?_,fun z=>?_,.inl hb,fun x c e=>(hf b hb).2.2.2.2.1 x c (hcl x c e).2,fun p hp=>absurd (show p∈([]:List (Addr×Obj))from hp) (by simp)⟩
    · ~E9 (N2 (hfo b hb))
    · rcases C5.mp (I.Wr b z)with z | z
      · ~(hf b hb).2.1 z
      · ~(hf b hb).2.2.1 z
  have loop:∀s₃:Shared,s₃={s with heap:=h₁,toks:=s.toks+([]:List (Str×Value)).length} →
      codeAny (model X.prog X.w) X.A (.compLoop (.ListComp elt [⟨tg,iter,ifs,0⟩] scope pos) 0 (.ref it) (.ref D) (compEnvC scope cl (D+1) X.env)) (RR (.ref D) (D+1)) s₃:=by
    rintro s₃ rfl
    &Bv (fun n s'=>∃i ys H',Inv X' [] (blk k σ fr) H' s'∧tn i s'.heap∧(∀b∈fp,H' b=none)∧W i n ys H') ?_ m0 ⟨0,[],_,I4,st1,fr0,w0⟩
    rintro n s5 ⟨i,ys,H5,I5,st5,fr5,w5⟩
    B3⟨hys,way⟩:=turn i n ys H5 w5
    have e1:X'.prog=X.prog:=by rw[←hX'];rfl
    have e2:X'.w=X.w:=by rw[←hX'];rfl
    have e3:X'.K=X.K:=by rw[←hX'];rfl
    have e4:X'.A=X.A:=by rw[←hX'];rfl
    have e5:X'.calm=true:=by rw[←hX'];~hcalm
    have e6:X'.env=compEnvC scope cl (D+1) X.env:=by rw[←hX'];rfl
    have e7:X'.xe=fun _ _=>False:=by rw[←hX'];rfl
    rcases way with ⟨stop,q⟩ | ⟨go,step⟩
    · have d:=T.done X' e1 e2 e3 e5 i [] s5 _ H5 (fun _ _=>False) I5 (stat fr5) st5 stop
      rw[e4]at d
      &iM d fun r s6 ⟨hr,I6⟩=>?_
      subst hr
      subst hX'
      B3⟨m6,hn6,_⟩:=I6.loc
      &hRR D (D+1) m6 s6 H5 hn6 (L9 _) I6.free (P8 (M7 _)) ?_ q
      ~I.call' I6.os I6.base I6.hok I6.bare fun b hb=>⟨(hf b hb).2.2.2.1,(hf b hb).2.1,(hf b hb).2.2.2.2.1,(hf b hb).2.2.2.2.2⟩
    · have d:=T.item X' e1 e2 e3 e5 i [] s5 _ H5 (fun _ _=>False) I5 (stat fr5) st5 go
      rw[e4]at d
      &iM d fun r s6 ⟨u,hr,h6⟩=>?_
      subst hr
      &iM h6 fun _ s7 ⟨x,H7,I7,r7,y7,st7,fr7⟩=>?_
      have I7':=I7.pinned (stat fr7) (T.obj _ _ st7)
      have hg':PG X' tg g:=by rw[←hX'];~hg _ _ _ _ _
      have hc':PTs X' ifs tc:=by rw[←hX'];~hc _ _ _ _ _
      have he':PE X' elt te:=by rw[←hX'];~he _ _ _ _ _
      have a1:=hg' _ s7 _ H7 x u _ I7' r7 (step x H7 y7)
      rw[e1,e2,e4,e6,e7]at a1
      &iM a1 fun _ s8 ⟨σ8,H8,I8,⟨kl,kk⟩,q8⟩=>?_
      have a2:=hc' _ s8 σ8 H8 _ I8 q8
      rw[e1,e2,e4,e6,e7]at a2
      &iM a2 fun ok s9 ⟨H9,I9,q9⟩=>?_
      have again:∀{Ha:Hp} {ya:List V} {sa:Shared},Inv X' ([]++Mw fp s7.heap) σ8 Ha sa→(∃m',m'<n∧W (i+1) m' ya Ha) →
          ∃m,m<n∧∃i ys H',Inv X' [] (blk k σ fr) H' sa∧tn i sa.heap∧(∀b∈fp,H' b=none)∧W i m ys H':=fun{Ha ya sa} Ia ⟨m',hm,w'⟩=>by
        &⟨m',hm,i+1,ya,Ha,(Ia.weak kl.symm kk).Fb,T.keep _ _ _ st7 fun b hb o e=>(Ia.pin (b,o) (F0 _ (F0 _ (wG hb e)))).1,fun b hb=>?_,w'⟩
        B3⟨o,e,d⟩:=T.obj _ _ st7 b hb
        ~(Ia.pin (b,o) (F0 _ (F0 _ (wG hb e)))).2.1
      cases ok with
      | false=>~again I9 q9
      | true=>
        have a3:=he' _ s9 σ8 H9 _ I9 q9
        rw[e1,e2,e4,e6,e7]at a3
        show wpAny _ _ _ _ _ s9
        &iM a3 fun v s10 ⟨y,H10,I10,r10,hD10,hz,q10⟩=>?_
        have a4:=kW (X:=X') _ s10 σ8 H10 (.ref D) [y] (.ref D) [v] (fun _ H11=>H11=upd H10 D (.lst (ys++[y]))) I10 rfl (.cons r10 .nil) ⟨D,ys,y,rfl,rfl,hD10,hz,rfl⟩
        rw[e1,e2,e4,e7]at a4
        &iM a4 fun _ s11 ⟨_,H11,I11,_,e11⟩=>?_
        subst e11
        ~again I11 q10
  ~codeAny_compStart_list (loop _ rfl) (T.self _ 0 _ _ _ st1 (loop _ rfl))
B5 aCU{tg elt iter:Expr}{ifs:List Expr}{scope:Scope}{pos:Pos}{wi:TI}{g:TG}{tc:TT}{te:TE}(N:List Str)(k:Nat)(fr:List Nat)(hcalm:X.calm=true)(B:kI X.env.scope scope X.N N k fr)(hi:PI X tg iter wi)
  (hg:∀cl fp s H C,PG (lD X scope N cl fp s H C) tg g) (hc:∀cl fp s H C,PTs (lD X scope N cl fp s H C) ifs tc) (he:∀cl fp s H C,PE (lD X scope N cl fp s H C) elt te)
  (hs:∀x,foldedSetIterable iter X.env x=pure x:=by intro _;rfl):PE X (.ListComp elt [⟨tg,iter,ifs,0⟩] scope pos) (FW wi k fr g tc te):=by
 intro pins s σ H Q I h
 B3⟨cl,e,h1,h2⟩:=Cr scope X.env fun y hy hk=>I.ok.has y.1 (B.free y hy hk)
 rw[eval_ListComp]
 &wpAny_comprehension_free (use:=none) rfl hs e B.kind B.loc (wpAny_mono (hi pins s σ H _ I h) (fun xv s₁ q₁=>wpAny_mono q₁ (fun itv s₂ q₂=>?_) fun _ _ x=>x) fun _ _ x=>x)
 B3⟨it,fp,tn,J,H2,rfl,I2,T,st2,f2,hw⟩:=q₂
 &FZ (Q:=Q) (RR:=fun acc C=>compPost (model X.prog X.w) X.A X.xe none (EP X pins σ Q) acc C) hcalm I2 T st2 f2 B h1 h2 hg hc he hw ?_
 intro D C m s' H' hn hC hf hne I' q
 &⟨m,hn,fun h' hs'=>⟨.ref D,H',?_,rfl,q⟩⟩
 ~I'.turned (t':=s'.toks) (fun b o hb eb=>(hs'.2 b hb).trans eb) hf (P8 (E5 I2.lt hC)) (.inr (G1 I2.sz hC)) (fun x c ec z=>by
  B3⟨v,q⟩:=I2.cell x c ec
  ~absurd (E5 q.lt (by rw[z];~hC)) (L7 _)) fun p hp z=>absurd (E5 (Heap.lt_size (I2.pin p hp).1) (by rw[z];~hC)) (L7 _)
B5 aCV{tg elt iter:Expr}{ifs:List Expr}{scope:Scope}{pos spos py:Pos}{y:Str}{i:Nat}{wi:TI}{g:TG}{tc:TT}{te:TE}(N:List Str)(k:Nat)(fr:List Nat)(hcalm:X.calm=true)(B:kI X.env.scope scope X.N N k fr)(hN:X.N.Nodup)(hy:X.N[i]?=some y)(hx:Loc X.env.scope y)(hi:PI X tg iter wi)
  (hg:∀cl fp s H C,PG (lD X scope N cl fp s H C) tg g) (hc:∀cl fp s H C,PTs (lD X scope N cl fp s H C) ifs tc) (he:∀cl fp s H C,PE (lD X scope N cl fp s H C) elt te)
  (hsw:swapsWith (.ListComp elt [⟨tg,iter,ifs,0⟩] scope pos) (some (.Name y py)) spos.line X.env=pure true:=by rfl)
  (hs:∀x,foldedSetIterable iter X.env x=pure x:=by intro _;rfl) (hf:X.fn y=true∨X.env.scope.names.lookup y=some .local:=by first | ~.inl rfl | ~.inr rfl | assumption) :
  PS X (.Assign [.Name y py] (.ListComp elt [⟨tg,iter,ifs,0⟩] scope pos) spos) (wF (FW wi k fr g tc te) (jR i)):=by
 intro pins s σ H D I h
 B3⟨cl,e,h1,h2⟩:=Cr scope X.env fun y hy hk=>I.ok.has y.1 (B.free y hy hk)
 rw[exec_Assign_Name_used _ _ _ _ hsw]
 &wpAny_bind (wpAny_standAt (wpAny_bind ?_))
 show wpAny _ X.A (do let _ ←comprehension (.ListComp elt [⟨tg,iter,ifs,0⟩] scope pos) scope X.env _ (newList []) false (eval iter X.env) (some (assign (.Name y py) X.env))) _ _ s
 &wpAny_bind (wpAny_mono (wpAny_comprehension_free (use:=some (assign (.Name y py) X.env)) (Q:=fun _ s'=>SP X pins D .next s') rfl hs e B.kind B.loc
  (wpAny_mono (hi pins s σ H _ I h) (fun xv s₁ q₁=>wpAny_mono q₁ (fun itv s₂ q₂=>?_) fun _ _ x=>x) fun _ _ x=>x)) (fun _ s' hq=>wpAny_pure (wpAny_pure hq)) fun _ _ x=>x)
 B3⟨it,fp,tn,J,H2,rfl,I2,T,st2,f2,hw⟩:=q₂
 &FZ (Q:=fun x H1=>jR i x σ H1 D.nx) (RR:=fun acc C=>compPost (model X.prog X.w) X.A X.xe (some (assign (.Name y py) X.env)) (fun _ s'=>SP X pins D .next s') acc C) hcalm I2 T st2 f2 B h1 h2 hg hc he hw ?_
 intro E C m s' H' hn hC hfr hne I' q
 show wpAny _ X.A (assign (.Name y py) X.env (.ref E)) _ _ _
 have cne:∀x c,X.env.cells.lookup x=some c→c≠C:=fun x c ec z=>by
  B3⟨v,q⟩:=I2.cell x c ec
  ~absurd (E5 q.lt (by rw[z];~hC)) (L7 _)
 &wpAny_assign_Name (Tu I' hN hy hx (show RelV (.ref E) (.ref E)from rfl) (fun s6 I6 ⟨a,hsb,ha⟩=>?_) hf)
 have neA:C≠a:=by
  rcases ha with z | z
  ·rw[z];~P8 (E5 I2.lt hC)
  ·~fun q=>cne _ _ z q.symm
 &⟨m,hn.sameBut hsb neA,fun h'' hs''=>⟨_,H',?_,q⟩⟩
 ~I6.turned (t':=s6.toks) (fun b o hb eb=>(hs''.2 b hb).trans eb) hfr (P8 (E5 I2.lt hC)) (.inr (G1 I2.sz hC)) cne
  fun p hp z=>absurd (E5 (Heap.lt_size (I2.pin p hp).1) (by rw[z];~hC)) (L7 _)
end
end L2


set_option maxHeartbeats 4000000
namespace L2
open PySem PySem.Spec PyProof.Rows
def JIs(J:It)(P:Hp→Prop)(xs:List V):Prop:=
 ∀i H,P H→(i<xs.length→J.go i H)∧(∀x H',J.yld i H x H'→H'=H∧(i<xs.length→xs[i]?=some x))∧(xs.length≤i→J.stop i H)
B5 GC{K:aF}{a:Addr}{xs:List V}:JIs (Itl K a) (fun H=>pQ K H a xs) xs:=fun i H hq=>
 ⟨fun h=>⟨xs,xs[i],hq,by simp[h]⟩,fun x H' ⟨e,y⟩=>⟨e,fun _=>y xs hq⟩,fun h=>⟨xs,hq,h⟩⟩
B5 aCW{K:aF}{a:Addr}{xs:List V}:JIs (Itt K a) (fun H=>xR K H a xs) xs:=fun i H hq=>
 ⟨fun h=>⟨xs,xs[i],hq,by simp[h]⟩,fun x H' ⟨e,y⟩=>⟨e,fun _=>y xs hq⟩,fun h=>⟨xs,hq,h⟩⟩
B5 Hz{lo:Int}{n:Nat}:JIs (Itr lo n) (fun _=>True) ((D2 n).map fun i:Nat=>V.int (lo+(i:Int))):=fun i H _=>
 ⟨fun h=>show i<n by simpa using h,fun x H' ⟨e,y⟩=>⟨e,fun h=>by
  have h:i<n:=by simpa using h
  subst y
  simp[h]⟩,fun h=>show n≤i by simpa using h⟩
section
variable{X:Cx}
B5 lW{scope:Scope}{N:List Str}{x:Str}{pos:Pos}(hN:N.Nodup)(hi:N[0]?=some x)(hx:(vD scope X.env.scope).names.lookup x=some .local) :
  ∀cl fp s H C,PG (lD X scope N cl fp s H C) (.Name x pos) (jR 0):=fun _ _ _ _ _=>fW hN hi (D7 hx) (D6 hx)
B5 aCX{P:Program}{w:World}{k:Key}{v:Value}(h:(iB P w).is k v=true):RelV (kV k) v:=by
 rcases gK (k:=k) (v:=v) h with ⟨i,t,rfl,rfl⟩ | ⟨x,t,rfl,rfl⟩
 ·~⟨t,rfl⟩
 ·~⟨t,rfl⟩
B5 Ln{J:It}{P:Hp→Prop}{xs:List V}(hJ:JIs J P xs){g:TG}{tb:TS}{D:Ends}{σ:St}{H:Hp}(Pv:Nat→St→Hp→Prop)(h0:Pv 0 σ H)(hl:∀i σ H,i≤xs.length→Pv i σ H→P H)
  (hs:∀i x σ H,xs[i]?=some x→Pv i σ H→g x σ H fun σ2 H2=>tb {D with nx:=Pv (i+1),ct:=Pv (i+1),bk:=D.nx} σ2 H2) (hd:∀σ H,Pv xs.length σ H→D.nx σ H) :
  ∃W:Nat→Nat→St→Hp→Prop,(∃m,W 0 m σ H)∧∀i m σ H,W i m σ H →
   (J.stop i H∧D.nx σ H)∨(J.go i H∧∃N:St→Hp→Prop,(∀σ' H',N σ' H'→∃m',m'<m∧W (i+1) m' σ' H')∧∀x H',J.yld i H x H'→g x σ H' fun σ2 H2=>tb {D with nx:=N,ct:=N,bk:=D.nx} σ2 H2):=by
 &⟨fun i m σ H=>m=xs.length-i∧i≤xs.length∧Pv i σ H,⟨xs.length,by simp,M3 _,h0⟩,?_⟩
 rintro i m σ H ⟨rfl,hi,p⟩
 B3⟨j1,j2,j3⟩:=hJ i H (hl i σ H hi p)
 by_cases hlt:i<xs.length
 ·&.inr ⟨j1 hlt,Pv (i+1),fun σ' H' p'=>⟨xs.length-(i+1),by omega,rfl,hlt,p'⟩,fun x H' y=>?_⟩
  B3⟨e,ex⟩:=j2 x H' y
  subst e
  ~hs i x σ _ (ex hlt) p
 ·have e:i=xs.length:=by omega
  subst e
  ~.inl ⟨j3 (D1 _),hd σ H p⟩
end
end L2


namespace L2
open PySem PySem.Spec PyProof.Rows
section
variable{X:Cx}
B5 Jz:∀{bs:List Bool} {us:List Value},Vals (bs.map V.bl) us→us=bs.map Value.bool
 | [],us,r=>by rw[L3]at r;cases r;rfl
 | b::bs,us,r=>by
  rw[D5]at r
  cases r with
  | cons r1 r2=>
   cases(show _=Value.bool b from r1)
   rw[Jz r2]
   rfl
B5 TV(bs:List Bool):((D2 bs.length).all fun i=>(bs[i]?).getD true)=bs.all id:=by
 rw[N3,M8,M8]
 constructor
 ·intro h b hb
  B3⟨i,hi,rfl⟩:=J1 hb
  have:=h i (F5.mpr hi)
  simpa[hi]using this
 ·intro h i hi
  have hi':=F5.mp hi
  simp only[B6 hi',U3]
  ~h _ (N7 hi')
B5 bc{s:Shared}{h':Heap}{o:Obj}(hk:∀b x,b∉[s.heap.objs.size]→(s.heap.push o).get? b=some x→h'.get? b=some x):∀b x,s.heap.get? b=some x→h'.get? b=some x:=
 fun b x e=>hk b x (fun hm=>by rw[D9.mp hm]at e;~L7 _ (Heap.lt_size e)) (Heap.get?_push_of_some _ e)
B5 aAl(hc:X.calm=true):mZ X (.builtin "all") (fun xs H Q=>∃(p:Addr)(bs:List Bool),xs=[.ref p]∧pQ X.K H p (bs.map V.bl)∧Q (.bl (bs.all id)) H):=by
 intro pins s σ H xs us Q I r h
 B3⟨p,bs,rfl,hq,q⟩:=h
 B3⟨u,rfl,rx⟩:=vals1 r
 cases rx
 B3⟨its,rv,pl,hz⟩:=I.list hq
 have hb:=Jz rv
 subst hb
 have hl:=pl.isList
 have hlt:p<s.heap.objs.size:=by B3⟨_,e,_⟩:=hl;~Heap.lt_size e
 &call_all_walk (wpAny_pyIter_list hl ?_)
 &⟨s.heap.objs.size,[s.heap.objs.size,p],[s.heap.objs.size],_,_,_,fun i=>(bs[i]?).getD true,rfl,Walks.list (A:=X.A.in1) (I.ok.hd hc) _ p (E9 hlt) _,
  ⟨⟨_,Heap.get?_push_size _ rfl,rfl,rfl⟩,hl.push _⟩,fun i v s' Q' E' hP hQ=>?_,fun h' tk hk=>?_⟩
 ·have e:(bs.map Value.bool)[i]?=some v:=by simpa using hP
  rw[C4]at e
  cases e2:bs[i]? with
  | none=>rw[e2]at e;cases e
  | some b=>
   rw[e2]at e
   cases e
   simp only[e2,U3]at hQ
   ~wpAny_truthy_bool hQ
 ·have e:((D2 (bs.map Value.bool).toArray.size).all fun i=>(bs[i]?).getD true)=bs.all id:=by
   rw[D3,B7];~TV bs
  rw[e]
  ~⟨.bl _,H,I.kept (bc hk),rfl,q⟩
B5 qd{P:Program}{w:World}{kvs:List (Key×V)}{vs:List (Key×Value)}(rel:KV kvs vs){us:List Value}(hl:us.length=vs.length)(hv:∀(j:Nat)(v:Value),us[j]?=some v→∃k x,vs[j]?=some (k,x)∧(iB P w).is k v=true) :
  Vals (kvs.map fun kv=>kV kv.1) us:=by
 have ek:=KV.keys rel
 have e0:(kvs.map fun kv=>kV kv.1)=(vs.map (·.1)).map kV:=by rw[←ek,K4];rfl
 rw[e0]
 clear e0 ek rel
 induction vs generalizing us with
 | nil=>
  cases us with
  | nil=>~.nil
  | cons _ _=>simp at hl
 | cons p r ih=>
  cases us with
  | nil=>simp at hl
  | cons u us=>
   &.cons ?_ (ih (by simpa using hl) fun j v e=>by simpa using hv (j+1) v (by simpa using e))
   B3⟨k,x,e,h⟩:=hv 0 u rfl
   simp at e
   subst e
   ~aCX h
B5 yR(hc:X.calm=true):mZ X (.type "list") (fun xs H Q=>∃p kvs,xs=[.ref p]∧Rd H p (.dK kvs)∧∀l,H l=none→Q (.ref l) (upd H l (.lst (kvs.map fun kv=>kV kv.1)))):=by
 intro pins s σ H xs us Q I r h
 B3⟨p,kvs,rfl,hq,q⟩:=h
 B3⟨u,rfl,rx⟩:=vals1 r
 cases rx
 B3⟨hz,hsm,vs,rel,dd⟩:=Jy I.hok hq
 B3⟨ep,hat⟩:=dd.dictAt
 have hl:=KV.length rel
 &PySem.W.kdl_call (PySem.W.kdl_dict (knd:=iB X.prog X.w) (kvs:=vs) (ep:=ep) hsm) (I.ok.hd hc) hat A6 ?_
 intro h' tk acc c kp e hacc
 have hk:=qd (P:=X.prog) (w:=X.w) rel (us:=acc.toList) (by rw[K3];~hacc.1) fun j v ej=>hacc.2 j v (by rw[←L8];~ej)
 ~⟨.ref s.heap.objs.size,_,I.laid (t':=tk) kp (D1 _) (show iV X.prog X.w _ h' _ (.lst (kvs.map fun kv=>kV kv.1))from⟨by rw[B7];~hz,acc.toList,c,hk,by simpa using e⟩),rfl,q _ (I.hok.fresh (D1 _))⟩
def rising(ns ms:List Int):Prop:=ms.Perm ns∧ms.Pairwise (·≤·)
B5 GD:mZ X (.builtin "sorted") (fun xs H Q=>∃(p:Addr)(ns:List Int),xs=[.ref p]∧pQ X.K H p (ns.map V.int)∧ns.length<64∧∀l ms,H l=none→rising ns ms→Q (.ref l) (upd H l (.lst (ms.map V.int)))):=by
 intro pins s σ H xs us Q I r h
 B3⟨p,ns,rfl,hq,h64,q⟩:=h
 B3⟨u,rfl,rx⟩:=vals1 r
 cases rx
 B3⟨its,rv,pl,hz⟩:=I.list hq
 have hlen:=rv.length
 rw[B7]at hlen
 &sorted_ints pl.isList (intsAre_of rv) A6 fun out ns' a1 a2 a3=>?_
 B3⟨e,he⟩:=sortedAll_at s.heap its out
 have hl2:ns'.length=ns.length:=a2.length_eq
 have hs:H (s.heap.objs.size+1)=none:=I.hok.fresh (L9 _)
 have I2:=I.laid (t':=s.toks) (a:=s.heap.objs.size+1) (o:=.lst (ns'.map V.int)) (h':=sortedAll s.heap its out) (fun b o e=>sortedAll_old e) (L9 _)
  ⟨by rw[B7];~O8 (rY A6),out.toList,e,Ao a1,by simpa[seqObj]using he⟩
 ~⟨.ref _,_,I2,rfl,q _ _ hs ⟨a2,a3⟩⟩
end
inductive DV where
  | int (i:Int) | non | lst (ds:List DV) | tup (ds:List DV)
mutual
def Reads(K:aF)(H:Hp):DV→V→Prop
 | .int i,x=>x=.int i
 | .non,x=>x=.non
 | .lst ds,x=>∃a xs,x=.ref a∧pQ K H a xs∧dR K H ds xs
 | .tup ds,x=>∃a xs,x=.ref a∧xR K H a xs∧dR K H ds xs
def dR(K:aF)(H:Hp):List DV→List V→Prop
 | [],xs=>xs=[]
 | d::ds,xs=>∃y ys,xs=y::ys∧Reads K H d y∧dR K H ds ys
end
mutual
def DV.depth:DV→Nat
 | .int _=>0
 | .non=>0
 | .lst ds=>iI ds+1
 | .tup ds=>iI ds+1
def iI:List DV→Nat
 | []=>0
 | d::ds=>max d.depth (iI ds)
end
B5 dR.length{K:aF}{H:Hp}:∀{ds:List DV} {xs:List V},dR K H ds xs→xs.length=ds.length
 | [],xs,h=>by
  B4 dR at h
  rw[h]
  rfl
 | d::ds,xs,h=>by
  B4 dR at h
  B3⟨y,ys,rfl,_,h2⟩:=h
  simp[dR.length h2]
B5 dR.get{K:aF}{H:Hp}:∀{ds:List DV} {xs:List V} {i:Nat} {d:DV},dR K H ds xs→ds[i]?=some d→∃x,xs[i]?=some x∧Reads K H d x
 | [],xs,i,d,h,e=>by simp at e
 | d'::ds,xs,0,d,h,e=>by
  B4 dR at h
  B3⟨y,ys,rfl,h1,_⟩:=h
  simp at e
  subst e
  ~⟨y,rfl,h1⟩
 | d'::ds,xs,i+1,d,h,e=>by
  B4 dR at h
  B3⟨y,ys,rfl,_,h2⟩:=h
  B3⟨x,e1,e2⟩:=dR.get h2 (by simpa using e)
  ~⟨x,by simpa using e1,e2⟩
B5 Ni:∀{ds:List DV} {i:Nat} {d:DV},ds[i]?=some d→d.depth≤iI ds
 | [],i,d,e=>by simp at e
 | d'::ds,0,d,e=>by
  simp at e
  subst e
  B4 iI
  ~Nat.le_max_left _ _
 | d'::ds,i+1,d,e=>by
  have:=Ni (ds:=ds) (i:=i) (d:=d) (by simpa using e)
  B4 iI
  ~G1 this (Nat.le_max_right _ _)
B5 TX(A:Around):A.in1.units=A.units+1:=rfl
section
open SeqAt
open Classical in
noncomputable def yS(d e:DV):Bool:=decide (d=e)
B5 vG{d e:DV}:yS d e=true↔d=e:=by B4 yS;simp
B5 yU(d:DV):yS d d=true:=vG.mpr rfl
B5 jT{d e:DV}(h:d≠e):yS d e=false:=by B4 yS;simp[h]
B5 aCY(a b:Int):yS (.int a) (.int b)=(a==b):=by
 by_cases h:a=b
 ·subst h;simp[yU]
 ·rw[jT (by simpa using h)];simp[h]
open Classical in
B5 pR{ds es:List DV}(hl:ds.length=es.length):((D2 ds.length).all fun i=>match ds[i]?,es[i]? with | some d,some e=>yS d e | _,_=>true)=decide (ds=es):=by
 rw[N3,M8,decide_eq_true_iff]
 constructor
 ·intro h
  apply Y1 hl
  intro i h1 h2
  have:=h i (F5.mpr h1)
  simp only[B6 h1,B6 h2]at this
  ~vG.mp this
 ·rintro rfl i hi
  have hi':=F5.mp hi
  simp only[B6 hi']
  ~yU _
variable{X:Cx}{pins:List (Addr×Obj)}{σ:St}{H:Hp}{s:Shared}
open Classical in
B5 bf(ds es:List DV):yS (.lst ds) (.lst es)=decide (ds=es):=by
 by_cases h:ds=es
 ·subst h;simp[yU]
 ·rw[jT (by intro z;cases z;~h rfl)];simp[h]
open Classical in
B5 bh(ds es:List DV):yS (.tup ds) (.tup es)=decide (ds=es):=by
 by_cases h:ds=es
 ·subst h;simp[yU]
 ·rw[jT (by intro z;cases z;~h rfl)];simp[h]
B5 Ul(I:Inv X pins σ H s):∀(n:Nat)(d e:DV)(x:V),d.depth≤n→Reads X.K H d x→Reads X.K H e x→d=e:=by
 have lists:∀(n:Nat),(∀(d e:DV)(x:V),d.depth≤n→Reads X.K H d x→Reads X.K H e x→d=e)→∀(ds es:List DV)(xs:List V),iI ds≤n→dR X.K H ds xs→dR X.K H es xs→ds=es:=by
  intro n ih ds
  induction ds with
  | nil=>
   intro es xs _ h1 h2
   have l1:=h1.length
   have l2:=h2.length
   cases es with
   | nil=>rfl
   | cons _ _=>rw[l1]at l2;simp at l2
  | cons d ds ihl=>
   intro es xs hd h1 h2
   have hd1:d.depth≤n:=by B4 iI at hd;omega
   have hd2:iI ds≤n:=by B4 iI at hd;omega
   B4 dR at h1
   B3⟨y,ys,rfl,a1,a2⟩:=h1
   cases es with
   | nil=>have:=h2.length;simp at this
   | cons e es=>
    B4 dR at h2
    B3⟨y',ys',q,b1,b2⟩:=h2
    cases q
    rw[ih d e y hd1 a1 b1,ihl es ys hd2 a2 b2]
 have kinds:∀{a:Addr} {xs ys:List V},pQ X.K H a xs→xR X.K H a ys→False:=fun{a xs ys} h1 h2=>by
  B3⟨_,_,p1,_⟩:=I.list h1
  B3⟨_,_,p2,_⟩:=I.tuple h2
  ~ne_of_list_tuple p1.isList (show s.heap.IsTuple a _ from p2) rfl
 intro n
 induction n with
 | zero=>
  intro d e x hd h1 h2
  cases d with
  | int i=>
   B4 Reads at h1
   subst h1
   cases e with
   | int j=>B4 Reads at h2;cases h2;rfl
   | non=>B4 Reads at h2;cases h2
   | lst es=>B4 Reads at h2;B3⟨_,_,q,_⟩:=h2;cases q
   | tup es=>B4 Reads at h2;B3⟨_,_,q,_⟩:=h2;cases q
  | non=>
   B4 Reads at h1
   subst h1
   cases e with
   | non=>rfl
   | int j=>B4 Reads at h2;cases h2
   | lst es=>B4 Reads at h2;B3⟨_,_,q,_⟩:=h2;cases q
   | tup es=>B4 Reads at h2;B3⟨_,_,q,_⟩:=h2;cases q
  | lst ds=>B4 DV.depth at hd;omega
  | tup ds=>B4 DV.depth at hd;omega
 | succ n ih=>
  intro d e x hd h1 h2
  cases d with
  | int i=>
   B4 Reads at h1
   subst h1
   cases e with
   | int j=>B4 Reads at h2;cases h2;rfl
   | non=>B4 Reads at h2;cases h2
   | lst es=>B4 Reads at h2;B3⟨_,_,q,_⟩:=h2;cases q
   | tup es=>B4 Reads at h2;B3⟨_,_,q,_⟩:=h2;cases q
  | non=>
   B4 Reads at h1
   subst h1
   cases e with
   | non=>rfl
   | int j=>B4 Reads at h2;cases h2
   | lst es=>B4 Reads at h2;B3⟨_,_,q,_⟩:=h2;cases q
   | tup es=>B4 Reads at h2;B3⟨_,_,q,_⟩:=h2;cases q
  | lst ds=>
   B4 Reads at h1
   B3⟨a,xs,rfl,hq,r⟩:=h1
   cases e with
   | int j=>B4 Reads at h2;cases h2
   | non=>B4 Reads at h2;cases h2
   | lst es=>
    B4 Reads at h2
    B3⟨b,ys,q,hq2,r2⟩:=h2
    cases q
    have:=I.DP hq hq2
    subst this
    rw[lists n ih ds es xs (by B4 DV.depth at hd;omega) r r2]
   | tup es=>
    B4 Reads at h2
    B3⟨b,ys,q,hq2,r2⟩:=h2
    cases q
    ~(kinds hq hq2).elim
  | tup ds=>
   B4 Reads at h1
   B3⟨a,xs,rfl,hq,r⟩:=h1
   cases e with
   | int j=>B4 Reads at h2;cases h2
   | non=>B4 Reads at h2;cases h2
   | lst es=>
    B4 Reads at h2
    B3⟨b,ys,q,hq2,r2⟩:=h2
    cases q
    ~(kinds hq2 hq).elim
   | tup es=>
    B4 Reads at h2
    B3⟨b,ys,q,hq2,r2⟩:=h2
    cases q
    have:=I.Tv hq hq2
    subst this
    rw[lists n ih ds es xs (by B4 DV.depth at hd;omega) r r2]
B5 aAm(I:Inv X pins σ H s)(i:Int)(e:DV)(y:V)(u v:Value)(A:Around)(hu:A.units<cLine)(r2:Reads X.K H e y)(rx:RelV (.int i) u)(ry:RelV y v):RcAt A s u v (yS (.int i) e)∧EqAt A s u v (yS (.int i) e):=by
 B3⟨t,rfl⟩:=rx
 cases e with
 | int j=>
  B4 Reads at r2
  subst r2
  B3⟨t',rfl⟩:=ry
  rw[aCY]
  ~⟨RcAt.int_int _ _ _ _,EqAt.int_int _ _ _ _⟩
 | non=>
  B4 Reads at r2
  subst r2
  cases ry
  rw[jT (by intro z;cases z)]
  ~⟨RcAt.int_none _ _,EqAt.int_none _ _⟩
 | lst es=>
  B4 Reads at r2
  B3⟨b,ys,rfl,hq,_⟩:=r2
  cases ry
  B3⟨its,_,pl,_⟩:=I.list hq
  rw[jT (by intro z;cases z)]
  ~⟨RcAt.int_list _ _ pl.isList (hu),EqAt.int_list _ _ pl.isList (hu)⟩
 | tup es=>
  B4 Reads at r2
  B3⟨b,ys,rfl,hq,_⟩:=r2
  cases ry
  B3⟨its,_,pl,_⟩:=I.tuple hq
  rw[jT (by intro z;cases z)]
  ~⟨RcAt.int_tuple _ _ pl (hu),EqAt.int_tuple _ _ pl (hu)⟩
B5 aAn(I:Inv X pins σ H s)(e:DV)(y:V)(u v:Value)(A:Around)(hu:A.units<cLine)(r2:Reads X.K H e y)(rx:RelV .non u)(ry:RelV y v):RcAt A s u v (yS .non e)∧EqAt A s u v (yS .non e):=by
 cases rx
 cases e with
 | non=>
  B4 Reads at r2
  subst r2
  cases ry
  rw[yU]
  ~⟨RcAt.none_none,EqAt.same _⟩
 | int j=>
  B4 Reads at r2
  subst r2
  B3⟨t',rfl⟩:=ry
  rw[jT (by intro z;cases z)]
  ~⟨RcAt.none_int _ _,EqAt.none_int _ _⟩
 | lst es=>
  B4 Reads at r2
  B3⟨b,ys,rfl,hq,_⟩:=r2
  cases ry
  B3⟨its,_,pl,_⟩:=I.list hq
  rw[jT (by intro z;cases z)]
  ~⟨RcAt.none_list pl.isList hu,EqAt.none_list pl.isList hu⟩
 | tup es=>
  B4 Reads at r2
  B3⟨b,ys,rfl,hq,_⟩:=r2
  cases ry
  B3⟨its,_,pl,_⟩:=I.tuple hq
  rw[jT (by intro z;cases z)]
  ~⟨RcAt.none_tuple pl hu,EqAt.none_tuple pl hu⟩
B5 Nj(I:Inv X pins σ H s):∀(n:Nat)(A:Around),(∀(d e:DV)(x y:V)(u v:Value)(A:Around),d.depth≤n→A.units+n<cLine→Reads X.K H d x→Reads X.K H e y→RelV x u→RelV y v→RcAt A s u v (yS d e)∧EqAt A s u v (yS d e)) →
  ∀(ds es:List DV)(xs ys:List V)(us vs:List Value),iI ds≤n→A.units+(n+1)<cLine→dR X.K H ds xs→dR X.K H es ys→Vals xs us→Vals ys vs →
  ∀j (h1:j<us.toArray.size) (h2:j<vs.toArray.size),EqAt A.in1 s us.toArray[j] vs.toArray[j] (match ds[j]?,es[j]? with | some d,some e=>yS d e | _,_=>true):=by
 intro n A ih ds es xs ys us vs hd hu r1 r2 v1 v2 j h1 h2
 have l1:j<ds.length:=by rw[←r1.length,v1.length];simpa using h1
 have l2:j<es.length:=by rw[←r2.length,v2.length];simpa using h2
 B3⟨x,ex,rx⟩:=r1.get (i:=j) (d:=ds[j]) (by simp)
 B3⟨y,ey,ry⟩:=r2.get (i:=j) (d:=es[j]) (by simp)
 B3⟨u,eu,ru⟩:=v1.get ex
 B3⟨v,ev,rv⟩:=v2.get ey
 have e1:us.toArray[j]=u:=by
  rw[D4]at eu
  B3⟨_,eu⟩:=eu
  simpa using eu
 have e2:vs.toArray[j]=v:=by
  rw[D4]at ev
  B3⟨_,ev⟩:=ev
  simpa using ev
 rw[e1,e2]
 simp only[B6 l1,B6 l2]
 ~(ih _ _ x y u v A.in1 (G1 (Ni (i:=j) (by simp)) hd) (by rw[TX];omega) rx ry ru rv).2
B5 Xm(I:Inv X pins σ H s):∀(n:Nat)(d e:DV)(x y:V)(u v:Value)(A:Around),d.depth≤n→A.units+n<cLine→Reads X.K H d x→Reads X.K H e y→RelV x u→RelV y v→RcAt A s u v (yS d e)∧EqAt A s u v (yS d e):=by
 have items:=Nj I
 have seqs:∀(n:Nat)(A:Around),(∀(d e:DV)(x y:V)(u v:Value)(A:Around),d.depth≤n→A.units+n<cLine→Reads X.K H d x→Reads X.K H e y→RelV x u→RelV y v→RcAt A s u v (yS d e)∧EqAt A s u v (yS d e)) →
   ∀(d e:DV)(x y:V)(u v:Value),d.depth≤n+1→A.units+(n+1)<cLine→Reads X.K H d x→Reads X.K H e y→RelV x u→RelV y v→RcAt A s u v (yS d e)∧EqAt A s u v (yS d e):=by
  intro n A ih d e x y u v hd hu r1 r2 rx ry
  have of_same:∀{a b:Addr} {k:Bool},(a=b→k=true)→RcAt A s (.ref a) (.ref b) k→EqAt A s (.ref a) (.ref b) k:=fun{a b k} hk h=>by
   by_cases hab:a=b
   ·subst hab
    rw[hk rfl]
    ~EqAt.same _
   ·~EqAt.of_refs hab h
  cases d with
  | int i=>
   B4 Reads at r1
   subst r1
   ~aAm I i e y u v A A6 r2 rx ry
  | non=>
   B4 Reads at r1
   subst r1
   ~aAn I e y u v A A6 r2 rx ry
  | lst ds=>
   B4 Reads at r1
   B3⟨a,xs,rfl,hq1,qe⟩:=r1
   cases rx
   B3⟨Nk,v1,Rz,_⟩:=I.list hq1
   have hd':iI ds≤n:=by B4 DV.depth at hd;omega
   cases e with
   | int j=>
    B4 Reads at r2
    subst r2
    B3⟨t',rfl⟩:=ry
    rw[jT (by intro z;cases z)]
    ~⟨RcAt.list_int _ _ Rz.isList A6,EqAt.list_int _ _ Rz.isList A6⟩
   | non=>
    B4 Reads at r2
    subst r2
    cases ry
    rw[jT (by intro z;cases z)]
    ~⟨RcAt.list_none Rz.isList A6,EqAt.list_none Rz.isList A6⟩
   | lst es=>
    B4 Reads at r2
    B3⟨b,ys,rfl,hq2,TY⟩:=r2
    cases ry
    B3⟨its2,v2,GF,_⟩:=I.list hq2
    have e1:Nk.toArray.size=ds.length:=by rw[D3,←v1.length,qe.length]
    have e2:its2.toArray.size=es.length:=by rw[D3,←v2.length,TY.length]
    have rc:RcAt A s (.ref a) (.ref b) (yS (.lst ds) (.lst es)):=by
     by_cases hl:ds.length=es.length
     ·have q:=RcAt.lists (A:=A) (s:=s) Rz.isList GF.isList (by rw[e1,e2];~hl) A6 (items n A ih ds es xs ys Nk its2 hd' hu qe TY v1 v2)
      rw[e1,pR hl]at q
      rw[bf]
      ~q
     ·rw[jT (by intro z;cases z;~hl rfl)]
      ~RcAt.lists_lengths Rz.isList GF.isList (by rw[e1,e2];simpa using hl) A6
    ~⟨rc,of_same (fun hab=>by
     subst hab
     &vG.mpr (Ul I (n+1) _ _ (.ref a) hd ?_ ?_)
     ·B4 Reads
      ~⟨a,xs,rfl,hq1,qe⟩
     ·B4 Reads
      ~⟨a,ys,rfl,hq2,TY⟩) rc⟩
   | tup es=>
    B4 Reads at r2
    B3⟨b,ys,rfl,hq2,TY⟩:=r2
    cases ry
    B3⟨its2,v2,GF,_⟩:=I.tuple hq2
    rw[jT (by intro z;cases z)]
    ~⟨RcAt.list_tuple Rz.isList GF A6,EqAt.list_tuple Rz.isList GF A6⟩
  | tup ds=>
   B4 Reads at r1
   B3⟨a,xs,rfl,hq1,qe⟩:=r1
   cases rx
   B3⟨Nk,v1,Rz,_⟩:=I.tuple hq1
   have hd':iI ds≤n:=by B4 DV.depth at hd;omega
   cases e with
   | int j=>
    B4 Reads at r2
    subst r2
    B3⟨t',rfl⟩:=ry
    rw[jT (by intro z;cases z)]
    ~⟨RcAt.tuple_int _ _ Rz A6,EqAt.tuple_int _ _ Rz A6⟩
   | non=>
    B4 Reads at r2
    subst r2
    cases ry
    rw[jT (by intro z;cases z)]
    ~⟨RcAt.tuple_none Rz A6,EqAt.tuple_none Rz A6⟩
   | lst es=>
    B4 Reads at r2
    B3⟨b,ys,rfl,hq2,TY⟩:=r2
    cases ry
    B3⟨its2,v2,GF,_⟩:=I.list hq2
    rw[jT (by intro z;cases z)]
    ~⟨RcAt.tuple_list Rz GF.isList A6,EqAt.tuple_list Rz GF.isList A6⟩
   | tup es=>
    B4 Reads at r2
    B3⟨b,ys,rfl,hq2,TY⟩:=r2
    cases ry
    B3⟨its2,v2,GF,_⟩:=I.tuple hq2
    have e1:Nk.toArray.size=ds.length:=by rw[D3,←v1.length,qe.length]
    have e2:its2.toArray.size=es.length:=by rw[D3,←v2.length,TY.length]
    have rc:RcAt A s (.ref a) (.ref b) (yS (.tup ds) (.tup es)):=by
     have q:=RcAt.tuples (A:=A) (s:=s) (l:=a) (b:=b) Rz GF A6 (items n A ih ds es xs ys Nk its2 hd' hu qe TY v1 v2)
     rw[e1,e2]at q
     by_cases hl:ds.length=es.length
     ·rw[←hl,i8,pR hl]at q
      rw[bh]
      simpa using q
     ·rw[jT (by intro z;cases z;~hl rfl)]
      have z:(ds.length==es.length)=false:=by simpa using hl
      rw[z,o9]at q
      ~q
    ~⟨rc,of_same (fun hab=>by
     subst hab
     &vG.mpr (Ul I (n+1) _ _ (.ref a) hd ?_ ?_)
     ·B4 Reads
      ~⟨a,xs,rfl,hq1,qe⟩
     ·B4 Reads
      ~⟨a,ys,rfl,hq2,TY⟩) rc⟩
 intro n
 induction n with
 | zero=>
  intro d e x y u v A hd hu r1 r2 rx ry
  cases d with
  | int i=>
   B4 Reads at r1
   subst r1
   ~aAm I i e y u v A A6 r2 rx ry
  | non=>
   B4 Reads at r1
   subst r1
   ~aAn I e y u v A A6 r2 rx ry
  | lst ds=>B4 DV.depth at hd;omega
  | tup ds=>B4 DV.depth at hd;omega
 | succ n ih=>
  intro d e x y u v A hd hu r1 r2 rx ry
  ~seqs n A ih d e x y u v hd hu r1 r2 rx ry
end
section
variable{X:Cx}
def aFJ(K:aF)(neg:Bool):R2:=fun x y H Q=>∃d e,Reads K H d x∧Reads K H e y∧d.depth≤32∧Q (.bl (if neg then !yS d e else yS d e)) H
B5 aFK(hu:X.A.units+64<cLine):uM X (compareOp .Eq) (aFJ X.K false):=by
 intro pins s σ H x y v u Q I rx ry h
 B3⟨d,e,r1,r2,hd,q⟩:=h
 ~(Xm I 32 d e x y v u X.A hd A6 r1 r2 rx ry).1 X.prog X.w X.xe _ ⟨.bl _,H,I,rfl,q⟩
open SeqAt in
B5 aFL(hu:X.A.units+64<cLine):uM X (compareOp .NotEq) (fun x y H Q=>∃ds es,Reads X.K H (.lst ds) x∧Reads X.K H (.lst es) y∧iI ds≤32∧Q (.bl (!yS (.lst ds) (.lst es))) H):=by
 intro pins s σ H x y v u Q I rx ry h
 B3⟨ds,es,r1,r2,hd,q⟩:=h
 B4 Reads at r1 r2
 B3⟨a,xs,rfl,hq1,qe⟩:=r1
 B3⟨b,ys,rfl,hq2,TY⟩:=r2
 cases rx
 cases ry
 B3⟨Nk,v1,Rz,_⟩:=I.list hq1
 B3⟨its2,v2,GF,_⟩:=I.list hq2
 have e1:Nk.toArray.size=ds.length:=by rw[D3,←v1.length,qe.length]
 have e2:its2.toArray.size=es.length:=by rw[D3,←v2.length,TY.length]
 have rc:RcNeAt X.A s (.ref a) (.ref b) (!yS (.lst ds) (.lst es)):=by
  by_cases hl:ds.length=es.length
  ·have z:=RcNeAt.lists (A:=X.A) (s:=s) Rz.isList GF.isList (by rw[e1,e2];~hl) A6 (Nj I 32 X.A (fun d e x y u v A a1 a2 a3 a4 a5 a6=>Xm I 32 d e x y u v A a1 a2 a3 a4 a5 a6) ds es xs ys Nk its2 hd A6 qe TY v1 v2)
   rw[e1,pR hl]at z
   rw[bf]
   ~z
  ·rw[jT (by intro z;cases z;~hl rfl)]
   ~RcNeAt.lists_lengths Rz.isList GF.isList (by rw[e1,e2];simpa using hl) A6
 ~rc X.prog X.w X.xe _ ⟨.bl _,H,I,rfl,q⟩
end
end L2


namespace L2
open PySem PySem.Spec PyProof.Rows
structure Raw(K:aF)(mg:Str→Option Value)(x:Str)(st:Stmt):Prop where
 ex:∃f fd,Fun K x x st f fd∧mg x=some (.ref f)
B5 aFM{K:aF}{h:Heap}{mg:Str→Option Value}{x:Str}{st:Stmt}{f:Addr}{oc:Value}{od an:Option Addr}{osl:Array (Option Value)}{kV doc pm cdv ct:Value}(X:K.In h)(G:h.Ns mainGlobals mg)
  (a:S6 K mainGlobals x=some (some (.ref f))) (l:K.lookup f=some ⟨oc,od,.func (G2 x x (eQ st) (cC st) (aL st) .none kV doc pm an cdv ct),osl⟩)
  (c:L4 K cdv x=true) (k:K8 K (.ref f)=true):Raw K mg x st:=⟨⟨f,_,aFH l c k,f9 X G a⟩⟩
structure sJ(P:Program)(w:World)(K:aF)(mg:Str→Option Value)(base:Heap)(x:Str)(k:Nat)(n:Nat)(sp:Sp):Prop where
 ex:∃f fd ps,ps.length=n∧yF P w K mg base CQ k f fd ps sp∧Binds K fd ps []∧K8 K (.ref f)=true∧mg x=some (.ref f)
B5 Raw.cal{P:Program}{w:World}{K:aF}{mg:Str→Option Value}{base:Heap}{x:Str}{st:Stmt}{N ps:List Str}{k:Nat}{sp:Sp}(R:Raw K mg x st)(S:bA N ps (aL st))(len:∀vs H Q E,sp vs H Q E→vs.length=ps.length)
  (hb:∀(kV doc pm:Value)(an:Option Addr)(cdv ct:Value)(us:List Value),us.length=ps.length→bindArgs (G2 x x (eQ st) (cC st) (aL st) .none kV doc pm an cdv ct) ⟨us,[]⟩=pure (ps.zip us))
  (hbody:∀(f:Addr)(cdv:Value)(A:Around)(outer:List Env)(s:Shared)(H:Hp)(vs:List V)(Q:VK)(E:XK),jK k (A.deeper (envOfC x (aL st) s.heap.objs.size f cdv))→sp vs H Q E →
   ∃t,DN (Fd CQ P w K mg base N x (aL st) f cdv A outer s H E).ZV (cC st) t∧t {nx:=fun _ H'=>Q .non H',rt:=Q} (start N vs) H):sJ P w K mg base x (k+1) ps.length sp:=by
 B3⟨f,fd,F,m⟩:=R.ex
 ~⟨f,fd,ps,rfl,F.ok S len fun cdv A outer s H vs Q E hr h=>hbody f cdv A outer s H vs Q E hr h,F.binds hb,F.kp,m⟩
B5 aAo{X:Cx}{x:Str}{k n:Nat}{sp:Sp}{e:Expr}{es:List Expr}{p pos:Pos}{t:TA}(C:sJ X.prog X.w X.K X.mg X.base x k n sp)(hr:jK k X.A)(hg:Gl X x)
  (ha:PA X (e::es) t) (hdb:(x==("__debug__" : Str))=false:=by decide) (he:starEach (e::es) X.env=(false,eval e X.env)::starEach es X.env:=by rfl) (hpl:(backTo pos (starEach es X.env)).any (·.1)=false:=by rfl) :
  PE X (.Call (.Name x p) (e::es) [] pos) (Ua sp [] E0 t):=by
 B3⟨f,fd,ps,_,F,hb,hk,hm⟩:=C.ex
 ~aCB F hr hg hm hk hb .nil Uk ha hdb he hpl
B5 call_of{sp:Sp}{E:XK}{t:TA}{σ:St}{H:Hp}{Q:VK}(h:t σ H fun vs H1=>sp vs H1 Q E):Ua sp [] E t σ H Q:=by
 B4 Ua
 have e:(fun(vs:List V) (H1:Hp)=>sp (vs++[]) H1 Q E)=fun vs H1=>sp vs H1 Q E:=by funext vs H1;rw[F2]
 rw[e]
 ~h
B5 cP{H:Hp}{p:Addr}(h:H p=none)(o:HO):aU H (upd H p o):=fun b u q=>by rw[bN (gR q h)];~q
B5 aU.tup{K:aF}{H H':Hp}{a:Addr}{xs:List V}(e:aU H H')(h:xR K H a xs):xR K H' a xs:=by
 rcases h with (h | ⟨o,h⟩) | h
 ·~.inl (.inl (e _ _ h))
 ·~.inl (.inr ⟨o,e _ _ h⟩)
 ·~.inr h
mutual
B5 aU.reads{K:aF}{H H':Hp}(e:aU H H'):∀(d:DV)(x:V),Reads K H d x→Reads K H' d x
 | .int i,x,h=>by B4 Reads at h ⊢;~h
 | .non,x,h=>by B4 Reads at h ⊢;~h
 | .lst ds,x,h=>by
  B4 Reads at h ⊢
  B3⟨a,xs,r,hq,l⟩:=h
  ~⟨a,xs,r,e.seq hq,aU.UG e ds xs l⟩
 | .tup ds,x,h=>by
  B4 Reads at h ⊢
  B3⟨a,xs,r,hq,l⟩:=h
  ~⟨a,xs,r,e.tup hq,aU.UG e ds xs l⟩
B5 aU.UG{K:aF}{H H':Hp}(e:aU H H'):∀(ds:List DV)(xs:List V),dR K H ds xs→dR K H' ds xs
 | [],xs,h=>by B4 dR at h ⊢;~h
 | d::ds,xs,h=>by
  B4 dR at h ⊢
  B3⟨y,ys,r,h1,h2⟩:=h
  ~⟨y,ys,r,aU.reads e d y h1,aU.UG e ds ys h2⟩
end
B5 Dg:∀ns:List Int,iI (ns.map DV.int)=0
 | []=>by rw[L3];B4 iI;rfl
 | n::ns=>by rw[D5];B4 iI DV.depth;rw[Dg ns];rfl
B5 GJ{ns ms:List Int}:ns.map DV.int=ms.map DV.int↔ns=ms:=by
 constructor
 ·intro h
  have:∀(a b:Int),DV.int a=DV.int b→a=b:=fun a b e=>by cases e;rfl
  ~(List.map_inj_right this).mp h
 ·rintro rfl;rfl
B5 aJk{xs:List V}{k:Int}{v:V}(h0:0≤k)(h:xs[k.toNat]?=some v):QX xs k=some v:=by
 have ek:k=((k.toNat:Nat):Int):=by omega
 rw[ek]
 ~aCG h
B5 aCZ(z:Int)(ns:List Int):inV (.int z) (ns.map V.int)=decide (z∈ns):=by
 B4 inV
 rw[N3,U4,decide_eq_true_iff]
 constructor
 ·rintro⟨v,hv,e⟩
  B3⟨m,hm,rfl⟩:=G5.mp hv
  have:m=z:=by simpa[eqV]using e
  subst this
  ~hm
 ·intro h
  ~⟨.int z,G5.mpr ⟨z,h,rfl⟩,by simp[eqV]⟩
B5 qg(ns:List Int):(ns.map V.int).all yO=true:=by
 rw[M8]
 intro v hv
 B3⟨m,_,rfl⟩:=G5.mp hv
 rfl
def mk(ns:List Int):List (Key×V):=ns.foldl (fun kvs n=>putK kvs (F7 n) (V.bl true)) []
B5 aC0(ns:List Int)(n:Int):mk (ns++[n])=putK (mk ns) (F7 n) (V.bl true):=by
 B4 mk
 rw[T6]
 rfl
B5 yV(ns:List Int):(mk ns).length≤ns.length:=by
 have h:∀(l:List Int),(mk l.reverse).length≤l.length:=by
  intro l
  induction l with
  | nil=>~D1 _
  | cons a l ih=>
   rw[j7,aC0,D8]
   ~G1 (yQ _ _ _) (U1 ih)
 have q:=h ns.reverse
 rw[d9,List.length_reverse]at q
 ~q
end L2
namespace L2
B5 kI.at{scope:PySem.Scope}{N:List PySem.Str}{k:Nat}{fr:List Nat}(CT:PySem.Scope)(oN:List PySem.Str)(h:az CT scope oN N k fr=true):kI CT scope oN N k fr:=kI.of h
end L2
namespace L2
open PySem PySem.Spec PyProof.Rows
def xT(H:Hp)(p:Addr):Prop:=(∀xs,H p≠some (.tup xs))∧∀o xs,H p≠some (.yM o (.tup xs))
B5 vH{H:Hp}{p:Addr}{xs:List V}(h:H p=some (.lst xs)):xT H p:=⟨fun ys e=>(by rw[h]at e;cases e),fun o ys e=>(by rw[h]at e;cases e)⟩
B5 Nm{H:Hp}{p:Addr}{kvs:List (Key×V)}(h:H p=some (.dK kvs)):xT H p:=⟨fun ys e=>(by rw[h]at e;cases e),fun o ys e=>(by rw[h]at e;cases e)⟩
B5 xR.upd{K:aF}{H:Hp}{a p:Addr}{xs:List V}{o:HO}(h:xR K H a xs)(n:xT H p):xR K (upd H p o) a xs:=by
 rcases h with (h | ⟨u,h⟩) | h
 ·~.inl (.inl (by rw[bN (fun z=>n.1 xs (by rw[←z];~h))];~h))
 ·~.inl (.inr ⟨u,by rw[bN (fun z=>n.2 u xs (by rw[←z];~h))];~h⟩)
 ·~.inr h
mutual
def jF:DV→Bool
 | .int _=>true
 | .non=>true
 | .lst _=>false
 | .tup ds=>eU ds
def eU:List DV→Bool
 | []=>true
 | d::ds=>jF d&&eU ds
end
mutual
B5 ql{K:aF}{H:Hp}{p:Addr}{o:HO}(n:xT H p):∀(d:DV)(x:V),jF d=true→Reads K H d x→Reads K (upd H p o) d x
 | .int i,x,_,h=>by B4 Reads at h ⊢;~h
 | .non,x,_,h=>by B4 Reads at h ⊢;~h
 | .lst ds,x,hi,h=>by B4 jF at hi;cases hi
 | .tup ds,x,hi,h=>by
  B4 jF at hi
  B4 Reads at h ⊢
  B3⟨a,xs,r,hq,l⟩:=h
  ~⟨a,xs,r,hq.upd n,Np n ds xs hi l⟩
B5 Np{K:aF}{H:Hp}{p:Addr}{o:HO}(n:xT H p):∀(ds:List DV)(xs:List V),eU ds=true→dR K H ds xs→dR K (upd H p o) ds xs
 | [],xs,_,h=>by B4 dR at h ⊢;~h
 | d::ds,xs,hi,h=>by
  B4 eU at hi
  rw[G9]at hi
  B4 dR at h ⊢
  B3⟨y,ys,r,h1,h2⟩:=h
  ~⟨y,ys,r,ql n d y hi.1 h1,Np n ds ys hi.2 h2⟩
end
B5 Fg{n d:Nat}{k:Nat}:HT.Kw n d (some (k:Int))=min k n:=HT.aCD n d k
end L2
namespace L2
open PySem PySem.Spec PyProof.Rows
section
variable{X:Cx}
end
end L2
namespace L2
open PySem PySem.Spec PyProof.Rows
end L2
namespace L2
open PySem PySem.Spec PyProof.Rows
section
variable{X:Cx}
end
B5 pU:∀{l m:List Int},l.Pairwise (·<·)→m.Pairwise (·<·)→(∀j,j∈l↔j∈m)→l=m
  | [],[],_,_,_=>rfl
  | [],b::m,_,_,h=>absurd ((h b).mpr C9) (by simp)
  | a::l,[],_,_,h=>absurd ((h a).mp C9) (by simp)
  | a::l,b::m,h1,h2,h=>by
    B3⟨h1a,h1b⟩:=J7.mp h1
    B3⟨h2a,h2b⟩:=J7.mp h2
    have e:a=b:=by
      rcases C5.mp ((h a).mp C9)with q | q
      · ~q
      · rcases C5.mp ((h b).mpr C9)with q' | q'
        · ~q'.symm
        · have:=h2a a q
          have:=h1a b q'
          omega
    subst e
    rw[pU h1b h2b fun j=>?_]
    constructor
    · intro hj
      rcases C5.mp ((h j).mp (C6 _ hj))with q | q
      · have:=h1a j hj
        omega
      · ~q
    · intro hj
      rcases C5.mp ((h j).mpr (C6 _ hj))with q | q
      · have:=h2a j hj
        omega
      · ~q
B5 GK{K:aF}:K1 K (.type "int") (.type "int")=some true:=by B4 K1;rfl
B5 Sd{K:aF}:K1 K (.type "bool") (.type "bool")=some true:=by B4 K1;rfl
B5 Sg{K:aF}:K1 K (.type "list") (.type "list")=some true:=by B4 K1;rfl
B5 La{K:aF}:K1 K (.type "tuple") (.type "tuple")=some true:=by B4 K1;rfl
B5 Xn{K:aF}:K1 K (.type "int") (.type "bool")=some false:=by
  first | rfl | decide | (B4 K1 p5;rfl) | (B4 K1 p5;simp;decide)
end L2


namespace L2
open PySem PySem.Spec PyProof.Rows
section
variable{X:Cx}
def Lp(ns:List Int)(m:Int):Prop:=m∈ns∧∀a∈ns,m≤a
B5 Cu(ns:List Int):∀k,k<ns.length→argBest (fun i j=>decide (ns.getD i 0<ns.getD j 0)) k≤k∧∀i,i≤k→ns.getD (argBest (fun i j=>decide (ns.getD i 0<ns.getD j 0)) k) 0≤ns.getD i 0
 | 0,_=>⟨D1 _,fun i hi=>by
  have:i=0:=by omega
  subst this
  ~b9 _⟩
 | k+1,h=>by
  B3⟨h1,h2⟩:=Cu ns k A6
  B4 argBest
  split
  ·rename_i c
   have c':=of_decide_eq_true c
   &⟨D1 _,fun i hi=>?_⟩
   rcases J2 i (k+1)with q | q
   ·have:=h2 i A6
    omega
   ·have:i=k+1:=by omega
    subst this
    ~b9 _
  ·rename_i c
   have c':=of_decide_eq_false (X7.mpr c)
   &⟨by omega,fun i hi=>?_⟩
   rcases J2 i (k+1)with q | q
   ·~h2 i A6
   ·have:i=k+1:=by omega
    subst this
    omega
B5 qm(hc:X.calm=true):mZ X (.builtin "min") (fun xs H Q=>∃(p:Addr)(ns:List Int),xs=[.ref p]∧pQ X.K H p (ns.map V.int)∧0<ns.length∧∀m,Lp ns m→Q (.int m) H):=by
 intro pins s σ H xs us Q I r h
 B3⟨p,ns,rfl,hq,hpos,q⟩:=h
 B3⟨u,rfl,rx⟩:=vals1 r
 cases rx
 B3⟨its,rv,pl,hz⟩:=I.list hq
 have hl:=pl.isList
 have hlen:=rv.length
 rw[B7]at hlen
 have hlt:p<s.heap.objs.size:=by B3⟨_,e,_⟩:=hl;~Heap.lt_size e
 have item:∀(i:Nat)(v:Value),its.toArray[i]?=some v→∃t,v=.int (ns.getD i 0) t∧i<ns.length:=fun i v e=>by
  have e':its[i]?=some v:=by simpa using e
  have hi:=(D4.mp e').1
  B3⟨u,eu,ru⟩:=rv.get (i:=i) (x:=.int (ns.getD i 0)) (by rw[C4,B8,B6 A6];rfl)
  rw[e']at eu
  cases eu
  B3⟨t,rfl⟩:=ru
  ~⟨t,rfl,by omega⟩
 &call_min_walk (wpAny_pyIter_list hl ?_)
 &⟨s.heap.objs.size,[s.heap.objs.size,p],[s.heap.objs.size],its.toArray.size,_,_,fun i j=>decide (ns.getD i 0<ns.getD j 0),rfl,Walks.list (A:=X.A.in1) (I.ok.hd hc) _ p (E9 hlt) _,
  ⟨⟨_,Heap.get?_push_size _ rfl,rfl,rfl⟩,hl.push _⟩,fun b hb=>?_,by rw[D3];omega,fun i j vi vj s' Q' E' hi hj hQ=>?_,fun v h' tk hP hk=>?_⟩
 ·show b<(s.heap.push _).objs.size
  rw[Heap.size_push]
  rcases C5.mp hb with e | hb
  ·rw[e];~M7 _
  ·rw[D9.mp hb];~N2 hlt
 ·B3⟨t1,rfl,_⟩:=item i vi hi
  B3⟨t2,rfl,_⟩:=item j vj hj
  ~HT.aAa _ _ _ _ _ _ _ _ _ _ hQ
 ·B3⟨t,rfl,hi⟩:=item _ v hP
  rw[D3,←hlen]at hi ⊢
  B3⟨h1,h2⟩:=Cu ns (ns.length-1) A6
  &⟨.int _,H,I.kept (bc hk),⟨t,rfl⟩,q _ ⟨?_,fun a ha=>?_⟩⟩
  ·rw[B8,B6 hi]
   ~N7 _
  ·B3⟨i,hi',rfl⟩:=J1 ha
   have:=h2 i A6
   rw[show ns.getD i 0=ns[i]from by rw[B8,B6 hi'];rfl]at this
   ~this
open SeqAt in
B5 aFN(hu:X.A.units+64<cLine):uM X (compareOp .NotEq) (fun x y H Q=>∃ds es,Reads X.K H (.tup ds) x∧Reads X.K H (.tup es) y∧iI ds≤32∧Q (.bl (!yS (.tup ds) (.tup es))) H):=by
 intro pins s σ H x y v u Q I rx ry h
 B3⟨ds,es,r1,r2,hd,q⟩:=h
 B4 Reads at r1 r2
 B3⟨a,xs,rfl,hq1,qe⟩:=r1
 B3⟨b,ys,rfl,hq2,TY⟩:=r2
 cases rx
 cases ry
 B3⟨Nk,v1,Rz,_⟩:=I.tuple hq1
 B3⟨its2,v2,GF,_⟩:=I.tuple hq2
 have e1:Nk.toArray.size=ds.length:=by rw[D3,←v1.length,qe.length]
 have e2:its2.toArray.size=es.length:=by rw[D3,←v2.length,TY.length]
 have rc:RcNeAt X.A s (.ref a) (.ref b) (!yS (.tup ds) (.tup es)):=by
  have z:=RcNeAt.tuples (A:=X.A) (s:=s) (l:=a) (b:=b) Rz GF A6 (Nj I 32 X.A (fun d e x y u v A a1 a2 a3 a4 a5 a6=>Xm I 32 d e x y u v A a1 a2 a3 a4 a5 a6) ds es xs ys Nk its2 hd A6 qe TY v1 v2)
  rw[e1,e2]at z
  by_cases hl:ds.length=es.length
  ·rw[←hl,i8,pR hl]at z
   rw[bh]
   simpa using z
  ·rw[jT (by intro z;cases z;~hl rfl)]
   have zz:(ds.length==es.length)=false:=by simpa using hl
   rw[zz,o9]at z
   ~z
 ~rc X.prog X.w X.xe _ ⟨.bl _,H,I,rfl,q⟩
end
end L2


namespace L2
open PySem PySem.Spec PyProof.Rows
inductive D where
  | non | bl (b:Bool) | int (i:Int) | str (x:Str)
  | lst (ds:List D) | tup (ds:List D)
  | dk (ks:List Key) (ds:List D)
  | dt (ks:List (List Key)) (ds:List D)
  | ins (C:Addr) (nm:List Str) (ds:List D)
abbrev Fp:=Addr→Prop
def Apart(A B:Fp):Prop:=∀x,A x→¬B x
def Is(A B:Fp):Prop:=∀x,A x↔B x
def None(A:Fp):Prop:=∀x,¬A x
abbrev fH(A B:Fp):Fp:=fun x=>A x∨B x
mutual
def Rv(K:aF)(H:Hp):D→V→Prop
 | .non,v=>v=.non
 | .bl b,v=>v=.bl b
 | .int i,v=>v=.int i
 | .str x,v=>v=.str x
 | .lst ds,v=>∃a xs,v=.ref a∧pQ K H a xs∧dF K H ds xs
 | .tup ds,v=>∃a xs,v=.ref a∧xR K H a xs∧dF K H ds xs
 | .dk ks ds,v=>∃a xs,v=.ref a∧Rd H a (.dK (ks.zip xs))∧ks.length=xs.length∧dF K H ds xs
 | .dt ks ds,v=>∃a xs,v=.ref a∧Rd H a (.dT (ks.zip xs))∧ks.length=xs.length∧dF K H ds xs
 | .ins C nm ds,v=>∃a dx xs,v=.ref a∧H a=some (.ins C dx (nm.zip xs))∧nm.length=xs.length∧dF K H ds xs
def dF(K:aF)(H:Hp):List D→List V→Prop
 | [],xs=>xs=[]
 | d::ds,xs=>∃y ys,xs=y::ys∧Rv K H d y∧dF K H ds ys
end
B5 aU.rd{H H':Hp}(e:aU H H'){a:Addr}{u:HO}(h:Rd H a u):Rd H' a u:=by
 rcases h with h | ⟨o,h⟩
 ·~.inl (e _ _ h)
 ·~.inr ⟨o,e _ _ h⟩
mutual
B5 aU.rv{K:aF}{H H':Hp}(e:aU H H'):∀(d:D)(v:V),Rv K H d v→Rv K H' d v
 | .non,v,h=>by B4 Rv at h ⊢;~h
 | .bl _,v,h=>by B4 Rv at h ⊢;~h
 | .int _,v,h=>by B4 Rv at h ⊢;~h
 | .str _,v,h=>by B4 Rv at h ⊢;~h
 | .lst ds,v,h=>by B4 Rv at h ⊢;B3⟨a,xs,r,hq,l⟩:=h;~⟨a,xs,r,e.seq hq,aU.bj e ds xs l⟩
 | .tup ds,v,h=>by B4 Rv at h ⊢;B3⟨a,xs,r,hq,l⟩:=h;~⟨a,xs,r,e.tup hq,aU.bj e ds xs l⟩
 | .dk ks ds,v,h=>by B4 Rv at h ⊢;B3⟨a,xs,r,hq,hl,l⟩:=h;~⟨a,xs,r,e.rd hq,hl,aU.bj e ds xs l⟩
 | .dt ks ds,v,h=>by B4 Rv at h ⊢;B3⟨a,xs,r,hq,hl,l⟩:=h;~⟨a,xs,r,e.rd hq,hl,aU.bj e ds xs l⟩
 | .ins C nm ds,v,h=>by B4 Rv at h ⊢;B3⟨a,dx,xs,r,hq,hl,l⟩:=h;~⟨a,dx,xs,r,e _ _ hq,hl,aU.bj e ds xs l⟩
B5 aU.bj{K:aF}{H H':Hp}(e:aU H H'):∀(ds:List D)(xs:List V),dF K H ds xs→dF K H' ds xs
 | [],xs,h=>by B4 dF at h ⊢;~h
 | d::ds,xs,h=>by B4 dF at h ⊢;B3⟨y,ys,r,h1,h2⟩:=h;~⟨y,ys,r,aU.rv e d y h1,aU.bj e ds ys h2⟩
end
B5 dF.length{K:aF}{H:Hp}:∀{ds:List D} {xs:List V},dF K H ds xs→xs.length=ds.length
 | [],xs,h=>by B4 dF at h;subst h;rfl
 | d::ds,xs,h=>by B4 dF at h;B3⟨y,ys,rfl,_,h2⟩:=h;rw[D8,D8,dF.length h2]
B5 dF.get{K:aF}{H:Hp}:∀{ds:List D} {xs:List V} {i:Nat} {d:D},dF K H ds xs→ds[i]?=some d→∃x,xs[i]?=some x∧Rv K H d x
 | [],xs,i,d,h,e=>by simp at e
 | d'::ds,xs,0,d,h,e=>by B4 dF at h;B3⟨y,ys,rfl,h1,_⟩:=h;simp at e;subst e;~⟨y,rfl,h1⟩
 | d'::ds,xs,i+1,d,h,e=>by
  B4 dF at h
  B3⟨y,ys,rfl,_,h2⟩:=h
  B3⟨x,e1,e2⟩:=dF.get (i:=i) (d:=d) h2 (by simpa using e)
  ~⟨x,by simpa using e1,e2⟩
B5 dF.of{K:aF}{H:Hp}:∀{ds:List D} {xs:List V},xs.length=ds.length→(∀(i:Nat)(d:D)(x:V),ds[i]?=some d→xs[i]?=some x→Rv K H d x)→dF K H ds xs
 | [],xs,hl,_=>by B4 dF;~L6 hl
 | d::ds,[],hl,_=>by simp at hl
 | d::ds,x::xs,hl,h=>by
  B4 dF
  ~⟨x,xs,rfl,h 0 d x rfl rfl,dF.of (by simpa using hl) fun i e y h1 h2=>h (i+1) e y (by simpa using h1) (by simpa using h2)⟩
def eN{α β:Type}(R:α→Fp→β→Prop):List α→Fp→List β→Prop
 | [],A,ys=>None A∧ys=[]
 | d::ds,A,ys=>∃y yt A1 A2,ys=y::yt∧Apart A1 A2∧Is A (fH A1 A2)∧R d A1 y∧eN R ds A2 yt
section
variable{α β:Type}{R R':α→Fp→β→Prop}
B5 eN.congr:∀{ds:List α} {A A':Fp} {ys:List β},eN R ds A ys→Is A A'→eN R ds A' ys
 | [],A,A',ys,h,e=>⟨fun x q=>h.1 x ((e x).mpr q),h.2⟩
 | d::ds,A,A',ys,⟨y,yt,A1,A2,h1,h2,h3,h4⟩,e=>⟨y,yt,A1,A2,h1,h2,fun x=>((e x).symm).trans (h3 x),h4⟩
B5 eN.mono:∀{ds:List α} {A:Fp} {ys:List β},eN R ds A ys→(∀e B z,(∀x,B x→A x)→R e B z→R' e B z)→eN R' ds A ys
 | [],A,ys,h,_=>h
 | d::ds,A,ys,⟨y,yt,A1,A2,h1,h2,h3,h4,h5⟩,m=>
  ⟨y,yt,A1,A2,h1,h2,h3,m _ _ _ (fun x q=>(h3 x).mpr (.inl q)) h4,h5.mono fun e B z hb=>m e B z fun x q=>(h3 x).mpr (.inr (hb x q))⟩
B5 eN.len:∀{ds:List α} {A:Fp} {ys:List β},eN R ds A ys→ys.length=ds.length
 | [],A,ys,h=>by rw[h.2];rfl
 | d::ds,A,ys,⟨y,yt,A1,A2,h1,h2,h3,h4,h5⟩=>by rw[h1,D8,D8,h5.len]
B5 eN.focus:∀{ds:List α} {A:Fp} {ys:List β} {i:Nat} {d:α},eN R ds A ys→ds[i]?=some d→∃y A1 C,ys[i]?=some y∧Apart A1 C∧Is A (fH A1 C)∧R d A1 y ∧
    ∀(R':α→Fp→β→Prop),(∀e B z,(∀x,B x→C x)→R e B z→R' e B z)→∀d' y' QZ,Apart QZ C→R' d' QZ y'→eN R' (ds.set i d') (fH QZ C) (ys.set i y')
  | [],A,ys,i,d,h,e=>by simp at e
  | d0::ds,A,ys,0,d,⟨y,yt,A1,A2,h1,h2,h3,h4,h5⟩,e=>by
    simp at e
    subst e h1
    ~⟨y,A1,A2,rfl,h2,h3,h4,fun R' m d' y' QZ ap r=>⟨y',yt,QZ,A2,rfl,ap,fun x=>Iff.rfl,r,h5.mono m⟩⟩
  | d0::ds,A,ys,i+1,d,⟨y,yt,A1,A2,h1,h2,h3,h4,h5⟩,e=>by
    subst h1
    B3⟨z,B1,C,e1,ap,hA,r,k⟩:=eN.focus (i:=i) (d:=d) h5 (by simpa using e)
    &⟨z,B1,fH A1 C,by simpa using e1,?_,?_,r,fun R' m d' y' QZ ap' r'=>?_⟩
    · intro x hx hc
      rcases hc with hc | hc
      · ~h2 x hc ((hA x).mpr (.inl hx))
      · ~ap x hx hc
    · intro x
      rw[h3 x]
      constructor
      · rintro(q | q)
        · ~.inr (.inl q)
        · rcases(hA x).mp q with q | q
          · ~.inl q
          · ~.inr (.inr q)
      · rintro(q | q | q)
        · ~.inr ((hA x).mpr (.inl q))
        · ~.inl q
        · ~.inr ((hA x).mpr (.inr q))
    · &⟨y,_,A1,fH QZ C,rfl,?_,?_,m _ _ _ (fun x q=>.inl q) h4,k R' (fun e B z hb=>m e B z fun x q=>.inr (hb x q)) d' y' QZ (fun x q q'=>ap' x q (.inr q')) r'⟩
      · intro x q q'
        rcases q' with q' | q'
        · ~ap' x q' (.inl q)
        · ~h2 x q ((hA x).mpr (.inr q'))
      · intro x
        show (QZ x∨A1 x∨C x)↔(A1 x∨QZ x∨C x)
        constructor
        · rintro(q | q | q)
          · ~.inr (.inl q)
          · ~.inl q
          · ~.inr (.inr q)
        · rintro(q | q | q)
          · ~.inr (.inl q)
          · ~.inl q
          · ~.inr (.inr q)
B5 eN.snoc:∀{ds:List α} {A A1:Fp} {ys:List β} {d:α} {y:β},eN R ds A ys→R d A1 y→Apart A A1→eN R (ds++[d]) (fH A A1) (ys++[y])
 | [],A,A1,ys,d,y,h,r,ap=>by
  rw[h.2]
  ~⟨y,[],A1,fun _=>False,rfl,fun _ _ z=>z,fun x=>⟨fun q=>q.elim (fun q=>absurd q (h.1 x)) .inl,fun q=>q.elim .inr False.elim⟩,r,fun _ z=>z,rfl⟩
 | d0::ds,A,A1,ys,d,y,⟨y0,yt,B1,B2,h1,h2,h3,h4,h5⟩,r,ap=>by
  subst h1
  &⟨y0,yt++[y],B1,fH B2 A1,rfl,?_,?_,h4,eN.snoc h5 r fun x q=>ap x ((h3 x).mpr (.inr q))⟩
  ·intro x q q'
   rcases q' with q' | q'
   ·~h2 x q q'
   ·~ap x ((h3 x).mpr (.inl q)) q'
  ·intro x
   show (A x∨A1 x)↔(B1 x∨B2 x∨A1 x)
   rw[h3 x]
   ~or_assoc
end
mutual
def Ow(K:aF)(H:Hp):D→Fp→V→Prop
 | .non,A,v=>None A∧v=.non
 | .bl b,A,v=>None A∧v=.bl b
 | .int i,A,v=>None A∧v=.int i
 | .str x,A,v=>None A∧v=.str x
 | .lst ds,A,v=>∃a xs B,v=.ref a∧H a=some (.lst xs)∧¬B a∧Is A (fH (·=a) B)∧dU K H ds B xs
 | .tup ds,A,v=>∃a xs,v=.ref a∧xR K H a xs∧dU K H ds A xs
 | .dk ks ds,A,v=>∃a xs B,v=.ref a∧H a=some (.dK (ks.zip xs))∧ks.length=xs.length∧¬B a∧Is A (fH (·=a) B)∧dU K H ds B xs
 | .dt ks ds,A,v=>∃a xs B,v=.ref a∧H a=some (.dT (ks.zip xs))∧ks.length=xs.length∧¬B a∧Is A (fH (·=a) B)∧dU K H ds B xs
 | .ins C nm ds,A,v=>∃a dx xs B,v=.ref a∧H a=some (.ins C dx (nm.zip xs))∧H dx=some (.own a)∧nm.length=xs.length∧¬B a∧¬B dx∧Is A (fH (fun x=>x=a∨x=dx) B)∧dU K H ds B xs
def dU(K:aF)(H:Hp):List D→Fp→List V→Prop
 | [],A,ys=>None A∧ys=[]
 | d::ds,A,ys=>∃y yt A1 A2,ys=y::yt∧Apart A1 A2∧Is A (fH A1 A2)∧Ow K H d A1 y∧dU K H ds A2 yt
end
B5 cO{K:aF}{H:Hp}:∀{ds:List D} {A:Fp} {ys:List V},dU K H ds A ys↔eN (Ow K H) ds A ys
 | [],A,ys=>by B4 dU eN;~Iff.rfl
 | d::ds,A,ys=>by
  B4 dU eN
  constructor
  ·rintro⟨y,yt,A1,A2,h1,h2,h3,h4,h5⟩;~⟨y,yt,A1,A2,h1,h2,h3,h4,cO.mp h5⟩
  ·rintro⟨y,yt,A1,A2,h1,h2,h3,h4,h5⟩;~⟨y,yt,A1,A2,h1,h2,h3,h4,cO.mpr h5⟩
def Dh(K:aF)(H H':Hp):Prop:=∀a xs,xR K H a xs→xR K H' a xs
B5 aU.tk{K:aF}{H H':Hp}(e:aU H H'):Dh K H H':=fun _ _ h=>e.tup h
B5 Ow.congr{K:aF}{H:Hp}{d:D}{A A':Fp}{v:V}(h:Ow K H d A v)(e:Is A A'):Ow K H d A' v:=by
 cases d with
 | non=>B4 Ow at h ⊢;~⟨fun x q=>h.1 x ((e x).mpr q),h.2⟩
 | bl b=>B4 Ow at h ⊢;~⟨fun x q=>h.1 x ((e x).mpr q),h.2⟩
 | int b=>B4 Ow at h ⊢;~⟨fun x q=>h.1 x ((e x).mpr q),h.2⟩
 | str b=>B4 Ow at h ⊢;~⟨fun x q=>h.1 x ((e x).mpr q),h.2⟩
 | lst ds=>B4 Ow at h ⊢;B3⟨a,xs,B,h1,h2,h3,h4,h5⟩:=h;~⟨a,xs,B,h1,h2,h3,fun x=>(e x).symm.trans (h4 x),h5⟩
 | tup ds=>B4 Ow at h ⊢;B3⟨a,xs,h1,h2,h3⟩:=h;~⟨a,xs,h1,h2,cO.mpr ((cO.mp h3).congr e)⟩
 | dk ks ds=>B4 Ow at h ⊢;B3⟨a,xs,B,h1,h2,h2',h3,h4,h5⟩:=h;~⟨a,xs,B,h1,h2,h2',h3,fun x=>(e x).symm.trans (h4 x),h5⟩
 | dt ks ds=>B4 Ow at h ⊢;B3⟨a,xs,B,h1,h2,h2',h3,h4,h5⟩:=h;~⟨a,xs,B,h1,h2,h2',h3,fun x=>(e x).symm.trans (h4 x),h5⟩
 | ins C nm ds=>B4 Ow at h ⊢;B3⟨a,dx,xs,B,h1,h2,h2',h3,h3',h3'',h4,h5⟩:=h;~⟨a,dx,xs,B,h1,h2,h2',h3,h3',h3'',fun x=>(e x).symm.trans (h4 x),h5⟩
mutual
B5 Ow.frame{K:aF}{H H':Hp}(t:Dh K H H'):∀(d:D)(A:Fp)(v:V),Ow K H d A v→(∀a,A a→H' a=H a)→Ow K H' d A v
 | .non,A,v,h,f=>by B4 Ow at h ⊢;~h
 | .bl _,A,v,h,f=>by B4 Ow at h ⊢;~h
 | .int _,A,v,h,f=>by B4 Ow at h ⊢;~h
 | .str _,A,v,h,f=>by B4 Ow at h ⊢;~h
 | .lst ds,A,v,h,f=>by
  B4 Ow at h ⊢
  B3⟨a,xs,B,h1,h2,h3,h4,h5⟩:=h
  ~⟨a,xs,B,h1,(f a ((h4 a).mpr (.inl rfl))).trans h2,h3,h4,dU.frame t ds B xs h5 fun b q=>f b ((h4 b).mpr (.inr q))⟩
 | .tup ds,A,v,h,f=>by B4 Ow at h ⊢;B3⟨a,xs,h1,h2,h3⟩:=h;~⟨a,xs,h1,t _ _ h2,dU.frame t ds A xs h3 f⟩
 | .dk ks ds,A,v,h,f=>by
  B4 Ow at h ⊢
  B3⟨a,xs,B,h1,h2,h2',h3,h4,h5⟩:=h
  ~⟨a,xs,B,h1,(f a ((h4 a).mpr (.inl rfl))).trans h2,h2',h3,h4,dU.frame t ds B xs h5 fun b q=>f b ((h4 b).mpr (.inr q))⟩
 | .dt ks ds,A,v,h,f=>by
  B4 Ow at h ⊢
  B3⟨a,xs,B,h1,h2,h2',h3,h4,h5⟩:=h
  ~⟨a,xs,B,h1,(f a ((h4 a).mpr (.inl rfl))).trans h2,h2',h3,h4,dU.frame t ds B xs h5 fun b q=>f b ((h4 b).mpr (.inr q))⟩
 | .ins C nm ds,A,v,h,f=>by
  B4 Ow at h ⊢
  B3⟨a,dx,xs,B,h1,h2,h2',h3,h3',h3'',h4,h5⟩:=h
  ~⟨a,dx,xs,B,h1,(f a ((h4 a).mpr (.inl (.inl rfl)))).trans h2,(f dx ((h4 dx).mpr (.inl (.inr rfl)))).trans h2',h3,h3',h3'',h4,dU.frame t ds B xs h5 fun b q=>f b ((h4 b).mpr (.inr q))⟩
B5 dU.frame{K:aF}{H H':Hp}(t:Dh K H H'):∀(ds:List D)(A:Fp)(ys:List V),dU K H ds A ys→(∀a,A a→H' a=H a)→dU K H' ds A ys
 | [],A,ys,h,f=>by B4 dU at h ⊢;~h
 | d::ds,A,ys,h,f=>by
  B4 dU at h ⊢
  B3⟨y,yt,A1,A2,h1,h2,h3,h4,h5⟩:=h
  ~⟨y,yt,A1,A2,h1,h2,h3,Ow.frame t d A1 y h4 fun b q=>f b ((h3 b).mpr (.inl q)),dU.frame t ds A2 yt h5 fun b q=>f b ((h3 b).mpr (.inr q))⟩
end
mutual
B5 Ow.rv{K:aF}{H:Hp}:∀(d:D)(A:Fp)(v:V),Ow K H d A v→Rv K H d v
 | .non,A,v,h=>by B4 Ow at h;B4 Rv;~h.2
 | .bl _,A,v,h=>by B4 Ow at h;B4 Rv;~h.2
 | .int _,A,v,h=>by B4 Ow at h;B4 Rv;~h.2
 | .str _,A,v,h=>by B4 Ow at h;B4 Rv;~h.2
 | .lst ds,A,v,h=>by B4 Ow at h;B4 Rv;B3⟨a,xs,B,h1,h2,h3,h4,h5⟩:=h;~⟨a,xs,h1,pQ.of h2,dU.rv ds B xs h5⟩
 | .tup ds,A,v,h=>by B4 Ow at h;B4 Rv;B3⟨a,xs,h1,h2,h3⟩:=h;~⟨a,xs,h1,h2,dU.rv ds A xs h3⟩
 | .dk ks ds,A,v,h=>by B4 Ow at h;B4 Rv;B3⟨a,xs,B,h1,h2,h2',h3,h4,h5⟩:=h;~⟨a,xs,h1,.inl h2,h2',dU.rv ds B xs h5⟩
 | .dt ks ds,A,v,h=>by B4 Ow at h;B4 Rv;B3⟨a,xs,B,h1,h2,h2',h3,h4,h5⟩:=h;~⟨a,xs,h1,.inl h2,h2',dU.rv ds B xs h5⟩
 | .ins C nm ds,A,v,h=>by B4 Ow at h;B4 Rv;B3⟨a,dx,xs,B,h1,h2,h2',h3,h3',h3'',h4,h5⟩:=h;~⟨a,dx,xs,h1,h2,h3,dU.rv ds B xs h5⟩
B5 dU.rv{K:aF}{H:Hp}:∀(ds:List D)(A:Fp)(ys:List V),dU K H ds A ys→dF K H ds ys
 | [],A,ys,h=>by B4 dU at h;B4 dF;~h.2
 | d::ds,A,ys,h=>by B4 dU at h;B4 dF;B3⟨y,yt,A1,A2,h1,h2,h3,h4,h5⟩:=h;~⟨y,yt,h1,Ow.rv d A1 y h4,dU.rv ds A2 yt h5⟩
end
def mR(H:Hp)(a:Addr):Prop:=(∃o,H a=some o)∧xT H a
mutual
B5 Ow.cells{K:aF}{H:Hp}:∀(d:D)(A:Fp)(v:V),Ow K H d A v→∀a,A a→mR H a
 | .non,A,v,h,a,q=>by B4 Ow at h;~absurd q (h.1 a)
 | .bl _,A,v,h,a,q=>by B4 Ow at h;~absurd q (h.1 a)
 | .int _,A,v,h,a,q=>by B4 Ow at h;~absurd q (h.1 a)
 | .str _,A,v,h,a,q=>by B4 Ow at h;~absurd q (h.1 a)
 | .lst ds,A,v,h,a,q=>by
  B4 Ow at h
  B3⟨p,xs,B,h1,h2,h3,h4,h5⟩:=h
  rcases(h4 a).mp q with z | z
  ·cases z;~⟨⟨_,h2⟩,vH h2⟩
  ·~dU.cells ds B xs h5 a z
 | .tup ds,A,v,h,a,q=>by B4 Ow at h;B3⟨p,xs,h1,h2,h3⟩:=h;~dU.cells ds A xs h3 a q
 | .dk ks ds,A,v,h,a,q=>by
  B4 Ow at h
  B3⟨p,xs,B,h1,h2,h2',h3,h4,h5⟩:=h
  rcases(h4 a).mp q with z | z
  ·cases z;~⟨⟨_,h2⟩,Nm h2⟩
  ·~dU.cells ds B xs h5 a z
 | .dt ks ds,A,v,h,a,q=>by
  B4 Ow at h
  B3⟨p,xs,B,h1,h2,h2',h3,h4,h5⟩:=h
  rcases(h4 a).mp q with z | z
  ·cases z;~⟨⟨_,h2⟩,fun ys e=>(by rw[h2]at e;cases e),fun o ys e=>(by rw[h2]at e;cases e)⟩
  ·~dU.cells ds B xs h5 a z
 | .ins C nm ds,A,v,h,a,q=>by
  B4 Ow at h
  B3⟨p,dx,xs,B,h1,h2,h2',h3,h3',h3'',h4,h5⟩:=h
  rcases(h4 a).mp q with (z | z) | z
  ·cases z;~⟨⟨_,h2⟩,fun ys e=>(by rw[h2]at e;cases e),fun o ys e=>(by rw[h2]at e;cases e)⟩
  ·cases z;~⟨⟨_,h2'⟩,fun ys e=>(by rw[h2']at e;cases e),fun o ys e=>(by rw[h2']at e;cases e)⟩
  ·~dU.cells ds B xs h5 a z
B5 dU.cells{K:aF}{H:Hp}:∀(ds:List D)(A:Fp)(ys:List V),dU K H ds A ys→∀a,A a→mR H a
 | [],A,ys,h,a,q=>by B4 dU at h;~absurd q (h.1 a)
 | d::ds,A,ys,h,a,q=>by
  B4 dU at h
  B3⟨y,yt,A1,A2,h1,h2,h3,h4,h5⟩:=h
  rcases(h3 a).mp q with z | z
  ·~Ow.cells d A1 y h4 a z
  ·~dU.cells ds A2 yt h5 a z
end
mutual
def D.jF:D→Bool
  | .non=>true | .bl _=>true | .int _=>true | .str _=>true
  | .tup ds=>D.eU ds
  | _=>false
def D.eU:List D→Bool
  | []=>true
  | d::ds=>D.jF d&&D.eU ds
end
abbrev nil:Fp:=fun _=>False
mutual
B5 yW{K:aF}{H:Hp}:∀(d:D)(v:V),d.jF=true→Rv K H d v→Ow K H d nil v
 | .non,v,_,h=>by B4 Rv at h;B4 Ow;~⟨fun _ z=>z,h⟩
 | .bl _,v,_,h=>by B4 Rv at h;B4 Ow;~⟨fun _ z=>z,h⟩
 | .int _,v,_,h=>by B4 Rv at h;B4 Ow;~⟨fun _ z=>z,h⟩
 | .str _,v,_,h=>by B4 Rv at h;B4 Ow;~⟨fun _ z=>z,h⟩
 | .tup ds,v,i,h=>by B4 D.jF at i;B4 Rv at h;B4 Ow;B3⟨a,xs,h1,h2,h3⟩:=h;~⟨a,xs,h1,h2,wI ds xs i h3⟩
 | .lst ds,v,i,h=>by B4 D.jF at i;cases i
 | .dk _ ds,v,i,h=>by B4 D.jF at i;cases i
 | .dt _ ds,v,i,h=>by B4 D.jF at i;cases i
 | .ins _ _ ds,v,i,h=>by B4 D.jF at i;cases i
B5 wI{K:aF}{H:Hp}:∀(ds:List D)(ys:List V),D.eU ds=true→dF K H ds ys→dU K H ds nil ys
 | [],ys,_,h=>by B4 dF at h;B4 dU;~⟨fun _ z=>z,h⟩
 | d::ds,ys,i,h=>by
  B4 D.eU at i
  rw[G9]at i
  B4 dF at h
  B4 dU
  B3⟨y,yt,h1,h2,h3⟩:=h
  ~⟨y,yt,nil,nil,h1,fun _ z _=>z,fun x=>⟨False.elim,fun z=>z.elim id id⟩,yW d y i.1 h2,wI ds yt i.2 h3⟩
end
open Classical in
noncomputable def out(H:Hp)(A:Fp):Hp:=fun a=>if A a then none else H a
B5 aFO{H:Hp}{A:Fp}{a:Addr}(h:¬A a):out H A a=H a:=by B4 out;rw[if_neg h]
B5 bB{H:Hp}{A:Fp}{a:Addr}{o:HO}:out H A a=some o↔¬A a∧H a=some o:=by
 B4 out
 split
 ·rename_i h;~⟨fun z=>(by cases z),fun z=>absurd h z.1⟩
 ·rename_i h;~⟨fun z=>⟨h,z⟩,fun z=>z.2⟩
B5 jL(H:Hp)(A:Fp):aU (out H A) H:=fun b o h=>(bB.mp h).2
B5 Nq{K:aF}{H:Hp}{A:Fp}(h:∀a,A a→xT H a):Dh K H (out H A):=fun a xs q=>by
 rcases q with (q | ⟨o,q⟩) | q
 ·~.inl (.inl (bB.mpr ⟨fun z=>(h a z).1 _ q,q⟩))
 ·~.inl (.inr ⟨o,bB.mpr ⟨fun z=>(h a z).2 _ _ q,q⟩⟩)
 ·~.inr q
B5 Ow.out{K:aF}{H:Hp}{d:D}{A A':Fp}{v:V}(h:Ow K H d A' v)(ap:Apart A' A)(c:∀a,A a→xT H a):Rv K (out H A) d v:=
 Ow.rv d A' v (Ow.frame (Nq c) d A' v h fun a q=>aFO (ap a q))
end L2


namespace L2
open PySem PySem.Spec PyProof.Rows
abbrev DE:=List (Option D)
abbrev FE:=DE→Option D
abbrev FA:=DE→Option (List D)
abbrev FT:=DE→Option Bool
def yL(K:aF)(H:Hp)(e:DE)(σ:St):Prop:=∀(i:Nat)(d:D),e[i]?=some (some d)→∃v,σ[i]?=some (some v)∧Rv K H d v
B5 yL.same{K:aF}{H H':Hp}{e:DE}{σ:St}(h:yL K H e σ)(s:aU H H'):yL K H' e σ:=fun i d q=>let ⟨v,h1,h2⟩:=h i d q;⟨v,h1,s.rv _ _ h2⟩
structure Zn(K:aF)(N:Fp)(Z H:Hp):Prop where
 sm:aU Z H
 tk:Dh K H Z
 no:∀a,N a→Z a=none∧¬H a=none
B5 Zn.self(K:aF)(H:Hp):Zn K nil H H:=⟨aU.refl _,fun _ _ h=>h,fun _ z=>z.elim⟩
B5 Dh.trans{K:aF}{H H1 H2:Hp}(a:Dh K H H1)(b:Dh K H1 H2):Dh K H H2:=fun p xs h=>b p xs (a p xs h)
B5 Ow.same{K:aF}{H H':Hp}{d:D}{A:Fp}{v:V}(h:Ow K H d A v)(s:aU H H'):Ow K H' d A v:=
 Ow.frame s.tk d A v h fun a q=>by
  B3⟨⟨o,e⟩,_⟩:=Ow.cells d A v h a q
  rw[e];~s a o e
B5 dU.same{K:aF}{H H':Hp}{ds:List D}{A:Fp}{vs:List V}(h:dU K H ds A vs)(s:aU H H'):dU K H' ds A vs:=
 dU.frame s.tk ds A vs h fun a q=>by
  B3⟨⟨o,e⟩,_⟩:=dU.cells ds A vs h a q
  rw[e];~s a o e
def Nr(K:aF)(H H':Hp)(d:D)(v:V):Prop:=∃A,Ow K H' d A v∧∀a,A a→H a=none
def Sh(K:aF)(H H':Hp)(ds:List D)(vs:List V):Prop:=∃A,dU K H' ds A vs∧∀a,A a→H a=none
B5 Nr.rv{K:aF}{H H':Hp}{d:D}{v:V}(h:Nr K H H' d v):Rv K H' d v:=let ⟨A,o,_⟩:=h;Ow.rv d A v o
B5 Sh.rv{K:aF}{H H':Hp}{ds:List D}{vs:List V}(h:Sh K H H' ds vs):dF K H' ds vs:=let ⟨A,o,_⟩:=h;dU.rv ds A vs o
B5 Nr.same{K:aF}{H H' H2:Hp}{d:D}{v:V}(h:Nr K H H' d v)(s:aU H' H2):Nr K H H2 d v:=let ⟨A,o,f⟩:=h;⟨A,o.same s,f⟩
B5 Nr.back{K:aF}{H0 H H':Hp}{d:D}{v:V}(h:Nr K H H' d v)(s:aU H0 H):Nr K H0 H' d v:=let ⟨A,o,f⟩:=h;⟨A,o,fun a q=>s.free (f a q)⟩
B5 Nr.jF{K:aF}{H H':Hp}{d:D}{v:V}(i:d.jF=true)(h:Rv K H' d v):Nr K H H' d v:=⟨nil,yW d v i h,fun _ z=>z.elim⟩
B5 Sh.eU{K:aF}{H H':Hp}{ds:List D}{vs:List V}(i:D.eU ds=true)(h:dF K H' ds vs):Sh K H H' ds vs:=⟨nil,wI ds vs i h,fun _ z=>z.elim⟩
open Classical in
noncomputable def Xo(Z H H':Hp):Hp:=fun a=>if H a=none then H' a else Z a
B5 Fi{Z H H':Hp}{a:Addr}(h:H a=none):Xo Z H H' a=H' a:=by B4 Xo;rw[if_pos h]
B5 Nt{Z H H':Hp}{a:Addr}(h:¬H a=none):Xo Z H H' a=Z a:=by B4 Xo;rw[if_neg h]
B5 Ib{K:aF}{N:Fp}{Z H H':Hp}(z:Zn K N Z H):aU Z (Xo Z H H'):=fun b o e=>by
 rw[Nt (by rw[z.sm b o e];intro q;cases q)];~e
B5 Xp{K:aF}{N:Fp}{Z H H':Hp}(z:Zn K N Z H)(s:aU H H'):Zn K N (Xo Z H H') H' where
  sm:=fun b o e=>by
    by_cases c:H b=none
    · rw[Fi c]at e;~e
    · rw[Nt c]at e;~s b o (z.sm b o e)
  tk:=fun a xs h=>by
    by_cases c:H a=none
    · rcases h with (h | ⟨o,h⟩) | h
      · ~.inl (.inl (by rw[Fi c];~h))
      · ~.inl (.inr ⟨o,by rw[Fi c];~h⟩)
      · ~.inr h
    · have q:xR K H a xs:=by
        rcases h with (h | ⟨o,h⟩) | h
        · cases e:H a with
          | none=>~absurd e c
          | some o=>have:=s a o e;rw[h]at this;cases this;~.inl (.inl e)
        · cases e:H a with
          | none=>~absurd e c
          | some o=>have:=s a o e;rw[h]at this;cases this;~.inl (.inr ⟨_,e⟩)
        · ~.inr h
      ~(Ib z).tup (z.tk a xs q)
  no:=fun a q=>⟨by rw[Nt (z.no a q).2];~(z.no a q).1,fun h=>(z.no a q).2 (s.free h)⟩
B5 Nr.zone{K:aF}{N:Fp}{Z H H':Hp}{d:D}{v:V}(h:Nr K H H' d v)(z:Zn K N Z H)(s:aU H H'):Rv K (Xo Z H H') d v:=by
 B3⟨A,o,f⟩:=h
 ~Ow.rv d A v (Ow.frame (Xp z s).tk d A v o fun a q=>Fi (f a q))
def Ka(K:aF)(t:TE)(f:FE):Prop:=∀{N:Fp}(σ:St)(H Z:Hp)(e:DE)(d:D)(Q:VK),Zn K N Z H→yL K Z e σ→f e=some d →
 (∀v H' Z',aU H H'→aU Z Z'→Zn K N Z' H'→Rv K Z' d v→Q v H')→t σ H Q
def Nu(K:aF)(t:TE)(f:FE):Prop:=∀(σ:St)(H:Hp)(e:DE)(d:D)(Q:VK),yL K H e σ→f e=some d →
 (∀v H',aU H H'→Nr K H H' d v→Q v H')→t σ H Q
def UJ(K:aF)(t:TT)(f:FT):Prop:=∀(σ:St)(H:Hp)(e:DE)(b:Bool)(Q:Bool→Hp→Prop),yL K H e σ→f e=some b→(∀H',aU H H'→Q b H')→t σ H Q
def EvA(K:aF)(t:TA)(f:FA):Prop:=∀{N:Fp}(σ:St)(H Z:Hp)(e:DE)(ds:List D)(Q:List V→Hp→Prop),Zn K N Z H→yL K Z e σ→f e=some ds →
 (∀vs H' Z',aU H H'→aU Z Z'→Zn K N Z' H'→dF K Z' ds vs→Q vs H')→t σ H Q
def EvB(K:aF)(t:TA)(f:FA):Prop:=∀(σ:St)(H:Hp)(e:DE)(ds:List D)(Q:List V→Hp→Prop),yL K H e σ→f e=some ds →
 (∀vs H',aU H H'→Sh K H H' ds vs→Q vs H')→t σ H Q
B5 Nu.r{K:aF}{t:TE}{f:FE}(h:Nu K t f):Ka K t f:=fun σ H Z e d Q z r q k=>
 h σ H e d Q (r.same z.sm) q fun v H' s n=>k v H' (Xo Z H H') s (Ib z) (Xp z s) (n.zone z s)
def cN(f:FE):FE:=fun e=>(f e).bind fun d=>if d.jF=true then some d else none
B5 Um{f:FE}{e:DE}{d:D}:cN f e=some d↔f e=some d∧d.jF=true:=by
 B4 cN
 cases q:f e with
 | none=>simp
 | some a=>
  simp only[B9]
  split
  ·rename_i h;constructor
   ·intro z;cases z;~⟨rfl,h⟩
   ·rintro⟨z,_⟩;~z
  ·rename_i h;constructor
   ·intro z;cases z
   ·rintro⟨z,z2⟩;cases z;~absurd z2 h
B5 Ka.n{K:aF}{t:TE}{f:FE}(h:Ka K t f):Nu K t (cN f):=fun σ H e d Q r q k=>by
 B3⟨q1,q2⟩:=Um.mp q
 ~h σ H H e d Q (Zn.self K H) r q1 fun v H' Z' s1 s2 z' rv=>k v H' s1 (.jF q2 (z'.sm.rv _ _ rv))
def aD(i:Nat):FE:=fun e=>(e[i]?).getD none
B5 aFR{K:aF}(i:Nat):Ka K (pH i) (aD i):=fun σ H Z e d Q z r q k=>by
 have e1:e[i]?=some (some d):=by
  B4 aD at q
  cases h:e[i]? with
  | none=>rw[h]at q;cases q
  | some o=>rw[h]at q;cases q;rfl
 B3⟨v,h1,h2⟩:=r i d e1
 ~⟨v,h1,k v H Z (aU.refl _) (aU.refl _) z h2⟩
def fC(d:D):FE:=fun _=>some d
B5 aAp{K:aF}(i:Int):Nu K (tC (.int i)) (fC (.int i)):=fun σ H e d Q r q k=>by cases q;~k _ H (aU.refl _) (.jF rfl (by B4 Rv;rfl))
B5 aHQ{K:aF}(i:Bool):Nu K (tC (.bl i)) (fC (.bl i)):=fun σ H e d Q r q k=>by cases q;~k _ H (aU.refl _) (.jF rfl (by B4 Rv;rfl))
B5 aFS{K:aF}:Nu K (tC .non) (fC .non):=fun σ H e d Q r q k=>by cases q;~k _ H (aU.refl _) (.jF rfl (by B4 Rv;rfl))
B5 aFT{K:aF}(i:Str):Nu K (tC (.str i)) (fC (.str i)):=fun σ H e d Q r q k=>by cases q;~k _ H (aU.refl _) (.jF rfl (by B4 Rv;rfl))
def f2(φ:D→D→Option D)(f g:FE):FE:=fun e=>(f e).bind fun a=>(g e).bind fun b=>φ a b
B5 Lq{φ:D→D→Option D}{f g:FE}{e:DE}{d:D}(h:f2 φ f g e=some d):∃a b,f e=some a∧g e=some b∧φ a b=some d:=by
 B4 f2 at h
 B3⟨a,h1,h2⟩:=aX h
 B3⟨b,h3,h4⟩:=aX h2
 ~⟨a,b,h1,h3,h4⟩
def OpD(K:aF)(r:R2)(φ:D→D→Option D):Prop:=∀{N:Fp}(x y:V)(H Z:Hp)(a b d:D)(Q:VK),Zn K N Z H→Rv K Z a x→Rv K Z b y→φ a b=some d →
 (∀v H' Z',aU H H'→aU Z Z'→Zn K N Z' H'→Rv K Z' d v→Q v H')→r x y H Q
def RB(K:aF)(r:R2)(φ:D→D→Option D):Prop:=∀(x y:V)(H:Hp)(a b d:D)(Q:VK),Rv K H a x→Rv K H b y→φ a b=some d →
 (∀v H',aU H H'→Nr K H H' d v→Q v H')→r x y H Q
B5 aHR{K:aF}{r:R2}{φ:D→D→Option D}{ta tb:TE}{f g:FE}(o:OpD K r φ)(ha:Ka K ta f)(hb:Ka K tb g):Ka K (DR r ta tb) (f2 φ f g):=fun σ H Z e d Q z re q k=>by
 B3⟨a,b,h1,h2,h3⟩:=Lq q
 &ha σ H Z e a _ z re h1 fun x H1 Z1 s1 t1 z1 rx=>hb σ H1 Z1 e b _ z1 (re.same t1) h2 fun y H2 Z2 s2 t2 z2 ry=>?_
 ~o x y H2 Z2 a b d Q z2 (t2.rv _ _ rx) ry h3 fun v H3 Z3 s3 t3 z3 rv=>k v H3 Z3 (s1.trans (s2.trans s3)) (t1.trans (t2.trans t3)) z3 rv
B5 aAq{K:aF}{r:R2}{φ:D→D→Option D}{ta tb:TE}{f g:FE}(o:RB K r φ)(ha:Ka K ta f)(hb:Ka K tb g):Nu K (DR r ta tb) (f2 φ f g):=fun σ H e d Q re q k=>by
 B3⟨a,b,h1,h2,h3⟩:=Lq q
 &ha σ H H e a _ (Zn.self K H) re h1 fun x H1 Z1 s1 t1 z1 rx=>hb σ H1 Z1 e b _ z1 (re.same t1) h2 fun y H2 Z2 s2 t2 z2 ry=>?_
 ~o x y H2 a b d Q (z2.sm.rv _ _ (t2.rv _ _ rx)) (z2.sm.rv _ _ ry) h3 fun v H3 s3 n=>k v H3 (s1.trans (s2.trans s3)) (n.back (s1.trans s2))
def Lr(C:Int→Int→Prop) [∀i j,Decidable (C i j)] (g:Int→Int→D):D→D→Option D
 | .int i,.int j=>if C i j then some (g i j)else none
 | _,_=>none
B5 Nv{C:Int→Int→Prop} [∀i j,Decidable (C i j)] {g:Int→Int→D} {a b d:D} (h:Lr C g a b=some d):∃i j,a=.int i∧b=.int j∧C i j∧d=g i j:=by
 B4 Lr at h
 split at h
 ·split at h
  ·rename_i i j c;cases h;~⟨i,j,rfl,rfl,c,rfl⟩
  ·cases h
 ·cases h
B5 Xq{K:aF}{C:Int→Int→Prop} [∀i j,Decidable (C i j)] {C':Int→Int→Prop} (hC:∀i j,C i j→C' i j) {g:Int→Int→Int}:RB K (rI C' fun i j=>.int (g i j)) (Lr C fun i j=>.int (g i j)):=fun x y H a b d Q ra rb q k=>by
 B3⟨i,j,rfl,rfl,c,rfl⟩:=Nv q
 B4 Rv at ra rb
 ~⟨i,j,ra,rb,hC i j c,k _ H (aU.refl _) (.jF rfl (by B4 Rv;rfl))⟩
B5 aC1{K:aF}{g:Int→Int→Int}:RB K (lq fun i j=>.int (g i j)) (Lr (fun _ _=>True) fun i j=>.int (g i j)):=fun x y H a b d Q ra rb q k=>by
 B3⟨i,j,rfl,rfl,c,rfl⟩:=Nv q
 B4 Rv at ra rb
 ~⟨i,j,ra,rb,k _ H (aU.refl _) (.jF rfl (by B4 Rv;rfl))⟩
B5 qN{K:aF}{g:Int→Int→Bool}:RB K (lq fun i j=>.bl (g i j)) (Lr (fun _ _=>True) fun i j=>.bl (g i j)):=fun x y H a b d Q ra rb q k=>by
 B3⟨i,j,rfl,rfl,c,rfl⟩:=Nv q
 B4 Rv at ra rb
 ~⟨i,j,ra,rb,k _ H (aU.refl _) (.jF rfl (by B4 Rv;rfl))⟩
def aO:FA:=fun _=>some []
def aB(f:FE)(fs:FA):FA:=fun e=>(f e).bind fun a=>(fs e).bind fun r=>some (a::r)
B5 Kc{f:FE}{fs:FA}{e:DE}{ds:List D}(h:aB f fs e=some ds):∃a r,f e=some a∧fs e=some r∧ds=a::r:=by
 B4 aB at h
 B3⟨a,h1,h2⟩:=aX h
 B3⟨b,h3,h4⟩:=aX h2
 cases h4
 ~⟨a,b,h1,h3,rfl⟩
B5 aAr{K:aF}:EvA K lG aO:=fun σ H Z e ds Q z re q k=>by cases q;~k [] H Z (aU.refl _) (aU.refl _) z (by B4 dF;rfl)
B5 aC2{K:aF}{te:TE}{t:TA}{f:FE}{fs:FA}(h:Ka K te f)(hs:EvA K t fs):EvA K (cI te t) (aB f fs):=fun σ H Z e ds Q z re q k=>by
 B3⟨a,r,h1,h2,rfl⟩:=Kc q
 &h σ H Z e a _ z re h1 fun x H1 Z1 s1 t1 z1 rx=>hs σ H1 Z1 e r _ z1 (re.same t1) h2 fun vs H2 Z2 s2 t2 z2 rs=>?_
 ~k _ H2 Z2 (s1.trans s2) (t1.trans t2) z2 (by B4 dF;~⟨x,vs,rfl,t2.rv _ _ rx,rs⟩)
B5 aFU{K:aF}:EvB K lG aO:=fun σ H e ds Q re q k=>by cases q;~k [] H (aU.refl _) (.eU rfl (by B4 dF;rfl))
B5 aC3{K:aF}{te:TE}{t:TA}{f:FE}{fs:FA}(h:Nu K te f)(hs:EvB K t fs):EvB K (cI te t) (aB f fs):=fun σ H e ds Q re q k=>by
 B3⟨a,r,h1,h2,rfl⟩:=Kc q
 &h σ H e a _ re h1 fun x H1 s1 n1=>hs σ H1 e r _ (re.same s1) h2 fun vs H2 s2 n2=>?_
 &k _ H2 (s1.trans s2) ?_
 B3⟨A,oA,fA⟩:=n1
 B3⟨B,oB,fB⟩:=n2
 &⟨fH A B,?_,fun p q=>q.elim (fA p) fun z=>s1.free (fB p z)⟩
 B4 dU
 &⟨x,vs,A,B,rfl,fun p qa qb=>?_,fun _=>Iff.rfl,oA.same s2,oB⟩
 B3⟨⟨o,e1⟩,_⟩:=Ow.cells _ _ _ oA p qa
 rw[fB p qb]at e1;cases e1
def cap(n:Nat)(d:D):Option D:=if n≤100000 then some d else none
B5 Nx{n:Nat}{d d':D}(h:cap n d=some d'):n≤100000∧d'=d:=by
 B4 cap at h
 split at h
 ·rename_i c;cases h;~⟨c,rfl⟩
 ·cases h
B5 Uo{n:Nat}(h:n≤100000):n≤sizeLine:=by rw[sizeLine_eq];omega
B5 Ny{n:Nat}(h:n≤100000):n<sizeLine:=by rw[sizeLine_eq];omega
def lX(fs:FA):FE:=fun e=>(fs e).bind fun ds=>cap ds.length (.lst ds)
def vI(fs:FA):FE:=fun e=>(fs e).bind fun ds=>cap ds.length (.tup ds)
B5 rH{K:aF}{H H1:Hp}{ds:List D}{xs:List V}{p:Addr}(s:aU H H1)(n:Sh K H H1 ds xs)(hp:H1 p=none):Nr K H (upd H1 p (.lst xs)) (.lst ds) (.ref p):=by
 B3⟨A,o,f⟩:=n
 &⟨fH (·=p) A,?_,fun a q=>q.elim (fun z=>by cases z;~s.free hp) (f a)⟩
 B4 Ow
 &⟨p,xs,A,rfl,cD,fun z=>?_,fun _=>Iff.rfl,o.same (cP hp _)⟩
 B3⟨⟨u,e⟩,_⟩:=dU.cells _ _ _ o p z
 rw[hp]at e;cases e
B5 bu{K:aF}{H H1:Hp}{ds:List D}{xs:List V}{p:Addr}(n:Sh K H H1 ds xs)(hp:H1 p=none):Nr K H (upd H1 p (.tup xs)) (.tup ds) (.ref p):=by
 B3⟨A,o,f⟩:=n
 &⟨A,?_,f⟩
 B4 Ow
 ~⟨p,xs,rfl,xR.of cD,o.same (cP hp _)⟩
B5 aFV{K:aF}{t:TA}{fs:FA}(h:EvB K t fs):Nu K (zm t) (lX fs):=fun σ H e d Q re q k=>by
 B4 lX at q
 B3⟨ds,h1,h2⟩:=aX q
 B3⟨hc,rfl⟩:=Nx h2
 &h σ H e ds _ re h1 fun xs H1 s1 n=>⟨Uo (by rw[n.rv.length];~hc),fun p hp=>?_⟩
 ~k _ _ (s1.trans (cP hp _)) (rH s1 n hp)
B5 aFW{K:aF}{t:TA}{fs:FA}(h:EvB K t fs):Nu K (DX t) (vI fs):=fun σ H e d Q re q k=>by
 B4 vI at q
 B3⟨ds,h1,h2⟩:=aX q
 B3⟨hc,rfl⟩:=Nx h2
 &h σ H e ds _ re h1 fun xs H1 s1 n=>⟨Uo (by rw[n.rv.length];~hc),fun p hp=>?_⟩
 ~k _ _ (s1.trans (cP hp _)) (bu n hp)
B5 aAs{K:aF}{N:Fp}{Z H:Hp}{p:Addr}{o:HO}(z:Zn K N Z H)(hp:H p=none):aU Z (upd Z p o)∧Zn K N (upd Z p o) (upd H p o):=by
 have hz:Z p=none:=z.sm.free hp
 &⟨cP hz o,⟨fun b u e=>?_,fun a xs h=>?_,fun a q=>?_⟩⟩
 ·by_cases c:b=p
  ·subst c;rw[cD]at e;rw[cD];~e
  ·rw[bN c]at e;rw[bN c];~z.sm b u e
 ·by_cases c:a=p
  ·subst c
   rcases h with (h | ⟨u,h⟩) | h
   ·rw[cD]at h;~.inl (.inl (by rw[cD];~h))
   ·rw[cD]at h;~.inl (.inr ⟨u,by rw[cD];~h⟩)
   ·~.inr h
  ·have q:xR K H a xs:=by
    rcases h with (h | ⟨u,h⟩) | h
    ·rw[bN c]at h;~.inl (.inl h)
    ·rw[bN c]at h;~.inl (.inr ⟨u,h⟩)
    ·~.inr h
   ~(cP hz o).tup (z.tk a xs q)
 ·have c:a≠p:=fun z'=>(z.no a q).2 (by rw[z'];~hp)
  rw[bN c,bN c];~z.no a q
B5 aFX{K:aF}{t:TA}{fs:FA}(h:EvA K t fs):Ka K (zm t) (lX fs):=fun σ H Z e d Q z re q k=>by
 B4 lX at q
 B3⟨ds,h1,h2⟩:=aX q
 B3⟨hc,rfl⟩:=Nx h2
 &h σ H Z e ds _ z re h1 fun xs H1 Z1 s1 t1 z1 rs=>⟨Uo (by rw[rs.length];~hc),fun p hp=>?_⟩
 B3⟨a1,a2⟩:=aAs (o:=.lst xs) z1 hp
 ~k _ _ _ (s1.trans (cP hp _)) (t1.trans a1) a2 (by B4 Rv;~⟨p,xs,rfl,pQ.of cD,a1.bj _ _ rs⟩)
end L2


namespace L2
open PySem PySem.Spec PyProof.Rows
structure XR(K:aF)(X:Cx)(e:Expr)(t:TE)(f:FE):Prop where
 hk:X.K=K
 pe:PE X e t
 ev:Ka K t f
structure XN(K:aF)(X:Cx)(e:Expr)(t:TE)(f:FE):Prop where
 hk:X.K=K
 pe:PE X e t
 ev:Nu K t f
structure XT(K:aF)(X:Cx)(e:Expr)(t:TT)(f:FT):Prop where
 hk:X.K=K
 pt:PT X e t
 ev:UJ K t f
structure XW(K:aF)(X:Cx)(e:Expr)(t:TT)(f:FT):Prop where
 hk:X.K=K
 pw:PW X e t
 ev:UJ K t f
structure XA(K:aF)(X:Cx)(es:List Expr)(t:TA)(f:FA):Prop where
 hk:X.K=K
 pa:PA X es t
 ev:EvA K t f
structure XB(K:aF)(X:Cx)(es:List Expr)(t:TA)(f:FA):Prop where
 hk:X.K=K
 pa:PA X es t
 ev:EvB K t f
section
variable{K:aF}{X:Cx}{e a b c:Expr}{es:List Expr}{t ta tb:TE}{f g:FE}{tA:TA}{fs:FA}{pos:Pos}
B5 XN.r(h:XN K X e t f):XR K X e t f:=⟨h.hk,h.pe,h.ev.r⟩
B5 XR.n(h:XR K X e t f):XN K X e t (cN f):=⟨h.hk,h.pe,Ka.n h.ev⟩
B5 aH{i:Nat}(h:PE X e (pH i))(hk:X.K=K:=by rfl):XR K X e (pH i) (aD i):=⟨hk,h,aFR i⟩
B5 aM{i:Int}{j:Nat}(hk:X.K=K:=by rfl):XN K X (.Constant (.int i) j pos) (tC (.int i)) (fC (.int i)):=⟨hk,aE6,aAp i⟩
B5 Up{i:Bool}{j:Nat}(hk:X.K=K:=by rfl):XN K X (.Constant (.bool i) j pos) (tC (.bl i)) (fC (.bl i)):=⟨hk,aHn,aHQ i⟩
B5 wJ{j:Nat}(hk:X.K=K:=by rfl):XN K X (.Constant .none j pos) (tC .non) (fC .non):=⟨hk,aE7,aFS⟩
B5 UL{x:Str}{j:Nat}(hk:X.K=K:=by rfl):XN K X (.Constant (.str x) j pos) (tC (.str x)) (fC (.str x)):=⟨hk,aE8,aFT x⟩
B5 Uq{op:Operator}{r:R2}{φ:D→D→Option D}(ho:uM X (binaryOp op) r)(hd:RB K r φ)(ha:XR K X a ta f)(hb:XR K X b tb g):XN K X (.BinOp a op b pos) (DR r ta tb) (f2 φ f g):=⟨ha.hk,aHy ho ha.pe hb.pe,aAq hd ha.ev hb.ev⟩
def Di:D→D→Option D:=Lr (fun _ _=>True) fun i j=>.int (i-j)
instance (i j:Int):Decidable (Rr i j):=by B4 Rr;~inferInstance
instance (i j:Int):Decidable (lr i j):=by B4 lr;~inferInstance
instance (i j:Int):Decidable (lu i j):=by B4 lu;~inferInstance
def tR:D→D→Option D:=Lr Rr fun i j=>.int (i*j)
def sO:D→D→Option D:=Lr lr fun i j=>.int (i/j)
def fO:D→D→Option D:=Lr (fun _ j=>0<j) fun i j=>.int (i%j)
def Bw:D→D→Option D:=Lr lu fun i j=>.int (i ^ j.toNat)
B5 uN(ha:XR K X a ta f)(hb:XR K X b tb g):XN K X (.BinOp a .Sub b pos) (DR (lq fun i j=>.int (i-j)) ta tb) (f2 Di f g):=Uq aFn aC1 ha hb
B5 lK(ha:XR K X a ta f)(hb:XR K X b tb g):XN K X (.BinOp a .Mult b pos) (DR (rI Rr fun i j=>.int (i*j)) ta tb) (f2 tR f g):=Uq aFo (Xq fun _ _ h=>h) ha hb
B5 mU(ha:XR K X a ta f)(hb:XR K X b tb g):XN K X (.BinOp a .FloorDiv b pos) (DR (rI lr fun i j=>.int (i/j)) ta tb) (f2 sO f g):=Uq aCw (Xq fun _ _ h=>h) ha hb
B5 bT(ha:XR K X a ta f)(hb:XR K X b tb g):XN K X (.BinOp a .Mod b pos) (DR (rI (fun _ j=>0<j) fun i j=>.int (i%j)) ta tb) (f2 fO f g):=Uq aFp (Xq fun _ _ h=>h) ha hb
B5 uO(ha:XR K X a ta f)(hb:XR K X b tb g):XN K X (.BinOp a .Pow b pos) (DR (rI lu fun i j=>.int (i ^ j.toNat)) ta tb) (f2 Bw f g):=Uq aFq (Xq fun _ _ h=>h) ha hb
B5 aFY{op:CmpOp}{r:R2}{φ:D→D→Option D}(ho:uM X (compareOp op) r)(hd:RB K r φ)(ha:XR K X a ta f)(hb:XR K X b tb g)(hm:behindInMarks op b=false):XN K X (.Compare a [op] [b] pos) (DR r ta tb) (f2 φ f g):=⟨ha.hk,aCx ho ha.pe hb.pe hm,aAq hd ha.ev hb.ev⟩
def fB(f:FE):FT:=fun e=>(f e).bind fun d=>match d with | .bl b=>some b | _=>none
B5 Xr{f:FE}{e:DE}{b:Bool}(h:fB f e=some b):f e=some (.bl b):=by
 B4 fB at h
 B3⟨d,h1,h2⟩:=aX h
 split at h2
 ·cases h2;~h1
 ·cases h2
B5 aC4(h:Ka K t f):UJ K (DW t) (fB f):=fun σ H e b Q re q k=>h σ H H e _ _ (Zn.self K H) re (Xr q) fun v H' Z' s1 s2 z rv=>by
 B4 Rv at rv
 ~⟨b,rv,k H' s1⟩
B5 aEn(h:Ka K t f):UJ K (tB t) (fB f):=fun σ H e b Q re q k=>h σ H H e _ _ (Zn.self K H) re (Xr q) fun v H' Z' s1 s2 z rv=>by
 B4 Rv at rv
 ~⟨b,rv,k H' s1⟩
B5 cT{op:CmpOp}{r:R2}{φ:D→D→Option D}(ho:uM X (compareOp op) r)(hd:RB K r φ)(ha:XR K X a ta f)(hb:XR K X b tb g)(hm:behindInMarks op b=false):XT K X (.Compare a [op] [b] pos) (DW (DR r ta tb)) (fB (f2 φ f g)):=⟨ha.hk,aCy ho ha.pe hb.pe hm,aC4 (aAq hd ha.ev hb.ev).r⟩
B5 aAt(h:XR K X e t f)(he:∀whole,isTrue e X.env whole=(do let v ←whole;standAt e.pos;holding [v] (truthy v)):=by intro _;rfl):XT K X e (tB t) (fB f):=⟨h.hk,aFa h.pe he,aEn h.ev⟩
def dLt:D→D→Option D:=Lr (fun _ _=>True) fun i j=>.bl (decide (i<j))
def dLe:D→D→Option D:=Lr (fun _ _=>True) fun i j=>.bl (decide (i≤j))
def dGt:D→D→Option D:=Lr (fun _ _=>True) fun i j=>.bl (decide (j<i))
def dGe:D→D→Option D:=Lr (fun _ _=>True) fun i j=>.bl (decide (j≤i))
def toV:D→Option V
  | .non=>some .non | .bl b=>some (.bl b) | .int i=>some (.int i) | .str x=>some (.str x)
  | _=>none
B5 Dj{H:Hp}{d:D}{v x:V}(h:toV d=some v)(r:Rv K H d x):x=v:=by
 cases d<;>B4 toV at h<;>first | (cases h;B4 Rv at r;~r) | cases h
mutual
def kJ:D→Option DV
 | .int i=>some (.int i)
 | .non=>some .non
 | .lst ds=>(tY ds).map DV.lst
 | .tup ds=>(tY ds).map DV.tup
 | _=>none
def tY:List D→Option (List DV)
 | []=>some []
 | d::ds=>(kJ d).bind fun x=>(tY ds).bind fun xs=>some (x::xs)
end
mutual
B5 wK{H:Hp}:∀(d:D)(x:DV)(v:V),kJ d=some x→Rv K H d v→Reads K H x v
 | .int i,x,v,h,r=>by B4 kJ at h;cases h;B4 Rv at r;B4 Reads;~r
 | .lst ds,x,v,h,r=>by
  B4 kJ at h
  B3⟨xs,h1,rfl⟩:=lJ h
  B4 Rv at r;B4 Reads
  B3⟨a,vs,r1,r2,r3⟩:=r
  ~⟨a,vs,r1,r2,Nz ds xs vs h1 r3⟩
 | .tup ds,x,v,h,r=>by
  B4 kJ at h
  B3⟨xs,h1,rfl⟩:=lJ h
  B4 Rv at r;B4 Reads
  B3⟨a,vs,r1,r2,r3⟩:=r
  ~⟨a,vs,r1,r2,Nz ds xs vs h1 r3⟩
 | .non,x,v,h,r=>by B4 kJ at h;cases h;B4 Rv at r;B4 Reads;~r
 | .bl _,x,v,h,r=>by B4 kJ at h;cases h
 | .str _,x,v,h,r=>by B4 kJ at h;cases h
 | .dk _ _,x,v,h,r=>by B4 kJ at h;cases h
 | .dt _ _,x,v,h,r=>by B4 kJ at h;cases h
 | .ins _ _ _,x,v,h,r=>by B4 kJ at h;cases h
B5 Nz{H:Hp}:∀(ds:List D)(xs:List DV)(vs:List V),tY ds=some xs→dF K H ds vs→dR K H xs vs
 | [],xs,vs,h,r=>by B4 tY at h;cases h;B4 dF at r;B4 dR;~r
 | d::ds,xs,vs,h,r=>by
  B4 tY at h
  B3⟨x,h1,h2⟩:=aX h
  B3⟨xt,h3,h4⟩:=aX h2
  cases h4
  B4 dF at r;B4 dR
  B3⟨y,ys,r1,r2,r3⟩:=r
  ~⟨y,ys,r1,wK d x y h1 r2,Nz ds xt ys h3 r3⟩
end
mutual
B5 aAv:∀(d e:D)(x:DV),kJ d=some x→kJ e=some x→d=e
 | .int i,e,x,h,h'=>by
  B4 kJ at h;cases h
  cases e<;>B4 kJ at h'<;>first | (cases h';rfl) | cases h' | (B3⟨xs,q1,q2⟩:=lJ h';cases q2)
 | .lst ds,e,x,h,h'=>by
  B4 kJ at h
  B3⟨xs,h1,rfl⟩:=lJ h
  cases e with
  | lst es=>B4 kJ at h';B3⟨ys,q1,q2⟩:=lJ h';cases q2;rw[Ie ds es xs h1 q1]
  | tup es=>B4 kJ at h';B3⟨ys,q1,q2⟩:=lJ h';cases q2
  | _=>B4 kJ at h';cases h'
 | .tup ds,e,x,h,h'=>by
  B4 kJ at h
  B3⟨xs,h1,rfl⟩:=lJ h
  cases e with
  | tup es=>B4 kJ at h';B3⟨ys,q1,q2⟩:=lJ h';cases q2;rw[Ie ds es xs h1 q1]
  | lst es=>B4 kJ at h';B3⟨ys,q1,q2⟩:=lJ h';cases q2
  | _=>B4 kJ at h';cases h'
 | .non,e,x,h,h'=>by
  B4 kJ at h;cases h
  cases e<;>B4 kJ at h'<;>first | (cases h';rfl) | cases h' | (B3⟨xs,q1,q2⟩:=lJ h';cases q2)
 | .bl _,e,x,h,h'=>by B4 kJ at h;cases h
 | .str _,e,x,h,h'=>by B4 kJ at h;cases h
 | .dk _ _,e,x,h,h'=>by B4 kJ at h;cases h
 | .dt _ _,e,x,h,h'=>by B4 kJ at h;cases h
 | .ins _ _ _,e,x,h,h'=>by B4 kJ at h;cases h
B5 Ie:∀(ds es:List D)(xs:List DV),tY ds=some xs→tY es=some xs→ds=es
 | [],[],xs,h,h'=>rfl
 | [],e::es,xs,h,h'=>by
  B4 tY at h h'
  cases h
  B3⟨x,h1,h2⟩:=aX h'
  B3⟨xt,h3,h4⟩:=aX h2
  cases h4
 | d::ds,[],xs,h,h'=>by
  B4 tY at h h'
  cases h'
  B3⟨x,h1,h2⟩:=aX h
  B3⟨xt,h3,h4⟩:=aX h2
  cases h4
 | d::ds,e::es,xs,h,h'=>by
  B4 tY at h h'
  B3⟨x,h1,h2⟩:=aX h
  B3⟨xt,h3,h4⟩:=aX h2
  cases h4
  B3⟨y,k1,k2⟩:=aX h'
  B3⟨yt,k3,k4⟩:=aX k2
  cases k4
  rw[aAv d e x h1 k1,Ie ds es xt h3 k3]
end
noncomputable def Ls(a b:D):Option D:=match toV a,toV b with
 | some x,some y=>if lz x y=true then some (.bl (decide (x=y)))else none
 | _,_=>match kJ a,kJ b with
  | some x,some y=>if x.depth≤32 then some (.bl (yS x y))else none
  | _,_=>none
B5 vJ:RB K (fun x y H Q=>rEq x y H Q∨aFJ K false x y H Q) Ls:=fun x y H a b d Q ra rb q k=>by
 B4 Ls at q
 split at q
 ·rename_i u v h1 h2
  split at q
  ·rename_i hs
   cases q
   rw[Dj h1 ra,Dj h2 rb]
   ~.inl ⟨hs,k _ H (aU.refl _) (.jF rfl (by B4 Rv;rfl))⟩
  ·cases q
 ·split at q
  ·rename_i u v h1 h2
   split at q
   ·rename_i hs
    cases q
    ~.inr ⟨u,v,wK a u x h1 ra,wK b v y h2 rb,hs,k _ H (aU.refl _) (.jF rfl (by B4 Rv;rfl))⟩
   ·cases q
  ·cases q
noncomputable def RC(a b:D):Option D:=match toV a,toV b with
 | some x,some y=>if lz x y=true then some (.bl (!decide (x=y)))else none
 | _,_=>match kJ a,kJ b with
  | some (.lst x),some (.lst y)=>if iI x≤32 then some (.bl (!yS (.lst x) (.lst y)))else none
  | some (.tup x),some (.tup y)=>if iI x≤32 then some (.bl (!yS (.tup x) (.tup y)))else none
  | _,_=>none
def aHS(K:aF):R2:=fun x y H Q=>rNe x y H Q∨(∃ds es,Reads K H (.lst ds) x∧Reads K H (.lst es) y∧iI ds≤32∧Q (.bl (!yS (.lst ds) (.lst es))) H)∨(∃ds es,Reads K H (.tup ds) x∧Reads K H (.tup es) y∧iI ds≤32∧Q (.bl (!yS (.tup ds) (.tup es))) H)
B5 Ur:RB K (aHS K) RC:=fun x y H a b d Q ra rb q k=>by
 B4 RC at q
 split at q
 ·rename_i u v h1 h2
  split at q
  ·rename_i hs
   cases q
   rw[Dj h1 ra,Dj h2 rb]
   ~.inl ⟨hs,k _ H (aU.refl _) (.jF rfl (by B4 Rv;rfl))⟩
  ·cases q
 ·split at q
  ·rename_i u v h1 h2
   split at q
   ·rename_i hs
    cases q
    ~.inr (.inl ⟨u,v,wK a _ x h1 ra,wK b _ y h2 rb,hs,k _ H (aU.refl _) (.jF rfl (by B4 Rv;rfl))⟩)
   ·cases q
  ·rename_i u v h1 h2
   split at q
   ·rename_i hs
    cases q
    ~.inr (.inr ⟨u,v,wK a _ x h1 ra,wK b _ y h2 rb,hs,k _ H (aU.refl _) (.jF rfl (by B4 Rv;rfl))⟩)
   ·cases q
  ·cases q
B5 or_eq(hu:X.A.units+64<cLine)(hk:X.K=K):uM X (compareOp .Eq) (fun x y H Q=>rEq x y H Q∨aFJ K false x y H Q):=by subst hk;~aHB.or (aFK hu)
B5 Us(hu:X.A.units+64<cLine)(hk:X.K=K):uM X (compareOp .NotEq) (aHS K):=by subst hk;~aHC.or ((aFL hu).or (aFN hu))
def GP:List D→Option (List V)
 | []=>some []
 | d::ds=>(toV d).bind fun x=>(GP ds).bind fun xs=>some (x::xs)
B5 bw{H:Hp}:∀{ds:List D} {vs xs:List V},GP ds=some vs→dF K H ds xs→xs=vs
 | [],vs,xs,h,r=>by B4 GP at h;cases h;B4 dF at r;~r
 | d::ds,vs,xs,h,r=>by
  B4 GP at h
  B3⟨x,h1,h2⟩:=aX h
  B3⟨xt,h3,h4⟩:=aX h2
  cases h4
  B4 dF at r
  B3⟨y,ys,rfl,r2,r3⟩:=r
  rw[Dj h1 r2,bw h3 r3]
def yG:D→Option (List D)
 | .lst ds=>some ds
 | .tup ds=>some ds
 | _=>none
B5 Lw{H:Hp}{d:D}{ds:List D}{v:V}(h:yG d=some ds)(r:Rv K H d v):∃p xs,v=.ref p∧(pQ K H p xs∨xR K H p xs)∧dF K H ds xs:=by
 cases d with
 | lst es=>B4 yG at h;cases h;B4 Rv at r;B3⟨p,xs,r1,r2,r3⟩:=r;~⟨p,xs,r1,.inl r2,r3⟩
 | tup es=>B4 yG at h;cases h;B4 Rv at r;B3⟨p,xs,r1,r2,r3⟩:=r;~⟨p,xs,r1,.inr r2,r3⟩
 | _=>B4 yG at h;cases h
def xq(neg:Bool)(a b:D):Option D:=(toV a).bind fun x=>(yG b).bind fun ds=>(GP ds).bind fun xs=>if yO x=true∧xs.all yO=true then some (.bl (if neg then !inV x xs else inV x xs))else none
B5 GQ(neg:Bool):RB K (rIn K neg) (xq neg):=fun x y H a b d Q ra rb q k=>by
 B4 xq at q
 B3⟨u,h1,q⟩:=aX q
 B3⟨ds,h2,q⟩:=aX q
 B3⟨us,h3,q⟩:=aX q
 split at q
 ·rename_i c
  cases q
  B3⟨p,xs,rfl,r2,r3⟩:=Lw h2 rb
  have:=bw h3 r3
  subst this
  rw[Dj h1 ra]
  ~⟨p,xs,rfl,r2,c.1,c.2,k _ H (aU.refl _) (.jF rfl (by B4 Rv;rfl))⟩
 ·cases q
B5 aEo(hk:X.K=K):uM X (compareOp .In) (rIn K false):=by subst hk;~nu
B5 Oa(hk:X.K=K):uM X (compareOp .NotIn) (rIn K true):=by subst hk;~Xg
end
section
variable{κ:Type} [DecidableEq κ] {K:aF} {H:Hp}
def posK:List κ→κ→Option Nat
 | [],_=>none
 | a::ks,k=>if a=k then some 0 else(posK ks k).map (·+1)
B5 sS:∀{ks:List κ} {xs:List V} {k:κ},ks.length=xs.length→wH (ks.zip xs) k=(posK ks k).bind fun j=>xs[j]?
 | [],xs,k,h=>by B4 posK;rfl
 | a::ks,[],k,h=>by simp at h
 | a::ks,x::xs,k,h=>by
  have ih:=sS (ks:=ks) (xs:=xs) (k:=k) (by simpa using h)
  B4 posK
  rw[Q7]
  B4 wH at ih ⊢
  rw[P2]
  by_cases c:a=k
  ·rw[if_pos c,decide_eq_true c];rfl
  ·rw[if_neg c,decide_eq_false c]
   show Option.map _ (List.find? _ (ks.zip xs))=_
   rw[ih]
   cases posK ks k<;>rfl
B5 rJ:∀{ks:List κ} {k:κ} {j:Nat},posK ks k=some j→j<ks.length∧ks[j]?=some k
 | [],k,j,h=>by B4 posK at h;cases h
 | a::ks,k,j,h=>by
  B4 posK at h
  split at h
  ·rename_i c;cases h;~⟨by simp,by simp[c]⟩
  ·B3⟨i,h1,rfl⟩:=lJ h
   B3⟨a1,a2⟩:=rJ h1
   ~⟨by simpa using a1,by simpa using a2⟩
B5 Aq:∀{ks:List κ} {k:κ},posK ks k=none↔k∉ks
  | [],k=>by B4 posK;simp
  | a::ks,k=>by
    B4 posK
    have ih:=Aq (ks:=ks) (k:=k)
    split
    · rename_i c;simp[c]
    · rename_i c
      rw[c6,ih,C5]
      constructor
      · rintro h (q | q)
        · ~c q.symm
        · ~h q
      · intro h q;~h (.inr q)
def lE(ks:List κ)(k:κ):List κ:=if(posK ks k).isSome then ks else ks++[k]
def putD{β:Type}(ks:List κ)(ds:List β)(k:κ)(d:β):List β:=if(posK ks k).isSome then R1 (fun k' d'=>if k'=k then d else d') ks ds else ds++[d]
B5 vK{β:Type}{ks:List κ}{ds:List β}{k:κ}{d:β}(h:ks.length=ds.length):(lE ks k).length=(putD ks ds k d).length:=by
 B4 lE putD
 split
 ·rw[List.length_zipWith,h,i8]
 ·rw[C7,C7,h];rfl
B5 GR{ks:List κ}{xs:List V}{k:κ}{v:V}(h:ks.length=xs.length):putK (ks.zip xs) k v=(lE ks k).zip (putD ks xs k v):=by
 have ha:((ks.zip xs).any fun kv=>decide (kv.1=k))=(posK ks k).isSome:=by
  rw[Ng,sS h]
  cases q:posK ks k with
  | none=>rfl
  | some j=>
   B3⟨h1,h2⟩:=rJ q
   rw[B9,B6 A6]
   rfl
 B4 putK lE putD
 rw[ha]
 by_cases c:(posK ks k).isSome=true
 ·rw[if_pos c,if_pos c,if_pos c]
  clear ha c
  induction ks generalizing xs with
  | nil=>rfl
  | cons a ks ih=>
   cases xs with
   | nil=>simp at h
   | cons x xs=>
    rw[Q7,D5,J4,Q7,ih (by simpa using h)]
    split<;>rfl
 ·rw[if_neg c,if_neg c,if_neg c,List.zip_append h]
  rfl
end
def Sq:D→Option Key
 | .int i=>some (.inl i)
 | .str x=>some (.inr x)
 | _=>none
B5 Lx{K:aF}{H:Hp}{d:D}{k:Key}{v:V}(h:Sq d=some k)(r:Rv K H d v):v=kV k:=by
 cases d<;>B4 Sq at h<;>first | (cases h;B4 Rv at r;~r) | cases h
def kD:Key→D
 | .inl i=>.int i
 | .inr x=>.str x
section
variable{K:aF}{X:Cx}{e a b c:Expr}{es:List Expr}{t ta tb:TE}{f g:FE}{pos:Pos}
def Dk(neg:Bool)(k d:D):Option D:=match d with
 | .dk ks ds=>(Sq k).bind fun k=>some (.bl (if neg then !(posK ks k).isSome else(posK ks k).isSome))
 | _=>none
def aLd(d k:D):Option D:=match d with
 | .dk ks ds=>(Sq k).bind fun k=>(posK ks k).bind fun j=>ds[j]?
 | _=>none
B5 UT{ks:List Key}{xs:List V}{k:Key}(h:ks.length=xs.length):(wH (ks.zip xs) k).isSome=(posK ks k).isSome:=by
 rw[sS h]
 cases q:posK ks k with
 | none=>rfl
 | some j=>
  B3⟨h1,h2⟩:=rJ q
  rw[B9,B6 A6]
  rfl
B5 Ob{H:Hp}{x y:V}{ka d r:D}{neg:Bool}(h:Dk neg ka d=some r)(rk:Rv K H ka y)(rd:Rv K H d x):∃p o,x=.ref p∧Ky H p y o∧r=.bl (if neg then !o.isSome else o.isSome):=by
 B4 Dk at h
 split at h
 ·rename_i ks ds
  B3⟨k,h1,h2⟩:=aX h
  cases h2
  B4 Rv at rd
  B3⟨p,xs,r1,r2,r3,r4⟩:=rd
  &⟨p,wH (ks.zip xs) k,r1,.inl ⟨_,k,r2,Lx h1 rk,rfl⟩,?_⟩
  rw[UT r3]
 ·cases h
B5 aAw(hu:X.A.units+1<cLine)(ha:XR K X a ta f)(hb:XR K X b tb g)(h1:behindInMarks .In b=false:=by first | ~nobehind _ A8 A8 | rfl):XN K X (.Compare a [.In] [b] pos) (aCO ta tb) (f2 (Dk false) f g):=
 ⟨ha.hk,RG (SQ hu ha.pe hb.pe) h1,fun σ H e d Q re q k=>by
  B3⟨da,db,q1,q2,q3⟩:=Lq q
  &ha.ev σ H H e da _ (Zn.self K H) re q1 fun x H1 Z1 s1 t1 z1 rx=>hb.ev σ H1 Z1 e db _ z1 (re.same t1) q2 fun y H2 Z2 s2 t2 z2 ry=>?_
  B3⟨p,o,e1,e2,e3⟩:=Ob q3 (z2.sm.rv _ _ (t2.rv _ _ rx)) (z2.sm.rv _ _ ry)
  subst e3
  ~⟨p,o,e1,e2,k _ H2 (s1.trans s2) (.jF rfl (by B4 Rv;rfl))⟩⟩
B5 qp(hu:X.A.units+1<cLine)(ha:XR K X a ta f)(hb:XR K X b tb g)(h1:behindInMarks .NotIn b=false:=by first | ~nobehind _ A8 A8 | rfl):XN K X (.Compare a [.NotIn] [b] pos) (Xk ta tb) (f2 (Dk true) f g):=
 ⟨ha.hk,RG (Uj hu ha.pe hb.pe) h1,fun σ H e d Q re q k=>by
  B3⟨da,db,q1,q2,q3⟩:=Lq q
  &ha.ev σ H H e da _ (Zn.self K H) re q1 fun x H1 Z1 s1 t1 z1 rx=>hb.ev σ H1 Z1 e db _ z1 (re.same t1) q2 fun y H2 Z2 s2 t2 z2 ry=>?_
  B3⟨p,o,e1,e2,e3⟩:=Ob q3 (z2.sm.rv _ _ (t2.rv _ _ rx)) (z2.sm.rv _ _ ry)
  subst e3
  ~⟨p,o,e1,e2,k _ H2 (s1.trans s2) (.jF rfl (by B4 Rv;rfl))⟩⟩
B5 aEp{op:CmpOp}(h:XN K X (.Compare a [op] [b] pos) t f)(pc:PC X op a b t)(h1:behindInMarks op b=false):XT K X (.Compare a [op] [b] pos) (tB t) (fB f):=⟨h.hk,aE9 pc h1,aEn h.ev.r⟩
B5 Ut(hu:X.A.units+1<cLine)(ha:XR K X a ta f)(hb:XR K X b tb g)(h1:behindInMarks .NotIn b=false:=by first | ~nobehind _ A8 A8 | rfl):XT K X (.Compare a [.NotIn] [b] pos) (tB (Xk ta tb)) (fB (f2 (Dk true) f g)):=aEp (qp hu ha hb h1) (Uj hu ha.pe hb.pe) h1
def fJ(a i:D):Option D:=match i with
 | .int i=>(yG a).bind fun ds=>QX ds i
 | _=>none
B5 aEq{H:Hp}{ds:List D}{xs:List V}{i:Int}{d:D}(r:dF K H ds xs)(h:QX ds i=some d):∃v,QX xs i=some v∧Rv K H d v:=by
 B4 QX at h ⊢
 B3⟨j,h1,h2⟩:=aX h
 rw[r.length,h1]
 ~r.get h2
B5 aEr(hk:X.K=K):IxR X (rIx K):=by subst hk;~aFy
B5 bQ(ha:XR K X a ta f)(hb:XR K X b tb g)(hs:Xd b):XR K X (.Subscript a b pos) (DR (rIx K) ta tb) (f2 fJ f g):=
 ⟨ha.hk,aEh (aEr ha.hk) ha.pe hb.pe hs,aHR (fun x y H Z da db d Q z ra rb q k=>by
  B4 fJ at q
  split at q
  ·rename_i i
   B3⟨ds,h1,h2⟩:=aX q
   B4 Rv at rb
   cases da with
   | lst es=>
    B4 yG at h1;cases h1
    B4 Rv at ra
    B3⟨p,xs,r1,r2,r3⟩:=ra
    B3⟨v,e1,e2⟩:=aEq r3 h2
    ~.inl ⟨p,xs,i,v,r1,rb,z.sm.seq r2,e1,k v H Z (aU.refl _) (aU.refl _) z e2⟩
   | tup es=>
    B4 yG at h1;cases h1
    B4 Rv at ra
    B3⟨p,xs,r1,r2,r3⟩:=ra
    B3⟨v,e1,e2⟩:=aEq r3 h2
    ~.inr (.inl ⟨p,xs,i,v,r1,rb,z.sm.tup r2,e1,k v H Z (aU.refl _) (aU.refl _) z e2⟩)
   | _=>B4 yG at h1;cases h1
  ·cases q) ha.ev hb.ev⟩
end
end L2


namespace L2
open PySem PySem.Spec PyProof.Rows
section
variable{K:aF}{X:Cx}{e a b c:Expr}{es rest:List Expr}{t ta tb:TE}{f g:FE}{tA:TA}{fs:FA}{pos:Pos}{tc:TT}{fc fd:FT}{td:TT}
B5 aP(hk:X.K=K:=by rfl):XA K X [] lG aO:=⟨hk,gU,aAr⟩
B5 aG(h:XR K X e t f)(hs:XA K X es tA fs)(hst:starEach (e::es) X.env=(false,eval e X.env)::starEach es X.env:=by rfl):XA K X (e::es) (cI t tA) (aB f fs):=⟨h.hk,cH h.pe hs.pa hst,aC2 h.ev hs.ev⟩
B5 jB(hk:X.K=K:=by rfl):XB K X [] lG aO:=⟨hk,gU,aFU⟩
B5 bI(h:XN K X e t f)(hs:XB K X es tA fs)(hst:starEach (e::es) X.env=(false,eval e X.env)::starEach es X.env:=by rfl):XB K X (e::es) (cI t tA) (aB f fs):=⟨h.hk,cH h.pe hs.pa hst,aC3 h.ev hs.ev⟩
B5 yX(h:XB K X es tA fs):XN K X (.List es pos) (zm tA) (lX fs):=⟨h.hk,zp h.pa,aFV h.ev⟩
B5 nT(h:XA K X es tA fs):XR K X (.List es pos) (zm tA) (lX fs):=⟨h.hk,zp h.pa,aFX h.ev⟩
B5 qO{x1:Nat}(h:XB K X es tA fs):XN K X (.Tuple es x1 pos) (DX tA) (vI fs):=⟨h.hk,RX h.pa,aFW h.ev⟩
B5 aC5:Nu K SX (fC (.dk [] [])):=fun σ H e d Q re q k=>by
 cases q
 intro p hp
 &k _ _ (cP hp _) ⟨(·=p),?_,fun a q=>by cases q;~hp⟩
 B4 Ow
 ~⟨p,[],nil,rfl,cD,rfl,fun z=>z,fun x=>⟨.inl,fun z=>z.elim id False.elim⟩,by B4 dU;~⟨fun _ z=>z,rfl⟩⟩
B5 wL(hk:X.K=K:=by rfl):XN K X (.Dict [] [] pos) SX (fC (.dk [] [])):=⟨hk,aAg,aC5⟩
def Dl(f g:FT):FT:=fun e=>(f e).bind fun c=>if c=true then g e else some false
def qt(f g:FT):FT:=fun e=>(f e).bind fun c=>if c=true then some true else g e
def Xu(f:FT):FT:=fun e=>(f e).map fun c=>!c
B5 aFZ(h1:UJ K tc fc)(h2:UJ K td fd):UJ K (aFb tc td) (Dl fc fd):=fun σ H e b Q re q k=>by
 B4 Dl at q
 B3⟨c,q1,q2⟩:=aX q
 &h1 σ H e c _ re q1 fun H1 s1=>?_
 cases c with
 | true=>rw[if_pos rfl]at q2 ⊢;~h2 σ H1 e b Q (re.same s1) q2 fun H2 s2=>k H2 (s1.trans s2)
 | false=>rw[if_neg A8]at q2 ⊢;cases q2;~k H1 s1
B5 aHT(h1:UJ K tc fc)(h2:UJ K td fd):UJ K (tOr tc td) (qt fc fd):=fun σ H e b Q re q k=>by
 B4 qt at q
 B3⟨c,q1,q2⟩:=aX q
 &h1 σ H e c _ re q1 fun H1 s1=>?_
 cases c with
 | false=>rw[if_neg A8]at q2 ⊢;~h2 σ H1 e b Q (re.same s1) q2 fun H2 s2=>k H2 (s1.trans s2)
 | true=>rw[if_pos rfl]at q2 ⊢;cases q2;~k H1 s1
B5 aF0(h1:UJ K tc fc):UJ K (aFc tc) (Xu fc):=fun σ H e b Q re q k=>by
 B4 Xu at q
 B3⟨c,q1,rfl⟩:=lJ q
 ~h1 σ H e c _ re q1 k
B5 XW.xt(h:XW K X e tc fc):XT K X e tc fc:=⟨h.hk,h.pw.pt,h.ev⟩
B5 Ly(h:XT K X a tc fc):XW K X (.BoolOp .And [a] pos) tc fc:=⟨h.hk,aCs h.pt,h.ev⟩
B5 UW(h:XT K X a tc fc):XW K X (.BoolOp .Or [a] pos) tc fc:=⟨h.hk,aFd h.pt,h.ev⟩
B5 Xv(h:XT K X a tc fc)(h2:XW K X (.BoolOp .And (b::rest) pos) td fd):XW K X (.BoolOp .And (a::b::rest) pos) (aFb tc td) (Dl fc fd):=⟨h.hk,aFe h.pt h2.pw,aFZ h.ev h2.ev⟩
B5 cg(h:XT K X a tc fc)(h2:XW K X (.BoolOp .Or (b::rest) pos) td fd):XW K X (.BoolOp .Or (a::b::rest) pos) (tOr tc td) (qt fc fd):=⟨h.hk,aHo h.pt h2.pw,aHT h.ev h2.ev⟩
B5 Xw(h:XT K X a tc fc):XT K X (.UnaryOp .Not a pos) (aFc tc) (Xu fc):=⟨h.hk,aFf h.pt,aF0 h.ev⟩
def qu(f g:FE):FE:=fun e=>(fB f e).bind fun c=>if c=true then some (.bl true)else g e
B5 aC6{op:BoolOp}(h:XN K X a t f):XN K X (.BoolOp op [a] pos) t f:=⟨h.hk,aFg h.pe,h.ev⟩
B5 aHU(h:XR K X a ta f)(h2:XN K X (.BoolOp .Or (b::rest) pos) tb g):XN K X (.BoolOp .Or (a::b::rest) pos) (aHp ta tb) (qu f g):=⟨h.hk,aHq h.pe h2.pe,fun σ H e d Q re q k=>by
 B4 qu at q
 B3⟨c,q1,q2⟩:=aX q
 &h.ev σ H H e _ _ (Zn.self K H) re (Xr q1) fun v H1 Z1 s1 t1 z1 rv=>?_
 B4 Rv at rv
 &⟨c,rv,?_⟩
 cases c with
 | false=>rw[if_neg A8]at q2 ⊢;~h2.ev σ H1 e d Q (re.same s1) q2 fun v H2 s2 n=>k v H2 (s1.trans s2) (n.back s1)
 | true=>rw[if_pos rfl]at q2 ⊢;cases q2;~k _ H1 s1 (.jF rfl (by B4 Rv;rfl))⟩
def fIf(c:FT)(f g:FE):FE:=fun e=>(c e).bind fun b=>if b=true then f e else g e
B5 aEt(hc:XT K X c tc fc)(ha:XN K X a ta f)(hb:XN K X b tb g):XN K X (.IfExp c a b pos) (tIf tc ta tb) (fIf fc f g):=⟨ha.hk,yf hc.pt ha.pe hb.pe,fun σ H e d Q re q k=>by
 B4 fIf at q
 B3⟨c,q1,q2⟩:=aX q
 &hc.ev σ H e c _ re q1 fun H1 s1=>?_
 cases c with
 | true=>rw[if_pos rfl]at q2 ⊢;~ha.ev σ H1 e d Q (re.same s1) q2 fun v H2 s2 n=>k v H2 (s1.trans s2) (n.back s1)
 | false=>rw[if_neg A8]at q2 ⊢;~hb.ev σ H1 e d Q (re.same s1) q2 fun v H2 s2 n=>k v H2 (s1.trans s2) (n.back s1)⟩
B5 aF1(ha:XR K X a ta f):XN K X (.UnaryOp .USub a pos) (tUn (rU fun i=>.int (-i)) ta) (fun e=>(f e).bind fun d=>match d with | .int i=>some (.int (-i)) | _=>none):=⟨ha.hk,aHz aFr ha.pe,fun σ H e d Q re q k=>by
 B3⟨c,q1,q2⟩:=aX q
 split at q2
 ·rename_i i
  cases q2
  &ha.ev σ H H e _ _ (Zn.self K H) re q1 fun v H1 Z1 s1 t1 z1 rv=>?_
  B4 Rv at rv
  ~⟨i,rv,k _ H1 s1 (.jF rfl (by B4 Rv;rfl))⟩
 ·cases q2⟩
def fL(φ:List D→Option D)(fs:FA):FE:=fun e=>(fs e).bind φ
def xU(K:aF)(r:List V→Hp→VK→Prop)(φ:List D→Option D):Prop:=∀(vs:List V)(H:Hp)(ds:List D)(d:D)(Q:VK),dF K H ds vs→φ ds=some d →
 (∀v H',aU H H'→Nr K H H' d v→Q v H')→r vs H Q
B5 aEu{r:List V→Hp→VK→Prop}{φ:List D→Option D}(o:xU K r φ)(h:EvA K tA fs):Nu K (tCB r tA) (fL φ fs):=fun σ H e d Q re q k=>by
 B3⟨ds,q1,q2⟩:=aX q
 ~h σ H H e ds _ (Zn.self K H) re q1 fun vs H1 Z1 s1 t1 z1 rs=>o vs H1 ds d Q (z1.sm.bj _ _ rs) q2 fun v H2 s2 n=>k v H2 (s1.trans s2) (n.back s1)
B5 iC{r:List V→Hp→VK→Prop}{φ:List D→Option D}{x:Str}{id:String}{p:Pos}(o:xU K r φ)(hc:mZ X (.builtin id) r)(hg:Gl X x)(hm:X.mg x=none)(hv:bootBuiltins x=some (.builtin id))(ha:XA K X (e::es) tA fs)(hn:x ≠ "__name__" := by decide) (hdb:(x==("__debug__" : Str))=false:=by decide)
  (he:starEach (e::es) X.env=(false,eval e X.env)::starEach es X.env:=by rfl) (hpl:(backTo pos (starEach es X.env)).any (·.1)=false:=by rfl):XN K X (.Call (.Name x p) (e::es) [] pos) (tCB r tA) (fL φ fs):=⟨ha.hk,EY hc hg hm hv ha.pa hn hdb he hpl,aEu o ha.ev⟩
B5 Fj{r:List V→Hp→VK→Prop}{φ:List D→Option D}{x:Str}{id:String}{p:Pos}(o:xU K r φ)(hc:mZ X (.type id) r)(hg:Gl X x)(hm:X.mg x=none)(hv:bootBuiltins x=some (.type id))(ha:XA K X (e::es) tA fs)(hn:x ≠ "__name__" := by decide) (hdb:(x==("__debug__" : Str))=false:=by decide)
  (he:starEach (e::es) X.env=(false,eval e X.env)::starEach es X.env:=by rfl) (hpl:(backTo pos (starEach es X.env)).any (·.1)=false:=by rfl):XN K X (.Call (.Name x p) (e::es) [] pos) (tCB r tA) (fL φ fs):=⟨ha.hk,nq hc hg hm hv ha.pa hn hdb he hpl,aEu o ha.ev⟩
B5 sU{H:Hp}{d:D}{vs:List V}(h:dF K H [d] vs):∃v,vs=[v]∧Rv K H d v:=by
 B4 dF at h
 B3⟨y,ys,rfl,h1,h2⟩:=h
 B4 dF at h2
 subst h2
 ~⟨y,rfl,h1⟩
B5 aAx{H:Hp}{d d':D}{vs:List V}(h:dF K H [d,d'] vs):∃v v',vs=[v,v']∧Rv K H d v∧Rv K H d' v':=by
 B4 dF at h
 B3⟨y,ys,rfl,h1,h2⟩:=h
 B3⟨v,rfl,h3⟩:=sU h2
 ~⟨y,v,rfl,h1,h3⟩
def jU:List D→Option D
 | [d]=>(yG d).map fun ds=>.int ds.length
 | _=>none
def aHV(K:aF):List V→Hp→VK→Prop:=fun xs H Q=>∃p ys,xs=[.ref p]∧(pQ K H p ys∨xR K H p ys)∧Q (.int ys.length) H
B5 gD:xU K (aHV K) jU:=fun vs H ds d Q rs q k=>by
 B4 jU at q
 split at q
 ·rename_i d0
  B3⟨es,q1,rfl⟩:=lJ q
  B3⟨v,rfl,r⟩:=sU rs
  B3⟨p,xs,rfl,r2,r3⟩:=Lw q1 r
  &⟨p,xs,rfl,r2,k _ H (aU.refl _) (.jF rfl ?_)⟩
  rw[r3.length];B4 Rv;rfl
 ·cases q
B5 gF(hk:X.K=K):mZ X (.builtin "len") (aHV K):=by subst hk;~Xh
def dList:List D→Option D
 | [d]=>(yG d).bind fun ds=>if D.eU ds=true then some (.lst ds)else none
 | _=>none
def aEv(K:aF):List V→Hp→VK→Prop:=fun xs H Q=>∃p ys,xs=[.ref p]∧(pQ K H p ys∨xR K H p ys)∧∀l,H l=none→Q (.ref l) (upd H l (.lst ys))
B5 Av:xU K (aEv K) dList:=fun vs H ds d Q rs q k=>by
 B4 dList at q
 split at q
 ·rename_i d0
  B3⟨es,q1,q2⟩:=aX q
  split at q2
  ·rename_i hi
   cases q2
   B3⟨v,rfl,r⟩:=sU rs
   B3⟨p,xs,rfl,r2,r3⟩:=Lw q1 r
   ~⟨p,xs,rfl,r2,fun l hl=>k _ _ (cP hl _) (rH (aU.refl _) (.eU hi r3) hl)⟩
  ·cases q2
 ·cases q
B5 Aw(hk:X.K=K):mZ X (.type "list") (aEv K):=by subst hk;~Xi
def Oc:List D→Option D
 | [.dk ks ds]=>some (.lst (ks.map kD))
 | _=>none
B5 Uu:∀ks:List Key,D.eU (ks.map kD)=true
 | []=>by rw[L3];B4 D.eU;rfl
 | k::ks=>by rw[D5];B4 D.eU;rw[Uu ks];cases k<;>(B4 kD D.jF;rfl)
B5 GX{H:Hp}:∀ks:List Key,dF K H (ks.map kD) (ks.map kV)
 | []=>by rw[L3,L3];B4 dF;rfl
 | k::ks=>by rw[D5,D5];B4 dF;~⟨_,_,rfl,by cases k<;>(B4 kD kV Rv;rfl),GX ks⟩
def aF2:List V→Hp→VK→Prop:=fun xs H Q=>∃p kvs,xs=[.ref p]∧Rd H p (.dK kvs)∧∀l,H l=none→Q (.ref l) (upd H l (.lst (kvs.map fun kv=>kV kv.1)))
B5 aAy{ks:List Key}{xs:List V}(h:ks.length=xs.length):((ks.zip xs).map fun kv=>kV kv.1)=ks.map kV:=by
 have:((ks.zip xs).map fun kv=>kV kv.1)=((ks.zip xs).map Prod.fst).map kV:=by rw[K4];rfl
 rw[this,List.map_fst_zip A6]
B5 HD:xU K aF2 Oc:=fun vs H ds d Q rs q k=>by
 B4 Oc at q
 split at q
 ·rename_i ks es
  cases q
  B3⟨v,rfl,r⟩:=sU rs
  B4 Rv at r
  B3⟨p,xs,rfl,r2,r3,r4⟩:=r
  &⟨p,_,rfl,r2,fun l hl=>?_⟩
  rw[aAy r3]
  ~k _ _ (cP hl _) (rH (aU.refl _) (.eU (Uu ks) (GX ks)) hl)
 ·cases q
def Od:List D→Option D
 | [d]=>(yG d).bind fun ds=>if D.eU ds=true then some (.tup ds)else none
 | _=>none
def aAz(K:aF):List V→Hp→VK→Prop:=fun xs H Q=>∃p ys,xs=[.ref p]∧((pQ K H p ys∧∀l,H l=none→Q (.ref l) (upd H l (.tup ys)))∨(xR K H p ys∧Q (.ref p) H))
B5 aAA:xU K (aAz K) Od:=fun vs H ds d Q rs q k=>by
 B4 Od at q
 split at q
 ·rename_i d0
  B3⟨es,q1,q2⟩:=aX q
  split at q2
  ·rename_i hi
   cases q2
   B3⟨v,rfl,r⟩:=sU rs
   B3⟨p,xs,rfl,r2,r3⟩:=Lw q1 r
   &⟨p,xs,rfl,?_⟩
   rcases r2 with r2 | r2
   ·~.inl ⟨r2,fun l hl=>k _ _ (cP hl _) (bu (.eU hi r3) hl)⟩
   ·~.inr ⟨r2,k _ H (aU.refl _) (.jF (by B4 D.jF;~hi) (by B4 Rv;~⟨p,xs,rfl,r2,r3⟩))⟩
  ·cases q2
 ·cases q
B5 aAB(hk:X.K=K):mZ X (.type "tuple") (aAz K):=by subst hk;~Ry
def intsOf:List D→Option (List Int)
 | []=>some []
 | .int i::ds=>(intsOf ds).map (i::·)
 | _=>none
B5 jV:∀ns:List Int,intsOf (ns.map D.int)=some ns
 | []=>rfl
 | n::ns=>by rw[D5];B4 intsOf;rw[jV ns];rfl
B5 tZ:∀{ds:List D} {ns:List Int},intsOf ds=some ns→ds=ns.map D.int
 | [],ns,h=>by B4 intsOf at h;cases h;rfl
 | d::ds,ns,h=>by
  cases d with
  | int i=>
   B4 intsOf at h
   B3⟨ms,h1,rfl⟩:=lJ h
   rw[D5,←tZ h1]
  | _=>B4 intsOf at h;cases h
B5 jM{H:Hp}:∀{ns:List Int} {xs:List V},dF K H (ns.map D.int) xs↔xs=ns.map V.int
 | [],xs=>by rw[L3,L3];B4 dF;rfl
 | n::ns,xs=>by
  rw[D5,D5]
  B4 dF
  constructor
  ·rintro⟨y,ys,rfl,h1,h2⟩
   B4 Rv at h1
   rw[h1,jM.mp h2]
  ·rintro rfl
   ~⟨_,_,rfl,by B4 Rv;rfl,jM.mpr rfl⟩
B5 dG:∀ns:List Int,D.eU (ns.map D.int)=true
 | []=>by rw[L3];B4 D.eU;rfl
 | n::ns=>by rw[D5];B4 D.eU D.jF;rw[dG ns];rfl
B5 yZ{H:Hp}{ds:List D}{ns:List Int}{v:V}(h:intsOf ds=some ns)(r:Rv K H (.lst ds) v):∃p,v=.ref p∧pQ K H p (ns.map V.int):=by
 rw[tZ h]at r
 B4 Rv at r
 B3⟨p,xs,r1,r2,r3⟩:=r
 rw[jM.mp r3]at r2
 ~⟨p,r1,r2⟩
def sortI(ns:List Int):List Int:=ns.mergeSort fun a b=>decide (a≤b)
B5 wM(ns:List Int):rising ns (sortI ns):=⟨List.mergeSort_perm _ _,by
 have h:=List.pairwise_mergeSort (le:=fun a b:Int=>decide (a≤b)) (fun a b c h1 h2=>decide_eq_true (Int.le_trans (of_decide_eq_true h1) (of_decide_eq_true h2))) (fun a b=>by
  rw[m8,decide_eq_true_iff,decide_eq_true_iff];~Int.le_total a b) ns
 ~h.imp fun h=>of_decide_eq_true h⟩
B5 Uv:∀{l m:List Int},l.Pairwise (·≤·)→m.Pairwise (·≤·)→l.Perm m→l=m
  | [],m,_,_,p=>(List.Perm.nil_eq p)
  | a::l,[],_,_,p=>absurd p.symm (by simp)
  | a::l,b::m,h1,h2,p=>by
    B3⟨h1a,h1b⟩:=J7.mp h1
    B3⟨h2a,h2b⟩:=J7.mp h2
    have e:a=b:=by
      have q1:a∈b::m:=p.mem_iff.mp C9
      have q2:b∈a::l:=p.mem_iff.mpr C9
      rcases C5.mp q1 with q1 | q1
      · ~q1
      · rcases C5.mp q2 with q2 | q2
        · ~q2.symm
        · have:=h1a b q2
          have:=h2a a q1
          omega
    subst e
    rw[Uv h1b h2b (List.Perm.cons_inv p)]
B5 Fq{ns ms:List Int}(h:rising ns ms):ms=sortI ns:=Uv h.2 (wM ns).2 (h.1.trans (wM ns).1.symm)
def Ft:List D→Option D
 | [.lst ds]=>(intsOf ds).bind fun ns=>if ns.length<64 then some (.lst ((sortI ns).map D.int))else none
 | _=>none
def cj(K:aF):List V→Hp→VK→Prop:=fun xs H Q=>∃(p:Addr)(ns:List Int),xs=[.ref p]∧pQ K H p (ns.map V.int)∧ns.length<64∧∀l ms,H l=none→rising ns ms→Q (.ref l) (upd H l (.lst (ms.map V.int)))
B5 Uw:xU K (cj K) Ft:=fun vs H ds d Q rs q k=>by
 B4 Ft at q
 split at q
 ·B3⟨ns,q1,q2⟩:=aX q
  split at q2
  ·rename_i hl
   cases q2
   B3⟨v,rfl,r⟩:=sU rs
   B3⟨p,rfl,r2⟩:=yZ q1 r
   &⟨p,ns,rfl,r2,hl,fun l ms hl hr=>?_⟩
   rw[Fq hr]
   ~k _ _ (cP hl _) (rH (aU.refl _) (.eU (dG _) (jM.mpr rfl)) hl)
  ·cases q2
 ·cases q
B5 Ux(hk:X.K=K):mZ X (.builtin "sorted") (cj K):=by subst hk;~GD
def Cv:List D→Option (List Bool)
 | []=>some []
 | .bl i::ds=>(Cv ds).map (i::·)
 | _=>none
B5 HF{H:Hp}:∀{ds:List D} {bs:List Bool} {xs:List V},Cv ds=some bs→dF K H ds xs→xs=bs.map V.bl
 | [],bs,xs,h,r=>by B4 Cv at h;cases h;B4 dF at r;~r
 | d::ds,bs,xs,h,r=>by
  cases d with
  | bl i=>
   B4 Cv at h
   B3⟨cs,h1,rfl⟩:=lJ h
   B4 dF at r
   B3⟨y,ys,rfl,r1,r2⟩:=r
   B4 Rv at r1
   rw[r1,HF h1 r2]
   rfl
  | _=>B4 Cv at h;cases h
B5 Uy{α:Type}(p:α→Bool):∀l:List α,Cv (l.map fun x=>D.bl (p x))=some (l.map p)
 | []=>rfl
 | a::l=>by rw[D5];B4 Cv;rw[Uy p l];rfl
def aC7:List D→Option D
 | [.lst ds]=>(Cv ds).map fun bs=>.bl (bs.all id)
 | _=>none
def aHW(K:aF):List V→Hp→VK→Prop:=fun xs H Q=>∃(p:Addr)(bs:List Bool),xs=[.ref p]∧pQ K H p (bs.map V.bl)∧Q (.bl (bs.all id)) H
B5 aC8{H:Hp}{ds:List D}{bs:List Bool}{v:V}(h:Cv ds=some bs)(r:Rv K H (.lst ds) v):∃p,v=.ref p∧pQ K H p (bs.map V.bl):=by
 B4 Rv at r
 B3⟨p,xs,r1,r2,r3⟩:=r
 rw[HF h r3]at r2
 ~⟨p,r1,r2⟩
B5 aF3:xU K (aHW K) aC7:=fun vs H ds d Q rs q k=>by
 B4 aC7 at q
 split at q
 ·B3⟨bs,q1,rfl⟩:=lJ q
  B3⟨v,rfl,r⟩:=sU rs
  B3⟨p,rfl,r2⟩:=aC8 q1 r
  ~⟨p,bs,rfl,r2,k _ H (aU.refl _) (.jF rfl (by B4 Rv;rfl))⟩
 ·cases q
B5 aF4(hk:X.K=K)(hc:X.calm=true:=by rfl):mZ X (.builtin "all") (aHW K):=by subst hk;~aAl hc
def HH:List D→Option D
 | [.int i,.int j]=>some (.int (if j > i then j else i))
 | _=>none
def aKl:List D→Option D
 | [.int i,.int j]=>some (.int (if j<i then j else i))
 | _=>none
B5 aC9:xU K (fun xs H Q=>∃i j,xs=[.int i,.int j]∧Q (.int (if j > i then j else i)) H) HH:=fun vs H ds d Q rs q k=>by
 B4 HH at q
 split at q
 ·cases q
  B3⟨v,w,rfl,r1,r2⟩:=aAx rs
  B4 Rv at r1 r2
  ~⟨_,_,by rw[r1,r2],k _ H (aU.refl _) (.jF rfl (by B4 Rv;rfl))⟩
 ·cases q
def VB:List Int→Int
 | []=>0
 | [a]=>a
 | a::b::l=>let m:=VB (b::l);if m<a then m else a
B5 Dm:∀{ns:List Int},0<ns.length→Lp ns (VB ns)
 | [],h=>absurd h (by simp)
 | [a],_=>⟨D9.mpr rfl,fun b hb=>by rw[D9.mp hb];~b9 _⟩
 | a::b::l,_=>by
  B3⟨h1,h2⟩:=Dm (ns:=b::l) (by simp)
  B4 VB
  dsimp only
  split
  ·rename_i c
   &⟨C6 _ h1,fun x hx=>?_⟩
   rcases C5.mp hx with q | q
   ·omega
   ·~h2 x q
  ·rename_i c
   &⟨C9,fun x hx=>?_⟩
   rcases C5.mp hx with q | q
   ·omega
   ·have:=h2 x q;omega
B5 VD{ns:List Int}{m:Int}(h:Lp ns m):m=VB ns:=by
 B3⟨h1,h2⟩:=Dm (List.length_pos_of_mem h.1)
 have:=h.2 _ h1
 have:=h2 _ h.1
 omega
def cu:List D→Option D
 | [.lst ds]=>(intsOf ds).bind fun ns=>if 0<ns.length then some (.int (VB ns))else none
 | _=>none
def aEw(K:aF):List V→Hp→VK→Prop:=fun xs H Q=>∃(p:Addr)(ns:List Int),xs=[.ref p]∧pQ K H p (ns.map V.int)∧0<ns.length∧∀m,Lp ns m→Q (.int m) H
B5 aDa:xU K (aEw K) cu:=fun vs H ds d Q rs q k=>by
 B4 cu at q
 split at q
 ·B3⟨ns,q1,q2⟩:=aX q
  split at q2
  ·rename_i hl
   cases q2
   B3⟨v,rfl,r⟩:=sU rs
   B3⟨p,rfl,r2⟩:=yZ q1 r
   &⟨p,ns,rfl,r2,hl,fun m hm=>?_⟩
   rw[VD hm]
   ~k _ H (aU.refl _) (.jF rfl (by B4 Rv;rfl))
  ·cases q2
 ·cases q
B5 aDb(hk:X.K=K)(hc:X.calm=true:=by rfl):mZ X (.builtin "min") (aEw K):=by subst hk;~qm hc
end
end L2


namespace L2
open PySem PySem.Spec PyProof.Rows
section
variable{K:aF}{X:Cx}{e a b c:Expr}{es rest:List Expr}{t ta tb:TE}{f g:FE}{tA:TA}{fs:FA}{pos:Pos}{tc:TT}{fc fd:FT}{td:TT}
abbrev FO:=DE→Option (Option Int)
def EvO(K:aF)(t:TO)(f:FO):Prop:=∀(σ:St)(H:Hp)(e:DE)(o:Option Int)(Q:Option Int→Hp→Prop),yL K H e σ→f e=some o→(∀H',aU H H'→Q o H')→t σ H Q
structure XO(K:aF)(X:Cx)(e:Option Expr)(t:TO)(f:FO):Prop where
 po:PO X e t
 ev:EvO K t f
def Xx:FO:=fun _=>some none
def pI(f:FE):FO:=fun e=>(f e).bind fun d=>match d with | .int i=>some (some i) | _=>none
B5 cz:XO K X none ak Xx:=⟨aCE,fun σ H e o Q re q k=>by cases q;~k H (aU.refl _)⟩
B5 Lz(h:XR K X e t f):XO K X (some e) (aEg t) (pI f):=⟨aCF h.pe,fun σ H e o Q re q k=>by
 B4 pI at q
 B3⟨d,q1,q2⟩:=aX q
 split at q2
 ·rename_i i
  cases q2
  &h.ev σ H H e _ _ (Zn.self K H) re q1 fun v H1 Z1 s1 t1 z1 rv=>?_
  B4 Rv at rv
  ~⟨i,rv,k H1 s1⟩
 ·cases q2⟩
def yH{α:Type}(xs:List α)(lo hi:Option Int):List α:=(xs.drop (HT.Kw xs.length 0 lo)).take (HT.Kw xs.length xs.length hi-HT.Kw xs.length 0 lo)
B5 dF.drop{H:Hp}:∀{ds:List D} {xs:List V} (n:Nat),dF K H ds xs→dF K H (ds.drop n) (xs.drop n)
 | ds,xs,0,h=>h
 | [],xs,n+1,h=>by B4 dF at h;subst h;simp;B4 dF;rfl
 | d::ds,xs,n+1,h=>by B4 dF at h;B3⟨y,ys,rfl,_,h2⟩:=h;simpa using dF.drop n h2
B5 dF.take{H:Hp}:∀{ds:List D} {xs:List V} (n:Nat),dF K H ds xs→dF K H (ds.take n) (xs.take n)
 | ds,xs,0,h=>by simp;B4 dF;rfl
 | [],xs,n+1,h=>by B4 dF at h;subst h;simp;B4 dF;rfl
 | d::ds,xs,n+1,h=>by B4 dF at h;B3⟨y,ys,rfl,h1,h2⟩:=h;rw[g8,g8];B4 dF;~⟨y,_,rfl,h1,dF.take n h2⟩
B5 dg{H:Hp}{ds:List D}{xs:List V}(lo hi:Option Int)(h:dF K H ds xs):dF K H (yH ds lo hi) (SM xs lo hi):=by
 B4 yH SM
 rw[h.length]
 ~(h.drop _).take _
def qw(jF:Bool)(f:FE)(l h:FO):FE:=fun e=>(f e).bind fun d=>(l e).bind fun lo=>(h e).bind fun hi=>match d with
 | .lst ds=>if jF=false∨D.eU (yH ds lo hi)=true then some (.lst (yH ds lo hi))else none
 | _=>none
B5 HJ{jF:Bool}{f:FE}{l h:FO}{e:DE}{d:D}(q:qw jF f l h e=some d):∃ds lo hi,f e=some (.lst ds)∧l e=some lo∧h e=some hi∧(jF=false∨D.eU (yH ds lo hi)=true)∧d=.lst (yH ds lo hi):=by
 B4 qw at q
 B3⟨d0,q1,q⟩:=aX q
 B3⟨lo,q2,q⟩:=aX q
 B3⟨hi,q3,q⟩:=aX q
 split at q
 ·split at q
  ·rename_i c;cases q;~⟨_,lo,hi,q1,q2,q3,c,rfl⟩
  ·cases q
 ·cases q
B5 dh(hk:X.K=K):SlR X (aCI K):=by subst hk;~aCJ
variable{lo hi:Option Expr}{tl th:TO}{fl fh:FO}{p2:Pos}
B5 aAC(h:XR K X e t f)(hl:XO K X lo tl fl)(hu:XO K X hi th fh):XR K X (.Subscript e (.Slice lo hi none p2) pos) (tSl (aCI K) t tl th) (qw false f fl fh):=⟨h.hk,FJ (dh h.hk) h.pe hl.po hu.po,fun σ H Z e d Q z re q k=>by
 B3⟨ds,lo,hi,q1,q2,q3,_,rfl⟩:=HJ q
 &h.ev σ H Z e _ _ z re q1 fun v H1 Z1 s1 t1 z1 rv=>hl.ev σ H1 e lo _ (re.same (z.sm.trans s1)) q2 fun H2 s2=>hu.ev σ H2 e hi _ (re.same (z.sm.trans (s1.trans s2))) q3 fun H3 s3=>?_
 have z3:=Xp z1 (s2.trans s3)
 have t3:aU Z1 (Xo Z1 H1 H3):=Ib z1
 B4 Rv at rv
 B3⟨p,xs,rfl,r2,r3⟩:=rv
 &⟨p,xs,rfl,z3.sm.seq (t3.seq r2),fun l hl=>?_⟩
 B3⟨a1,a2⟩:=aAs (o:=.lst (SM xs lo hi)) z3 hl
 ~k _ _ _ (s1.trans (s2.trans (s3.trans (cP hl _)))) (t1.trans (t3.trans a1)) a2 (by B4 Rv;~⟨l,_,rfl,pQ.of cD,a1.bj _ _ (t3.bj _ _ (dg lo hi r3))⟩)⟩
B5 HN(h:XR K X e t f)(hl:XO K X lo tl fl)(hu:XO K X hi th fh):XN K X (.Subscript e (.Slice lo hi none p2) pos) (tSl (aCI K) t tl th) (qw true f fl fh):=⟨h.hk,FJ (dh h.hk) h.pe hl.po hu.po,fun σ H e d Q re q k=>by
 B3⟨ds,lo,hi,q1,q2,q3,qi,rfl⟩:=HJ q
 &h.ev σ H H e _ _ (Zn.self K H) re q1 fun v H1 Z1 s1 t1 z1 rv=>hl.ev σ H1 e lo _ (re.same s1) q2 fun H2 s2=>hu.ev σ H2 e hi _ (re.same (s1.trans s2)) q3 fun H3 s3=>?_
 have rv3:=(z1.sm.trans (s2.trans s3)).rv _ _ rv
 B4 Rv at rv3
 B3⟨p,xs,rfl,r2,r3⟩:=rv3
 &⟨p,xs,rfl,r2,fun l hl=>?_⟩
 have Xy:=s1.trans (s2.trans s3)
 ~k _ _ (Xy.trans (cP hl _)) (rH Xy (.eU (qi.resolve_left A8) (dg lo hi r3)) hl)⟩
def aAD(K:aF):R2:=fun x y H Q=>∃l b xs zs,x=.ref l∧y=.ref b∧pQ K H l xs∧pQ K H b zs∧xs.length+zs.length≤sizeLine∧∀p,H p=none→Q (.ref p) (upd H p (.lst (xs++zs)))
B5 aDc(hk:X.K=K):uM X (binaryOp .Add) (aAD K):=by
 subst hk
 intro pins s σ H x y v u Q I rx ry h
 B3⟨l,b,xs,zs,rfl,rfl,h1,h2,hz,q⟩:=h
 cases rx
 cases ry
 B3⟨its,r,pl,_⟩:=I.list h1
 B3⟨its2,r2,GF,_⟩:=I.list h2
 B3⟨⟨cl,dd,da,sl⟩,ho,hc,n,hd⟩:=pl.isList
 B3⟨⟨cl2,dd2,da2,sl2⟩,ho2,hc2,n2,hd2⟩:=GF.isList
 dsimp only at hc hd hc2 hd2
 subst hc hd hc2 hd2
 have hlen:its.toArray.size+its2.toArray.size≤sizeLine:=by rw[D3,D3,←r.length,←r2.length];~hz
 have ea:its.toArray++its2.toArray=(its++its2).toArray:=by simp
 &concat_meets ⟨_,ho,rfl⟩ ⟨_,ho2,rfl⟩ noFill_list_add seq_list_add PySem.F.slot_list_add PySem.F.entry_list_add (PySem.F.args_list_add_2 _ _)
  (list_addW l b its.toArray its2.toArray n n2 dd dd2 sl sl2 hlen) ⟨ho,ho2,?_⟩
 rw[ea]
 ~⟨.ref _,_,I.aHK (t':=s.toks) (r.append r2) (by rw[C7];~hz),rfl,q _ I.fresh⟩
def dD(a b:D):Option D:=match a,b with
 | .int i,.int j=>some (.int (i+j))
 | .lst x,.lst y=>if D.eU (x++y)=true∧x.length+y.length≤100000 then some (.lst (x++y))else none
 | _,_=>none
B5 dF.append{H:Hp}:∀{ds es:List D} {xs ys:List V},dF K H ds xs→dF K H es ys→dF K H (ds++es) (xs++ys)
 | [],es,xs,ys,h,h'=>by B4 dF at h;subst h;~h'
 | d::ds,es,xs,ys,h,h'=>by B4 dF at h;B3⟨y,yt,rfl,h1,h2⟩:=h;rw[Q1,Q1];B4 dF;~⟨y,_,rfl,h1,dF.append h2 h'⟩
B5 aDd:RB K (fun x y H Q=>lq (fun i j=>.int (i+j)) x y H Q∨aAD K x y H Q) dD:=fun x y H a b d Q ra rb q k=>by
 B4 dD at q
 split at q
 ·cases q;B4 Rv at ra rb;~.inl ⟨_,_,ra,rb,k _ H (aU.refl _) (.jF rfl (by B4 Rv;rfl))⟩
 ·split at q
  ·rename_i c
   cases q
   B4 Rv at ra rb
   B3⟨p,xs,rfl,r2,r3⟩:=ra
   B3⟨p',xs',rfl,r2',r3'⟩:=rb
   &.inr ⟨p,p',xs,xs',rfl,rfl,r2,r2',Uo (by rw[r3.length,r3'.length];~c.2),fun l hl=>?_⟩
   ~k _ _ (cP hl _) (rH (aU.refl _) (.eU c.1 (r3.append r3')) hl)
  ·cases q
 ·cases q
B5 cB(ha:XR K X a ta f)(hb:XR K X b tb g):XN K X (.BinOp a .Add b pos) (DR (fun x y H Q=>lq (fun i j=>.int (i+j)) x y H Q∨aAD K x y H Q) ta tb) (f2 dD f g):=Uq (aFm.or (aDc ha.hk)) aDd ha hb
def EvI(K:aF)(wi:TI)(fi:FA):Prop:=∀{N:Fp}(σ:St)(H Z:Hp)(e:DE)(ds:List D)(R:It→Hp→Prop),Zn K N Z H→yL K Z e σ→fi e=some ds →
 (∀J H' Z' P vs,aU H H'→aU Z Z'→Zn K N Z' H'→JIs J P vs→(∀H2,aU Z' H2→P H2)→dF K Z' ds vs→R J H')→wi σ H R
structure XI(K:aF)(X:Cx)(tg iter:Expr)(wi:TI)(fi:FA):Prop where
 hk:X.K=K
 pi:PI X tg iter wi
 ev:EvI K wi fi
def oK(f:FE):FA:=fun e=>(f e).bind yG
def aF5(K:aF)(t:TE):TI:=fun σ H R=>aEd K t σ H R∨aHx K t σ H R
B5 oM{tg:Expr}(h:XR K X e t f):XI K X tg e (aF5 K t) (oK f):=⟨h.hk,by
 have hk:=h.hk
 subst hk
 ~fun pins s σ H R I q=>q.elim (ZW h.pe pins s σ H R I) (yq h.pe pins s σ H R I),fun σ H Z e ds R z re q k=>by
 B4 oK at q
 B3⟨d,q1,q2⟩:=aX q
 cases d with
 | lst es=>
  B4 yG at q2;cases q2
  &.inl (h.ev σ H Z e _ _ z re q1 fun v H1 Z1 s1 t1 z1 rv=>?_)
  B4 Rv at rv
  B3⟨p,xs,rfl,r2,r3⟩:=rv
  ~⟨p,rfl,⟨xs,z1.sm.seq r2⟩,k _ H1 Z1 _ xs s1 t1 z1 GC (fun H2 s=>s.seq r2) r3⟩
 | tup es=>
  B4 yG at q2;cases q2
  &.inr (h.ev σ H Z e _ _ z re q1 fun v H1 Z1 s1 t1 z1 rv=>?_)
  B4 Rv at rv
  B3⟨p,xs,rfl,r2,r3⟩:=rv
  ~⟨p,rfl,⟨xs,z1.sm.tup r2⟩,k _ H1 Z1 _ xs s1 t1 z1 aCW (fun H2 s=>s.tup r2) r3⟩
 | _=>B4 yG at q2;cases q2⟩
def iJ(lo:Int)(n:Nat):List D:=(D2 n).map fun i:Nat=>D.int (lo+(i:Int))
B5 Ig{H:Hp}(lo:Int)(n:Nat):dF K H (iJ lo n) ((D2 n).map fun i:Nat=>V.int (lo+(i:Int))):=by
 B4 iJ
 &dF.of (by simp) fun i d x h1 h2=>?_
 rw[C4]at h1 h2
 cases q:(D2 n)[i]? with
 | none=>rw[q]at h1;cases h1
 | some j=>rw[q]at h1 h2;cases h1;cases h2;B4 Rv;rfl
def lim(i:Int):Bool:=decide (-100000≤i∧i≤100000)
def rC(fs:FA):FA:=fun e=>(fs e).bind fun ds=>match ds with
 | [.int n]=>if lim n=true then some (iJ 0 n.toNat)else none
 | _=>none
def HQ(fs:FA):FA:=fun e=>(fs e).bind fun ds=>match ds with
 | [.int i,.int j]=>if lim i=true∧lim j=true then some (iJ i (j-i).toNat)else none
 | _=>none
B5 Xz{i:Int}(h:lim i=true):-100000≤i∧i≤100000:=of_decide_eq_true h
B5 Ih{tg:Expr}{p:Pos}(hg:Gl X "range") (hm:X.mg "range" = none) (ha:XA K X [a] tA fs) (hs:starEach [a] X.env=[(false,eval a X.env)]:=by rfl):XI K X tg (.Call (.Name "range" p) [a] [] pos) (yr tA) (rC fs):=⟨ha.hk,Tw hg hm ha.pa hs,fun σ H Z e ds R z re q k=>by
 B4 rC at q
 B3⟨es,q1,q2⟩:=aX q
 split at q2
 ·rename_i n
  split at q2
  ·rename_i hl
   cases q2
   have hl:=Xz hl
   &ha.ev σ H Z e _ _ z re q1 fun vs H1 Z1 s1 t1 z1 rs=>?_
   B3⟨v,rfl,r⟩:=sU rs
   B4 Rv at r
   subst r
   ~⟨n,rfl,by omega,by omega,k _ H1 Z1 _ _ s1 t1 z1 Hz (fun _ _=>True.intro) (Ig 0 n.toNat)⟩
  ·cases q2
 ·cases q2⟩
def rF(e:DE)(fr:List Nat):DE:=fr.map fun i=>(e[i]?).getD none
B5 aDe{H:Hp}{e:DE}{σ:St}{fr:List Nat}{d:D}{x:V}(re:yL K H e σ)(r:Rv K H d x):yL K H (some d::rF e fr) (some x::TJ σ fr):=fun i d' h=>by
 cases i with
 | zero=>simp at h;subst h;~⟨x,rfl,r⟩
 | succ i=>
  rw[Z6]at h ⊢
  B4 rF at h
  B4 TJ
  rw[C4]at h ⊢
  cases q:fr[i]? with
  | none=>rw[q]at h;cases h
  | some j=>
   rw[q]at h
   have h:(e[j]?).getD none=some d':=F1 h
   have h2:e[j]?=some (some d'):=by
    cases q2:e[j]? with
    | none=>rw[q2]at h;cases h
    | some o=>rw[q2]at h;rw[show o=some d' from h]
   B3⟨v,h3,h4⟩:=re j d' h2
   &⟨v,?_,h4⟩
   show some (σ.getD j none)=_
   rw[B8,h3]
   rfl
def oO(c:D→Option Bool)(el:D→Option D):List D→Option (List D)
 | []=>some []
 | x::xs=>(c x).bind fun b=>if b=true then(el x).bind fun y=>(oO c el xs).map (y::·)else oO c el xs
def jG(fi:FA)(fr:List Nat)(fc:FT)(fe:FE):FE:=fun e=>(fi e).bind fun xs=>if xs.length≤100000 then(oO (fun x=>fc (some x::rF e fr)) (fun x=>fe (some x::rF e fr)) xs).map D.lst else none
B5 uP{H:Hp}{p:Addr}{o:HO}(n:xT H p):Dh K H (upd H p o):=fun a xs h=>h.upd n
B5 di{wi:TI}{fi:FA}{fr:List Nat}{te:TE}{fe:FE}(hi:EvI K wi fi)(hc:UJ K tc fc)(he:Nu K te fe):Nu K (FW wi 1 fr (jR 0) tc te) (jG fi fr fc fe):=by
 intro σ H e d Q re q k
 B4 jG at q
 B3⟨xs,q1,q⟩:=aX q
 split at q
 ·rename_i hlen
  B3⟨ds,q2,rfl⟩:=lJ q
  &hi σ H H e xs _ (Zn.self K H) re q1 fun J H1 Z1 P vs s1 t1 z1 hJ hP rvs=>?_
  intro D0 hD
  have hl:=rvs.length
  have hHD:H D0=none:=s1.free hD
  generalize hcc:(fun x=>fc (some x::rF e fr))=cc at q2
  generalize hel:(fun x=>fe (some x::rF e fr))=el at q2
  &⟨fun i m ys H2=>∃ds1 ds2 A,m=vs.length-i∧i≤vs.length∧ds=ds1++ds2∧oO cc el (xs.drop i)=some ds2∧aU H1 H2∧H2 D0=some (.lst ys)∧dU K H2 ds1 A ys∧(∀a,A a→H1 a=none∧a≠D0)∧ys.length≤i,
   ⟨vs.length,[],ds,nil,by simp,M3 _,rfl,by simpa using q2,cP hD _,cD,by B4 dU;~⟨fun _ z=>z,rfl⟩,fun _ z=>z.elim,D1 _⟩,?_⟩
  rintro i m ys H2 ⟨ds1,ds2,A,rfl,hi',hds,hcl,s2,hD2,ow,fr2,hyl⟩
  B3⟨j1,j2,j3⟩:=hJ i H2 (hP H2 (z1.sm.trans s2))
  &⟨hD2,?_⟩
  by_cases hlt:i<vs.length
  ·&.inr ⟨j1 hlt,fun x H' y=>?_⟩
   B3⟨e1,ex⟩:=j2 x H' y
   subst e1
   have hx:=ex hlt
   have hxi:i<xs.length:=by omega
   have hxs:xs.drop i=xs[i]::xs.drop (i+1):=O0 hxi
   B3⟨x',hx',rx⟩:=rvs.get (B6 hxi)
   rw[hx]at hx'
   cases hx'
   rw[hxs]at hcl
   B4 oO at hcl
   B3⟨bb,c1,c2⟩:=aX hcl
   show Kp 1 σ fr (some x::TJ σ fr)∧_
   &⟨⟨by simp[blk],fun j v hv=>?_⟩,?_⟩
   ·cases j with
    | zero=>simp[blk]at hv
    | succ j=>simpa[blk]using hv
   have re2:yL K H' (some xs[i]::rF e fr) (some x::TJ σ fr):=aDe (re.same (s1.trans s2)) ((z1.sm.trans s2).rv _ _ rx)
   &hc _ H' _ bb _ re2 (by rw[←hcc]at c1;~c1) fun H3 s3=>?_
   have hD3:=s3 _ _ hD2
   cases bb with
   | false=>
    rw[if_neg A8]at c2 ⊢
    ~⟨vs.length-(i+1),by omega,ds1,ds2,A,rfl,by omega,hds,c2,s2.trans s3,hD3,ow.same s3,fr2,by omega⟩
   | true=>
    rw[if_pos rfl]at c2 ⊢
    B3⟨dy,c3,c4⟩:=aX c2
    B3⟨ds3,c5,rfl⟩:=lJ c4
    &he _ H3 _ dy _ (re2.same s3) (by rw[←hel]at c3;~c3) fun yv H4 s4 n4=>?_
    have hD4:=s4 _ _ hD3
    &⟨hD4,Ny A6,vs.length-(i+1),by omega,ds1++[dy],ds3,?_⟩
    B3⟨B,oB,fB⟩:=n4
    have hB:∀a,B a→H1 a=none∧a≠D0:=fun a qa=>⟨(s2.trans s3).free (fB a qa),fun z=>by have q0:=fB a qa;rw[z,hD3]at q0;cases q0⟩
    &⟨fH A B,rfl,by omega,by rw[hds];simp,c5,fun b o eb=>?_,cD,?_,fun a qa=>qa.elim (fr2 a) (hB a),by rw[C7];simp;~hyl⟩
    ·rw[bN (gR eb hD)]
     ~(s2.trans (s3.trans s4)) b o eb
    ·have o4:=(ow.same s3).same s4
     have ap:Apart A B:=fun a qa qb=>by
      B3⟨⟨u,eu⟩,_⟩:=dU.cells _ _ _ (ow.same s3) a qa
      rw[fB a qb]at eu;cases eu
     have all:dU K H4 (ds1++[dy]) (fH A B) (ys++[yv]):=cO.mpr ((cO.mp o4).snoc oB ap)
     ~dU.frame (uP (vH hD4)) _ _ _ all fun a qa=>bN (qa.elim (fun z=>(fr2 a z).2) fun z=>(hB a z).2)
  ·have ei:i=vs.length:=by omega
   subst ei
   have:xs.drop vs.length=[]:=List.drop_eq_nil_of_le A6
   rw[this]at hcl
   B4 oO at hcl
   cases hcl
   rw[F2]at hds
   subst hds
   &.inl ⟨j3 (D1 _),k _ H2 (s1.trans s2) ⟨fH (·=D0) A,?_,fun a qa=>qa.elim (fun z=>by cases z;~hHD) fun z=>s1.free (fr2 a z).1⟩⟩
   B4 Ow
   ~⟨D0,ys,A,rfl,hD2,fun z=>(fr2 D0 z).2 rfl,fun _=>Iff.rfl,ow⟩
 ·cases q
def nY:FT:=fun _=>some true
structure XTs(K:aF)(X:Cx)(ifs:List Expr)(t:TT)(f:FT):Prop where
 pts:PTs X ifs t
 ev:UJ K t f
B5 rK:XTs K X [] aHP nY:=⟨aCQ,fun σ H e b Q re q k=>by cases q;~k H (aU.refl _)⟩
B5 Ma(h:XT K X c tc fc):XTs K X [c] tc fc:=⟨aCR h.pt,h.ev⟩
B5 oR{tg elt iter:Expr}{ifs:List Expr}{scope:Scope}{wi:TI}{fi:FA}{te:TE}{fe:FE}(N:List Str)(fr:List Nat)(hcalm:X.calm=true)(B:kI X.env.scope scope X.N N 1 fr)(hi:XI K X tg iter wi fi)
  (hg:∀cl fp s H C,PG (lD X scope N cl fp s H C) tg (jR 0)) (hc:∀cl fp s H C,XTs K (lD X scope N cl fp s H C) ifs tc fc) (he:∀cl fp s H C,XN K (lD X scope N cl fp s H C) elt te fe)
  (hs:∀x,foldedSetIterable iter X.env x=pure x:=by intro _;rfl):XN K X (.ListComp elt [⟨tg,iter,ifs,0⟩] scope pos) (FW wi 1 fr (jR 0) tc te) (jG fi fr fc fe):=
 ⟨hi.hk,aCU N 1 fr hcalm B hi.pi hg (fun cl fp s H C=>(hc cl fp s H C).pts) (fun cl fp s H C=>(he cl fp s H C).pe) hs,
  di hi.ev (hc [] [] X.s₀ X.H₀ 0).ev (he [] [] X.s₀ X.H₀ 0).ev⟩
def jA(K:aF)(n:Nat)(F:List D→Option D):Sp:=fun vs H Q _=>∃ds d,ds.length=n∧dF K H ds vs∧F ds=some d∧∀v H',aU H H'→Nr K H H' d v→Q v H'
def dW(n:Nat)(F:List D→Option D)(fs:FA):FE:=fun e=>(fs e).bind fun ds=>if ds.length=n then F ds else none
B5 dH{x:Str}{k n:Nat}{F:List D→Option D}{p:Pos}(C:sJ X.prog X.w X.K X.mg X.base x k n (jA K n F))(hr:jK k X.A)(hg:Gl X x)(ha:XA K X (e::es) tA fs)(hdb:(x==("__debug__" : Str))=false:=by decide)
  (he:starEach (e::es) X.env=(false,eval e X.env)::starEach es X.env:=by rfl) (hpl:(backTo pos (starEach es X.env)).any (·.1)=false:=by rfl):XN K X (.Call (.Name x p) (e::es) [] pos) (Ua (jA K n F) [] E0 tA) (dW n F fs):=
 ⟨ha.hk,aAo C hr hg ha.pa hdb he hpl,fun σ H e d Q re q k=>by
  B4 dW at q
  B3⟨ds,q1,q2⟩:=aX q
  split at q2
  ·rename_i hl
   &call_of (ha.ev σ H H e ds _ (Zn.self K H) re q1 fun vs H1 Z1 s1 t1 z1 rs=>?_)
   ~⟨ds,d,hl,z1.sm.bj _ _ rs,q2,fun v H2 s2 n=>k v H2 (s1.trans s2) (n.back s1)⟩
  ·cases q2⟩
end
end L2


namespace L2
open PySem PySem.Spec PyProof.Rows
inductive SD where
  | no | fro (d:D) | own (d:D) | inn (v:V) (d:D)
def SD.z:SD→Option D
 | .fro d=>some d
 | .own d=>if d.jF=true then some d else none
 | .inn _ d=>if d.jF=true then some d else none
 | .no=>none
def SD.r:SD→Option D
 | .fro d=>some d
 | .own d=>some d
 | .inn _ d=>some d
 | .no=>none
abbrev EN:=List SD
def zE(env:EN):DE:=env.map SD.z
def rE(env:EN):DE:=env.map SD.r
def fP(K:aF)(H Z:Hp):SD→Fp→Option V→Prop
 | .no,A,_=>None A
 | .fro d,A,y=>None A∧∃v,y=some v∧Rv K Z d v
 | .own d,A,y=>∃v,y=some v∧Ow K H d A v
 | .inn v d,A,y=>y=some v∧Ow K H d A v
def Rel(K:aF)(B:Hp)(env:EN)(σ:St)(H:Hp):Prop:=∃A,eN (fP K H (out H A)) env A σ∧aU B (out H A)
section
variable{K:aF}{B B' H H' Z Z':Hp}{env:EN}{σ:St}{A:Fp}
B5 eN.all{α β:Type}{R:α→Fp→β→Prop}{Pr:Addr→Prop}:∀{ds:List α} {A:Fp} {ys:List β},eN R ds A ys→(∀d B y,R d B y→∀a,B a→Pr a)→∀a,A a→Pr a
 | [],A,ys,h,_,a,q=>absurd q (h.1 a)
 | d::ds,A,ys,⟨y,yt,A1,A2,h1,h2,h3,h4,h5⟩,m,a,q=>((h3 a).mp q).elim (m _ _ _ h4 a) (eN.all h5 m a)
B5 fP.cells{s:SD}{y:Option V}(h:fP K H Z s A y):∀a,A a→mR H a:=by
 cases s with
 | no=>~fun a q=>absurd q (h a)
 | fro d=>~fun a q=>absurd q (h.1 a)
 | own d=>B3⟨v,_,o⟩:=h;~Ow.cells d A v o
 | inn v d=>~Ow.cells d A v h.2
B5 jN(h:eN (fP K H Z) env A σ):∀a,A a→mR H a:=eN.all h fun _ _ _ q=>q.cells
B5 Rel.len(h:Rel K B env σ H):σ.length=env.length:=let ⟨_,s,_⟩:=h;s.len
B5 Rel.mono(h:Rel K B' env σ H)(s:aU B B'):Rel K B env σ H:=let ⟨A,a,b⟩:=h;⟨A,a,s.trans b⟩
B5 bU{A A':Fp}(s:aU H H')(h:∀a,A' a→A a∨H a=none):aU (out H A) (out H' A'):=fun b o e=>by
 B3⟨e1,e2⟩:=bB.mp e
 &bB.mpr ⟨fun q=>?_,s b o e2⟩
 rcases h b q with q | q
 ·~e1 q
 ·rw[q]at e2;cases e2
B5 fP.same{s:SD}{y:Option V}(h:fP K H Z s A y)(e:aU H H')(z:aU Z Z'):fP K H' Z' s A y:=by
 cases s with
 | no=>~h
 | fro d=>B3⟨h1,v,h2,h3⟩:=h;~⟨h1,v,h2,z.rv _ _ h3⟩
 | own d=>B3⟨v,h1,h2⟩:=h;~⟨v,h1,h2.same e⟩
 | inn v d=>~⟨h.1,h.2.same e⟩
B5 Rel.same(h:Rel K B env σ H)(s:aU H H'):Rel K B env σ H':=by
 B3⟨A,a,b⟩:=h
 have g:aU (out H A) (out H' A):=bU s fun a q=>.inl q
 ~⟨A,a.mono fun e C z _ q=>q.same s g,b.trans g⟩
B5 Ii(h:eN (fP K H (out H A)) env A σ):Zn K A (out H A) H:=⟨jL H A,Nq fun a q=>(jN h a q).2,fun a q=>⟨by
 B4 out;rw[if_pos q],fun z=>by B3⟨⟨o,e⟩,_⟩:=jN h a q;rw[z]at e;cases e⟩⟩
B5 Rel.r(h:Rel K B env σ H):yL K H (rE env) σ:=fun i d q=>by
 B3⟨A,a,b⟩:=h
 B4 rE at q
 rw[C4]at q
 cases e:env[i]? with
 | none=>rw[e]at q;cases q
 | some s=>
  rw[e]at q
  B3⟨y,A1,C,h1,h2,h3,h4,_⟩:=a.focus e
  cases s with
  | no=>cases q
  | fro d0=>cases q;B3⟨_,v,rfl,h5⟩:=h4;~⟨v,h1,(jL H A).rv _ _ h5⟩
  | own d0=>cases q;B3⟨v,rfl,h5⟩:=h4;~⟨v,h1,Ow.rv _ _ _ h5⟩
  | inn v d0=>cases q;B3⟨rfl,h5⟩:=h4;~⟨v,h1,Ow.rv _ _ _ h5⟩
B5 aEx(a:eN (fP K H (out H A)) env A σ):yL K (out H A) (zE env) σ:=fun i d q=>by
 B4 zE at q
 rw[C4]at q
 cases e:env[i]? with
 | none=>rw[e]at q;cases q
 | some s=>
  rw[e]at q
  B3⟨y,A1,C,h1,h2,h3,h4,_⟩:=a.focus e
  cases s with
  | no=>cases q
  | fro d0=>cases q;B3⟨_,v,rfl,h5⟩:=h4;~⟨v,h1,h5⟩
  | own d0=>
   B3⟨v,rfl,h5⟩:=h4
   have q:(if d0.jF=true then some d0 else none)=some d:=F1 q
   split at q
   ·rename_i im
    cases q
    ~⟨v,h1,(yW _ v im (Ow.rv _ _ _ h5)).out (fun _ z=>z.elim) fun x hx=>(jN a x hx).2⟩
   ·cases q
  | inn v d0=>
   B3⟨rfl,h5⟩:=h4
   have q:(if d0.jF=true then some d0 else none)=some d:=F1 q
   split at q
   ·rename_i im
    cases q
    ~⟨v,h1,(yW _ v im (Ow.rv _ _ _ h5)).out (fun _ z=>z.elim) fun x hx=>(jN a x hx).2⟩
   ·cases q
B5 Rel.own{i:Nat}{d:D}{v:V}(h:Rel K B env σ H)(hi:i<env.length)(s:aU H H')(n:Nr K H H' d v):Rel K B (env.set i (.own d)) (σ.set i (some v)) H':=by
 B3⟨A,a,b⟩:=h
 B3⟨N,o,f⟩:=n
 have cl:=jN a
 B3⟨y,A1,C,h1,h2,h3,h4,k⟩:=a.focus (B6 hi)
 have g:aU (out H A) (out H' (fH N C)):=bU s fun x q=>q.elim (fun q=>.inr (f x q)) fun q=>.inl ((h3 x).mpr (.inr q))
 &⟨fH N C,k (fP K H' (out H' (fH N C))) (fun e D z _ q=>q.same s g) (.own d) (some v) N (fun x q c=>?_) ⟨v,rfl,o⟩,b.trans g⟩
 B3⟨⟨u,e⟩,_⟩:=cl x ((h3 x).mpr (.inr c))
 rw[f x q]at e;cases e
B5 Mf{i:Nat}{d:D}{v:V}(a:eN (fP K H (out H A)) env A σ)(b:aU B (out H A))(hi:i<env.length)(s:aU H H')(t:aU (out H A) Z')(z:Zn K A Z' H')(r:Rv K Z' d v):Rel K B (env.set i (.fro d)) (σ.set i (some v)) H':=by
 B3⟨y,A1,C,h1,h2,h3,h4,k⟩:=a.focus (B6 hi)
 have hC:∀x,fH nil C x→A x:=fun x q=>q.elim False.elim fun q=>(h3 x).mpr (.inr q)
 have g:aU (out H A) (out H' (fH nil C)):=bU s fun x q=>.inl (hC x q)
 have g2:aU Z' (out H' (fH nil C)):=fun x o e=>bB.mpr ⟨fun q=>(by rw[(z.no x (hC x q)).1]at e;cases e),z.sm x o e⟩
 ~⟨fH nil C,k (fP K H' (out H' (fH nil C))) (fun e D z _ q=>q.same s g) (.fro d) (some v) nil (fun x q c=>q) ⟨fun _ z=>z,v,rfl,g2.rv _ _ r⟩,b.trans g⟩
def aAE(env:EN)(j:Nat):EN:=match env[j]? with
 | some (.own d)=>env.set j (.fro d)
 | _=>env
def yM(js:List Nat)(env:EN):EN:=js.foldl aAE env
B5 set_same{α:Type}{l:List α}{i:Nat}{x:α}(h:l[i]?=some x):l.set i x=l:=by
 apply K5
 intro j
 rw[G4]
 by_cases c:i=j
 ·subst c
  rw[if_pos rfl,h]
  split
  ·rfl
  ·rename_i q;rw[E1 A6]at h;cases h
 ·rw[if_neg c]
B5 Rel.aAE{j:Nat}(h:Rel K B env σ H):Rel K B (aAE env j) σ H:=by
 B4 L2.aAE
 cases e:env[j]? with
 | none=>~h
 | some s=>
  cases s with
  | no=>~h
  | fro d=>~h
  | inn v d=>~h
  | own d=>
   B3⟨A,a,b⟩:=h
   have cl:=jN a
   B3⟨y,A1,C,h1,h2,h3,h4,k⟩:=a.focus e
   B3⟨v,rfl,o⟩:=h4
   have g:aU (out H A) (out H (fH nil C)):=bU (aU.refl _) fun x q=>q.elim False.elim fun q=>.inl ((h3 x).mpr (.inr q))
   have:=k (fP K H (out H (fH nil C))) (fun e D z _ q=>q.same (aU.refl _) g) (.fro d) (some v) nil (fun x q c=>q)
    ⟨fun _ z=>z,v,rfl,o.out (fun x q c=>h2 x q (c.elim False.elim id)) fun x q=>(cl x ((h3 x).mpr (.inr (q.elim False.elim id)))).2⟩
   rw[set_same h1]at this
   ~⟨fH nil C,this,b.trans g⟩
B5 Rel.yM{js:List Nat}(h:Rel K B env σ H):Rel K B (yM js env) σ H:=by
 B4 L2.yM
 induction js generalizing env with
 | nil=>~h
 | cons j js ih=>~ih h.aAE
end
inductive SR where
  | next (env:EN) | ret (d:D) | brk (env:EN) | cont (env:EN) | bad | rete (d:D) (env:EN)
def Lb(K:aF)(B:Hp)(E:Ends):SR→Prop
 | .next env=>∀σ H,Rel K B env σ H→E.nx σ H
 | .ret d=>∀v H A,aU B (out H A)→Ow K H d A v→E.rt v H
 | .brk env=>∀σ H,Rel K B env σ H→E.bk σ H
 | .cont env=>∀σ H,Rel K B env σ H→E.ct σ H
 | .bad=>False
 | .rete d env=>∀v σ H,Rel K B (env++[.own d]) (σ++[some v]) H→E.rt v H
B5 Lb.mono{K:aF}{B B':Hp}{E:Ends}{r:SR}(h:Lb K B E r)(s:aU B B'):Lb K B' E r:=by
 cases r with
 | next env=>~fun σ H q=>h σ H (q.mono s)
 | ret d=>~fun v H A q=>h v H A (s.trans q)
 | brk env=>~fun σ H q=>h σ H (q.mono s)
 | cont env=>~fun σ H q=>h σ H (q.mono s)
 | bad=>~h
 | rete d env=>~fun v σ H q=>h v σ H (q.mono s)
abbrev GS:=EN→SR
def DS(K:aF)(t:TS)(g:GS):Prop:=∀(B:Hp)(E:Ends)(σ:St)(H:Hp)(env:EN),Rel K B env σ H→Lb K B E (g env)→t E σ H
def aHX(K:aF)(B:Hp)(E:Ends)(σ:St):SR→Prop
 | .next env=>∀H,Rel K B env σ H→E.nx σ H
 | r=>Lb K B E r
def qy(K:aF)(t:TS)(g:GS):Prop:=∀(B:Hp)(E:Ends)(σ:St)(H:Hp)(env:EN),Rel K B env σ H→aHX K B E σ (g env)→t E σ H
B5 qy.ds{K:aF}{t:TS}{g:GS}(h:qy K t g):DS K t g:=fun B E σ H env r p=>h B E σ H env r (by
 cases q:g env with
 | next e=>rw[q]at p;~fun H' r'=>p σ H' r'
 | ret d=>rw[q]at p;~p
 | brk e=>rw[q]at p;~p
 | cont e=>rw[q]at p;~p
 | bad=>rw[q]at p;~p
 | rete d e=>rw[q]at p;~p)
structure YS(K:aF)(X:Cx)(st:Stmt)(t:TS)(g:GS):Prop where
 ps:PS X st t
 ev:DS K t g
structure YB(K:aF)(X:Cx)(st:List Stmt)(t:TS)(g:GS):Prop where
 ps:DN X st t
 ev:DS K t g
section
variable{K:aF}{X:Cx}{st:Stmt}{sts:List Stmt}{t u:TS}{g g1 g2:GS}{e a b c:Expr}{te ta tb:TE}{f fa fb:FE}{tc:TT}{fc:FT}{pos:Pos}
def aW(g1 g2:GS):GS:=fun env=>match g1 env with
 | .next env'=>g2 env'
 | r=>r
B5 aF6(h1:DS K t g1)(h2:DS K u g2):DS K (aFh t u) (aW g1 g2):=fun B E σ H env r p=>by
 B4 aW at p
 &h1 B {E with nx:=u E} σ H env r ?_
 cases q:g1 env with
 | next env'=>rw[q]at p;~fun σ' H' r'=>h2 B E σ' H' env' r' p
 | ret d=>rw[q]at p;~p
 | brk d=>rw[q]at p;~p
 | cont d=>rw[q]at p;~p
 | bad=>rw[q]at p;~p
 | rete d e=>rw[q]at p;~p
def fX:GS:=fun env=>.next env
B5 gW:YB K X [] aEa fX:=⟨aCt,fun B E σ H env r p=>p σ H r⟩
B5 aV(h:YS K X st t g):YB K X [st] t g:=⟨aCu h.ps,h.ev⟩
B5 aN(h:YS K X st t g1)(h2:YB K X sts u g2):YB K X (st::sts) (aFh t u) (aW g1 g2):=⟨yg h.ps h2.ps,aF6 h.ev h2.ev⟩
def cV(i:Nat)(f:FE):GS:=fun env=>match f (rE env)with
 | some d=>if i<env.length then .next (env.set i (.own d))else .bad
 | none=>.bad
B5 aAF{i:Nat}(h:Nu K te f):DS K (wF te (jR i)) (cV i f):=fun B E σ H env r p=>by
 B4 cV at p
 split at p
 ·rename_i d q
  split at p
  ·rename_i hi
   ~h σ H (rE env) d _ r.r q fun v H' s n=>p _ _ (r.own hi s n)
  ·~p.elim
 ·~p.elim
B5 bL{i:Nat}{x:Str}{pos':Pos}(h:XN K X e te f)(hp:PE X e te→PS X (.Assign [.Name x pos'] e pos) (wF te (jR i))):YS K X (.Assign [.Name x pos'] e pos) (wF te (jR i)) (cV i f):=⟨hp h.pe,aAF h.ev⟩
def gB(f:FE):GS:=fun env=>match f (rE env)with
 | some d=>.ret d
 | none=>.bad
B5 cG(h:XN K X e te f):YS K X (.Return (some e) pos) (yh te) (gB f):=⟨Wt h.pe,fun B E σ H env r p=>by
 B4 gB at p
 split at p
 ·rename_i d q
  &h.ev σ H (rE env) d _ r.r q fun v H' s ⟨N,o,fr⟩=>p v H' N (fun x u ex=>?_) o
  B3⟨A,a,b⟩:=r
  have h1:=(bB.mp (b x u ex)).2
  ~bB.mpr ⟨fun z=>(by rw[fr x z]at h1;cases h1),s x u h1⟩
 ·~p.elim⟩
def Kd(i:Nat):GS:=fun env=>match env[i]? with
 | some (.own d)=>.ret d
 | some (.fro d)=>if d.jF=true then .ret d else .bad
 | _=>.bad
B5 Yb{i:Nat}(h:PE X e (pH i)):YS K X (.Return (some e) pos) (yh (pH i)) (Kd i):=⟨Wt h,fun B E σ H env r p=>by
 B4 Kd at p
 B3⟨A,a,b⟩:=r
 split at p
 ·rename_i d q
  B3⟨y,A1,C,h1,h2,h3,h4,_⟩:=a.focus q
  B3⟨v,rfl,o⟩:=h4
  ~⟨v,h1,p v H A1 (b.trans (bU (aU.refl _) fun x z=>.inl ((h3 x).mpr (.inl z)))) o⟩
 ·rename_i d q
  split at p
  ·rename_i im
   B3⟨y,A1,C,h1,h2,h3,h4,_⟩:=a.focus q
   B3⟨_,v,rfl,rv⟩:=h4
   ~⟨v,h1,p v H nil (b.trans (bU (aU.refl _) fun x z=>z.elim)) (yW d v im ((jL H A).rv _ _ rv))⟩
  ·~p.elim
 ·~p.elim⟩
def xV(f:FE):GS:=fun env=>match f (rE env)with
 | some _=>.next env
 | none=>.bad
B5 aDf(h:Ka K te f):DS K (kE te) (xV f):=fun B E σ H env r p=>by
 B4 xV at p
 split at p
 ·rename_i d q
  ~h σ H H (rE env) d _ (Zn.self K H) r.r q fun v H' Z' s t z rv=>p _ _ (r.same s)
 ·~p.elim
def qP(f:FT)(g1 g2:GS):GS:=fun env=>match f (rE env)with
 | some true=>g1 env
 | some false=>g2 env
 | none=>.bad
B5 jH{s1 s2:List Stmt}(hc:XT K X c tc fc)(h1:YB K X s1 t g1)(h2:YB K X s2 u g2):YS K X (.If c s1 s2 pos) (aHr tc t u) (qP fc g1 g2):=⟨aHs hc.pt h1.ps h2.ps,fun B E σ H env r p=>by
 B4 qP at p
 split at p
 ·rename_i q
  &hc.ev σ H (rE env) true _ r.r q fun H' s=>?_
  rw[if_pos rfl]
  ~h1.ev B E σ H' env (r.same s) p
 ·rename_i q
  &hc.ev σ H (rE env) false _ r.r q fun H' s=>?_
  rw[if_neg A8]
  ~h2.ev B E σ H' env (r.same s) p
 ·~p.elim⟩
def By(i:Nat)(g:GS):List D→EN→SR
 | [],env=>.next env
 | x::xs,env=>if i<env.length then match g (env.set i (.fro x))with
   | .next env'=>By i g xs env'
   | .cont env'=>By i g xs env'
   | .brk env'=>.next env'
   | r=>r
  else .bad
def Oe(js:List Nat)(i:Nat)(fi:FA)(g:GS):GS:=fun env=>match fi (zE (yM js env))with
 | some xs=>By i g xs (yM js env)
 | none=>.bad
B5 aF7{js:List Nat}{i:Nat}{wi:TI}{fi:FA}{tb:TS}(hi:EvI K wi fi)(h:DS K tb g):DS K (Wy wi (jR i) tb) (Oe js i fi g):=fun B E σ H env r p=>by
 B4 Oe at p
 have r':Rel K B (yM js env) σ H:=r.yM
 generalize yM js env=Ca at r' p
 split at p
 ·rename_i xs q
  B3⟨A,a,b⟩:=r'
  &hi σ H (out H A) (zE Ca) xs _ (Ii a) (aEx a) q fun J H1 Z1 P vs s t z hJ hP rvs=>?_
  have hl:=rvs.length
  have g0:aU Z1 (out H1 A):=fun x o e=>bB.mpr ⟨fun qa=>(by rw[(z.no x qa).1]at e;cases e),z.sm x o e⟩
  have aF8:Rel K Z1 Ca σ H1:=⟨A,a.mono fun e D y _ qq=>qq.same s (bU s fun x q=>.inl q),g0⟩
  have bz:aU B Z1:=b.trans t
  have p':=p.mono bz
  &Ln hJ (fun k σ2 H2=>∃cZ,Rel K Z1 cZ σ2 H2∧Lb K Z1 E (By i g (xs.drop k) cZ)) ⟨Ca,aF8,by simpa using p'⟩ (fun k σ2 H2 _ ⟨cZ,⟨A2,a2,b2⟩,_⟩=>hP H2 (b2.trans (jL H2 A2))) ?_ ?_
  ·rintro k x σ2 H2 hx ⟨cZ,r2,p2⟩
   have hk:k<xs.length:=by
    have:=D4.mp hx
    B3⟨h1,_⟩:=this
    omega
   rw[O0 hk]at p2
   B4 By at p2
   B3⟨x',hx',rx⟩:=rvs.get (B6 hk)
   rw[hx]at hx'
   cases hx'
   split at p2
   ·rename_i hlen
    B3⟨A2,a2,b2⟩:=r2
    have r3:Rel K Z1 (cZ.set i (.fro xs[k])) (σ2.set i (some x)) H2:=Mf a2 b2 hlen (aU.refl _) (aU.refl _) (Ii a2) (b2.rv _ _ rx)
    &h Z1 _ _ H2 _ r3 ?_
    split at p2
    ·rename_i env' q2;rw[q2];~fun σ' H' r'=>⟨env',r',p2⟩
    ·rename_i env' q2;rw[q2];~fun σ' H' r'=>⟨env',r',p2⟩
    ·rename_i env' q2;rw[q2];~p2
    ·rename_i n1 n2 n3
     cases q2:g (cZ.set i (.fro xs[k]))with
     | next e=>~absurd q2 (n1 e)
     | cont e=>~absurd q2 (n2 e)
     | brk e=>~absurd q2 (n3 e)
     | ret d=>rw[q2]at p2;~p2
     | bad=>rw[q2]at p2;~p2
     | rete d e=>rw[q2]at p2;~p2
   ·~p2.elim
  ·rintro σ2 H2 ⟨cZ,r2,p2⟩
   rw[hl,U5]at p2
   ~p2 σ2 H2 r2
 ·~p.elim
def qQ(c:FT)(g:GS):Nat→EN→SR
 | 0,_=>.bad
 | n+1,env=>match c (rE env)with
  | some true=>(match g env with
   | .next env'=>qQ c g n env'
   | .cont env'=>qQ c g n env'
   | .brk env'=>.next env'
   | r=>r)
  | some false=>.next env
  | none=>.bad
B5 aAG{n:Nat}{tb:TS}(hc:UJ K tc fc)(h:DS K tb g):DS K (RK tc tb) (qQ fc g n):=fun B E σ H env r p=>by
 &⟨fun m σ2 H2=>∃cZ,Rel K B cZ σ2 H2∧Lb K B E (qQ fc g m cZ),⟨n,env,r,p⟩,?_⟩
 rintro m σ2 H2 ⟨cZ,r2,p2⟩
 cases m with
 | zero=>~p2.elim
 | succ m=>
  B4 qQ at p2
  split at p2
  ·rename_i q
   &hc σ2 H2 (rE cZ) true _ r2.r q fun H3 s=>?_
   rw[if_pos rfl]
   &⟨fun σ' H'=>∃env',Rel K B env' σ' H'∧Lb K B E (qQ fc g m env'),fun σ' H' ⟨env',a1,a2⟩=>⟨m,M7 m,env',a1,a2⟩,?_⟩
   &h B _ σ2 H3 cZ (r2.same s) ?_
   split at p2
   ·rename_i env' q2;rw[q2];~fun σ' H' r'=>⟨env',r',p2⟩
   ·rename_i env' q2;rw[q2];~fun σ' H' r'=>⟨env',r',p2⟩
   ·rename_i env' q2;rw[q2];~p2
   ·rename_i n1 n2 n3
    cases q2:g cZ with
    | next e=>~absurd q2 (n1 e)
    | cont e=>~absurd q2 (n2 e)
    | brk e=>~absurd q2 (n3 e)
    | ret d=>rw[q2]at p2;~p2
    | bad=>rw[q2]at p2;~p2
    | rete d e=>rw[q2]at p2;~p2
  ·rename_i q
   &hc σ2 H2 (rE cZ) false _ r2.r q fun H3 s=>?_
   rw[if_neg A8]
   ~p2 σ2 H3 (r2.same s)
  ·~p2.elim
B5 Yc{tg iter:Expr}{body:List Stmt}{wi:TI}{fi:FA}{tb:TS}{i:Nat}(js:List Nat)(hp:PassesOwn (model X.prog X.w) X.A X.env X.xe)(VF:X.calm=true)(hi:XI K X tg iter wi fi)(hg:PG X tg (jR i))(hb:YB K X body tb g)
  (hs:∀x,foldedSetIterable iter X.env x=pure x:=by intro _;rfl):YS K X (.For tg iter body [] pos) (Wy wi (jR i) tb) (Oe js i fi g):=⟨Wz hp VF hi.pi hg hb.ps hs,aF7 hi.ev hb.ev⟩
B5 aAH{body:List Stmt}{tb:TS}(n:Nat)(hp:PassesOwn (model X.prog X.w) X.A X.env X.xe)(hc:XT K X c tc fc)(hb:YB K X body tb g):YS K X (.While c body [] pos) (RK tc tb) (qQ fc g n):=⟨yo hp hc.pt hb.ps,aAG hc.ev hb.ev⟩
end
end L2


namespace L2
open PySem PySem.Spec PyProof.Rows
inductive Step where
  | ix (k:Nat) | key (k:Key) | fld (C:Addr) (f:Str)
def kids:D→List D
 | .lst ds=>ds
 | .dk _ ds=>ds
 | .ins _ _ ds=>ds
 | _=>[]
def Fv:D→List D→D
 | .lst _,ds=>.lst ds
 | .dk ks _,ds=>.dk ks ds
 | .ins C nm _,ds=>.ins C nm ds
 | d,_=>d
def Cd:Step→D→Option Nat
 | .ix k,.lst ds=>some k
 | .key k,.dk ks _=>posK ks k
 | .fld C f,.ins C' nm _=>if C'=C then posK nm f else none
 | _,_=>none
def eV:List Step→D→Option D
 | [],d=>some d
 | s::p,d=>(Cd s d).bind fun j=>((kids d)[j]?).bind (eV p)
def eO:List Step→D→D→D
 | [],_,d'=>d'
 | s::p,d,d'=>match Cd s d with
  | some j=>(match (kids d)[j]? with
   | some c=>Fv d ((kids d).set j (eO p c d'))
   | none=>d)
  | none=>d
def stepV(H:Hp)(s:Step)(v:V):Option V:=match v with
 | .ref a=>(match s,H a with
  | .ix k,some (.lst xs)=>xs[k]?
  | .key k,some (.dK kvs)=>wH kvs k
  | .fld C f,some (.ins C' _ fs)=>if C'=C then fs.lookup f else none
  | _,_=>none)
 | _=>none
def Ld(H:Hp):List Step→V→Option V
 | [],v=>some v
 | s::p,v=>(stepV H s v).bind (Ld H p)
B5 VG{H H':Hp}(e:aU H H'){s:Step}{v w:V}(h:stepV H s v=some w):stepV H' s v=some w:=by
 cases v with
 | ref a=>
  B4 stepV at h ⊢
  dsimp only at h ⊢
  cases q:H a with
  | none=>rw[q]at h;cases s<;>cases h
  | some o=>rw[e a o q];rw[q]at h;~h
 | _=>B4 stepV at h;cases h
B5 zA{H H':Hp}(e:aU H H'):∀{p:List Step} {v w:V},Ld H p v=some w→Ld H' p v=some w
 | [],v,w,h=>h
 | s::p,v,w,h=>by
  B4 Ld at h ⊢
  B3⟨u,h1,h2⟩:=aX h
  rw[VG e h1]
  ~zA e h2
B5 Dp{nm:List Str}{xs:List V}{f:Str}(h:nm.length=xs.length):(nm.zip xs).lookup f=(posK nm f).bind fun j=>xs[j]?:=by
 induction nm generalizing xs with
 | nil=>B4 posK;rfl
 | cons a nm ih=>
  cases xs with
  | nil=>simp at h
  | cons x xs=>
   have ih:=ih (xs:=xs) (by simpa using h)
   B4 posK
   rw[Q7,U2]
   by_cases c:a=f
   ·subst c;simp
   ·have c2:(f==a)=false:=by
     rw[beq_eq_false_iff_ne];~fun z=>c z.symm
    rw[c2,if_neg c,ih]
    cases posK nm f<;>rfl
B5 Ow.kids{K:aF}{H:Hp}{d:D}{A:Fp}{v:V}{s:Step}{j:Nat}(h:Ow K H d A v)(q:Cd s d=some j):∃xs T Bt,(∀x,xs[j]?=some x→stepV H s v=some x)∧dU K H (kids d) Bt xs∧Is A (fH T Bt)∧Apart T Bt ∧
  ∀H' ds' B',ds'.length=(kids d).length→dU K H' ds' B' xs→(∀a,T a→H' a=H a)→Apart T B'→Ow K H' (Fv d ds') (fH T B') v:=by
 cases d with
 | lst ds=>
  B4 Ow at h
  B3⟨a,xs,B,rfl,h2,h3,h4,h5⟩:=h
  cases s with
  | ix k=>
   B4 Cd at q
   cases q
   &⟨xs,(·=a),B,fun x hx=>?_,h5,h4,fun x qx qb=>h3 (qx▸qb),fun H' ds' B' hl o f ap=>?_⟩
   ·B4 stepV;dsimp only;rw[h2];~hx
   ·show Ow K H' (.lst ds') _ _
    B4 Ow
    ~⟨a,xs,B',rfl,(f a rfl).trans h2,ap a rfl,fun _=>Iff.rfl,o⟩
  | _=>B4 Cd at q;cases q
 | dk ks ds=>
  B4 Ow at h
  B3⟨a,xs,B,rfl,h2,h2',h3,h4,h5⟩:=h
  cases s with
  | key k=>
   have q:posK ks k=some j:=q
   &⟨xs,(·=a),B,fun x hx=>?_,h5,h4,fun x qx qb=>h3 (qx▸qb),fun H' ds' B' hl o f ap=>?_⟩
   ·B4 stepV;dsimp only;rw[h2];show wH (ks.zip xs) k=_;rw[sS h2',q];~hx
   ·show Ow K H' (.dk ks ds') _ _
    B4 Ow
    ~⟨a,xs,B',rfl,(f a rfl).trans h2,h2',ap a rfl,fun _=>Iff.rfl,o⟩
  | _=>B4 Cd at q;cases q
 | ins C nm ds=>
  B4 Ow at h
  B3⟨a,dx,xs,B,rfl,h2,h2',h3,h3',h3'',h4,h5⟩:=h
  cases s with
  | fld C0 k=>
   have q:(if C=C0 then posK nm k else none)=some j:=q
   by_cases hc:C=C0
   rotate_left
   ·rw[if_neg hc]at q;cases q
   rw[if_pos hc]at q
   &⟨xs,(fun x=>x=a∨x=dx),B,fun x hx=>?_,h5,h4,fun x qx qb=>qx.elim (fun z=>h3' (z▸qb)) fun z=>h3'' (z▸qb),fun H' ds' B' hl o f ap=>?_⟩
   ·B4 stepV;dsimp only;rw[h2];show (if C=C0 then(nm.zip xs).lookup k else none)=_;rw[if_pos hc,Dp h3,q];~hx
   ·show Ow K H' (.ins C nm ds') _ _
    B4 Ow
    ~⟨a,dx,xs,B',rfl,(f a (.inl rfl)).trans h2,(f dx (.inr rfl)).trans h2',h3,ap a (.inl rfl),ap dx (.inr rfl),fun _=>Iff.rfl,o⟩
  | _=>B4 Cd at q;cases q
 | _=>cases s<;>(B4 Cd at q;cases q)
B5 Ow.at{K:aF}{H:Hp}:∀{p:List Step} {d d1:D} {A:Fp} {v:V},Ow K H d A v→eV p d=some d1→∃w A1 C,Ld H p v=some w∧Apart A1 C∧Is A (fH A1 C)∧Ow K H d1 A1 w ∧
    ∀H' d' A',Apart A' C→(∀a,C a→H' a=H a)→Dh K H H'→Ow K H' d' A' w→Ow K H' (eO p d d') (fH A' C) v
  | [],d,d1,A,v,h,q=>by
    B4 eV at q
    cases q
    ~⟨v,A,nil,rfl,fun _ _ z=>z,fun x=>⟨.inl,fun z=>z.elim id False.elim⟩,h,fun H' d' A' _ _ _ o=>o.congr fun x=>⟨.inl,fun z=>z.elim id False.elim⟩⟩
  | s::p,d,d1,A,v,h,q=>by
    B4 eV at q
    B3⟨j,q1,q2⟩:=aX q
    B3⟨c,q3,q4⟩:=aX q2
    B3⟨xs,T,Bt,k1,k2,k3,k4,k5⟩:=h.kids q1
    B3⟨y,B1,C1,f1,f2,f3,f4,f5⟩:=(cO.mp k2).focus q3
    B3⟨w,A1,C2,g1,g2,g3,g4,g5⟩:=Ow.at f4 q4
    &⟨w,A1,fH T (fH C1 C2),?_,?_,?_,g4,fun H' d' A' ap fr tk o=>?_⟩
    · B4 Ld
      rw[k1 y f1]
      ~g1
    · intro x qx qc
      have b1:B1 x:=(g3 x).mpr (.inl qx)
      rcases qc with qc | qc | qc
      · ~k4 x qc ((f3 x).mpr (.inl b1))
      · ~f2 x b1 qc
      · ~g2 x qx qc
    · intro x
      rw[k3 x]
      constructor
      · rintro(z | z)
        · ~.inr (.inl z)
        · rcases(f3 x).mp z with z | z
          · rcases(g3 x).mp z with z | z
            · ~.inl z
            · ~.inr (.inr (.inr z))
          · ~.inr (.inr (.inl z))
      · rintro(z | z | z | z)
        · ~.inr ((f3 x).mpr (.inl ((g3 x).mpr (.inl z))))
        · ~.inl z
        · ~.inr ((f3 x).mpr (.inr z))
        · ~.inr ((f3 x).mpr (.inl ((g3 x).mpr (.inr z))))
    · have o1:Ow K H' (eO p c d') (fH A' C2) y:=g5 H' d' A' (fun x a b=>ap x a (.inr (.inr b))) (fun a z=>fr a (.inr (.inr z))) tk o
      have ap1:Apart (fH A' C2) C1:=fun x a b=>a.elim (fun z=>ap x z (.inr (.inl b))) fun z=>f2 x ((g3 x).mpr (.inr z)) b
      have o2:=f5 (Ow K H') (fun e B z hb qq=>Ow.frame tk e B z qq fun a za=>fr a (.inr (.inl (hb a za)))) (eO p c d') y (fH A' C2) ap1 o1
      rw[set_same f1]at o2
      have o3:=k5 H' ((L2.kids d).set j (eO p c d')) _ (by rw[K2]) (cO.mpr o2) (fun a z=>fr a (.inl z)) (fun x a b=>by
        rcases b with (b | b) | b
        · ~ap x b (.inl a)
        · ~k4 x a ((f3 x).mpr (.inl ((g3 x).mpr (.inr b))))
        · ~k4 x a ((f3 x).mpr (.inr b)))
      have e:eO (s::p) d d'=Fv d ((L2.kids d).set j (eO p c d')):=by
        show (match Cd s d with | some j=>_ | none=>_)=_
        rw[q1]
        show (match (L2.kids d)[j]? with | some c=>_ | none=>_)=_
        rw[q3]
      rw[e]
      &o3.congr fun x=>?_
      show (T x∨(A' x∨C2 x)∨C1 x)↔(A' x∨T x∨C1 x∨C2 x)
      constructor
      · rintro(z | (z | z) | z)
        · ~.inr (.inl z)
        · ~.inl z
        · ~.inr (.inr (.inr z))
        · ~.inr (.inr (.inl z))
      · rintro(z | z | z | z)
        · ~.inr (.inl (.inl z))
        · ~.inl z
        · ~.inr (.inr z)
        · ~.inr (.inl (.inr z))
section
variable{K:aF}{B H:Hp}{env:EN}{σ:St}
B5 Rel.at{i:Nat}{p:List Step}{d0 d:D}(h:Rel K B env σ H)(e:env[i]?=some (.own d0))(q:eV p d0=some d):∃v0 w A1 C,σ[i]?=some (some v0)∧Ld H p v0=some w∧Ow K H d A1 w∧Apart A1 C∧(∀a,C a→mR H a) ∧
    ∀H' d' A',Apart A' C→(∀a,C a→H' a=H a)→Dh K H H'→Ow K H' d' A' w→aU (out H (fH A1 C)) (out H' (fH A' C))→Rel K B (env.set i (.own (eO p d0 d'))) σ H':=by
  B3⟨A,a,b⟩:=h
  have cl:=jN a
  B3⟨y,A1,C,h1,h2,h3,h4,k⟩:=a.focus e
  B3⟨v0,rfl,o⟩:=h4
  B3⟨w,B1,C1,g1,g2,g3,g4,g5⟩:=o.at q
  &⟨v0,w,B1,fH C1 C,h1,g1,g4,fun x z1 z2=>?_,fun x z=>?_,fun H' d' A' ap fr tk o' sm=>?_⟩
  · ~z2.elim (g2 x z1) (h2 x ((g3 x).mpr (.inl z1)))
  · ~cl x ((h3 x).mpr (z.elim (fun z=>.inl ((g3 x).mpr (.inr z))) .inr))
  · have o2:=g5 H' d' A' (fun x z1 z2=>ap x z1 (.inl z2)) (fun x z=>fr x (.inl z)) tk o'
    have ap2:Apart (fH A' C1) C:=fun x z1 z2=>z1.elim (fun z=>ap x z (.inr z2)) fun z=>h2 x ((g3 x).mpr (.inr z)) z2
    have hA:Is A (fH B1 (fH C1 C)):=fun x=>by
      rw[h3 x]
      constructor
      · rintro(z | z)
        · ~((g3 x).mp z).elim .inl fun z=>.inr (.inl z)
        · ~.inr (.inr z)
      · rintro(z | z | z)
        · ~.inl ((g3 x).mpr (.inl z))
        · ~.inl ((g3 x).mpr (.inr z))
        · ~.inr z
    have g:aU (out H A) (out H' (fH (fH A' C1) C)):=fun x u ex=>by
      B3⟨e1,e2⟩:=bB.mp ex
      have:=sm x u (bB.mpr ⟨fun z=>e1 ((hA x).mpr z),e2⟩)
      B3⟨e3,e4⟩:=bB.mp this
      ~bB.mpr ⟨fun z=>e3 (z.elim (fun z=>z.elim .inl fun z=>.inr (.inl z)) fun z=>.inr (.inr z)),e4⟩
    have s:=k (fP K H' (out H' (fH (fH A' C1) C))) (fun s D z hb qq=>by
      cases s with
      | no=>~qq
      | fro d=>B3⟨q1,v,q2,q3⟩:=qq;~⟨q1,v,q2,g.rv _ _ q3⟩
      | inn v d=>~⟨qq.1,Ow.frame tk _ _ _ qq.2 fun x zx=>fr x (.inr (hb x zx))⟩
      | own d=>B3⟨v,q1,q2⟩:=qq;~⟨v,q1,Ow.frame tk _ _ _ q2 fun x zx=>fr x (.inr (hb x zx))⟩) (.own (eO p d0 d')) (some v0) (fH A' C1) ap2 ⟨v0,rfl,o2⟩
    rw[set_same h1]at s
    ~⟨_,s,b.trans g⟩
B5 Rel.Yd{i:Nat}{p:List Step}{d0:D}{ds:List D}(h:Rel K B env σ H)(e:env[i]?=some (.own d0))(q:eV p d0=some (.lst ds)):∃v0 a xs Bs,σ[i]?=some (some v0)∧Ld H p v0=some (.ref a)∧H a=some (.lst xs)∧¬Bs a∧dU K H ds Bs xs ∧
    ∀H2 ds' xs' Bn,aU H H2→dU K H2 ds' Bn xs'→(∀b,Bn b→Bs b∨H b=none)→Rel K B (env.set i (.own (eO p d0 (.lst ds')))) σ (upd H2 a (.lst xs')):=by
  B3⟨v0,w,A1,C,h1,h2,h3,h4,h5,h6⟩:=h.at e q
  B4 Ow at h3
  B3⟨a,xs,Bs,rfl,o2,o3,o4,o5⟩:=h3
  &⟨v0,a,xs,Bs,h1,h2,o2,o3,o5,fun H2 ds' xs' Bn s o hb=>?_⟩
  have nBa:¬Bn a:=fun z=>(hb a z).elim o3 fun z=>by rw[o2]at z;cases z
  have hC:∀x,C x→¬x=a:=fun x z y=>h4 x ((o4 x).mpr (.inl y)) z
  have Ss:H2 a=some (.lst xs):=s a _ o2
  &h6 _ (.lst ds') (fH (·=a) Bn) (fun x z1 z2=>?_) (fun x z=>?_) (s.tk.trans (uP (vH Ss))) ?_ (fun x u ex=>?_)
  · rcases z1 with z1 | z1
    · ~hC x z2 z1
    · rcases hb x z1 with z | z
      · ~h4 x ((o4 x).mpr (.inr z)) z2
      · B3⟨⟨u,eu⟩,_⟩:=h5 x z2
        rw[z]at eu;cases eu
  · B3⟨⟨u,eu⟩,_⟩:=h5 x z
    rw[bN (hC x z),eu,s x u eu]
  · B4 Ow
    &⟨a,xs',Bn,rfl,cD,nBa,fun _=>Iff.rfl,dU.frame (uP (vH Ss)) _ _ _ o fun x zx=>bN fun y=>nBa (y▸zx)⟩
  · B3⟨e1,e2⟩:=bB.mp ex
    have na:x≠a:=fun y=>e1 (.inl ((o4 x).mpr (.inl y)))
    &bB.mpr ⟨fun z=>?_,by rw[bN na];~s x u e2⟩
    rcases z with (z | z) | z
    · ~na z
    · rcases hb x z with z | z
      · ~e1 (.inl ((o4 x).mpr (.inr z)))
      · rw[z]at e2;cases e2
    · ~e1 (.inr z)
B5 Rel.aJr{i:Nat}{p:List Step}{d0:D}{ks:List Key}{ds:List D}(h:Rel K B env σ H)(e:env[i]?=some (.own d0))(q:eV p d0=some (.dk ks ds)):∃v0 a xs Bs,σ[i]?=some (some v0)∧Ld H p v0=some (.ref a)∧H a=some (.dK (ks.zip xs))∧ks.length=xs.length∧¬Bs a∧dU K H ds Bs xs ∧
    ∀H2 ks' ds' xs' Bn,aU H H2→ks'.length=xs'.length→dU K H2 ds' Bn xs'→(∀b,Bn b→Bs b∨H b=none)→Rel K B (env.set i (.own (eO p d0 (.dk ks' ds')))) σ (upd H2 a (.dK (ks'.zip xs'))):=by
  B3⟨v0,w,A1,C,h1,h2,h3,h4,h5,h6⟩:=h.at e q
  B4 Ow at h3
  B3⟨a,xs,Bs,rfl,o2,o2',o3,o4,o5⟩:=h3
  &⟨v0,a,xs,Bs,h1,h2,o2,o2',o3,o5,fun H2 ks' ds' xs' Bn s hl o hb=>?_⟩
  have nBa:¬Bn a:=fun z=>(hb a z).elim o3 fun z=>by rw[o2]at z;cases z
  have hC:∀x,C x→¬x=a:=fun x z y=>h4 x ((o4 x).mpr (.inl y)) z
  have Ss:H2 a=some (.dK (ks.zip xs)):=s a _ o2
  &h6 _ (.dk ks' ds') (fH (·=a) Bn) (fun x z1 z2=>?_) (fun x z=>?_) (s.tk.trans (uP (Nm Ss))) ?_ (fun x u ex=>?_)
  · rcases z1 with z1 | z1
    · ~hC x z2 z1
    · rcases hb x z1 with z | z
      · ~h4 x ((o4 x).mpr (.inr z)) z2
      · B3⟨⟨u,eu⟩,_⟩:=h5 x z2
        rw[z]at eu;cases eu
  · B3⟨⟨u,eu⟩,_⟩:=h5 x z
    rw[bN (hC x z),eu,s x u eu]
  · B4 Ow
    &⟨a,xs',Bn,rfl,cD,hl,nBa,fun _=>Iff.rfl,dU.frame (uP (Nm Ss)) _ _ _ o fun x zx=>bN fun y=>nBa (y▸zx)⟩
  · B3⟨e1,e2⟩:=bB.mp ex
    have na:x≠a:=fun y=>e1 (.inl ((o4 x).mpr (.inl y)))
    &bB.mpr ⟨fun z=>?_,by rw[bN na];~s x u e2⟩
    rcases z with (z | z) | z
    · ~na z
    · rcases hb x z with z | z
      · ~e1 (.inl ((o4 x).mpr (.inr z)))
      · rw[z]at e2;cases e2
    · ~e1 (.inr z)
end
end L2


namespace L2
open PySem PySem.Spec PyProof.Rows
abbrev FP:=DE→Option (List Step)
def EvP(K:aF)(t:TE)(i:Nat)(π:FP):Prop:=∀(σ:St)(H:Hp)(e:DE)(v0:V)(p:List Step)(v:V)(Q:VK),yL K H e σ→σ[i]?=some (some v0)→π e=some p→Ld H p v0=some v→(∀H',aU H H'→Q v H')→t σ H Q
structure XP(K:aF)(X:Cx)(e:Expr)(t:TE)(i:Nat)(π:FP):Prop where
 hk:X.K=K
 pe:PE X e t
 ev:EvP K t i π
B5 Og{H:Hp}{s:Step}:∀{p:List Step} {v0 v:V},Ld H (p++[s]) v0=some v→∃w,Ld H p v0=some w∧stepV H s w=some v
 | [],v0,v,h=>by
  rw[a8]at h
  B4 Ld at h
  B3⟨w,h1,h2⟩:=aX h
  B4 Ld at h2
  cases h2
  ~⟨v0,rfl,h1⟩
 | s'::p,v0,v,h=>by
  rw[Q1]at h
  B4 Ld at h
  B3⟨u,h1,h2⟩:=aX h
  B3⟨w,h3,h4⟩:=Og h2
  &⟨w,?_,h4⟩
  B4 Ld
  rw[h1]
  ~h3
B5 aAJ{H:Hp}{k:Nat}{w v:V}(h:stepV H (.ix k) w=some v):∃a xs,w=.ref a∧H a=some (.lst xs)∧xs[k]?=some v:=by
 cases w with
 | ref a=>
  B4 stepV at h
  dsimp only at h
  cases q:H a with
  | none=>rw[q]at h;cases h
  | some o=>
   rw[q]at h
   cases o with
   | lst xs=>~⟨a,xs,rfl,q,h⟩
   | _=>cases h
 | _=>B4 stepV at h;cases h
def cR:FP:=fun _=>some []
def dm(π:FP)(g:FE):FP:=fun e=>(π e).bind fun p=>(g e).bind fun d=>match d with
 | .int k=>if 0≤k then some (p++[.ix k.toNat])else none
 | _=>none
section
variable{K:aF}{X:Cx}{e a b c:Expr}{es:List Expr}{t ta tb te:TE}{f g:FE}{tA:TA}{fs:FA}{pos:Pos}{i j:Nat}{π:FP}{st:Stmt}
B5 gG(h:PE X e (pH i))(hk:X.K=K:=by rfl):XP K X e (pH i) i cR:=⟨hk,h,fun σ H e v0 p v Q re h1 h2 h3 k=>by
 cases h2
 B4 Ld at h3
 cases h3
 ~⟨v0,h1,k H (aU.refl _)⟩⟩
B5 HR(h:XP K X a ta i π)(hb:XR K X b tb g)(hs:Xd b):XP K X (.Subscript a b pos) (DR (rIx K) ta tb) i (dm π g):=⟨h.hk,aEh (aEr h.hk) h.pe hb.pe hs,fun σ H e v0 p v Q re h1 h2 h3 k=>by
 B4 dm at h2
 B3⟨p0,q1,q2⟩:=aX h2
 B3⟨d,q3,q4⟩:=aX q2
 split at q4
 ·rename_i n
  split at q4
  ·rename_i hn
   cases q4
   B3⟨w,w1,w2⟩:=Og h3
   B3⟨ad,xs,rfl,w3,w4⟩:=aAJ w2
   &h.ev σ H e v0 p0 _ _ re h1 q1 w1 fun H1 s1=>hb.ev σ H1 H1 e _ _ (Zn.self K H1) (re.same s1) q3 fun y H2 Z2 s2 t2 z2 ry=>?_
   B4 Rv at ry
   ~.inl ⟨ad,xs,n,v,rfl,ry,pQ.of (s2 _ _ (s1 _ _ w3)),aJk hn w4,k H2 (s1.trans s2)⟩
  ·cases q4
 ·cases q4⟩
def zB(i:Nat)(π:FP)(f:FE):GS:=fun env=>match env[i]?,π (rE env),f (rE env)with
 | some (.own d0),some p,some d=>(match eV p d0 with
  | some (.lst ds)=>if ds.length<100000 then .next (env.set i (.own (eO p d0 (.lst (ds++[d])))))else .bad
  | _=>.bad)
 | _,_,_=>.bad
B5 Ye{H H1:Hp}{A:Fp}{ds:List D}{xs:List V}{N:Fp}(o:dU K H ds A xs)(fr:∀a,N a→H a=none):Apart A N:=fun x q1 q2=>by
 B3⟨⟨u,eu⟩,_⟩:=dU.cells _ _ _ o x q1
 rw[fr x q2]at eu;cases eu
B5 aAK(h:EvP K ta i π)(he:Nu K te f):qy K (kE (Hw K "list" nH ta (cI te lG))) (zB i π f):=fun B E σ H env r p=>by
 B4 zB at p
 split at p
 ·rename_i d0 pp d q1 q2 q3
  split at p
  ·rename_i ds q4
   split at p
   ·rename_i hl
    B3⟨v0,a,xs,Bs,k1,k2,k3,k4,k5,k6⟩:=r.Yd q1 q4
    &h σ H (rE env) v0 pp _ _ r.r k1 q2 k2 fun H1 s1=>⟨.inl ⟨rfl,xs,pQ.of (s1 _ _ k3)⟩,?_⟩
    &he σ H1 (rE env) d _ (r.r.same s1) q3 fun y H2 s2 n=>?_
    B3⟨N,o,fr⟩:=n.back s1
    have s12:=s1.trans s2
    &⟨a,xs,y,rfl,rfl,s12 _ _ k3,Ny (by rw[(dU.rv _ _ _ k5).length];omega),p _ ?_⟩
    ~k6 H2 (ds++[d]) (xs++[y]) (fH Bs N) s12 (cO.mpr ((cO.mp (k5.same s12)).snoc o (Ye (H1:=H) k5 fr))) fun b z=>z.imp id (fr b)
   ·~p.elim
  ·~p.elim
 ·~p.elim
B5 VH{m:Str}{apos cpos:Pos}(h:XP K X a ta i π)(he:XN K X e te f)(hp:PE X a ta→PE X e te→PS X (.Expr (.Call (.Attribute a m apos) [e] [] cpos) pos) (kE (Hw K "list" nH ta (cI te lG)))):YS K X (.Expr (.Call (.Attribute a m apos) [e] [] cpos) pos) (kE (Hw K "list" nH ta (cI te lG))) (zB i π f):=⟨hp h.pe he.pe,(aAK h.ev he.ev).ds⟩
def vL(i:Nat)(π:FP)(g f:FE):GS:=fun env=>match env[i]?,π (rE env),g (rE env),f (rE env)with
 | some (.own d0),some p,some (.int k),some d=>(match eV p d0 with
  | some (.lst ds)=>(match QW ds.length k with
   | some j=>.next (env.set i (.own (eO p d0 (.lst (ds.set j d)))))
   | none=>.bad)
  | _=>.bad)
 | _,_,_,_=>.bad
B5 aF9{n:Nat}{k:Int}{j:Nat}(h:QW n k=some j):j<n:=by
 B4 QW at h
 split at h
 ·split at h
  ·cases h;omega
  ·cases h
 ·split at h
  ·cases h;omega
  ·cases h
B5 dq(h:EvP K ta i π)(hx:Ka K tb g)(he:Nu K te f):qy K (wF te (kh ta tb Ug)) (vL i π g f):=fun B E σ H env r p=>by
 B4 vL at p
 split at p
 ·rename_i d0 pp k d q1 q2 q3 q3'
  split at p
  ·rename_i ds q4
   split at p
   ·rename_i j q5
    B3⟨v0,a,xs,Bs,k1,k2,k3,k4,k5,k6⟩:=r.Yd q1 q4
    &he σ H (rE env) d _ r.r q3' fun y H1 s1 n=>?_
    &h σ H1 (rE env) v0 pp _ _ (r.r.same s1) k1 q2 (zA s1 k2) fun H2 s2=>hx σ H2 H2 (rE env) _ _ (Zn.self K H2) (r.r.same (s1.trans s2)) q3 fun y' H3 Z3 s3 t3 z3 ry=>?_
    B4 Rv at ry
    have Xy:=s1.trans (s2.trans s3)
    B3⟨N,o,fr⟩:=n.same (s2.trans s3)
    have hlen:=(dU.rv _ _ _ k5).length
    &⟨a,xs,k,j,rfl,ry,Xy _ _ k3,by rw[hlen];~q5,p _ ?_⟩
    B3⟨y0,A1,C,f1,f2,f3,f4,f5⟩:=(cO.mp (k5.same Xy)).focus (B6 (aF9 q5))
    have ap:Apart N C:=fun x q1 q2=>Ye (H1:=H) k5 fr x ((f3 x).mpr (.inr q2)) q1
    ~k6 H3 (ds.set j d) (xs.set j y) (fH N C) Xy (cO.mpr (f5 (Ow K H3) (fun _ _ _ _ qq=>qq) d y N ap o)) fun b z=>z.elim (fun z=>.inr (fr b z)) fun z=>.inl ((f3 b).mpr (.inr z))
   ·~p.elim
  ·~p.elim
 ·~p.elim
B5 du{pos':Pos}(h:XP K X a ta i π)(hx:XR K X b tb g)(he:XN K X e te f)(hp:PE X a ta→PE X b tb→PE X e te→PS X (.Assign [.Subscript a b pos'] e pos) (wF te (kh ta tb Ug))):YS K X (.Assign [.Subscript a b pos'] e pos) (wF te (kh ta tb Ug)) (vL i π g f):=⟨hp h.pe hx.pe he.pe,(dq h.ev hx.ev he.ev).ds⟩
def pG(i:Nat)(π:FP)(g f:FE):GS:=fun env=>match env[i]?,π (rE env),g (rE env),f (rE env)with
 | some (.own d0),some p,some k,some d=>(match eV p d0,Sq k with
  | some (.dk ks ds),some k=>if d.jF=true∧ks.length<100000 then .next (env.set i (.own (eO p d0 (.dk (lE ks k) (putD ks ds k d)))))else .bad
  | _,_=>.bad)
 | _,_,_,_=>.bad
B5 HS{H:Hp}{d:D}{v:V}(o:Ow K H d nil v)(k:Key):∀{ks:List Key} {ds:List D} {A:Fp} {xs:List V},ks.length=xs.length→dU K H ds A xs→∃A',(∀x,A' x→A x)∧dU K H (R1 (fun k' d'=>if k'=k then d else d') ks ds) A' (R1 (fun k' d'=>if k'=k then v else d') ks xs)
 | [],ds,A,xs,hl,h=>by
  cases xs with
  | nil=>~⟨nil,fun _ z=>z.elim,by rw[R3,R3];B4 dU;~⟨fun _ z=>z,rfl⟩⟩
  | cons x xs=>simp at hl
 | k0::ks,[],A,xs,hl,h=>by B4 dU at h;rw[h.2]at hl;simp at hl
 | k0::ks,d0::ds,A,xs,hl,h=>by
  B4 dU at h
  B3⟨y,yt,A1,A2,rfl,h2,h3,h4,h5⟩:=h
  B3⟨A',a1,a2⟩:=HS o k (by simpa using hl) h5
  by_cases c:k0=k
  ·&⟨A',fun x q=>(h3 x).mpr (.inr (a1 x q)),?_⟩
   rw[J4,J4,if_pos c,if_pos c]
   B4 dU
   ~⟨v,_,nil,A',rfl,fun _ z=>z.elim,fun x=>⟨.inr,fun z=>z.elim False.elim id⟩,o,a2⟩
  ·&⟨fH A1 A',fun x q=>(h3 x).mpr (q.imp id (a1 x)),?_⟩
   rw[J4,J4,if_neg c,if_neg c]
   B4 dU
   ~⟨y,_,A1,A',rfl,fun x z1 z2=>h2 x z1 (a1 x z2),fun _=>Iff.rfl,h4,a2⟩
B5 dw(h:EvP K ta i π)(hx:Ka K tb g)(he:Ka K te f):qy K (Ff ta tb te) (pG i π g f):=fun B E σ H env r p=>by
 B4 pG at p
 split at p
 ·rename_i d0 pp kd d q1 q2 q3 q3'
  split at p
  ·rename_i ks ds k q4 q5
   split at p
   ·rename_i hc
    B3⟨v0,a,xs,Bs,k1,k2,k3,k3',k4,k5,k6⟩:=r.aJr q1 q4
    &he σ H H (rE env) d _ (Zn.self K H) r.r q3' fun y H1 Z1 s1 t1 z1 ry=>?_
    &h σ H1 (rE env) v0 pp _ _ (r.r.same s1) k1 q2 (zA s1 k2) fun H2 s2=>hx σ H2 H2 (rE env) _ _ (Zn.self K H2) (r.r.same (s1.trans s2)) q3 fun y' H3 Z3 s3 t3 z3 ry'=>?_
    have Xy:=s1.trans (s2.trans s3)
    have o:Ow K H3 d nil y:=yW d y hc.1 ((z1.sm.trans (s2.trans s3)).rv _ _ ry)
    have ek:=Lx q5 (z3.sm.rv _ _ ry')
    &⟨a,_,rfl,.inl ⟨ks.zip xs,k,Xy _ _ k3,ek,Ny (by rw[a9];omega),rfl⟩,p _ ?_⟩
    rw[GR k3']
    have ow3:=k5.same Xy
    have hl3:=(dU.rv _ _ _ k5).length
    by_cases c:(posK ks k).isSome=true
    ·B3⟨A',a1,a2⟩:=HS o k k3' ow3
     &k6 H3 (lE ks k) (putD ks ds k d) (putD ks xs k y) A' Xy (vK k3') ?_ fun b z=>.inl (a1 b z)
     B4 putD
     rw[if_pos c,if_pos c]
     ~a2
    ·&k6 H3 (lE ks k) (putD ks ds k d) (putD ks xs k y) (fH Bs nil) Xy (vK k3') ?_ fun b z=>z.elim .inl False.elim
     B4 putD
     rw[if_neg c,if_neg c]
     ~cO.mpr ((cO.mp ow3).snoc o fun _ _ z=>z)
   ·~p.elim
  ·~p.elim
 ·~p.elim
B5 Yg{pos':Pos}(h:XP K X a ta i π)(hx:XR K X b tb g)(he:XR K X e te f)(hp:PE X a ta→PE X b tb→PE X e te→PS X (.Assign [.Subscript a b pos'] e pos) (Ff ta tb te)):YS K X (.Assign [.Subscript a b pos'] e pos) (Ff ta tb te) (pG i π g f):=⟨hp h.pe hx.pe he.pe,(dw h.ev hx.ev he.ev).ds⟩
B5 Uz{α β:Type}{R:α→Fp→β→Prop}:∀{ds:List α} {A:Fp} {ys:List β} (k:Nat),eN R ds A ys→∃A',(∀x,A' x→A x)∧eN R (ds.eraseIdx k) A' (ys.eraseIdx k)
 | [],A,ys,k,h=>⟨A,fun _ z=>z,by rw[h.2];~⟨h.1,rfl⟩⟩
 | d::ds,A,ys,0,⟨y,yt,A1,A2,h1,h2,h3,h4,h5⟩=>⟨A2,fun x z=>(h3 x).mpr (.inr z),by rw[h1];~h5⟩
 | d::ds,A,ys,k+1,⟨y,yt,A1,A2,h1,h2,h3,h4,h5⟩=>by
  B3⟨A',a1,a2⟩:=Uz k h5
  &⟨fH A1 A',fun x z=>(h3 x).mpr (z.imp id (a1 x)),?_⟩
  rw[h1,N1,N1]
  ~⟨y,_,A1,A',rfl,fun x z1 z2=>h2 x z1 (a1 x z2),fun _=>Iff.rfl,h4,a2⟩
def Ax(i j:Nat)(f:FE):GS:=fun env=>match env[i]?,env[j]?,f (rE env)with
 | some (.own (.lst ds)),some (.own (.lst es)),some (.int k)=>if i≠j∧ds.length<100000∧0≤k∧k<es.length∧es.length≤100000 then(match es[k.toNat]? with
   | some d=>if d.jF=true then .next ((env.set j (.own (.lst (es.eraseIdx k.toNat)))).set i (.own (.lst (ds++[d]))))else .bad
   | none=>.bad)else .bad
 | _,_,_=>.bad
B5 qz(he:Ka K te f):DS K (kE (Hw K "list" nH (pH i) (cI (Hw K "list" Xj (pH j) (cI te lG)) lG))) (Ax i j f):=fun B E σ H env r p=>by
 B4 Ax at p
 split at p
 ·rename_i ds es k q1 q2 q3
  split at p
  ·rename_i hc
   B3⟨c1,c2,c3,c4,c5⟩:=hc
   split at p
   ·rename_i d q4
    split at p
    ·rename_i im
     B3⟨w0,b,ys,Cs,m1,m2,m3,m4,m5,m6⟩:=r.Yd (p:=[]) q2 rfl
     B3⟨v0,a,xs,Bs,k1,k2,k3,k4,k5,k6⟩:=r.Yd (p:=[]) q1 rfl
     have e1:v0=.ref a:=by B4 Ld at k2;~F1 k2
     have e2:w0=.ref b:=by B4 Ld at m2;~F1 m2
     subst e1 e2
     &⟨_,k1,.inl ⟨rfl,xs,pQ.of k3⟩,⟨_,m1,.inl ⟨rfl,ys,pQ.of m3⟩,?_⟩⟩
     &he σ H H (rE env) _ _ (Zn.self K H) r.r q3 fun y H1 Z1 s1 t1 z1 ry=>?_
     B4 Rv at ry
     have hly:=(dU.rv _ _ _ m5).length
     have hlx:=(dU.rv _ _ _ k5).length
     B3⟨x',hx',rx'⟩:=(dU.rv _ _ _ m5).get q4
     &⟨b,ys,k,k.toNat,x',rfl,by rw[ry],s1 _ _ m3,by omega,by omega,seqIndex_of c3 (by rw[hly];~c4),hx',?_⟩
     have o1:=m5.same s1
     B3⟨A',a1,a2⟩:=Uz k.toNat (cO.mp o1)
     have r1:=m6 H1 (es.eraseIdx k.toNat) (ys.eraseIdx k.toNat) A' s1 (cO.mpr a2) fun x z=>.inl (a1 x z)
     have r1':Rel K B (env.set j (.own (.lst (es.eraseIdx k.toNat)))) σ (upd H1 b (.lst (ys.eraseIdx k.toNat))):=r1
     have q1':(env.set j (.own (.lst (es.eraseIdx k.toNat))))[i]?=some (.own (.lst ds)):=by rw[G4,if_neg (Ne.symm c1)];~q1
     B3⟨v0',a',xs',Bs',n1,n2,n3,n4,n5,n6⟩:=r1'.Yd (p:=[]) q1' rfl
     rw[k1]at n1
     cases n1
     have e3:a'=a:=by B4 Ld at n2;cases n2;rfl
     subst e3
     have ne:a'≠b:=by
      intro z
      subst z
      B3⟨A0,sA,_⟩:=r
      B3⟨y1,A1,C,f1,f2,f3,f4,f5⟩:=sA.focus q1
      B3⟨v1,ev1,o1⟩:=f4
      have g1:=f5 (fP K H (out H A0)) (fun _ _ _ _ qq=>qq) (.own (.lst ds)) (some v1) A1 f2 ⟨v1,rfl,o1⟩
      rw[k1]at f1
      cases f1
      cases ev1
      B4 Ow at o1
      B3⟨p1,_,_,ep1,_,_,ip1,_⟩:=o1
      cases ep1
      have other:∀{l:EN} {A:Fp} {ys:St} (i j:Nat),eN (fP K H (out H A0)) l A ys→i≠j→∀s s',l[i]?=some s→l[j]?=some s'→∃y y' A1 A2,ys[i]?=some y∧ys[j]?=some y'∧fP K H (out H A0) s A1 y∧fP K H (out H A0) s' A2 y'∧Apart A1 A2:=by
       intro l
       induction l with
       | nil=>intro A ys i j _ _ s s' h1 _;simp at h1
       | cons d l ih=>
        rintro A ys i j ⟨y,yt,B1,B2,rfl,h2,h3,h4,h5⟩ hij s s' h6 h7
        cases i with
        | zero=>
         cases j with
         | zero=>~absurd rfl hij
         | succ j=>
          simp at h6
          subst h6
          B3⟨y2,A3,C3,w1,w2,w3,w4,_⟩:=h5.focus (i:=j) (d:=s') (by simpa using h7)
          ~⟨y,y2,B1,A3,rfl,by simpa using w1,h4,w4,fun x z1 z2=>h2 x z1 ((w3 x).mpr (.inl z2))⟩
        | succ i=>
         cases j with
         | zero=>
          simp at h7
          subst h7
          B3⟨y2,A3,C3,w1,w2,w3,w4,_⟩:=h5.focus (i:=i) (d:=s) (by simpa using h6)
          ~⟨y2,y,A3,B1,by simpa using w1,rfl,w4,h4,fun x z1 z2=>h2 x z2 ((w3 x).mpr (.inl z1))⟩
         | succ j=>
          B3⟨y2,y3,A3,A4,w1,w2,w3,w4,w5⟩:=ih i j h5 (fun z=>hij (by rw[z])) s s' (by simpa using h6) (by simpa using h7)
          ~⟨y2,y3,A3,A4,by simpa using w1,by simpa using w2,w3,w4,w5⟩
      B3⟨y2,y3,A3,A4,w1,w2,w3,w4,w5⟩:=other i j sA c1 _ _ q1 q2
      rw[k1]at w1;cases w1
      rw[m1]at w2;cases w2
      B3⟨_,ea,oa⟩:=w3
      B3⟨_,eb,ob⟩:=w4
      cases ea
      cases eb
      B4 Ow at oa ob
      B3⟨p1,_,_,e1,_,_,i1,_⟩:=oa
      B3⟨p2,_,_,e2,_,_,i2,_⟩:=ob
      cases e1
      cases e2
      ~w5 _ ((i1 _).mpr (.inl rfl)) ((i2 _).mpr (.inl rfl))
     have n3':H1 a'=some (.lst xs'):=by rw[bN ne]at n3;~n3
     have exx:xs'=xs:=by have:=s1 _ _ k3;rw[n3']at this;cases this;rfl
     subst exx
     have imo:Ow K (upd H1 b (.lst (ys.eraseIdx k.toNat))) d nil x':=Ow.frame (uP (vH (s1 _ _ m3))) _ _ _ (yW d x' im (s1.rv _ _ rx')) fun _ z=>z.elim
     &⟨a',xs',x',rfl,rfl,n3,Ny A6,p _ _ ?_⟩
     ~n6 _ (ds++[d]) (xs'++[x']) (fH Bs' nil) (aU.refl _) (cO.mpr ((cO.mp n5).snoc imo fun _ _ z=>z)) fun x z=>z.elim .inl False.elim
    ·~p.elim
   ·~p.elim
  ·~p.elim
 ·~p.elim
end
end L2


namespace L2
open PySem PySem.Spec PyProof.Rows
def VJ(K:aF)(B:Hp)(R:Fp)(env:EN)(σ:St)(H:Hp):Prop:=∃A,eN (fP K H (out H (fH A R))) env A σ∧Apart A R∧aU B (out H (fH A R))
section
variable{K:aF}{B H H':Hp}{env:EN}{σ:St}{R R' A1:Fp}
B5 Rel.x(h:Rel K B env σ H)(s:aU H H')(f:∀a,R a→H a=none):VJ K B R env σ H':=by
 B3⟨A,a,b⟩:=h
 have cl:=jN a
 have g:aU (out H A) (out H' (fH A R)):=bU s fun x q=>q.imp id (f x)
 &⟨A,a.mono fun e C z _ q=>q.same s g,fun x q1 q2=>?_,b.trans g⟩
 B3⟨⟨u,eu⟩,_⟩:=cl x q1
 rw[f x q2]at eu;cases eu
B5 VJ.own{i:Nat}{d:D}{v:V}(h:VJ K B R env σ H)(e:Is R (fH A1 R'))(ap:Apart A1 R')(o:Ow K H d A1 v)(hi:i<env.length):VJ K B R' (env.set i (.own d)) (σ.set i (some v)) H:=by
 B3⟨A,a,aR,b⟩:=h
 B3⟨y,A0,C,h1,h2,h3,h4,k⟩:=a.focus (B6 hi)
 have g:aU (out H (fH A R)) (out H (fH (fH A1 C) R')):=bU (aU.refl _) fun x q=>by
  rcases q with (q | q) | q
  ·~.inl (.inr ((e x).mpr (.inl q)))
  ·~.inl (.inl ((h3 x).mpr (.inr q)))
  ·~.inl (.inr ((e x).mpr (.inr q)))
 &⟨fH A1 C,k _ (fun s D z _ q=>q.same (aU.refl _) g) (.own d) (some v) A1 (fun x q1 q2=>aR x ((h3 x).mpr (.inr q2)) ((e x).mpr (.inl q1))) ⟨v,rfl,o⟩,fun x q1 q2=>?_,b.trans g⟩
 rcases q1 with q1 | q1
 ·~ap x q1 q2
 ·~aR x ((h3 x).mpr (.inr q1)) ((e x).mpr (.inr q2))
B5 VJ.done(h:VJ K B R env σ H)(e:None R):Rel K B env σ H:=by
 B3⟨A,a,aR,b⟩:=h
 have g:aU (out H (fH A R)) (out H A):=bU (aU.refl _) fun x q=>.inl (.inl q)
 ~⟨A,a.mono fun s D z _ q=>q.same (aU.refl _) g,b.trans g⟩
end
def nU:List Nat→TGs
 | []=>aHu
 | i::is=>aEc (jR i) (nU is)
def oU:EN→List Nat→List D→EN
 | env,i::is,d::ds=>oU (env.set i (.own d)) is ds
 | env,_,_=>env
B5 Oh{K:aF}{B H:Hp}{Q:St→Hp→Prop}:∀{is:List Nat} {ds:List D} {xs:List V} {R:Fp} {env:EN} {σ:St},VJ K B R env σ H→dU K H ds R xs→is.length=ds.length→(∀i∈is,i<env.length) →
  (∀σ',Rel K B (oU env is ds) σ' H→Q σ' H)→nU is xs σ H Q
 | [],ds,xs,R,env,σ,r,o,hl,hi,k=>by
  cases ds with
  | cons d ds=>simp at hl
  | nil=>
   B4 dU at o
   B4 nU
   ~⟨o.2,k σ (by B4 oU;~r.done o.1)⟩
 | i::is,ds,xs,R,env,σ,r,o,hl,hi,k=>by
  cases ds with
  | nil=>simp at hl
  | cons d ds=>
   B4 dU at o
   B3⟨y,yt,A1,A2,rfl,h2,h3,h4,h5⟩:=o
   B4 nU
   &⟨y,yt,rfl,?_⟩
   have hi0:=hi i C9
   ~Oh (r.own h3 h2 h4 hi0) h5 (by simpa using hl) (fun j hj=>by rw[K2];~hi j (C6 _ hj)) fun σ' r'=>k σ' (by B4 oU;~r')
def wN(is:List Nat)(f:FE):GS:=fun env=>match f (rE env)with
 | some (.tup ds)=>if is.length=ds.length∧is.all (fun i=>decide (i<env.length))=true then .next (oU env is ds)else .bad
 | _=>.bad
section
variable{K:aF}{X:Cx}{e a b c:Expr}{es:List Expr}{t ta tb te:TE}{f g:FE}{tA:TA}{fs:FA}{pos:Pos}{i j:Nat}{π:FP}{st:Stmt}
B5 rm{is:List Nat}{n:Nat}(h:Nu K te f)(hn:n=is.length):DS K (wF te (Wv K n (nU is))) (wN is f):=fun B E σ H env r p=>by
 B4 wN at p
 split at p
 ·rename_i ds q
  split at p
  ·rename_i hc
   &h σ H (rE env) _ _ r.r q fun v H' s ⟨N,o,fr⟩=>?_
   B4 Ow at o
   B3⟨ad,xs,rfl,o1,o2⟩:=o
   &⟨ad,xs,rfl,o1,by rw[(dU.rv _ _ _ o2).length,hn,hc.1],?_⟩
   ~Oh (r.x s fr) o2 hc.1 (fun i hi=>of_decide_eq_true (M8.mp hc.2 i hi)) fun σ' r'=>p σ' H' r'
  ·~p.elim
 ·~p.elim
B5 rn{is:List Nat}{n:Nat}{tg:Expr}(h:XN K X e te f)(hp:PE X e te→PS X (.Assign [tg] e pos) (wF te (Wv K n (nU is))))(hn:n=is.length:=by rfl):YS K X (.Assign [tg] e pos) (wF te (Wv K n (nU is))) (wN is f):=⟨hp h.pe,rm h.ev hn⟩
def aAL:EN→List Nat→Option (List D)
 | _,[]=>some []
 | env,i::is=>(match env[i]? with
  | some (.own d)=>(aAL env is).map (d::·)
  | _=>none)
inductive TyS(K:aF)(H:Hp):V→Value→Prop where
 | bl (x:Bool):TyS K H (.bl x) (.type "bool")
 | int (i:Int):TyS K H (.int i) (.type "int")
 | lst {a:Addr} {xs:List V} (e:pQ K H a xs):TyS K H (.ref a) (.type "list")
 | tup {a:Addr} {xs:List V} (e:xR K H a xs):TyS K H (.ref a) (.type "tuple")
B5 Yh:mZ X (.builtin "isinstance") (fun xs H Q=>∃x T t b,xs=[x,.ty T]∧TyS X.K H x t∧K1 X.K t (.type T)=some b∧Q (.bl b) H):=by
 intro pins s σ H xs us Q I r h
 B3⟨x,T,t,b,rfl,ty,hk,q⟩:=h
 B3⟨u,w',rfl,rx,rt⟩:=vals2 r
 cases rt
 cases ty with
 | bl y=>~Tz I rx (.bl y) hk fun tk=>⟨.bl b,H,I.tok _,rfl,q⟩
 | int i=>~Tz I rx (.int i) hk fun tk=>⟨.bl b,H,I.tok _,rfl,q⟩
 | @lst a xs e=>
  cases(show u=Value.ref a from rx)
  B3⟨its,_,pl,_⟩:=I.list e
  B3⟨o,n,h1,h2,_⟩:=pl
  ~L0 X5 I.Ht ⟨o,h1,h2⟩ hk (fun z=>nomatch z) fun tk=>⟨.bl b,H,I.tok _,rfl,q⟩
 | @tup a xs e=>
  cases(show u=Value.ref a from rx)
  B3⟨its,_,pl,_⟩:=I.tuple e
  B3⟨o,h1,h2,_⟩:=pl
  ~L0 i6 I.Ht ⟨o,h1,h2⟩ hk (fun z=>nomatch z) fun tk=>⟨.bl b,H,I.tok _,rfl,q⟩
def HW(T:String)(d:D):Option D:=match d with
 | .int _=>if T = "int" then some (.bl true)else if T = "bool" then some (.bl false)else none
 | .bl _=>if T = "bool" then some (.bl true)else none
 | .lst _=>if T = "list" then some (.bl true)else none
 | .tup _=>if T = "tuple" then some (.bl true)else none
 | _=>none
def aAM(T:String)(f:FE):FE:=fun e=>(f e).bind (HW T)
def aH0(K:aF):List V→Hp→VK→Prop:=fun xs H Q=>∃x T t b,xs=[x,.ty T]∧TyS K H x t∧K1 K t (.type T)=some b∧Q (.bl b) H
B5 aGc{H:Hp}{T:String}{d r:D}{v:V}(h:HW T d=some r)(rv:Rv K H d v):∃t b,TyS K H v t∧K1 K t (.type T)=some b∧r=.bl b:=by
 cases d with
 | int i=>
  B4 HW at h
  dsimp only at h
  B4 Rv at rv
  subst rv
  split at h
  ·rename_i c;cases h;subst c;~⟨_,_,.int i,GK,rfl⟩
  ·split at h
   ·rename_i c;cases h;subst c;~⟨_,_,.int i,Xn,rfl⟩
   ·cases h
 | bl b=>
  B4 HW at h
  dsimp only at h
  B4 Rv at rv
  subst rv
  split at h
  ·rename_i c;cases h;subst c;~⟨_,_,.bl b,Sd,rfl⟩
  ·cases h
 | lst ds=>
  B4 HW at h
  dsimp only at h
  B4 Rv at rv
  B3⟨a,xs,rfl,r2,_⟩:=rv
  split at h
  ·rename_i c;cases h;subst c;~⟨_,_,.lst r2,Sg,rfl⟩
  ·cases h
 | tup ds=>
  B4 HW at h
  dsimp only at h
  B4 Rv at rv
  B3⟨a,xs,rfl,r2,_⟩:=rv
  split at h
  ·rename_i c;cases h;subst c;~⟨_,_,.tup r2,La,rfl⟩
  ·cases h
 | _=>B4 HW at h;cases h
B5 aGd(hk:X.K=K):mZ X (.builtin "isinstance") (aH0 K):=by subst hk;~Yh
B5 aGe{T:String}{p:Pos}{eT:Expr}(h:XR K X e t f)(hT:PE X eT (tC (.ty T)))(hg:Gl X "isinstance") (hm:X.mg "isinstance" = none) (hst:starEach (e::[eT]) X.env=(false,eval e X.env)::starEach [eT] X.env:=by rfl) (hst2:starEach [eT] X.env=(false,eval eT X.env)::starEach [] X.env:=by rfl)
  (hpl:(backTo pos (starEach [eT] X.env)).any (·.1)=false:=by rfl):XN K X (.Call (.Name "isinstance" p) [e,eT] [] pos) (tCB (aH0 K) (cI t (cI (tC (.ty T)) lG))) (aAM T f):=
 ⟨h.hk,EY (aGd h.hk) hg hm PyProof.Rows.boot_isinstance (cH h.pe (cH hT gU hst2) hst) A8 A8 hst hpl,fun σ H e d Q re q k=>by
  B4 aAM at q
  B3⟨d0,q1,q2⟩:=aX q
  &h.ev σ H H e d0 _ (Zn.self K H) re q1 fun v H1 Z1 s1 t1 z1 rv=>?_
  B3⟨ty,b,b1,b2,rfl⟩:=aGc q2 (z1.sm.rv _ _ rv)
  ~⟨v,T,ty,b,rfl,b1,b2,k _ H1 s1 (.jF rfl (by B4 Rv;rfl))⟩⟩
structure iD(mg:Str→Option Value)(x:Str)(i:Int):Prop where
 ex:∃t,mg x=some (.int i t)
structure aKq(K:aF)(mg:Str→Option Value)(x:Str)(ns:List Int):Prop where
 ex:∃a,mg x=some (.ref a)∧∀H:Hp,xR K H a (ns.map V.int)
B5 nZ{x:Str}{i:Int}(G:iD X.mg x i)(hg:Gl X x)(hd:(x==("__debug__" : Str))=false:=by decide) (hk:X.K=K:=by rfl):XN K X (.Name x pos) (tC (.int i)) (fC (.int i)):=by
 B3⟨t,h⟩:=G.ex
 ~⟨hk,aCq hg h ⟨t,rfl⟩ hd,aAp i⟩
def dTup(ns:List Int):D:=.tup (ns.map D.int)
end
def qR(n m:Nat)(g:GS):List D→Option D:=fun ds=>if ds.length=m then(match g (ds.map SD.fro++E7 (n-m) SD.no)with
  | .ret d=>some d
  | .next _=>some .non
  | _=>none)else none
B5 Oi{K:aF}{H Z:Hp}{k:Nat}:∀{ds:List D} {vs:List V},dF K Z ds vs→eN (fP K H Z) (ds.map SD.fro++E7 k SD.no) nil (vs.map some++E7 k none)
 | [],vs,h=>by
  B4 dF at h
  subst h
  simp only[L3,a8]
  induction k with
  | zero=>~⟨fun _ z=>z,rfl⟩
  | succ k ih=>
   rw[g9,g9]
   ~⟨none,_,nil,nil,rfl,fun _ z=>z.elim,fun x=>⟨.inl,fun z=>z.elim id id⟩,fun _ z=>z,ih⟩
 | d::ds,vs,h=>by
  B4 dF at h
  B3⟨y,ys,rfl,h1,h2⟩:=h
  rw[D5,D5,Q1,Q1]
  ~⟨some y,_,nil,nil,rfl,fun _ z=>z.elim,fun x=>⟨.inl,fun z=>z.elim id id⟩,⟨fun _ z=>z,y,rfl,h1⟩,Oi h2⟩
B5 Ij{K:aF}{H:Hp}{k:Nat}{ds:List D}{vs:List V}(h:dF K H ds vs):Rel K H (ds.map SD.fro++E7 k SD.no) (vs.map some++E7 k none) H:=by
 have g:aU H (out H nil):=fun x u e=>bB.mpr ⟨fun z=>z,e⟩
 ~⟨nil,Oi (g.bj _ _ h),g⟩
B5 Raw.zF{P:Program}{w:World}{K:aF}{mg:Str→Option Value}{base:Heap}{x:Str}{st:Stmt}{N ps:List Str}{k:Nat}{g:GS}(R:Raw K mg x st)(S:bA N ps (aL st))
  (hb:∀(kV doc pm:Value)(an:Option Addr)(cdv ct:Value)(us:List Value),us.length=ps.length→bindArgs (G2 x x (eQ st) (cC st) (aL st) .none kV doc pm an cdv ct) ⟨us,[]⟩=pure (ps.zip us))
  (hbody:∀(f:Addr)(cdv:Value)(A:Around)(outer:List Env)(s:Shared)(H:Hp)(E:XK),jK k (A.deeper (envOfC x (aL st) s.heap.objs.size f cdv)) →
   ∃t,YB K (Fd CQ P w K mg base N x (aL st) f cdv A outer s H E).ZV (cC st) t g):sJ P w K mg base x (k+1) ps.length (jA K ps.length (qR N.length ps.length g)):=by
 &R.cal S (fun vs H Q E h=>?_) hb (fun f cdv A outer s H vs Q E hr h=>?_)
 ·B3⟨ds,d,h1,h2,_⟩:=h
  rw[h2.length];~h1
 B3⟨ds,d,h1,h2,h3,kk⟩:=h
 B3⟨t,yb⟩:=hbody f cdv A outer s H E hr
 &⟨t,yb.ps,yb.ev H _ _ H (ds.map SD.fro++E7 (N.length-ps.length) SD.no) ?_ ?_⟩
 ·have hl:vs.length=ps.length:=by rw[h2.length];~h1
  have:=Ij (k:=N.length-ps.length) h2
  B4 start
  rw[hl]
  ~this
 ·B4 qR at h3
  rw[if_pos h1]at h3
  cases q:g (ds.map SD.fro++E7 (N.length-ps.length) SD.no)with
  | ret d'=>
   rw[q]at h3
   cases h3
   &fun v H' A' s' o=>kk v H' (s'.trans (jL _ _)) ⟨A',o,fun a qa=>?_⟩
   cases e:H a with
   | none=>rfl
   | some u=>~absurd qa (bB.mp (s' a u e)).1
  | next env'=>
   rw[q]at h3
   cases h3
   &fun σ' H' ⟨A',_,s'⟩=>kk .non H' (s'.trans (jL _ _)) (.jF rfl (by B4 Rv;rfl))
  | brk env'=>rw[q]at h3;cases h3
  | cont env'=>rw[q]at h3;cases h3
  | bad=>rw[q]at h3;cases h3
  | rete d e=>rw[q]at h3;cases h3
end L2


namespace L2
open PySem PySem.Spec PyProof.Rows
section
variable{K:aF}{X:Cx}{e a b c:Expr}{es:List Expr}{t ta tb te:TE}{f g:FE}{tA:TA}{fs:FA}{pos:Pos}{i j:Nat}{π:FP}{st:Stmt}{gb:GS}{tc:TT}{fc:FT}
def Dq(f:FE):FE:=fun e=>(f e).bind fun d=>match d with | .int i=>some (.int (-i)) | _=>none
B5 wO(ha:XR K X a ta f):XN K X (.UnaryOp .USub a pos) (tUn (rU fun i=>.int (-i)) ta) (Dq f):=aF1 ha
B5 dz{tg elt iter:Expr}{ifs:List Expr}{scope:Scope}{spos py:Pos}{y:Str}{wi:TI}{fi:FA}{fe:FE}(N:List Str)(fr:List Nat)(hcalm:X.calm=true)(B:kI X.env.scope scope X.N N 1 fr)(hN:X.N.Nodup)(hy:X.N[i]?=some y)(hx:Loc X.env.scope y)(hi:XI K X tg iter wi fi)
  (hg:∀cl fp s H C,PG (lD X scope N cl fp s H C) tg (jR 0)) (hc:∀cl fp s H C,XTs K (lD X scope N cl fp s H C) ifs tc fc) (he:∀cl fp s H C,XN K (lD X scope N cl fp s H C) elt te fe)
  (hsw:swapsWith (.ListComp elt [⟨tg,iter,ifs,0⟩] scope pos) (some (.Name y py)) spos.line X.env=pure true:=by rfl)
  (hs:∀x,foldedSetIterable iter X.env x=pure x:=by intro _;rfl) (hf:X.fn y=true∨X.env.scope.names.lookup y=some .local:=by first | ~.inl rfl | ~.inr rfl | assumption) :
  YS K X (.Assign [.Name y py] (.ListComp elt [⟨tg,iter,ifs,0⟩] scope pos) spos) (wF (FW wi 1 fr (jR 0) tc te) (jR i)) (cV i (jG fi fr fc fe)):=
 ⟨aCV N 1 fr hcalm B hN hy hx hi.pi hg (fun cl fp s H C=>(hc cl fp s H C).pts) (fun cl fp s H C=>(he cl fp s H C).pe) hsw hs hf,aAF (di hi.ev (hc [] [] X.s₀ X.H₀ 0).ev (he [] [] X.s₀ X.H₀ 0).ev)⟩
def EvJ(K:aF)(wi:TI)(fi:FA):Prop:=∀(σ:St)(H:Hp)(e:DE)(ds:List D)(R:It→Hp→Prop),yL K H e σ→fi e=some ds →
 (∀J H' P vs,aU H H'→JIs J P vs→(∀H2,P H2)→(∀Z,dF K Z ds vs)→R J H')→wi σ H R
structure XJ(K:aF)(X:Cx)(tg iter:Expr)(wi:TI)(fi:FA):Prop where
 pi:PI X tg iter wi
 ev:EvJ K wi fi
B5 Ay{tg:Expr}{p:Pos}(hg:Gl X "range") (hm:X.mg "range" = none) (ha:XA K X [a] tA fs) (hs:starEach [a] X.env=[(false,eval a X.env)]:=by rfl):XJ K X tg (.Call (.Name "range" p) [a] [] pos) (yr tA) (rC fs):=⟨Tw hg hm ha.pa hs,fun σ H e ds R re q k=>by
 B4 rC at q
 B3⟨es,q1,q2⟩:=aX q
 split at q2
 ·rename_i n
  split at q2
  ·rename_i hl
   cases q2
   have hl:=Xz hl
   &ha.ev σ H H e _ _ (Zn.self K H) re q1 fun vs H1 Z1 s1 t1 z1 rs=>?_
   B3⟨v,rfl,r⟩:=sU rs
   B4 Rv at r
   subst r
   ~⟨n,rfl,by omega,by omega,k _ H1 _ _ s1 Hz (fun _=>True.intro) fun Z=>Ig 0 n.toNat⟩
  ·cases q2
 ·cases q2⟩
B5 aH1{tg:Expr}{p:Pos}(hp:PA X [a,b] tA→PI X tg (.Call (.Name "range" p) [a,b] [] pos) (yu tA)) (ha:XA K X [a,b] tA fs):XI K X tg (.Call (.Name "range" p) [a,b] [] pos) (yu tA) (HQ fs):=⟨ha.hk,hp ha.pa,fun σ H Z e ds R z re q k=>by
 B4 HQ at q
 B3⟨es,q1,q2⟩:=aX q
 split at q2
 ·rename_i i j
  split at q2
  ·rename_i hl
   cases q2
   have hl1:=Xz hl.1
   have hl2:=Xz hl.2
   &ha.ev σ H Z e _ _ z re q1 fun vs H1 Z1 s1 t1 z1 rs=>?_
   B3⟨v,w,rfl,r,r'⟩:=aAx rs
   B4 Rv at r r'
   subst r r'
   ~⟨i,j,rfl,⟨by omega,by omega,by omega,by omega⟩,k _ H1 Z1 _ _ s1 t1 z1 Hz (fun _ _=>True.intro) (Ig i (j-i).toNat)⟩
  ·cases q2
 ·cases q2⟩
def xW(i:Nat)(fi:FA)(g:GS):GS:=fun env=>match fi (rE env)with
 | some xs=>By i g xs env
 | none=>.bad
B5 aDh{wi:TI}{fi:FA}{tb:TS}(hi:EvJ K wi fi)(h:DS K tb gb):DS K (Wy wi (jR i) tb) (xW i fi gb):=fun B E σ H env r p=>by
 B4 xW at p
 split at p
 ·rename_i xs q
  &hi σ H (rE env) xs _ r.r q fun J H1 P vs s hJ hP rvs=>?_
  have hl:=(rvs H).length
  &Ln hJ (fun k σ2 H2=>∃cZ,Rel K B cZ σ2 H2∧Lb K B E (By i gb (xs.drop k) cZ)) ⟨env,r.same s,by simpa using p⟩ (fun k σ2 H2 _ _=>hP H2) ?_ ?_
  ·rintro k x σ2 H2 hx ⟨cZ,r2,p2⟩
   have hk:k<xs.length:=by
    B3⟨h1,_⟩:=D4.mp hx
    omega
   rw[O0 hk]at p2
   B4 By at p2
   split at p2
   ·rename_i hlen
    B3⟨A2,a2,b2⟩:=r2
    B3⟨x',hx',rx⟩:=(rvs (out H2 A2)).get (B6 hk)
    rw[hx]at hx'
    cases hx'
    have r3:Rel K B (cZ.set i (.fro xs[k])) (σ2.set i (some x)) H2:=Mf a2 b2 hlen (aU.refl _) (aU.refl _) (Ii a2) rx
    &h B _ _ H2 _ r3 ?_
    split at p2
    ·rename_i env' q2;rw[q2];~fun σ' H' r'=>⟨env',r',p2⟩
    ·rename_i env' q2;rw[q2];~fun σ' H' r'=>⟨env',r',p2⟩
    ·rename_i env' q2;rw[q2];~p2
    ·rename_i n1 n2 n3
     cases q2:gb (cZ.set i (.fro xs[k]))with
     | next e=>~absurd q2 (n1 e)
     | cont e=>~absurd q2 (n2 e)
     | brk e=>~absurd q2 (n3 e)
     | ret d=>rw[q2]at p2;~p2
     | bad=>rw[q2]at p2;~p2
     | rete d e=>rw[q2]at p2;~p2
   ·~p2.elim
  ·rintro σ2 H2 ⟨cZ,r2,p2⟩
   rw[hl,U5]at p2
   ~p2 σ2 H2 r2
 ·~p.elim
B5 Mg{tg iter:Expr}{body:List Stmt}{wi:TI}{fi:FA}{tb:TS}(hp:PassesOwn (model X.prog X.w) X.A X.env X.xe)(VF:X.calm=true)(hi:XJ K X tg iter wi fi)(hg:PG X tg (jR i))(hb:YB K X body tb gb)
  (hs:∀x,foldedSetIterable iter X.env x=pure x:=by intro _;rfl):YS K X (.For tg iter body [] pos) (Wy wi (jR i) tb) (xW i fi gb):=⟨Wz hp VF hi.pi hg hb.ps hs,aDh hi.ev hb.ev⟩
B5 sr{m m':Str}{apos cpos aEy aEz:Pos}(he:XR K X e te f)(hp:PE X e te→PS X (.Expr (.Call (.Attribute a m apos) [.Call (.Attribute b m' aEy) [e] [] aEz] [] cpos) pos) (kE (Hw K "list" nH (pH i) (cI (Hw K "list" Xj (pH j) (cI te lG)) lG)))):YS K X (.Expr (.Call (.Attribute a m apos) [.Call (.Attribute b m' aEy) [e] [] aEz] [] cpos) pos) (kE (Hw K "list" nH (pH i) (cI (Hw K "list" Xj (pH j) (cI te lG)) lG))) (Ax i j f):=⟨hp he.pe,qz he.ev⟩
end
B5 VL{K:aF}{st:Stmt}{f:Addr}{fd:FuncData}(F:Fun K "law" "law" st f fd) (hb:∀(kV doc pm:Value)(an:Option Addr)(cdv ct:Value)(u:Value),bindArgs (G2 "law" "law" (eQ st) (cC st) (aL st) .none kV doc pm an cdv ct) ⟨[u],[]⟩=pure [(("script" : Str),u)]):∀(s:Shared)(u:Value),BindsTo s fd ⟨[u],[]⟩ [("script", u)]:=by
 B3⟨oc,od,kV,doc,pm,an,cdv,ct,osl,rfl,lk,hcd⟩:=F.ex
 ~fun s u=>.of_eq (hb kV doc pm an cdv ct u)
B5 nA{K:aF}{h:Heap}{mg:Str→Option Value}{x:Str}{i:Int}{t:Tok}(X:K.In h)(G:h.Ns mainGlobals mg)(a:S6 K mainGlobals x=some (some (.int i t))):iD mg x i:=⟨t,f9 X G a⟩
end L2


namespace L2
open PySem PySem.Spec PyProof.Rows
section
variable{K:aF}{X:Cx}{e a b c:Expr}{es:List Expr}{t ta tb te:TE}{f g:FE}{tA:TA}{fs:FA}{pos:Pos}{i j:Nat}{π:FP}{st:Stmt}
variable{lo hi:Option Expr}{tl th:TO}{fl fh:FO}{p2:Pos}
def aKs(a b:D):Option D:=match a,b with
 | .tup x,.tup y=>if D.eU x=true∧D.eU y=true∧x.length+y.length≤100000 then some (.tup (x++y))else none
 | _,_=>none
end
end L2


namespace L2
open PySem PySem.Spec PyProof.Rows
B5 bgo(xs:Array Nat)(j:Nat):∀(fuel lo hi:Nat),hi-lo≤fuel→lo≤hi→hi≤xs.size→xs.toList.Pairwise (·<·) →
  (∀i,i<lo→xs.getD i 0<j)→(∀i,hi≤i→i<xs.size→j≤xs.getD i 0) →
  SetTable.below.go xs j fuel lo hi≤xs.size∧(∀i,i<SetTable.below.go xs j fuel lo hi→xs.getD i 0<j)∧(∀i,SetTable.below.go xs j fuel lo hi≤i→i<xs.size→j≤xs.getD i 0)
 | 0,lo,hi,h1,h2,h3,up,h4,h5=>by
  B4 SetTable.below.go
  have e:lo=hi:=by omega
  subst e
  ~⟨h3,h4,h5⟩
 | fuel+1,lo,hi,h1,h2,h3,up,h4,h5=>by
  B4 SetTable.below.go
  have mono:∀a b,a<b→b<xs.size→xs.getD a 0<xs.getD b 0:=fun a b q q'=>by
   have:=K6.mp up a b (by simp;omega) (by simpa using q') q
   simp only[V3]at this
   simpa[P5,q',show a<xs.size by omega]using this
  split
  ·rename_i c
   have hm:(lo+hi)/2<xs.size:=by omega
   have e:xs.getD ((lo+hi)/2) j=xs.getD ((lo+hi)/2) 0:=by simp[P5,hm]
   dsimp only
   rw[e]
   by_cases c2:xs.getD ((lo+hi)/2) 0<j
   ·rw[if_pos c2]
    &bgo xs j fuel ((lo+hi)/2+1) hi A6 A6 h3 up (fun i hi'=>?_) h5
    rcases J2 i ((lo+hi)/2)with z | z
    ·have:=mono i _ z hm
     omega
    ·have z':i=(lo+hi)/2:=by omega
     subst z'
     ~c2
   ·rw[if_neg c2]
    &bgo xs j fuel lo ((lo+hi)/2) A6 A6 A6 up h4 fun i hi' hs=>?_
    rcases J2 ((lo+hi)/2) i with z | z
    ·have:=mono _ i z hs
     omega
    ·have z':i=(lo+hi)/2:=by omega
     subst z'
     omega
  ·have e:lo=hi:=by omega
   subst e
   ~⟨h3,h4,h5⟩
B5 below_at{xs:Array Nat}(up:xs.toList.Pairwise (·<·))(j:Nat) :
  SetTable.below xs j≤xs.size∧(∀i,i<SetTable.below xs j→xs.getD i 0<j)∧(∀i,SetTable.below xs j≤i→i<xs.size→j≤xs.getD i 0):=by
 B4 SetTable.below
 ~bgo xs j xs.size 0 xs.size A6 (M3 _) (D1 _) up (fun i h=>absurd h (I0 _)) fun i h h'=>by omega
def Led(b:Bool)(t:SetTable):Prop:=t.led=b∧(t.plain=true→t.place.toList.Pairwise (·<·)∧t.dummies=#[])
B5 Led.fresh(b:Bool):Led b (.fresh 0 0 b):=⟨rfl,fun _=>⟨by simp[SetTable.fresh],rfl⟩⟩
B5 Led.standIn{b:Bool}{t:SetTable}(h:Led b t)(n:Nat):Led b (t.standIn n):=⟨h.1,fun q=>by simp[SetTable.standIn]at q⟩
B5 Led.off{b:Bool}{t:SetTable}(h:Led b t):Led b {t with plain:=false}:=⟨h.1,fun q=>by simp at q⟩
B5 pgo{t:SetTable}(hd:t.dummies=#[]){g:Nat→Int}{h:Int}:∀(fuel:Nat)(p:SetTable.Probe)(j:Nat)(d:Option Nat),p.dummy=none→SetTable.probe.go t g h fuel p=some (.empty j d)→d=none∧t.slot j=.empty
 | 0,p,j,d,_,q=>by simp[SetTable.probe.go]at q
 | fuel+1,p,j,d,e,q=>by
  B4 SetTable.probe.go at q
  have adv:(t.advance p).dummy=none:=by
   B4 SetTable.advance
   split
   ·~e
   ·~e
  split at q
  ·rename_i c
   injection q with q
   injection q with q1 q2
   rw[←q1,←q2]
   ~⟨e,c⟩
  ·rename_i c
   exfalso
   B4 SetTable.slot at c
   dsimp only at c
   split at c
   ·cases c
   ·split at c
    ·rename_i z
     rw[hd]at z
     simp[SetTable.has]at z
    ·cases c
  ·split at q
   ·cases q
   ·~pgo hd fuel _ j d adv q
B5 Va{t:SetTable}(hd:t.dummies=#[]){h:Int}{j:Nat}{w:Bool}(q:t.freeSlot h=some (j,w)):t.slot j=.empty∧w=false:=by
 B4 SetTable.freeSlot at q
 split at q
 ·rename_i j' d e
  B3⟨rfl,e2⟩:=pgo hd _ _ _ _ (by rfl) e
  simp at q
  B3⟨rfl,rfl⟩:=q
  ~⟨e2,rfl⟩
 ·cases q
B5 aAN{t:SetTable}(hd:t.dummies=#[])(up:t.place.toList.Pairwise (·<·)){j:Nat}(q:t.slot j=.empty):(t.put j).1.place.toList.Pairwise (·<·)∧(t.put j).1.dummies=#[]:=by
 B3⟨b1,b2,b3⟩:=below_at up j
 &⟨?_,?_⟩
 ·show (SetTable.insertAt t.place (SetTable.below t.place j) j).toList.Pairwise (·<·)
  rw[SetTable.toList_insertAt]
  have ne:t.place[SetTable.below t.place j]?≠some j:=fun z=>by
   B4 SetTable.slot at q
   dsimp only at q
   rw[z]at q
   simp at q
  have lo:∀x∈t.place.toList.take (SetTable.below t.place j),x<j:=fun x hx=>by
   B3⟨i,hi,rfl⟩:=J1 hx
   rw[F3]at hi
   have hs:i<t.place.size:=by simp at hi;omega
   have:=b2 i A6
   simpa[P5,hs]using this
  have hi:∀x∈t.place.toList.drop (SetTable.below t.place j),j<x:=fun x hx=>by
   B3⟨i,hi,rfl⟩:=J1 hx
   rw[N6,K3]at hi
   have hs:SetTable.below t.place j+i<t.place.size:=by omega
   have h1:=b3 (SetTable.below t.place j+i) A6 hs
   have e:(t.place.toList.drop (SetTable.below t.place j))[i]=t.place.getD (SetTable.below t.place j+i) 0:=by simp[P5,hs]
   rw[e]
   rcases i9 i with z | z
   ·subst z
    rcases J2 j (t.place.getD (SetTable.below t.place j+0) 0)with y | y
    ·~y
    ·&absurd ?_ ne
     have e2:t.place.getD (SetTable.below t.place j) 0=j:=by simp only[Nat.add_zero]at y h1;omega
     rw[O1 A6]
     simpa[P5,show SetTable.below t.place j<t.place.size by omega]using e2
   ·have h0:=b3 (SetTable.below t.place j) (D1 _) A6
    have:=K6.mp up (SetTable.below t.place j) (SetTable.below t.place j+i) (by simp;omega) (by simpa using hs) A6
    simp only[V3]at this
    have e3:t.place.getD (SetTable.below t.place j) 0<t.place.getD (SetTable.below t.place j+i) 0:=by simpa[P5,hs,show SetTable.below t.place j<t.place.size by omega]using this
    omega
  &K7.mpr ⟨up.sublist (M5 _ _),J7.mpr ⟨hi,up.sublist (j8 _ _)⟩,fun x hx y hy=>?_⟩
  have h1:=lo x hx
  rcases C5.mp hy with z | z
  ·omega
  ·have:=hi y z
   omega
 ·show (if SetTable.has t.dummies j then _ else t.dummies)=#[]
  rw[hd]
  simp[SetTable.has]
B5 Led.lay{b:Bool}{t:SetTable}(h:Led b t)(es:Array (Int×Value))(k:Int)(x:Value):Led b (layNew t es k x).2.1:=by
 B4 layNew
 split
 ·rename_i j w e
  dsimp only
  B4 SetTable.orStandIn
  split
  ·&⟨h.1,fun q=>?_⟩
   B3⟨u,d⟩:=h.2 q
   ~aAN d u (Va d e).1
  ·~Led.standIn (t:=(t.put j).1) ⟨h.1,fun q=>by
    B3⟨u,d⟩:=h.2 q
    ~aAN d u (Va d e).1⟩ _
 ·~h.standIn _
B5 aEA{β:Type}(f:Nat→Option β):∀l:List Nat,l.Pairwise (·<·)→((l.filterMap fun j=>(f j).map fun y=>(j,y)).map (·.1)).Pairwise (·<·)∧∀x∈((l.filterMap fun j=>(f j).map fun y=>(j,y)).map (·.1)),x∈l
 | [],_=>⟨.nil,fun x h=>by simp at h⟩
 | a::l,h=>by
  B3⟨h1,h2⟩:=J7.mp h
  B3⟨i1,i2⟩:=aEA f l h2
  rw[R8]
  cases e:f a with
  | none=>~⟨i1,fun x hx=>C6 _ (i2 x hx)⟩
  | some y=>
   &⟨J7.mpr ⟨fun x hx=>h1 x (i2 x hx),i1⟩,fun x hx=>?_⟩
   rcases C5.mp hx with z | z
   ·~z▸C9
   ·~C6 _ (i2 x z)
B5 Led.aH2{b:Bool}{t:SetTable}(h:Led b t)(es:Array (Int×Value))(n:Nat):Led b (relayAll t es n).2.1:=by
 B4 relayAll
 split
 ·rename_i t' order e
  dsimp only
  split
  ·dsimp only
   B4 SetTable.relaid SetTable.laid at e
   B3⟨ow,e1,e2⟩:=aX e
   injection e2 with e2
   injection e2 with e3 e4
   rw[←e3]
   ~⟨h.1,fun _=>⟨by simpa using (aEA (fun j=>ow.getD j none) _ T9).1,rfl⟩⟩
  ·~h.standIn _
 ·~h.standIn _
B5 Dr{α:Type}:∀(l:List α)(i:Nat)(h:i<l.length),(l[i]::l.eraseIdx i).Perm l
 | [],i,h=>absurd h (by simp)
 | a::l,0,h=>T1 _
 | a::l,i+1,h=>by
  have:=Dr l i (by simpa using h)
  simp only[List.getElem_cons_succ,N1]
  ~(p6 a _ _).trans (this.cons a)
B5 fj{α:Type}(next:Nat→Nat):∀(n:Nat)(left:List α)(k:Nat)(out:Array α),left.length=n→((pickOrder.go next n k left out).toList).Perm (out.toList++left)
 | 0,left,k,out,hn=>by
  have:left=[]:=L6 hn
  subst this
  simp[pickOrder.go]
 | n+1,left,k,out,hn=>by
  B4 pickOrder.go
  have hl:next k%left.length<left.length:=T2 _ A6
  rw[B6 hl]
  dsimp only
  &(fj next n (left.eraseIdx (next k%left.length)) (k+1) _ (by rw[X1 hl];omega)).trans ?_
  rw[j9,O3]
  ~d6 _ (Dr _ _ hl)
B5 su{α:Type}(next:Nat→Nat)(xs:Array α):(pickOrder next xs).toList.Perm xs.toList:=by
 have:=fj next xs.size xs.toList 0 #[] (by simp)
 simpa[pickOrder]using this
end L2


namespace L2
open PySem PySem.Spec PyProof.Rows
section
variable{prog:Program}{w:World}{A:Around}{E:Value→Shared→Prop}{s:Shared}{b:Bool}
def Ds(prog:Program)(w:World)(b:Bool)(h:Heap)(a:Addr)(S:Int→Bool)(n:Nat):Prop:=
 ∃o es ep t,h.get? a=some o∧o.ExactSet∧o.data=.set es ep t∧ElemsOf (intKind prog w) es.toList∧(∀k,S k=true↔∃e∈es.toList,(intKind prog w).is k e.2=true)∧es.size<scanBound∧t.fits es.size=true∧es.size=n∧Led b t
B5 Ds.at_{h h':Heap}{a:Addr}{S:Int→Bool}{n:Nat}(x:Ds prog w b h a S n)(e:∀o,h.get? a=some o→h'.get? a=some o):Ds prog w b h' a S n:=
 let ⟨o,es,ep,t,ho,r⟩:=x;⟨o,es,ep,t,e o ho,r⟩
B5 Ds.to{h:Heap}{a:Addr}{S S':Int→Bool}{n n':Nat}(x:Ds prog w b h a S n)(e:∀k,S k=S' k)(en:n=n'):Ds prog w b h a S' n':=by
 subst en
 have:S=S':=funext e
 rw[←this]
 ~x
B5 aEB{h:Heap}{a:Addr}{o:Obj}{es es':Array (Int×Value)}{ep:Nat}{t t':SetTable}{S':Int→Bool}(ho:h.get? a=some o)(hex:o.ExactSet)(hd:o.data=.set es ep t)(hel:ElemsOf (intKind prog w) es'.toList)
  (hm:∀k,S' k=true↔∃e∈es'.toList,(intKind prog w).is k e.2=true) (hz:es'.size<scanBound) (hf:t'.fits es'.size=true) (hl:Led b t') :
  (h.update a (Obj.putSet es' t')).get? a=some {o with data:=.set es' (ep+1) t'}∧Ds prog w b (h.update a (Obj.putSet es' t')) a S' es'.size:=
 have g:=(SetOf_store (knd:=intKind prog w) ho hex hd hel hm hz hf).1
 ⟨g,_,es',ep+1,t',g,hex,rfl,hel,hm,hz,hf,rfl,hl⟩
B5 aAO{g:Bool→Sem Unit}(hg:∀(c:Bool)(s₁:Shared)(Q':Unit→Shared→Prop),Q' () s₁→wpAny (model prog w) A (g c) Q' E s₁){a:Addr}{o:Obj}{es e1:Array (Int×Value)}{ep:Nat}{t t2:SetTable}{S':Int→Bool}
  (ho:s.heap.get? a=some o) (hex:o.ExactSet) (hd:o.data=.set es ep t) (hel:ElemsOf (intKind prog w) e1.toList) (hm:∀k,S' k=true↔∃e∈e1.toList,(intKind prog w).is k e.2=true) (hz:e1.size<scanBound) (hf:t2.fits e1.size=true) (hl:Led b t2)
  {wd:Bool} {R:Option Bool→Shared→Prop} (h:∀h',Heap.SameBut a s.heap h'→Ds prog w b h' a S' e1.size→R (some true) {s with heap:=h'}) :
  wpAny (model prog w) A (do
    storeSet a e1 t2
    if(!wd&&t2.tooFull)=true then do
      g (relayAll t2 e1 (SetTable.grown e1.size)).2.2
      storeSet a (relayAll t2 e1 (SetTable.grown e1.size)).1 (relayAll t2 e1 (SetTable.grown e1.size)).2.1
      pure (some true)
     else pure (some true)) R E s:=by
 B3⟨g1,s1⟩:=aEB (prog:=prog) (w:=w) ho hex hd hel hm hz hf hl
 &wpAny_bind (wpAny_storeSet_of ho hd ?_ (fits_of_scanBound hz))
 have sb:=Heap.SameBut.update s.heap a (Obj.putSet e1 t2)
 split
 ·have pm:=relayAll_perm t2 e1 (SetTable.grown e1.size)
  have ff:=relayAll_fits t2 e1 (SetTable.grown e1.size)
  have ll:=hl.aH2 e1 (SetTable.grown e1.size)
  have sz:(relayAll t2 e1 (SetTable.grown e1.size)).1.size=e1.size:=by rw[←K3,pm.length_eq,K3]
  have zz:(relayAll t2 e1 (SetTable.grown e1.size)).1.size<scanBound:=by rw[sz];~hz
  &wpAny_bind (hg _ _ _ (wpAny_bind (wpAny_storeSet_of g1 rfl ?_ (fits_of_scanBound zz))))
  B3⟨_,s2⟩:=aEB (prog:=prog) (w:=w) (S':=S') g1 hex rfl (hel.perm pm) (fun k=>(hm k).trans ⟨fun⟨e,he,q⟩=>⟨e,pm.mem_iff.mpr he,q⟩,fun⟨e,he,q⟩=>⟨e,pm.mem_iff.mp he,q⟩⟩) zz ff ll
  rw[sz]at s2
  ~wpAny_pure (h _ (sb.trans (Heap.SameBut.update _ a _)) s2)
 ·~wpAny_pure (h _ sb s1)
B5 aH3{a:Addr}{S:Int→Bool}{n:Nat}{k:Int}{tk:Tok}{Q:Bool→Shared→Prop}(hS:Ds prog w b s.heap a S n)(room:n+1<scanBound)
  (h:∀h',Heap.SameBut a s.heap h'→Ds prog w b h' a (fun j=>S j||decide (j=k)) (if S k then n else n+1)→Q (!S k) {s with heap:=h'}) :
  wpAny (model prog w) A (setAddHashed a (.int k tk) ((intKind prog w).hash k)) Q E s:=by
 B3⟨o,es,ep,t,ho,hex,hd,hel,hm,hb,hf,hn,hl⟩:=hS
 have key:(intKind prog w).is k (.int k tk)=true:=intKind_is _ _ _ _
 have sc:(Value.int k tk).scannable=true:=rfl
 B4 setAddHashed setAddHashedIn
 &wpAny_holding (wpAny_bind (wpAny_setState_of ho hd hf ?_))
 dsimp only
 rw[byScan_of sc hb hel]
 simp only[↓reduceIte]
 B4 setAddByScan
 &wpAny_bind (wpAny_bind (wpAny_rule (wpAny_bind (wpAny_setScan_of key ho hd hf hel ?_))))
 cases hr:List.findIdx? (fun e=>(intKind prog w).is k e.2) es.toList with
 | some j=>
  dsimp only
  B3⟨hj,pj,_⟩:=List.findIdx?_eq_some_iff_getElem.mp hr
  have hk:S k=true:=(hm k).mpr ⟨es.toList[j],N7 hj,pj⟩
  have z:=h s.heap (Heap.SameBut.refl a s.heap) ⟨o,es,ep,t,ho,hex,hd,hel,fun j=>by
   rw[m8,decide_eq_true_eq,←hm j]
   ~⟨fun q=>q.elim id fun e=>by rw[e];~hk,.inl⟩,hb,hf,by rw[hk];~hn,hl⟩
  rw[hk]at z
  ~wpAny_pure (wpAny_pure z)
 | none=>
  dsimp only
  have hk:S k=false:=by
   cases e:S k with
   | false=>rfl
   | true=>
    B3⟨x,hx,px⟩:=(hm k).mp e
    have:=List.findIdx?_eq_none_iff.mp hr x hx
    rw[px]at this
    cases this
  have hgw:∀(c:Bool) {s₁:Shared} {Q':Unit→Shared→Prop},Q' () s₁→wpAny (model prog w) A (match c with | true=>rule "set.scan.the-table-gave-way" | false=>pure ()) Q' E s₁:=fun c s₁ Q' q=>by
   cases c
   ·~wpAny_pure q
   ·~wpAny_rule q
  have pm:=layNew_perm t es ((intKind prog w).hash k) (.int k tk)
  have ff:=layNew_fits t es ((intKind prog w).hash k) (.int k tk)
  have ll:=hl.lay es ((intKind prog w).hash k) (.int k tk)
  generalize layNew t es ((intKind prog w).hash k) (.int k tk)=Y at pm ff ll ⊢
  B3⟨e1,t1,wd,gave⟩:=Y
  dsimp only at pm ff ll ⊢
  rw[j9]at pm
  have sz:e1.size=n+1:=by rw[←K3,pm.length_eq,C7,K3,hn];rfl
  have zz:e1.size<scanBound:=by omega
  have el1:=(hel.push key sc).perm pm
  have m1:=mem_push_iff (k:=k) key hm pm
  &wpAny_bind (hgw _ ?_)
  have fin:∀h',Heap.SameBut a s.heap h'→Ds prog w b h' a (fun j=>S j||decide (j=k)) e1.size→Q true {s with heap:=h'}:=fun h' q1 q2=>by
   have z:=h h' q1
   rw[hk]at z
   rw[sz]at q2
   ~z q2
  split
  ·rw[hashByValue_scannable 8 sc]
   &wpAny_bind (wpAny_pure ?_)
   &aAO (b:=b) (fun c s₁ Q' q=>hgw c q) ho hex hd el1 m1 zz ?_ ?_ fun h' q1 q2=>?_
   ·split
    ·~ff
    ·~SetTable.fits_plain_off ff
   ·split
    ·~ll
    ·~ll.off
   ·dsimp only
    ~wpAny_pure (fin h' q1 q2)
  ·&wpAny_bind (wpAny_pure ?_)
   simp only[↓reduceIte]
   &aAO (b:=b) (fun c s₁ Q' q=>hgw c q) ho hex hd el1 m1 zz ff ll fun h' q1 q2=>?_
   dsimp only
   ~wpAny_pure (fin h' q1 q2)
end
section
variable{prog:Program}{w:World}{A:Around}{R:Result→Shared→Prop}{I:Addr}{fp wr:List Addr}{G:Array GenState→Array GenState→Prop}{n:Nat}{P:Nat→Value→Prop}{St:Nat→Shared→Prop}{b:Bool}
abbrev VM(prog:Program)(w:World)(b:Bool)(h:Heap)(a:Addr)(val:Nat→Int)(i:Nat):Prop:=Ds prog w b h a (fun k=>(firstMet val i).any (·==k)) (firstMet val i).length
B5 aGf(W:WalksS prog w A.in1 I fp wr G n P St)(a:Addr)(hf:a∉fp)(val:Nat→Int)(hval:∀i v,P i v→∃t,v=.int (val i) t)(hz:n+1<scanBound) :
  ∀(m i:Nat)(s:Shared),n-i=m→i≤n→St i s→VM prog w b s.heap a val i→(∀s',Moved (a::wr) G s s'→VM prog w b s'.heap a val n→R (.ok (.ret .none)) s') →
   codeAny (model prog w) A (.builtin "set.update.loop" ⟨[.ref a,.ref I],[]⟩) R s:=by
 have hw:a∉wr:=fun z=>hf (W.sub _ z)
 have sub:∀c∈wr,c∈a::wr:=fun c hc=>C6 _ hc
 intro m
 induction m with
 | zero=>
  intro i s hk hi hst hS hR
  have e:i=n:=by omega
  subst e
  &codeAny_builtin S7 ?_
  rw[Around.under_plainId O9 _]
  show wpAny _ A.in1 (pyNext (.ref I) >>= _) _ _ s
  &wpAny_bind (W.done s _ _ hst fun s' mv=>?_)
  show wpAny _ A.in1 (ret Value.none) _ _ s'
  ~wpAny_pure (hR s' (mv.mono sub) (hS.at_ fun o e=>mv.heap a o hw e))
 | succ m ih=>
  intro i s hk hi hst hS hR
  have lt:i<n:=by omega
  &codeAny_builtin S7 ?_
  rw[Around.under_plainId O9 _]
  show wpAny _ A.in1 (pyNext (.ref I) >>= _) _ _ s
  &wpAny_bind (W.item i s _ _ lt hst fun v s1 hP st1 mv=>?_)
  B3⟨tk,rfl⟩:=hval i v hP
  have S1:VM prog w b s1.heap a val i:=hS.at_ fun o e=>mv.heap a o hw e
  show wpAny _ A.in1 (holding [Value.int (val i) tk] (setAdd a (.int (val i) tk)) >>= _) _ _ s1
  B4 setAdd
  &wpAny_bind (wpAny_holding (wpAny_holding (wpAny_bind ((intKind prog w).pyHash (k:=val i) (intKind_is _ _ _ _) ?_))))
  have room:(firstMet val i).length+1<scanBound:=by have:=firstMet_length_le val i;omega
  &aH3 (s:={s1 with toks:=s1.toks+1}) S1 room fun h' sb S2=>?_
  have S3:VM prog w b h' a val (i+1):=S2.to (fun j=>by rw[firstMet_succ,step_any]) (by rw[firstMet_succ,step_length])
  &wpAny_pure ⟨plainId_quiet O9 _,ih (i+1) _ A6 lt (W.frame _ s1 _ _ st1 (L9 _) fun c hc o e=>?_) S3 fun s2 mv2 S4=>?_⟩
  ·rw[sb.2 c fun z=>hf (by rw[←z];~hc)]
   ~e
  ·&hR s2 (Moved.trans W.gtrans ((mv.mono sub).then_heap (L9 _) fun c o hc e=>?_) mv2) S4
   rw[sb.2 c fun z=>hc (by rw[z];~C9)]
   ~e
end
end L2


namespace L2
open PySem PySem.Spec PyProof.Rows
section
variable{prog:Program}{w:World}{A:Around}{E:Value→Shared→Prop}{s:Shared}
abbrev uQ(b:Bool):Obj:={cls:=.type "set", dict:=none,data:=.set #[] 0 (.fresh 0 0 b)}
abbrev uR(w:World):Bool:=!w.params.followText "set-order"
B5 aH4(a:Value){Q:Value→Shared→Prop}(h:Q (.ref s.heap.objs.size) {s with heap:=s.heap.push (uQ (uR w))}) :
  codeAny (model prog w) A (.call (.builtin "set.__new__") ⟨[.type "set", a],[]⟩) (wants Q E) s:=by
 &codeAny_of_tree ?_
 show wpAny _ A.in1 (checkBuiltinCall "set.__new__" ⟨[.type "set", a],[]⟩ >>= fun _=>again (.builtin "set.__new__" ⟨[.type "set", a],[]⟩)) _ _ s
 &wpAny_bind (wpAny_of_eq (PySem.F.newCall_set_1 a) (wpAny_pure ⟨plainId_quiet d7 _,codeAny_builtin PySem.F.entry_set_new ?_⟩))
 rw[Around.under_plainId d7 _]
 B4 Builtin.«set.__new__» Builtin.Frozenset.newClass
 have sub:=sub_set_self
 B3⟨hp,g,d,tk,os⟩:=s
 dsimp only
 wp_walk
 &wpAny_askSetting (wpAny_pure ?_)
 dsimp only
 simp only[newObj]
 ~wpAny_bind (wpAny_alloc (wpAny_pure (wpAny_pure h)))
B5 aDi(b:Bool){h:Heap}{a:Addr}{val:Nat→Int}(e:h.get? a=some (uQ b)):VM prog w b h a val 0:=
 ⟨_,#[],0,_,e,⟨rfl,rfl,rfl⟩,rfl,fun x hx=>by simp at hx,fun k=>by simp[firstMet_zero],by decide,by rfl,rfl,Led.fresh b⟩
B5 aH5{l:Addr}{its:Array Value}{ns:List Int}{Q:Value→Shared→Prop}(hh:A.handled=none)(hl:s.heap.IsList l its)(hi:IntsAre its.toList ns)(hz:its.size+1<scanBound)
  (h:∀(h':Heap)(tk:Nat),VM prog w (uR w) h' s.heap.objs.size (fun i=>ns.getD i 0) its.size→(∀b o,s.heap.get? b=some o→h'.get? b=some o)→Q (.ref s.heap.objs.size) {s with heap:=h',toks:=tk}) :
  wpAny (model prog w) A (call (.type "set") [.ref l]) Q E s:=by
 B3⟨c,tl,hmro⟩:=M9.mro
 have hmade:=M9.made
 have hsub:=M9.sub
 &wpAny_call (codeAny_of_tree ?_)
 show wpAny _ _ (callAny (.type "set") _) _ _ _
 &wpAny_pure ⟨Code.quiet_builtin _ A7,codeAny_builtin PySem.F.entry_type_call ?_⟩
 rw[Around.under_plain (weight_type_call_type "set" [.ref l] []) rfl]
 have h1:=M9.notType
 have h2:=M9.canCreate
 have hct:=PySem.F.typeCall_set_1 (.ref l)
 repeat (any_goals (first | assumption | wp_step))
 &codeAny_mono (aH4 (.ref l) (E:=E) (Q:=fun v s1=>v=.ref s.heap.objs.size∧s1={s with heap:=s.heap.push (uQ (uR w))}) ⟨rfl,rfl⟩) fun r s1 hr=>?_
 cases r with
 | error e=>~hr
 | ok fl=>
  cases fl with
  | ret obj=>
   B3⟨rfl,rfl⟩:=hr
   have g0:(s.heap.push (uQ (uR w))).get? s.heap.objs.size=some (uQ (uR w)):=Heap.get?_push_size _ rfl
   have hT:Shared.TypeIs {s with heap:=s.heap.push (uQ (uR w))} (.ref s.heap.objs.size) "set" := ⟨_,g0,rfl⟩
   have hli:=M9.init.lookup
   have hbi:=M9.init.bind (.ref s.heap.objs.size)
   repeat (any_goals (first | assumption | wp_step))
   &codeAny_mono (codeAny_call_builtin (R:=wants (fun r s2=>r=.none∧∃h' tk,s2={s with heap:=h',toks:=tk}∧VM prog w (uR w) h' s.heap.objs.size (fun i=>ns.getD i 0) its.size∧(∀b o,s.heap.get? b=some o→h'.get? b=some o)) E) M9.init.plain PySem.F.entry_set_init (check_set_init_1 hT ?_)) fun r2 s2 hr2=>?_
   ·B3⟨ol,hol,hcl,nl,hdl⟩:=hl
    B3⟨ocls,odict,odata,oslots⟩:=ol
    simp only at hcl hdl
    subst hcl hdl
    have hol':(s.heap.push (uQ (uR w))).get? l=some {cls:=.type "list", dict:=odict,data:=.seq its nl,slots:=oslots}:=Heap.get?_push_of_some _ hol
    have q1:=PySem.F.sub_list_set
    have q2:=PySem.F.sub_list_frozenset
    have q3:(Value.type "list" == Value.type "dict")=false:=by decide
    have L1:(s.heap.push (uQ (uR w))).IsList l its:=⟨_,hol',rfl,nl,rfl⟩
    B4 Builtin.«set.__init__» noKeywords Builtin.Frozenset.updateFrom
    generalize hPI:pyIter=PI
    wp_walk
    subst hPI
    &wpAny_pyIter_list L1 (wpAny_bind (wpAny_runValue ?_))
    have lt:=Heap.lt_size hol
    have hh3:A.in1.in1.in1.handled=none:=by simp[hh]
    have ne:l≠(s.heap.push (uQ (uR w))).objs.size:=by rw[Heap.size_push];~E9 (N2 lt)
    have nf:s.heap.objs.size∉[(s.heap.push (uQ (uR w))).objs.size,l]:=by
     rw[Heap.size_push]
     intro z
     rcases C5.mp z with z | z
     ·~absurd z (E9 (M7 _))
     ·~absurd (D9.mp z) (P8 lt)
    have hval:∀(i:Nat)(v:Value),its[i]?=some v→∃t,v=.int ((fun i=>ns.getD i 0) i) t:=fun i v hv=>hi.int_at i v (by rw[L8];~hv)
    &aGf ((Walks.list hh3 _ l ne its).toS) s.heap.objs.size nf (fun i=>ns.getD i 0) hval hz (its.size-0) 0 _ A6 (M3 _) ⟨⟨_,Heap.get?_push_size _ rfl,rfl,rfl⟩,(L1.push _)⟩ (aDi (uR w) (Heap.get?_push_of_some _ g0)) fun s' mv S'=>?_
    B3⟨h',g',d',tk',os'⟩:=s'
    have eg:g'=s.gens:=mv.gens
    have ed:d'=s.drawn:=mv.drawn
    have eo:os'=s.os:=mv.os
    subst eg ed eo
    show wpAny _ _ _ _ _ _
    &wpAny_pure ?_
    show wpAny _ _ (ret Value.none) _ _ _
    &wpAny_pure ⟨rfl,h',tk',rfl,S',fun b o e=>?_⟩
    have lb:=Heap.lt_size e
    &mv.heap b o (fun z=>?_) (Heap.get?_push_of_some _ (Heap.get?_push_of_some _ e))
    rcases C5.mp z with z | z
    ·~absurd z (E9 lb)
    ·have:=D9.mp z
     rw[Heap.size_push]at this
     ~absurd this (E9 (N2 lb))
   ·cases r2 with
    | error e=>~hr2
    | ok f2=>
     cases f2 with
     | ret r=>
      B3⟨rfl,h',tk,rfl,S',kp⟩:=hr2
      repeat (any_goals (first | assumption | wp_step))
      ~h _ _ S' kp
     | _=>~hr2.elim
  | _=>~hr.elim
end
end L2


namespace L2
open PySem PySem.Spec PyProof.Rows
B5 aAP:Manifest.owners.lookup (String.ofList ['r','o','t','a','r','e','t','i','_','t','e','s'].reverse)=some Manifest.sig_set_iterator:=by kernel_rfl
B5 oV:Slot "set_iterator" "__next__" "set_iterator.__next__" := Slot.of (owner := "set_iterator") (n := "__next__") (by rw[typeLookup_type,builtinLookup_eq_fast];kernel_rfl) A7 A7 A7 (by first | ~.inl A7 | ~.inr A7) (by rw[isSubtype_type];kernel_rfl)
B5 Az:entryFor table "set_iterator.__next__" = some Builtin.«set_iterator.__next__»:=entryFor_of_tree (by kernel_rfl)
B5 Ba(a:Value):argsOk "set_iterator.__next__" ⟨[a],[]⟩:=by
 B4 argsOk;rw[signature?_of (id := "set_iterator.__next__") (n:=['_','_','t','x','e','n','_','_']) (o:=['r','o','t','a','r','e','t','i','_','t','e','s']) (by kernel_rfl) aAP];kernel_rfl
B5 gf:Slot "set_iterator" "__iter__" "set_iterator.__iter__" := Slot.of (owner := "set_iterator") (n := "__iter__") (by rw[typeLookup_type,builtinLookup_eq_fast];kernel_rfl) A7 A7 A7 (by first | ~.inl A7 | ~.inr A7) (by rw[isSubtype_type];kernel_rfl)
B5 sy(a:Value):argsOk "set_iterator.__iter__" ⟨[a],[]⟩:=by
 B4 argsOk;rw[signature?_of (id := "set_iterator.__iter__") (n:=['_','_','r','e','t','i','_','_']) (o:=['r','o','t','a','r','e','t','i','_','t','e','s']) (by kernel_rfl) aAP];kernel_rfl
B5 tu:entryFor table "set_iterator.__iter__" = some Builtin.«dict_keyiterator.__iter__»:=entryFor_alias (id' := "dict_keyiterator.__iter__") (by kernel_rfl) (by first | rfl | decide +kernel | (B4 String.splitOn;simp +decide [String.splitOnAux])) A7 (by kernel_rfl)
B5 uc:entryFor table "set.__iter__" = some Builtin.«frozenset.__iter__»:=entryFor_alias (id' := "frozenset.__iter__") (by kernel_rfl) rfl A7 (by kernel_rfl)
def gj(h:Heap)(I:Addr)(f:Value)(i:Nat)(a:Addr)(n ep:Nat):Prop:=∃o,h.get? I=some o∧o.cls=.type "set_iterator" ∧ o.data=.fields #[f,.int (i:Int) 0,.ref a,.int (n:Int) 0,.int (ep:Int) 0]
def VN(h:Heap)(a:Addr)(es:Array (Int×Value))(ep:Nat)(t:SetTable):Prop:=∃o,h.get? a=some o∧o.cls=.type "set" ∧ o.data=.set es ep t∧t.fits es.size=true
B5 gj.at_{h h':Heap}{I a:Addr}{f:Value}{i n ep:Nat}(x:gj h I f i a n ep)(e:∀o,h.get? I=some o→h'.get? I=some o):gj h' I f i a n ep:=let ⟨o,ho,r⟩:=x;⟨o,e o ho,r⟩
B5 VN.at_{h h':Heap}{a:Addr}{es:Array (Int×Value)}{ep:Nat}{t:SetTable}(x:VN h a es ep t)(e:∀o,h.get? a=some o→h'.get? a=some o):VN h' a es ep t:=let ⟨o,ho,r⟩:=x;⟨o,e o ho,r⟩
section
variable{prog:Program}{w:World}{A:Around}{E:Value→Shared→Prop}{s:Shared}{I a T:Addr}{f:Value}{i n ep:Nat}{es:Array (Int×Value)}{t:SetTable}
B5 gj.ty(x:gj s.heap I f i a n ep):s.TypeIs (.ref I) "set_iterator" := let ⟨o,ho,hc,_⟩:=x;⟨o,ho,hc⟩
B5 VN.ty(x:VN s.heap a es ep t):s.TypeIs (.ref a) "set" := let ⟨o,ho,hc,_⟩:=x;⟨o,ho,hc⟩
B5 gq{Q:Value→Shared→Prop}(x:gj s.heap I f i a n ep)(h:Q (.ref I) s):wpAny (model prog w) A (pyIter (.ref I)) Q E s:=by
 &wpAny_pyIter_slot x.ty gf (wpAny_call_entry gf x.ty tu ?_ (sy _))
 show wpAny _ _ (ret (.ref I)) _ _ s
 ~wpAny_pure ⟨_,rfl, "set_iterator", _,x.ty,oV.lookup,h⟩
B5 HX{α:Type}{h1:Heap}{Q0:α→Shared→Prop}{E':Value→Shared→Prop}(hh:A.handled=none)(hQ:∀(v:Value) h',Shared.TypeIs {s with heap:=h'} v "StopIteration" → (∀b o,h1.get? b=some o→h'.get? b=some o)→E' v {s with heap:=h'}) :
  wpAny (model prog w) A.in1 (newExc (.type "StopIteration") [] >>= fun e=>(raiseNew e:Sem α)) Q0 E' {s with heap:=h1}:=by
 &wpAny_bind ?_
 simp only[newExc,newTuple]
 &wpAny_bind (wpAny_newObj_type (wpAny_bind (m:=firstArgMember _ _) (wpAny_of_eq (a:=Value.none) (by first | rfl | (simp only[firstArgMember];rfl)) (wpAny_newObj_type ?_ (by size_fits)))) (by size_fits))
 simp only[raiseNew]
 &wpAny_bind (wpAny_handled ?_)
 rw[show A.in1.handled=none from hh]
 &wpAny_bind (wpAny_pure (wpAny_throw ?_))
 &hQ (.ref _) _ ?_ fun b o e=>Heap.get?_push_of_some _ (Heap.get?_push_of_some _ e)
 ~⟨_,Heap.get?_push_size _ rfl,rfl⟩
B5 aDj{slot nxt:Nat}{x:Value}{Q:Option Value→Shared→Prop}(hit:gj s.heap I (.int (slot:Int) 0) i a es.size ep)(hs:VN s.heap a es ep t)
  (hN:∀(Q':Option (Value×Nat)→Shared→Prop) E',Q' (some (x,nxt)) s→wpAny (model prog w) A.in1 (setNext a slot i ep) Q' E' s)
  (hQ:∀h',gj h' I (.int (nxt:Int) 0) (i+1) a es.size ep→Heap.SameBut I s.heap h'→Q (some x) {s with heap:=h'}):wpAny (model prog w) A (pyNext (.ref I)) Q E s:=by
 B3⟨o,ho,hc,hd⟩:=id hit
 B3⟨oa,ha,_,hda,hf⟩:=id hs
 B4 pyNext
 &wpAny_bind (wpAny_attempt (wpAny_callSpecial?_slot (name:=Str.ofString "__next__") hit.ty oV (wpAny_call_entry oV hit.ty Az ?_ (Ba _))))
 B4 Builtin.«set_iterator.__next__»
 &wpAny_bind (wpAny_of_eq (a:=(Value.ref I,[])) rfl ?_)
 dsimp only
 &wpAny_bind (wpAny_fieldsOf ho hd ?_)
 dsimp only
 &wpAny_bind (wpAny_setEntries_of ha hda hf ?_)
 rw[if_neg (by simp)]
 dsimp only[C8]
 &wpAny_bind (hN _ _ ?_)
 dsimp only
 &wpAny_bind (wpAny_setField ho hd (by simp) ?_)
 have g1:=Heap.get?_update_self (Obj.mapFields (·.setIfInBounds 0 (rawInt (nxt:Int)))) ho (Obj.isFreed_of_fields (Obj.data_mapFields hd _))
 have d1:=Obj.data_mapFields hd (·.setIfInBounds 0 (rawInt (nxt:Int)))
 &wpAny_bind (wpAny_setField g1 d1 (by simp) (wpAny_pure ⟨x,rfl,wpAny_pure (hQ _ ?_ ((Heap.SameBut.update ..).trans (Heap.SameBut.update ..)))⟩))
 &⟨_,Heap.get?_update_self _ g1 (Obj.isFreed_of_fields (Obj.data_mapFields d1 _)),(Obj.cls_mapFields ..).trans ((Obj.cls_mapFields ..).trans hc),?_⟩
 rw[Obj.data_mapFields d1]
 simp[rawInt]
B5 aGg{slot:Nat}{Q:Option Value→Shared→Prop}(hh:A.handled=none)(hit:gj s.heap I (.int (slot:Int) 0) i a es.size ep)(hs:VN s.heap a es ep t)
  (hN:∀(Q':Option (Value×Nat)→Shared→Prop) E',Q' none s→wpAny (model prog w) A.in1 (setNext a slot i ep) Q' E' s)
  (hQ:∀h',(∀b o,b≠I→s.heap.get? b=some o→h'.get? b=some o)→Q none {s with heap:=h'}):wpAny (model prog w) A (pyNext (.ref I)) Q E s:=by
 B3⟨o,ho,hc,hd⟩:=id hit
 B3⟨oa,ha,_,hda,hf⟩:=id hs
 B4 pyNext
 &wpAny_bind (wpAny_attempt (wpAny_callSpecial?_slot (name:=Str.ofString "__next__") hit.ty oV (wpAny_call_entry oV hit.ty Az ?_ (Ba _))))
 B4 Builtin.«set_iterator.__next__»
 &wpAny_bind (wpAny_of_eq (a:=(Value.ref I,[])) rfl ?_)
 dsimp only
 &wpAny_bind (wpAny_fieldsOf ho hd ?_)
 dsimp only
 &wpAny_bind (wpAny_setEntries_of ha hda hf ?_)
 rw[if_neg (by simp)]
 dsimp only[C8]
 &wpAny_bind (hN _ _ ?_)
 dsimp only
 &wpAny_bind (wpAny_setField ho hd (by simp) ?_)
 &HX hh fun v h' ty kp=>wpAny_bind (wpAny_isInstance ty isSubtype_stop ?_)
 ~wpAny_pure (hQ h' fun b o nb e=>kp b o ((Heap.SameBut.update s.heap I _).extBut b o nb e))
B5 aDk{ps:Array Value}{c p:Nat}{tk:Tok}{hx:Int}{x:Value}{oT:Obj}{Q:Option Value→Shared→Prop}(hit:gj s.heap I (.ref T) i a es.size ep)(hs:VN s.heap a es ep t)(hT:s.heap.get? T=some oT)(hTd:oT.data=.seq ps c)(hp:ps[i]?=some (.int (p:Int) tk))(he:es[p]?=some (hx,x))
  (hQ:∀h',gj h' I (.ref T) (i+1) a es.size ep→Heap.SameBut I s.heap h'→Q (some x) {s with heap:=h'}):wpAny (model prog w) A (pyNext (.ref I)) Q E s:=by
 B3⟨o,ho,hc,hd⟩:=id hit
 B3⟨oa,ha,_,hda,hf⟩:=id hs
 B4 pyNext
 &wpAny_bind (wpAny_attempt (wpAny_callSpecial?_slot (name:=Str.ofString "__next__") hit.ty oV (wpAny_call_entry oV hit.ty Az ?_ (Ba _))))
 B4 Builtin.«set_iterator.__next__»
 &wpAny_bind (wpAny_of_eq (a:=(Value.ref I,[])) rfl ?_)
 dsimp only
 &wpAny_bind (wpAny_fieldsOf ho hd ?_)
 dsimp only
 &wpAny_bind (wpAny_setEntries_of ha hda hf ?_)
 rw[if_neg (by simp)]
 dsimp only[C8]
 &wpAny_bind (wpAny_seqItems hT hTd ?_)
 dsimp only
 rw[hp]
 dsimp only[C8]
 B4 setNextDrawn
 &wpAny_bind (wpAny_bind (wpAny_setState_of ha hda hf ?_))
 dsimp only
 rw[if_neg (by simp),he]
 dsimp only
 &wpAny_pure (wpAny_bind (wpAny_setField ho hd (by simp) (wpAny_pure ⟨x,rfl,wpAny_pure (hQ _ ?_ (Heap.SameBut.update ..))⟩)))
 &⟨_,Heap.get?_update_self _ ho (Obj.isFreed_of_fields (Obj.data_mapFields hd _)),(Obj.cls_mapFields ..).trans hc,?_⟩
 rw[Obj.data_mapFields hd]
 simp[rawInt]
B5 aGh{ps:Array Value}{c:Nat}{oT:Obj}{Q:Option Value→Shared→Prop}(hh:A.handled=none)(hit:gj s.heap I (.ref T) i a es.size ep)(hs:VN s.heap a es ep t)(hT:s.heap.get? T=some oT)(hTd:oT.data=.seq ps c)(hp:ps[i]?=none)
  (hQ:∀h',(∀b o,b≠I→s.heap.get? b=some o→h'.get? b=some o)→Q none {s with heap:=h'}):wpAny (model prog w) A (pyNext (.ref I)) Q E s:=by
 B3⟨o,ho,hc,hd⟩:=id hit
 B3⟨oa,ha,_,hda,hf⟩:=id hs
 B4 pyNext
 &wpAny_bind (wpAny_attempt (wpAny_callSpecial?_slot (name:=Str.ofString "__next__") hit.ty oV (wpAny_call_entry oV hit.ty Az ?_ (Ba _))))
 B4 Builtin.«set_iterator.__next__»
 &wpAny_bind (wpAny_of_eq (a:=(Value.ref I,[])) rfl ?_)
 dsimp only
 &wpAny_bind (wpAny_fieldsOf ho hd ?_)
 dsimp only
 &wpAny_bind (wpAny_setEntries_of ha hda hf ?_)
 rw[if_neg (by simp)]
 dsimp only[C8]
 &wpAny_bind (wpAny_seqItems hT hTd ?_)
 dsimp only
 rw[hp]
 dsimp only
 &wpAny_bind (wpAny_setField ho hd (by simp) ?_)
 have g1:=Heap.get?_update_self (Obj.mapFields (·.setIfInBounds 0 (rawInt 0))) ho (Obj.isFreed_of_fields (Obj.data_mapFields hd _))
 have d1:=Obj.data_mapFields hd (·.setIfInBounds 0 (rawInt 0))
 &wpAny_bind (wpAny_setField g1 d1 (by simp) ?_)
 &HX hh fun v h' ty kp=>wpAny_bind (wpAny_isInstance ty isSubtype_stop ?_)
 ~wpAny_pure (hQ h' fun b o nb e=>kp b o (((Heap.SameBut.update s.heap I _).trans (Heap.SameBut.update _ I _)).extBut b o nb e))
B5 aGi{slot:Nat}{Q:Option (Value×Nat)→Shared→Prop}(hb:uR w=false)(hs:VN s.heap a es ep t)(h:Q (((pickOrder (w.params.setOrder a ep) es)[i]?).map fun e=>(e.2,slot)) s):wpAny (model prog w) A (setNext a slot i ep) Q E s:=by
 B3⟨oa,ha,_,hda,hf⟩:=id hs
 have ft:w.params.followText "set-order" = true:=by simpa using hb
 B4 setNext
 &wpAny_bind (wpAny_setState_of ha hda hf ?_)
 dsimp only
 B4 setsByText
 &wpAny_bind (wpAny_bind (wpAny_askSetting (wpAny_pure ?_)))
 dsimp only
 rw[show (model prog w).w.params.followText "set-order" = true from ft,if_pos rfl,if_neg (by simp)]
 B4 setWalk setsByText
 &wpAny_bind (wpAny_bind (wpAny_setState_of ha hda hf ?_))
 dsimp only
 &wpAny_bind (wpAny_bind (wpAny_askSetting (wpAny_pure ?_)))
 dsimp only
 rw[show (model prog w).w.params.followText "set-order" = true from ft,if_pos rfl]
 &wpAny_bind (wpAny_askSetting (wpAny_pure (wpAny_pure ?_)))
 ~h
def Fw(t:SetTable):Nat→Nat
 | 0=>0
 | i+1=>t.place.getD i 0+1
B5 VP(up:t.place.toList.Pairwise (·<·))(hi:i≤t.place.size):SetTable.below t.place (Fw t i)=i:=by
 B3⟨b1,b2,b3⟩:=below_at up (Fw t i)
 have mono:∀a b,a<b→b<t.place.size→t.place.getD a 0<t.place.getD b 0:=fun a b q q'=>by
  have:=K6.mp up a b (by simp;omega) (by simpa using q') q
  simp only[V3]at this
  simpa[P5,q',show a<t.place.size by omega]using this
 rcases Nat.lt_trichotomy (SetTable.below t.place (Fw t i)) i with z | z | z
 ·cases i with
  | zero=>omega
  | succ i=>
   have h1:=b3 i A6 A6
   rw[show Fw t (i+1)=t.place.getD i 0+1 from rfl]at h1
   omega
 ·~z
 ·have h1:=b2 i z
  cases i with
  | zero=>~absurd h1 (I0 _)
  | succ i=>
   rw[show Fw t (i+1)=t.place.getD i 0+1 from rfl]at h1
   have:=mono i (i+1) A6 A6
   omega
B5 aGj{Q:Option (Value×Nat)→Shared→Prop}(hb:uR w=true)(hs:VN s.heap a es ep t)(hl:Led (uR w) t)(hdr:(!t.plain&&decide (es.size > 1))=false)(hi:i≤es.size)(h:Q ((es[i]?).map fun e=>(e.2,Fw t (i+1))) s):wpAny (model prog w) A (setNext a (Fw t i) i ep) Q E s:=by
 B3⟨oa,ha,_,hda,hf⟩:=id hs
 have ft:w.params.followText "set-order" = false:=by simpa using hb
 have hz:t.place.size=es.size:=by
  simp only[SetTable.fits,G9,beq_iff_eq]at hf
  ~hf.1
 have up:t.place.toList.Pairwise (·<·):=by
  cases e:t.plain with
  | true=>~(hl.2 e).1
  | false=>
   rw[e]at hdr
   have:es.size≤1:=by simpa using hdr
   match h:t.place.toList with
   | []=>~.nil
   | [x]=>simp
   | x::y::r=>
    have:=congrArg l0 h
    simp at this
    omega
 B4 setNext
 &wpAny_bind (wpAny_setState_of ha hda hf ?_)
 dsimp only
 B4 setsByText
 &wpAny_bind (wpAny_bind (wpAny_askSetting (wpAny_pure ?_)))
 dsimp only
 rw[show (model prog w).w.params.followText "set-order" = false from ft,if_neg (by simp)]
 &wpAny_ite_split (fun q=>?_) fun _=>?_
 ·exfalso
  have q':(!t.plain&&decide (es.size > 1))=true:=q
  rw[hdr]at q'
  cases q'
 ·&wpAny_bind ?_
  &wpAny_ite_split (fun q=>?_) fun _=>wpAny_pure ?_
  ·exfalso
   have:t.led=true:=by rw[hl.1,hb]
   rw[this]at q
   simp at q
  ·rw[VP up A6]
   &wpAny_pure ?_
   rcases J2 i es.size with z | z
   ·rw[O1 z]at h ⊢
    rw[O1 A6]
    have e:t.place[i]'(by omega)=t.place.getD i 0:=by simp[P5,show i<t.place.size by omega]
    simpa[Fw,e]using h
   ·rw[Array.getElem?_eq_none z]at h ⊢
    ~h
end
end L2


namespace L2
open PySem PySem.Spec PyProof.Rows
section
variable{prog:Program}{w:World}{A:Around}{E:Value→Shared→Prop}{s:Shared}{I a T:Addr}{f:Value}{i n ep:Nat}{es:Array (Int×Value)}{t:SetTable}
B5 aDl{M:Model}{src:Source}{m:Nat}{Q:Nat→Shared→Prop}(hm:m≠0)(h:∀i dr,i<m→Q i {s with drawn:=dr}):wpAny M A (choose src m) Q E s:=fun _ _ _=>⟨hm,h _ _ (T2 _ (Nat.pos_of_ne_zero hm))⟩
B5 Vb{M:Model}{α:Type}:∀(m:Nat)(xs:List α)(s:Shared)(Q:List α→Shared→Prop),xs.length=m→(∀ys dr,ys.Perm xs→Q ys {s with drawn:=dr})→wpAny M A (drawOrder m xs) Q E s
 | 0,xs,s,Q,hn,h=>by
  have:xs=[]:=L6 hn
  subst this
  B4 drawOrder
  ~wpAny_pure (h [] s.drawn (T1 _))
 | m+1,[],s,Q,hn,h=>absurd hn (by simp)
 | m+1,x::xs,s,Q,hn,h=>by
  B4 drawOrder
  &wpAny_bind (aDl (by simp) fun i dr hi=>?_)
  rw[B6 hi]
  dsimp only
  &wpAny_bind (Vb m ((x::xs).eraseIdx i) _ _ (by rw[X1 hi];omega) fun ys dr' pm=>wpAny_pure ?_)
  ~h _ dr' ((pm.cons _).trans (Dr _ _ hi))
def Ord(S:Int→Bool)(n:Nat)(ord:List Value):Prop:=ord.length=n∧∃ns,IntsAre ord ns∧∀k,S k=true↔k∈ns
B5 VR{S:Int→Bool}{l:List (Int×Value)}{ord:List Value}(hel:ElemsOf (intKind prog w) l)(hm:∀k,S k=true↔∃e∈l,(intKind prog w).is k e.2=true)(hn:l.length=n)(pm:ord.Perm (l.map (·.2))):Ord S n ord:=by
  &⟨by rw[pm.length_eq,B7,hn],?_⟩
  have allI:∀v∈ord,∃k t,v=Value.int k t:=fun v hv=>by
    B3⟨e,he,rfl⟩:=G5.mp (pm.mem_iff.mp hv)
    B3⟨⟨k,hk,_⟩,_⟩:=hel e he
    B3⟨t,ht⟩:=Value.isInt_shape hk
    ~⟨k,t,ht⟩
  have mk:∀vs:List Value,(∀v∈vs,∃k t,v=Value.int k t)→∃ns,IntsAre vs ns∧∀k,k∈ns↔∃t,Value.int k t∈vs:=by
    intro vs
    induction vs with
    | nil=>~fun _=>⟨[],.nil,fun k=>by simp⟩
    | cons v vs ih=>
      intro hv
      B3⟨ns,h1,h2⟩:=ih fun v q=>hv v (C6 _ q)
      B3⟨k,t,rfl⟩:=hv v C9
      &⟨k::ns,.cons k t h1,fun j=>?_⟩
      rw[C5,h2]
      constructor
      · rintro(rfl | ⟨t',q⟩)
        · ~⟨t,C9⟩
        · ~⟨t',C6 _ q⟩
      · rintro⟨t',q⟩
        rcases C5.mp q with q | q
        · injection q with q
          ~.inl q
        · ~.inr ⟨t',q⟩
  B3⟨ns,h1,h2⟩:=mk ord allI
  &⟨ns,h1,fun k=>?_⟩
  rw[hm,h2]
  constructor
  · rintro⟨e,he,hk⟩
    B3⟨t,ht⟩:=Value.isInt_shape hk
    ~⟨t,pm.mem_iff.mpr (G5.mpr ⟨e,he,ht⟩)⟩
  · rintro⟨t,q⟩
    B3⟨e,he,q⟩:=G5.mp (pm.mem_iff.mp q)
    ~⟨e,he,by rw[q];~intKind_is _ _ _ _⟩
B5 Oj(hh:A.handled=none)(ne:a≠I){slot:Nat→Nat}{ord:List Value}(hz:ord.length=es.size)
  (hN:∀(s:Shared)(i:Nat)(Q':Option (Value×Nat)→Shared→Prop) E',i≤es.size→VN s.heap a es ep t→Q' ((ord[i]?).map fun v=>(v,slot (i+1))) s→wpAny (model prog w) A.in1 (setNext a (slot i) i ep) Q' E' s) :
  Walks prog w A I [I,a] [I] es.size (fun i v=>ord[i]?=some v) (fun i h=>gj h I (.int (slot i:Int) 0) i a es.size ep∧VN h a es ep t) where
 sub:=fun b hb=>by simp at hb;simp[hb]
 frame:=fun _ _ _ x kp=>⟨x.1.at_ fun o e=>kp I (by simp) o e,x.2.at_ fun o e=>kp a (by simp) o e⟩
 item:=fun i s Q E hi x hQ=>by
  have e:ord[i]?=some (ord[i]'(by omega)):=B6 A6
  &aDj (x:=ord[i]'(by omega)) (nxt:=slot (i+1)) x.1 x.2 (fun Q' E' q=>hN s i Q' E' A6 x.2 (by rw[e];~q)) fun h' st sb=>?_
  ~hQ _ h' s.toks e ⟨st,x.2.at_ fun o eo=>sb.extBut a o ne eo⟩ fun b o hb eo=>sb.extBut b o (fun z=>hb (by simp[z])) eo
 done:=fun s Q E x hQ=>aGg hh x.1 x.2 (fun Q' E' q=>hN s es.size Q' E' (D1 _) x.2 (by rw[E1 A6];~q)) fun h' kp=>hQ h' s.toks fun b o hb e=>kp b o (fun z=>hb (by simp[z])) e
 self:=fun _ _ _ _ x hQ=>gq x.1 hQ
B5 WD(hh:A.handled=none)(ne:a≠I)(neT:T≠I){ps:List Nat}(hz:ps.length=es.size)(hp:∀p∈ps,p<es.size) :
  Walks prog w A I [I,a,T] [I] es.size (fun i v=>(ps.map fun p=>(es.getD p (0,.none)).2)[i]?=some v) (fun i h=>gj h I (.ref T) i a es.size ep∧VN h a es ep t∧∃o c,h.get? T=some o∧o.data=.seq (ps.map fun(p:Nat)=>rawInt p).toArray c) where
 sub:=fun b hb=>by simp at hb;simp[hb]
 frame:=fun _ _ _ x kp=>⟨x.1.at_ fun o e=>kp I (by simp) o e,x.2.1.at_ fun o e=>kp a (by simp) o e,let ⟨o,c,ho,hd⟩:=x.2.2;⟨o,c,kp T (by simp) o ho,hd⟩⟩
 item:=fun i s Q E hi x hQ=>by
  B3⟨h1,h2,oT,c,hT,hTd⟩:=x
  have lt:i<ps.length:=by omega
  have lp:=hp ps[i] (N7 lt)
  &aDk (p:=ps[i]) (tk:=0) (hx:=es[ps[i]].1) (x:=es[ps[i]].2) h1 h2 hT hTd (by simp[lt,rawInt]) (by rw[O1 lp]) fun h' st sb=>?_
  ~hQ _ h' s.toks (by simp[lt,P5,lp]) ⟨st,h2.at_ fun o eo=>sb.extBut a o ne eo,oT,c,sb.extBut T oT neT hT,hTd⟩ fun b o hb eo=>sb.extBut b o (fun z=>hb (by simp[z])) eo
 done:=fun s Q E x hQ=>by
  B3⟨h1,h2,oT,c,hT,hTd⟩:=x
  ~aGh hh h1 h2 hT hTd (by simp[hz]) fun h' kp=>hQ h' s.toks fun b o hb e=>kp b o (fun z=>hb (by simp[z])) e
 self:=fun _ _ _ _ x hQ=>gq x.1 hQ
B5 aAQ{S:Int→Bool}{Q:Value→Shared→Prop}(hh:A.handled=none)(hs:Ds prog w (uR w) s.heap a S n)
    (h:∀(h1:Heap)(dr:Drawn)(I:Addr)(fp:List Addr)(ord:List Value)(St:Nat→Heap→Prop),(∀b o,s.heap.get? b=some o→h1.get? b=some o)→Walks prog w A I fp [I] n (fun i v=>ord[i]?=some v) St→St 0 h1→(∀x∈fp,x=a∨s.heap.objs.size≤x)→s.heap.objs.size≤I→Ord S n ord→Q (.ref I) {s with heap:=h1,drawn:=dr}) :
    wpAny (model prog w) A (pyIter (.ref a)) Q E s:=by
  B3⟨o,es,ep,t,ho,hex,hd,hel,hm,hz,hf,hn,hl⟩:=hs
  have sat:VN s.heap a es ep t:=⟨o,ho,hex.1,hd,hf⟩
  have lt:=Heap.lt_size ho
  subst hn
  &wpAny_pyIter_slot sat.ty d8 (wpAny_call_entry d8 sat.ty uc ?_ (PySem.F.args_set_iter_1 _))
  B4 Builtin.«frozenset.__iter__» Builtin.Frozenset.slot0
  &wpAny_bind (wpAny_bind (wpAny_of_eq (a:=(Value.ref a,[])) rfl ?_))
  B4 Builtin.Frozenset.addrOf Builtin.Frozenset.sizeOf
  &wpAny_pure (wpAny_bind (wpAny_bind (wpAny_setEntries_of ho hd hf (wpAny_pure ?_))))
  B4 setDrawn setsByText
  &wpAny_bind (wpAny_bind (wpAny_setState_of ho hd hf ?_))
  dsimp only
  &wpAny_bind (wpAny_bind (wpAny_askSetting (wpAny_pure ?_)))
  &wpAny_pure ?_
  &wpAny_ite_split (fun c=>?_) fun c=>?_
  · have c':(uR w&&(!t.plain&&decide (es.size > 1)))=true:=c
    rw[G9]at c'
    &wpAny_bind (Vb es.size (D2 es.size) s _ (by simp) fun ps dr pm=>?_)
    have lps:ps.length=es.size:=by rw[pm.length_eq,E3]
    have hp:∀p∈ps,p<es.size:=fun p hp=>F5.mp (pm.mem_iff.mp hp)
    &wpAny_bind (wpAny_newTuple ?_ (by rw[B7,lps];~fits_of_scanBound hz))
    have g1:(s.heap.push {cls:=.type "tuple", data:=.seq (ps.map fun(i:Nat)=>rawInt i).toArray}).get? a=some o:=Heap.get?_push_of_some _ ho
    &wpAny_bind (wpAny_setEpoch_of g1 hd hf ?_)
    &wpAny_bind (wpAny_newObj_type (wpAny_pure ⟨_,rfl, "set_iterator", _,⟨_,Heap.get?_push_size _ rfl,rfl⟩,oV.lookup,?_⟩))
    &h _ dr _ _ (ps.map fun p=>(es.getD p (0,.none)).2) _ (fun b o e=>Heap.get?_push_of_some _ (Heap.get?_push_of_some _ e)) (WD (T:=s.heap.objs.size) (t:=t) (ep:=ep) hh ?_ ?_ lps hp) ⟨⟨_,Heap.get?_push_size _ rfl,rfl,rfl⟩,sat.at_ fun o e=>Heap.get?_push_of_some _ (Heap.get?_push_of_some _ e),_,_,Heap.get?_push_of_some _ (Heap.get?_push_size _ rfl),rfl⟩ ?_ ?_ ?_
    · show a≠(s.heap.push _).objs.size
      rw[Heap.size_push]
      ~E9 (N2 lt)
    · show s.heap.objs.size≠(s.heap.push _).objs.size
      rw[Heap.size_push]
      ~E9 (M7 _)
    · intro x hx
      rcases C5.mp hx with z | z
      · rw[z]
        show _∨s.heap.objs.size≤(s.heap.push _).objs.size
        rw[Heap.size_push]
        ~.inr (L9 _)
      · rcases C5.mp z with z | z
        · ~.inl z
        · rw[D9.mp z]
          ~.inr (D1 _)
    · show s.heap.objs.size≤(s.heap.push _).objs.size
      rw[Heap.size_push]
      ~L9 _
    · &VR (prog:=prog) (w:=w) hel hm (by simp) ?_
      have e:es.toList.map (·.2)=(D2 es.size).map fun p=>(es.getD p (0,.none)).2:=by
        &Y1 (by simp) fun k k1 k2=>?_
        simp at k1
        simp[P5,k1]
      rw[e]
      ~pm.map _
  · &wpAny_bind (wpAny_pure ?_)
    &wpAny_bind (wpAny_setEpoch_of ho hd hf ?_)
    &wpAny_bind (wpAny_newObj_type (wpAny_pure ⟨_,rfl, "set_iterator", _,⟨_,Heap.get?_push_size _ rfl,rfl⟩,oV.lookup,?_⟩))
    have ne:a≠s.heap.objs.size:=E9 lt
    have fp':∀x∈[s.heap.objs.size,a],x=a∨s.heap.objs.size≤x:=fun x hx=>by
      rcases C5.mp hx with z | z
      · ~.inr (i5 z.symm)
      · ~.inl (D9.mp z)
    cases hb:uR w with
    | false=>
      have pm:=su (w.params.setOrder a ep) es
      &h _ s.drawn _ _ ((pickOrder (w.params.setOrder a ep) es).toList.map (·.2)) _ (fun b o e=>Heap.get?_push_of_some _ e) (Oj (t:=t) (ep:=ep) (slot:=fun _=>0) hh ne (by rw[B7,pm.length_eq,K3]) fun s i Q' E' hi x q=>?_) ⟨⟨_,Heap.get?_push_size _ rfl,rfl,rfl⟩,sat.at_ fun o e=>Heap.get?_push_of_some _ e⟩ fp' (D1 _) (VR (prog:=prog) (w:=w) hel hm (by simp) (pm.map _))
      &aGi hb x ?_
      rw[C4,L8,p7]at q
      ~q
    | true=>
      have c':(!t.plain&&decide (es.size > 1))=false:=by
        have c2:¬(uR w&&(!t.plain&&decide (es.size > 1)))=true:=c
        rw[hb,Bool.true_and]at c2
        simpa using c2
      &h _ s.drawn _ _ (es.toList.map (·.2)) _ (fun b o e=>Heap.get?_push_of_some _ e) (Oj (t:=t) (ep:=ep) (slot:=Fw t) hh ne (by simp) fun s i Q' E' hi x q=>?_) ⟨⟨_,Heap.get?_push_size _ rfl,rfl,rfl⟩,sat.at_ fun o e=>Heap.get?_push_of_some _ e⟩ fp' (D1 _) (VR (prog:=prog) (w:=w) hel hm (by simp) (T1 _))
      &aGj hb x hl c' hi ?_
      rw[C4,L8,p7]at q
      ~q
end
end L2


namespace L2
open PySem PySem.Spec PySem.Calls PyProof.Rows PyProof.V
section
variable{prog:Program}{w:World}{A:Around}{E:Value→Shared→Prop}{s:Shared}{I a T:Addr}{n:Nat}{S:Int→Bool}
B5 aAR{Q:Bool→Shared→Prop}(hT:s.TypeIs (.ref a) "set") (h:Q false s):wpAny (model prog w) A (Builtin.List.listLengthHint (.ref a)) Q E s:=by
 B4 Builtin.List.listLengthHint
 &wpAny_bind (wpAny_specialOf hT PySem.F.slot_set_len.lookup ?_)
 generalize hid:("set.__len__" : String)=id0
 wp_delta
 rw[show splitId id0=some ("set", "__len__")from by subst hid;decide +kernel]
 subst hid
 &wpAny_bind (wpAny_isInstance (T := "set") (b:=true) hT (by rw[isSubtype_type];kernel_rfl) (wpAny_ite_split (fun z=>absurd z A8) fun _=>wpAny_ite_split (fun _=>?_) fun z=>absurd A7 z))
 ~wpAny_bind (wpAny_typeOf hT (wpAny_pure h))
B5 aDm{R:Result→Shared→Prop}(hh:A.handled=none)(hs:Ds prog w (uR w) s.heap a S n)(hz:n≤sizeLine)(L:Addr)(ne:L≠a)(hL:s.heap.get? L=some {cls:=.type "list", data:=.seq #[] 0})
    (hR:∀h' dr tk acc c,(∀b o,b≠L→s.heap.get? b=some o→h'.get? b=some o)→h'.get? L=some {cls:=.type "list", dict:=none,data:=.seq acc c,slots:=#[]}→Ord S n acc.toList→R (.ok (.ret (.ref L))) {s with heap:=h',drawn:=dr,toks:=tk}) :
    wpAny (model prog w) A.in1 (Builtin.List.listExtendWith (.ref L) (.ref a) (.ref L)) (fun fin s'=>match fin with | .done f=>R (.ok f) s' | .again c'=>c'.quiet=true∧codeAny (model prog w) A c' R s') (fun e s'=>R (.error e) s') s:=by
  have lt:L<s.heap.objs.size:=Heap.lt_size hL
  have ty:s.TypeIs (.ref a) "set" := let ⟨o,_,_,_,ho,hex,_⟩:=hs;⟨o,ho,hex.1⟩
  B4 Builtin.List.listExtendWith
  &wpAny_bind (wpAny_typeOf (T := "set") ty ?_)
  have h1:Builtin.List.listSameRef (.ref L) (.ref a)=false:=by simp[Builtin.List.listSameRef,ne]
  have h2:(Value.type "set" == Value.type "list")=false:=by decide
  have h3:(Value.type "set" == Value.type "tuple")=false:=by decide
  simp only[h1,h2,h3,t8,W8,if_false]
  &wpAny_bind (aAQ (A:=A.in1) hh hs fun h0 dr I fp ord St kp W st fpo lI od=>?_)
  have hL1:=kp _ _ hL
  have nf:L∉fp:=fun z=>by
    rcases fpo L z with z | z
    · ~ne z
    · ~absurd lt (Nat.not_lt.mpr z)
  have nI:∀b o,s.heap.get? b=some o→b≠I:=fun b o e=>E9 (E5 (Heap.lt_size e) lI)
  have key:∀(h:Heap)(c1 tk:Nat),St 0 h→(∀b o,b≠L→s.heap.get? b=some o→h.get? b=some o)→h.get? L=some {cls:=.type "list", data:=.seq #[] c1}→codeAny (model prog w) A (.builtin "list.extend.loop" ⟨[.ref L,.ref I,.ref L],[]⟩) R {s with heap:=h,drawn:=dr,toks:=tk}:=by
    intro h c1 tk st0 k0 g0
    &codeAny_extend_loopS W.toS hz L nf (.ref L) n 0 _ #[] c1 rfl (M3 _) st0 g0 (ItemsOf.nil _) fun s' acc c mv g' it=>?_
    rw[Moved.eq_with mv]
    &hR s'.heap dr s'.toks acc c (fun b o nb e=>mv.heap b o (fun z=>?_) (k0 b o nb e)) g' ?_
    · rcases C5.mp z with z | z
      · ~nb z
      · ~nI b o e (D9.mp z)
    · have e:acc.toList=ord:=by
        &K5 fun j=>?_
        rcases J2 j acc.size with z | z
        · have e1:acc[j]?=some acc[j]:=O1 z
          rw[L8,e1,it.2 j _ e1]
        · rw[E1 (by simpa using z),E1 (by have:=it.1;have:=od.1;omega)]
      rw[e]
      ~od
  &wpAny_bind (wpAny_holding (aAR (hT:=let ⟨o,ho,hc⟩:=ty;⟨o,kp _ _ ho,hc⟩) ?_))
  &wpAny_ite_split (fun _=>?_) fun _=>wpAny_pure ⟨plainId_quiet X8 _,key _ 0 _ st (fun b o _ e=>kp b o e) hL1⟩
  &wpAny_bind (wpAny_rule (wpAny_bind ?_))
  show wpAny _ _ (updateSeq L (·.push .none) >>= fun _=>updateSeq L (·.pop)) _ _ _
  &wpAny_bind (wpAny_updateSeq hL1 rfl ?_)
  have g2:=Heap.get?_update_self (Obj.mapSeq (·.push Value.none)) hL1 rfl
  &wpAny_updateSeq (hz:=by seq_fits) g2 rfl ?_
  have g3:=Heap.get?_update_self (Obj.mapSeq (·.pop)) g2 rfl
  &wpAny_pure ⟨plainId_quiet X8 _,key _ _ _ (W.frame 0 _ _ st fun b hb o e=>?_) (fun b o hb e=>?_) g3⟩
  · have nb:b≠L:=fun z=>nf (z▸hb)
    ~(Heap.get?_update_other _ _ (Ne.symm nb)).trans ((Heap.get?_update_other _ _ (Ne.symm nb)).trans e)
  · ~(Heap.get?_update_other _ _ (Ne.symm hb)).trans ((Heap.get?_update_other _ _ (Ne.symm hb)).trans (kp b o e))
B5 HY{R:List Value→Shared→Prop}(hh:A.handled=none)(hs:Ds prog w (uR w) s.heap a S n)(hz:n≤sizeLine)
  (h:∀(h':Heap)(dr:Drawn)(tk:Nat)(acc:List Value),(∀b o,s.heap.get? b=some o→h'.get? b=some o)→Ord S n acc→R acc {s with heap:=h',drawn:=dr,toks:=tk}):wpAny (model prog w) A (collect (.ref a)) R E s:=by
 have lt:a<s.heap.objs.size:=let ⟨o,_,_,_,ho,_⟩:=hs;Heap.lt_size ho
 B4 collect
 &wpAny_bind (wpAny_runValue (codeAny_builtin entry_proto_collect' ?_))
 rw[Around.under_plainId PySem.F.plain_proto_collect _]
 show wpAny _ A.in1 (newList [] >>= fun l=>again (.builtin "list.__iadd__" ⟨[l,.ref a],[]⟩)) _ _ s
 &wpAny_bind (wpAny_newObj_type (wpAny_pure ⟨plainId_quiet Z7 _,codeAny_builtin entry_list_iadd' ?_⟩))
 rw[Around.under_plainId Z7 _]
 have g1:(s.heap.push {cls:=.type "list", data:=.seq ([]:List Value).toArray}).get? s.heap.objs.size=some {cls:=.type "list", data:=.seq #[]}:=Heap.get?_push_size _ rfl
 show wpAny _ A.in1 (Builtin.List.listExtendWith (.ref s.heap.objs.size) (.ref a) (.ref s.heap.objs.size)) _ _ _
 have key:=aDm (A:=A) (s:={s with heap:=s.heap.push {cls:=.type "list", data:=.seq ([]:List Value).toArray}})
  (R:=fun(q:Result) (s':Shared)=>∃(h':Heap)(dr:Drawn)(tk:Nat)(acc:Array Value)(c:Nat),q=.ok (.ret (.ref s.heap.objs.size))∧s'={s with heap:=h',drawn:=dr,toks:=tk}∧(∀b o,s.heap.get? b=some o→h'.get? b=some o)∧h'.get? s.heap.objs.size=some {cls:=.type "list", dict:=none,data:=.seq acc c,slots:=#[]}∧Ord S n acc.toList)
  hh (hs.at_ fun o e=>Heap.get?_push_of_some _ e) hz s.heap.objs.size (P8 lt) g1 fun h' dr tk acc c kp g od=>⟨h',dr,tk,acc,c,rfl,rfl,fun b o e=>kp b o (E9 (Heap.lt_size e)) (Heap.get?_push_of_some _ e),g,od⟩
 &wpAny_mono key (fun fin s' x=>?_) fun e s' x=>?_
 ·cases fin with
  | done f=>
   B3⟨h',dr,tk,acc,c,e,rfl,kp,g,od⟩:=x
   cases e
   show wpAny _ A (load s.heap.objs.size >>= _) _ _ _
   ~wpAny_bind (wpAny_load g (wpAny_pure (h h' dr tk acc.toList kp od)))
  | again c1=>
   &⟨x.1,codeAny_mono x.2 fun q s2 y=>?_⟩
   B3⟨h',dr,tk,acc,c,rfl,rfl,kp,g,od⟩:=y
   show wpAny _ A (load s.heap.objs.size >>= _) _ _ _
   ~wpAny_bind (wpAny_load g (wpAny_pure (h h' dr tk acc.toList kp od)))
 ·B3⟨_,_,_,_,_,e',_⟩:=x
  cases e'
end
end L2


namespace L2
open PySem PySem.Spec PySem.Calls PyProof.Rows PyProof.V
def Ol(k:Int):List Int→List Int
 | []=>[k]
 | a::l=>if k<a then k::a::l else if k=a then a::l else a::Ol k l
B5 Om(k j:Int):∀l:List Int,j∈Ol k l↔j=k∨j∈l
  | []=>by simp[Ol]
  | a::l=>by
    B4 Ol
    split
    · simp
    · split
      · rename_i e
        subst e
        simp
      · rw[C5,Om k j l,C5]
        constructor
        · rintro(h | h | h)
          · ~.inr (.inl h)
          · ~.inl h
          · ~.inr (.inr h)
        · rintro(h | h | h)
          · ~.inr (.inl h)
          · ~.inl h
          · ~.inr (.inr h)
B5 gr(k:Int):∀l:List Int,l.Pairwise (·<·)→(Ol k l).Pairwise (·<·)
 | [],_=>by simp[Ol]
 | a::l,h=>by
  B3⟨h1,h2⟩:=J7.mp h
  B4 Ol
  split
  ·rename_i c
   &J7.mpr ⟨fun x hx=>?_,h⟩
   rcases C5.mp hx with z | z
   ·omega
   ·have:=h1 x z
    omega
  ·split
   ·~h
   ·&J7.mpr ⟨fun x hx=>?_,gr k l h2⟩
    rcases(Om k x l).mp hx with z | z
    ·omega
    ·~h1 x z
def RD:List Int→List Int
 | []=>[]
 | a::l=>Ol a (RD l)
B5 Bb(j:Int):∀ns:List Int,j∈RD ns↔j∈ns
 | []=>Iff.rfl
 | a::l=>by
  rw[RD,Om,Bb j l,C5]
B5 WK:∀ns:List Int,(RD ns).Pairwise (·<·)
 | []=>.nil
 | a::l=>gr a _ (WK l)
B5 aGk{ns ms:List Int}(h:ms.Pairwise (·<·))(m:∀k,k∈ms↔k∈ns):ms=RD ns:=pU h (WK ns) fun j=>(m j).trans (Bb j ns).symm
B5 IK(k:Int):∀l:List Int,(Ol k l).length≤l.length+1
 | []=>by simp[Ol]
 | a::l=>by
  B4 Ol
  split
  ·simp
  ·split
   ·simp
   ·have:=IK k l
    simp only[D8]
    omega
B5 gw:∀ns:List Int,(RD ns).length≤ns.length
 | []=>D1 _
 | a::l=>by
  have:=IK a (RD l)
  have:=gw l
  simp only[RD,D8]
  omega
B5 Oo{α:Type} [DecidableEq α]:∀{l m:List α},l.Nodup→(∀x∈l,x∈m)→m.length≤l.length→l.Perm m
 | [],m,_,_,h=>by
  have:m=[]:=L6 (by simpa using h)
  subst this
  ~T1 _
 | a::l,m,hn,hs,hl=>by
  B3⟨h1,h2⟩:=E8.mp hn
  have ha:=hs a C9
  have e:=List.perm_cons_erase ha
  &List.Perm.trans (List.Perm.cons a (Oo h2 (fun x hx=>?_) ?_)) e.symm
  ·have ne:x≠a:=fun z=>by
    rw[z]at hx
    ~h1 hx
   ~(List.mem_erase_of_ne ne).mpr (hs x (C6 _ hx))
  ·rw[Y2 ha]
   simp only[D8]at hl
   omega
B5 sV(val:Nat→Int):∀i,(firstMet val i).Nodup
 | 0=>by rw[firstMet_zero];~c9
 | i+1=>by
  rw[firstMet_succ]
  B4 step_dedup
  have ih:=sV val i
  split
  ·~ih
  ·rename_i c
   &P4.mpr ⟨ih,by simp,fun x hx y hy=>?_⟩
   rw[D9.mp hy]
   intro z
   subst z
   ~c (U4.mpr ⟨_,hx,by simp⟩)
B5 ud{ns ks ms:List Int}(hk:∀k,(firstMet (fun i=>ns.getD i 0) ns.length).any (·==k)=true↔k∈ks)(hl:ks.length=(firstMet (fun i=>ns.getD i 0) ns.length).length)(hm:ms.Perm ks)(hs:ms.Pairwise (·≤·)):ms=RD ns:=by
 have hmem:∀k,k∈ks↔k∈ns:=fun k=>by
  rw[←hk,firstMet_any]
  have e:(D2 ns.length).map (fun i=>ns.getD i 0)=ns:=by
   &Y1 (by simp) fun i h1 h2=>?_
   simp[B8,h2]
  rw[e,U4]
  ~⟨fun⟨x,hx,q⟩=>by rw[←(beq_iff_eq.mp q)];~hx,fun h=>⟨k,h,by simp⟩⟩
 have nd:ks.Nodup:=by
  have p:=Oo (sV (fun i=>ns.getD i 0) ns.length) (m:=ks) (fun x hx=>(hk x).mp (U4.mpr ⟨x,hx,by simp⟩)) A6
  ~p.nodup_iff.mp (sV _ _)
 &aGk ?_ fun k=>(hm.mem_iff).trans (hmem k)
 have ndm:=hm.nodup_iff.mpr nd
 ~(hs.and ndm).imp fun q=>by have:=q.1;have:=q.2;omega
section
variable{X:Cx}{e:Expr}{t:TE}{x y:Str}{p p2 pos pos2:Pos}
B5 aDn{T id:String}{r:V→Hp→VK→Prop}(hc:∀(pins:List (Addr×Obj))(s:Shared)(σ:St)(H:Hp)(v:V)(u:Value)(Q:VK),Inv X pins σ H s→RelV v u→r v H Q→wpAny (model X.prog X.w) X.A (call (.type T) [u]) (fun u' s'=>wpAny (model X.prog X.w) X.A (call (.builtin id) [u']) (EP X pins σ Q) X.xe s') X.xe s)
  (ha:PE X e t) (hg:Gl X x) (hm:X.mg x=none) (hv:bootBuiltins x=some (.builtin id)) (hg2:Gl X y) (hm2:X.mg y=none) (hv2:bootBuiltins y=some (.type T)) (hn:x ≠ "__name__" := by decide) (hdb:(x==("__debug__" : Str))=false:=by decide) (hn2:y ≠ "__name__" := by decide) (Oq:(y==("__debug__" : Str))=false:=by decide)
  (he:starEach [e] X.env=[(false,eval e X.env)]:=by rfl) (he2:starEach [.Call (.Name y p2) [e] [] pos2] X.env=[(false,eval (.Call (.Name y p2) [e] [] pos2) X.env)]:=by rfl) :
  PE X (.Call (.Name x p) [.Call (.Name y p2) [e] [] pos2] [] pos) (tUn r t):=by
 intro pins s σ H Q I h
 &wpAny_Call_Name_kw (sI I hg hm hv ?_ hn hdb)
 &V2 ?_ he2 rfl
 rw[he2]
 &Calls.spliced_cons (wpAny_Call_Name_kw (sI I hg2 hm2 hv2 ?_ hn2 Oq))
 &J6 ?_ he rfl
 rw[he]
 ~Calls.spliced_cons (iM (ha pins s σ H _ I h) fun u s1 ⟨v,H1,I1,r1,q1⟩=>Calls.spliced_nil (iM (hc pins s1 σ H1 v u Q I1 r1 q1) fun u' s' z=>Calls.spliced_nil z))
B5 aDo{T id:String}{r:V→Hp→VK→Prop}(hc:∀(pins:List (Addr×Obj))(s:Shared)(σ:St)(H:Hp)(v:V)(u:Value)(Q:VK),Inv X pins σ H s→RelV v u→r v H Q→wpAny (model X.prog X.w) X.A (call (.type T) [u]) (fun u' s'=>wpAny (model X.prog X.w) X.A (call (.type id) [u']) (EP X pins σ Q) X.xe s') X.xe s)
  (ha:PE X e t) (hg:Gl X x) (hm:X.mg x=none) (hv:bootBuiltins x=some (.type id)) (hg2:Gl X y) (hm2:X.mg y=none) (hv2:bootBuiltins y=some (.type T)) (hn:x ≠ "__name__" := by decide) (hdb:(x==("__debug__" : Str))=false:=by decide) (hn2:y ≠ "__name__" := by decide) (Oq:(y==("__debug__" : Str))=false:=by decide)
  (he:starEach [e] X.env=[(false,eval e X.env)]:=by rfl) (he2:starEach [.Call (.Name y p2) [e] [] pos2] X.env=[(false,eval (.Call (.Name y p2) [e] [] pos2) X.env)]:=by rfl) :
  PE X (.Call (.Name x p) [.Call (.Name y p2) [e] [] pos2] [] pos) (tUn r t):=by
 intro pins s σ H Q I h
 &wpAny_Call_Name_kw (sI I hg hm hv ?_ hn hdb)
 &J6 ?_ he2 rfl
 rw[he2]
 &Calls.spliced_cons (wpAny_Call_Name_kw (sI I hg2 hm2 hv2 ?_ hn2 Oq))
 &J6 ?_ he rfl
 rw[he]
 ~Calls.spliced_cons (iM (ha pins s σ H _ I h) fun u s1 ⟨v,H1,I1,r1,q1⟩=>Calls.spliced_nil (iM (hc pins s1 σ H1 v u Q I1 r1 q1) fun u' s' z=>Calls.spliced_nil z))
B5 Inv.drew{pins:List (Addr×Obj)}{σ:St}{H:Hp}{s:Shared}(J:Inv X pins σ H s)(dr:Drawn):Inv X pins σ H {s with drawn:=dr}:=⟨J.ok,J.os,J.bare,J.base,J.loc,J.cell,J.free,J.xQ,J.pin,J.hok,J.len⟩
def aEC(K:aF):V→Hp→VK→Prop:=fun v H Q=>∃(p:Addr)(ns:List Int),v=.ref p∧pQ K H p (ns.map V.int)∧ns.length<64∧∀l,H l=none→Q (.ref l) (upd H l (.lst ((RD ns).map V.int)))
B5 aGl(hc:X.calm=true)(pins:List (Addr×Obj))(s:Shared)(σ:St)(H:Hp)(v:V)(u:Value)(Q:VK)(I:Inv X pins σ H s)(rv:RelV v u)(h:aEC X.K v H Q) :
  wpAny (model X.prog X.w) X.A (call (.type "set") [u]) (fun u' s'=>wpAny (model X.prog X.w) X.A (call (.builtin "sorted") [u']) (EP X pins σ Q) X.xe s') X.xe s:=by
 B3⟨p,ns,rfl,hq,h64,q⟩:=h
 cases rv
 B3⟨its,r,pl,hz⟩:=I.list hq
 have hlen:=r.length
 rw[B7]at hlen
 &aH5 (its:=its.toArray) (ns:=ns) (I.ok.hd hc) pl.isList (by simpa using intsAre_of r) (by rw[D3];B4 scanBound;omega) fun h1 tk1 S1 kp1=>?_
 have I1:Inv X pins σ H {s with heap:=h1,toks:=tk1}:=I.kept (t':=tk1) kp1
 have ez:its.toArray.size=ns.length:=by simp[hlen]
 rw[ez]at S1
 have hfl:=firstMet_length_le (fun i=>ns.getD i 0) ns.length
 &Calls.call_function_entry kind_sorted plain_sorted entry_sorted (args_sorted1 _) ?_
 B4 Builtin.«sorted»
 &wpAny_bind (m:=checkCount "sorted" 1 1 _) (wpAny_pure (wpAny_bind (HY (A:=X.A.in1) (I.ok.hd hc) S1 (O8 (rY A6)) fun h2 dr tk2 acc kp2 od=>?_)))
 B3⟨al,ks,ik,mk⟩:=od
 have hla:ks.length=acc.length:=(IntsAre.length ik).symm
 &wpAny_bind (wpAny_newList ?_ (by rw[al];~O8 (rY A6)))
 have hoL:(h2.push (seqObj "list" acc.toArray 0)).get? h2.objs.size=some (seqObj "list" acc.toArray 0):=Heap.get?_push_size _ rfl
 &wpAny_bind (wpAny_holding (wpAny_call_entry slot_list_sort ⟨_,hoL,rfl⟩ entry_list_sort (list_sort_tree hoL ik A6 fun out ns' a1 a2 a3=>⟨_,rfl,?_⟩) (args_list_sort _)))
 &wpAny_pure ⟨_,rfl,?_⟩
 B3⟨e,he⟩:=sortedHeap_at (out:=out) hoL
 have I2:Inv X pins σ H {s with heap:=h2,drawn:=dr,toks:=tk2}:=(I1.kept (t':=tk2) kp2).drew dr
 have hs:H h2.objs.size=none:=I2.hok.fresh (D1 _)
 have hl2:ns'.length=ks.length:=a2.length_eq
 have I3:=I2.laid (t':=tk2) (a:=h2.objs.size) (o:=.lst (ns'.map V.int)) (h':=sortedHeap (h2.push (seqObj "list" acc.toArray 0)) h2.objs.size acc out)
  (fun b o eb=>by
   have hlt:=Heap.lt_size eb
   rw[sortedHeap_old (E9 hlt) (by rw[Heap.size_push];~N2 hlt)]
   ~Heap.get?_push_of_some _ eb) (D1 _)
  ⟨by rw[B7];~O8 (rY A6),out.toList,e,Ao a1,by simpa[seqObj]using he⟩
 rw[ud mk A6 a2 a3]at I3
 ~⟨.ref _,_,I3,rfl,q _ hs⟩
end
end L2


namespace L2
open PySem PySem.Spec PySem.Calls PyProof.Rows PyProof.V
section
variable{prog:Program}{w:World}{A:Around}{E:Value→Shared→Prop}{s:Shared}{I l:Addr}
end
section
variable{K:aF}{X:Cx}{e:Expr}{t:TE}{f:FE}{x y:Str}{p p2 pos pos2:Pos}
def pJ(φ:D→Option D)(f:FE):FE:=fun e=>(f e).bind φ
def ie:D→Option D
 | .lst ds=>(intsOf ds).bind fun ns=>if ns.length<64 then some (.lst ((RD ns).map D.int))else none
 | _=>none
B5 aDp(h:XR K X e t f)(hg:Gl X x)(hm:X.mg x=none)(hv:bootBuiltins x=some (.builtin "sorted")) (hg2:Gl X y) (hm2:X.mg y=none) (hv2:bootBuiltins y=some (.type "set")) (hc:X.calm=true:=by rfl) (hn:x ≠ "__name__" := by decide) (hdb:(x==("__debug__" : Str))=false:=by decide) (hn2:y ≠ "__name__" := by decide) (Oq:(y==("__debug__" : Str))=false:=by decide)
  (he:starEach [e] X.env=[(false,eval e X.env)]:=by rfl) (he2:starEach [.Call (.Name y p2) [e] [] pos2] X.env=[(false,eval (.Call (.Name y p2) [e] [] pos2) X.env)]:=by rfl) :
  XN K X (.Call (.Name x p) [.Call (.Name y p2) [e] [] pos2] [] pos) (tUn (aEC K) t) (pJ ie f):=⟨h.hk,aDn (by have:=h.hk;subst this;~aGl hc) h.pe hg hm hv hg2 hm2 hv2 hn hdb hn2 Oq he he2,fun σ H e d Q re q k=>by
 B3⟨d0,q1,q2⟩:=aX q
 B4 ie at q2
 split at q2
 ·B3⟨ns,q3,q4⟩:=aX q2
  split at q4
  ·rename_i hl
   cases q4
   &h.ev σ H H e _ _ (Zn.self K H) re q1 fun v H1 Z1 s1 t1 z1 rv=>?_
   B3⟨p,rfl,r2⟩:=yZ q3 (z1.sm.rv _ _ rv)
   ~⟨p,ns,rfl,r2,hl,fun l hl=>k _ _ (s1.trans (cP hl _)) ((rH (aU.refl _) (.eU (dG _) (jM.mpr rfl)) hl).back s1)⟩
  ·cases q4
 ·cases q2⟩
end
end L2


namespace L2
open PySem PySem.Spec PySem.Calls PyProof.Rows PyProof.V PySem.W Att
abbrev Small(k:Int):Prop:=Builtin.Int.intBits k≤1048576
B5 aAS{ns:List Int}(h:WData.layableAll [WData.list (ns.map WData.int)]=true):∀k∈ns,Small k:=fun k hk=>by
 have h1:(WData.list (ns.map WData.int)).layable=true:=by simpa[WData.layableAll]using h
 B3⟨c,_,w⟩:=layableW_iff.mp h1
 have c':WData.canLayAll (ns.map WData.int)=true:=by simpa[WData.canLay]using c
 have w':WData.weightAll (ns.map WData.int)≤2 ^ 20:=by simpa[WData.weight]using w
 have:=(items_part (G5.mpr ⟨k,hk,rfl⟩) c').2.2
 have e:(WData.int k).weight=Builtin.Int.intBits k:=by simp only[WData.weight,Builtin.Int.intBits]
 rw[e]at this
 ~G1 this w'
B5 IV{l:OpenLaw}{n:Nat}{q:Program}{loose:List Str}{XP:(Str→Option Value)→Heap→Prop}{YP:World→Heap→Prop}{d:DefRec}(hn:l.most=some n)(hdf:d.params.defaults=[])
  (call:∀(w:World)(s₀ s₁:Shared)(mg mb:Str→Option Value)(fa:Addr)(o:Obj)(pm cd doc:Value)(a:Addr)(vs:List Value)(ns:List Int),Ground q loose [] XP w s₀ mg mb s₁.heap→YP w s₁.heap →
   s₁.heap.get? fa=some o→o.data=.func (docDef d.name d.params d.body d.scope pm cd doc)→s₁.heap.CodeRec cd d.name→mg d.name=some (.ref fa) →
   s₁.heap.get? a=some {cls:=.type "list", data:=.seq vs.toArray}→IntsAre vs ns→ns.length≤n→(∀k∈ns,Small k)→s₁.gens=#[] →
   codeAny (model l.prog w) callerA (.call (.ref fa) ⟨[.ref a],[]⟩) (fun r s'=>r=.ok (.ret (.bool true))∧OldK s₁.heap s'.heap∧s'.os=s₁.os∧AllBare s'.gens) s₁) :
  WalkO q loose XP YP l.row.toRowW d [] (fun f vs=>m9 f vs):=by
 intro w s₀ s₁ mg mb G Y fa o pm cd doc dV kV ho hd hcd hD hmg hg args vals as hpre hlay hrd hwl hlo
 B3 rfl:dV=.none:=Dflts.none hD hdf
 B3 rfl:kV=.none:=Dflts.noKw hD
 B3⟨a,vs,ns,rfl,rfl,hobj,hints,hlen⟩:=ph hn hpre hwl
 &enter_call (codeAny_mono (call w s₀ s₁ mg mb fa o pm cd doc a vs ns G Y ho (fd_plain hd) hcd hmg hobj hints hlen (aAS hlay) hg) fun r s' hq=>?_)
 B3⟨rfl,h2,h3,h4⟩:=hq
 ~⟨.inl ⟨.bool true,.bool true,[],rfl,fun _=>rfl,.bool true,pq l _,fun _=>⟨k7,fun _ hm=>(nomatch hm)⟩⟩,h2,h3,h4⟩
B5 ue{l:n8}{n k:Nat}{q:Program}{loose:List Str}{XP:(Str→Option Value)→Heap→Prop}{YP:World→Heap→Prop}{d:DefRec}{K:Params→aF}{CX:World→mz}{sp:World→Sp}{x:Str}(hn:l.most=some n)(hn2:n≤sizeLine)(hdf:d.params.defaults=[])(hr:jK k callerA)
  (hY:∀(w:World)(h:Heap),YP w h→(K w.params).In h)
  (F:∀(w:World)(mg:Str→Option Value)(fa:Addr)(h:Heap),(K w.params).In h→h.Ns mainGlobals mg→mg d.name=some (.ref fa)→∃fd:FuncData,(∀(s:Shared)(u:Value),BindsTo s fd ⟨[u],[]⟩ [(x,u)])∧∀base:Heap,(K w.params).In base→base.Ns mainGlobals mg→yF l.prog w (K w.params) mg base (CX w) k fa fd [x] (sp w))
  (hsp:∀(w:World)(H:Hp)(a:Addr)(ns:List Int),ns.length≤n→(∀k∈ns,Small k)→Only H→pQ (K w.params) H a (ns.map V.int)→sp w [.ref a] H (fun v _=>v=.bl true) fun _ _ _=>False)
  (hCX:∀(w:World)(H:Hp)(s:Shared)(e:Value)(s':Shared),CX w [] H s (fun _ _ _=>False) e s'→False) :
  u0 q loose XP YP l.row.toRowW d [] (fun f vs=>m9 f vs):=by
 &IV hn hdf fun w s₀ s₁ mg mb fa o pm cd doc a vs ns G Y ho hd hcd hmg hobj hints hlen hsm hg=>?_
 have KX:=hY w _ Y
 B3⟨fd,hb,hF⟩:=F w mg fa _ KX G.T.g hmg
 ~aAk KX G.T.g G.T.b G.T.builtins G.T.nolimit hg hobj hints (G1 hlen hn2) hr hF hb (fun H hO hS=>hsp w H a ns hlen hsm hO hS) fun H e s'=>hCX w H s₁ e s'
def spB(K:aF):Sp:=fun vs H Q _=>∃(a:Addr)(ns:List Int),vs=[.ref a]∧pQ K H a (ns.map V.int)∧ns.length≤63∧(∀k∈ns,Small k)∧∀H',Q (.bl true) H'
B5 Fun.okB{P:Program}{w:World}{K:aF}{mg:Str→Option Value}{base:Heap}{x:Str}{st:Stmt}{N:List Str}{k:Nat}{g:GS}{f:Addr}{fd:FuncData}(F:Fun K x x st f fd)(S:bA N ["script"] (aL st))
  (hbody:∀(cdv:Value)(A:Around)(outer:List Env)(s:Shared)(H:Hp)(E:XK),jK k (A.deeper (envOfC x (aL st) s.heap.objs.size f cdv))→∃t,YB K (Fd CQ P w K mg base N x (aL st) f cdv A outer s H E).ZV (cC st) t g)
  (aGm:∀ns:List Int,ns.length≤63→(∀k∈ns,Small k)→qR N.length 1 g [.lst (ns.map D.int)]=some (.bl true)):yF P w K mg base CQ (k+1) f fd ["script"] (spB K):=by
 &F.ok S (fun vs H Q E h=>?_) (fun cdv A outer s H vs Q E hr h=>?_)
 ·B3⟨a,ns,rfl,_⟩:=h
  rfl
 B3⟨a,ns,rfl,hS,hl,hb,q⟩:=h
 B3⟨t,yb⟩:=hbody cdv A outer s H E hr
 have h3:=aGm ns hl hb
 have rv:dF K H [.lst (ns.map D.int)] [.ref a]:=by
  B4 dF
  ~⟨_,_,rfl,by B4 Rv;~⟨a,_,rfl,hS,jM.mpr rfl⟩,by B4 dF;rfl⟩
 &⟨t,yb.ps,yb.ev H _ _ H ([D.lst (ns.map D.int)].map SD.fro++E7 (N.length-1) SD.no) (Ij rv) ?_⟩
 B4 qR at h3
 rw[if_pos (show [D.lst (ns.map D.int)].length=1 from rfl)]at h3
 cases qq:g ([D.lst (ns.map D.int)].map SD.fro++E7 (N.length-1) SD.no)with
 | ret d'=>
  rw[qq]at h3
  cases h3
  &fun v H' A' s' o=>?_
  have:=Ow.rv _ _ _ o
  B4 Rv at this
  subst this
  ~q _
 | _=>
  rw[qq]at h3
  cases h3
section
variable{K:aF}{X:Cx}{e a b c:Expr}{es:List Expr}{t ta tb te:TE}{f g:FE}{pos:Pos}
def aAT(i j:Int):Prop:=Builtin.Int.intBits i≤4000000∧Builtin.Int.intBits j≤4000000
instance (i j:Int):Decidable (aAT i j):=by B4 aAT;~inferInstance
def aKw:D→D→Option D:=Lr aAT fun i j=>.int (i*j)
variable{lo hi:Option Expr}{tl th:TO}{fl fh:FO}{p2:Pos}
end
end L2


namespace L2
open PySem PySem.Spec PySem.Calls PyProof.Rows PyProof.V
section
variable{K:aF}{X:Cx}
def aKx:List D→Option D
 | [.bl c]=>some (.int (if c then 1 else 0))
 | _=>none
end
end L2


namespace L2
open PySem PySem.Spec PySem.Calls PyProof.Rows PyProof.V
section
variable{X:Cx}{pins:List (Addr×Obj)}{σ:St}{H:Hp}{s:Shared}{h':Heap}
end
section
variable{K:aF}{X:Cx}{e a b c:Expr}{es:List Expr}{t ta tb te:TE}{f g fe:FE}{tc:TT}{fc:FT}{pos p p2:Pos}{x:Str}
end
end L2


namespace L2
open PySem PySem.Spec PySem.Calls PyProof.Rows PyProof.V
section
variable{K:aF}{B H:Hp}{env:EN}{σ:St}{i:Nat}{v:V}{d:D}
B5 Rel.aAU(h:Rel K B env σ H)(e:env[i]?=some (.inn v d)):Rel K B (env.set i (.own d)) σ H∧σ[i]?=some (some v):=by
 B3⟨A,a,b⟩:=h
 B3⟨y,A1,C,h1,h2,h3,h4,k⟩:=a.focus e
 B3⟨rfl,o⟩:=h4
 have eA:A=fH A1 C:=funext fun x=>propext (h3 x)
 subst eA
 have s:=k _ (fun _ _ _ _ q=>q) (.own d) (some v) A1 h2 ⟨v,rfl,o⟩
 rw[set_same h1]at s
 ~⟨⟨_,s,b⟩,h1⟩
B5 Rel.aAV(h:Rel K B env σ H)(e:env[i]?=some (.own d))(hv:σ[i]?=some (some v)):Rel K B (env.set i (.inn v d)) σ H:=by
 B3⟨A,a,b⟩:=h
 B3⟨y,A1,C,h1,h2,h3,h4,k⟩:=a.focus e
 B3⟨v',rfl,o⟩:=h4
 rw[hv]at h1
 cases h1
 have eA:A=fH A1 C:=funext fun x=>propext (h3 x)
 subst eA
 have s:=k _ (fun _ _ _ _ q=>q) (.inn v d) (some v) A1 h2 ⟨rfl,o⟩
 rw[set_same hv]at s
 ~⟨_,s,b⟩
end
section
variable{K:aF}{X:Cx}{st:Stmt}{sts:List Stmt}{t u tb:TS}{g g1 g2:GS}{e a b c:Expr}{es:List Expr}{te ta t0:TE}{f f0 fa fb:FE}{gk:FE}{tA:TA}{fs:FA}{tc:TT}{fc:FT}{pos:Pos}{i:Nat}{π:FP}
B5 aDq(hc:X.calm=true)(pins:List (Addr×Obj))(s:Shared)(σ:St)(H:Hp)(v:V)(u:Value)(Q:VK)(I:Inv X pins σ H s)(rv:RelV v u)(h:∃n:Nat,v=.int n∧n≤1000∧∀l,H l=none→Q (.ref l) (upd H l (.lst ((D2 n).map fun k=>V.int ((k:Nat):Int))))) :
  wpAny (model X.prog X.w) X.A (call (.type "range") [u]) (fun u' s'=>wpAny (model X.prog X.w) X.A (call (.type "list") [u']) (EP X pins σ Q) X.xe s') X.xe s:=by
 B3⟨n,rfl,hn,q⟩:=h
 B3⟨t,rfl⟩:=rv
 &call_range_1 ?_
 &call_list_range (n:=n) (I.ok.hd hc) (IsRange.new _ _ _ _ _ _ _) (small_one A8 A8 A6 A6) (by rw[rangeSize_one];split<;>omega) A6 fun h' tk acc c kp g it=>?_
 have I1:Inv X pins σ H {s with heap:=s.heap.push {cls:=.type "range", data:=.fields #[.int 0 s.toks,.int (n:Int) t,.int 1 (s.toks+1)]},toks:=s.toks+1+1}:=I.kept (t':=s.toks+1+1) fun b o e=>Heap.get?_push_of_some _ e
 generalize hg':s.heap.push {cls:=.type "range", data:=.fields #[.int 0 s.toks,.int (n:Int) t,.int 1 (s.toks+1)]}=hp at *
 have hs:H hp.objs.size=none:=I1.hok.fresh (D1 _)
 have rr:Vals ((D2 n).map fun k=>V.int ((k:Nat):Int)) acc.toList:=by
  have al:acc.toList.length=n:=by rw[K3];~it.1
  have mk:∀(m:Nat)(us:List Value)(lo:Nat),us.length=m→(∀(j:Nat)(w:Value),us[j]?=some w→∃t,w=.int ((lo+j:Nat):Int) t)→Vals ((List.range' lo m).map fun k=>V.int ((k:Nat):Int)) us:=by
   intro m
   induction m with
   | zero=>
    intro us lo hl _
    have:us=[]:=L6 hl
    subst this
    ~.nil
   | succ m ih=>
    intro us lo hl hw
    cases us with
    | nil=>cases hl
    | cons w us=>
     rw[l5,D5]
     B3⟨t0,e0⟩:=hw 0 w rfl
     &.cons ⟨t0,by rw[e0];rfl⟩ (ih us (lo+1) (by simpa using hl) fun j w' hj=>?_)
     B3⟨t1,e1⟩:=hw (j+1) w' (by simpa using hj)
     ~⟨t1,by rw[e1,show lo+(j+1)=lo+1+j by omega]⟩
  rw[e9]
  &mk n acc.toList 0 al fun j w hj=>?_
  B3⟨t1,e1⟩:=it.2 j w (by rw[←L8];~hj)
  ~⟨t1,by rw[e1];congr 1;omega⟩
 ~⟨.ref _,_,I1.laid (t':=tk) (a:=hp.objs.size) (o:=.lst ((D2 n).map fun k=>V.int ((k:Nat):Int))) kp (D1 _) ⟨by rw[B7,E3];~O8 (rY hn),acc.toList,c,rr,by simpa[seqObj]using g⟩,rfl,q _ hs⟩
def Ik:D→Option D
 | .int n=>if 0≤n∧n≤1000 then some (.lst ((D2 n.toNat).map fun k=>D.int ((k:Nat):Int)))else none
 | _=>none
B5 aAW{x y:Str}{p p2 pos2:Pos}(h:XR K X e te f)(hg:Gl X x)(hm:X.mg x=none)(hv:bootBuiltins x=some (.type "list")) (hg2:Gl X y) (hm2:X.mg y=none) (hv2:bootBuiltins y=some (.type "range")) (hc:X.calm=true:=by rfl) (hn:x ≠ "__name__" := by decide) (hdb:(x==("__debug__" : Str))=false:=by decide) (hn2:y ≠ "__name__" := by decide) (Oq:(y==("__debug__" : Str))=false:=by decide)
  (he:starEach [e] X.env=[(false,eval e X.env)]:=by rfl) (he2:starEach [.Call (.Name y p2) [e] [] pos2] X.env=[(false,eval (.Call (.Name y p2) [e] [] pos2) X.env)]:=by rfl) :
  XN K X (.Call (.Name x p) [.Call (.Name y p2) [e] [] pos2] [] pos) (tUn (fun v H Q=>∃n:Nat,v=.int n∧n≤1000∧∀l,H l=none→Q (.ref l) (upd H l (.lst ((D2 n).map fun k=>V.int ((k:Nat):Int))))) te) (pJ Ik f):=⟨h.hk,aDo (by have:=h.hk;subst this;~aDq hc) h.pe hg hm hv hg2 hm2 hv2 hn hdb hn2 Oq he he2,fun σ H e d Q re q k=>by
 B3⟨d0,q1,q2⟩:=aX q
 B4 Ik at q2
 split at q2
 ·rename_i n
  split at q2
  ·rename_i hl
   cases q2
   &h.ev σ H H e _ _ (Zn.self K H) re q1 fun v H1 Z1 s1 t1 z1 rv=>?_
   B4 Rv at rv
   &⟨n.toNat,by rw[rv,Q2 hl.1],by omega,fun l hl=>k _ _ (s1.trans (cP hl _)) ((rH (aU.refl _) (.eU ?_ ?_) hl).back s1)⟩
   ·have:=dG ((D2 n.toNat).map fun k=>((k:Nat):Int))
    rw[K4]at this
    ~this
   ·have:=(jM (K:=K) (H:=H1) (ns:=(D2 n.toNat).map fun k=>((k:Nat):Int)) (xs:=((D2 n.toNat).map fun k=>((k:Nat):Int)).map V.int)).mpr rfl
    rw[K4,K4]at this
    ~this
  ·cases q2
 ·cases q2⟩
end
end L2


namespace L2
open PySem PySem.Spec PySem.Calls PyProof.Rows PyProof.V
section
variable{α β:Type}{R:α→Fp→β→Prop}
B5 eN.Il:∀{ds:List α} {A:Fp} {ys:List β} {d:α} {y:β},eN R (ds++[d]) A (ys++[y])→∃A0 A1,eN R ds A0 ys∧R d A1 y∧Apart A0 A1∧Is A (fH A0 A1)
  | [],A,ys,d,y,h=>by
    B3⟨y0,yt,A1,A2,h1,h2,h3,h4,h5,h6⟩:=h
    subst h6
    cases ys with
    | nil=>
      cases h1
      ~⟨nil,A1,⟨fun _ z=>z,rfl⟩,h4,fun _ z=>z.elim,fun x=>⟨fun q=>((h3 x).mp q).elim .inr fun z=>absurd z (h5 x),fun q=>q.elim False.elim fun z=>(h3 x).mpr (.inl z)⟩⟩
    | cons z zs=>
      injection h1 with _ h1
      cases zs<;>cases h1
  | d0::ds,A,ys,d,y,h=>by
    B3⟨y0,yt,A1,A2,h1,h2,h3,h4,h5⟩:=h
    have hl:=h5.len
    cases ys with
    | nil=>
      injection h1 with _ h1
      subst h1
      have hl:0=(ds++[d]).length:=hl
      rw[C7]at hl
      simp at hl
    | cons z zs=>
      injection h1 with e1 e2
      subst e1 e2
      B3⟨B0,B1,k1,k2,k3,k4⟩:=eN.Il h5
      &⟨fH A1 B0,B1,⟨z,zs,A1,B0,rfl,fun x q q'=>h2 x q ((k4 x).mpr (.inl q')),fun x=>Iff.rfl,h4,k1⟩,k2,fun x q q'=>?_,fun x=>?_⟩
      · rcases q with q | q
        · ~h2 x q ((k4 x).mpr (.inr q'))
        · ~k3 x q q'
      · rw[h3 x]
        constructor
        · rintro(q | q)
          · ~.inl (.inl q)
          · ~((k4 x).mp q).elim (fun z=>.inl (.inr z)) .inr
        · rintro((q | q) | q)
          · ~.inl q
          · ~.inr ((k4 x).mpr (.inl q))
          · ~.inr ((k4 x).mpr (.inr q))
end
section
variable{K:aF}{B H H':Hp}{env:EN}{σ:St}{i:Nat}{v:V}{d:D}
B5 Rel.snoc(h:Rel K B env σ H)(s:aU H H')(n:Nr K H H' d v):Rel K B (env++[.own d]) (σ++[some v]) H':=by
 B3⟨A,a,b⟩:=h
 B3⟨N,o,f⟩:=n
 have cl:=jN a
 have g:aU (out H A) (out H' (fH A N)):=bU s fun x q=>q.elim .inl fun q=>.inr (f x q)
 &⟨fH A N,eN.snoc (a.mono fun e D z _ q=>q.same s g) ⟨v,rfl,o⟩ fun x q1 q2=>?_,b.trans g⟩
 B3⟨⟨u,e⟩,_⟩:=cl x q1
 rw[f x q2]at e;cases e
B5 Rel.pop{s:SD}{y:Option V}(h:Rel K B (env++[s]) (σ++[y]) H):Rel K B env σ H:=by
 B3⟨A,a,b⟩:=h
 B3⟨A0,A1,k1,k2,k3,k4⟩:=a.Il
 have g:aU (out H A) (out H A0):=bU (aU.refl _) fun x q=>.inl ((k4 x).mpr (.inl q))
 ~⟨A0,k1.mono fun e D z _ q=>q.same (aU.refl _) g,b.trans g⟩
B5 Rel.aAX(h:Rel K B (env++[.own d]) (σ++[some v]) H):Rv K H d v:=by
 B3⟨A,a,b⟩:=h
 B3⟨A0,A1,k1,⟨v',e,o⟩,k3,k4⟩:=a.Il
 cases e
 ~Ow.rv _ _ _ o
B5 Rel.move(h:Rel K B (env++[.own d]) (σ++[some v]) H)(hi:i<env.length):Rel K B (env.set i (.own d)) (σ.set i (some v)) H:=by
 B3⟨A,a,b⟩:=h
 B3⟨A0,A1,k1,⟨v',e,o⟩,k3,k4⟩:=a.Il
 cases e
 B3⟨y,B1,C,f1,f2,f3,f4,f5⟩:=k1.focus (B6 hi)
 have g:aU (out H A) (out H (fH A1 C)):=bU (aU.refl _) fun x q=>.inl ((k4 x).mpr (q.elim .inr fun q=>.inl ((f3 x).mpr (.inr q))))
 ~⟨fH A1 C,f5 (fP K H (out H (fH A1 C))) (fun e D z _ q=>q.same (aU.refl _) g) (.own d) (some v) A1 (fun x q q'=>k3 x ((f3 x).mpr (.inr q')) q) ⟨v,rfl,o⟩,b.trans g⟩
B5 Rel.give(h:Rel K B env σ H)(e:env[i]?=some (.own d)):∃v,σ[i]?=some (some v)∧Rel K B (env.set i .no++[.own d]) (σ++[some v]) H:=by
 B3⟨A,a,b⟩:=h
 B3⟨y,A1,C,h1,h2,h3,h4,k⟩:=a.focus e
 B3⟨v,rfl,o⟩:=h4
 have eA:A=fH A1 C:=funext fun x=>propext (h3 x)
 subst eA
 have s:=k _ (fun _ _ _ _ q=>q) .no (some v) nil (fun _ z=>z.elim) (fun _ z=>z)
 rw[set_same h1]at s
 have s2:=eN.snoc (d:=SD.own d) (y:=some v) (A1:=A1) s ⟨v,rfl,o⟩ (fun x q q'=>q.elim False.elim (h2 x q'))
 have eA2:(fH (fH nil C) A1)=fH A1 C:=funext fun x=>propext ⟨fun q=>q.elim (fun q=>q.elim False.elim .inr) .inl,fun q=>q.elim .inr fun q=>.inl (.inr q)⟩
 rw[eA2]at s2
 ~⟨v,h1,_,s2,b⟩
end
def iW(i:Nat)(g:GS):GS:=fun env=>match env[i]? with
 | some (.inn v d)=>(match g (env.set i (.own d))with
  | .next env'=>(match env'[i]? with
   | some (.own d')=>.next (env'.set i (.inn v d'))
   | _=>.bad)
  | _=>.bad)
 | _=>.bad
B5 aAY{K:aF}{t:TS}{g:GS}{i:Nat}(h:qy K t g):qy K t (iW i g):=fun B E σ H env r p=>by
 B4 iW at p
 split at p
 ·rename_i v d q1
  B3⟨r',hσ⟩:=r.aAU q1
  &h B E σ H _ r' ?_
  split at p
  ·rename_i env' q2
   rw[q2]
   split at p
   ·rename_i d' q3
    ~fun H' r2=>p H' (r2.aAV q3 hσ)
   ·~p.elim
  ·~p.elim
 ·~p.elim
B5 Dt{K:aF}{X:Cx}{st:Stmt}{t:TS}{g:GS}(i:Nat)(hp:PS X st t)(h:qy K t g):YS K X st t (iW i g):=⟨hp,(aAY h).ds⟩
def aAZ:GS:=fun _=>.bad
B5 Yi{K:aF}{X:Cx}{st:Stmt}:YS K X st yj aAZ:=⟨yl,fun _ _ _ _ _ _ p=>p.elim⟩
section
variable{K:aF}{X:Cx}{st:Stmt}{sts:List Stmt}{t u tb:TS}{g g1 g2:GS}{e a b c o:Expr}{es:List Expr}{te ta t0 tv:TE}{f f0 fa fb:FE}{gk:FE}{tA:TA}{fs:FA}{tc:TT}{fc:FT}{pos apos:Pos}{i:Nat}{π:FP}
structure jC(K:aF)(C:Addr)(nm:List Str):Prop where
 cl:zg K C
 no:∀f∈nm,De K C f
def dJ(C:Addr)(x:Str)(d:D):Option D:=match d with
 | .ins C' nm ds=>if C'=C then(posK nm x).bind fun j=>ds[j]? else none
 | _=>none
B5 aDr{H:Hp}{C:Addr}{x:Str}{d r:D}{v:V}(q:dJ C x d=some r)(rv:Rv K H d v):∃a dx fs y,v=.ref a∧H a=some (.ins C dx fs)∧fs.lookup x=some y∧Rv K H r y:=by
 B4 dJ at q
 split at q
 ·rename_i C' nm ds
  split at q
  ·rename_i hc
   subst hc
   B3⟨j,q1,q2⟩:=aX q
   B4 Rv at rv
   B3⟨a,dx,xs,rfl,h1,h2,h3⟩:=rv
   B3⟨y,h4,h5⟩:=h3.get q2
   ~⟨a,dx,_,y,rfl,h1,by rw[Dp h2,q1];~h4,h5⟩
  ·cases q
 ·cases q
B5 cU{C:Addr}{nm:List Str}{x:Str}(F:jC K C nm)(h:XR K X e ta f)(hx:x∈nm)(hb:attributeBase e x X.env (eval e X.env)=eval e X.env):XR K X (.Attribute e x pos) (aFs K ta x) (pJ (dJ C x) f):=⟨h.hk,by have:=h.hk;subst this;~zj h.pe hb,fun σ H Z e d Q z re q k=>by
 B3⟨d0,q1,q2⟩:=aX q
 &h.ev σ H Z e d0 _ z re q1 fun v H1 Z1 s1 t1 z1 rv=>?_
 B3⟨a,dx,fs,y,rfl,h1,h2,h3⟩:=aDr q2 rv
 ~⟨a,C,dx,fs,y,rfl,z1.sm _ _ h1,F.cl,F.no x hx,h2,k y H1 Z1 s1 t1 z1 h3⟩⟩
B5 uf{H:Hp}{C:Addr}{x:Str}{w v:V}(h:stepV H (.fld C x) w=some v):∃a dx fs,w=.ref a∧H a=some (.ins C dx fs)∧fs.lookup x=some v:=by
 cases w with
 | ref a=>
  cases q:H a with
  | none=>B4 stepV at h;dsimp only at h;rw[q]at h;cases h
  | some u=>
   B4 stepV at h
   dsimp only at h
   rw[q]at h
   cases u with
   | ins C' dx fs=>
    have h2:(if C'=C then fs.lookup x else none)=some v:=h
    by_cases hc:C'=C
    ·rw[if_pos hc]at h2
     rw[←hc]
     ~⟨a,dx,fs,rfl,q,h2⟩
    ·rw[if_neg hc]at h2
     cases h2
   | _=>cases h
 | _=>B4 stepV at h;cases h
def yI(C:Addr)(x:Str)(π:FP):FP:=fun e=>(π e).bind fun p=>some (p++[.fld C x])
B5 mV{C:Addr}{nm:List Str}{x:Str}(F:jC K C nm)(h:XP K X a ta i π)(hx:x∈nm)(hb:attributeBase a x X.env (eval a X.env)=eval a X.env):XP K X (.Attribute a x pos) (aFs K ta x) i (yI C x π):=⟨h.hk,by have:=h.hk;subst this;~zj h.pe hb,fun σ H e v0 p v Q re h1 h2 h3 k=>by
 B4 yI at h2
 B3⟨p0,q1,q2⟩:=aX h2
 cases q2
 B3⟨w,w1,w2⟩:=Og h3
 B3⟨ad,dx,fs,rfl,w3,w4⟩:=uf w2
 ~h.ev σ H e v0 p0 _ _ re h1 q1 w1 fun H1 s1=>⟨ad,C,dx,fs,v,rfl,s1 _ _ w3,F.cl,F.no x hx,w4,k H1 s1⟩⟩
end
B5 IW{x:Str}{y:V}:∀{nm:List Str} {xs:List V},nm.length=xs.length→yE x y (nm.zip xs)=(match posK nm x with | some j=>nm.zip (xs.set j y) | none=>(nm++[x]).zip (xs++[y]))
 | [],xs,h=>by
  cases xs with
  | nil=>rfl
  | cons=>simp at h
 | a::nm,[],h=>by simp at h
 | a::nm,z::xs,h=>by
  have ih:=IW (x:=x) (y:=y) (nm:=nm) (xs:=xs) (by simpa using h)
  rw[Q7]
  B4 yE posK
  by_cases c:a=x
  ·rw[if_pos c,if_pos c]
   rfl
  ·rw[if_neg c,if_neg c,ih]
   cases q:posK nm x with
   | none=>rfl
   | some j=>rfl
section
variable{K:aF}{B H:Hp}{env:EN}{σ:St}
B5 ug{H:Hp}{a C dx:Addr}{fs:List (Str×V)}(h:H a=some (.ins C dx fs)):xT H a:=⟨fun ys e=>(by rw[h]at e;cases e),fun o ys e=>(by rw[h]at e;cases e)⟩
B5 Rel.aJw{i:Nat}{p:List Step}{d0:D}{C:Addr}{nm:List Str}{ds:List D}(h:Rel K B env σ H)(e:env[i]?=some (.own d0))(q:eV p d0=some (.ins C nm ds)):∃v0 a dx xs Bs,σ[i]?=some (some v0)∧Ld H p v0=some (.ref a)∧H a=some (.ins C dx (nm.zip xs))∧nm.length=xs.length∧dU K H ds Bs xs ∧
    ∀H2 nm' ds' xs' Bn,aU H H2→nm'.length=xs'.length→dU K H2 ds' Bn xs'→(∀b,Bn b→Bs b∨H b=none)→Rel K B (env.set i (.own (eO p d0 (.ins C nm' ds')))) σ (upd H2 a (.ins C dx (nm'.zip xs'))):=by
  B3⟨v0,w,A1,Cc,h1,h2,h3,h4,h5,h6⟩:=h.at e q
  have hc:=Ow.cells _ _ _ h3
  B4 Ow at h3
  B3⟨a,dx,xs,Bs,rfl,o2,o2',o3,o3',aJx,o4,o5⟩:=h3
  &⟨v0,a,dx,xs,Bs,h1,h2,o2,o3,o5,fun H2 nm' ds' xs' Bn s hl o hb=>?_⟩
  have nad:dx≠a:=fun z=>by rw[z,o2]at o2';cases o2'
  have nBa:¬Bn a:=fun z=>(hb a z).elim o3' fun z=>by rw[o2]at z;cases z
  have nBd:¬Bn dx:=fun z=>(hb dx z).elim aJx fun z=>by rw[o2']at z;cases z
  have hC:∀x,Cc x→¬(x=a∨x=dx):=fun x z y=>h4 x ((o4 x).mpr (.inl y)) z
  have Ss:H2 a=some (.ins C dx (nm.zip xs)):=s a _ o2
  have nt:xT H2 a:=ug Ss
  &h6 _ (.ins C nm' ds') (fH (fun x=>x=a∨x=dx) Bn) (fun x z1 z2=>?_) (fun x z=>?_) (s.tk.trans (uP nt)) ?_ (fun x u ex=>?_)
  · rcases z1 with z1 | z1
    · ~hC x z2 z1
    · rcases hb x z1 with z | z
      · ~h4 x ((o4 x).mpr (.inr z)) z2
      · B3⟨⟨u,eu⟩,_⟩:=h5 x z2
        rw[z]at eu;cases eu
  · B3⟨⟨u,eu⟩,_⟩:=h5 x z
    rw[bN (fun y=>hC x z (.inl y)),eu,s x u eu]
  · B4 Ow
    &⟨a,dx,xs',Bn,rfl,cD,by rw[bN nad];~s dx _ o2',hl,nBa,nBd,fun _=>Iff.rfl,dU.frame (uP nt) _ _ _ o fun x zx=>bN fun y=>nBa (y▸zx)⟩
  · B3⟨e1,e2⟩:=bB.mp ex
    have na:x≠a:=fun y=>e1 (.inl ((o4 x).mpr (.inl (.inl y))))
    &bB.mpr ⟨fun z=>?_,by rw[bN na];~s x u e2⟩
    rcases z with (z | z) | z
    · ~e1 (.inl ((o4 x).mpr (.inl z)))
    · rcases hb x z with z | z
      · ~e1 (.inl ((o4 x).mpr (.inr z)))
      · rw[z]at e2;cases e2
    · ~e1 (.inr z)
end
section
variable{K:aF}{X:Cx}{st:Stmt}{sts:List Stmt}{t u tb:TS}{g g1 g2:GS}{e a b c o:Expr}{es:List Expr}{te ta t0 tv:TE}{f f0 fa fb:FE}{gk:FE}{tA:TA}{fs:FA}{tc:TT}{fc:FT}{pos apos:Pos}{i:Nat}{π:FP}
def Vc(nm:List Str)(ds:List D)(x:Str)(d:D):List Str×List D:=match posK nm x with
 | some j=>(nm,ds.set j d)
 | none=>(nm++[x],ds++[d])
def vM(C:Addr)(i:Nat)(π:FP)(x:Str)(f:FE):GS:=fun env=>match env[i]?,π (rE env),f (rE env)with
 | some (.own d0),some p,some d=>(match eV p d0 with
  | some (.ins C' nm ds)=>if C'=C∧nm.length<900 then .next (env.set i (.own (eO p d0 (.ins C' (Vc nm ds x d).1 (Vc nm ds x d).2))))else .bad
  | _=>.bad)
 | _,_,_=>.bad
B5 aGn{C:Addr}{uh:List Str}{x:Str}(F:jC K C uh)(hx:x∈uh)(h:EvP K ta i π)(he:Nu K te f):qy K (aFt K ta te x) (vM C i π x f):=fun B E σ H env r p=>by
 B4 vM at p
 split at p
 ·rename_i d0 pp d q1 q2 q3
  split at p
  ·rename_i C' nm ds q4
   split at p
   ·rename_i hc
    B3⟨rfl,hl⟩:=hc
    B3⟨v0,a,dx,xs,Bs,k1,k2,k3,k4,k5,k6⟩:=r.aJw q1 q4
    &he σ H (rE env) d _ r.r q3 fun y H1 s1 n=>?_
    &h σ H1 (rE env) v0 pp _ _ (r.r.same s1) k1 q2 (zA s1 k2) fun H2 s2=>?_
    have s12:=s1.trans s2
    B3⟨N,o,fr⟩:=n.same s2
    &⟨a,C',dx,_,rfl,s12 _ _ k3,F.cl,F.no x hx,by rw[a9];omega,p _ ?_⟩
    rw[IW k4]
    B4 Vc
    cases qj:posK nm x with
    | none=>~k6 H2 (nm++[x]) (ds++[d]) (xs++[y]) (fH Bs N) s12 (by simp[k4]) (cO.mpr ((cO.mp (k5.same s12)).snoc o (Ye (H1:=H) k5 fr))) fun b z=>z.imp id (fr b)
    | some j=>
     have hj:=(rJ qj).1
     have hlen:=(dU.rv _ _ _ k5).length
     B3⟨y0,A1,Cc,f1,f2,f3,f4,f5⟩:=(cO.mp (k5.same s12)).focus (B6 (show j<ds.length by omega))
     have ap:Apart N Cc:=fun x q1 q2=>Ye (H1:=H) k5 fr x ((f3 x).mpr (.inr q2)) q1
     ~k6 H2 nm (ds.set j d) (xs.set j y) (fH N Cc) s12 (by rw[K2];~k4) (cO.mpr (f5 (Ow K H2) (fun _ _ _ _ qq=>qq) d y N ap o)) fun b z=>z.elim (fun z=>.inr (fr b z)) fun z=>.inl ((f3 b).mpr (.inr z))
   ·~p.elim
  ·~p.elim
 ·~p.elim
end
end L2


namespace L2
open PySem PySem.Spec PySem.Calls PyProof.Rows PyProof.V
section
variable{K:aF}{B H H':Hp}{env:EN}{σ:St}{i:Nat}{p:List Step}{d0 d:D}
B5 mR.same{a:Addr}(h:mR H a)(s:aU H H'):mR H' a:=by
 B3⟨⟨o,e⟩,n⟩:=h
 have e':=s _ _ e
 ~⟨⟨o,e'⟩,fun xs z=>n.1 xs (by rw[e,←e'];~z),fun u xs z=>n.2 u xs (by rw[e,←e'];~z)⟩
B5 aA0{A:Fp}(c:∀x,A x→mR H x):Zn K A (out H A) H:=⟨jL H A,Nq fun x q=>(c x q).2,fun x q=>⟨by B4 out;rw[if_pos q],fun z=>by B3⟨⟨o,e⟩,_⟩:=c x q;rw[z]at e;cases e⟩⟩
B5 aED{A:Fp}{Z:Hp}(z:Zn K A Z H):aU Z (out H A):=fun x o e=>bB.mpr ⟨fun q=>(by rw[(z.no x q).1]at e;cases e),z.sm x o e⟩
B5 Rel.atR(h:Rel K B env σ H)(e:env[i]?=some (.own d0))(q:eV p d0=some d):∃v0 w A1 C,σ[i]?=some (some v0)∧Ld H p v0=some w∧Ow K H d A1 w∧Apart A1 C∧(∀a,C a→mR H a)∧yL K (out H A1) (rE (env.set i .no)) σ ∧
    ∀H' d' r x A' A2,Apart A' C→Apart A2 C→Apart A' A2→(∀a,C a→H' a=H a)→Dh K H H'→Ow K H' d' A' w→Ow K H' r A2 x→aU (out H (fH A1 C)) (out H' (fH (fH A' A2) C))→Rel K B (env.set i (.own (eO p d0 d'))++[.own r]) (σ++[some x]) H':=by
  B3⟨A,a,b⟩:=h
  have cl:=jN a
  B3⟨y,A1,C,h1,h2,h3,h4,k⟩:=a.focus e
  B3⟨v0,rfl,o⟩:=h4
  B3⟨w,B1,C1,g1,g2,g3,g4,g5⟩:=o.at q
  &⟨v0,w,B1,fH C1 C,h1,g1,g4,fun x z1 z2=>?_,fun x z=>?_,?_,fun H' d' r x A' A2 ap apr apx fr tk o' o'' sm=>?_⟩
  · ~z2.elim (g2 x z1) (h2 x ((g3 x).mpr (.inl z1)))
  · ~cl x ((h3 x).mpr (z.elim (fun z=>.inl ((g3 x).mpr (.inr z))) .inr))
  · intro j dj qj
    B4 rE at qj
    rw[C4]at qj
    cases ej:(env.set i .no)[j]? with
    | none=>rw[ej]at qj;cases qj
    | some sd=>
      rw[ej]at qj
      have ne:i≠j:=fun z=>by
        subst z
        rw[J3 (D4.mp e).1]at ej
        cases ej
        cases qj
      have S':=k (fP K H (out H A)) (fun _ _ _ _ q=>q) .no none nil (fun _ z=>z.elim) fun _ z=>z
      B3⟨y,Ak,Ck,f1,f2,f3,f4,_⟩:=S'.focus ej
      rw[G4,if_neg ne]at f1
      have hB:∀x,B1 x→A x:=fun x z=>(h3 x).mpr (.inl ((g3 x).mpr (.inl z)))
      have apk:Apart Ak B1:=fun x z1 z2=>h2 x ((g3 x).mpr (.inl z2)) (((f3 x).mpr (.inl z1)).elim False.elim id)
      cases sd with
      | no=>cases qj
      | fro d1=>
        cases qj
        B3⟨_,v1,rfl,f5⟩:=f4
        ~⟨v1,f1,(bU (aU.refl _) fun x q=>.inl (hB x q):aU (out H A) (out H B1)).rv _ _ f5⟩
      | own d1=>
        cases qj
        B3⟨v1,rfl,f5⟩:=f4
        ~⟨v1,f1,f5.out apk fun x q=>(cl x (hB x q)).2⟩
      | inn v1 d1=>
        cases qj
        B3⟨rfl,f5⟩:=f4
        ~⟨v1,f1,f5.out apk fun x q=>(cl x (hB x q)).2⟩
  · have o2:=g5 H' d' A' (fun x z1 z2=>ap x z1 (.inl z2)) (fun x z=>fr x (.inl z)) tk o'
    have ap2:Apart (fH A' C1) C:=fun x z1 z2=>z1.elim (fun z=>ap x z (.inr z2)) fun z=>h2 x ((g3 x).mpr (.inr z)) z2
    have hA:Is A (fH B1 (fH C1 C)):=fun x=>by
      rw[h3 x]
      constructor
      · rintro(z | z)
        · ~((g3 x).mp z).elim .inl fun z=>.inr (.inl z)
        · ~.inr (.inr z)
      · rintro(z | z | z)
        · ~.inl ((g3 x).mpr (.inl z))
        · ~.inl ((g3 x).mpr (.inr z))
        · ~.inr z
    have g:aU (out H A) (out H' (fH (fH (fH A' C1) C) A2)):=fun x u ex=>by
      B3⟨e1,e2⟩:=bB.mp ex
      have:=sm x u (bB.mpr ⟨fun z=>e1 ((hA x).mpr z),e2⟩)
      B3⟨e3,e4⟩:=bB.mp this
      &bB.mpr ⟨fun z=>e3 ?_,e4⟩
      rcases z with ((z | z) | z) | z
      · ~.inl (.inl z)
      · ~.inr (.inl z)
      · ~.inr (.inr z)
      · ~.inl (.inr z)
    have s:=k (fP K H' (out H' (fH (fH (fH A' C1) C) A2))) (fun s D z hb qq=>by
      cases s with
      | no=>~qq
      | fro d=>B3⟨q1,v,q2,q3⟩:=qq;~⟨q1,v,q2,g.rv _ _ q3⟩
      | inn v d=>~⟨qq.1,Ow.frame tk _ _ _ qq.2 fun x zx=>fr x (.inr (hb x zx))⟩
      | own d=>B3⟨v,q1,q2⟩:=qq;~⟨v,q1,Ow.frame tk _ _ _ q2 fun x zx=>fr x (.inr (hb x zx))⟩) (.own (eO p d0 d')) (some v0) (fH A' C1) ap2 ⟨v0,rfl,o2⟩
    rw[set_same h1]at s
    &⟨_,eN.snoc s ⟨x,rfl,o''⟩ fun y z1 z2=>?_,b.trans g⟩
    rcases z1 with (z | z) | z
    · ~apx y z z2
    · ~apr y z2 (.inl z)
    · ~apr y z2 (.inr z)
def spS(K:aF)(m:Nat)(F:List D→Option (D×D)):Sp:=fun vs H Q _=>∃d es v ws A r d',vs=v::ws∧es.length+1=m∧Ow K H d A v∧dF K (out H A) es ws∧F (d::es)=some (r,d')∧∀w H' A' A2,Ow K H' d' A' v→Ow K H' r A2 w→Apart A' A2→aU (out H A) (out H' (fH A' A2))→Q w H'
B5 JB{m:Nat}{F:List D→Option (D×D)}{E:XK}{Q:VK}{es:List D}{r d':D}(h:Rel K B env σ H)(e:env[i]?=some (.own d0))(q:eV p d0=some d)(hl:es.length+1=m)(hF:F (d::es)=some (r,d'))(k:∀w H',Rel K B (env.set i (.own (eO p d0 d'))++[.own r]) (σ++[some w]) H'→Q w H') :
  ∃v0 w0 A1,σ[i]?=some (some v0)∧Ld H p v0=some w0∧Ow K H d A1 w0∧yL K (out H A1) (rE (env.set i .no)) σ∧∀H2 vs,aU H H2→dF K (out H2 A1) es vs→spS K m F (w0::vs) H2 Q E:=by
 B3⟨v0,w,A1,C,h1,h2,h3,h4,h5,h6,h7⟩:=h.atR e q
 have c1:=Ow.cells _ _ _ h3
 &⟨v0,w,A1,h1,h2,h3,h6,fun H2 vs s rvs=>⟨d,es,w,vs,A1,r,d',rfl,hl,h3.same s,rvs,hF,fun x H3 A' A2 o1 o2 ap sm=>k x H3 ?_⟩⟩
 have hC:∀y,C y→¬A' y∧¬A2 y∧H3 y=H y:=fun y hy=>by
  B3⟨⟨u,eu⟩,_⟩:=h5 y hy
  B3⟨n1,n2⟩:=bB.mp (sm y u (bB.mpr ⟨fun z=>h4 y z hy,s y u eu⟩))
  ~⟨fun z=>n1 (.inl z),fun z=>n1 (.inr z),n2.trans eu.symm⟩
 have tk:Dh K H H3:=(Nq fun x q=>(c1 x q).2).trans ((bU s fun x q=>.inl q:aU (out H A1) (out H2 A1)).trans (sm.trans (jL _ _))).tk
 &h7 H3 d' r x A' A2 (fun y z1 z2=>(hC y z2).1 z1) (fun y z1 z2=>(hC y z2).2.1 z1) ap (fun y hy=>(hC y hy).2.2) tk o1 o2 fun y u ey=>?_
 B3⟨e1,e2⟩:=bB.mp ey
 B3⟨n1,n2⟩:=bB.mp (sm y u (bB.mpr ⟨fun z=>e1 (.inl z),s y u e2⟩))
 ~bB.mpr ⟨fun z=>z.elim n1 fun z=>e1 (.inr z),n2⟩
def SD.hold:SD→Option (D×(D→SD))
 | .own d=>some (d,.own)
 | .inn v d=>some (d,.inn v)
 | _=>none
B5 aA1{m:Nat}{F:List D→Option (D×D)}{E:XK}{Q:VK}{es:List D}{r d':D}{back:D→SD}(h:Rel K B env σ H)(e:env[i]?.bind SD.hold=some (d0,back))(q:eV p d0=some d)(hl:es.length+1=m)(hF:F (d::es)=some (r,d'))(k:∀w H',Rel K B (env.set i (back (eO p d0 d'))++[.own r]) (σ++[some w]) H'→Q w H') :
  ∃v0 w0 A1,σ[i]?=some (some v0)∧Ld H p v0=some w0∧Ow K H d A1 w0∧yL K (out H A1) (rE (env.set i .no)) σ∧∀H2 vs,aU H H2→dF K (out H2 A1) es vs→spS K m F (w0::vs) H2 Q E:=by
 B3⟨s,e1,e2⟩:=aX e
 cases s with
 | no=>cases e2
 | fro d=>cases e2
 | own d=>cases e2;~JB h e1 q hl hF k
 | inn v d=>
  cases e2
  B3⟨r',hσ⟩:=h.aAU e1
  have hi:i<env.length:=(D4.mp e1).1
  have:=JB (E:=E) (Q:=Q) r' (J3 hi) q hl hF fun w H' rr=>by
   rw[Y3]at rr
   have r2:=rr.aAV (i:=i) (v:=v) (d:=eO p d0 d') (by rw[G3 (by rw[K2];~hi)];~J3 hi) (by
    have hl:=h.len
    rw[G3 A6]
    ~hσ)
   rw[List.set_append_left _ _ (by rw[K2];~hi),Y3]at r2
   ~k w H' r2
  rw[Y3]at this
  ~this
end
abbrev GM:=EN→Option (D×EN)
def EvM(K:aF)(t:TE)(g:GM):Prop:=∀(B:Hp)(σ:St)(H:Hp)(env:EN)(d:D)(env':EN)(Q:VK),Rel K B env σ H→g env=some (d,env')→(∀v H',Rel K B (env'++[.own d]) (σ++[some v]) H'→Q v H')→t σ H Q
structure XM(K:aF)(X:Cx)(e:Expr)(t:TE)(g:GM):Prop where
 hk:X.K=K
 pe:PE X e t
 ev:EvM K t g
abbrev GB:=EN→Option (Bool×EN)
def aH7(K:aF)(t:TT)(g:GB):Prop:=∀(B:Hp)(σ:St)(H:Hp)(env:EN)(b:Bool)(env':EN)(Q:Bool→Hp→Prop),Rel K B env σ H→g env=some (b,env')→(∀H',Rel K B env' σ H'→Q b H')→t σ H Q
structure XTM(K:aF)(X:Cx)(e:Expr)(t:TT)(g:GB):Prop where
 hk:X.K=K
 pt:PT X e t
 ev:aH7 K t g
structure XWM(K:aF)(X:Cx)(e:Expr)(t:TT)(g:GB):Prop where
 hk:X.K=K
 pw:PW X e t
 ev:aH7 K t g
abbrev FA2:=DE→DE→Option (List D)
def aH8(K:aF)(t:TA)(fs:FA2):Prop:=∀(A1:Fp)(σ:St)(H:Hp)(eF eZ:DE)(ds:List D)(Q:List V→Hp→Prop),(∀x,A1 x→mR H x)→yL K H eF σ→yL K (out H A1) eZ σ→fs eF eZ=some ds →
 (∀vs H',aU H H'→dF K (out H' A1) ds vs→Q vs H')→t σ H Q
structure XAB(K:aF)(X:Cx)(es:List Expr)(t:TA)(fs:FA2):Prop where
 hk:X.K=K
 pa:PA X es t
 ev:aH8 K t fs
section
variable{K:aF}{X:Cx}{st:Stmt}{sts:List Stmt}{t u tb:TS}{g:GM}{g1 g2:GS}{e a b c o:Expr}{es rest:List Expr}{te ta t0 tv:TE}{f f0 fa fb:FE}{tA:TA}{fs:FA2}{tc td:TT}{fc:FT}{gb gc:GB}{pos apos:Pos}{i:Nat}{π:FP}
def mW:FA2:=fun _ _=>some []
def zG(f:FE)(fs:FA2):FA2:=fun eF eZ=>(f eZ).bind fun d=>(fs eF eZ).map fun r=>d::r
def faN(f:FE)(fs:FA2):FA2:=fun eF eZ=>(f eF).bind fun d=>(fs eF eZ).map fun r=>d::r
B5 lY(hk:X.K=K:=by rfl):XAB K X [] lG mW:=⟨hk,gU,fun A1 σ H eF eZ ds Q c re rz q k=>by
 cases q
 ~k [] H (aU.refl _) (by B4 dF;rfl)⟩
B5 iG(h:XR K X e te f)(hs:XAB K X es tA fs)(hst:starEach (e::es) X.env=(false,eval e X.env)::starEach es X.env:=by rfl):XAB K X (e::es) (cI te tA) (zG f fs):=⟨h.hk,cH h.pe hs.pa hst,fun A1 σ H eF eZ ds Q c re rz q k=>by
 B3⟨d,q1,q2⟩:=aX q
 B3⟨ds',q3,rfl⟩:=lJ q2
 &h.ev σ H (out H A1) eZ d _ (aA0 c) rz q1 fun v H1 Z1 s1 t1 z1 rv=>?_
 &hs.ev A1 σ H1 eF eZ ds' _ (fun x q=>(c x q).same s1) (re.same s1) (rz.same (bU s1 fun x q=>.inl q)) q3 fun vs H2 s2 rvs=>?_
 &k (v::vs) H2 (s1.trans s2) ?_
 B4 dF
 ~⟨v,vs,rfl,((aED z1).trans (bU s2 fun x q=>.inl q)).rv _ _ rv,rvs⟩⟩
B5 JC(h:XN K X e te f)(hs:XAB K X es tA fs)(hst:starEach (e::es) X.env=(false,eval e X.env)::starEach es X.env:=by rfl):XAB K X (e::es) (cI te tA) (faN f fs):=⟨h.hk,cH h.pe hs.pa hst,fun A1 σ H eF eZ ds Q c re rz q k=>by
 B3⟨d,q1,q2⟩:=aX q
 B3⟨ds',q3,rfl⟩:=lJ q2
 &h.ev σ H eF d _ re q1 fun v H1 s1 n=>?_
 have c1:∀x,A1 x→mR H1 x:=fun x q=>(c x q).same s1
 &hs.ev A1 σ H1 eF eZ ds' _ c1 (re.same s1) (rz.same (bU s1 fun x q=>.inl q)) q3 fun vs H2 s2 rvs=>?_
 &k (v::vs) H2 (s1.trans s2) ?_
 B3⟨N,o,fr⟩:=n
 B4 dF
 &⟨v,vs,rfl,(bU s2 fun x q=>.inl q:aU (out H1 A1) (out H2 A1)).rv _ _ (o.out (fun x z1 z2=>?_) fun x q=>(c1 x q).2),rvs⟩
 B3⟨⟨u,eu⟩,_⟩:=c x z2
 rw[fr x z1]at eu;cases eu⟩
structure dB(P:Program)(w:World)(K:aF)(mg:Str→Option Value)(base:Heap)(C:Addr)(m:Str)(k n:Nat)(df:Bool)(sp:Sp):Prop where
 ex:∃f fd ps,ps.length=n∧yF P w K mg base CQ k f fd ps sp∧Binds K fd ps []∧(df=true→Binds K fd ps [Value.none])∧Meth K C m f
B5 Vd{nm:List Str}{xs:List V}{m:Str}(h:nm.length=xs.length)(n:m∉nm):(nm.zip xs).lookup m=none:=by
 rw[Dp h,Aq.mpr n]
 rfl
def oE(C:Addr)(m:Str)(i:Nat)(π:FP)(F:List D→Option (D×D))(fs:FA2):GM:=fun env=>match env[i]?.bind SD.hold,π (rE env),fs (rE env) (rE (env.set i .no))with
 | some (d0,back),some p,some es=>(match eV p d0 with
  | some (.ins C' nm ds)=>if C'=C∧m∉nm then(F (.ins C' nm ds::es)).map fun rd=>(rd.1,env.set i (back (eO p d0 rd.2)))else none
  | _=>none)
 | _,_,_=>none
B5 ig{C:Addr}{m:Str}{n:Nat}{F:List D→Option (D×D)}{Hs:List V}{um:List D}(hF:∀d es p,F (d::es)=some p→es.length+1=n)(hd:∀H,dF K H um Hs)(ho:EvP K ta i π)(ha:aH8 K tA fs):EvM K (Jx C m (spS K n F) Hs E0 ta tA) (oE C m i π F (fun eF eZ=>(fs eF eZ).map (·++um))):=fun B σ H env d env' Q r q k=>by
 B4 oE at q
 split at q
 ·rename_i d0 back p es' q1 q2 q3
  B3⟨es,q3a,rfl⟩:=lJ q3
  split at q
  ·rename_i C' nm ds q4
   split at q
   ·rename_i hc
    B3⟨rfl,hm⟩:=hc
    B3⟨⟨r1,d1⟩,q5,q6⟩:=lJ q
    cases q6
    B3⟨v0,w0,A1,k1,k2,k3,k4,k5⟩:=aA1 (E:=E0) (Q:=Q) r q1 q4 (hF _ _ _ q5) q5 k
    have c1:=Ow.cells _ _ _ k3
    have k3':=k3
    B4 Ow at k3
    B3⟨a,dx,xs,Bs,rfl,o2,o2',o3,_⟩:=k3
    &ho σ H (rE env) v0 p _ _ r.r k1 q2 k2 fun H1 s1=>⟨a,dx,_,rfl,s1 _ _ o2,Vd o3 hm,?_⟩
    &ha A1 σ H1 (rE env) (rE (env.set i .no)) es _ (fun x q=>(c1 x q).same s1) (r.r.same s1) (k4.same (bU s1 fun x q=>.inl q)) q3a fun vs H2 s2 rvs=>?_
    ~k5 H2 (vs++Hs) (s1.trans s2) (rvs.append (hd _))
   ·cases q
  ·cases q
 ·cases q
B5 rN{C:Addr}{m:Str}{k n:Nat}{df:Bool}{F:List D→Option (D×D)}{uh:List Str}{pl:Sem Bool}(Cm:dB X.prog X.w X.K X.mg X.base C m k n df (spS K n F))(Fc:jC K C uh)(hF:∀d es p,F (d::es)=some p→es.length+1=n)(hr:jK k X.A)(ho:XP K X o ta i π)(ha:XAB K X (e::es) tA fs)
  (hst:starEach (e::es) X.env=(false,eval e X.env)::starEach es X.env:=by rfl) (hpl:(backTo pos (starEach es X.env)).any (·.1)=false:=by rfl)
  (ht:eval (.Call (.Attribute o m apos) (e::es) [] pos) X.env=(do
   let ov ←eval o X.env
   standAt apos.atName
   let (f,first) ←holding [ov] (getMethod ov m pl)
   callWith pos f first (backTo pos (starEach (e::es) X.env)) (backToKw pos (keywordEach [] X.env))):=by rfl):XM K X (.Call (.Attribute o m apos) (e::es) [] pos) (Jx C m (spS K n F) [] E0 ta tA) (oE C m i π F (fun eF eZ=>(fs eF eZ).map (·++[]))):=by
 have hk:=ho.hk
 subst hk
 B3⟨f,fd,ps,_,Fo,hb,_,hm⟩:=Cm.ex
 ~⟨rfl,Xb (pl:=pl) ho.pe Fc.cl hm Fo hr hb .nil Uk ha.pa hst hpl ht,ig hF (fun H=>by B4 dF;rfl) ho.ev ha.ev⟩
B5 Fx{C:Addr}{m:Str}{k n:Nat}{F:List D→Option (D×D)}{uh:List Str}{pl:Sem Bool}(Cm:dB X.prog X.w X.K X.mg X.base C m k n true (spS K n F))(Fc:jC K C uh)(hF:∀d es p,F (d::es)=some p→es.length+1=n)(hr:jK k X.A)(ho:XP K X o ta i π)(ha:XAB K X (e::es) tA fs)
  (hst:starEach (e::es) X.env=(false,eval e X.env)::starEach es X.env:=by rfl) (hpl:(backTo pos (starEach es X.env)).any (·.1)=false:=by rfl)
  (ht:eval (.Call (.Attribute o m apos) (e::es) [] pos) X.env=(do
   let ov ←eval o X.env
   standAt apos.atName
   let (f,first) ←holding [ov] (getMethod ov m pl)
   callWith pos f first (backTo pos (starEach (e::es) X.env)) (backToKw pos (keywordEach [] X.env))):=by rfl):XM K X (.Call (.Attribute o m apos) (e::es) [] pos) (Jx C m (spS K n F) [.non] E0 ta tA) (oE C m i π F (fun eF eZ=>(fs eF eZ).map (·++[.non]))):=by
 have hk:=ho.hk
 subst hk
 B3⟨f,fd,ps,_,Fo,_,hb,hm⟩:=Cm.ex
 ~⟨rfl,Xb (pl:=pl) ho.pe Fc.cl hm Fo hr (hb rfl) (.cons rfl .nil) Uk ha.pa hst hpl ht,ig hF (fun H=>by B4 dF;~⟨_,_,rfl,by B4 Rv;rfl,by B4 dF;rfl⟩) ho.ev ha.ev⟩
def fD(C:Addr)(m:Str)(n:Nat)(F:List D→Option D)(fo:FE)(fs:FA)(um:List D):FE:=fun e=>(fo e).bind fun d0=>match d0 with
 | .ins C' nm ds=>if C'=C∧m∉nm then(fs e).bind fun es=>if es.length+um.length+1=n then F (.ins C' nm ds::(es++um))else none else none
 | _=>none
B5 il{fsA:FA}{C:Addr}{m:Str}{n:Nat}{F:List D→Option D}{Hs:List V}{um:List D}(hd:∀H,dF K H um Hs)(ho:Ka K ta f)(ha:EvA K tA fsA):Nu K (Jx C m (jA K n F) Hs E0 ta tA) (fD C m n F f fsA um):=fun σ H e d Q re q k=>by
 B3⟨d0,q1,q2⟩:=aX q
 split at q2
 ·rename_i C' nm ds
  split at q2
  ·rename_i hc
   B3⟨rfl,hm⟩:=hc
   B3⟨es,q3,q4⟩:=aX q2
   split at q4
   ·rename_i hl
    &ho σ H H e _ _ (Zn.self K H) re q1 fun v H1 Z1 s1 t1 z1 rv=>?_
    have rv1:=z1.sm.rv _ _ rv
    have aJA:=rv1
    B4 Rv at rv1
    B3⟨a,dx,xs,rfl,h1,h2,h3⟩:=rv1
    &⟨a,dx,_,rfl,h1,Vd h2 hm,?_⟩
    &ha σ H1 H1 e es _ (Zn.self K H1) (re.same s1) q3 fun vs H2 Z2 s2 t2 z2 rvs=>?_
    &⟨_::(es++um),d,by rw[D8,C7];omega,?_,q4,fun w H3 s3 nw=>k w H3 (s1.trans (s2.trans s3)) (nw.back (s1.trans s2))⟩
    B4 dF
    ~⟨_,_,rfl,s2.rv _ _ aJA,(z2.sm.bj _ _ rvs).append (hd _)⟩
   ·cases q4
  ·cases q2
 ·cases q2
B5 fK{fsA:FA}{C:Addr}{m:Str}{k n:Nat}{df:Bool}{F:List D→Option D}{uh:List Str}{pl:Sem Bool}(Cm:dB X.prog X.w X.K X.mg X.base C m k n df (jA K n F))(Fc:jC K C uh)(hr:jK k X.A)(ho:XR K X o ta f)(ha:XA K X (e::es) tA fsA)
  (hst:starEach (e::es) X.env=(false,eval e X.env)::starEach es X.env:=by rfl) (hpl:(backTo pos (starEach es X.env)).any (·.1)=false:=by rfl)
  (ht:eval (.Call (.Attribute o m apos) (e::es) [] pos) X.env=(do
   let ov ←eval o X.env
   standAt apos.atName
   let (f,first) ←holding [ov] (getMethod ov m pl)
   callWith pos f first (backTo pos (starEach (e::es) X.env)) (backToKw pos (keywordEach [] X.env))):=by rfl):XN K X (.Call (.Attribute o m apos) (e::es) [] pos) (Jx C m (jA K n F) [] E0 ta tA) (fD C m n F f fsA []):=by
 have hk:=ho.hk
 subst hk
 B3⟨f,fd,ps,_,Fo,hb,_,hm⟩:=Cm.ex
 ~⟨rfl,Xb (pl:=pl) ho.pe Fc.cl hm Fo hr hb .nil Uk ha.pa hst hpl ht,il (fun H=>by B4 dF;rfl) ho.ev ha.ev⟩
B5 vN{C:Addr}{m:Str}{k n:Nat}{df:Bool}{F:List D→Option D}{uh:List Str}{pl:Sem Bool}(Cm:dB X.prog X.w X.K X.mg X.base C m k n df (jA K n F))(Fc:jC K C uh)(hr:jK k X.A)(ho:XR K X o ta f)
  (ht:eval (.Call (.Attribute o m apos) [] [] pos) X.env=(do
   let ov ←eval o X.env
   standAt apos.atName
   let (f,first) ←holding [ov] (getMethod ov m pl)
   callWith pos f first (backTo pos (starEach [] X.env)) (backToKw pos (keywordEach [] X.env))):=by rfl):XN K X (.Call (.Attribute o m apos) [] [] pos) (Jx C m (jA K n F) [] E0 ta lG) (fD C m n F f aO []):=by
 have hk:=ho.hk
 subst hk
 B3⟨f,fd,ps,_,Fo,hb,_,hm⟩:=Cm.ex
 ~⟨rfl,zq (pl:=pl) ho.pe Fc.cl hm Fo hr hb .nil Uk ht,il (fun H=>by B4 dF;rfl) ho.ev aAr⟩
structure uo(P:Program)(w:World)(K:aF)(mg:Str→Option Value)(base:Heap)(x:Str)(C:Addr)(k n:Nat)(sp:Sp):Prop where
 ex:∃f fd ps,ps.length=n∧yF P w K mg base CQ k f fd ps sp∧Binds K fd ps []∧Mk K C f∧mg x=some (.ref C)
def JD(C:Addr)(F:List D→Option (D×D))(fs:FA):FE:=fun e=>(fs e).bind fun es=>match F (.ins C [] []::es)with
 | some (.non,d')=>some d'
 | _=>none
B5 ir{fsA:FA}{x:Str}{C:Addr}{k n:Nat}{F:List D→Option (D×D)}{p:Pos}(Ci:uo X.prog X.w X.K X.mg X.base x C k n (spS K n F))(hF:∀d es p,F (d::es)=some p→es.length+1=n)(hr:jK (k+1) X.A)(hg:Gl X x)(ha:XA K X (e::es) tA fsA)(hdb:(x==("__debug__" : Str))=false:=by decide)
  (he:starEach (e::es) X.env=(false,eval e X.env)::starEach es X.env:=by rfl) (hpl:(backTo pos (starEach es X.env)).any (·.1)=false:=by rfl):XN K X (.Call (.Name x p) (e::es) [] pos) (aEe C (spS K n F) [] E0 tA) (JD C F fsA):=by
 have hk:=ha.hk
 subst hk
 B3⟨f,fd,ps,_,Fo,hb,M,hm⟩:=Ci.ex
 &⟨rfl,aCC M Fo hr hg hm hb .nil Uk ha.pa hdb he hpl,fun σ H e d Q re q k=>?_⟩
 B3⟨es,q1,q2⟩:=aX q
 split at q2
 ·rename_i d' q3
  cases q2
  &ha.ev σ H H e es _ (Zn.self _ H) re q1 fun vs H1 Z1 s1 t1 z1 rvs=>fun x dx nx ndx ne=>?_
  have s0:aU H1 (upd (upd H1 dx (.own x)) x (.ins C dx [])):=fun b o eb=>by
   rw[bN (gR eb nx),bN (gR eb ndx)]
   ~eb
  have so:aU H1 (out (upd (upd H1 dx (.own x)) x (.ins C dx [])) (fun y=>y=x∨y=dx)):=fun b o eb=>bB.mpr ⟨fun z=>z.elim (gR eb nx) (gR eb ndx),s0 b o eb⟩
  &⟨.ins C [] [],es,.ref x,vs++[],(fun y=>y=x∨y=dx),.non,_,rfl,hF _ _ _ q3,?_,?_,q3,fun w H2 A' A2 o1 o2 ap sm=>⟨?_,k (.ref x) H2 (fun b o eb=>?_) ⟨A',o1,fun b hb=>?_⟩⟩⟩
  ·B4 Ow
   &⟨x,dx,[],nil,rfl,cD,by rw[bN ne,cD],rfl,fun z=>z,fun z=>z,fun y=>⟨.inl,fun z=>z.elim id False.elim⟩,?_⟩
   B4 dU
   ~⟨fun _ z=>z,rfl⟩
  ·rw[F2]
   ~(z1.sm.trans so).bj _ _ rvs
  ·have:=Ow.rv _ _ _ o2
   B4 Rv at this
   ~this
  ·~(bB.mp (sm b o ((s1.trans so) b o eb))).2
  ·cases eb:H b with
   | none=>rfl
   | some o=>~absurd (.inl hb) (bB.mp (sm b o ((s1.trans so) b o eb))).1
 ·cases q2
B5 aJB(h:XN K X e te f):XM K X e te (fun env=>(f (rE env)).map fun d=>(d,env)):=⟨h.hk,h.pe,fun B σ H env d env' Q r q k=>by
 B3⟨d0,q1,q2⟩:=lJ q
 cases q2
 ~h.ev σ H (rE env) d Q r.r q1 fun v H' s n=>k v H' (r.snoc s n)⟩
def gbV(g:GM):GB:=fun env=>(g env).bind fun de=>match de.1 with
 | .bl b=>some (b,de.2)
 | _=>none
def gbT(f:FT):GB:=fun env=>(f (rE env)).map fun b=>(b,env)
def aKz(g:GB):GB:=fun env=>(g env).map fun be=>(!be.1,be.2)
def aKA(g h:GB):GB:=fun env=>(g env).bind fun be=>if be.1=true then h be.2 else some (false,be.2)
def aLC(g h:GB):GB:=fun env=>(g env).bind fun be=>if be.1=true then some (true,be.2)else h be.2
def aLD(φ:D→D→Option D)(g:GM)(f:FE):GM:=fun env=>(g env).bind fun de=>(f (rE de.2)).bind fun d2=>(φ de.1 d2).bind fun r=>if r.jF=true then some (r,de.2)else none
def zH(i:Nat)(g:GM):GS:=fun env=>match g env with
 | some (d,env')=>if i<env'.length then .next (env'.set i (.own d))else .bad
 | none=>.bad
B5 Bc{x:Str}{pos':Pos}(h:XM K X e te g)(hp:PE X e te→PS X (.Assign [.Name x pos'] e pos) (wF te (jR i))):YS K X (.Assign [.Name x pos'] e pos) (wF te (jR i)) (zH i g):=⟨hp h.pe,fun B E σ H env r p=>by
 B4 zH at p
 split at p
 ·rename_i d env' q
  split at p
  ·rename_i hi
   ~h.ev B σ H env d env' _ r q fun v H' r'=>p _ _ (r'.move hi)
  ·~p.elim
 ·~p.elim⟩
def zJ(g:GM):GS:=fun env=>match g env with
 | some (_,env')=>.next env'
 | none=>.bad
B5 Ot(h:XM K X e te g)(hs:swapsWith e none pos.line X.env=pure false:=by rfl):YS K X (.Expr e pos) (kE te) (zJ g):=⟨jJ h.pe hs,fun B E σ H env r p=>by
 B4 zJ at p
 split at p
 ·rename_i d env' q
  ~h.ev B σ H env d env' _ r q fun v H' r'=>p _ _ r'.pop
 ·~p.elim⟩
def Fy(g:GM):GS:=fun env=>match g env with
 | some (d,env')=>.rete d env'
 | none=>.bad
B5 Mh(h:XM K X e te g):YS K X (.Return (some e) pos) (yh te) (Fy g):=⟨Wt h.pe,fun B E σ H env r p=>by
 B4 Fy at p
 split at p
 ·rename_i d env' q
  ~h.ev B σ H env d env' _ r q fun v H' r'=>p v σ H' r'
 ·~p.elim⟩
def wQ(i:Nat):GS:=fun env=>match env[i]? with
 | some (.own d)=>.rete d (env.set i .no)
 | some (.fro d)=>if d.jF=true then .rete d env else .bad
 | _=>.bad
B5 Fz(h:PE X e (pH i)):YS K X (.Return (some e) pos) (yh (pH i)) (wQ i):=⟨Wt h,fun B E σ H env r p=>by
 B4 wQ at p
 split at p
 ·rename_i d q
  B3⟨v,hv,r'⟩:=r.give q
  ~⟨v,hv,p v σ H r'⟩
 ·rename_i d q
  split at p
  ·rename_i im
   B3⟨v,hv,rv⟩:=r.r i d (by B4 rE;rw[C4,q];rfl)
   ~⟨v,hv,p v σ H (r.snoc (aU.refl _) (.jF im rv))⟩
  ·~p.elim
 ·~p.elim⟩
def aLE(g:GB)(g1 g2:GS):GS:=fun env=>match g env with
 | some (true,env')=>g1 env'
 | some (false,env')=>g2 env'
 | none=>.bad
end
end L2


namespace L2
open PySem PySem.Spec PySem.Calls PyProof.Rows PyProof.V
def aH9(K:aF)(dN:Bool)(dV:Value):Prop:=match dN with
 | false=>dV=.none
 | true=>∃T o n,dV=.ref T∧K.lookup T=some o∧o.data=.seq #[.none] n
structure JF(K:aF)(f:Addr)(m q:Str)(st:Stmt)(dN:Bool):Prop where
 ex:∃(oc:Value)(od:Option Addr)(dV kV doc pm:Value)(an:Option Addr)(cdv ct:Value)(osl:Array (Option Value)),
  K.lookup f=some ⟨oc,od,.func (G2 m q (eQ st) (cC st) (aL st) dV kV doc pm an cdv ct),osl⟩∧L4 K cdv q=true∧aH9 K dN dV
structure fM(K:aF)(C:Addr)(m q:Str)(st:Stmt)(dN:Bool):Prop where
 ex:∃f,JF K f m q st dN∧Meth K C m f
structure JG(K:aF)(mg:Str→Option Value)(x:Str)(C:Addr)(q:Str)(st:Stmt):Prop where
 ex:∃f,JF K f "__init__" q st false∧Mk K C f∧mg x=some (.ref C)
def HB(x q:Str)(st:Stmt)(ps:List Str):Prop:=∀(kV doc pm:Value)(an:Option Addr)(cdv ct:Value)(us:List Value),us.length=ps.length→bindArgs (G2 x q (eQ st) (cC st) (aL st) .none kV doc pm an cdv ct) ⟨us,[]⟩=pure (ps.zip us)
def HBD(x q:Str)(st:Stmt)(ps:List Str):Prop:=∀(T:Addr)(kV doc pm:Value)(an:Option Addr)(cdv ct:Value)(us:List Value),(us.length=ps.length→∃k,bindArgs (G2 x q (eQ st) (cC st) (aL st) (.ref T) kV doc pm an cdv ct) ⟨us,[]⟩=seqItems? (Value.ref T) >>= k∧k (some #[Value.none])=pure (ps.zip us)) ∧
 (us.length+1=ps.length→∃k,bindArgs (G2 x q (eQ st) (cC st) (aL st) (.ref T) kV doc pm an cdv ct) ⟨us,[]⟩=seqItems? (Value.ref T) >>= k∧k (some #[Value.none])=pure (ps.zip (us++[Value.none])))
def HBs(dN:Bool)(x q:Str)(st:Stmt)(ps:List Str):Prop:=match dN with
 | false=>HB x q st ps
 | true=>HBD x q st ps
section
variable{P:Program}{w:World}{K:aF}{mg:Str→Option Value}{base:Heap}
B5 JF.binds{f:Addr}{m q:Str}{st:Stmt}{dN:Bool}{ps:List Str}{oc:Value}{od:Option Addr}{dV kV doc pm:Value}{an:Option Addr}{cdv ct:Value}(hd:aH9 K dN dV)(h:HBs dN m q st ps) :
  Binds K (G2 m q (eQ st) (cC st) (aL st) dV kV doc pm an cdv ct) ps []∧(dN=true→Binds K (G2 m q (eQ st) (cC st) (aL st) dV kV doc pm an cdv ct) ps [Value.none]):=by
 cases dN with
 | false=>
  cases hd
  ~⟨.all (h kV doc pm an cdv ct),fun z=>by cases z⟩
 | true=>
  B3⟨T,o,n,rfl,h1,h2⟩:=hd
  &⟨fun s us kin hl=>?_,fun _ s us kin hl=>?_⟩
  ·rw[F2]at hl ⊢
   B3⟨k,e1,e2⟩:=(h T kV doc pm an cdv ct us).1 hl
   ~.of_defaults rfl (kin _ _ h1) h2 e1 e2
  ·rw[C7]at hl
   B3⟨k,e1,e2⟩:=(h T kV doc pm an cdv ct us).2 hl
   ~.of_defaults rfl (kin _ _ h1) h2 e1 e2
abbrev uq(n m:Nat)(d:D)(es:List D)(v:V):EN:=.inn v d::(es.map SD.fro++E7 (n-m) SD.no)
def JH(r d':D)(v:V)(o:SR):Prop:=∃env',(o=.rete r env'∨(o=.next env'∧r=.non))∧env'[0]?=some (.inn v d')
open Classical in
noncomputable def nC(n m:Nat)(g:GS):List D→Option (D×D)
 | d::es=>if h:∃p:D×D,es.length+1=m∧∀v,JH p.1 p.2 v (g (uq n m d es v))then some h.choose else none
 | _=>none
B5 aA2{r d' r2 d2:D}{v:V}{o:SR}(h1:JH r d' v o)(h2:JH r2 d2 v o):r=r2∧d'=d2:=by
  B3⟨e1,a1,a2⟩:=h1
  B3⟨e2,b1,b2⟩:=h2
  rcases a1 with a1 | ⟨a1,rfl⟩
  · rcases b1 with b1 | ⟨b1,rfl⟩
    · rw[a1]at b1
      injection b1 with c1 c2
      subst c2
      rw[a2]at b2
      injection b2 with b2
      injection b2 with _ b2
      ~⟨c1,b2⟩
    · rw[a1]at b1;cases b1
  · rcases b1 with b1 | ⟨b1,rfl⟩
    · rw[a1]at b1;cases b1
    · rw[a1]at b1
      injection b1 with c2
      subst c2
      rw[a2]at b2
      injection b2 with b2
      injection b2 with _ b2
      ~⟨rfl,b2⟩
B5 aA3{n m:Nat}{g:GS}{d r d':D}{es:List D}(hl:es.length+1=m)(h:∀v,JH r d' v (g (uq n m d es v))):nC n m g (d::es)=some (r,d'):=by
 have ex:∃p:D×D,es.length+1=m∧∀v,JH p.1 p.2 v (g (uq n m d es v)):=⟨(r,d'),hl,h⟩
 B4 nC
 dsimp only
 rw[dif_pos ex]
 B3⟨e1,e2⟩:=aA2 (ex.choose_spec.2 .non) (h .non)
 ~congrArg some (l6 e1 e2)
B5 JK{n m:Nat}{g:GS}{d r d':D}{es:List D}(h:nC n m g (d::es)=some (r,d'))(v:V):es.length+1=m∧JH r d' v (g (uq n m d es v)):=by
 B4 nC at h
 dsimp only at h
 split at h
 ·rename_i ex
  have:=ex.choose_spec
  rw[F1 h]at this
  ~⟨this.1,this.2 v⟩
 ·cases h
B5 eX{n m:Nat}{g:GS}(d:D)(es:List D)(p:D×D)(h:nC n m g (d::es)=some p):es.length+1=m:=(JK (r:=p.1) (d':=p.2) h .non).1
B5 aIa{X:Cx}{N ps:List Str}{g:GS}{body:List Stmt}{t:TS}{vs:List V}{H:Hp}{Q:VK}{E:XK}(yb:YB K X body t g)(h:spS K ps.length (nC N.length ps.length g) vs H Q E):t {nx:=fun _ H'=>Q .non H',rt:=Q} (start N vs) H:=by
  B3⟨d,es,v,ws,A1,r,d',rfl,hl,ho,hrs,hF,kk⟩:=h
  B3⟨_,env',q1,q2⟩:=JK hF v
  have hw:=hrs.length
  &yb.ev (out H A1) _ _ H (uq N.length ps.length d es v) ?_ ?_
  · have sa:=Oi (K:=K) (H:=H) (k:=N.length-ps.length) hrs
    have e:start N (v::ws)=some v::(ws.map some++E7 (N.length-ps.length) none):=by
      B4 start
      rw[D5,D8,show N.length-(ws.length+1)=N.length-ps.length by omega]
      rfl
    rw[e]
    ~⟨A1,⟨_,_,A1,nil,rfl,fun _ _ z=>z,fun x=>⟨.inl,fun z=>z.elim id False.elim⟩,⟨rfl,ho⟩,sa⟩,aU.refl _⟩
  · rcases q1 with q1 | ⟨q1,rfl⟩
    · rw[q1]
      intro w σ' H' ⟨A2,a2,b2⟩
      B3⟨A3,A4,k1,⟨w',ew,o⟩,k3,k4⟩:=a2.Il
      cases ew
      B3⟨y,A5,C,h1,h2,h3,h4,_⟩:=k1.focus q2
      ~kk w H' A5 A4 h4.2 o (fun x z1 z2=>k3 x ((h3 x).mpr (.inl z1)) z2) (b2.trans (bU (aU.refl _) fun x z=>.inl ((k4 x).mpr (z.elim (fun z=>.inl ((h3 x).mpr (.inl z))) .inr))))
    · rw[q1]
      intro σ' H' ⟨A2,a2,b2⟩
      B3⟨y,A5,C,h1,h2,h3,h4,_⟩:=a2.focus q2
      ~kk .non H' A5 nil h4.2 (by B4 Ow;~⟨fun _ z=>z,rfl⟩) (fun x z1 z2=>z2) (b2.trans (bU (aU.refl _) fun x z=>.inl ((h3 x).mpr (.inl (z.elim id False.elim)))))
B5 aJC{ps:List Str}{F:List D→Option (D×D)}(vs:List V)(H:Hp)(Q:VK)(E:XK)(h:spS K ps.length F vs H Q E):vs.length=ps.length:=by
 B3⟨d,es,v,ws,A,r,d',rfl,hl,_,rs,_⟩:=h
 have:=rs.length
 rw[D8]
 omega
B5 JF.okS{f:Addr}{m q:Str}{st:Stmt}{dN:Bool}{N ps:List Str}{k:Nat}{g:GS}(R:JF K f m q st dN)(S:bA N ps (aL st))(hb:HBs dN m q st ps)
  (hbody:∀(f:Addr)(cdv:Value)(A:Around)(outer:List Env)(s:Shared)(H:Hp)(E:XK),jK k (A.deeper (envOfC q (aL st) s.heap.objs.size f cdv))→∃t,YB K (Fd CQ P w K mg base N q (aL st) f cdv A outer s H E).ZV (cC st) t g) :
  ∃fd,yF P w K mg base CQ (k+1) f fd ps (spS K ps.length (nC N.length ps.length g))∧Binds K fd ps []∧(dN=true→Binds K fd ps [Value.none]):=by
 B3⟨oc,od,dV,kV,doc,pm,an,cdv,ct,osl,lk,hcd,hd⟩:=R.ex
 &⟨_,zy lk hcd S aJC fun A outer s H vs Q E hr hsp=>?_,JF.binds (f:=f) (oc:=oc) (od:=od) hd hb⟩
 B3⟨t,yb⟩:=hbody f cdv A outer s H E hr
 ~⟨t,yb.ps.ZV,aIa yb hsp⟩
B5 fM.Yj{C:Addr}{m q:Str}{st:Stmt}{dN:Bool}{N ps:List Str}{k:Nat}{g:GS}(R:fM K C m q st dN)(S:bA N ps (aL st))(hb:HBs dN m q st ps)
  (hbody:∀(f:Addr)(cdv:Value)(A:Around)(outer:List Env)(s:Shared)(H:Hp)(E:XK),jK k (A.deeper (envOfC q (aL st) s.heap.objs.size f cdv))→∃t,YB K (Fd CQ P w K mg base N q (aL st) f cdv A outer s H E).ZV (cC st) t g):dB P w K mg base C m (k+1) ps.length dN (spS K ps.length (nC N.length ps.length g)):=by
 B3⟨f,Rf,M⟩:=R.ex
 B3⟨fd,F,b1,b2⟩:=Rf.okS (P:=P) (w:=w) (mg:=mg) (base:=base) S hb hbody
 ~⟨f,fd,ps,rfl,F,b1,b2,M⟩
B5 JG.aIb{C:Addr}{x q:Str}{st:Stmt}{N ps:List Str}{k:Nat}{g:GS}(R:JG K mg x C q st)(S:bA N ps (aL st))(hb:HB "__init__" q st ps)
  (hbody:∀(f:Addr)(cdv:Value)(A:Around)(outer:List Env)(s:Shared)(H:Hp)(E:XK),jK k (A.deeper (envOfC q (aL st) s.heap.objs.size f cdv))→∃t,YB K (Fd CQ P w K mg base N q (aL st) f cdv A outer s H E).ZV (cC st) t g):uo P w K mg base x C (k+1) ps.length (spS K ps.length (nC N.length ps.length g)):=by
 B3⟨f,Rf,M,hm⟩:=R.ex
 B3⟨fd,F,b1,b2⟩:=Rf.okS (P:=P) (w:=w) (mg:=mg) (base:=base) S hb hbody
 ~⟨f,fd,ps,rfl,F,b1,M,hm⟩
def mL(n m:Nat)(g:GS):List D→Option D:=fun ds=>if ds.length=m then(match g (ds.map SD.fro++E7 (n-m) SD.no)with
 | .ret d=>some d
 | .next _=>some .non
 | _=>none)else none
B5 aIc{X:Cx}{N ps:List Str}{g:GS}{body:List Stmt}{t:TS}{vs:List V}{H:Hp}{Q:VK}{E:XK}(yb:YB K X body t g)(h:jA K ps.length (mL N.length ps.length g) vs H Q E):t {nx:=fun _ H'=>Q .non H',rt:=Q} (start N vs) H:=by
 B3⟨ds,d,h1,h2,h3,kk⟩:=h
 &yb.ev H _ _ H (ds.map SD.fro++E7 (N.length-ps.length) SD.no) ?_ ?_
 ·have hl:vs.length=ps.length:=by rw[h2.length];~h1
  have:=Ij (k:=N.length-ps.length) h2
  B4 start
  rw[hl]
  ~this
 ·B4 mL at h3
  rw[if_pos h1]at h3
  cases q:g (ds.map SD.fro++E7 (N.length-ps.length) SD.no)with
  | ret d'=>
   rw[q]at h3
   cases h3
   &fun v H' A' s' o=>kk v H' (s'.trans (jL _ _)) ⟨A',o,fun a qa=>?_⟩
   cases e:H a with
   | none=>rfl
   | some u=>~absurd qa (bB.mp (s' a u e)).1
  | next env'=>
   rw[q]at h3
   cases h3
   intro σ' H' ⟨A,a,b⟩
   ~kk .non H' (b.trans (jL _ _)) (.jF rfl (by B4 Rv;rfl))
  | bad=>rw[q]at h3;cases h3
  | brk e=>rw[q]at h3;cases h3
  | cont e=>rw[q]at h3;cases h3
  | rete d e=>rw[q]at h3;cases h3
B5 fM.Ga{C:Addr}{m q:Str}{st:Stmt}{dN:Bool}{N ps:List Str}{k:Nat}{g:GS}(R:fM K C m q st dN)(S:bA N ps (aL st))(hb:HBs dN m q st ps)
  (hbody:∀(f:Addr)(cdv:Value)(A:Around)(outer:List Env)(s:Shared)(H:Hp)(E:XK),jK k (A.deeper (envOfC q (aL st) s.heap.objs.size f cdv))→∃t,YB K (Fd CQ P w K mg base N q (aL st) f cdv A outer s H E).ZV (cC st) t g):dB P w K mg base C m (k+1) ps.length dN (jA K ps.length (mL N.length ps.length g)):=by
 B3⟨f,Rf,M⟩:=R.ex
 B3⟨oc,od,dV,kV,doc,pm,an,cdv,ct,osl,lk,hcd,hd⟩:=Rf.ex
 B3⟨b1,b2⟩:=JF.binds (f:=f) (oc:=oc) (od:=od) (kV:=kV) (doc:=doc) (pm:=pm) (an:=an) (cdv:=cdv) (ct:=ct) hd hb
 &⟨f,_,ps,rfl,zy lk hcd S (fun vs H Q E h=>?_) fun A outer s H vs Q E hr hsp=>?_,b1,b2,M⟩
 ·B3⟨ds,d,h1,h2,_⟩:=h
  rw[h2.length];~h1
 B3⟨t,yb⟩:=hbody f cdv A outer s H E hr
 ~⟨t,yb.ps.ZV,aIc yb hsp⟩
B5 iu{f:Addr}{m q:Str}{st:Stmt}{oc:Value}{od an:Option Addr}{osl:Array (Option Value)}{kV doc pm cdv ct:Value}(l:K.lookup f=some ⟨oc,od,.func (G2 m q (eQ st) (cC st) (aL st) .none kV doc pm an cdv ct),osl⟩)(c:L4 K cdv q=true):JF K f m q st false:=⟨⟨oc,od,.none,kV,doc,pm,an,cdv,ct,osl,l,c,rfl⟩⟩
B5 aDs{C f:Addr}{m q:Str}{st:Stmt}{oc:Value}{od an:Option Addr}{osl:Array (Option Value)}{kV doc pm cdv ct:Value}(a:F8 K (.ref C) m=some (some (.ref f)))(i:P9 K (.ref f)=true)(l:K.lookup f=some ⟨oc,od,.func (G2 m q (eQ st) (cC st) (aL st) .none kV doc pm an cdv ct),osl⟩)(c:L4 K cdv q=true)(k:K8 K (.ref f)=true):fM K C m q st false:=⟨⟨f,iu l c,⟨a,i,k⟩⟩⟩
B5 aA4{C f T:Addr}{m q:Str}{st:Stmt}{oc oc2:Value}{od an od2:Option Addr}{osl aJD:Array (Option Value)}{kV doc pm cdv ct:Value}{n:Nat}(a:F8 K (.ref C) m=some (some (.ref f)))(i:P9 K (.ref f)=true)(l:K.lookup f=some ⟨oc,od,.func (G2 m q (eQ st) (cC st) (aL st) (.ref T) kV doc pm an cdv ct),osl⟩)(c:L4 K cdv q=true)(k:K8 K (.ref f)=true)(t:K.lookup T=some ⟨oc2,od2,.seq #[.none] n,aJD⟩):fM K C m q st true:=⟨⟨f,⟨⟨oc,od,.ref T,kV,doc,pm,an,cdv,ct,osl,l,c,T,_,n,rfl,t,rfl⟩⟩,⟨a,i,k⟩⟩⟩
B5 aDt{h:Heap}{x q:Str}{C f:Addr}{st:Stmt}{oc:Value}{od an:Option Addr}{osl:Array (Option Value)}{kV doc pm cdv ct:Value}(X:K.In h)(G:h.Ns mainGlobals mg)(aC:S6 K mainGlobals x=some (some (.ref C)))(a:F8 K (.ref C) "__init__" = some (some (.ref f))) (i:P9 K (.ref f)=true) (l:K.lookup f=some ⟨oc,od,.func (G2 "__init__" q (eQ st) (cC st) (aL st) .none kV doc pm an cdv ct),osl⟩) (c:L4 K cdv q=true) (mk:V1 K C=true) (kc:K8 K (.ref C)=true):JG K mg x C q st:=⟨⟨f,iu l c,⟨mk,a,i,kc⟩,f9 X G aC⟩⟩
end
section
variable{K:aF}{X:Cx}{st:Stmt}{g g1 g2 gb:GS}{e a b c o:Expr}{es rest:List Expr}{te ta tb tc t0 tv:TE}{f f0 fa fb fc:FE}{tA:TA}{fs:FA}{pos apos:Pos}{i j:Nat}{π:FP}{tbs:TS}
def ur(φ φ':D→D→Option D)(f g h:FE):FT:=fun e=>(f e).bind fun a=>(g e).bind fun b=>(φ a b).bind fun r=>match r with
  | .bl true=>(h e).bind fun c=>(φ' b c).bind fun r2=>match r2 with | .bl k=>some k | _=>none
  | .bl false=>some false
  | _=>none
B5 Ou{op op':CmpOp}{r r':R2}{φ φ':D→D→Option D}(ho:uM X (compareOp op) r)(ho':uM X (compareOp op') r')(hd:RB K r φ)(hd':RB K r' φ')(ha:XR K X a ta fa)(hb:XR K X b tb fb)(hc:XR K X c tc fc)(hm:lastMarks [op,op'] [b,c]=false:=by with_unfolding_all rfl):XT K X (.Compare a [op,op'] [b,c] pos) (DW (yz r r' ta tb tc)) (ur φ φ' fa fb fc):=⟨ha.hk,zb ho ho' ha.pe hb.pe hc.pe hm,fun σ H e k Q re q kk=>by
 B3⟨d1,q1,q⟩:=aX q
 B3⟨d2,q2,q⟩:=aX q
 B3⟨d3,q3,q⟩:=aX q
 &ha.ev σ H H e d1 _ (Zn.self K H) re q1 fun x H1 Z1 s1 t1 z1 rx=>hb.ev σ H1 H1 e d2 _ (Zn.self K H1) (re.same s1) q2 fun y H2 Z2 s2 t2 z2 ry=>?_
 &hd x y H2 d1 d2 d3 _ (s2.rv _ _ (z1.sm.rv _ _ rx)) (z2.sm.rv _ _ ry) q3 fun z H3 s3 n=>?_
 have rz:=n.rv
 split at q
 ·B3⟨d4,q4,q⟩:=aX q
  B3⟨d5,q5,q⟩:=aX q
  B4 Rv at rz
  &⟨true,rz,?_⟩
  rw[if_pos rfl]
  &hc.ev σ H3 H3 e d4 _ (Zn.self K H3) (re.same (s1.trans (s2.trans s3))) q4 fun w H4 Z4 s4 t4 z4 Ru=>?_
  &hd' y w H4 d2 d4 d5 _ ((s3.trans s4).rv _ _ (z2.sm.rv _ _ ry)) (z4.sm.rv _ _ Ru) q5 fun v H5 s5 n5=>?_
  have r5:=n5.rv
  split at q
  ·cases q
   B4 Rv at r5
   ~⟨_,r5,kk H5 (s1.trans (s2.trans (s3.trans (s4.trans s5))))⟩
  ·cases q
 ·cases q
  B4 Rv at rz
  &⟨false,rz,?_⟩
  rw[if_neg A8]
  ~⟨_,rfl,kk H3 (s1.trans (s2.trans s3))⟩
 ·cases q⟩
open Classical in
noncomputable def yJ(j i:Nat)(g:GS)(v:V)(all:List D):List D→EN→SR
 | [],env=>if env[j]?=some (.inn v (.lst all))then .next env else .bad
 | x::xs,env=>if i<env.length∧env[j]?=some (.inn v (.lst all))then(match g (env.set i (.fro x))with
  | .next e=>yJ j i g v all xs e
  | .cont e=>yJ j i g v all xs e
  | _=>.bad)else .bad
open Classical in
noncomputable def Cw(j i:Nat)(g:GS):GS:=fun env=>match env[j]? with
 | some (.own (.lst xs))=>if h:(intsOf xs).isSome=true∧∃env':EN,env'[j]?=some (.own (.lst xs))∧∀v,yJ j i g v xs xs (env.set j (.inn v (.lst xs)))=.next (env'.set j (.inn v (.lst xs)))then .next h.2.choose else .bad
 | _=>.bad
B5 aDu{α:Type}{l m:List α}{j:Nat}{s:α}(h1:l.set j s=m.set j s)(h2:l[j]?=m[j]?):l=m:=by
 apply K5
 intro k
 by_cases c:j=k
 ·subst c;~h2
 ·have:=congrArg (fun x=>x[k]?) h1
  simp only[G4,if_neg c]at this
  ~this
B5 aA5{env env':EN}{ns:List Int}(h:env[j]?=some (.own (.lst (ns.map D.int))))(h1:env'[j]?=some (.own (.lst (ns.map D.int))))(h2:∀v,yJ j i g v (ns.map D.int) (ns.map D.int) (env.set j (.inn v (.lst (ns.map D.int))))=.next (env'.set j (.inn v (.lst (ns.map D.int))))):Cw j i g env=.next env':=by
 have ex:(intsOf (ns.map D.int)).isSome=true∧∃env':EN,env'[j]?=some (.own (.lst (ns.map D.int)))∧∀v,yJ j i g v (ns.map D.int) (ns.map D.int) (env.set j (.inn v (.lst (ns.map D.int))))=.next (env'.set j (.inn v (.lst (ns.map D.int)))):=⟨by rw[jV];rfl,env',h1,h2⟩
 B4 Cw
 rw[h]
 dsimp only
 rw[dif_pos ex]
 have c:=ex.2.choose_spec
 have e:=(c.2 .non).symm.trans (h2 .non)
 injection e with e
 rw[aDu e (c.1.trans h1.symm)]
B5 uv{xs:List D}{ns:List Int}(h:intsOf xs=some ns):xs=ns.map D.int:=by
 induction xs generalizing ns with
 | nil=>B4 intsOf at h;cases h;rfl
 | cons x xs ih=>
  B4 intsOf at h
  cases x with
  | int i=>
   B3⟨ms,h1,h2⟩:=lJ h
   subst h2
   rw[D5,ih h1]
  | _=>cases h
B5 aDv(hb:DS K tbs g):DS K (Wy (aF5 K (pH j)) (jR i) tbs) (Cw j i g):=fun B E σ H env r p=>by
 B4 Cw at p
 split at p
 ·rename_i xs q
  split at p
  ·rename_i ex
   B3⟨ns,hns⟩:=S5.mp ex.1
   have exx:=uv hns
   B3⟨c1,c2⟩:=ex.2.choose_spec
   generalize ex.2.choose=env' at *
   subst exx
   have hj:j<env'.length:=(D4.mp c1).1
   B3⟨v,hσ,rv⟩:=r.r j _ (by B4 rE;rw[C4,q];rfl)
   have c2:=c2 v
   have r1:=r.aAV q hσ
   have lst:∀{cZ:EN} {σ2:St} {H2:Hp},Rel K B cZ σ2 H2→cZ[j]?=some (.inn v (.lst (ns.map D.int)))→∃a,v=.ref a∧pQ K H2 a (ns.map V.int):=by
    rintro cZ σ2 H2 ⟨A,aa,bb⟩ e2
    B3⟨y,A1,C,h1,h2,h3,h4,_⟩:=aa.focus e2
    have:=Ow.rv _ _ _ h4.2
    B4 Rv at this
    B3⟨a,ys,e,sq,l⟩:=this
    rw[jM.mp l]at sq
    ~⟨a,e,sq⟩
   B3⟨a,rfl,sq0⟩:=lst r1 (J3 (D4.mp q).1)
   &.inl ⟨.ref a,hσ,a,rfl,⟨_,sq0⟩,?_⟩
   &Ln GC (fun k σ2 H2=>∃cZ,Rel K B cZ σ2 H2∧cZ[j]?=some (.inn (.ref a) (.lst (ns.map D.int)))∧yJ j i g (.ref a) (ns.map D.int) ((ns.map D.int).drop k) cZ=.next (env'.set j (.inn (.ref a) (.lst (ns.map D.int))))) ⟨_,r1,J3 (D4.mp q).1,by rw[r0];~c2⟩ (fun k σ2 H2 _ ⟨cZ,r2,e2,_⟩=>by
    B3⟨a',e,sq⟩:=lst r2 e2
    cases e
    ~sq) ?_ ?_
   ·rintro k x σ2 H2 hx ⟨cZ,r2,e2,f2⟩
    have hk:k<ns.length:=by
     have:=(D4.mp hx).1
     rwa [B7]at this
    rw[O0 (by rw[B7];~hk)]at f2
    rw[C4,B6 hk]at hx
    cases hx
    rw[List.getElem_map]at f2
    B4 yJ at f2
    split at f2
    ·rename_i hlen
     have r3:Rel K B (cZ.set i (.fro (.int ns[k]))) (σ2.set i (some (.int ns[k]))) H2:=by
      B3⟨A2,a2,b2⟩:=r2
      ~Mf a2 b2 hlen.1 (aU.refl _) (aU.refl _) (Ii a2) (by B4 Rv;rfl)
     &hb B _ _ H2 _ r3 ?_
     have fin:∀{o:SR},o=g (cZ.set i (.fro (.int ns[k])))→(match o with | .next e=>yJ j i g (.ref a) (ns.map D.int) ((ns.map D.int).drop (k+1)) e | .cont e=>yJ j i g (.ref a) (ns.map D.int) ((ns.map D.int).drop (k+1)) e | _=>.bad)=.next (env'.set j (.inn (.ref a) (.lst (ns.map D.int))))→Lb K B {E with nx:=fun σ3 H3=>∃cZ,Rel K B cZ σ3 H3∧cZ[j]?=some (.inn (.ref a) (.lst (ns.map D.int)))∧yJ j i g (.ref a) (ns.map D.int) ((ns.map D.int).drop (k+1)) cZ=.next (env'.set j (.inn (.ref a) (.lst (ns.map D.int)))),ct:=fun σ3 H3=>∃cZ,Rel K B cZ σ3 H3∧cZ[j]?=some (.inn (.ref a) (.lst (ns.map D.int)))∧yJ j i g (.ref a) (ns.map D.int) ((ns.map D.int).drop (k+1)) cZ=.next (env'.set j (.inn (.ref a) (.lst (ns.map D.int)))),bk:=E.nx} o:=by
      intro o _ ho
      have there:∀{e3:EN} {xs:List D},yJ j i g (.ref a) (ns.map D.int) xs e3=.next (env'.set j (.inn (.ref a) (.lst (ns.map D.int))))→e3[j]?=some (.inn (.ref a) (.lst (ns.map D.int))):=by
       intro e3 xs h3
       cases xs with
       | nil=>
        B4 yJ at h3
        split at h3
        ·rename_i z;~z
        ·cases h3
       | cons y ys=>
        B4 yJ at h3
        split at h3
        ·rename_i z;~z.2
        ·cases h3
      cases o with
      | next e3=>~fun σ3 H3 r4=>⟨e3,r4,there ho,ho⟩
      | cont e3=>~fun σ3 H3 r4=>⟨e3,r4,there ho,ho⟩
      | ret d=>cases ho
      | brk d=>cases ho
      | bad=>cases ho
      | rete d e=>cases ho
     ~fin rfl f2
    ·cases f2
   ·rintro σ2 H2 ⟨cZ,r2,e2,f2⟩
    rw[B7]at f2
    rw[show ns.length=(ns.map D.int).length by rw[B7],U5]at f2
    B4 yJ at f2
    rw[if_pos e2]at f2
    injection f2 with f2
    rw[f2]at r2
    B3⟨r3,_⟩:=r2.aAU (J3 hj)
    rw[Y3,set_same c1]at r3
    ~p σ2 H2 r3
  ·~p.elim
 ·~p.elim
B5 Yk{tg:Expr}{body:List Stmt}(hp:PassesOwn (model X.prog X.w) X.A X.env X.xe)(VF:X.calm=true)(hv:PE X e (pH j))(hg:PG X tg (jR i))(hb:YB K X body tbs g)(hs:∀x,foldedSetIterable e X.env x=pure x:=by intro _;rfl)(hk:X.K=K:=by rfl):YS K X (.For tg e body [] pos) (Wy (aF5 K (pH j)) (jR i) tbs) (Cw j i g):=by
 subst hk
 &⟨Wz hp VF (fun pins s σ H R I h=>?_) hg hb.ps hs,aDv hb.ev⟩
 rcases h with h | h
 ·~ZW hv pins s σ H R I h
 ·~yq hv pins s σ H R I h
end
end L2


namespace L2
open PySem PySem.Spec PySem.Calls PyProof.Rows PyProof.V
B5 JL{H:Hp}{p:Addr}{kvs:List (List Key×V)}(h:H p=some (.dT kvs)):xT H p:=⟨fun ys e=>(by rw[h]at e;cases e),fun o ys e=>(by rw[h]at e;cases e)⟩
section
variable{K:aF}{B H:Hp}{env:EN}{σ:St}
B5 Rel.aJE{i:Nat}{p:List Step}{d0:D}{ks:List (List Key)}{ds:List D}(h:Rel K B env σ H)(e:env[i]?=some (.own d0))(q:eV p d0=some (.dt ks ds)):∃v0 a xs Bs,σ[i]?=some (some v0)∧Ld H p v0=some (.ref a)∧H a=some (.dT (ks.zip xs))∧ks.length=xs.length∧¬Bs a∧dU K H ds Bs xs ∧
    ∀H2 ks' ds' xs' Bn,aU H H2→ks'.length=xs'.length→dU K H2 ds' Bn xs'→(∀b,Bn b→Bs b∨H b=none)→Rel K B (env.set i (.own (eO p d0 (.dt ks' ds')))) σ (upd H2 a (.dT (ks'.zip xs'))):=by
  B3⟨v0,w,A1,C,h1,h2,h3,h4,h5,h6⟩:=h.at e q
  B4 Ow at h3
  B3⟨a,xs,Bs,rfl,o2,o2',o3,o4,o5⟩:=h3
  &⟨v0,a,xs,Bs,h1,h2,o2,o2',o3,o5,fun H2 ks' ds' xs' Bn s hl o hb=>?_⟩
  have nBa:¬Bn a:=fun z=>(hb a z).elim o3 fun z=>by rw[o2]at z;cases z
  have hC:∀x,C x→¬x=a:=fun x z y=>h4 x ((o4 x).mpr (.inl y)) z
  have Ss:H2 a=some (.dT (ks.zip xs)):=s a _ o2
  &h6 _ (.dt ks' ds') (fH (·=a) Bn) (fun x z1 z2=>?_) (fun x z=>?_) (s.tk.trans (uP (JL Ss))) ?_ (fun x u ex=>?_)
  · rcases z1 with z1 | z1
    · ~hC x z2 z1
    · rcases hb x z1 with z | z
      · ~h4 x ((o4 x).mpr (.inr z)) z2
      · B3⟨⟨u,eu⟩,_⟩:=h5 x z2
        rw[z]at eu;cases eu
  · B3⟨⟨u,eu⟩,_⟩:=h5 x z
    rw[bN (hC x z),eu,s x u eu]
  · B4 Ow
    &⟨a,xs',Bn,rfl,cD,hl,nBa,fun _=>Iff.rfl,dU.frame (uP (JL Ss)) _ _ _ o fun x zx=>bN fun y=>nBa (y▸zx)⟩
  · B3⟨e1,e2⟩:=bB.mp ex
    have na:x≠a:=fun y=>e1 (.inl ((o4 x).mpr (.inl y)))
    &bB.mpr ⟨fun z=>?_,by rw[bN na];~s x u e2⟩
    rcases z with (z | z) | z
    · ~na z
    · rcases hb x z with z | z
      · ~e1 (.inl ((o4 x).mpr (.inr z)))
      · rw[z]at e2;cases e2
    · ~e1 (.inr z)
end
def JM:List D→Option (List Key)
 | []=>some []
 | d::ds=>(Sq d).bind fun k=>(JM ds).map fun r=>k::r
B5 JN{K:aF}{H:Hp}:∀{ds:List D} {ks:List Key} {vs:List V},JM ds=some ks→dF K H ds vs→vs=ks.map kV
 | [],ks,vs,h,r=>by
  B4 JM at h
  cases h
  B4 dF at r
  ~r
 | d::ds,ks,vs,h,r=>by
  B4 JM at h
  B3⟨k,h1,h2⟩:=aX h
  B3⟨ks',h3,rfl⟩:=lJ h2
  B4 dF at r
  B3⟨y,ys,rfl,r1,r2⟩:=r
  rw[Lx h1 r1,JN h3 r2]
  rfl
abbrev FK:=DE→Option (List Key)
def EvK(K:aF)(t:TE)(fk:FK):Prop:=∀(σ:St)(H:Hp)(e:DE)(k:List Key)(Q:VK),yL K H e σ→fk e=some k→(∀b H',aU H H'→H' b=some (.tup (k.map kV))→Q (.ref b) H')→t σ H Q
structure XKt(K:aF)(X:Cx)(e:Expr)(t:TE)(fk:FK):Prop where
 hk:X.K=K
 pe:PE X e t
 ev:EvK K t fk
section
variable{K:aF}{X:Cx}{st:Stmt}{e a b c o:Expr}{es rest:List Expr}{te ta tb tc t0 tv:TE}{f fa fb:FE}{g:FK}{gd:FE}{tA:TA}{fs:FA}{pos apos:Pos}{i j:Nat}{π:FP}{tbs:TS}
def Im(fs:FA):FK:=fun e=>(fs e).bind fun ds=>if ds.length≤100 then JM ds else none
B5 Ov{x1:Nat}(h:XA K X es tA fs):XKt K X (.Tuple es x1 pos) (DX tA) (Im fs):=⟨h.hk,RX h.pa,fun σ H e k Q re q kk=>by
 B3⟨ds,q1,q2⟩:=aX q
 split at q2
 ·rename_i hl
  &h.ev σ H H e ds _ (Zn.self K H) re q1 fun vs H1 Z1 s1 t1 z1 rvs=>⟨Uo (by rw[rvs.length];omega),fun p hp=>kk p _ (s1.trans (cP hp _)) ?_⟩
  rw[cD,JN q2 rvs]
 ·cases q2⟩
def Su(neg:Bool)(fk:FK)(f:FE):FE:=fun e=>(fk e).bind fun k=>(f e).bind fun d=>match d with
 | .dt ks _=>some (.bl (if neg then !(posK ks k).isSome else(posK ks k).isSome))
 | _=>none
B5 WL{ks:List (List Key)}{xs:List V}{k:List Key}(h:ks.length=xs.length):(wH (ks.zip xs) k).isSome=(posK ks k).isSome:=by
 rw[sS h]
 cases q:posK ks k with
 | none=>rfl
 | some j=>
  B3⟨h1,h2⟩:=rJ q
  rw[B9,B6 A6]
  rfl
B5 aGp{neg:Bool}{d:D}{σ:St}{H:Hp}{e:DE}{Q:VK}(ha:EvK K ta g)(hb:Ka K tb f)(re:yL K H e σ)(q:Su neg g f e=some d)(k:∀v H',aU H H'→Nr K H H' d v→Q v H') :
  ta σ H fun y H1=>tb σ H1 fun x H2=>∃a o,x=.ref a∧Ky H2 a y o∧Q (.bl (if neg then !o.isSome else o.isSome)) H2:=by
 B3⟨kk,q1,q⟩:=aX q
 B3⟨d1,q2,q⟩:=aX q
 split at q
 ·rename_i ks ds
  cases q
  &ha σ H e kk _ re q1 fun bb H1 s1 hb1=>hb σ H1 H1 e _ _ (Zn.self K H1) (re.same s1) q2 fun x H2 Z2 s2 t2 z2 rx=>?_
  have rx:=z2.sm.rv _ _ rx
  B4 Rv at rx
  B3⟨p,xs,r1,r2,r3,r4⟩:=rx
  &⟨p,wH (ks.zip xs) kk,r1,.inr ⟨_,kk,bb,r2,rfl,s2 _ _ hb1,rfl⟩,?_⟩
  rw[WL r3]
  ~k _ H2 (s1.trans s2) (.jF rfl (by B4 Rv;rfl))
 ·cases q
B5 aDw(hu:X.A.units+1<cLine)(ha:XKt K X a ta g)(hb:XR K X b tb f)(h1:behindInMarks .In b=false:=by first | ~nobehind _ A8 A8 | rfl):XN K X (.Compare a [.In] [b] pos) (aCO ta tb) (Su false g f):=
 ⟨ha.hk,RG (SQ hu ha.pe hb.pe) h1,fun σ H e d Q re q k=>aGp (neg:=false) ha.ev hb.ev re q k⟩
B5 iw(hu:X.A.units+1<cLine)(ha:XKt K X a ta g)(hb:XR K X b tb f)(h1:behindInMarks .In b=false:=by first | ~nobehind _ A8 A8 | rfl):XT K X (.Compare a [.In] [b] pos) (tB (aCO ta tb)) (fB (Su false g f)):=aEp (aDw hu ha hb h1) (SQ hu ha.pe hb.pe) h1
def Ox(f:FE)(fk:FK):FE:=fun e=>(f e).bind fun d=>(fk e).bind fun k=>match d with
 | .dt ks ds=>(posK ks k).bind fun j=>(ds[j]?).bind fun r=>if r.jF=true then some r else none
 | _=>none
B5 JP(hu:X.A.units+1<cLine)(ha:XR K X a ta f)(hb:XKt K X b tb g)(hs:aFE b):XN K X (.Subscript a b pos) (aEj ta tb) (Ox f g):=
 ⟨ha.hk,aCP hu ha.pe hb.pe hs,fun σ H e d Q re q k=>by
  B3⟨d1,q1,q⟩:=aX q
  B3⟨kk,q2,q⟩:=aX q
  split at q
  ·rename_i ks ds
   B3⟨j,q3,q⟩:=aX q
   B3⟨r,q4,q⟩:=aX q
   split at q
   ·rename_i im
    cases q
    &ha.ev σ H H e _ _ (Zn.self K H) re q1 fun x H1 Z1 s1 t1 z1 rx=>hb.ev σ H1 e kk _ (re.same s1) q2 fun bb H2 s2 hb2=>?_
    have rx:=s2.rv _ _ (z1.sm.rv _ _ rx)
    B4 Rv at rx
    B3⟨p,xs,r1,r2,r3,r4⟩:=rx
    B3⟨v,e1,e2⟩:=r4.get q4
    &⟨p,v,r1,.inr ⟨_,kk,bb,r2,rfl,hb2,?_⟩,k v H2 (s1.trans s2) (.jF im e2)⟩
    rw[sS r3,q3,B9,e1]
   ·cases q
  ·cases q⟩
B5 aA6(hk:X.K=K:=by rfl):XN K X (.Dict [] [] pos) aAf (fC (.dt [] [])):=⟨hk,aAh,fun σ H e d Q re q k=>by
 cases q
 intro p hp
 &k _ _ (cP hp _) ⟨(·=p),?_,fun a q=>by cases q;~hp⟩
 B4 Ow
 ~⟨p,[],nil,rfl,cD,rfl,fun z=>z,fun x=>⟨.inl,fun z=>z.elim id False.elim⟩,by B4 dU;~⟨fun _ z=>z,rfl⟩⟩⟩
def Ve(i:Nat)(π:FP)(g:FK)(f:FE):GS:=fun env=>match env[i]?,π (rE env),g (rE env),f (rE env)with
 | some (.own d0),some p,some k,some d=>(match eV p d0 with
  | some (.dt ks ds)=>if d.jF=true∧ks.length<100000 then .next (env.set i (.own (eO p d0 (.dt (lE ks k) (putD ks ds k d)))))else .bad
  | _=>.bad)
 | _,_,_,_=>.bad
B5 JQ{H:Hp}{d:D}{v:V}(o:Ow K H d nil v)(k:List Key):∀{ks:List (List Key)} {ds:List D} {A:Fp} {xs:List V},ks.length=xs.length→dU K H ds A xs→∃A',(∀x,A' x→A x)∧dU K H (R1 (fun k' d'=>if k'=k then d else d') ks ds) A' (R1 (fun k' d'=>if k'=k then v else d') ks xs)
 | [],ds,A,xs,hl,h=>by
  cases xs with
  | nil=>~⟨nil,fun _ z=>z.elim,by rw[R3,R3];B4 dU;~⟨fun _ z=>z,rfl⟩⟩
  | cons x xs=>simp at hl
 | k0::ks,[],A,xs,hl,h=>by B4 dU at h;rw[h.2]at hl;simp at hl
 | k0::ks,d0::ds,A,xs,hl,h=>by
  B4 dU at h
  B3⟨y,yt,A1,A2,rfl,h2,h3,h4,h5⟩:=h
  B3⟨A',a1,a2⟩:=JQ o k (by simpa using hl) h5
  by_cases c:k0=k
  ·&⟨A',fun x q=>(h3 x).mpr (.inr (a1 x q)),?_⟩
   rw[J4,J4,if_pos c,if_pos c]
   B4 dU
   ~⟨v,_,nil,A',rfl,fun _ z=>z.elim,fun x=>⟨.inr,fun z=>z.elim False.elim id⟩,o,a2⟩
  ·&⟨fH A1 A',fun x q=>(h3 x).mpr (q.imp id (a1 x)),?_⟩
   rw[J4,J4,if_neg c,if_neg c]
   B4 dU
   ~⟨y,_,A1,A',rfl,fun x z1 z2=>h2 x z1 (a1 x z2),fun _=>Iff.rfl,h4,a2⟩
B5 aDx(h:EvP K ta i π)(hx:EvK K tb g)(he:Ka K te f):qy K (Ff ta tb te) (Ve i π g f):=fun B E σ H env r p=>by
 B4 Ve at p
 split at p
 ·rename_i d0 pp k d q1 q2 q3 q3'
  split at p
  ·rename_i ks ds q4
   split at p
   ·rename_i hc
    B3⟨v0,a,xs,Bs,k1,k2,k3,k3',k4,k5,k6⟩:=r.aJE q1 q4
    &he σ H H (rE env) d _ (Zn.self K H) r.r q3' fun y H1 Z1 s1 t1 z1 ry=>?_
    &h σ H1 (rE env) v0 pp _ _ (r.r.same s1) k1 q2 (zA s1 k2) fun H2 s2=>hx σ H2 (rE env) _ _ (r.r.same (s1.trans s2)) q3 fun bb H3 s3 hb3=>?_
    have Xy:=s1.trans (s2.trans s3)
    have o:Ow K H3 d nil y:=yW d y hc.1 ((z1.sm.trans (s2.trans s3)).rv _ _ ry)
    &⟨a,_,rfl,.inr ⟨ks.zip xs,k,bb,Xy _ _ k3,rfl,hb3,Ny (by rw[a9];omega),rfl⟩,p _ ?_⟩
    rw[GR k3']
    have ow3:=k5.same Xy
    by_cases c:(posK ks k).isSome=true
    ·B3⟨A',a1,a2⟩:=JQ o k k3' ow3
     &k6 H3 (lE ks k) (putD ks ds k d) (putD ks xs k y) A' Xy (vK k3') ?_ fun b z=>.inl (a1 b z)
     B4 putD
     rw[if_pos c,if_pos c]
     ~a2
    ·&k6 H3 (lE ks k) (putD ks ds k d) (putD ks xs k y) (fH Bs nil) Xy (vK k3') ?_ fun b z=>z.elim .inl False.elim
     B4 putD
     rw[if_neg c,if_neg c]
     ~cO.mpr ((cO.mp ow3).snoc o fun _ _ z=>z)
   ·~p.elim
  ·~p.elim
 ·~p.elim
def aJG(K:aF)(t:TA)(fs:FA)(i:Nat):Prop:=∀(σ:St)(H:Hp)(e:DE)(ds:List D)(v:V)(Q:List V→Hp→Prop),yL K H e σ→fs e=some ds→σ[i]?=some (some v)→(∀vs H',aU H H'→Sh K H H' ds vs→Q (vs++[v]) H')→t σ H Q
structure XBm(K:aF)(X:Cx)(es:List Expr)(t:TA)(fs:FA)(i:Nat):Prop where
 hk:X.K=K
 pa:PA X es t
 ev:aJG K t fs i
end
end L2


namespace L2
open PySem PySem.Spec PySem.Calls PyProof.Rows PyProof.V
section
variable{K:aF}{X:Cx}{st:Stmt}{e a b c o:Expr}{es rest:List Expr}{te ta tb tc t0 tv:TE}{f fa fb g:FE}{gk:FK}{gd:FE}{tA:TA}{fs:FA}{pos apos:Pos}{i j:Nat}{π:FP}{tbs:TS}{gm:GM}
def gmN(f:FE):GM:=fun env=>(f (rE env)).map fun d=>(d,env)
B5 aDy(h:XN K X e te f):XM K X e te (gmN f):=aJB h
B5 Bd(h:XR K X e te f)(hs:swapsWith e none pos.line X.env=pure false:=by rfl):YS K X (.Expr e pos) (kE te) (xV f):=⟨jJ h.pe hs,aDf h.ev⟩
B5 nJ{C:Addr}{uh:List Str}{x:Str}{pos':Pos}(F:jC K C uh)(hx:x∈uh)(h:XP K X a ta i π)(he:XN K X e te f)(hs:swapsWith e (some (.Attribute a x pos')) pos.line X.env=pure false:=by rfl):YS K X (.Assign [.Attribute a x pos'] e pos) (aFt K ta te x) (iW i (vM C i π x f)):=⟨by have:=h.hk;subst this;~aFu h.pe he.pe hs,(aAY (aGn F hx h.ev he.ev)).ds⟩
B5 Mi{m:Str}{apos cpos:Pos}(h:XP K X a ta i π)(he:XN K X e te f)(hp:PE X a ta→PE X e te→PS X (.Expr (.Call (.Attribute a m apos) [e] [] cpos) pos) (kE (Hw K "list" nH ta (cI te lG)))):YS K X (.Expr (.Call (.Attribute a m apos) [e] [] cpos) pos) (kE (Hw K "list" nH ta (cI te lG))) (iW i (zB i π f)):=Dt i (hp h.pe he.pe) (aAK h.ev he.ev)
B5 JR{pos':Pos}(h:XP K X a ta i π)(hx:XR K X b tb g)(he:XN K X e te f)(hp:PE X a ta→PE X b tb→PE X e te→PS X (.Assign [.Subscript a b pos'] e pos) (wF te (kh ta tb Ug))):YS K X (.Assign [.Subscript a b pos'] e pos) (wF te (kh ta tb Ug)) (iW i (vL i π g f)):=Dt i (hp h.pe hx.pe he.pe) (dq h.ev hx.ev he.ev)
B5 Gb{pos':Pos}(h:XP K X a ta i π)(hx:XR K X b tb g)(he:XR K X e te f)(hp:PE X a ta→PE X b tb→PE X e te→PS X (.Assign [.Subscript a b pos'] e pos) (Ff ta tb te)):YS K X (.Assign [.Subscript a b pos'] e pos) (Ff ta tb te) (iW i (pG i π g f)):=Dt i (hp h.pe hx.pe he.pe) (dw h.ev hx.ev he.ev)
B5 aA7{pos':Pos}(h:XP K X a ta i π)(hx:XKt K X b tb gk)(he:XR K X e te f)(hp:PE X a ta→PE X b tb→PE X e te→PS X (.Assign [.Subscript a b pos'] e pos) (Ff ta tb te)):YS K X (.Assign [.Subscript a b pos'] e pos) (Ff ta tb te) (iW i (Ve i π gk f)):=Dt i (hp h.pe hx.pe he.pe) (aDx h.ev hx.ev he.ev)
end
end L2
namespace L2
open PySem PySem.Spec PySem.Calls PyProof.Rows PyProof.V
def D.JS:D→Bool
 | .non=>true
 | _=>false
B5 JT{K:aF}{H:Hp}{d:D}{v:V}(r:Rv K H d v):decide (v=.non)=d.JS:=by
 cases d with
 | non=>B4 Rv at r;subst r;rfl
 | bl b=>B4 Rv at r;subst r;rfl
 | int b=>B4 Rv at r;subst r;rfl
 | str b=>B4 Rv at r;subst r;rfl
 | lst ds=>B4 Rv at r;B3⟨a,xs,rfl,_⟩:=r;rfl
 | tup ds=>B4 Rv at r;B3⟨a,xs,rfl,_⟩:=r;rfl
 | dk ks ds=>B4 Rv at r;B3⟨a,xs,rfl,_⟩:=r;rfl
 | dt ks ds=>B4 Rv at r;B3⟨a,xs,rfl,_⟩:=r;rfl
 | ins C nm ds=>B4 Rv at r;B3⟨a,dx,xs,rfl,_⟩:=r;rfl
def Io(neg:Bool)(a b:D):Option D:=match b with
 | .non=>some (.bl (if neg then !a.JS else a.JS))
 | _=>none
B5 WM{K:aF}:RB K (fun x y H Q=>y=.non∧Q (.bl (decide (x=.non))) H) (Io false):=fun x y H a b d Q ra rb q k=>by
 B4 Io at q
 split at q
 ·cases q
  B4 Rv at rb
  &⟨rb,?_⟩
  rw[JT ra]
  ~k _ H (aU.refl _) (.jF rfl (by B4 Rv;rfl))
 ·cases q
B5 Vf{K:aF}:RB K (fun x y H Q=>y=.non∧Q (.bl (!decide (x=.non))) H) (Io true):=fun x y H a b d Q ra rb q k=>by
 B4 Io at q
 split at q
 ·cases q
  B4 Rv at rb
  &⟨rb,?_⟩
  rw[JT ra]
  ~k _ H (aU.refl _) (.jF rfl (by B4 Rv;rfl))
 ·cases q
end L2


namespace L2
open PySem PySem.Spec PySem.Calls PyProof.Rows PyProof.V
section
variable{K:aF}{X:Cx}{e stx:Expr}{te ts:TE}{f g:FE}{pos p2:Pos}
end
end L2


namespace L2
open PySem PySem.Spec PySem.Calls PyProof.Rows PyProof.V
abbrev FE2:=DE→DE→Option D
def EvZ(K:aF)(t:TE)(f:FE2):Prop:=∀{N:Fp}(σ:St)(H Z:Hp)(eF eZ:DE)(d:D)(Q:VK),Zn K N Z H→yL K H eF σ→yL K Z eZ σ→f eF eZ=some d →
 (∀v H' Z',aU H H'→aU Z Z'→Zn K N Z' H'→Rv K Z' d v→Q v H')→t σ H Q
def aJH(K:aF)(t:TA)(f:FA2):Prop:=∀{N:Fp}(σ:St)(H Z:Hp)(eF eZ:DE)(ds:List D)(Q:List V→Hp→Prop),Zn K N Z H→yL K H eF σ→yL K Z eZ σ→f eF eZ=some ds →
 (∀vs H' Z',aU H H'→aU Z Z'→Zn K N Z' H'→dF K Z' ds vs→Q vs H')→t σ H Q
structure XZ(K:aF)(X:Cx)(e:Expr)(t:TE)(f:FE2):Prop where
 hk:X.K=K
 pe:PE X e t
 ev:EvZ K t f
structure XZA(K:aF)(X:Cx)(es:List Expr)(t:TA)(f:FA2):Prop where
 hk:X.K=K
 pa:PA X es t
 ev:aJH K t f
section
variable{K:aF}{X:Cx}{e a b:Expr}{es:List Expr}{te ta tb:TE}{f:FE}{g h:FE2}{tA:TA}{fs:FA2}{pos:Pos}{i:Nat}
def faZ(g:FE2)(fs:FA2):FA2:=fun eF eZ=>(g eF eZ).bind fun d=>(fs eF eZ).map fun r=>d::r
def aKC(fs:FA2):FE2:=fun eF eZ=>(fs eF eZ).bind fun ds=>cap ds.length (.lst ds)
def aIf(a b:D):Option D:=match a,b with
 | .lst x,.lst y=>if x.length+y.length≤100000 then some (.lst (x++y))else none
 | _,_=>none
def aKD(g h:FE2):FE2:=fun eF eZ=>(g eF eZ).bind fun a=>(h eF eZ).bind fun b=>aIf a b
def aJI(js:List Nat)(i:Nat)(g:FE2):GS:=fun env=>match g (rE (yM js env)) (zE (yM js env))with
 | some d=>if i<(yM js env).length then .next ((yM js env).set i (.fro d))else .bad
 | none=>.bad
end
end L2


namespace L2
open PySem PySem.Spec PySem.Calls PyProof.Rows PyProof.V
inductive Ar where
  | ch (i:Nat) | rd (f:FE) | nw (f:FE)
def chA:List Ar→List Nat
 | []=>[]
 | .ch i::as=>i::chA as
 | .rd _::as=>chA as
 | .nw _::as=>chA as
def qC:List Ar→List Bool
 | []=>[]
 | .ch _::as=>true::qC as
 | .rd _::as=>false::qC as
 | .nw _::as=>false::qC as
def rdA:List Ar→DE→DE→Option (List D)
 | [],_,_=>some []
 | .ch _::as,eF,eZ=>rdA as eF eZ
 | .rd f::as,eF,eZ=>(f eZ).bind fun d=>(rdA as eF eZ).map fun r=>d::r
 | .nw f::as,eF,eZ=>(f eF).bind fun d=>(rdA as eF eZ).map fun r=>d::r
def uT:List Bool→List D→List D→List D
 | true::m,c::cs,rs=>c::uT m cs rs
 | false::m,cs,r::rs=>r::uT m cs rs
 | _,_,_=>[]
def uw:List Bool→List V→List V
 | true::m,v::vs=>v::uw m vs
 | false::m,_::vs=>uw m vs
 | _,_=>[]
def aA8:List Bool→List D→List V→EN
 | true::m,d::ds,v::vs=>.inn v d::aA8 m ds vs
 | false::m,d::ds,_::vs=>.fro d::aA8 m ds vs
 | _,_,_=>[]
def JV(K:aF)(Z:Hp)(σ:St):List Ar→List D→List V→Prop
 | [],ds,vs=>ds=[]∧vs=[]
 | .ch i::as,ds,vs=>∃v r,vs=v::r∧σ[i]?=some (some v)∧JV K Z σ as ds r
 | .rd _::as,ds,vs=>∃d dr v r,ds=d::dr∧vs=v::r∧Rv K Z d v∧JV K Z σ as dr r
 | .nw _::as,ds,vs=>∃d dr v r,ds=d::dr∧vs=v::r∧Rv K Z d v∧JV K Z σ as dr r
def VsA(σ:St):List Nat→List V→Prop
 | [],vs=>vs=[]
 | j::js,vs=>∃v r,vs=v::r∧σ[j]?=some (some v)∧VsA σ js r
def takes:List Nat→EN→Option (List D×EN)
 | [],env=>some ([],env)
 | j::js,env=>(env[j]?.bind SD.hold).bind fun db=>(takes js (env.set j .no)).map fun de=>(db.1::de.1,de.2)
def Sv:List Nat→List D→EN→EN
 | j::js,d::ds,env=>(match env[j]?.bind SD.hold with
  | some db=>(Sv js ds (env.set j .no)).set j (db.2 d)
  | none=>env)
 | _,_,env=>env
section
variable{K:aF}{X:Cx}{e:Expr}{es:List Expr}{te:TE}{f:FE}{tA:TA}{as:List Ar}{pos:Pos}{i:Nat}
def aJJ(K:aF)(t:TA)(as:List Ar):Prop:=∀(A1:Fp)(σ:St)(H:Hp)(eF eZ:DE)(ds:List D)(cv:List V)(Q:List V→Hp→Prop),(∀x,A1 x→mR H x)→yL K H eF σ→yL K (out H A1) eZ σ→VsA σ (chA as) cv→rdA as eF eZ=some ds →
 (∀vs H',aU H H'→JV K (out H' A1) σ as ds vs→Q vs H')→t σ H Q
structure XAC(K:aF)(X:Cx)(es:List Expr)(t:TA)(as:List Ar):Prop where
 hk:X.K=K
 pa:PA X es t
 ev:aJJ K t as
B5 aDA(hk:X.K=K:=by rfl):XAC K X [] lG []:=⟨hk,gU,fun A1 σ H eF eZ ds cv Q c re rz va q k=>by
 cases q
 ~k [] H (aU.refl _) ⟨rfl,rfl⟩⟩
B5 aA9{y:Str}{py:Pos}(hv:PE X (.Name y py) (pH i))(hs:XAC K X es tA as)(hst:starEach (.Name y py::es) X.env=(false,eval (.Name y py) X.env)::starEach es X.env:=by rfl):XAC K X (.Name y py::es) (cI (pH i) tA) (.ch i::as):=⟨hs.hk,cH hv hs.pa hst,fun A1 σ H eF eZ ds cv Q c re rz va q k=>by
 B3⟨v,r,rfl,h1,h2⟩:=va
 ~⟨v,h1,hs.ev A1 σ H eF eZ ds r _ c re rz h2 q fun vs H' s a=>k (v::vs) H' s ⟨v,vs,rfl,h1,a⟩⟩⟩
B5 aIg(h:XR K X e te f)(hs:XAC K X es tA as)(hst:starEach (e::es) X.env=(false,eval e X.env)::starEach es X.env:=by rfl):XAC K X (e::es) (cI te tA) (.rd f::as):=⟨h.hk,cH h.pe hs.pa hst,fun A1 σ H eF eZ ds cv Q c re rz va q k=>by
 B3⟨d,q1,q2⟩:=aX q
 B3⟨ds',q3,rfl⟩:=lJ q2
 &h.ev σ H (out H A1) eZ d _ (aA0 c) rz q1 fun v H1 Z1 s1 t1 z1 rv=>?_
 &hs.ev A1 σ H1 eF eZ ds' cv _ (fun x q=>(c x q).same s1) (re.same s1) (rz.same (bU s1 fun x q=>.inl q)) va q3 fun vs H2 s2 rvs=>?_
 ~k (v::vs) H2 (s1.trans s2) ⟨d,ds',v,vs,rfl,rfl,((aED z1).trans (bU s2 fun x q=>.inl q)).rv _ _ rv,rvs⟩⟩
end
section
variable{K:aF}{H H' Z Z' B:Hp}{σ:St}
B5 iy:∀(js:List Nat)(ds:List D)(env:EN)(p:List D×EN)(j:Nat),takes js env=some p→env[j]?=some .no→(Sv js ds env)[j]?=some .no
 | [],ds,env,p,j,_,h=>by B4 Sv;~h
 | i::js,[],env,p,j,_,h=>by B4 Sv;~h
 | i::js,d::ds,env,p,j,q,h=>by
  B4 takes at q
  B3⟨db,q1,q2⟩:=aX q
  B3⟨de,q3,_⟩:=lJ q2
  have ne:i≠j:=fun z=>by
   subst z
   rw[h]at q1
   cases q1
  B4 Sv
  rw[q1]
  dsimp only
  rw[G4,if_neg ne]
  ~iy js ds _ _ j q3 (by rw[G4,if_neg ne];~h)
B5 eN.fp{α β:Type}{R:α→Fp→β→Prop}{ds:List α}{A A':Fp}{ys:List β}(h:eN R ds A ys)(e:Is A A'):eN R ds A' ys:=by
 have:A=A':=funext fun x=>propext (e x)
 rw[←this]
 ~h
B5 JW:∀(js:List Nat)(env:EN)(A:Fp)(ds:List D)(e0:EN),eN (fP K H Z) env A σ→takes js env=some (ds,e0)→∃A0 A1 vs,Apart A0 A1∧Is A (fH A0 A1)∧eN (fP K H Z) e0 A0 σ∧dU K H ds A1 vs∧VsA σ js vs ∧
    ∀(H' Z':Hp)(ds':List D)(A0' QZ:Fp),eN (fP K H' Z') e0 A0' σ→dU K H' ds' QZ vs→Apart A0' QZ→eN (fP K H' Z') (Sv js ds' env) (fH A0' QZ) σ
  | [],env,A,ds,e0,h,q=>by
    cases q
    &⟨A,nil,[],fun _ _ z=>z,fun x=>⟨.inl,fun z=>z.elim id False.elim⟩,h,by B4 dU;~⟨fun _ z=>z,rfl⟩,rfl,fun H' Z' ds' A0' QZ s o ap=>?_⟩
    cases ds' with
    | nil=>
      B4 dU at o
      B4 Sv
      ~s.fp fun x=>⟨.inl,fun z=>z.elim id fun z=>absurd z (o.1 x)⟩
    | cons d dr=>
      B4 dU at o
      B3⟨y,yt,_,_,z,_⟩:=o
      cases z
  | j::js,env,A,ds,e0,h,q=>by
    B4 takes at q
    B3⟨db,q1,q2⟩:=aX q
    B3⟨⟨dr,e1⟩,q3,q4⟩:=lJ q2
    cases q4
    B3⟨s,e,hs⟩:=aX q1
    B3⟨y,A1,C,h1,h2,h3,h4,k⟩:=h.focus e
    have key:∃v,y=some v∧Ow K H db.1 A1 v∧∀(H' Z':Hp)(d':D)(A':Fp),Ow K H' d' A' v→fP K H' Z' (db.2 d') A' (some v):=by
      cases s with
      | no=>cases hs
      | fro d=>cases hs
      | own d=>cases hs;B3⟨v,rfl,o⟩:=h4;~⟨v,rfl,o,fun H' Z' d' A' o'=>⟨v,rfl,o'⟩⟩
      | inn v d=>cases hs;B3⟨rfl,o⟩:=h4;~⟨v,rfl,o,fun H' Z' d' A' o'=>⟨rfl,o'⟩⟩
    B3⟨v,rfl,o,bk⟩:=key
    have s0:=k _ (fun _ _ _ _ q=>q) .no (some v) nil (fun _ z=>z.elim) (fun _ z=>z)
    rw[set_same h1]at s0
    B3⟨A0,A1r,vs,k1,k2,k3,k4,k5,k6⟩:=JW js (env.set j .no) _ dr e1 s0 q3
    have hC:∀x,C x↔A0 x∨A1r x:=fun x=>⟨fun z=>(k2 x).mp (.inr z),fun z=>((k2 x).mpr z).elim False.elim id⟩
    &⟨A0,fH A1 A1r,v::vs,fun x z1 z2=>z2.elim (fun z=>h2 x z ((hC x).mpr (.inl z1))) (k1 x z1),fun x=>?_,k3,?_,⟨v,vs,rfl,h1,k5⟩,fun H' Z' ds' A0' QZ s' o' ap=>?_⟩
    · rw[h3 x]
      constructor
      · rintro(z | z)
        · ~.inr (.inl z)
        · ~((hC x).mp z).elim .inl fun z=>.inr (.inr z)
      · rintro(z | z | z)
        · ~.inr ((hC x).mpr (.inl z))
        · ~.inl z
        · ~.inr ((hC x).mpr (.inr z))
    · B4 dU
      ~⟨v,vs,A1,A1r,rfl,fun x z1 z2=>h2 x z1 ((hC x).mpr (.inr z2)),fun x=>Iff.rfl,o,k4⟩
    · cases ds' with
      | nil=>
        B4 dU at o'
        cases o'.2
      | cons d' dr'=>
        B4 dU at o'
        B3⟨y',yt,Aj,Ar',z1,a1,a2,o1,o2⟩:=o'
        cases z1
        have s1:=k6 H' Z' dr' A0' Ar' s' o2 fun x w1 w2=>ap x w1 ((a2 x).mpr (.inr w2))
        have n1:=iy js dr' (env.set j .no) _ j q3 (J3 (D4.mp e).1)
        B3⟨y2,Bx,C2,f1,f2,f3,f4,f5⟩:=s1.focus n1
        have f4:∀x,¬Bx x:=f4
        have hC2:∀x,C2 x↔A0' x∨Ar' x:=fun x=>⟨fun z=>(f3 x).mpr (.inr z),fun z=>((f3 x).mp z).elim (fun w=>absurd w (f4 x)) id⟩
        have s2:=f5 _ (fun _ _ _ _ q=>q) (db.2 d') (some v) Aj (fun x w1 w2=>((hC2 x).mp w2).elim (fun w=>ap x w ((a2 x).mpr (.inl w1))) (a1 x w1)) (bk H' Z' d' Aj o1)
        rw[set_same h1]at s2
        B4 Sv
        rw[q1]
        dsimp only
        &s2.fp fun x=>?_
        constructor
        · rintro(z | z)
          · ~.inr ((a2 x).mpr (.inl z))
          · ~((hC2 x).mp z).elim .inl fun z=>.inr ((a2 x).mpr (.inr z))
        · rintro(z | z)
          · ~.inr ((hC2 x).mpr (.inl z))
          · ~((a2 x).mp z).elim .inl fun z=>.inr ((hC2 x).mpr (.inr z))
B5 Be:∀(as:List Ar)(Mj JX:List D)(A:Fp)(iz vs:List V),dU K H Mj A iz→VsA σ (chA as) iz→JV K Z σ as JX vs→eN (fP K H Z) (aA8 (qC as) (uT (qC as) Mj JX) vs) A (vs.map some)∧uw (qC as) vs=iz∧(uT (qC as) Mj JX).length=(qC as).length∧vs.length=(qC as).length
 | [],Mj,JX,A,iz,vs,o,va,ar=>by
  B3⟨rfl,rfl⟩:=ar
  have va:iz=[]:=va
  subst va
  cases Mj with
  | nil=>B4 dU at o;~⟨⟨o.1,rfl⟩,rfl,rfl,rfl⟩
  | cons d dr=>B4 dU at o;B3⟨_,_,_,_,z,_⟩:=o;cases z
 | .ch i::as,Mj,JX,A,iz,vs,o,va,ar=>by
  B3⟨v,r,rfl,h1,h2⟩:=va
  B3⟨v',r',rfl,g1,g2⟩:=ar
  rw[h1]at g1
  cases g1
  cases Mj with
  | nil=>B4 dU at o;cases o.2
  | cons d dr=>
   B4 dU at o
   B3⟨y,yt,A1,A2,z,a1,a2,o1,o2⟩:=o
   cases z
   B3⟨m1,m2,m3,m4⟩:=Be as dr JX A2 r r' o2 h2 g2
   ~⟨⟨some v,r'.map some,A1,A2,rfl,a1,a2,⟨rfl,o1⟩,m1⟩,congrArg (v::·) m2,congrArg (·+1) m3,congrArg (·+1) m4⟩
 | .rd f::as,Mj,JX,A,iz,vs,o,va,ar=>by
  B3⟨d,dr,v,r,rfl,rfl,g1,g2⟩:=ar
  B3⟨m1,m2,m3,m4⟩:=Be as Mj dr A iz r o va g2
  have e:uT (qC (.rd f::as)) Mj (d::dr)=d::uT (qC as) Mj dr:=by
   cases Mj<;>rfl
  rw[e]
  ~⟨⟨some v,r.map some,nil,A,rfl,fun _ z=>z.elim,fun x=>⟨.inr,fun z=>z.elim False.elim id⟩,⟨fun _ z=>z,v,rfl,g1⟩,m1⟩,m2,congrArg (·+1) m3,congrArg (·+1) m4⟩
 | .nw f::as,Mj,JX,A,iz,vs,o,va,ar=>by
  B3⟨d,dr,v,r,rfl,rfl,g1,g2⟩:=ar
  B3⟨m1,m2,m3,m4⟩:=Be as Mj dr A iz r o va g2
  have e:uT (qC (.nw f::as)) Mj (d::dr)=d::uT (qC as) Mj dr:=by
   cases Mj<;>rfl
  rw[e]
  ~⟨⟨some v,r.map some,nil,A,rfl,fun _ z=>z.elim,fun x=>⟨.inr,fun z=>z.elim False.elim id⟩,⟨fun _ z=>z,v,rfl,g1⟩,m1⟩,m2,congrArg (·+1) m3,congrArg (·+1) m4⟩
B5 aIh{A A0 A1:Fp}{e0:EN}(h:eN (fP K H (out H A)) e0 A0 σ)(h0:Apart A0 A1)(hA:∀x,A1 x→A x)(c:∀x,A1 x→mR H x):yL K (out H A1) (rE e0) σ:=fun j d q=>by
 B4 rE at q
 rw[C4]at q
 cases ej:e0[j]? with
 | none=>rw[ej]at q;cases q
 | some sd=>
  rw[ej]at q
  B3⟨y,Ak,Ck,f1,f2,f3,f4,_⟩:=h.focus ej
  have apk:Apart Ak A1:=fun x z1 z2=>h0 x ((f3 x).mpr (.inl z1)) z2
  cases sd with
  | no=>cases q
  | fro d1=>
   cases q
   B3⟨_,v1,rfl,f5⟩:=f4
   ~⟨v1,f1,(bU (aU.refl _) fun x q=>.inl (hA x q):aU (out H A) (out H A1)).rv _ _ f5⟩
  | own d1=>
   cases q
   B3⟨v1,rfl,f5⟩:=f4
   ~⟨v1,f1,f5.out apk fun x q=>(c x q).2⟩
  | inn v1 d1=>
   cases q
   B3⟨rfl,f5⟩:=f4
   ~⟨v1,f1,f5.out apk fun x q=>(c x q).2⟩
end
def spG(K:aF)(mask:List Bool)(F:List D→Option (D×List D)):Sp:=fun vs H Q _=>∃A ds r ds',ds.length=mask.length∧vs.length=mask.length∧eN (fP K H (out H A)) (aA8 mask ds vs) A (vs.map some)∧F ds=some (r,ds')∧∀w H' A' A2,dU K H' ds' A' (uw mask vs)→Ow K H' r A2 w→Apart A' A2→aU (out H A) (out H' (fH A' A2))→Q w H'
def JZ(as:List Ar)(F:List D→Option (D×List D)):GM:=fun env=>(takes (chA as) env).bind fun ce=>(rdA as (rE env) (rE ce.2)).bind fun JX=>(F (uT (qC as) ce.1 JX)).map fun rd=>(rd.1,Sv (chA as) rd.2 env)
section
variable{K:aF}{X:Cx}{e:Expr}{es:List Expr}{tA:TA}{as:List Ar}{pos pf:Pos}
B5 aDB{x:Str}{k n:Nat}{mask:List Bool}{F:List D→Option (D×List D)}(C:sJ X.prog X.w X.K X.mg X.base x k n (spG K mask F))(hm:qC as=mask)(hr:jK k X.A)(hg:Gl X x)(ha:XAC K X (e::es) tA as)(hdb:(x==("__debug__" : Str))=false:=by decide)
  (he:starEach (e::es) X.env=(false,eval e X.env)::starEach es X.env:=by rfl) (hpl:(backTo pos (starEach es X.env)).any (·.1)=false:=by rfl):XM K X (.Call (.Name x pf) (e::es) [] pos) (Ua (spG K mask F) [] E0 tA) (JZ as F):=⟨ha.hk,aAo C hr hg ha.pa hdb he hpl,fun B σ H env d env' Q r q k=>by
 subst hm
 B3⟨⟨Mj,e0⟩,q1,q⟩:=aX q
 B3⟨JX,q2,q⟩:=aX q
 B3⟨⟨r1,ds'⟩,q3,q4⟩:=lJ q
 cases q4
 have rr:=r.r
 B3⟨A,a,b⟩:=r
 B3⟨A0,A1,iz,t1,t2,t3,t4,t5,t6⟩:=JW _ _ _ _ _ a q1
 have cl:=jN a
 have c1:∀x,A1 x→mR H x:=fun x z=>cl x ((t2 x).mpr (.inr z))
 have c0:∀x,A0 x→mR H x:=fun x z=>cl x ((t2 x).mpr (.inl z))
 &ha.ev A1 σ H (rE env) (rE e0) JX iz _ c1 rr (aIh t3 t1 (fun x z=>(t2 x).mpr (.inr z)) c1) t5 q2 fun vs H2 s2 ar=>?_
 show spG K (qC as) F (vs++[]) H2 Q E0
 rw[F2]
 have o2:dU K H2 Mj A1 iz:=cO.mpr ((cO.mp t4).mono fun _ _ _ _ z=>z.same s2)
 B3⟨m1,m2,m3,m4⟩:=Be as Mj JX A1 iz vs o2 t5 ar
 &⟨A1,_,r1,ds',m3,m4,m1,q3,fun w H3 A' A2 p1 p2 ap sm=>k w H3 ?_⟩
 rw[m2]at p1
 have hC:∀y,A0 y→¬A' y∧¬A2 y∧H3 y=H y:=fun y hy=>by
  B3⟨⟨u,eu⟩,_⟩:=c0 y hy
  B3⟨n1,n2⟩:=bB.mp (sm y u (bB.mpr ⟨fun z=>t1 y hy z,s2 y u eu⟩))
  ~⟨fun z=>n1 (.inl z),fun z=>n1 (.inr z),n2.trans eu.symm⟩
 have tk:Dh K H H3:=(Nq fun x q=>(c1 x q).2).trans ((bU s2 fun x q=>.inl q:aU (out H A1) (out H2 A1)).trans (sm.trans (jL _ _))).tk
 have g:aU (out H A) (out H3 (fH (fH A0 A') A2)):=fun y u ey=>by
  B3⟨e1,e2⟩:=bB.mp ey
  B3⟨n1,n2⟩:=bB.mp (sm y u (bB.mpr ⟨fun z=>e1 ((t2 y).mpr (.inr z)),s2 y u e2⟩))
  &bB.mpr ⟨fun z=>?_,n2⟩
  rcases z with (z | z) | z
  ·~e1 ((t2 y).mpr (.inl z))
  ·~n1 (.inl z)
  ·~n1 (.inr z)
 have f0:eN (fP K H3 (out H3 (fH (fH A0 A') A2))) e0 A0 σ:=t3.mono fun s D z hb qq=>by
  cases s with
  | no=>~qq
  | fro d=>B3⟨q1,v,q2,q3⟩:=qq;~⟨q1,v,q2,g.rv _ _ q3⟩
  | inn v d=>~⟨qq.1,Ow.frame tk _ _ _ qq.2 fun x zx=>(hC x (hb x zx)).2.2⟩
  | own d=>B3⟨v,q1,q2⟩:=qq;~⟨v,q1,Ow.frame tk _ _ _ q2 fun x zx=>(hC x (hb x zx)).2.2⟩
 have s3:=t6 H3 _ ds' A0 A' f0 p1 fun y z1 z2=>(hC y z1).1 z2
 ~⟨_,eN.snoc s3 ⟨w,rfl,p2⟩ fun y z1 z2=>z1.elim (fun z=>(hC y z).2.1 z2) fun z=>ap y z z2,b.trans g⟩⟩
end
def Vg:List Bool→List V→EN→List D→Prop
 | true::m,v::vs,s::e,ds=>∃d r,s=.inn v d∧ds=d::r∧Vg m vs e r
 | false::m,_::vs,_::e,ds=>Vg m vs e ds
 | [],_,_,ds=>ds=[]
 | _,_,_,_=>False
def Sw(mask:List Bool)(r:D)(ds':List D)(vs:List V)(o:SR):Prop:=∃env',(o=.rete r env'∨(o=.next env'∧r=.non))∧Vg mask vs env' ds'
B5 Bf:∀{m:List Bool} {vs:List V} {e:EN} {a b:List D},Vg m vs e a→Vg m vs e b→a=b
 | true::m,v::vs,s::e,a,b,⟨d,r,h1,h2,h3⟩,⟨d',r',g1,g2,g3⟩=>by
  rw[h1]at g1
  injection g1 with _ g1
  rw[h2,g2,Bf h3 g3,g1]
 | false::m,v::vs,s::e,a,b,h,g=>Bf (m:=m) (vs:=vs) (e:=e) h g
 | [],vs,e,a,b,h,g=>by
  have h:a=[]:=h
  have g:b=[]:=g
  rw[h,g]
 | true::m,[],e,a,b,h,g=>h.elim
 | false::m,[],e,a,b,h,g=>h.elim
 | true::m,v::vs,[],a,b,h,g=>h.elim
 | false::m,v::vs,[],a,b,h,g=>h.elim
B5 aBa{mask:List Bool}{r r2:D}{a b:List D}{vs:List V}{o:SR}(h1:Sw mask r a vs o)(h2:Sw mask r2 b vs o):r=r2∧a=b:=by
  B3⟨e1,a1,a2⟩:=h1
  B3⟨e2,b1,b2⟩:=h2
  rcases a1 with a1 | ⟨a1,rfl⟩
  · rcases b1 with b1 | ⟨b1,rfl⟩
    · rw[a1]at b1
      injection b1 with c1 c2
      subst c2
      ~⟨c1,Bf a2 b2⟩
    · rw[a1]at b1;cases b1
  · rcases b1 with b1 | ⟨b1,rfl⟩
    · rw[a1]at b1;cases b1
    · rw[a1]at b1
      injection b1 with c2
      subst c2
      ~⟨rfl,Bf a2 b2⟩
abbrev KC(n:Nat)(mask:List Bool)(ds:List D)(vs:List V):EN:=aA8 mask ds vs++E7 (n-mask.length) SD.no
open Classical in
noncomputable def Oz(n:Nat)(mask:List Bool)(g:GS):List D→Option (D×List D):=fun ds=>if h:∃p:D×List D,ds.length=mask.length∧∀vs:List V,vs.length=mask.length→Sw mask p.1 p.2 vs (g (KC n mask ds vs))then some h.choose else none
B5 Gd{n:Nat}{mask:List Bool}{g:GS}{ds ds':List D}{r:D}(hl:ds.length=mask.length)(h:∀vs:List V,vs.length=mask.length→Sw mask r ds' vs (g (KC n mask ds vs))):Oz n mask g ds=some (r,ds'):=by
 have ex:∃p:D×List D,ds.length=mask.length∧∀vs:List V,vs.length=mask.length→Sw mask p.1 p.2 vs (g (KC n mask ds vs)):=⟨(r,ds'),hl,h⟩
 B4 Oz
 rw[dif_pos ex]
 have hz:(E7 mask.length V.non).length=mask.length:=R0
 B3⟨e1,e2⟩:=aBa (ex.choose_spec.2 _ hz) (h _ hz)
 ~congrArg some (l6 e1 e2)
B5 aBb{n:Nat}{mask:List Bool}{g:GS}{ds ds':List D}{r:D}(h:Oz n mask g ds=some (r,ds'))(vs:List V)(hv:vs.length=mask.length):Sw mask r ds' vs (g (KC n mask ds vs)):=by
 B4 Oz at h
 split at h
 ·rename_i ex
  have:=ex.choose_spec
  rw[F1 h]at this
  ~this.2 vs hv
 ·cases h
section
variable{P:Program}{w:World}{K:aF}{mg:Str→Option Value}{base:Heap}
B5 Ml{H Z:Hp}:∀(m:List Bool)(vs:List V)(env:EN)(ds:List D)(A:Fp)(σ:St),eN (fP K H Z) env A σ→Vg m vs env ds→vs.length=m.length→∃A',(∀x,A' x→A x)∧dU K H ds A' (uw m vs)
 | true::m,v::vs,s::e,ds,A,σ,h,⟨d,r,h1,h2,h3⟩,hl=>by
  B3⟨y,yt,A1,A2,k1,k2,k3,k4,k5⟩:=h
  subst h1 h2
  B3⟨A',g1,g2⟩:=Ml m vs e r A2 yt k5 h3 (u5 hl)
  &⟨fH A1 A',fun x z=>(k3 x).mpr (z.elim .inl fun z=>.inr (g1 x z)),?_⟩
  B4 dU
  ~⟨v,uw m vs,A1,A',rfl,fun x z1 z2=>k2 x z1 (g1 x z2),fun x=>Iff.rfl,k4.2,g2⟩
 | false::m,v::vs,s::e,ds,A,σ,h,h3,hl=>by
  B3⟨y,yt,A1,A2,k1,k2,k3,k4,k5⟩:=h
  B3⟨A',g1,g2⟩:=Ml m vs e ds A2 yt k5 h3 (u5 hl)
  ~⟨A',fun x z=>(k3 x).mpr (.inr (g1 x z)),g2⟩
 | [],vs,e,ds,A,σ,h,g,hl=>by
  have g:ds=[]:=g
  subst g
  &⟨nil,fun _ z=>z.elim,?_⟩
  B4 dU
  &⟨fun _ z=>z,?_⟩
  cases vs<;>rfl
 | true::m,[],e,ds,A,σ,h,g,hl=>g.elim
 | false::m,[],e,ds,A,σ,h,g,hl=>g.elim
 | true::m,v::vs,[],ds,A,σ,h,g,hl=>g.elim
 | false::m,v::vs,[],ds,A,σ,h,g,hl=>g.elim
B5 jb{H Z:Hp}:∀(n:Nat) {env:EN} {A:Fp} {σ:St},eN (fP K H Z) env A σ→eN (fP K H Z) (env++E7 n SD.no) A (σ++E7 n none)
 | 0,env,A,σ,h=>by
  show eN _ (env++[]) A (σ++[])
  rw[F2,F2]
  ~h
 | n+1,env,A,σ,h=>by
  have s:=jb n (eN.snoc (d:=SD.no) (y:=none) (A1:=nil) h (fun _ z=>z) fun _ _ z=>z)
  rw[O3,O3]at s
  ~s.fp fun x=>⟨fun z=>z.elim id False.elim,.inl⟩
B5 aIi{X:Cx}{N:List Str}{mask:List Bool}{g:GS}{body:List Stmt}{t:TS}{vs:List V}{H:Hp}{Q:VK}{E:XK}(yb:YB K X body t g)(h:spG K mask (Oz N.length mask g) vs H Q E):t {nx:=fun _ H'=>Q .non H',rt:=Q} (start N vs) H:=by
  B3⟨A,ds,r,ds',hl,hv,hs,hF,kk⟩:=h
  B3⟨env',q1,q2⟩:=aBb hF vs hv
  &yb.ev (out H A) _ _ H (KC N.length mask ds vs) ?_ ?_
  · have s:=jb (N.length-mask.length) hs
    have e:start N vs=vs.map some++E7 (N.length-mask.length) none:=by
      B4 start
      rw[hv]
    rw[e]
    ~⟨A,s,aU.refl _⟩
  · rcases q1 with q1 | ⟨q1,rfl⟩
    · rw[q1]
      intro w σ' H' ⟨A2,a2,b2⟩
      B3⟨A3,A4,k1,⟨w',ew,o⟩,k3,k4⟩:=a2.Il
      cases ew
      B3⟨A5,g1,g2⟩:=Ml mask vs env' ds' A3 σ' k1 q2 hv
      ~kk w H' A5 A4 g2 o (fun x z1 z2=>k3 x (g1 x z1) z2) (b2.trans (bU (aU.refl _) fun x z=>.inl ((k4 x).mpr (z.elim (fun z=>.inl (g1 x z)) .inr))))
    · rw[q1]
      intro σ' H' ⟨A2,a2,b2⟩
      B3⟨A5,g1,g2⟩:=Ml mask vs env' ds' A2 σ' a2 q2 hv
      ~kk .non H' A5 nil g2 (by B4 Ow;~⟨fun _ z=>z,rfl⟩) (fun x z1 z2=>z2) (b2.trans (bU (aU.refl _) fun x z=>.inl (z.elim (g1 x) False.elim)))
B5 Raw.aJL{x:Str}{st:Stmt}{N ps:List Str}{k:Nat}{g:GS}{mask:List Bool}(R:Raw K mg x st)(S:bA N ps (aL st))(hb:HB x x st ps)(hm:mask.length=ps.length)
  (hbody:∀(f:Addr)(cdv:Value)(A:Around)(outer:List Env)(s:Shared)(H:Hp)(E:XK),jK k (A.deeper (envOfC x (aL st) s.heap.objs.size f cdv))→∃t,YB K (Fd CQ P w K mg base N x (aL st) f cdv A outer s H E).ZV (cC st) t g):sJ P w K mg base x (k+1) mask.length (spG K mask (Oz N.length mask g)):=by
 rw[hm]
 &R.cal S (fun vs H Q E h=>by B3⟨A,ds,r,ds',hl,hv,_⟩:=h;~hv.trans hm) hb (fun f cdv A outer s H vs Q E hr h=>?_)
 B3⟨t,yb⟩:=hbody f cdv A outer s H E hr
 ~⟨t,yb.ps,aIi yb h⟩
end
section
variable{K:aF}{X:Cx}{a b:Expr}{rest:List Expr}{ta tb:TE}{g h:GM}{f:FE}{pos:Pos}
def aKF(g h:GM):GM:=fun env=>(g env).bind fun de=>match de.1 with
 | .bl true=>h de.2
 | .bl false=>some (.bl false,de.2)
 | _=>none
def aI0(f:FE):GS:=fun env=>match f (rE env)with
 | some (.lst _)=>.next env
 | _=>.bad
end
end L2


namespace L2
open PySem PySem.Spec PySem.Calls PyProof.Rows PyProof.V
section
variable{prog:Program}{w:World}{A:Around}{R:Result→Shared→Prop}{I:Addr}{fp wr:List Addr}{n:Nat}{P:Nat→Value→Prop}{St:Nat→Heap→Prop}{kw:List (Str×Value)}
end
section
variable{prog:Program}{w:World}{A:Around}{E:Value→Shared→Prop}{s:Shared}
end
section
variable{K:aF}{X:Cx}{e e2:Expr}{te t2:TE}{f g:FE}{x:Str}{p pos kp:Pos}
end
end L2


namespace L2
open PySem PySem.Spec PySem.Calls PyProof.Rows PyProof.V
section
variable{X:Cx}
def Bg:V→List V→Hp→VK→Prop:=fun x vs H Q=>∃l xs i y,x=.ref l∧vs=[.int i,y]∧H l=some (.lst xs)∧0≤i∧i.toNat≤xs.length∧xs.length<sizeLine∧Q .non (upd H l (.lst (xs.take i.toNat++y::xs.drop i.toNat)))
B5 Vh:MtM X "list.insert" Bg:=by
 intro pins s σ H x vs v us Q I rx rv h
 B3⟨l,xs,i,y,rfl,rfl,hH,h0,h1,hz,q⟩:=h
 cases rx
 B3⟨u1,u2,rfl,ru1,ru2⟩:=rv.two
 B3⟨t,rfl⟩:=ru1
 B3⟨z,its,n,r,hl,e⟩:=I.aCL hH
 have hsl:sizeLine<2 ^ 62:=by decide
 &call_meets F.slot_list_insert ⟨_,e,rfl⟩ F.entry_list_insert (F.args_list_insert_3 _ _ _) (AutoSeq1.list_insert_list_int_val_1 l its.toArray n i t u2 (by rw[fitsIndex_both A6 A6];decide) (by rw[D3];omega)) ⟨e,?_⟩
 &⟨.non,_,I.aCK (its':=its.take i.toNat++u2::its.drop i.toNat) hH e ?_ ((r.take _).append (.cons ru2 (r.drop _))) ?_,rfl,q⟩
 ·show (its.toArray.extract 0 (if i<0 then(i+(its.toArray.size:Int)).toNat else min i.toNat its.toArray.size)).push u2++its.toArray.extract (if i<0 then(i+(its.toArray.size:Int)).toNat else min i.toNat its.toArray.size)=_
  rw[if_neg A6,D3,show min i.toNat its.length=i.toNat by omega]
  apply Array.ext'
  simp
  ~O7 (by rw[N6];omega)
 ·rw[C7,D8,F3,N6]
  omega
B5 Yl{i:Int}{t:Tok}:∀{ns:List Int} {us:List Value},Vals (ns.map V.int) us→∀y∈us,MeetsSeq.EqGives y (.int i t) (Xf (.int i) y)
 | [],_,.nil=>fun y hy=>by cases hy
 | n::ns,u::us,.cons r rs=>fun y hy=>by
  rcases C5.mp hy with rfl | hy
  ·B3⟨t',rfl⟩:=r
   ~MeetsSeq.EqGives.int n i t' t
  ·~Yl rs y hy
B5 Du{i:Int}:∀{ns:List Int} {m:Nat} (h:m<ns.length),m<ns.idxOf i→ns[m]≠i
 | [],m,h,_=>absurd h (I0 _)
 | a::ns,0,h,hl=>fun e=>by
  have e:a=i:=e
  rw[V4,e,beq_self_eq_true]at hl
  ~absurd hl (L7 _)
 | a::ns,m+1,h,hl=>by
  rw[V4]at hl
  cases q:a==i with
  | true=>rw[q]at hl;~absurd hl (I0 _)
  | false=>
   rw[q]at hl
   have hl:m+1<ns.idxOf i+1:=hl
   ~Du (ns:=ns) (m:=m) (by simpa using h) A6
B5 aBc{α β:Type}(φ:α→β):∀(l:List α)(k:Nat),(l.map φ).eraseIdx k=(l.eraseIdx k).map φ
 | [],_=>rfl
 | _::_,0=>rfl
 | a::l,k+1=>congrArg (φ a::·) (aBc φ l k)
B5 int_at{ns:List Int}{us:List Value}(h:Vals (ns.map V.int) us)(i:Int){m:Nat}(hm:m<us.toArray.size):∃hn:m<ns.length,Xf (.int i) us.toArray[m]=(ns[m]==i):=by
 have hl:=h.length
 rw[B7]at hl
 have hm':m<us.length:=by simpa using hm
 B3⟨u,eu,ru⟩:=h.get (i:=m) (x:=.int (ns[m]'(by omega))) (by rw[C4,B6 A6];rfl)
 B3⟨t,rfl⟩:=ru
 have e:us.toArray[m]=.int (ns[m]'(by omega)) t:=by
  have:=B6 hm'
  rw[eu]at this
  simpa using (F1 this).symm
 &⟨by omega,?_⟩
 rw[e]
 rfl
def Bh:V→List V→Hp→VK→Prop:=fun x vs H Q=>∃(l:Addr)(ns:List Int)(i:Int),x=.ref l∧vs=[.int i]∧H l=some (.lst (ns.map V.int))∧i∈ns∧Q .non (upd H l (.lst ((ns.eraseIdx (ns.idxOf i)).map V.int)))
B5 Ip:MtM X "list.remove" Bh:=by
 intro pins s σ H x vs v us Q I rx rv h
 B3⟨l,ns,i,rfl,rfl,hH,hi,q⟩:=h
 cases rx
 B3⟨u,rfl,ru⟩:=rv.one
 B3⟨t,rfl⟩:=ru
 B3⟨z,its,n,r,hl,e⟩:=I.aCL hH
 rw[B7]at hl
 have hj:ns.idxOf i<ns.length:=R5 hi
 have hz:its.length≤sizeLine:=by rw[B7]at z;omega
 &call_meets F.slot_list_remove ⟨_,e,rfl⟩ F.entry_list_remove (F.args_list_remove_2 _ _) (MeetsSeq.list_remove l its.toArray n (.int i t) (Xf (.int i)) (fun y hy=>Yl r y (by simpa using hy)) (ns.idxOf i) (by rw[D3];omega) ?_ ?_ (by rw[D3];~hz)) ⟨e,?_⟩
 ·B3⟨h1,h2⟩:=int_at r i (m:=ns.idxOf i) (by rw[D3];omega)
  rw[h2,j0]
  ~beq_self_eq_true i
 ·intro m hm hlt
  B3⟨h1,h2⟩:=int_at r i hm
  rw[h2]
  ~beq_eq_false_iff_ne.mpr (Du h1 hlt)
 ·&⟨.non,_,I.aCK (its':=its.eraseIdx (ns.idxOf i)) hH e ?_ ?_ ?_,rfl,q⟩
  ·rw[U8]
  ·have:=r.eraseIdx (ns.idxOf i)
   rw[aBc]at this
   ~this
  ·rw[B7]
   have:=Hx ns (ns.idxOf i)
   omega
def WN(K:aF):V→List V→Hp→VK→Prop:=fun x vs H Q=>∃(l:Addr)(ns:List Int)(i:Int),x=.ref l∧vs=[.int i]∧pQ K H l (ns.map V.int)∧i∈ns∧Q (.int (ns.idxOf i)) H
B5 Pa:MtM X "list.index" (WN X.K):=by
 intro pins s σ H x vs v us Q I rx rv h
 B3⟨l,ns,i,rfl,rfl,hq,hi,q⟩:=h
 cases rx
 B3⟨u,rfl,ru⟩:=rv.one
 B3⟨t,rfl⟩:=ru
 B3⟨its,r,pl,z⟩:=I.list hq
 have hl:=r.length
 rw[B7]at hl z
 have hj:ns.idxOf i<ns.length:=R5 hi
 have hsl:sizeLine<2 ^ 62:=by decide
 B3⟨⟨cls,dd,data,sl⟩,ho,hc,n,hd⟩:=pl.isList
 dsimp only at hc hd
 subst hc hd
 &call_meets F.slot_list_index ⟨_,ho,rfl⟩ F.entry_list_index (F.args_list_index_2 _ _) (SeqAt.list_indexAt l its.toArray n dd sl (.int i t) (Xf (.int i)) (ns.idxOf i) (by rw[D3];omega) A6 ?_ ?_) ⟨ho,fun y hy=>MeetsSeq.EqGives.at (Yl r y (by simpa using hy)) _ _,?_⟩
 ·B3⟨h1,h2⟩:=int_at r i (m:=ns.idxOf i) (by rw[D3];omega)
  rw[h2,j0]
  ~beq_self_eq_true i
 ·intro m hm hlt
  B3⟨h1,h2⟩:=int_at r i hm
  rw[h2]
  ~beq_eq_false_iff_ne.mpr (Du h1 hlt)
 ·~⟨.int (ns.idxOf i),H,I.tok _,⟨_,rfl⟩,q⟩
end
section
variable{K:aF}{X:Cx}{a b e:Expr}{ta tb te:TE}{f g:FE}{i:Nat}{π:FP}{pos apos cpos:Pos}{m:Str}
def Ym(i:Nat)(π:FP)(g f:FE):GS:=fun env=>match env[i]?,π (rE env),g (rE env),f (rE env)with
 | some (.own d0),some p,some (.int k),some (.int y)=>(match eV p d0 with
  | some (.lst ds)=>(match intsOf ds with
   | some ns=>if 0≤k∧k.toNat≤ns.length∧ns.length<1000 then .next (env.set i (.own (eO p d0 (.lst ((ns.take k.toNat++y::ns.drop k.toNat).map D.int)))))else .bad
   | none=>.bad)
  | _=>.bad)
 | _,_,_,_=>.bad
B5 aBd(h:EvP K ta i π)(hx:Ka K tb g)(he:Ka K te f):qy K (kE (Hw K "list" Bg ta (cI tb (cI te lG)))) (Ym i π g f):=fun B E σ H env r p=>by
 B4 Ym at p
 split at p
 ·rename_i d0 pp k y q1 q2 q3 q3'
  split at p
  ·rename_i ds q4
   split at p
   ·rename_i ns q5
    split at p
    ·rename_i hc
     B3⟨c0,c1,c2⟩:=hc
     B3⟨v0,a,xs,Bs,k1,k2,k3,k4,k5,k6⟩:=r.Yd q1 q4
     have ed:=tZ q5
     subst ed
     have ex:=jM.mp (dU.rv _ _ _ k5)
     subst ex
     &h σ H (rE env) v0 pp _ _ r.r k1 q2 k2 fun H1 s1=>⟨.inl ⟨rfl,_,pQ.of (s1 _ _ k3)⟩,?_⟩
     &hx σ H1 H1 (rE env) _ _ (Zn.self K H1) (r.r.same s1) q3 fun u H2 Z2 s2 t2 z2 ru=>he σ H2 H2 (rE env) _ _ (Zn.self K H2) (r.r.same (s1.trans s2)) q3' fun w H3 Z3 s3 t3 z3 Ru=>?_
     B4 Rv at ru Ru
     subst ru Ru
     have Xy:=s1.trans (s2.trans s3)
     &⟨a,_,k,.int y,rfl,rfl,Xy _ _ k3,c0,by rw[B7];~c1,Ny (by rw[B7];omega),p _ ?_⟩
     have e:(ns.map V.int).take k.toNat++V.int y::(ns.map V.int).drop k.toNat=(ns.take k.toNat++y::ns.drop k.toNat).map V.int:=by rw[J0,D5,g6,g7]
     rw[e]
     ~k6 H3 _ _ nil Xy (wI _ _ (dG _) (jM.mpr rfl)) fun b z=>z.elim
    ·~p.elim
   ·~p.elim
  ·~p.elim
 ·~p.elim
def Sx(i:Nat)(π:FP)(f:FE):GS:=fun env=>match env[i]?,π (rE env),f (rE env)with
 | some (.own d0),some p,some (.int y)=>(match eV p d0 with
  | some (.lst ds)=>(match intsOf ds with
   | some ns=>if y∈ns then .next (env.set i (.own (eO p d0 (.lst ((ns.eraseIdx (ns.idxOf y)).map D.int)))))else .bad
   | none=>.bad)
  | _=>.bad)
 | _,_,_=>.bad
B5 aBe(h:EvP K ta i π)(he:Ka K te f):qy K (kE (Hw K "list" Bh ta (cI te lG))) (Sx i π f):=fun B E σ H env r p=>by
 B4 Sx at p
 split at p
 ·rename_i d0 pp y q1 q2 q3
  split at p
  ·rename_i ds q4
   split at p
   ·rename_i ns q5
    split at p
    ·rename_i hc
     B3⟨v0,a,xs,Bs,k1,k2,k3,k4,k5,k6⟩:=r.Yd q1 q4
     have ed:=tZ q5
     subst ed
     have ex:=jM.mp (dU.rv _ _ _ k5)
     subst ex
     &h σ H (rE env) v0 pp _ _ r.r k1 q2 k2 fun H1 s1=>⟨.inl ⟨rfl,_,pQ.of (s1 _ _ k3)⟩,?_⟩
     &he σ H1 H1 (rE env) _ _ (Zn.self K H1) (r.r.same s1) q3 fun w H2 Z2 s2 t2 z2 Ru=>?_
     B4 Rv at Ru
     subst Ru
     have s12:=s1.trans s2
     &⟨a,ns,y,rfl,rfl,s12 _ _ k3,hc,p _ ?_⟩
     ~k6 H2 _ _ nil s12 (wI _ _ (dG _) (jM.mpr rfl)) fun b z=>z.elim
    ·~p.elim
   ·~p.elim
  ·~p.elim
 ·~p.elim
B5 aGs(h:XP K X a ta i π)(hx:XR K X b tb g)(he:XR K X e te f)(hp:PE X a ta→PE X b tb→PE X e te→PS X (.Expr (.Call (.Attribute a m apos) [b,e] [] cpos) pos) (kE (Hw K "list" Bg ta (cI tb (cI te lG))))):YS K X (.Expr (.Call (.Attribute a m apos) [b,e] [] cpos) pos) (kE (Hw K "list" Bg ta (cI tb (cI te lG)))) (Ym i π g f):=⟨hp h.pe hx.pe he.pe,(aBd h.ev hx.ev he.ev).ds⟩
B5 aDC(h:XP K X a ta i π)(hx:XR K X b tb g)(he:XR K X e te f)(hp:PE X a ta→PE X b tb→PE X e te→PS X (.Expr (.Call (.Attribute a m apos) [b,e] [] cpos) pos) (kE (Hw K "list" Bg ta (cI tb (cI te lG))))):YS K X (.Expr (.Call (.Attribute a m apos) [b,e] [] cpos) pos) (kE (Hw K "list" Bg ta (cI tb (cI te lG)))) (iW i (Ym i π g f)):=Dt i (hp h.pe hx.pe he.pe) (aBd h.ev hx.ev he.ev)
B5 aGt(h:XP K X a ta i π)(he:XR K X e te f)(hp:PE X a ta→PE X e te→PS X (.Expr (.Call (.Attribute a m apos) [e] [] cpos) pos) (kE (Hw K "list" Bh ta (cI te lG)))):YS K X (.Expr (.Call (.Attribute a m apos) [e] [] cpos) pos) (kE (Hw K "list" Bh ta (cI te lG))) (Sx i π f):=⟨hp h.pe he.pe,(aBe h.ev he.ev).ds⟩
B5 jc(h:XP K X a ta i π)(he:XR K X e te f)(hp:PE X a ta→PE X e te→PS X (.Expr (.Call (.Attribute a m apos) [e] [] cpos) pos) (kE (Hw K "list" Bh ta (cI te lG)))):YS K X (.Expr (.Call (.Attribute a m apos) [e] [] cpos) pos) (kE (Hw K "list" Bh ta (cI te lG))) (iW i (Sx i π f)):=Dt i (hp h.pe he.pe) (aBe h.ev he.ev)
def uU(a b:D):Option D:=match a,b with
 | .lst ds,.int i=>(intsOf ds).bind fun ns=>if i∈ns then some (.int (ns.idxOf i))else none
 | _,_=>none
B5 Pb(ha:XR K X a ta f)(he:XR K X e te g)(hp:PE X a ta→PE X e te→PE X (.Call (.Attribute a m apos) [e] [] pos) (Hw X.K "list" (WN X.K) ta (cI te lG))):XN K X (.Call (.Attribute a m apos) [e] [] pos) (Hw K "list" (WN K) ta (cI te lG)) (f2 uU f g):=⟨ha.hk,by have:=ha.hk;subst this;~hp ha.pe he.pe,fun σ H e d Q re q k=>by
 B3⟨d1,q1,q⟩:=aX q
 B3⟨d2,q2,q⟩:=aX q
 B4 uU at q
 split at q
 ·B3⟨ns,q3,q⟩:=aX q
  split at q
  ·rename_i hi
   cases q
   &ha.ev σ H H e _ _ (Zn.self K H) re q1 fun v H1 Z1 s1 t1 z1 rv=>?_
   have rv:=z1.sm.rv _ _ rv
   B3⟨p,rfl,r2⟩:=yZ q3 rv
   &⟨.inl ⟨rfl,_,r2⟩,he.ev σ H1 H1 e _ _ (Zn.self K H1) (re.same s1) q2 fun u H2 Z2 s2 t2 z2 ru=>?_⟩
   B4 Rv at ru
   subst ru
   B3⟨p',e',r3⟩:=yZ q3 (s2.rv _ _ rv)
   cases e'
   ~⟨p,ns,_,rfl,rfl,r3,hi,k _ H2 (s1.trans s2) (.jF rfl (by B4 Rv;rfl))⟩
  ·cases q
 ·cases q⟩
def Pg(a b:D):Option D:=match a with
 | .dk ks ds=>(Sq b).bind fun k=>match posK ks k with
  | none=>some .non
  | some j=>(ds[j]?).bind fun r=>if r.jF=true then some r else none
 | _=>none
B5 Ph(hu:X.A.units+1<cLine)(ha:XR K X a ta f)(he:XR K X e te g)(mm:M1 X a "get" apos e cpos):XN K X (.Call (.Attribute a "get" apos) [e] [] cpos) (aAi ta te) (f2 Pg f g):=⟨ha.hk,aAj hu ha.pe he.pe mm,fun σ H e d Q re q k=>by
 B3⟨d1,q1,q⟩:=aX q
 B3⟨d2,q2,q⟩:=aX q
 B4 Pg at q
 split at q
 ·rename_i ks ds _
  B3⟨kk,h1,q⟩:=aX q
  &ha.ev σ H H e _ _ (Zn.self K H) re q1 fun x H1 Z1 s1 t1 z1 rx=>?_
  have rx:=z1.sm.rv _ _ rx
  have rx':=rx
  B4 Rv at rx
  B3⟨p,xs,r1,r2,r3,r4⟩:=rx
  &⟨p,r1,.inl ⟨_,r2⟩,he.ev σ H1 H1 e _ _ (Zn.self K H1) (re.same s1) q2 fun u H2 Z2 s2 t2 z2 ru=>?_⟩
  have ru:=z2.sm.rv _ _ ru
  have rx2:=s2.rv _ _ rx'
  B4 Rv at rx2
  B3⟨p',xs',e1,r2',r3',r4'⟩:=rx2
  rw[r1]at e1
  cases e1
  &⟨wH (ks.zip xs') kk,.inl ⟨_,kk,r2',Lx h1 ru,rfl⟩,?_⟩
  rw[sS r3']
  split at q
  ·rename_i hn
   cases q
   rw[hn]
   ~k _ H2 (s1.trans s2) (.jF rfl (by B4 Rv;rfl))
  ·rename_i j hj
   B3⟨r,q4,q⟩:=aX q
   split at q
   ·rename_i im
    cases q
    B3⟨v,e1,e2⟩:=r4'.get q4
    rw[hj,B9,e1]
    ~k v H2 (s1.trans s2) (.jF im e2)
   ·cases q
 ·cases q⟩
def aDD:List D→Option D
 | [.int a]=>some (.int (if a<0 then -a else a))
 | _=>none
def aIj:List V→Hp→VK→Prop:=fun xs H Q=>∃a:Int,xs=[.int a]∧Q (.int (if a<0 then -a else a)) H
B5 aGu:xU K aIj aDD:=fun vs H ds d Q rs q k=>by
 B4 aDD at q
 split at q
 ·cases q
  B3⟨v,rfl,r⟩:=sU rs
  B4 Rv at r
  subst r
  ~⟨_,rfl,k _ H (aU.refl _) (.jF rfl (by B4 Rv;rfl))⟩
 ·cases q
B5 aGv:mZ X (.builtin "abs") aIj:=by
 intro pins s σ H xs us Q I r h
 B3⟨a,rfl,q⟩:=h
 B3⟨u,rfl,rx⟩:=vals1 r
 B3⟨t,rfl⟩:=rx
 ~call_abs_int fun u tk=>⟨.int _,H,I.tok _,⟨u,rfl⟩,q⟩
end
end L2


namespace L2
open PySem PySem.Spec PySem.Calls PyProof.Rows PyProof.V
def aGw(ks:List Key)(vs:List V):List (V×V):=(ks.zip vs).map fun kv=>(kV kv.1,kv.2)
def aJM(K:aF)(t:List (TE×TE))(ks:List Key)(is:List Nat)(fs:FA):Prop:=∀(σ:St)(H:Hp)(e:DE)(ds:List D)(xs:List V)(Q:List (V×V)→Hp→Prop),yL K H e σ→fs e=some ds→xs.length=is.length →
 (∀(k i:Nat),is[k]?=some i→∃x,xs[k]?=some x∧σ[i]?=some (some x))→(∀vs H',aU H H'→Sh K H H' ds vs→Q (aGw ks (xs++vs)) H')→TF t σ H Q
structure XDm(K:aF)(X:Cx)(p:Pos)(keys:List (Option Expr))(vals:List Expr)(t:List (TE×TE))(ks:List Key)(is:List Nat)(fs:FA):Prop where
 hk:X.K=K
 pps:PPs X p keys vals t
 ev:aJM K t ks is fs
section
variable{K:aF}{X:Cx}{st:Stmt}{e:Expr}{vals:List Expr}{keys:List (Option Expr)}{te:TE}{f:FE}{fs:FA}{pos p p1:Pos}{i j:Nat}{t:List (TE×TE)}{ks:List Key}{is:List Nat}{x:Str}
def aKG(ks:List Key)(is:List Nat)(fs:FA):GS:=fun env=>match fs (rE env),aAL env is with
 | some ds,some os=>if decide is.Nodup=true∧decide ks.Nodup=true∧ks.length=os.length+ds.length∧ks.length≤15 then .ret (.dk ks (os++ds))else .bad
 | _,_=>.bad
end
section
variable{X:Cx}{K:aF}{x y:Str}{p p2 pos pos2:Pos}{a b:Expr}{t:TA}{fs:FA}
B5 KD(lo:Int):∀(m:Nat)(us:List Value)(s:Nat),us.length=m→(∀(j:Nat)(w:Value),us[j]?=some w→∃t,w=.int (lo+((s+j:Nat):Int)) t)→Vals ((List.range' s m).map fun k=>V.int (lo+((k:Nat):Int))) us
 | 0,us,s,hl,_=>by
  have:us=[]:=L6 hl
  subst this
  ~.nil
 | m+1,us,s,hl,hw=>by
  cases us with
  | nil=>cases hl
  | cons w us=>
   rw[l5,D5]
   B3⟨t0,e0⟩:=hw 0 w rfl
   &.cons ⟨t0,by rw[e0];rfl⟩ (KD lo m us (s+1) (by simpa using hl) fun j w' hj=>?_)
   B3⟨t1,e1⟩:=hw (j+1) w' (by simpa using hj)
   ~⟨t1,by rw[e1,show s+(j+1)=s+1+j by omega]⟩
def Yn:List V→Hp→VK→Prop:=fun vs H Q=>∃lo hi:Int,vs=[.int lo,.int hi]∧0≤lo∧lo≤1000∧0≤hi∧hi≤1000∧∀l,H l=none→Q (.ref l) (upd H l (.lst ((D2 (hi-lo).toNat).map fun k=>V.int (lo+((k:Nat):Int)))))
B5 aBf(hc:X.calm=true)(pins:List (Addr×Obj))(s:Shared)(σ:St)(H:Hp)(vs:List V)(us:List Value)(Q:VK)(I:Inv X pins σ H s)(rv:Vals vs us)(h:Yn vs H Q) :
  wpAny (model X.prog X.w) X.A (call (.type "range") us) (fun u' s'=>wpAny (model X.prog X.w) X.A (call (.type "list") [u']) (EP X pins σ Q) X.xe s') X.xe s:=by
 B3⟨lo,hi,rfl,h0,h1,h2,h3,q⟩:=h
 cases rv with
 | cons r rr=>
  cases rr with
  | cons r' rr=>
   cases rr
   B3⟨t,rfl⟩:=r
   B3⟨t',rfl⟩:=r'
   &call_range_2 ?_
   &call_list_range (n:=(hi-lo).toNat) (I.ok.hd hc) (IsRange.new _ _ _ _ _ _ _) (small_one A6 A6 A6 A6) (by rw[rangeSize_one];split<;>omega) A6 fun h' tk acc c kp g it=>?_
   have I1:Inv X pins σ H {s with heap:=s.heap.push {cls:=.type "range", data:=.fields #[.int lo t,.int hi t',.int 1 s.toks]},toks:=s.toks+1}:=I.kept (t':=s.toks+1) fun b o e=>Heap.get?_push_of_some _ e
   generalize hg':s.heap.push {cls:=.type "range", data:=.fields #[.int lo t,.int hi t',.int 1 s.toks]}=hp at *
   have hs:H hp.objs.size=none:=I1.hok.fresh (D1 _)
   have rr:Vals ((D2 (hi-lo).toNat).map fun k=>V.int (lo+((k:Nat):Int))) acc.toList:=by
    rw[e9]
    &KD lo _ acc.toList 0 (by rw[K3];~it.1) fun j w hj=>?_
    B3⟨t1,e1⟩:=it.2 j w (by rw[←L8];~hj)
    ~⟨t1,by rw[e1,show lo+(j:Int)*1=lo+((0+j:Nat):Int) by omega]⟩
   ~⟨.ref _,_,I1.laid (t':=tk) (a:=hp.objs.size) (o:=.lst ((D2 (hi-lo).toNat).map fun k=>V.int (lo+((k:Nat):Int)))) kp (D1 _) ⟨by rw[B7,E3];~O8 (rY A6),acc.toList,c,rr,by simpa[seqObj]using g⟩,rfl,q _ hs⟩
B5 ux(hc:X.calm=true)(ha:PA X [a,b] t)(hg:Gl X x)(hm:X.mg x=none)(hv:bootBuiltins x=some (.type "list")) (hg2:Gl X y) (hm2:X.mg y=none) (hv2:bootBuiltins y=some (.type "range")) (hn:x ≠ "__name__" := by decide) (hdb:(x==("__debug__" : Str))=false:=by decide) (hn2:y ≠ "__name__" := by decide) (Oq:(y==("__debug__" : Str))=false:=by decide)
  (he:starEach [a,b] X.env=[(false,eval a X.env),(false,eval b X.env)]:=by rfl) (he1:starEach [b] X.env=[(false,eval b X.env)]:=by rfl) (he2:starEach [.Call (.Name y p2) [a,b] [] pos2] X.env=[(false,eval (.Call (.Name y p2) [a,b] [] pos2) X.env)]:=by rfl) :
  PE X (.Call (.Name x p) [.Call (.Name y p2) [a,b] [] pos2] [] pos) (tCB Yn t):=by
 intro pins s σ H Q I h
 &wpAny_Call_Name_kw (sI I hg hm hv ?_ hn hdb)
 &J6 ?_ he2 rfl
 rw[he2]
 &Calls.spliced_cons (wpAny_Call_Name_kw (sI I hg2 hm2 hv2 ?_ hn2 Oq))
 ~J6 (iM (ha pos2 pins s σ H _ I h) fun us s1 ⟨vs,H1,I1,r1,q1⟩=>iM (aBf hc pins s1 σ H1 vs us Q I1 r1 q1) fun u' s' z=>Calls.spliced_nil z) (by rw[he,he1]) (by rw[he1];rfl)
def Ge:List D→Option D
 | [.int lo,.int hi]=>if 0≤lo∧lo≤1000∧0≤hi∧hi≤1000 then some (.lst ((D2 (hi-lo).toNat).map fun k=>D.int (lo+((k:Nat):Int))))else none
 | _=>none
B5 uy(h:XA K X [a,b] t fs)(hg:Gl X x)(hm:X.mg x=none)(hv:bootBuiltins x=some (.type "list")) (hg2:Gl X y) (hm2:X.mg y=none) (hv2:bootBuiltins y=some (.type "range")) (hc:X.calm=true:=by rfl) (hn:x ≠ "__name__" := by decide) (hdb:(x==("__debug__" : Str))=false:=by decide) (hn2:y ≠ "__name__" := by decide) (Oq:(y==("__debug__" : Str))=false:=by decide)
  (he:starEach [a,b] X.env=[(false,eval a X.env),(false,eval b X.env)]:=by rfl) (he1:starEach [b] X.env=[(false,eval b X.env)]:=by rfl) (he2:starEach [.Call (.Name y p2) [a,b] [] pos2] X.env=[(false,eval (.Call (.Name y p2) [a,b] [] pos2) X.env)]:=by rfl) :
  XN K X (.Call (.Name x p) [.Call (.Name y p2) [a,b] [] pos2] [] pos) (tCB Yn t) (fL Ge fs):=⟨h.hk,ux hc h.pa hg hm hv hg2 hm2 hv2 hn hdb hn2 Oq he he1 he2,fun σ H e d Q re q k=>by
 B3⟨ds,q1,q2⟩:=aX q
 B4 Ge at q2
 split at q2
 ·rename_i lo hi
  split at q2
  ·rename_i hl
   cases q2
   &h.ev σ H H e _ _ (Zn.self K H) re q1 fun vs H1 Z1 s1 t1 z1 rvs=>?_
   B4 dF at rvs
   B3⟨v1,r1,rfl,e1,rvs⟩:=rvs
   B4 dF at rvs
   B3⟨v2,r2,rfl,e2,rvs⟩:=rvs
   B4 dF at rvs
   subst rvs
   B4 Rv at e1 e2
   subst e1 e2
   &⟨lo,hi,rfl,hl.1,hl.2.1,hl.2.2.1,hl.2.2.2,fun l hl=>k _ _ (s1.trans (cP hl _)) ((rH (aU.refl _) (.eU ?_ ?_) hl).back s1)⟩
   ·have:=dG ((D2 (hi-lo).toNat).map fun k=>lo+((k:Nat):Int))
    rw[K4]at this
    ~this
   ·have:=jM (K:=K) (H:=H1) (ns:=(D2 (hi-lo).toNat).map fun k=>lo+((k:Nat):Int)) |>.mpr rfl
    rw[K4]at this
    rw[show (fun k:Nat=>V.int (lo+(k:Int)))=V.int∘fun k:Nat=>lo+(k:Int)from rfl,←K4]
    ~this
  ·cases q2
 ·cases q2⟩
end
end L2


namespace L2
open PySem PySem.Spec PySem.Calls PyProof.Rows PyProof.V
section
variable{K:aF}{X:Cx}{a e:Expr}{ta te:TE}{f:FE}{π:FP}{i:Nat}{m:Str}{apos cpos pos:Pos}
def aKH(i:Nat)(π:FP)(f:FE):GS:=fun env=>match env[i]?,π (rE env),f (rE env)with
 | some (.own d0),some p,some (.int k)=>(match eV p d0 with
  | some (.lst ds)=>(match intsOf ds with
   | some ns=>if 0≤k∧k.toNat<ns.length∧ns.length<1000 then .next (env.set i (.own (eO p d0 (.lst ((ns.eraseIdx k.toNat).map D.int)))))else .bad
   | none=>.bad)
  | _=>.bad)
 | _,_,_=>.bad
end
end L2


namespace L2
open PySem PySem.Spec PySem.Calls PyProof.Rows PyProof.V
section
variable{K:aF}{X:Cx}{a b e:Expr}{es:List Expr}{ta tb te t:TE}{f g:FE}{tA:TA}{fs:FA}{pos apos cpos p2:Pos}{m:Str}
structure aKI(mg:Str→Option Value)(x:Str)(i:Str):Prop where
 ex:∃t,mg x=some (.str i t)
def aEG(i j:Int):Prop:=0<j∧j.natAbs.log2<9000
instance:∀i j,Decidable (aEG i j):=fun i j=>by B4 aEG;~inferInstance
end
section
variable{P:Program}{w:World}{K:aF}{tg:Expr}
end
section
variable{K:aF}{X:Cx}{tg e l:Expr}{t tl:TE}{f:FE}
end
end L2


namespace L2
open PySem PySem.Spec PySem.Calls PyProof.Rows PyProof.V
section
variable{K:aF}{X:Cx}{a b c e:Expr}{ta tb tc te t:TE}{f g fa fb fc:FE}{pos apos cpos:Pos}{m:Str}
end
end L2


namespace L2
open PySem PySem.Spec PySem.Calls PyProof.Rows PyProof.V
section
variable{K:aF}{B H H':Hp}{env:EN}{σ:St}{i j:Nat}{v:V}{d:D}
end
end L2


namespace L2
open PySem PySem.Spec PySem.Calls PyProof.Rows PyProof.V
abbrev aJN(h:Heap)(l:List Env):Heap:=l9 h (frs l)
structure Fl(l:List Env)(s1:Shared)(e:Addr)(cls:Value)(s':Shared):Prop where
 fly:∃a0,Heap.FlyingW (aJN s1.heap l) l e cls a0 s'.heap
 up:s1.heap.UpToSlots s'.heap
 os:s'.os=s1.os
 bare:AllBare s'.gens
def CX1(P:Program)(w:World):mz:=fun outer H s E ev s'=>∃e cls H' s1,ev=.ref e∧s1.os=s.os∧AllBare s1.gens∧Un (frs outer) [] H H' s.heap s1.heap∧Cq P w H' s1.heap∧Fl outer s1 e cls s'∧E cls none H'
section
variable{P:Program}{w:World}{l:List Env}{s1 s':Shared}{e:Addr}{cls:Value}{H:Hp}{base:Heap}
end
section
variable{X:Cx}{pins:List (Addr×Obj)}{σ:St}{H:Hp}{s s1 s':Shared}{e:Addr}{cls ev:Value}{E:XK}
end
section
variable{P:Program}{w:World}{env:Env}{outer:List Env}{L e:Addr}{cls a0:Value}{s0 s1:Shared}{H0 H:Hp}{E:XK}{base h':Heap}{s2:Shared}
end
section
variable{P:Program}{w:World}{K:aF}{mg:Str→Option Value}{base:Heap}{N:List Str}{qual:Str}{scope:Scope}{f:Addr}{cd:Value}{A:Around}{outer:List Env}{s0:Shared}{H0:Hp}{E:XK}
end
end L2


namespace L2
open PySem PySem.Spec PySem.Calls PyProof.Rows PyProof.V
abbrev GZ:=EN→Option Nat
def DZ(K:aF)(κ:Nat→Addr)(E:XK)(t:TS)(z:GZ):Prop:=∀(B:Hp)(D:Ends)(σ:St)(H:Hp)(env:EN)(i:Nat),Rel K B env σ H→z env=some i→(∀H',aU B H'→E (.ref (κ i)) none H')→t D σ H
structure YZ(K:aF)(κ:Nat→Addr)(X:Cx)(E:XK)(st:Stmt)(t:TS)(z:GZ):Prop where
 ps:PS X st t
 ev:DZ K κ E t z
structure YZB(K:aF)(κ:Nat→Addr)(X:Cx)(E:XK)(st:List Stmt)(t:TS)(z:GZ):Prop where
 ps:DN X st t
 ev:DZ K κ E t z
structure aLN(P:Program)(w:World)(K:aF)(mg:Str→Option Value)(base:Heap)(x:Str)(k:Nat)(n:Nat)(sp:Sp):Prop where
 ex:∃f fd ps,ps.length=n∧yF P w K mg base (CX1 P w) k f fd ps sp∧Binds K fd ps []∧K8 K (.ref f)=true∧mg x=some (.ref f)
structure aKJ(P:Program)(w:World)(K:aF)(mg:Str→Option Value)(base:Heap)(C:Addr)(m:Str)(k n:Nat)(df:Bool)(sp:Sp):Prop where
 ex:∃f fd ps,ps.length=n∧yF P w K mg base (CX1 P w) k f fd ps sp∧Binds K fd ps []∧(df=true→Binds K fd ps [Value.none])∧Meth K C m f
B5 Rel.sub{K:aF}{B H:Hp}{env:EN}{σ:St}(r:Rel K B env σ H):aU B H:=let ⟨_,_,b⟩:=r;b.trans (jL _ _)
section
variable{K:aF}{κ:Nat→Addr}{X:Cx}{E:XK}{st:Stmt}{sts rest:List Stmt}{t u:TS}{z z1 z2:GZ}{g:GS}{c e o:Expr}{es:List Expr}{te ta:TE}{tA:TA}{tc:TT}{fc:FT}{f:FE}{fs:FA}{pos apos:Pos}{m:Str}
def PE1(X:Cx)(pins:List (Addr×Obj))(σ:St)(e:Expr)(t:TE):Prop:=∀(s:Shared)(H:Hp)(Q:VK),Inv X pins σ H s→t σ H Q→wpAny (model X.prog X.w) X.A (eval e X.env) (EP X pins σ Q) X.xe s
def PS1(X:Cx)(pins:List (Addr×Obj))(σ:St)(st:Stmt)(t:TS):Prop:=∀(s:Shared)(H:Hp)(D:Ends),Inv X pins σ H s→t D σ H→wpAny (model X.prog X.w) X.A (exec st X.env) (SP X pins D) X.xe s
def aEH(CX:mz)(X:Cx)(pins:List (Addr×Obj))(σ:St)(E:XK):Prop:=∀(H:Hp)(s:Shared)(e:Value)(s':Shared),Inv X pins σ H s→CX X.stack H s E e s'→X.xe e s'
structure XRz(K:aF)(κ:Nat→Addr)(X:Cx)(E:XK)(e:Expr)(t:TE)(z:DE→Option Nat):Prop where
 pe:∀(pins:List (Addr×Obj))(σ:St),aEH (CX1 X.prog X.w) X pins σ E→PE1 X pins σ e t
 ev:∀(σ:St)(H:Hp)(de:DE)(i:Nat)(Q:VK),yL K H de σ→z de=some i→(∀H',aU H H'→E (.ref (κ i)) none H')→t σ H Q
end
section
variable{P:Program}{w:World}{K:aF}{mg:Str→Option Value}{base:Heap}{κ:Nat→Addr}
end
section
variable{K:aF}{κ:Nat→Addr}{X:Cx}{E:XK}{z:GZ}{g:GS}{pos:Pos}
end
end L2


namespace L2
open PySem PySem.Spec PySem.Calls PyProof.Rows PyProof.V
abbrev aIk:List Value:=[.type "ValueError", .type "Exception", .type "BaseException", .type "object"]
structure ExF(K:aF)(mg:Str→Option Value)(x:Str)(C:Addr):Prop where
 mg:mg x=some (.ref C)
 ok:PySem.W.excIn K C aIk "ValueError.__new__" = true
section
variable{P:Program}{w:World}{K:aF}{mg:Str→Option Value}{base:Heap}{N:List Str}{qual:Str}{scope:Scope}{f:Addr}{cd:Value}{A:Around}{outer:List Env}{s0:Shared}{H0:Hp}{E:XK}{κ:Nat→Addr}
 {x:Str} {C:Addr} {np cpos pos:Pos} {e:Expr} {es:List Expr} {tA:TA}
end
abbrev Cx.tr(X:Cx)(pn:List (Addr×Obj))(Ex:Value→Shared→Prop):Cx:={X with pn:=pn,xe:=Ex}
abbrev Cx.hand(X:Cx)(pn:List (Addr×Obj))(e:Addr):Cx:={X with pn:=pn,A:=X.A.mark (some (.ref e)),calm:=false,xe:=fun _ _=>False}
section
variable{X:Cx}{pins yd pn:List (Addr×Obj)}{σ:St}{H:Hp}{s s':Shared}{Ex:Value→Shared→Prop}{e:Addr}{D:Ends}{fl:Flow}
end
abbrev aIl:=Nat→Nat→Bool
section
variable{K:aF}{κ:Nat→Addr}{X:Cx}{sub:aIl}{n nj:Nat}{z:GZ}{g:GS}{st:Stmt}{pos:Pos}
def gAs(k:Nat)(g:GS):GS:=fun env=>if k<env.length then(match g (env.set k .no)with
 | .next env'=>if k<env'.length then .next (env'.set k .no)else .bad
 | _=>.bad)else .bad
structure YE(K:aF)(X:Cx)(k:Nat)(e:Addr)(sts:List Stmt)(t:TS)(g:GS):Prop where
 ps:DN X sts t
 ev:∀(B:Hp)(D:Ends)(σ:St)(H:Hp)(env:EN),Rel K B env σ H→σ[k]?=some (some (.ref e))→Lb K B D (g env)→t D σ H
inductive HK(K:aF)(κ:Nat→Addr)(X:Cx)(n i:Nat):List ExceptHandler→List (Nat×GS)→Prop
 | nil:HK K κ X n i [] []
 | cons {x:Str} {np hp:Pos} {b₀:Stmt} {suite:List Stmt} {rest:List ExceptHandler} {j:Nat} {gh:GS} {r:List (Nat×GS)} (hm:X.mg x=some (.ref (κ j))) (hg:Gl X x) (hd:(x==("__debug__" : Str))=false)
   (hs:∀(pn:List (Addr×Obj))(e:Addr),∃t,YB K (X.hand pn e) (b₀::suite) t gh) (hr:HK K κ X n i rest r):HK K κ X n i (.ExceptHandler (some (.Name x np)) none (b₀::suite) hp::rest) ((j,gh)::r)
 | as {x nm:Str} {np hp:Pos} {b₀:Stmt} {suite:List Stmt} {rest:List ExceptHandler} {j k:Nat} {gh:GS} {r:List (Nat×GS)} (hm:X.mg x=some (.ref (κ j))) (hg:Gl X x) (hd:(x==("__debug__" : Str))=false) (hN:X.N.Nodup) (hk:X.N[k]?=some nm) (hl:X.env.scope.names.lookup nm=some .local)
   (hs:∀(pn:List (Addr×Obj))(e:Addr)(oe:Obj),i<n→oe.cls=.ref (κ i)→(e,oe)∈pn→∃t,YE K (X.hand pn e) k e (b₀::suite) t gh) (hr:HK K κ X n i rest r):HK K κ X n i (.ExceptHandler (some (.Name x np)) (some nm) (b₀::suite) hp::rest) ((j,gAs k gh)::r)
structure ZS(K:aF)(κ:Nat→Addr)(X:Cx)(E:XK)(st:Stmt)(t:TS)(z:GZ):Prop where
 ps:∀(pins:List (Addr×Obj))(σ:St),aEH (CX1 X.prog X.w) X pins σ E→PS1 X pins σ st t
 ev:∀(B:Hp)(D:Ends)(σ:St)(H:Hp)(env:EN)(i:Nat),Rel K B env σ H→z env=some i→(∀H',aU H H'→E (.ref (κ i)) none H')→t D σ H
end
end L2


namespace L2
open PySem PySem.Spec PySem.Calls PyProof.Rows PyProof.V
section
variable{K:aF}{X:Cx}{κ:Nat→Addr}{pos p:Pos}
structure XE(K:aF)(X:Cx)(k:Nat)(ea:Addr)(e:Expr)(t:TE)(d:D):Prop where
 pe:PE X e t
 ev:∀(σ:St)(H:Hp)(Q:VK),σ[k]?=some (some (.ref ea))→(∀v H',aU H H'→Nr K H H' d v→Q v H')→t σ H Q
end
def Dv:EN→List Nat→List D→EN
 | env,i::is,d::ds=>Dv (env.set i (.fro d)) is ds
 | env,_,_=>env
def Pj(is:List Nat)(g:GS):List D→EN→SR
 | [],env=>.next env
 | .tup ds::xs,env=>if is.length=ds.length∧is.all (fun i=>decide (i<env.length))=true then(match g (Dv env is ds)with
   | .next env'=>Pj is g xs env'
   | .cont env'=>Pj is g xs env'
   | .brk env'=>.next env'
   | r=>r)else .bad
 | _::_,_=>.bad
def KH(js is:List Nat)(fi:FA)(g:GS):GS:=fun env=>match fi (zE (yM js env))with
 | some xs=>Pj is g xs (yM js env)
 | none=>.bad
section
variable{K:aF}{X:Cx}{g:GS}{pos:Pos}
B5 Vi{Z1 H:Hp}{Q:St→Hp→Prop}:∀{is:List Nat} {ds:List D} {vs:List V} {env:EN} {σ:St},Rel K Z1 env σ H→dF K Z1 ds vs→is.length=ds.length→(∀i∈is,i<env.length)→(∀σ',Rel K Z1 (Dv env is ds) σ' H→Q σ' H)→nU is vs σ H Q
 | [],[],vs,env,σ,r,h,_,_,k=>by
  B4 dF at h
  subst h
  B4 nU
  ~⟨rfl,k σ r⟩
 | i::is,d::ds,vs,env,σ,r,h,hl,hi,k=>by
  B4 dF at h
  B3⟨y,ys,rfl,h1,h2⟩:=h
  B4 nU
  &⟨y,ys,rfl,?_⟩
  B3⟨A2,a2,b2⟩:=r
  have r3:Rel K Z1 (env.set i (.fro d)) (σ.set i (some y)) H:=Mf a2 b2 (hi i C9) (aU.refl _) (aU.refl _) (Ii a2) (b2.rv _ _ h1)
  ~Vi r3 h2 (by simpa using hl) (fun j hj=>by rw[K2];~hi j (C6 _ hj)) fun σ' r'=>k σ' (by B4 Dv;~r')
 | [],_::_,_,_,_,_,_,hl,_,_=>by simp at hl
 | _::_,[],_,_,_,_,_,hl,_,_=>by simp at hl
B5 aDE{js is:List Nat}{n:Nat}{wi:TI}{fi:FA}{tb:TS}(hi:EvI K wi fi)(h:DS K tb g)(hn:n=is.length):DS K (Wy wi (Wv K n (nU is)) tb) (KH js is fi g):=fun B E σ H env r p=>by
 B4 KH at p
 have r':Rel K B (yM js env) σ H:=r.yM
 generalize yM js env=Ca at r' p
 split at p
 ·rename_i xs q
  B3⟨A,a,b⟩:=r'
  &hi σ H (out H A) (zE Ca) xs _ (Ii a) (aEx a) q fun J H1 Z1 P vs s t z hJ hP rvs=>?_
  have hl:=rvs.length
  have g0:aU Z1 (out H1 A):=fun x o e=>bB.mpr ⟨fun qa=>(by rw[(z.no x qa).1]at e;cases e),z.sm x o e⟩
  have aF8:Rel K Z1 Ca σ H1:=⟨A,a.mono fun e D y _ qq=>qq.same s (bU s fun x q=>.inl q),g0⟩
  have bz:aU B Z1:=b.trans t
  have p':=p.mono bz
  &Ln hJ (fun k σ2 H2=>∃cZ,Rel K Z1 cZ σ2 H2∧Lb K Z1 E (Pj is g (xs.drop k) cZ)) ⟨Ca,aF8,by simpa using p'⟩ (fun k σ2 H2 _ ⟨cZ,⟨A2,a2,b2⟩,_⟩=>hP H2 (b2.trans (jL H2 A2))) ?_ ?_
  ·rintro k x σ2 H2 hx ⟨cZ,r2,p2⟩
   have hk:k<xs.length:=by
    have:=D4.mp hx
    B3⟨h1,_⟩:=this
    omega
   rw[O0 hk]at p2
   B3⟨x',hx',rx⟩:=rvs.get (B6 hk)
   rw[hx]at hx'
   cases hx'
   cases hd:xs[k]with
   | tup ds=>
    rw[hd]at p2 rx
    B4 Pj at p2
    split at p2
    ·rename_i hc
     have rx:=r2.sub.rv _ _ rx
     have rxz:=rx
     B4 Rv at rx
     B3⟨ad,ys,rfl,h1,h2⟩:=rx
     have hrz:∃ad' ys',V.ref ad=V.ref ad'∧xR K Z1 ad' ys'∧dF K Z1 ds ys':=by
      B3⟨x2,e2,rx2⟩:=rvs.get (B6 hk)
      rw[hx]at e2
      cases e2
      rw[hd]at rx2
      B4 Rv at rx2
      ~rx2
     B3⟨ad',ys',e,h1',h2'⟩:=hrz
     cases e
     &⟨ad,ys',rfl,r2.sub.tup h1',by rw[h2'.length,hn,hc.1],?_⟩
     &Vi r2 h2' hc.1 (fun i hi=>of_decide_eq_true (M8.mp hc.2 i hi)) fun σ' r3=>?_
     &h Z1 _ _ H2 _ r3 ?_
     split at p2
     ·rename_i env' q2;rw[q2];~fun σ' H' r'=>⟨env',r',p2⟩
     ·rename_i env' q2;rw[q2];~fun σ' H' r'=>⟨env',r',p2⟩
     ·rename_i env' q2;rw[q2];~p2
     ·rename_i n1 n2 n3
      cases q2:g (Dv cZ is ds)with
      | next e=>~absurd q2 (n1 e)
      | cont e=>~absurd q2 (n2 e)
      | brk e=>~absurd q2 (n3 e)
      | ret d=>rw[q2]at p2;~p2
      | bad=>rw[q2]at p2;~p2
      | rete d e=>rw[q2]at p2;~p2
    ·~p2.elim
   | _=>rw[hd]at p2;B4 Pj at p2;~p2.elim
  ·rintro σ2 H2 ⟨cZ,r2,p2⟩
   rw[hl,U5]at p2
   ~p2 σ2 H2 r2
 ·~p.elim
B5 aDF{tg iter:Expr}{body:List Stmt}{wi:TI}{fi:FA}{tb:TS}{n:Nat}(js is:List Nat)(hp:PassesOwn (model X.prog X.w) X.A X.env X.xe)(VF:X.calm=true)(hi:XI K X tg iter wi fi)(hg:PG X tg (Wv K n (nU is)))(hb:YB K X body tb g)(hn:n=is.length:=by rfl)
  (hs:∀x,foldedSetIterable iter X.env x=pure x:=by intro _;rfl):YS K X (.For tg iter body [] pos) (Wy wi (Wv K n (nU is)) tb) (KH js is fi g):=⟨Wz hp VF hi.pi hg hb.ps hs,aDE hi.ev hb.ev hn⟩
end
end L2


namespace L2
open PySem PySem.Spec PySem.Calls PyProof.Rows PyProof.V
section
variable{K:aF}{X:Cx}{pos p0:Pos}
end
end L2


namespace L2
open PySem PySem.Spec PySem.Calls PyProof.Rows PyProof.V Builtin Builtin.ObjectAttr Builtin.Getset_descriptor
section
variable{P:Program}{w:World}{A:Around}{E:Value→Shared→Prop}{s:Shared}{K:aF}{x D:Addr}{ox:Obj}{od:Option Obj}
structure aLS(K:aF)(D:Addr):Prop where
 ga:F8 K (.ref D) "__getattribute__" = some (some (.builtin "BaseException.__getattribute__"))
 gt:F8 K (.ref D) "__getattr__" = some none
 cl:F8 K (.ref D) "__class__" = some (some (.builtin "object.__class__"))
 sp:X4 K (.builtin "object.__class__") "__get__" = some (some (.builtin "getset_descriptor.__get__"))
 tk:m7 K (.builtin "object.__class__")=some true
 mr:t7 K D (.type "object")=some true
 bx:PySem.W.subIn K (.ref D) (.type "BaseException")=some true
 ct:(PySem.W.clsIn K D).isSome=true
end
section
variable{K:aF}{X:Cx}{κ:Nat→Addr}{pos p:Pos}
structure XEn(K:aF)(X:Cx)(k:Nat)(ea:Addr)(e:Expr)(t:TE)(f:FE):Prop where
 hk:X.K=K
 pe:PE X e t
 ev:∀(σ:St)(H:Hp)(de:DE)(d:D)(Q:VK),yL K H de σ→σ[k]?=some (some (.ref ea))→f de=some d→(∀v H',aU H H'→Nr K H H' d v→Q v H')→t σ H Q
structure XEB(K:aF)(X:Cx)(k:Nat)(ea:Addr)(es:List Expr)(t:TA)(fs:FA):Prop where
 hk:X.K=K
 pa:PA X es t
 ev:∀(σ:St)(H:Hp)(de:DE)(ds:List D)(Q:List V→Hp→Prop),yL K H de σ→σ[k]?=some (some (.ref ea))→fs de=some ds→(∀vs H',aU H H'→Sh K H H' ds vs→Q vs H')→t σ H Q
end
end L2


namespace L2
open PySem PySem.Spec PySem.Calls PyProof.Rows PyProof.V
section
variable{P:Program}{w:World}{K:aF}{mg:Str→Option Value}{base:Heap}{κ:Nat→Addr}
end
section
variable{K:aF}{κ:Nat→Addr}{X:Cx}{E:XK}{pos:Pos}
end
end L2


namespace L2
open PySem PySem.Spec PySem.Calls PyProof.Rows PyProof.V
section
variable{K:aF}{X:Cx}{e:Expr}{t:TE}{f:FE}{pos:Pos}
end
end L2


set_option maxHeartbeats 1000000
namespace L2
open PySem PySem.Spec PySem.Calls PyProof.Rows PyProof.V
section
variable{K:aF}{X:Cx}{e:Expr}{t:TE}{f:FE}{pos p2:Pos}
def aIm(z:Str)(lo hi:Option Int):Prop:=(∀i∈lo.toList,0≤i)∧(∀j∈hi.toList,0≤j)∧HT.Kw z.length 0 lo≤HT.Kw z.length z.length hi∧z.length≤100000
instance:∀z lo hi,Decidable (aIm z lo hi):=fun z lo hi=>by B4 aIm;~inferInstance
end
end L2


namespace L2
open PySem PySem.Spec PySem.Calls PyProof.Rows PyProof.V
section
variable{K:aF}{X:Cx}{pos:Pos}
variable{κ:Nat→Addr}{sub:aIl}{n nj:Nat}
end
end L2


namespace L2
open PySem PySem.Spec PySem.Calls PyProof.Rows PyProof.V
section
variable{K:aF}{X:Cx}
end
end L2


namespace L2
open PySem PySem.Spec PySem.Calls PyProof.Rows PyProof.V
section
variable{K:aF}{X:Cx}{a e0 eM:Expr}{es:List Expr}{t0 tM:TE}{f0:FE}{gM:GM}{tA:TA}{fs:FA}{pos:Pos}{i:Nat}
def aBg:Option SD→Bool
 | some (.own (.lst _))=>true
 | _=>false
def Vj(i:Nat)(f0:FE)(gM:GM)(fs:FA):GS:=fun env=>match f0 (rE env),gM env with
 | some d0,some (d1,env')=>(match fs (rE env'),env'[i]? with
  | some r,some (.own (.lst ds))=>if(aBg env[i]?=true∧(toV d0).isSome=true)∧D.eU (d1::r)=true∧r.length≤50∧ds.length<100000 then .next (env'.set i (.own (.lst (ds++[.tup (d0::d1::r)]))))else .bad
  | _,_=>.bad)
 | _,_=>.bad
B5 aDG(h0:Nu K t0 f0)(hM:EvM K tM gM)(hA:EvB K tA fs):qy K (kE (Hw K "list" nH (pH i) (cI (DX (cI t0 (cI tM tA))) lG))) (Vj i f0 gM fs):=fun B E σ H env r p=>by
 B4 Vj at p
 split at p
 ·rename_i d0 d1 env' q0 q1
  split at p
  ·rename_i rr ds q2 q3
   split at p
   ·rename_i hc
    B3⟨⟨c0,cv⟩,c1,c2,c3⟩:=hc
    B3⟨ds0,q4⟩:∃ds0,env[i]?=some (.own (.lst ds0)):=by
     cases z:env[i]? with
     | none=>rw[z]at c0;cases c0
     | some y=>
      rw[z]at c0
      B4 aBg at c0
      split at c0
      ·rename_i w zz
       cases zz
       ~⟨_,rfl⟩
      ·cases c0
    B3⟨w,hw⟩:=S5.mp cv
    B3⟨v0,a,xs0,Bs0,k1,k2,k3,_,_,_⟩:=r.Yd (p:=[]) q4 rfl
    have ev0:v0=.ref a:=by
     have k2:some v0=some (V.ref a):=k2
     ~F1 k2
    subst ev0
    &⟨_,k1,.inl ⟨rfl,xs0,pQ.of k3⟩,?_⟩
    &h0 σ H (rE env) d0 _ r.r q0 fun x0 H1 s1 n0=>?_
    have ex0:=Dj hw n0.rv
    subst ex0
    &hM B σ H1 env d1 env' _ (r.same s1) q1 fun x1 H2 r2=>?_
    have p2:=r2.pop
    &hA σ H2 (rE env') rr _ p2.r q2 fun vs H3 s3 n3=>?_
    have rx0:Rv K H3 d0 x0:=by
     cases d0<;>B4 toV at hw<;>first | (cases hw;B4 Rv;rfl) | cases hw
    have aJP:dF K H3 (d0::d1::rr) (x0::x1::vs):=by
     B4 dF
     &⟨_,_,rfl,rx0,?_⟩
     B4 dF
     ~⟨_,_,rfl,s3.rv _ _ r2.aAX,n3.rv⟩
    have im:D.eU (d0::d1::rr)=true:=by
     B4 D.eU
     rw[G9]
     &⟨?_,c1⟩
     cases d0<;>B4 toV at hw<;>first | rfl | cases hw
    &⟨Uo (by rw[D8,D8,n3.rv.length];omega),fun pp hp=>?_⟩
    have s4:aU H2 (upd H3 pp (.tup (x0::x1::vs))):=s3.trans (cP hp _)
    have p4:=p2.same s4
    B3⟨v1,a1,xs1,Bs1,m1,m2,m3,m4,m5,m6⟩:=p4.Yd (p:=[]) q3 rfl
    have ev1:v1=.ref a1:=by
     have m2:some v1=some (V.ref a1):=m2
     ~F1 m2
    subst ev1
    rw[k1]at m1
    cases m1
    &⟨a,xs1,.ref pp,rfl,rfl,m3,Ny (by rw[(dU.rv _ _ _ m5).length];omega),p _ ?_⟩
    have ow:Ow K (upd H3 pp (.tup (x0::x1::vs))) (.tup (d0::d1::rr)) nil (.ref pp):=by
     B4 Ow
     ~⟨pp,_,rfl,xR.of cD,(wI _ _ im aJP).same (cP hp _)⟩
    ~m6 _ (ds++[.tup (d0::d1::rr)]) (xs1++[.ref pp]) (fH Bs1 nil) (aU.refl _) (cO.mpr ((cO.mp m5).snoc ow (fun x _ z=>z.elim))) fun b z=>z.elim .inl False.elim
   ·~p.elim
  ·~p.elim
 ·~p.elim
B5 aBh{m:Str}{apos cpos tpos:Pos}{x1:Nat}(hl:PE X a (pH i))(h0:XN K X e0 t0 f0)(hM:XM K X eM tM gM)(hA:XB K X es tA fs)
  (hp:PE X a (pH i)→PE X (.Tuple (e0::eM::es) x1 tpos) (DX (cI t0 (cI tM tA)))→PS X (.Expr (.Call (.Attribute a m apos) [.Tuple (e0::eM::es) x1 tpos] [] cpos) pos) (kE (Hw K "list" nH (pH i) (cI (DX (cI t0 (cI tM tA))) lG))))
  (hst:starEach (e0::eM::es) X.env=(false,eval e0 X.env)::starEach (eM::es) X.env:=by rfl) (hst2:starEach (eM::es) X.env=(false,eval eM X.env)::starEach es X.env:=by rfl) :
  YS K X (.Expr (.Call (.Attribute a m apos) [.Tuple (e0::eM::es) x1 tpos] [] cpos) pos) (kE (Hw K "list" nH (pH i) (cI (DX (cI t0 (cI tM tA))) lG))) (iW i (Vj i f0 gM fs)):=
 Dt i (hp hl (RX (cH h0.pe (cH hM.pe hA.pa hst2) hst))) (aDG h0.ev hM.ev hA.ev)
def Vk(is:List Nat)(g:GM):GS:=fun env=>match g env with
 | some (.tup ds,env')=>if(is.length=ds.length∧is.all (fun i=>decide (i<env'.length))=true)∧D.eU ds=true then .next (oU env' is ds)else .bad
 | _=>.bad
B5 aDH{is:List Nat}{n:Nat}{tg e:Expr}{te:TE}{g:GM}(h:XM K X e te g)(hp:PE X e te→PS X (.Assign [tg] e pos) (wF te (Wv K n (nU is))))(hn:n=is.length:=by rfl):YS K X (.Assign [tg] e pos) (wF te (Wv K n (nU is))) (Vk is g):=⟨hp h.pe,fun B E σ H env r p=>by
 B4 Vk at p
 split at p
 ·rename_i ds env' q
  split at p
  ·rename_i hc
   &h.ev B σ H env _ env' _ r q fun v H' r'=>?_
   have rv:=r'.aAX
   B4 Rv at rv
   B3⟨ad,xs,rfl,o1,o2⟩:=rv
   &⟨ad,xs,rfl,o1,by rw[o2.length,hn,hc.1.1],?_⟩
   ~Oh (r'.pop.x (R:=nil) (aU.refl _) fun x z=>z.elim) (wI _ _ hc.2 o2) hc.1.1 (fun i hi=>of_decide_eq_true (M8.mp hc.1.2 i hi)) fun σ' r2=>p σ' H' r2
  ·~p.elim
 ·~p.elim⟩
def aGx:R2:=fun x y H Q=>∃(a:Addr)(o:Option V),y=.ref a∧Ky H a x o∧Q (.bl o.isSome) H
B5 aGy(hu:X.A.units+1<cLine):uM X (compareOp .In) aGx:=by
 intro pins s σ H x y v u Q I rx ry h
 B3⟨a,o,rfl,g,q⟩:=h
 B3 rfl:u=Value.ref a:=ry
 ~aHO hu I g rx fun s3 I3=>⟨.bl o.isSome,H,I3,rfl,q⟩
def uz(a b:D):Option D:=match b with
 | .dk ks ds=>Dk false a (.dk ks ds)
 | b=>xq false a b
B5 aGz(hu:X.A.units+1<cLine)(hk:X.K=K):uM X (compareOp .In) (fun x y H Q=>rIn K false x y H Q∨aGx x y H Q):=(aEo hk).or (aGy hu)
B5 aGA:RB K (fun x y H Q=>rIn K false x y H Q∨aGx x y H Q) uz:=fun x y H a b d Q ra rb q k=>by
 B4 uz at q
 split at q
 ·rename_i ks ds
  &.inr ?_
  B3⟨p,o,e1,e2,e3⟩:=Ob q ra rb
  subst e3
  ~⟨p,o,e1,e2,k _ H (aU.refl _) (.jF rfl (by B4 Rv;rfl))⟩
 ·~.inl (GQ false x y H a b d Q ra rb q k)
end
end L2


namespace L2
open PySem PySem.Spec PyProof.Rows
abbrev aJ(ns:List Int):D:=.lst (ns.map D.int)
B5 Ir{i:Nat}{g:GS}(I:Nat→EN→Prop):∀(xs:List D)(env:EN)(n:Nat),I n env→(∀k x env,xs[k]?=some x→I (n+k) env→i<env.length∧∃env',g (env.set i (.fro x))=.next env'∧I (n+k+1) env')→∃env',By i g xs env=.next env'∧I (n+xs.length) env'
 | [],env,n,h,_=>⟨env,by B4 By;rfl,h⟩
 | x::xs,env,n,h,st=>by
  B3⟨h1,env',h2,h3⟩:=st 0 x env rfl h
  B3⟨cZ,a1,a2⟩:=Ir I xs env' (n+1) h3 fun k y e hk hi=>by
   have:=st (k+1) y e (by simpa using hk) (by rw[show n+(k+1)=n+1+k by omega];~hi)
   rw[show n+(k+1)+1=n+1+k+1 by omega]at this
   ~this
  &⟨cZ,?_,?_⟩
  ·B4 By
   rw[if_pos h1,h2]
   ~a1
  ·rw[D8,show n+(xs.length+1)=n+1+xs.length by omega]
   ~a2
B5 eG{g1 g2:GS}{env env':EN}(h:g1 env=.next env'):aW g1 g2 env=g2 env':=by B4 aW;rw[h]
B5 Gf{g1 g2:GS}{env:EN}{d:D}(h:g1 env=.ret d):aW g1 g2 env=.ret d:=by B4 aW;rw[h]
B5 vO{f:FT}{g1 g2:GS}{env:EN}(h:f (rE env)=some true):qP f g1 g2 env=g1 env:=by B4 qP;rw[h]
B5 lZ{f:FT}{g1 g2:GS}{env:EN}(h:f (rE env)=some false):qP f g1 g2 env=g2 env:=by B4 qP;rw[h]
B5 wR{i:Nat}{f:FE}{env:EN}{d:D}(h:f (rE env)=some d)(hi:i<env.length):cV i f env=.next (env.set i (.own d)):=by B4 cV;rw[h];dsimp only;rw[if_pos hi]
B5 fY{f:FE}{env:EN}{d:D}(h:f (rE env)=some d):gB f env=.ret d:=by B4 gB;rw[h]
B5 Pk{i:Nat}{fi:FA}{g:GS}{env:EN}{xs:List D}(h:fi (rE env)=some xs):xW i fi g env=By i g xs env:=by B4 xW;rw[h]
B5 aDI{js:List Nat}{i:Nat}{fi:FA}{g:GS}{env Ca:EN}{xs:List D}(h0:yM js env=Ca)(h:fi (zE Ca)=some xs):Oe js i fi g env=By i g xs Ca:=by B4 Oe;rw[h0,h]
B5 oW{n m:Nat}{g:GS}{ds:List D}{d:D}(hl:ds.length=m)(h:g (ds.map SD.fro++E7 (n-m) SD.no)=.ret d):qR n m g ds=some d:=by B4 qR;rw[if_pos hl,h]
B5 aK{φ:D→D→Option D}{f g:FE}{e:DE}{a b d:D}(h1:f e=some a)(h2:g e=some b)(h:φ a b=some d):f2 φ f g e=some d:=by B4 f2;rw[h1,h2];~h
B5 fG{φ:List D→Option D}{fs:FA}{e:DE}{ds:List D}{d:D}(h1:fs e=some ds)(h:φ ds=some d):fL φ fs e=some d:=by B4 fL;rw[h1];~h
B5 aA{f:FE}{fs:FA}{e:DE}{a:D}{r:List D}(h1:f e=some a)(h2:fs e=some r):aB f fs e=some (a::r):=by B4 aB;rw[h1,h2];rfl
B5 bW{n:Nat}{F:List D→Option D}{fs:FA}{e:DE}{ds:List D}{d:D}(h1:fs e=some ds)(hl:ds.length=n)(h:F ds=some d):dW n F fs e=some d:=by B4 dW;rw[h1];dsimp only[B9];rw[if_pos hl];~h
B5 cJ{f:FE}{e:DE}{b:Bool}(h:f e=some (.bl b)):fB f e=some b:=by B4 fB;rw[h];rfl
B5 Gg{f:FT}{e:DE}{b:Bool}(h:f e=some b):Xu f e=some (!b):=by B4 Xu;rw[h];rfl
B5 aBi{f g:FT}{e:DE}(h:f e=some false):qt f g e=g e:=by B4 qt;rw[h];rfl
B5 aBj{f g:FT}{e:DE}(h:f e=some true):Dl f g e=g e:=by B4 Dl;rw[h];rfl
B5 aBk{f g:FT}{e:DE}(h:f e=some false):Dl f g e=some false:=by B4 Dl;rw[h];rfl
B5 bC{f:FE}{e:DE}{d:D}(h:f e=some d)(i:d.jF=true):cN f e=some d:=Um.mpr ⟨h,i⟩
B5 bR(i j:Int):dD (.int i) (.int j)=some (.int (i+j)):=rfl
B5 lM(i j:Int):Di (.int i) (.int j)=some (.int (i-j)):=by B4 Di Lr;~if_pos True.intro
B5 fQ{i j:Int}(h:Rr i j):tR (.int i) (.int j)=some (.int (i*j)):=by B4 tR Lr;~if_pos h
B5 dX{i j:Int}(h:0<j)(h2:j<1073741824):sO (.int i) (.int j)=some (.int (i/j)):=by B4 sO Lr;~if_pos (show lr i j from⟨h,h2⟩)
B5 bF{i j:Int}(h:0<j):fO (.int i) (.int j)=some (.int (i%j)):=by B4 fO Lr;~if_pos h
B5 nD{i j:Int}(h:lu i j):Bw (.int i) (.int j)=some (.int (i ^ j.toNat)):=by B4 Bw Lr;~if_pos h
B5 wU(i j:Int):dLt (.int i) (.int j)=some (.bl (decide (i<j))):=by B4 dLt Lr;~if_pos True.intro
B5 Yo(i j:Int):dGt (.int i) (.int j)=some (.bl (decide (j<i))):=by B4 dGt Lr;~if_pos True.intro
B5 Yp(i j:Int):dGe (.int i) (.int j)=some (.bl (decide (j≤i))):=by B4 dGe Lr;~if_pos True.intro
B5 Yq(i j:Int):dLe (.int i) (.int j)=some (.bl (decide (i≤j))):=by B4 dLe Lr;~if_pos True.intro
B5 jd(i j:Int):decide (V.int i=V.int j)=decide (i=j):=by
 by_cases c:i=j
 ·subst c;simp
 ·rw[decide_eq_false c,decide_eq_false (fun z=>c (by cases z;rfl))]
B5 nM(i j:Int):Ls (.int i) (.int j)=some (.bl (decide (i=j))):=by
 B4 Ls toV
 dsimp only
 rw[if_pos (by rfl),jd]
B5 Gh(i j:Int):RC (.int i) (.int j)=some (.bl (!decide (i=j))):=by
 B4 RC toV
 dsimp only
 rw[if_pos (by rfl),jd]
B5 WQ{α:Type}{xs:List α}{i:Int}{x:α}(h0:0≤i)(h:xs[i.toNat]?=some x):QX xs i=some x:=by
 have h1:i.toNat<xs.length:=by
  B3⟨h1,_⟩:=D4.mp h
  ~h1
 B4 QX QW
 rw[if_pos h0,if_pos A6]
 ~h
B5 aDJ{α:Type}{xs:List α}{x:α}(h:xs.getLast?=some x):QX xs (-1)=some x:=by
 have hl:0<xs.length:=by
  cases xs with
  | nil=>simp at h
  | cons=>simp
 B4 QX QW
 rw[if_neg A6,if_pos A6]
 show xs[((-1:Int)+(xs.length:Int)).toNat]?=some x
 rw[X9]at h
 rw[show ((-1:Int)+(xs.length:Int)).toNat=xs.length-1 by omega]
 ~h
B5 uA{ds:List D}{i:Int}{d:D}(h0:0≤i)(h:ds[i.toNat]?=some d):fJ (.lst ds) (.int i)=some d:=WQ h0 h
B5 uB{ds:List D}{i:Int}{d:D}(h0:0≤i)(h:ds[i.toNat]?=some d):fJ (.tup ds) (.int i)=some d:=WQ h0 h
B5 iY{ns:List Int}{i:Int}(h0:0≤i)(h:i<ns.length):fJ (aJ ns) (.int i)=some (.int (ns.getD i.toNat 0)):=WQ h0 (by
 rw[C4,B8,B6 (show i.toNat<ns.length by omega)];rfl)
B5 Pn(ds:List D):jU [.lst ds]=some (.int ds.length):=rfl
B5 pK(ns:List Int):jU [aJ ns]=some (.int ns.length):=by show some (D.int ((ns.map D.int).length:Nat))=_;rw[B7]
B5 Vl{c:D→Option Bool}{el:D→Option D}{φ:D→D}:∀{xs:List D},(∀x∈xs,c x=some true)→(∀x∈xs,el x=some (φ x))→oO c el xs=some (xs.map φ)
 | [],_,_=>by B4 oO;rfl
 | x::xs,hc,he=>by
  B4 oO
  rw[hc x C9,he x C9,Vl (xs:=xs) (fun y hy=>hc y (C6 _ hy)) fun y hy=>he y (C6 _ hy)]
  rfl
B5 Gi{c:D→Option Bool}{el:D→Option D}{p:D→Bool}{φ:D→D}:∀{xs:List D},(∀x∈xs,c x=some (p x))→(∀x∈xs,p x=true→el x=some (φ x))→oO c el xs=some ((xs.filter p).map φ)
 | [],_,_=>by B4 oO;rfl
 | x::xs,hc,he=>by
  have ih:=Gi (xs:=xs) (p:=p) (φ:=φ) (fun y hy=>hc y (C6 _ hy)) fun y hy=>he y (C6 _ hy)
  B4 oO
  rw[hc x C9,B9,l7]
  cases q:p x with
  | true=>rw[if_pos rfl,if_pos rfl,he x C9 q,ih];rfl
  | false=>rw[if_neg A8,if_neg A8];~ih
B5 zK{fi:FA}{fr:List Nat}{fc:FT}{fe:FE}{e:DE}{xs ys:List D}(h1:fi e=some xs)(hl:xs.length≤100000)(h:oO (fun x=>fc (some x::rF e fr)) (fun x=>fe (some x::rF e fr)) xs=some ys):jG fi fr fc fe e=some (.lst ys):=by
 B4 jG
 rw[h1,B9,if_pos hl,h]
 rfl
B5 wV(lo:Int)(n:Nat):(iJ lo n).length=n:=by B4 iJ;rw[B7,E3]
B5 Dw{lo:Int}{n k:Nat}{x:D}(h:(iJ lo n)[k]?=some x):k<n∧x=.int (lo+k):=by
 B4 iJ at h
 rw[C4]at h
 cases q:(D2 n)[k]? with
 | none=>rw[q]at h;cases h
 | some j=>
  rw[q]at h
  B3⟨h1,h2⟩:=D4.mp q
  rw[E3]at h1
  rw[List.getElem_range]at h2
  subst h2
  ~⟨h1,(F1 h).symm⟩
B5 Dy{lo:Int}{n:Nat}{x:D}(h:x∈iJ lo n):∃k:Nat,k<n∧x=.int (lo+k):=by
 B3⟨k,hk,e⟩:=J1 h
 B3⟨a1,a2⟩:=Dw (k:=k) (x:=x) (by rw[B6 hk,e])
 ~⟨k,a1,a2⟩
B5 KJ{fs:FA}{e:DE}{n:Int}(h:fs e=some [.int n])(h1:-100000≤n)(h2:n≤100000):rC fs e=some (iJ 0 n.toNat):=by
 B4 rC
 rw[h]
 dsimp only[B9]
 rw[if_pos (show lim n=true from decide_eq_true ⟨h1,h2⟩)]
B5 aBl{fs:FA}{e:DE}{i j:Int}(h:fs e=some [.int i,.int j])(h1:-100000≤i)(h2:i≤100000)(h3:-100000≤j)(h4:j≤100000):HQ fs e=some (iJ i (j-i).toNat):=by
 B4 HQ
 rw[h]
 dsimp only[B9]
 rw[if_pos ⟨show lim i=true from decide_eq_true ⟨h1,h2⟩,show lim j=true from decide_eq_true ⟨h3,h4⟩⟩]
B5 Dz{i j:Int}(h1:-18446744073709551616<i)(h2:i<18446744073709551616):Rr i j:=.inl ⟨h1,h2⟩
B5 aIn{i j:Int}(h1:-18446744073709551616<j)(h2:j<18446744073709551616):Rr i j:=.inr ⟨h1,h2⟩
B5 aBm{i:Nat}{f:FE}{env:EN}{ds:List D}{d:D}(h1:env[i]?=some (.own (.lst ds)))(h2:f (rE env)=some d)(hl:ds.length<100000):zB i cR f env=.next (env.set i (.own (.lst (ds++[d])))):=by
 B4 zB cR
 rw[h1,h2]
 dsimp only[eV]
 rw[if_pos hl]
 rfl
end L2


namespace L2
open PySem PySem.Spec PyProof.Rows
section
variable{i j:Nat}{f:FE}{c:FT}{g1 g2 g:GS}{env env':EN}{d:D}{r:SR}{ds:List D}
B5 WR(h:f (rE env)=some d)(hi:i<env.length)(k:g (env.set i (.own d))=r):aW (cV i f) g env=r:=(eG (wR h hi)).trans k
B5 aEI{b:Bool}(h:c (rE env)=some b)(k1:b=true→aW g1 g env=r)(k2:b=false→aW g2 g env=r):aW (qP c g1 g2) g env=r:=by
 cases b with
 | true=>have k:=k1 rfl;B4 aW at k ⊢;rw[vO h];~k
 | false=>have k:=k2 rfl;B4 aW at k ⊢;rw[lZ h];~k
B5 WT{b:Bool}(h:c (rE env)=some b)(hb:b=false)(k:aW g2 g env=r):aW (qP c g1 g2) g env=r:=aEI h (fun z=>by rw[hb]at z;cases z) fun _=>k
B5 aGB{b:Bool}(h:c (rE env)=some b)(hb:b=true)(k:aW g1 g env=r):aW (qP c g1 g2) g env=r:=aEI h (fun _=>k) (fun z=>by rw[hb]at z;cases z)
B5 aBn(k:g env=r):aW fX g env=r:=k
B5 aIo(h:f (rE env)=some d)(k:SR.ret d=r):aW (gB f) g env=r:=(Gf (fY h)).trans k
B5 aEJ(h:g1 env=.next env')(k:g env'=r):aW g1 g env=r:=(eG h).trans k
B5 KN{b:Bool}(h:c (rE env)=some b)(k1:b=true→g1 env=r)(k2:b=false→g2 env=r):qP c g1 g2 env=r:=by
 cases b with
 | true=>rw[vO h];~k1 rfl
 | false=>rw[lZ h];~k2 rfl
B5 Vm(h:env[i]?=some (.own d)):Kd i env=.ret d:=by B4 Kd;rw[h]
B5 nO{fs:FA}{e:DE}(h:fs e=some ds)(hl:ds.length≤100000):vI fs e=some (.tup ds):=by B4 vI cap;rw[h];dsimp only[B9];rw[if_pos hl]
B5 gH{fs:FA}{e:DE}(h:fs e=some ds)(hl:ds.length≤100000):lX fs e=some (.lst ds):=by B4 lX cap;rw[h];dsimp only[B9];rw[if_pos hl]
B5 uC{e:DE}{z:Int}(h:f e=some (.int z)):Dq f e=some (.int (-z)):=by B4 Dq;rw[h];rfl
B5 aDK{e:DE}{T:String}{d':D}(h:f e=some d)(k:HW T d=some d'):aAM T f e=some d':=by B4 aAM;rw[h];~k
B5 Yr{e:DE}{c':FT}{a b:Bool}(h:c e=some a)(k:c' e=some b):Dl c c' e=some (a&&b):=by
 B4 Dl;rw[h]
 cases a with
 | true=>~k
 | false=>rfl
B5 aBo{e:DE}{c':FT}{a b:Bool}(h:c e=some a)(k:c' e=some b):qt c c' e=some (a||b):=by
 B4 qt;rw[h]
 cases a with
 | true=>rfl
 | false=>~k
B5 kO{e:DE}(h:f e=some (.lst ds)):oK f e=some ds:=by B4 oK;rw[h];rfl
B5 aBp{e:DE}(h:f e=some (.tup ds)):oK f e=some ds:=by B4 oK;rw[h];rfl
B5 Vn{a b:List D}(h:D.eU (a++b)=true)(hl:a.length+b.length≤100000):dD (.lst a) (.lst b)=some (.lst (a++b)):=by
 show (if D.eU (a++b)=true∧a.length+b.length≤100000 then some (D.lst (a++b))else none)=_
 rw[if_pos ⟨h,hl⟩]
B5 rZ(d:D)(ds:List D):D.eU (d::ds)=(d.jF&&D.eU ds):=by rw[D.eU]
B5 KQ{a b:List D}:D.eU (a++b)=(D.eU a&&D.eU b):=by
 induction a with
 | nil=>rw[a8,D.eU];rfl
 | cons x a ih=>rw[Q1,rZ,rZ,ih,Bool.and_assoc]
B5 Gj{ds:List D}(h:∀d∈ds,d.jF=true):D.eU ds=true:=by
 induction ds with
 | nil=>B4 D.eU;rfl
 | cons d ds ih=>B4 D.eU;rw[h d C9,ih fun e he=>h e (C6 _ he)];rfl
B5 lN(ns:List Int):(dTup ns).jF=true:=by B4 dTup D.jF;~dG ns
B5 sE(h:D.eU ds=true):dList [.lst ds]=some (.lst ds):=by
 show (if D.eU ds=true then some (D.lst ds)else none)=_
 rw[if_pos h]
B5 Ea(ns:List Int):tY (ns.map D.int)=some (ns.map DV.int):=by
 induction ns with
 | nil=>B4 tY;rfl
 | cons n ns ih=>rw[D5];B4 tY kJ;rw[B9,ih];rfl
B5 KR(ns ms:List Int):Ls (aJ ns) (aJ ms)=some (.bl (decide (ns=ms))):=by
 B4 Ls toV
 dsimp only
 B4 kJ
 rw[Ea,Ea]
 dsimp only[G7]
 rw[if_pos (by B4 DV.depth;rw[Dg];decide)]
 congr 2
 rw[N3,vG,decide_eq_true_iff]
 constructor
 ·intro z;injection z with z;~GJ.mp z
 ·intro z;rw[z]
end
end L2
namespace L2
B5 pW{i:Nat}{e:DE}{d:D}(h:e[i]?=some (some d)):aD i e=some d:=by B4 aD;rw[h];rfl
B5 aIp{e:DE}{d:D}:fC d e=some d:=rfl
B5 KY{e:DE}:aO e=some []:=rfl
end L2
namespace L2
B5 aBq{i:Nat}{fi:FA}{gb:GS}{env:EN}{n:Nat}(I:Nat→EN→Prop)(h:fi (rE env)=some (iJ 0 n))(h0:I 0 env)
  (st:∀(k:Nat) env,k<n→I k env→i<env.length∧∃env',gb (env.set i (.fro (.int k)))=.next env'∧I (k+1) env'):∃env',xW i fi gb env=.next env'∧I n env':=by
 B3⟨env',h1,h2⟩:=Ir (i:=i) (g:=gb) I (iJ 0 n) env 0 h0 fun k x e hx hi=>by
  rw[P0]at hi ⊢
  B3⟨hk,rfl⟩:=Dw hx
  rw[Y4]
  ~st k e hk hi
 rw[P0,wV]at h2
 ~⟨env',(Pk h).trans h1,h2⟩
B5 Vo{α β:Type}(φ:α→β):∀(l:List α)(k:Nat),(l.map φ).eraseIdx k=(l.eraseIdx k).map φ
 | [],k=>by simp
 | a::l,0=>by simp
 | a::l,k+1=>by rw[D5,N1,N1,D5,Vo φ l k]
B5 Ys{i j:Nat}{f:FE}{env:EN}{ns ms:List Int}{k:Int}(h1:env[i]?=some (.own (aJ ns)))(h2:env[j]?=some (.own (aJ ms)))(h3:f (rE env)=some (.int k))(hij:i≠j)(hn:ns.length<1000)(hm:ms.length<1000)(k0:0≤k)(k1:k<ms.length) :
  Ax i j f env=.next ((env.set j (.own (aJ (ms.eraseIdx k.toNat)))).set i (.own (aJ (ns++[ms.getD k.toNat 0])))):=by
 have hk:k.toNat<ms.length:=by omega
 B4 Ax
 rw[h1,h2,h3]
 dsimp only
 rw[if_pos ⟨hij,by rw[B7];omega,k0,by rw[B7];~k1,by rw[B7];omega⟩]
 have e:(ms.map D.int)[k.toNat]?=some (.int (ms.getD k.toNat 0)):=by
  rw[C4,B8,B6 hk];rfl
 rw[e]
 dsimp only
 rw[if_pos (show D.jF (.int (ms.getD k.toNat 0))=true from rfl)]
 have e1:(ms.map D.int).eraseIdx k.toNat=(ms.eraseIdx k.toNat).map D.int:=by
  rw[Vo]
 have e2:ns.map D.int++[D.int (ms.getD k.toNat 0)]=(ns++[ms.getD k.toNat 0]).map D.int:=by rw[J0];rfl
 rw[e1,e2]
B5 wW(ns:List Int)(n:Int):D.lst (ns.map D.int++[.int n])=aJ (ns++[n]):=by B4 aJ;rw[J0];rfl
end L2


namespace L2
open PySem PySem.Spec PyProof.Rows
def Qs(Pr:SR→Prop)(r:SR):Prop:=Pr r
section
variable{i j:Nat}{f:FE}{c:FT}{g1 g2 g gb:GS}{env env':EN}{d:D}{ds:List D}{Pr:SR→Prop}
B5 cL(h:f (rE env)=some d)(hi:i<env.length)(k:Qs Pr (g (env.set i (.own d)))):Qs Pr (aW (cV i f) g env):=by rw[eG (wR h hi)];~k
B5 aBr(h:f (rE env)=some d)(hi:i<env.length)(k:Pr (.next (env.set i (.own d)))):Qs Pr (cV i f env):=by rw[wR h hi];~k
B5 aBs(h:g1 env=.next env')(k:Qs Pr (g env')):Qs Pr (aW g1 g env):=by rw[eG h];~k
B5 Le(k:Qs Pr (g env)):Qs Pr (aW fX g env):=k
B5 aBt(k:Pr (.next env)):Qs Pr (fX env):=k
B5 Yt{b:Bool}(h:c (rE env)=some b)(k1:b=true→Qs Pr (aW g1 g env))(k2:b=false→Qs Pr (aW g2 g env)):Qs Pr (aW (qP c g1 g2) g env):=by
 cases b with
 | true=>have k:=k1 rfl;B4 aW at k ⊢;rw[vO h];~k
 | false=>have k:=k2 rfl;B4 aW at k ⊢;rw[lZ h];~k
B5 zL{b:Bool}(h:c (rE env)=some b)(k1:b=true→Qs Pr (g1 env))(k2:b=false→Qs Pr (g2 env)):Qs Pr (qP c g1 g2 env):=by
 cases b with
 | true=>rw[vO h];~k1 rfl
 | false=>rw[lZ h];~k2 rfl
B5 Vp{b:Bool}(h:c (rE env)=some b)(hb:b=false)(k:Qs Pr (aW g2 g env)):Qs Pr (aW (qP c g1 g2) g env):=Yt h (fun z=>by rw[hb]at z;cases z) fun _=>k
B5 aEK{b:Bool}(h:c (rE env)=some b)(hb:b=true)(k:Qs Pr (aW g1 g env)):Qs Pr (aW (qP c g1 g2) g env):=Yt h (fun _=>k) (fun z=>by rw[hb]at z;cases z)
B5 aBu{b:Bool}(h:c (rE env)=some b)(hb:b=false)(k:Qs Pr (g2 env)):Qs Pr (qP c g1 g2 env):=zL h (fun z=>by rw[hb]at z;cases z) fun _=>k
B5 KZ(h:f (rE env)=some d)(k:Pr (.ret d)):Qs Pr (aW (gB f) g env):=by rw[Gf (fY h)];~k
B5 uV(h:f (rE env)=some d)(k:Pr (.ret d)):Qs Pr (gB f env):=by rw[fY h];~k
B5 aBv(h:env[i]?=some (.own d))(k:Pr (.ret d)):Qs Pr (Kd i env):=by rw[Vm h];~k
B5 aIq(h1:env[i]?=some (.own (.lst ds)))(h2:f (rE env)=some d)(hl:ds.length<100000)(k:Qs Pr (g (env.set i (.own (.lst (ds++[d])))))):Qs Pr (aW (zB i cR f) g env):=by rw[eG (aBm h1 h2 hl)];~k
B5 Yu{fi:FA}{n:Nat}(I:Nat→EN→Prop)(h:fi (rE env)=some (iJ 0 n))(h0:I 0 env)
  (st:∀(k:Nat) env,k<n→I k env→i<env.length∧Qs (fun r=>∃env',r=.next env'∧I (k+1) env') (gb (env.set i (.fro (.int k))))) (k:∀env',I n env'→Qs Pr (g env')):Qs Pr (aW (xW i fi gb) g env):=by
 B3⟨env',h1,h2⟩:=aBq (gb:=gb) I h h0 fun k env hk hi=>⟨(st k env hk hi).1,let ⟨e,a,b⟩:=(st k env hk hi).2;⟨e,a,b⟩⟩
 rw[eG h1]
 ~k env' h2
B5 je{js:List Nat}{fi:FA}{Ca:EN}{xs:List D}(I:Nat→EN→Prop)(hf:yM js env=Ca)(h:fi (zE Ca)=some xs)(h0:I 0 Ca)
  (st:∀(k:Nat) x env,xs[k]?=some x→I k env→i<env.length∧Qs (fun r=>∃env',r=.next env'∧I (k+1) env') (gb (env.set i (.fro x)))) (k:∀env',I xs.length env'→Qs Pr (g env')):Qs Pr (aW (Oe js i fi gb) g env):=by
 B3⟨env',h1,h2⟩:=Ir (i:=i) (g:=gb) I xs Ca 0 h0 fun k x e hx hi=>by
  rw[P0]at hi ⊢
  ~⟨(st k x e hx hi).1,let ⟨e,a,b⟩:=(st k x e hx hi).2;⟨e,a,b⟩⟩
 rw[P0]at h2
 rw[eG ((aDI hf h).trans h1)]
 ~k env' h2
B5 aIr{is:List Nat}(h:f (rE env)=some (.tup ds))(hl:is.length=ds.length)(hi:is.all (fun i=>decide (i<env.length))=true)(k:Qs Pr (g (oU env is ds))):Qs Pr (aW (wN is f) g env):=by
 have:wN is f env=.next (oU env is ds):=by B4 wN;rw[h];dsimp only;rw[if_pos ⟨hl,hi⟩]
 rw[eG this]
 ~k
B5 sW{n m:Nat}{Pd:D→Prop}(hl:ds.length=m)(h:Qs (fun r=>∃d,r=.ret d∧Pd d) (g (ds.map SD.fro++E7 (n-m) SD.no))):∃d,qR n m g ds=some d∧Pd d:=by
 B3⟨d,h1,h2⟩:=h
 ~⟨d,oW hl h1,h2⟩
B5 Bj{fs:FA}{e:DE}{n:Nat}(h:fs e=some [.int (n:Int)])(hn:n≤100000):rC fs e=some (iJ 0 n):=by
 rw[KJ h A6 A6,C8]
end
end L2
namespace L2
B5 Eb{fi:FA}{fr:List Nat}{fe:FE}{e:DE}{n:Nat}{φ:Nat→D}(h1:fi e=some (iJ 0 n))(hn:n≤1000)(he:∀k:Nat,k<n→fe (some (.int k)::rF e fr)=some (φ k)):jG fi fr nY fe e=some (.lst ((D2 n).map φ)):=by
 &zK h1 (by rw[wV];omega) ?_
 &(Vl (c:=fun x=>nY (some x::rF e fr)) (φ:=fun x=>match x with | .int i=>φ i.toNat | d=>d) (fun _ _=>rfl) ?_).trans ?_
 rotate_left
 ·congr 1
  B4 iJ
  rw[K4]
  apply R9
  intro k _
  show φ ((0:Int)+(k:Int)).toNat=φ k
  rw[Y4,C8]
 ·intro x hx
  B3⟨k,hk,rfl⟩:=Dy hx
  rw[Y4]
  show _=some (φ ((k:Int)).toNat)
  rw[C8]
  ~he k hk
B5 Iu{fi:FA}{fr:List Nat}{fe:FE}{e:DE}{α:Type}{xs:List α}{ψ φ:α→D}(h1:fi e=some (xs.map ψ))(hn:xs.length≤1000)(he:∀x∈xs,fe (some (ψ x)::rF e fr)=some (φ x)):jG fi fr nY fe e=some (.lst (xs.map φ)):=by
 &zK h1 (by rw[B7];omega) ?_
 clear h1 hn
 induction xs with
 | nil=>rw[L3,L3];B4 oO;rfl
 | cons x xs ih=>
  rw[D5]
  B4 oO
  show (some true).bind _=_
  rw[B9,if_pos rfl,he x C9,B9,ih fun y hy=>he y (C6 _ hy)]
  rfl
B5 Pq{α:Type} [Inhabited α]:∀(l:List α)(k:Nat)(d:α),k<l.length→(l.getD k d::l.eraseIdx k).Perm l
 | [],k,d,h=>absurd h (by simp)
 | a::l,0,d,_=>by simp
 | a::l,k+1,d,h=>by
  rw[N1,W3]
  ~(p6 _ _ _).trans ((Pq l k d (by simpa using h)).cons a)
B5 jW{α:Type}{l:List α}{k:Nat}{x d:α}(h:l[k]?=some x):l.getD k d=x:=by rw[B8,h];rfl
B5 gY{α:Type}{l:List α}{k:Nat}{d:α}(h:k<l.length):l[k]?=some (l.getD k d):=by rw[B8,B6 h];rfl
B5 aGC{b:Bool}{f:FE}{l h:FO}{e:DE}{ds:List D}{lo hi:Option Int}(h1:f e=some (.lst ds))(h2:l e=some lo)(h3:h e=some hi)(h4:b=false∨D.eU (yH ds lo hi)=true):qw b f l h e=some (.lst (yH ds lo hi)):=by
 B4 qw
 rw[h1,h2,h3]
 dsimp only[B9]
 rw[if_pos h4]
B5 sX(ns ms:List Int)(h:ns.length+ms.length≤100000):dD (aJ ns) (aJ ms)=some (aJ (ns++ms)):=by
 have:=Vn (a:=ns.map D.int) (b:=ms.map D.int) (by rw[KQ,dG,dG];rfl) (by rw[B7,B7];~h)
 rw[←J0]at this
 ~this
end L2


namespace L2
open PySem PySem.Spec PyProof.Rows
section
variable{i j:Nat}{f:FE}{c:FT}{g1 g2 g gb:GS}{env env':EN}{d:D}{ds:List D}{Pr:SR→Prop}
B5 aDL{x:D}(h:ds.getLast?=some x):fJ (.lst ds) (.int (-1))=some x:=aDJ h
B5 Vq{fc:FT}(I:Nat→EN→Prop)(hs:∀n env,I n env→(fc (rE env)=some false)∨(fc (rE env)=some true∧0<n∧∃env',gb env=.next env'∧I (n-1) env')):∀(fuel n:Nat)(env:EN),n<fuel→I n env→∃env' n',qQ fc gb fuel env=.next env'∧I n' env'∧fc (rE env')=some false
 | 0,n,env,h,_=>absurd h A6
 | fuel+1,n,env,h,hi=>by
  rcases hs n env hi with q | ⟨q,hn,env',h1,h2⟩
  ·~⟨env,n,by B4 qQ;rw[q],hi,q⟩
  ·B3⟨e2,n2,a1,a2,a3⟩:=Vq I hs fuel (n-1) env' A6 h2
   &⟨e2,n2,?_,a2,a3⟩
   B4 qQ
   rw[q,h1]
   ~a1
end
end L2
namespace L2
B5 jf{l:List Int}{b:Int}:(F7 b:Key)∈l.map (F7:Int→Key)↔b∈l:=by
 rw[G5]
 constructor
 ·rintro⟨a,h1,h2⟩;cases h2;~h1
 ·intro h;~⟨b,h,rfl⟩
B5 zM{l:List Int}{b:Int}(h:b∉l):posK (l.map (F7:Int→Key)) (F7 b)=none:=Aq.mpr fun z=>h (jf.mp z)
B5 aDM{i:Nat}{f f':FE}{env:EN}{ks:List Key}{ds:List D}{kd d:D}{k:Key}(h1:env[i]?=some (.own (.dk ks ds)))(h2:f (rE env)=some kd)(h3:f' (rE env)=some d)(h4:Sq kd=some k)(h5:posK ks k=none)(im:d.jF=true)(hl:ks.length<100000):pG i cR f f' env=.next (env.set i (.own (.dk (ks++[k]) (ds++[d])))):=by
 have e1:lE ks k=ks++[k]:=by B4 lE;rw[h5];rfl
 have e2:putD ks ds k d=ds++[d]:=by B4 putD;rw[h5];rfl
 B4 pG cR
 rw[h1,h2,h3]
 dsimp only[eV]
 rw[h4]
 dsimp only
 rw[if_pos ⟨im,hl⟩,e1,e2]
 rfl
B5 Vr(l:List Int):D.lst ((l.map (F7:Int→Key)).map kD)=aJ l:=by
 B4 aJ
 rw[K4]
 rfl
B5 aDN{fc:FT}{gb g:GS}{env:EN}{Pr:SR→Prop}{fuel n:Nat}(I:Nat→EN→Prop)(h0:I n env)(hn:n<fuel)(hs:∀n env,I n env→(fc (rE env)=some false)∨(fc (rE env)=some true∧0<n∧∃env',gb env=.next env'∧I (n-1) env'))
  (k:∀env' n',I n' env'→fc (rE env')=some false→Qs Pr (g env')):Qs Pr (aW (qQ fc gb fuel) g env):=by
 B3⟨env',n',a1,a2,a3⟩:=Vq I hs fuel n env hn h0
 rw[eG a1]
 ~k env' n' a2 a3
end L2
namespace L2
B5 vd(ns:List Int):GP (ns.map D.int)=some (ns.map V.int):=by
 induction ns with
 | nil=>B4 GP;rfl
 | cons n ns ih=>rw[D5];B4 GP toV;rw[B9,ih];rfl
B5 zN(neg:Bool)(i:Int)(ns:List Int):xq neg (.int i) (aJ ns)=some (.bl (if neg then !decide (i∈ns)else decide (i∈ns))):=by
 B4 xq
 show (some (V.int i)).bind _=_
 rw[B9]
 show (some (ns.map D.int)).bind _=_
 rw[B9,vd,B9,if_pos ⟨rfl,qg ns⟩,aCZ]
B5 Gk{ns:List Int}(h:ns.length<64):Ft [aJ ns]=some (aJ (sortI ns)):=by
 show (intsOf (ns.map D.int)).bind _=_
 rw[jV,B9,if_pos h]
end L2


namespace L2
open PySem PySem.Spec PyProof.Rows
def zO(ks:List Int):D:=.dk (ks.map F7) (ks.map fun _=>.bl true)
B5 aBw(i:Int)(ks:List Int):(posK (ks.map (F7:Int→Key)) (F7 i)).isSome=decide (i∈ks):=by
 by_cases c:i∈ks
 ·rw[decide_eq_true c]
  cases q:posK (ks.map (F7:Int→Key)) (F7 i)with
  | some j=>rfl
  | none=>~absurd (jf.mpr c) (Aq.mp q)
 ·rw[decide_eq_false c,zM c]
  rfl
B5 Pu(neg:Bool)(i:Int)(ks:List Int):Dk neg (.int i) (zO ks)=some (.bl (if neg then !decide (i∈ks)else decide (i∈ks))):=by
 show some (D.bl (if neg then !(posK (ks.map (F7:Int→Key)) (F7 i)).isSome else(posK (ks.map (F7:Int→Key)) (F7 i)).isSome))=_
 rw[aBw]
def Yv(ks:List Int)(k:Int):List Int:=if k∈ks then ks else ks++[k]
B5 Vs(k:Key):∀ks:List Int,R1 (fun(k':Key) (d':D)=>if k'=k then D.bl true else d') (ks.map F7) (ks.map fun _=>D.bl true)=ks.map fun _=>D.bl true
 | []=>rfl
 | a::ks=>by
  rw[D5,D5,J4,Vs k ks]
  split<;>rfl
B5 aEL{i:Nat}{f f':FE}{env:EN}{ks:List Int}{k:Int}(h1:env[i]?=some (.own (zO ks)))(h2:f (rE env)=some (.int k))(h3:f' (rE env)=some (.bl true))(hl:ks.length<1000):pG i cR f f' env=.next (env.set i (.own (zO (Yv ks k)))):=by
 B4 pG cR
 rw[h1,h2,h3]
 dsimp only[eV,zO]
 show (if D.jF (.bl true)=true∧(ks.map (F7:Int→Key)).length<100000 then _ else _)=_
 rw[if_pos ⟨rfl,by rw[B7];omega⟩]
 have e1:lE (ks.map (F7:Int→Key)) (F7 k)=(Yv ks k).map F7:=by
  B4 lE Yv
  rw[aBw]
  by_cases c:k∈ks
  ·simp[c]
  ·simp[c]
 have e2:putD (ks.map (F7:Int→Key)) (ks.map fun _=>D.bl true) (F7 k) (.bl true)=(Yv ks k).map fun _=>D.bl true:=by
  B4 putD Yv
  rw[aBw]
  by_cases c:k∈ks
  ·rw[decide_eq_true c,if_pos rfl,if_pos c,Vs]
  ·rw[decide_eq_false c,if_neg A8,if_neg c,J0]
   rfl
 rw[e1,e2]
 rfl
B5 Iv{fi:FA}{fr:List Nat}{fc:FT}{fe:FE}{e:DE}{ms:List Int}(p:Int→Bool)(φ:Int→D)(h1:fi e=some (ms.map D.int))(hn:ms.length≤1000)(hc:∀m∈ms,fc (some (.int m)::rF e fr)=some (p m))(he:∀m∈ms,p m=true→fe (some (.int m)::rF e fr)=some (φ m)) :
  jG fi fr fc fe e=some (.lst ((ms.filter p).map φ)):=by
 &zK h1 (by rw[B7];omega) ?_
 clear h1 hn
 induction ms with
 | nil=>rw[L3];B4 oO;rfl
 | cons m ms ih=>
  have ih:=ih (fun y hy=>hc y (C6 _ hy)) fun y hy=>he y (C6 _ hy)
  rw[D5]
  B4 oO
  rw[hc m C9,B9,l7]
  cases q:p m with
  | true=>rw[if_pos rfl,if_pos rfl,he m C9 q,B9,ih];rfl
  | false=>rw[if_neg A8,if_neg A8];~ih
B5 Ec{fi:FA}{fr:List Nat}{fc:FT}{fe:FE}{e:DE}{ms:List Int}(p:Int→Bool)(φ:Int→Int)(h1:fi e=some (ms.map D.int))(hn:ms.length≤1000)(hc:∀m∈ms,fc (some (.int m)::rF e fr)=some (p m))(he:∀m∈ms,p m=true→fe (some (.int m)::rF e fr)=some (.int (φ m))) :
  jG fi fr fc fe e=some (aJ ((ms.filter p).map φ)):=by
 rw[Iv p (fun m=>.int (φ m)) h1 hn hc he]
 B4 aJ
 rw[K4]
 rfl
B5 cQ{φ:D→Option D}{f:FE}{e:DE}{a d:D}(h1:f e=some a)(h:φ a=some d):pJ φ f e=some d:=by B4 pJ;rw[h1];~h
B5 WW{ns:List Int}(h:ns.length<64):ie (aJ ns)=some (aJ (RD ns)):=by
 show (intsOf (ns.map D.int)).bind _=_
 rw[jV,B9,if_pos h]
B5 LC(ns:List Int):Od [aJ ns]=some (dTup ns):=by
 B4 Od
 dsimp only
 rw[show yG (aJ ns)=some (ns.map D.int)from by B4 aJ yG;rfl,B9,if_pos (dG _)]
 rfl
B5 WX{ns:List Int}(h:0<ns.length):cu [aJ ns]=some (.int (VB ns)):=by
 show (intsOf (ns.map D.int)).bind _=_
 rw[jV,B9,if_pos h]
B5 LK{α β:Type}(φ:α→β)(l:List α)(lo hi:Option Int):yH (l.map φ) lo hi=(yH l lo hi).map φ:=by
 B4 yH
 rw[B7,←g7,←g6]
B5 Px{b:Bool}{f:FE}{l h:FO}{e:DE}{ns:List Int}{lo hi:Option Int}(h1:f e=some (aJ ns))(h2:l e=some lo)(h3:h e=some hi):qw b f l h e=some (aJ (yH ns lo hi)):=by
 rw[aGC h1 h2 h3 (.inr (by rw[LK];~dG _)),LK]
B5 aGD{α:Type}{l:List α}{c:Nat}(h:c≤l.length):yH l (some (c:Int)) none=l.drop c:=by
 B4 yH
 show (l.drop (HT.Kw l.length 0 (some (c:Int)))).take (l.length-HT.Kw l.length 0 (some (c:Int)))=_
 rw[Fg,show min c l.length=c by omega,O7 (by rw[N6];omega)]
B5 aGE{α:Type}(l:List α)(c:Nat):yH l none (some (c:Int))=l.take c:=by
 B4 yH
 show (l.drop 0).take (HT.Kw l.length l.length (some (c:Int))-0)=_
 rw[Fg,r0,j4]
 rcases J2 c l.length with z | z
 ·rw[show min c l.length=c by omega]
 ·rw[show min c l.length=l.length by omega,O7 (D1 _),O7 z]
B5 aBx{α:Type}(l:List α)(a b:Nat):yH l (some (a:Int)) (some (b:Int))=(l.drop a).take (b-a):=by
 B4 yH
 rw[Fg,Fg]
 &K5 fun k=>?_
 rw[X0,W9,X0,W9]
 rcases J2 a l.length with z | z
 ·rw[show min a l.length=a by omega]
  by_cases c:k<min b l.length-a
  ·rw[if_pos c,if_pos A6]
  ·rw[if_neg c]
   by_cases c2:k<b-a
   ·rw[if_pos c2,E1 A6]
   ·rw[if_neg c2]
 ·rw[show min a l.length=l.length by omega,E1 (show l.length≤l.length+k by omega),E1 (show l.length≤a+k by omega)]
  split<;>split<;>rfl
structure jX where
 cA:Int
 place:Int
 thing:List Int
 needs:List Int
 deriving Inhabited
def Yw(c:jX):D:=.tup [.int c.cA,.int c.place,dTup c.thing,dTup c.needs]
def vP(cs:List jX):D:=.lst (cs.map Yw)
B5 aBy(c:jX):(Yw c).jF=true:=by
 B4 Yw D.jF
 rw[rZ,rZ,rZ,rZ,lN,lN]
 rfl
B5 aBz(cs:List jX):D.eU (cs.map Yw)=true:=Gj fun d h=>by
 B3⟨c,_,rfl⟩:=G5.mp h
 ~aBy c
abbrev at_(cs:List jX)(k:Nat):jX:=cs.getD k default
B5 Yx{cs:List jX}{k:Nat}(h:k<cs.length):fJ (vP cs) (.int k)=some (Yw (at_ cs k)):=uA A6 (by
 rw[C8,C4,gY (d:=default) h]
 rfl)
B5 jg(c:jX):fJ (Yw c) (.int 0)=some (.int c.cA):=uB A8 rfl
B5 LQ(c:jX):fJ (Yw c) (.int 1)=some (.int c.place):=uB A8 rfl
B5 Py(c:jX):fJ (Yw c) (.int 2)=some (dTup c.thing):=uB A8 rfl
B5 LR(c:jX):fJ (Yw c) (.int 3)=some (dTup c.needs):=uB A8 rfl
B5 Mm(cs:List jX):jU [vP cs]=some (.int cs.length):=by show some (D.int ((cs.map Yw).length:Nat))=_;rw[B7]
def Good(cs:List jX):Prop:=cs.length≤124∧∀k,k<cs.length→(∀m∈(at_ cs k).needs,0≤m∧m<k)∧(at_ cs k).needs.Pairwise (·<·)∧(at_ cs k).needs.length≤9
def chV(c:jX):DV:=.tup [.int c.cA,.int c.place,.tup (c.thing.map DV.int),.tup (c.needs.map DV.int)]
B5 Pz(ns ms:List Int):RC (aJ ns) (aJ ms)=some (.bl (!decide (ns=ms))):=by
 have e:∀l:List Int,kJ (aJ l)=some (.lst (l.map DV.int)):=fun l=>by B4 aJ kJ;rw[Ea];rfl
 B4 RC
 rw[e,e]
 B4 toV
 dsimp only
 rw[if_pos (by rw[Dg];decide)]
 congr 3
 rw[N3,vG,decide_eq_true_iff]
 constructor
 ·intro z;injection z with z;~GJ.mp z
 ·intro z;rw[z]
end L2
namespace L2
B5 Bk{f:FE}{e:DE}{i:Int}(h:f e=some (.int i)):pI f e=some (some i):=by B4 pI;rw[h];rfl
B5 aBA(ks:List Int):Oc [zO ks]=some (aJ ks):=by
 show some (D.lst ((ks.map (F7:Int→Key)).map kD))=_
 rw[Vr]
B5 gZ{cs:List jX}{c:jX}{k:Nat}(h:k<cs.length):at_ (cs++[c]) k=at_ cs k:=by
 B4 at_
 rw[B8,B8,G3 h]
B5 nP(cs:List jX)(c:jX):at_ (cs++[c]) cs.length=c:=by
 B4 at_
 rw[B8,M0 (D1 _)]
 simp
B5 vf(cs:List jX)(c:jX):D.lst (cs.map Yw++[Yw c])=vP (cs++[c]):=by B4 vP;rw[J0];rfl
B5 vg{f:FE}{e:DE}{ns:List Int}(h:f e=some (dTup ns)):oK f e=some (ns.map D.int):=aBp h
end L2
namespace L2
B5 Vt(i j:Int):HH [.int i,.int j]=some (.int (if j > i then j else i)):=rfl
end L2


namespace L2
open PySem PySem.Spec PyProof.Rows
B5 aDO{e:DE}{f f':FE}{a b:Bool}(h:f e=some (.bl a))(k:f' e=some (.bl b)):qu f f' e=some (.bl (a||b)):=by
 B4 qu;rw[cJ h]
 cases a with
 | true=>rfl
 | false=>~k
B5 aBB{α:Type}(p:α→Bool)(l:List α):aC7 [.lst (l.map fun x=>D.bl (p x))]=some (.bl (l.all p)):=by
 show (Cv (l.map fun x=>D.bl (p x))).map _=_
 rw[Uy]
 show some (D.bl ((l.map p).all id))=_
 rw[List.all_map]
 rfl
end L2


namespace L2
open PySem PySem.Spec PyProof.Rows
B5 WY{n:Nat}(h:n≤1000):Ik (.int n)=some (aJ ((D2 n).map fun k=>((k:Nat):Int))):=by
 B4 Ik
 dsimp only
 rw[if_pos ⟨by omega,by omega⟩,C8]
 B4 aJ
 rw[K4]
 rfl
B5 kY:∀(n:Nat)(l:List Int),l.Nodup→(∀x∈l,0≤x∧x<(n:Int))→l.length≤n
 | 0,l,_,h=>by
  cases l with
  | nil=>~D1 _
  | cons a l=>
   have:=h a C9
   omega
 | n+1,l,hn,h=>by
  by_cases c:(n:Int)∈l
  ·have e:=Y2 c
   have:=kY n (l.erase (n:Int)) (hn.erase _) fun x hx=>by
    B3⟨h1,h2⟩:=(hn.mem_erase_iff).mp hx
    have:=h x h2
    omega
   omega
  ·have:=kY n l hn fun x hx=>by
    have:=h x hx
    have ne:x≠(n:Int):=fun z=>c (by rw[←z];~hx)
    omega
   omega
section
variable{i j:Nat}{f f':FE}{c:FT}{g1 g2 g gb:GS}{env env':EN}{d d0 d' r:D}{ds:List D}{Pr:SR→Prop}{v:V}{π:FP}{p:List Step}
B5 kZ{n m:Nat}(hl:ds.length=m)(h:g (ds.map SD.fro++E7 (n-m) SD.no)=.ret d):mL n m g ds=some d:=by B4 mL;rw[if_pos hl,h]
B5 Ed{n m:Nat}(hl:ds.length=m)(h:g (ds.map SD.fro++E7 (n-m) SD.no)=.next env'):mL n m g ds=some .non:=by B4 mL;rw[if_pos hl,h]
B5 jh{n m:Nat}{Pd:D→Prop}(hl:ds.length=m)(h:Qs (fun r=>∃d,r=.ret d∧Pd d) (g (ds.map SD.fro++E7 (n-m) SD.no))):∃d,mL n m g ds=some d∧Pd d:=by
 B3⟨d,h1,h2⟩:=h
 ~⟨d,kZ hl h1,h2⟩
B5 oX{n m:Nat}{es:List D}(hl:es.length+1=m)(h:∀v,Qs (JH r d' v) (g (uq n m d es v))):nC n m g (d::es)=some (r,d'):=aA3 hl h
B5 ji(h1:env[i]?=some (.inn v d))(h2:g1 (env.set i (.own d))=.next env')(h3:env'[i]?=some (.own d')):iW i g1 env=.next (env'.set i (.inn v d')):=by
 B4 iW
 rw[h1]
 dsimp only
 rw[h2]
 dsimp only
 rw[h3]
B5 qD(h1:env[i]?=some (.inn v d))(h2:g1 (env.set i (.own d))=.next env')(h3:env'[i]?=some (.own d'))(k:Qs Pr (g (env'.set i (.inn v d')))):Qs Pr (aW (iW i g1) g env):=by rw[eG (ji h1 h2 h3)];~k
B5 Qa(h1:env[i]?=some (.inn v d))(h2:g1 (env.set i (.own d))=.next env')(h3:env'[i]?=some (.own d'))(k:Pr (.next (env'.set i (.inn v d')))):Qs Pr (iW i g1 env):=by rw[ji h1 h2 h3];~k
B5 Gm(h:f (rE env)=some d):xV f env=.next env:=by B4 xV;rw[h]
B5 XC(h:f (rE env)=some d)(k:Qs Pr (g env)):Qs Pr (aW (xV f) g env):=by rw[eG (Gm h)];~k
B5 Qc(h1:env[i]?=some (.own d0))(h2:π (rE env)=some p)(h3:eV p d0=some (.lst ds))(h4:f (rE env)=some d)(hl:ds.length<100000):zB i π f env=.next (env.set i (.own (eO p d0 (.lst (ds++[d]))))):=by
 B4 zB
 rw[h1,h2,h4]
 dsimp only
 rw[h3]
 dsimp only
 rw[if_pos hl]
B5 jj{k:Int}(h1:env[i]?=some (.own d0))(h2:π (rE env)=some p)(h3:eV p d0=some (.lst ds))(h4:f (rE env)=some (.int k))(h5:f' (rE env)=some d)(k0:0≤k)(k1:k<ds.length):vL i π f f' env=.next (env.set i (.own (eO p d0 (.lst (ds.set k.toNat d))))):=by
 B4 vL
 rw[h1,h2,h4,h5]
 dsimp only
 rw[h3]
 dsimp only
 have:QW ds.length k=some k.toNat:=by B4 QW;rw[if_pos k0,if_pos k1]
 rw[this]
B5 Mq{ks:List Key}{k:Key}{kd:D}(h1:env[i]?=some (.own d0))(h2:π (rE env)=some p)(h3:eV p d0=some (.dk ks ds))(h4:f (rE env)=some kd)(h5:Sq kd=some k)(h6:f' (rE env)=some d)(im:d.jF=true)(hl:ks.length<100000):pG i π f f' env=.next (env.set i (.own (eO p d0 (.dk (lE ks k) (putD ks ds k d))))):=by
 B4 pG
 rw[h1,h2,h4,h6]
 dsimp only
 rw[h3,h5]
 dsimp only
 rw[if_pos ⟨im,hl⟩]
B5 aDP{ks:List (List Key)}{k:List Key}{fk:FK}(h1:env[i]?=some (.own d0))(h2:π (rE env)=some p)(h3:eV p d0=some (.dt ks ds))(h4:fk (rE env)=some k)(h6:f' (rE env)=some d)(im:d.jF=true)(hl:ks.length<100000):Ve i π fk f' env=.next (env.set i (.own (eO p d0 (.dt (lE ks k) (putD ks ds k d))))):=by
 B4 Ve
 rw[h1,h2,h4,h6]
 dsimp only
 rw[h3]
 dsimp only
 rw[if_pos ⟨im,hl⟩]
B5 aGF{C:Addr}{nm:List Str}{x:Str}(h1:env[i]?=some (.own d0))(h2:π (rE env)=some p)(h3:eV p d0=some (.ins C nm ds))(h4:f (rE env)=some d)(hl:nm.length<900):vM C i π x f env=.next (env.set i (.own (eO p d0 (.ins C (Vc nm ds x d).1 (Vc nm ds x d).2)))):=by
 B4 vM
 rw[h1,h2,h4]
 dsimp only
 rw[h3]
 dsimp only
 rw[if_pos ⟨rfl,hl⟩]
B5 bO{C:Addr}{m:Str}{n:Nat}{F:List D→Option D}{fo:FE}{fs:FA}{um es:List D}{e:DE}{nm:List Str}(h1:fo e=some (.ins C nm ds))(hm:m∉nm)(h2:fs e=some es)(hl:es.length+um.length+1=n)(h3:F (.ins C nm ds::(es++um))=some r):fD C m n F fo fs um e=some r:=by
 B4 fD
 rw[h1]
 dsimp only[B9]
 rw[if_pos ⟨rfl,hm⟩,h2]
 dsimp only[B9]
 rw[if_pos hl]
 ~h3
B5 jO{C:Addr}{m:Str}{F:List D→Option (D×D)}{fs:FA2}{es:List D}{nm:List Str}{back:D→SD}(h1:env[i]?.bind SD.hold=some (d0,back))(h2:π (rE env)=some p)(h3:eV p d0=some (.ins C nm ds))(hm:m∉nm)(h4:fs (rE env) (rE (env.set i .no))=some es)(h5:F (.ins C nm ds::es)=some (r,d')):oE C m i π F fs env=some (r,env.set i (back (eO p d0 d'))):=by
 B4 oE
 rw[h1,h2,h4]
 dsimp only
 rw[h3]
 dsimp only
 rw[if_pos ⟨rfl,hm⟩,h5]
 rfl
B5 MF{C:Addr}{F:List D→Option (D×D)}{fs:FA}{e:DE}{es:List D}(h1:fs e=some es)(h2:F (.ins C [] []::es)=some (.non,d')):JD C F fs e=some d':=by
 B4 JD
 rw[h1]
 dsimp only[B9]
 rw[h2]
B5 dY{fs:FA2}{eF eZ:DE}{es:List D}(h1:f eZ=some d)(h2:fs eF eZ=some es):zG f fs eF eZ=some (d::es):=by B4 zG;rw[h1,h2];rfl
B5 Qd{fs:FA2}{eF eZ:DE}{es:List D}(h1:f eF=some d)(h2:fs eF eZ=some es):faN f fs eF eZ=some (d::es):=by B4 faN;rw[h1,h2];rfl
B5 Iw{gm:GM}(h:gm env=some (d,env'))(hi:i<env'.length)(k:Qs Pr (g (env'.set i (.own d)))):Qs Pr (aW (zH i gm) g env):=by
 have:zH i gm env=.next (env'.set i (.own d)):=by B4 zH;rw[h];dsimp only;rw[if_pos hi]
 rw[eG this];~k
B5 Vu{gm:GM}(h:gm env=some (d,env')):zJ gm env=.next env':=by B4 zJ;rw[h]
B5 Mr{gm:GM}(h:gm env=some (d,env'))(k:Pr (.rete d env')):Qs Pr (Fy gm env):=by
 have:Fy gm env=.rete d env':=by B4 Fy;rw[h]
 rw[this];~k
B5 Ms(h:env[i]?=some (.own d))(k:Pr (.rete d (env.set i .no))):Qs Pr (wQ i env):=by
 have:wQ i env=.rete d (env.set i .no):=by B4 wQ;rw[h]
 rw[this];~k
B5 aGG(h:f (rE env)=some d):gmN f env=some (d,env):=by B4 gmN;rw[h];rfl
B5 Yy{f1 f2 f3:FE}{e:DE}{a b c:Int}(h1:f1 e=some (.int a))(h2:f2 e=some (.int b))(h3:f3 e=some (.int c)):ur dLe dLt f1 f2 f3 e=some (decide (a≤b)&&decide (b<c)):=by
 B4 ur
 rw[h1,h2,h3]
 dsimp only[B9]
 rw[Yq,B9]
 by_cases q:a≤b
 ·rw[decide_eq_true q]
  dsimp only
  rw[wU,B9]
  simp
 ·rw[decide_eq_false q]
  simp
B5 Vv{all:List D}(I:Nat→EN→Prop)(hI:∀k env,I k env→env[j]?=some (.inn v (.lst all))):∀(xs:List D)(n:Nat)(env:EN),I n env→(∀k x env,xs[k]?=some x→I (n+k) env→i<env.length∧∃cZ,g (env.set i (.fro x))=.next cZ∧I (n+k+1) cZ)→∃cZ,yJ j i g v all xs env=.next cZ∧I (n+xs.length) cZ
 | [],n,env,h,_=>⟨env,by B4 yJ;rw[if_pos (hI _ _ h)],h⟩
 | x::xs,n,env,h,st=>by
  B3⟨h1,cZ,h2,h3⟩:=st 0 x env rfl h
  B3⟨e3,a1,a2⟩:=Vv I hI xs (n+1) cZ h3 fun k y e hk hi=>by
   have:=st (k+1) y e (by simpa using hk) (by rw[show n+(k+1)=n+1+k by omega];~hi)
   rw[show n+(k+1)+1=n+1+k+1 by omega]at this
   ~this
  &⟨e3,?_,?_⟩
  ·B4 yJ
   rw[if_pos ⟨h1,hI _ _ h⟩,h2]
   ~a1
  ·rw[D8,show n+(xs.length+1)=n+1+xs.length by omega]
   ~a2
def lv(ns:List Int)(o:SD):Nat→SD
 | 0=>o
 | k+1=>.fro (.int (ns.getD k 0))
B5 XD{ns:List Int}(env':EN)(h:env[j]?=some (.own (aJ ns)))(h1:env'[j]?=some (.own (aJ ns)))(I:V→Nat→EN→Prop)(h0:∀v,I v 0 (env.set j (.inn v (aJ ns))))(hI:∀v k env,I v k env→env[j]?=some (.inn v (aJ ns)))(st:∀v k x env,ns[k]?=some x→I v k env→i<env.length∧∃cZ,gb (env.set i (.fro (.int x)))=.next cZ∧I v (k+1) cZ)(fin:∀v cZ,I v ns.length cZ→cZ=env'.set j (.inn v (aJ ns)))(k:Qs Pr (g env')):Qs Pr (aW (Cw j i gb) g env):=by
 have:Cw j i gb env=.next env':=aA5 h h1 fun v=>by
  B3⟨e2,a1,a2⟩:=Vv (i:=i) (g:=gb) (I v) (hI v) (ns.map D.int) 0 _ (h0 v) fun k x e hx hi=>by
   rw[P0]at hi ⊢
   rw[C4]at hx
   cases q:ns[k]? with
   | none=>rw[q]at hx;cases hx
   | some y=>
    rw[q]at hx
    cases hx
    ~st v k y e q hi
  rw[P0,B7]at a2
  rw[a1,fin v e2 a2]
 rw[eG this]
 ~k
B5 Bl(neg:Bool)(a:D):Io neg a .non=some (.bl (if neg then !a.JS else a.JS)):=rfl
B5 aEM{f g:FE}{e:DE}(h:c e=some true)(h2:f e=some d):fIf c f g e=some d:=by B4 fIf;rw[h];~h2
B5 aEN{f g:FE}{e:DE}(h:c e=some false)(h2:g e=some d):fIf c f g e=some d:=by B4 fIf;rw[h];~h2
end
end L2


local macro_rules | `(tactic| walk_at "fs")=>`(tactic| ~⟨rfl,rfl,rfl,by decide +kernel,rfl,by decide +kernel,by decide +kernel⟩)
namespace Rs
open PySem L2
def top(i:Nat):Stmt:=PySem.Challenge.pw_ripestone_k31_whole_string.main.body.getD i (.Pass ⟨0,0,0,0⟩)
def iZ:List Str:=["panes", "asked", "newest", "held", "unsettled"]
def dZ:List Str:=["bench", "spots", "string", "loose", "lasts", "comings", "goings"]
abbrev Qe:Stmt:=top 33
noncomputable def MJ:GS:=aW (qP (fB (f2 dLt (aD 1) (fL jU (aB (aD 0) aO)))) (gB (cN (f2 fJ (aD 0) (aD 1)))) fX)
 (gB (fC (.int 0)))
noncomputable def lO:List D→Option D:=qR 2 2 (MJ)
abbrev Iz:Stmt:=top 35
noncomputable def Vw:GS:=aW (cV 1 (dW 2 lO (aB (aD 0) (aB (fC (.int 0)) aO))))
 (aW (qP (fB (f2 Ls (f2 fO (f2 sO (aD 1) (fC (.int 30))) (fC (.int 8))) (fC (.int 1)))) (gB (vI (aB (f2 dD (fC (.int 1)) (f2 fO (aD 1) (fC (.int 8)))) (aB (f2 dD (fC (.int 1)) (f2 fO (f2 sO (aD 1) (fC (.int 240))) (fC (.int 8)))) aO)))) fX)
 (gB (vI (aB (f2 dD (fC (.int 1)) (f2 fO (aD 1) (fC (.int 5)))) (aB (f2 dD (fC (.int 1)) (f2 fO (f2 sO (aD 1) (fC (.int 5))) (fC (.int 6)))) aO)))))
noncomputable def vQ:List D→Option D:=qR 2 1 (Vw)
abbrev Ja:Stmt:=top 34
noncomputable def Vx:GS:=aW (cV 2 (f2 fO (f2 tR (f2 dD (f2 fO (aD 0) (fC (.int 2147483629))) (fC (.int 1))) (f2 dD (fC (.int 48271)) (f2 tR (f2 tR (fC (.int 2)) (aD 1)) (aD 1)))) (fC (.int 2147483629))))
 (gB (f2 fO (f2 tR (aD 2) (aD 2)) (fC (.int 2147483587))))
noncomputable def lA:List D→Option D:=qR 3 2 (Vx)
abbrev Ef:Stmt:=top 36
noncomputable def Qf:GS:=aW (cV 4 (dW 2 lA (aB (aD 0) (aB (f2 tR (fC (.int 5)) (aD 1)) aO))))
 (aW (cV 5 (cN (f2 fJ (lX (aB (fC (.int 0)) (aB (fC (.int 1)) (aB (fC (.int 2)) (aB (f2 tR (dW 2 lA (aB (aD 0) (aB (f2 dD (f2 tR (fC (.int 5)) (aD 1)) (fC (.int 1))) aO))) (f2 Bw (fC (.int 10)) (fC (.int 40)))) (aB (Dq (fC (.int 1))) aO)))))) (f2 fO (aD 4) (fC (.int 5))))))
 (aW (cV 6 (fC (.int 0)))
 (aW (qP (fB (f2 Ls (f2 fO (f2 sO (aD 4) (fC (.int 5))) (fC (.int 2))) (fC (.int 1)))) (cV 6 (f2 dD (fC (.int 1)) (f2 fO (f2 sO (aD 4) (fC (.int 10))) (fC (.int 9))))) fX)
 (aW (qP (fB (f2 Ls (aD 6) (fC (.int 0)))) (cV 5 (fL aDD (aB (aD 5) aO))) fX)
 (gB (vI (aB (cN (aD 2)) (aB (cN (aD 3)) (aB (cN (f2 fJ (lX (aB (Dq (fC (.int 1))) (aB (fC (.int 0)) (aB (fC (.int 5)) (aB (aD 4) aO))))) (f2 fO (f2 sO (aD 4) (fC (.int 90))) (fC (.int 4))))) (aB (cN (aD 5)) (aB (cN (aD 6)) aO)))))))))))
noncomputable def pL:List D→Option D:=qR 7 4 (Qf)
abbrev vR:Stmt:=top 37
noncomputable def Vy:GS:=aW (wN [1,2] (dW 1 vQ (aB (aD 0) aO)))
 (aW (cV 3 (fL Ge (aB (fC (.int 1)) (aB (f2 tR (aD 1) (aD 2)) aO))))
 (aW (cV 4 (lX (aB (fC (.int 0)) aO)))
 (aW (xW 5 (rC (aB (f2 fO (dW 2 lO (aB (aD 0) (aB (fC (.int 1)) aO))) (f2 tR (aD 1) (aD 2))) aO)) (Ax 4 3 (f2 fO (dW 2 lA (aB (dW 2 lO (aB (aD 0) (aB (fC (.int 1)) aO))) (aB (aD 5) aO))) (fL jU (aB (aD 3) aO)))))
 (aW (cV 6 (jG (rC (aB (aD 1) aO)) [2] nY (jG (rC (aB (aD 1) aO)) [] nY (vI (aB (fC (.int 0)) (aB (fC (.int 0)) (aB (Dq (fC (.int 1))) (aB (Dq (fC (.int 1))) (aB (fC (.int 0)) aO)))))))))
 (aW (cV 7 (dW 2 lO (aB (aD 0) (aB (fC (.int 2)) aO))))
 (aW (Oe [3] 8 (oK (aD 3)) (vL 6 (dm cR (f2 fO (aD 8) (aD 1))) (f2 sO (aD 8) (aD 1)) (dW 4 pL (aB (aD 7) (aB (aD 8) (aB (f2 fO (aD 7) (f2 Bw (fC (.int 10)) (fC (.int 9)))) (aB (f2 fO (f2 tR (aD 8) (aD 8)) (f2 tR (aD 1) (aD 2))) aO)))))))
 (aW (cV 9 (f2 fO (aD 7) (f2 Bw (fC (.int 10)) (fC (.int 58)))))
 (aW (xW 5 (rC (aB (fL jU (aB (aD 4) aO)) aO)) (aW (cV 8 (cN (f2 fJ (aD 4) (aD 5))))
 (aW (vL 6 (dm cR (f2 fO (aD 8) (aD 1))) (f2 sO (aD 8) (aD 1)) (dW 4 pL (aB (aD 7) (aB (f2 dD (aD 5) (fC (.int 100))) (aB (aD 9) (aB (f2 fJ (f2 dD (aD 4) (lX (aB (fC (.int 0)) aO))) (f2 dD (aD 5) (fC (.int 1)))) aO))))))
 (cV 9 (f2 dD (f2 dD (aD 9) (fC (.int 1))) (f2 tR (f2 fO (dW 2 lA (aB (aD 7) (aB (f2 dD (aD 5) (fC (.int 7))) aO))) (fC (.int 3))) (f2 fJ (lX (aB (fC (.int 1)) (aB (f2 Bw (fC (.int 10)) (fC (.int 40))) aO))) (f2 fO (aD 7) (fC (.int 2))))))))))
 (aW (xW 10 (rC (aB (aD 1) aO)) (zB 6 (dm cR (aD 10)) (vI (aB (f2 fO (dW 2 lA (aB (aD 7) (aB (f2 dD (aD 10) (fC (.int 70))) aO))) (fC (.int 10))) aO))))
 (Kd 6))))))))))
noncomputable def vU:List D→Option D:=qR 11 1 (Vy)
abbrev sY:Stmt:=inClass (top 13) 0
noncomputable def Qg(κ:Nat→Addr):GS:=aW (iW 0 (vM (κ 0) 0 cR "panes" (jG (oK (aD 1)) [] nY (fL dList (aB (aD 0) aO)))))
 (aW (iW 0 (vM (κ 0) 0 cR "asked" (lX aO)))
 (aW (iW 0 (vM (κ 0) 0 cR "newest" (fC (.dt [] []))))
 (aW (iW 0 (vM (κ 0) 0 cR "held" (fC (.dk [] []))))
 (iW 0 (vM (κ 0) 0 cR "unsettled" (jG (oK (aD 1)) [] nY (lX aO)))))))
noncomputable def sZ(κ:Nat→Addr):List D→Option (D×D):=nC 2 2 (Qg κ)
abbrev Qh:Stmt:=top 21
noncomputable def MK:GS:=gB (cN (f2 fJ (f2 fJ (aD 0) (f2 fJ (aD 1) (fC (.int 0)))) (f2 fJ (aD 1) (fC (.int 1)))))
noncomputable def zP:List D→Option D:=qR 2 2 (MK)
abbrev Yz:Stmt:=top 20
noncomputable def jk:GS:=gB (vI (aB (f2 fO (aD 1) (fL jU (aB (aD 0) aO))) (aB (f2 sO (aD 1) (fL jU (aB (aD 0) aO))) aO)))
noncomputable def wX:List D→Option D:=qR 2 2 (jk)
abbrev Jb:Stmt:=top 22
noncomputable def Vz:GS:=gB (dW 2 zP (aB (aD 0) (aB (dW 2 wX (aB (aD 0) (aB (aD 1) aO))) aO)))
noncomputable def mC:List D→Option D:=qR 2 2 (Vz)
abbrev Jc:Stmt:=top 26
noncomputable def Wa:GS:=aW (cV 1 (fC (.dk [] [])))
 (aW (cV 2 (cN (f2 fJ (dW 2 mC (aB (aD 0) (aB (fC (.int (0))) aO))) (fC (.int (1))))))
 (aW (qQ (Dl (fB (f2 RC (aD 2) (fC (.int (0))))) (fB (f2 (Dk true) (aD 2) (aD 1)))) (aW (pG 1 cR (aD 2) (fC (.bl true)))
 (cV 2 (cN (f2 fJ (dW 2 mC (aB (aD 0) (aB (aD 2) aO))) (fC (.int (1))))))) 400)
 (gB (fL Oc (aB (aD 1) aO)))))
noncomputable def pM:List D→Option D:=qR 3 1 (Wa)
abbrev Eg:Stmt:=top 25
noncomputable def Eh:GS:=gB (f2 tR (fL jU (aB (aD 0) aO)) (f2 Di (fL jU (aB (f2 fJ (aD 0) (fC (.int 0))) aO)) (fC (.int 1))))
noncomputable def nW:List D→Option D:=qR 1 1 (Eh)
abbrev uD:Stmt:=top 27
noncomputable def Ke:GS:=aW (cV 1 (dW 1 pM (aB (aD 0) aO)))
 (gB (jG (HQ (aB (f2 dD (fC (.int (0))) (fC (.int 1))) (aB (dW 1 nW (aB (aD 0) aO)) aO))) [1] (fB (f2 (xq true) (aD 0) (aD 1))) (cN (aD 0))))
noncomputable def qF:List D→Option D:=qR 2 1 (Ke)
abbrev uE:Stmt:=inClass (top 30) 0
noncomputable def zQ(κ:Nat→Addr):GS:=aW (iW 0 (vM (κ 1) 0 cR "bench" (JD (κ 0) (sZ κ) (aB (aD 1) aO))))
 (aW (iW 0 (vM (κ 1) 0 cR "spots" (jG (rC (aB (dW 1 nW (aB (aD 1) aO)) aO)) [1] nY (dW 2 wX (aB (aD 1) (aB (aD 0) aO))))))
 (aW (iW 0 (vM (κ 1) 0 cR "string" (dW 1 pM (aB (aD 1) aO))))
 (aW (iW 0 (vM (κ 1) 0 cR "loose" (dW 1 qF (aB (aD 1) aO))))
 (aW (iW 0 (vM (κ 1) 0 cR "lasts" (fC (.dk [] []))))
 (aW (iW 0 (vM (κ 1) 0 cR "comings" (fC (.dk [] []))))
 (iW 0 (vM (κ 1) 0 cR "goings" (fC (.dk [] [])))))))))
noncomputable def uF(κ:Nat→Addr):List D→Option (D×D):=nC 2 2 (zQ κ)
abbrev wY:Stmt:=inClass (top 30) 2
noncomputable def Za(κ:Nat→Addr):GS:=gB (fL dList (aB (pJ (dJ (κ 1) "string") (aD 0)) aO))
noncomputable def jY(κ:Nat→Addr):List D→Option D:=mL 1 1 (Za κ)
abbrev Zb:Stmt:=top 40
noncomputable def jl:GS:=aW (cV 1 (f2 tR (fL jU (aB (aD 0) aO)) (f2 Di (fL jU (aB (f2 fJ (aD 0) (fC (.int 0))) aO)) (fC (.int 1)))))
 (aW (cV 2 (lX aO))
 (aW (cV 3 (cN (f2 fJ (f2 fJ (f2 fJ (aD 0) (fC (.int 0))) (fC (.int 0))) (fC (.int 1)))))
 (aW (xW 4 (rC (aB (f2 dD (aD 1) (fC (.int 1))) aO)) (aW (qP (fB (f2 Ls (aD 3) (fC (.int 0)))) (Kd 2) fX)
 (aW (qP (qt (Xu (fB (aAM "int" (aD 3)))) (qt (fB (f2 dLt (aD 3) (fC (.int 0)))) (fB (f2 dGe (aD 3) (aD 1))))) (gB (fC .non)) fX)
 (aW (zB 2 cR (cN (aD 3)))
 (cV 3 (cN (f2 fJ (f2 fJ (f2 fJ (aD 0) (f2 fO (aD 3) (fL jU (aB (aD 0) aO)))) (f2 sO (aD 3) (fL jU (aB (aD 0) aO)))) (fC (.int 1)))))))))
 (gB (fC .non)))))
noncomputable def rO:List D→Option D:=qR 5 1 (jl)
abbrev Ei:Stmt:=top 32
noncomputable def Qi:GS:=aW (cV 1 (f2 fO (f2 tR (f2 dD (f2 fO (aD 0) (fC (.int 2147483629))) (fC (.int 1))) (fC (.int 48271))) (fC (.int 2147483629))))
 (gB (f2 dD (f2 fO (f2 tR (aD 1) (aD 1)) (fC (.int 2147483587))) (f2 tR (f2 fO (aD 0) (f2 Bw (fC (.int 10)) (fC (.int 50)))) (fC (.int 2147483587)))))
noncomputable def lQ:List D→Option D:=qR 2 1 (Qi)
abbrev zR:Stmt:=top 42
noncomputable def Kf:GS:=aW (cV 3 (f2 dD (lX (aB (fC (.int 0)) aO)) (aD 0)))
 (aW (KH [] [4,5,6,7] (oK (aD 1)) (qP (fB (f2 uz (aD 5) (aD 2))) (qP (fB (f2 Ls (aD 4) (fC (.str "in")))) (aW (qP (qt (fB (f2 (xq false) (aD 6) (aD 3))) (fB (f2 (xq true) (aD 7) (aD 3)))) (gB (fC .non)) fX)
 (Ym 3 cR (f2 dD (f2 uU (aD 3) (aD 7)) (fC (.int 1))) (aD 6))) (aW (qP (fB (f2 (xq true) (aD 6) (aD 3))) (gB (fC .non)) fX)
 (Sx 3 cR (aD 6)))) fX))
 (gB (qw true (aD 3) (pI (fC (.int 1))) (Xx))))
noncomputable def oF:List D→Option D:=qR 8 3 (Kf)
abbrev qT:Stmt:=inClass (top 13) 1
noncomputable def xX(κ:Nat→Addr):GS:=qP (Xu (ur dLe dLt (fC (.int 0)) (aD 1) (fL jU (aB (pJ (dJ (κ 0) "panes") (aD 0)) aO)))) aAZ fX
noncomputable def iQ(κ:Nat→Addr):List D→Option D:=mL 2 2 (xX κ)
abbrev pN:Stmt:=inClass (top 13) 2
noncomputable def vV(κ:Nat→Addr):GS:=aW (xV (fD (κ 0) "check_pane" 2 (iQ κ) (aD 0) (aB (aD 1) aO) []))
 (qP (Xu (ur dLe dLt (fC (.int 0)) (aD 2) (fL jU (aB (f2 fJ (pJ (dJ (κ 0) "panes") (aD 0)) (aD 1)) aO)))) aAZ fX)
noncomputable def gO(κ:Nat→Addr):List D→Option D:=mL 3 3 (vV κ)
abbrev Ej:Stmt:=inClass (top 13) 5
noncomputable def Qj(κ:Nat→Addr):GS:=aW (xV (fD (κ 0) "check_place" 3 (gO κ) (aD 0) (aB (aD 1) (aB (aD 2) aO)) []))
 (aW (qP (fB (Su false (Im (aB (aD 1) (aB (aD 2) aO))) (pJ (dJ (κ 0) "newest") (aD 0)))) (gB (cN (f2 fJ (f2 fJ (pJ (dJ (κ 0) "asked") (aD 0)) (Ox (pJ (dJ (κ 0) "newest") (aD 0)) (Im (aB (aD 1) (aB (aD 2) aO))))) (fC (.int (2)))))) fX)
 (gB (cN (f2 fJ (f2 fJ (pJ (dJ (κ 0) "panes") (aD 0)) (aD 1)) (aD 2)))))
noncomputable def tD(κ:Nat→Addr):List D→Option D:=mL 3 3 (Qj κ)
abbrev qU:Stmt:=inClass (top 30) 1
noncomputable def xY(κ:Nat→Addr):GS:=aW (cV 2 (cN (f2 fJ (pJ (dJ (κ 1) "spots") (aD 0)) (aD 1))))
 (gB (fD (κ 0) "seen" 3 (tD κ) (pJ (dJ (κ 1) "bench") (aD 0)) (aB (f2 fJ (aD 2) (fC (.int 0))) (aB (f2 fJ (aD 2) (fC (.int 1))) aO)) []))
noncomputable def bM(κ:Nat→Addr):List D→Option D:=mL 3 2 (xY κ)
abbrev oY:Stmt:=inClass (top 13) 3
noncomputable def uG(κ:Nat→Addr):GS:=qP (Xu (ur dLe dLt (fC (.int 0)) (aD 1) (fL jU (aB (pJ (dJ (κ 0) "asked") (aD 0)) aO)))) aAZ fX
noncomputable def fZ(κ:Nat→Addr):List D→Option D:=mL 2 2 (uG κ)
abbrev Jd:Stmt:=inClass (top 13) 4
noncomputable def Wc(κ:Nat→Addr):GS:=aW (xV (fD (κ 0) "check_place" 3 (gO κ) (aD 0) (aB (aD 1) (aB (aD 2) aO)) []))
 (aW (cV 5 (fIf (fB (f2 (Io false) (aD 4) (fC .non))) (lX aO) (fL dList (aB (aD 4) aO))))
 (aW (Cw 5 6 (xV (fD (κ 0) "check_change" 2 (fZ κ) (aD 0) (aB (aD 6) aO) [])))
 (aW (qP (fB (Su false (Im (aB (aD 1) (aB (aD 2) aO))) (pJ (dJ (κ 0) "newest") (aD 0)))) (zB 5 cR (Ox (pJ (dJ (κ 0) "newest") (aD 0)) (Im (aB (aD 1) (aB (aD 2) aO))))) fX)
 (aW (cV 7 (fL jU (aB (pJ (dJ (κ 0) "asked") (aD 0)) aO)))
 (aW (iW 0 (zB 0 (yI (κ 0) "asked" cR) (vI (aB (cN (aD 1)) (aB (cN (aD 2)) (aB (cN (aD 3)) (aB (fL Od (aB (pJ ie (aD 5)) aO)) aO)))))))
 (aW (iW 0 (Ve 0 (yI (κ 0) "newest" cR) (Im (aB (aD 1) (aB (aD 2) aO))) (aD 7)))
 (aW (iW 0 (zB 0 (dm (yI (κ 0) "unsettled" cR) (aD 1)) (cN (aD 7))))
 (wQ 7))))))))
noncomputable def Bm(κ:Nat→Addr):List D→Option (D×D):=nC 8 5 (Wc κ)
abbrev Zc:Stmt:=top 29
noncomputable def aGH:GS:=gB (jG (oK (aD 0)) [] (fB (f2 (Io true) (aD 0) (fC .non))) (cN (aD 0)))
noncomputable def Zd:List D→Option D:=qR 1 1 (aGH)
abbrev wZ:Stmt:=inClass (top 30) 10
noncomputable def Gn(κ:Nat→Addr):GS:=aW (cV 4 (cN (f2 fJ (pJ (dJ (κ 1) "spots") (aD 0)) (aD 1))))
 (aW (zH 5 (oE (κ 0) "put" 0 (yI (κ 1) "bench" cR) (Bm κ) (fun eF eZ=>((zG (f2 fJ (aD 4) (fC (.int 0))) (zG (f2 fJ (aD 4) (fC (.int 1))) (zG (aD 2) (zG (dW 1 Zd (aB (aD 3) aO)) mW)))) eF eZ).map (·++[]))))
 (aW (iW 0 (pG 0 (yI (κ 1) "lasts" cR) (aD 1) (aD 5)))
 (wQ 5)))
noncomputable def mD(κ:Nat→Addr):List D→Option (D×D):=nC 6 4 (Gn κ)
abbrev qW:Stmt:=inClass (top 30) 5
noncomputable def Lf(κ:Nat→Addr):GS:=gB (f2 Pg (pJ (dJ (κ 1) "comings") (aD 0)) (aD 1))
noncomputable def nQ(κ:Nat→Addr):List D→Option D:=mL 2 2 (Lf κ)
abbrev pO:Stmt:=inClass (top 30) 11
noncomputable def vW(κ:Nat→Addr):GS:=Fy (oE (κ 1) "write" 0 cR (mD κ) (fun eF eZ=>((zG (aD 1) (zG (aD 2) (faN (f2 dD (lX (aB (fD (κ 1) "coming_in" 2 (nQ κ) (aD 0) (aB (aD 1) aO) []) aO)) (aD 3)) mW))) eF eZ).map (·++[])))
noncomputable def eY(κ:Nat→Addr):List D→Option (D×D):=nC 4 4 (vW κ)
abbrev mX:Stmt:=inClass (top 30) 8
noncomputable def rG(κ:Nat→Addr):GS:=aW (cV 2 (fIf (fB (f2 (Io false) (aD 1) (fC .non))) (lX aO) (fL dList (aB (aD 1) aO))))
 (aW (Cw 2 3 (xV (fD (κ 0) "check_change" 2 (fZ κ) (pJ (dJ (κ 1) "bench") (aD 0)) (aB (aD 3) aO) [])))
 (Kd 2))
noncomputable def bY(κ:Nat→Addr):List D→Option D:=mL 4 2 (rG κ)
abbrev tE:Stmt:=inClass (top 30) 14
noncomputable def zT(κ:Nat→Addr):GS:=aW (cV 6 (fD (κ 1) "record_of" 2 (bM κ) (aD 0) (aB (aD 1) aO) []))
 (Fy (oE (κ 1) "write_tied" 0 cR (eY κ) (fun eF eZ=>((zG (aD 1) (zG (vI (aB (cN (f2 fJ (aD 6) (fC (.int (0))))) (aB (cN (f2 fJ (aD 6) (fC (.int (1))))) (aB (cN (aD 2)) (aB (cN (aD 3)) (aB (cN (aD 4)) aO)))))) (faN (fD (κ 1) "further_needs" 2 (bY κ) (aD 0) (aB (aD 5) aO) []) mW))) eF eZ).map (·++[]))))
noncomputable def oZ(κ:Nat→Addr):List D→Option (D×D):=nC 7 6 (zT κ)
abbrev qX:Stmt:=inClass (top 30) 9
noncomputable def Lg(κ:Nat→Addr):GS:=gB (cN (f2 fJ (f2 dD (lX (aB (fC (.int (0))) aO)) (pJ (dJ (κ 1) "string") (aD 0))) (aD 1)))
noncomputable def iR(κ:Nat→Addr):List D→Option D:=mL 2 2 (Lg κ)
abbrev zU:Stmt:=inClass (top 30) 12
noncomputable def Kg(κ:Nat→Addr):GS:=aW (cV 4 (fD (κ 1) "record_of" 2 (bM κ) (aD 0) (aB (aD 1) aO) []))
 (Fy (oE (κ 1) "write_tied" 0 cR (eY κ) (fun eF eZ=>((zG (aD 1) (zG (vI (aB (cN (f2 fJ (aD 4) (fC (.int (0))))) (aB (cN (aD 2)) (aB (cN (f2 fJ (aD 4) (fC (.int (2))))) (aB (cN (f2 fJ (aD 4) (fC (.int (3))))) (aB (cN (f2 fJ (aD 4) (fC (.int (4))))) aO)))))) (zG (aD 3) mW))) eF eZ).map (·++[]))))
noncomputable def lR(κ:Nat→Addr):List D→Option (D×D):=nC 5 4 (Kg κ)
abbrev pA:Stmt:=inClass (top 30) 7
noncomputable def Gp(κ:Nat→Addr):GS:=gB (f2 Pg (pJ (dJ (κ 1) "lasts") (aD 0)) (aD 1))
noncomputable def lF(κ:Nat→Addr):List D→Option D:=mL 2 2 (Gp κ)
abbrev xF:Stmt:=inClass (top 30) 15
noncomputable def Gq(κ:Nat→Addr):GS:=aW (cV 3 (fD (κ 1) "box_ahead" 2 (iR κ) (aD 0) (aB (f2 uU (pJ (dJ (κ 1) "string") (aD 0)) (aD 1)) aO) []))
 (aW (cV 4 (f2 dD (lX (aB (fD (κ 1) "last_change" 2 (lF κ) (aD 0) (aB (aD 1) aO) []) aO)) (fD (κ 1) "further_needs" 2 (bY κ) (aD 0) (aB (aD 2) aO) [])))
 (aW (zH 5 (oE (κ 1) "link" 0 cR (lR κ) (fun eF eZ=>((zG (aD 3) (faN (cN (f2 fJ (fD (κ 1) "record_of" 2 (bM κ) (aD 0) (aB (aD 1) aO) []) (fC (.int (1))))) (zG (aD 4) mW))) eF eZ).map (·++[]))))
 (aW (iW 0 (Sx 0 (yI (κ 1) "string" cR) (aD 1)))
 (aW (iW 0 (zB 0 (yI (κ 1) "loose" cR) (cN (aD 1))))
 (aW (iW 0 (pG 0 (yI (κ 1) "goings" cR) (aD 1) (aD 5)))
 (wQ 5))))))
noncomputable def mF(κ:Nat→Addr):List D→Option (D×D):=nC 6 3 (Gq κ)
abbrev zV:Stmt:=inClass (top 30) 3
noncomputable def MN(κ:Nat→Addr):GS:=gB (fL Ft (aB (pJ (dJ (κ 1) "loose") (aD 0)) aO))
noncomputable def uH(κ:Nat→Addr):List D→Option D:=mL 1 1 (MN κ)
abbrev Ze:Stmt:=top 39
noncomputable def jm:GS:=aW (qP (fB (f2 Ls (aD 0) (lX aO))) (gB (f2 fO (aD 2) (f2 Bw (fC (.int 10)) (fC (.int 58))))) fX)
 (aW (qP (fB (f2 Ls (aD 1) (fC (.int 0)))) (gB (f2 Di (f2 Di (f2 fJ (aD 0) (fC (.int 0))) (fC (.int 1))) (f2 fO (aD 2) (f2 Bw (fC (.int 10)) (fC (.int 50)))))) fX)
 (aW (qP (Dl (fB (f2 dLt (aD 1) (fL jU (aB (aD 0) aO)))) (fB (f2 dGt (f2 Di (f2 fJ (aD 0) (aD 1)) (f2 fJ (aD 0) (f2 Di (aD 1) (fC (.int 1))))) (fC (.int 1))))) (gB (f2 dD (f2 dD (f2 fJ (aD 0) (f2 Di (aD 1) (fC (.int 1)))) (fC (.int 1))) (f2 fO (aD 2) (f2 Di (f2 Di (f2 fJ (aD 0) (aD 1)) (f2 fJ (aD 0) (f2 Di (aD 1) (fC (.int 1))))) (fC (.int 1)))))) fX)
 (gB (f2 dD (f2 dD (f2 fJ (aD 0) (Dq (fC (.int 1)))) (fC (.int 1))) (f2 fO (aD 2) (f2 Bw (fC (.int 10)) (fC (.int 50))))))))
noncomputable def Gr:List D→Option D:=qR 3 3 (jm)
abbrev qY:Stmt:=inClass (top 30) 6
noncomputable def Lh(κ:Nat→Addr):GS:=gB (f2 Pg (pJ (dJ (κ 1) "goings") (aD 0)) (aD 1))
noncomputable def nR(κ:Nat→Addr):List D→Option D:=mL 2 2 (Lh κ)
abbrev rP:Stmt:=inClass (top 30) 13
noncomputable def Gs(κ:Nat→Addr):GS:=aW (qP (fB (f2 Ls (fL jU (aB (pJ (dJ (κ 1) "loose") (aD 0)) aO)) (fC (.int 0)))) aAZ fX)
 (aW (cV 6 (fD (κ 1) "further_needs" 2 (bY κ) (aD 0) (aB (aD 5) aO) []))
 (aW (cV 7 (fL jU (aB (jG (oK (pJ (dJ (κ 1) "string") (aD 0))) [0,1] (fB (f2 dLt (f2 fJ (fD (κ 1) "record_of" 2 (bM κ) (aD 1) (aB (aD 0) aO) []) (fC (.int (0)))) (aD 2))) (cN (aD 0))) aO)))
 (aW (cV 8 (fD (κ 1) "box_ahead" 2 (iR κ) (aD 0) (aB (aD 7) aO) []))
 (aW (cV 9 (fL cu (aB (pJ (dJ (κ 1) "loose") (aD 0)) aO)))
 (aW (zH 10 (oE (κ 1) "write" 0 cR (mD κ) (fun eF eZ=>((zG (aD 9) (faN (vI (aB (cN (aD 1)) (aB (cN (f2 fJ (fD (κ 1) "record_of" 2 (bM κ) (aD 0) (aB (aD 8) aO) []) (fC (.int (1))))) (aB (cN (aD 2)) (aB (cN (aD 3)) (aB (cN (aD 4)) aO)))))) (faN (lX (aB (fD (κ 1) "going_out" 2 (nR κ) (aD 0) (aB (aD 9) aO) []) aO)) mW))) eF eZ).map (·++[]))))
 (aW (zH 11 (oE (κ 1) "link" 0 cR (lR κ) (fun eF eZ=>((zG (aD 8) (zG (aD 9) (zG (f2 dD (lX (aB (aD 10) aO)) (aD 6)) mW))) eF eZ).map (·++[]))))
 (aW (iW 0 (Ym 0 (yI (κ 1) "string" cR) (aD 7) (aD 9)))
 (aW (iW 0 (Sx 0 (yI (κ 1) "loose" cR) (aD 9)))
 (aW (iW 0 (pG 0 (yI (κ 1) "comings" cR) (aD 9) (aD 11)))
 (Fy (gmN (vI (aB (cN (aD 9)) (aB (cN (aD 11)) aO))))))))))))))
noncomputable def rQ(κ:Nat→Addr):List D→Option (D×D):=nC 12 6 (Gs κ)
abbrev Gu:Stmt:=top 41
noncomputable def pB(κ:Nat→Addr):GS:=aW (cV 3 (fD (κ 1) "order" 1 (jY κ) (aD 0) aO []))
 (aW (cV 4 (f2 sO (aD 2) (fC (.int 3))))
 (qP (Dl (fB (f2 Ls (f2 fO (aD 2) (fC (.int 3))) (fC (.int 0)))) (fB (f2 RC (aD 3) (lX aO)))) (aW (cV 5 (f2 fO (aD 4) (fL jU (aB (aD 3) aO))))
 (iW 1 (Vj 1 (fC (.str "out")) (oE (κ 1) "leave" 0 cR (mF κ) (fun eF eZ=>((zG (f2 fJ (aD 3) (aD 5)) mW) eF eZ).map (·++[.non]))) (aB (cN (f2 fJ (aD 3) (aD 5))) (aB (fC (.int 0)) aO))))) (qP (Dl (fB (f2 Ls (f2 fO (aD 2) (fC (.int 3))) (fC (.int 1)))) (fB (f2 RC (aD 3) (lX aO)))) (zJ (oE (κ 1) "rewrite" 0 cR (oZ κ) (fun eF eZ=>((zG (f2 fJ (aD 3) (f2 fO (aD 4) (fL jU (aB (aD 3) aO)))) (zG (Dq (fC (.int 1))) (zG (f2 fO (aD 4) (f2 Bw (fC (.int 10)) (fC (.int 50)))) (zG (fC (.int 0)) mW)))) eF eZ).map (·++[.non])))) (qP (fB (f2 RC (fD (κ 1) "free" 1 (uH κ) (aD 0) aO []) (lX aO))) (aW (cV 6 (jG (oK (aD 3)) [0] nY (cN (f2 fJ (fD (κ 1) "record_of" 2 (bM κ) (aD 1) (aB (aD 0) aO) []) (fC (.int 0))))))
 (aW (cV 5 (f2 fO (aD 4) (f2 dD (fL jU (aB (aD 3) aO)) (fC (.int 1)))))
 (aW (cV 7 (dW 3 Gr (aB (aD 6) (aB (aD 5) (aB (f2 sO (aD 4) (fC (.int 5))) aO)))))
 (aW (Vk [8,9] (oE (κ 1) "enter" 0 cR (rQ κ) (fun eF eZ=>((zG (aD 7) (zG (Dq (fC (.int 1))) (zG (f2 fO (aD 4) (f2 Bw (fC (.int 10)) (fC (.int 50)))) (zG (fC (.int 0)) mW)))) eF eZ).map (·++[.non]))))
 (aW (cV 5 (f2 uU (fL Ft (aB (f2 dD (aD 6) (lX (aB (aD 7) aO))) aO)) (aD 7)))
 (iW 1 (zB 1 cR (vI (aB (fC (.str "in")) (aB (cN (aD 9)) (aB (cN (aD 8)) (aB (cN (f2 fJ (f2 dD (lX (aB (fC (.int 0)) aO)) (aD 3)) (aD 5))) aO)))))))))))) fX))))
noncomputable def zW(κ:Nat→Addr):List D→Option (D×List D):=Oz 10 [true,true,false] (pB κ)
abbrev xG:Stmt:=top 6
noncomputable def Qk:GS:=aW (cV 3 (fC (.dk [] [])))
 (aW (Oe [] 4 (oK (aD 2)) (qP (fB (fL aC7 (aB (jG (oK (f2 fJ (f2 fJ (aD 0) (aD 4)) (fC (.int (3))))) [1,3] nY (qu (f2 (Dk false) (aD 0) (aD 1)) (f2 (Dk false) (aD 0) (aD 2)))) aO))) (pG 3 cR (aD 4) (fC (.bl true))) fX))
 (gB (fL Oc (aB (aD 3) aO))))
noncomputable def tG:List D→Option D:=qR 5 3 (Qk)
abbrev xH:Stmt:=inClass (top 13) 6
noncomputable def Gv(κ:Nat→Addr):GS:=aW (cV 2 (cN (f2 fJ (pJ (dJ (κ 0) "asked") (aD 0)) (aD 1))))
 (aW (iW 0 (vL 0 (dm (yI (κ 0) "panes" cR) (f2 fJ (aD 2) (fC (.int (0))))) (f2 fJ (aD 2) (fC (.int (1)))) (cN (f2 fJ (aD 2) (fC (.int (2)))))))
 (iW 0 (pG 0 (yI (κ 0) "held" cR) (aD 1) (fC (.bl true)))))
noncomputable def rR(κ:Nat→Addr):List D→Option (D×D):=nC 3 2 (Gv κ)
abbrev uI:Stmt:=inClass (top 13) 7
noncomputable def Kh(κ:Nat→Addr):GS:=aW (xV (fD (κ 0) "check_pane" 2 (iQ κ) (aD 0) (aB (aD 1) aO) []))
 (aW (cV 3 (dW 3 tG (aB (pJ (dJ (κ 0) "asked") (aD 0)) (aB (pJ (dJ (κ 0) "held") (aD 0)) (aB (f2 fJ (pJ (dJ (κ 0) "unsettled") (aD 0)) (aD 1)) aO)))))
 (aW (qP (fB (f2 (Io true) (aD 2) (fC .non))) (cV 3 (qw true (aD 3) (Xx) (pI (fL HH (aB (aD 2) (aB (fC (.int 0)) aO)))))) fX)
 (aW (Cw 3 4 (zJ (oE (κ 0) "strike" 0 cR (rR κ) (fun eF eZ=>((zG (aD 4) mW) eF eZ).map (·++[])))))
 (aW (iW 0 (vL 0 (yI (κ 0) "unsettled" cR) (aD 1) (jG (oK (f2 fJ (pJ (dJ (κ 0) "unsettled") (aD 0)) (aD 1))) [0] (fB (f2 (Dk true) (aD 0) (pJ (dJ (κ 0) "held") (aD 1)))) (cN (aD 0)))))
 (wQ 3)))))
noncomputable def qG(κ:Nat→Addr):List D→Option (D×D):=nC 5 3 (Kh κ)
abbrev uJ:Stmt:=inClass (top 13) 8
noncomputable def MP(κ:Nat→Addr):GS:=gB (jG (oK (pJ (dJ (κ 0) "panes") (aD 0))) [] nY (fL dList (aB (aD 0) aO)))
noncomputable def qH(κ:Nat→Addr):List D→Option D:=mL 1 1 (MP κ)
abbrev uW:Stmt:=inClass (top 13) 10
noncomputable def Sy(κ:Nat→Addr):GS:=gB (fL dList (aB (pJ (dJ (κ 0) "asked") (aD 0)) aO))
noncomputable def nF(κ:Nat→Addr):List D→Option D:=mL 1 1 (Sy κ)
abbrev aDQ:Stmt:=top 43
noncomputable def aIs(κ:Nat→Addr):GS:=aW (cV 1 (dW 1 vU (aB (aD 0) aO)))
 (aW (cV 2 (JD (κ 1) (uF κ) (aB (aD 1) aO)))
 (aW (cV 3 (fD (κ 1) "order" 1 (jY κ) (aD 2) aO []))
 (aW (qP (fB (f2 RC (aD 3) (dW 1 rO (aB (aD 1) aO)))) (gB (fC (.bl false))) fX)
 (aW (cV 4 (lX aO))
 (aW (cV 5 (fC (.dk [] [])))
 (aW (Oe [] 6 (oK (jG (oK (qw false (aD 0) (pI (fC (.int 3))) (pI (fC (.int 123))))) [] nY (dW 1 lQ (aB (aD 0) aO)))) (aW (cV 7 (f2 sO (aD 6) (fC (.int 3))))
 (qP (fB (f2 Ls (f2 fO (aD 6) (fC (.int 3))) (fC (.int 0)))) (aW (qP (fB (f2 Ls (f2 fO (aD 7) (fC (.int 3))) (fC (.int 0)))) (zH 8 (oE (κ 0) "carve" 2 (yI (κ 1) "bench" cR) (qG κ) (fun eF eZ=>((zG (f2 fO (f2 sO (aD 7) (fC (.int 9))) (fL jU (aB (aD 1) aO))) (zG (f2 fO (f2 sO (aD 7) (fC (.int 3))) (fC (.int 3))) mW)) eF eZ).map (·++[])))) (zH 8 (oE (κ 0) "carve" 2 (yI (κ 1) "bench" cR) (qG κ) (fun eF eZ=>((zG (f2 fO (f2 sO (aD 7) (fC (.int 9))) (fL jU (aB (aD 1) aO))) mW) eF eZ).map (·++[.non])))))
 (aW (Oe [8] 9 (oK (aD 8)) (pG 5 cR (aD 9) (fC (.bl true))))
 (aW (cV 10 (dW 3 oF (aB (aD 3) (aB (aD 4) (aB (aD 5) aO)))))
 (qP (qt (fB (f2 (Io false) (aD 10) (fC .non))) (fB (f2 RC (dW 1 rO (aB (fD (κ 0) "stone" 1 (qH κ) (pJ (dJ (κ 1) "bench") (aD 2)) aO []) aO)) (aD 10)))) (gB (fC (.bl false))) fX)))) (zJ (JZ (.ch 2::.ch 4::.rd (aD 7)::[]) (zW κ))))))
 (gB (f2 Ls (fD (κ 1) "order" 1 (jY κ) (aD 2) aO []) (dW 3 oF (aB (aD 3) (aB (aD 4) (aB (pJ Ik (fL jU (aB (fD (κ 0) "changes" 1 (nF κ) (pJ (dJ (κ 1) "bench") (aD 2)) aO []) aO))) aO))))))))))))
noncomputable def aGI(κ:Nat→Addr):List D→Option D:=qR 11 1 (aIs κ)
section
variable{P:Program}{w:World}{K:aF}{mg:Str→Option Value}{base:Heap}
B5 vh:bA ["script", "k"] ["script", "k"] (aL Qe):=by walk_at "fs"
B5 XF(R:Raw K mg "_law_cell" Qe) (gC:mg "len" = none):sJ P w K mg base "_law_cell" 1 2 (jA K 2 lO):=by
 &R.zF vh (fun _ _ _ _ _ _ us hl=>match us,hl with | [_,_],_=>rfl) (fun _ _ _ _ _ _ _ hr=>?_)
 have dM:=hr.units
 have hu:=cY hr
 ~⟨_,aN (jH (cT Mx qN (aH (pv 1)) (XN.r (iC gD (gF rfl) rfl gC F4 (aG (aH (pv 0)) aP))) (dO _)) (aV (cG (XR.n (bQ (aH (pv 0)) (aH (pv 1)) (fun _ _=>rfl))))) gW)
  (aV (cG aM))⟩
B5 Ql:bA ["script", "head"] ["script"] (aL Iz):=by walk_at "fs"
B5 MT(R:Raw K mg "_law_sizes" Iz) (qI:sJ P w K mg base "_law_cell" 1 2 (jA K 2 lO)):sJ P w K mg base "_law_sizes" 2 1 (jA K 1 vQ):=by
 &R.zF Ql (fun _ _ _ _ _ _ us hl=>match us,hl with | [_],_=>rfl) (fun _ _ _ _ _ _ _ hr=>?_)
 have dM:=hr.units
 have hu:=cY hr
 ~⟨_,aN (bL (i:=1) (dH qI (hr.mono A8) rfl (aG (aH (pv 0)) (aG (XN.r (aM)) aP))) (fun h=>bH Ql.nd rfl (by first | ~D7 rfl | ~D6 rfl) h))
  (aN (jH (cT (or_eq dM rfl) vJ (XN.r (bT (XN.r (mU (aH (pv 1)) (XN.r (aM)))) (XN.r (aM)))) (XN.r (aM)) (dO _)) (aV (cG (qO (bI (cB (XN.r (aM)) (XN.r (bT (aH (pv 1)) (XN.r (aM))))) (bI (cB (XN.r (aM)) (XN.r (bT (XN.r (mU (aH (pv 1)) (XN.r (aM)))) (XN.r (aM))))) jB))))) gW)
  (aV (cG (qO (bI (cB (XN.r (aM)) (XN.r (bT (aH (pv 1)) (XN.r (aM))))) (bI (cB (XN.r (aM)) (XN.r (bT (XN.r (mU (aH (pv 1)) (XN.r (aM)))) (XN.r (aM))))) jB))))))⟩
B5 Qm:bA ["cell", "k", "number"] ["cell", "k"] (aL Ja):=by walk_at "fs"
B5 NB(R:Raw K mg "_law_mixed" Ja):sJ P w K mg base "_law_mixed" 1 2 (jA K 2 lA):=by
 &R.zF Qm (fun _ _ _ _ _ _ us hl=>match us,hl with | [_,_],_=>rfl) (fun _ _ _ _ _ _ _ hr=>?_)
 have dM:=hr.units
 have hu:=cY hr
 ~⟨_,aN (bL (i:=2) (bT (XN.r (lK (XN.r (cB (XN.r (bT (aH (pv 0)) (XN.r (aM)))) (XN.r (aM)))) (XN.r (cB (XN.r (aM)) (XN.r (lK (XN.r (lK (XN.r (aM)) (aH (pv 1)))) (aH (pv 1)))))))) (XN.r (aM))) (fun h=>bH Qm.nd rfl (by first | ~D7 rfl | ~D6 rfl) h))
  (aV (cG (bT (XN.r (lK (aH (pv 2)) (aH (pv 2)))) (XN.r (aM)))))⟩
B5 oG:bA ["cell", "k", "key", "following", "pick", "now", "age"] ["cell", "k", "key", "following"] (aL Ef):=by walk_at "fs"
B5 Zf(R:Raw K mg "_law_record" Ef) (mG:sJ P w K mg base "_law_mixed" 1 2 (jA K 2 lA)) (aGJ:mg "abs" = none):sJ P w K mg base "_law_record" 2 4 (jA K 4 pL):=by
 &R.zF oG (fun _ _ _ _ _ _ us hl=>match us,hl with | [_,_,_,_],_=>rfl) (fun _ _ _ _ _ _ _ hr=>?_)
 have dM:=hr.units
 have hu:=cY hr
 ~⟨_,aN (bL (i:=4) (dH mG (hr.mono A8) rfl (aG (aH (pv 0)) (aG (XN.r (lK (XN.r (aM)) (aH (pv 1)))) aP))) (fun h=>bH oG.nd rfl (by first | ~D7 rfl | ~D6 rfl) h))
  (aN (bL (i:=5) (XR.n (bQ (nT (aG (XN.r (aM)) (aG (XN.r (aM)) (aG (XN.r (aM)) (aG (XN.r (lK (XN.r (dH mG (hr.mono A8) rfl (aG (aH (pv 0)) (aG (XN.r (cB (XN.r (lK (XN.r (aM)) (aH (pv 1)))) (XN.r (aM)))) aP)))) (XN.r (uO (XN.r (aM)) (XN.r (aM)))))) (aG (XN.r (wO (XN.r (aM)))) aP)))))) (XN.r (bT (aH (pv 4)) (XN.r (aM)))) (fun _ _=>rfl))) (fun h=>bH oG.nd rfl (by first | ~D7 rfl | ~D6 rfl) h))
  (aN (bL (i:=6) aM (fun h=>bH oG.nd rfl (by first | ~D7 rfl | ~D6 rfl) h))
  (aN (jH (cT (or_eq dM rfl) vJ (XN.r (bT (XN.r (mU (aH (pv 4)) (XN.r (aM)))) (XN.r (aM)))) (XN.r (aM)) (dO _)) (aV (bL (i:=6) (cB (XN.r (aM)) (XN.r (bT (XN.r (mU (aH (pv 4)) (XN.r (aM)))) (XN.r (aM))))) (fun h=>bH oG.nd rfl (by first | ~D7 rfl | ~D6 rfl) h))) gW)
  (aN (jH (cT (or_eq dM rfl) vJ (aH (pv 6)) (XN.r (aM)) (dO _)) (aV (bL (i:=5) (iC aGu aGv rfl aGJ PyProof.Rows.boot_abs (aG (aH (pv 5)) aP)) (fun h=>bH oG.nd rfl (by first | ~D7 rfl | ~D6 rfl) h))) gW)
  (aV (cG (qO (bI (XR.n (aH (pv 2))) (bI (XR.n (aH (pv 3))) (bI (XR.n (bQ (nT (aG (XN.r (wO (XN.r (aM)))) (aG (XN.r (aM)) (aG (XN.r (aM)) (aG (aH (pv 4)) aP))))) (XN.r (bT (XN.r (mU (aH (pv 4)) (XN.r (aM)))) (XN.r (aM)))) (fun _ _=>rfl))) (bI (XR.n (aH (pv 5))) (bI (XR.n (aH (pv 6))) jB))))))))))))⟩
B5 eE:bA ["script", "panes", "rows", "spare", "boxes", "k", "stone", "cell", "box", "key", "pane"] ["script"] (aL vR):=by walk_at "fs"
B5 NK(R:Raw K mg "_law_built" vR) (Je:sJ P w K mg base "_law_sizes" 2 1 (jA K 1 vQ)) (qI:sJ P w K mg base "_law_cell" 1 2 (jA K 2 lO)) (mG:sJ P w K mg base "_law_mixed" 1 2 (jA K 2 lA)) (xJ:sJ P w K mg base "_law_record" 2 4 (jA K 4 pL)) (iH:mg "list" = none) (jP:mg "range" = none) (gC:mg "len" = none):sJ P w K mg base "_law_built" 3 1 (jA K 1 vU):=by
 &R.zF eE (fun _ _ _ _ _ _ us hl=>match us,hl with | [_],_=>rfl) (fun _ _ _ _ _ _ _ hr=>?_)
 have dM:=hr.units
 have hu:=cY hr
 ~⟨_,aN (rn (is:=[1,2]) (n:=2) (dH Je (hr.mono A8) rfl (aG (aH (pv 0)) aP)) (fun h=>Hu h (RJ rfl (pZ (fW (i:=1) eE.nd rfl (by first | ~D7 rfl | ~D6 rfl)) (pZ (fW (i:=2) eE.nd rfl (by first | ~D7 rfl | ~D6 rfl)) (Wu))))))
  (aN (bL (i:=3) (uy (aG (XN.r (aM)) (aG (XN.r (lK (aH (pv 1)) (aH (pv 2)))) aP)) rfl iH J5 rfl jP Z8) (fun h=>bH eE.nd rfl (by first | ~D7 rfl | ~D6 rfl) h))
  (aN (bL (i:=4) (yX (bI aM jB)) (fun h=>bH eE.nd rfl (by first | ~D7 rfl | ~D6 rfl) h))
  (aN (Mg PassesOwn.never rfl (Ay rfl jP (aG (XN.r (bT (XN.r (dH qI (hr.mono A8) rfl (aG (aH (pv 0)) (aG (XN.r (aM)) aP)))) (XN.r (lK (aH (pv 1)) (aH (pv 2)))))) aP)) (fW (i:=5) eE.nd rfl (by first | ~D7 rfl | ~D6 rfl)) (aV (sr (i:=4) (j:=3) (XN.r (bT (XN.r (dH mG (hr.mono A8) rfl (aG (XN.r (dH qI (hr.mono A8) rfl (aG (aH (pv 0)) (aG (XN.r (aM)) aP)))) (aG (aH (pv 5)) aP)))) (XN.r (iC gD (gF rfl) rfl gC F4 (aG (aH (pv 3)) aP))))) (fun h=>jJ (pF E6 J8 J9 kW (pv 4) (cH (pF E6 PySem.F.slot_list_pop PySem.F.type_list_pop aAc (pv 3) (cH h gU)) gU))))))
  (aN (dz (i:=6) ["pane", "rows"] [2] rfl (.at (aL vR) ["script", "panes", "rows", "spare", "boxes", "k", "stone", "cell", "box", "key", "pane"] A7) eE.nd rfl (by first | ~D7 rfl | ~D6 rfl) (Ih rfl jP (aG (aH (pv 1)) aP)) (lW A7 rfl rfl) (fun _ _ _ _ _=>rK) (fun _ _ _ _ _=>oR ["place"] [] rfl (kI.of (by show az (vD _ (aL vR)) _ ["pane", "rows"] _ _ _=true;decide +kernel)) (Ih rfl jP (aG (aH (pv 1)) aP)) (lW A7 rfl rfl) (fun _ _ _ _ _=>rK) (fun _ _ _ _ _=>qO (bI aM (bI aM (bI (wO (XN.r (aM))) (bI (wO (XN.r (aM))) (bI aM jB))))))))
  (aN (bL (i:=7) (dH qI (hr.mono A8) rfl (aG (aH (pv 0)) (aG (XN.r (aM)) aP))) (fun h=>bH eE.nd rfl (by first | ~D7 rfl | ~D6 rfl) h))
  (aN (Yc [3] PassesOwn.never rfl (oM (aH (pv 3))) (fW (i:=8) eE.nd rfl (by first | ~D7 rfl | ~D6 rfl)) (aV (du (HR (gG (pv 6)) (XN.r (bT (aH (pv 8)) (aH (pv 1)))) (fun _ _=>rfl)) (XN.r (mU (aH (pv 8)) (aH (pv 1)))) (dH xJ (hr.mono A8) rfl (aG (aH (pv 7)) (aG (aH (pv 8)) (aG (XN.r (bT (aH (pv 7)) (XN.r (uO (XN.r (aM)) (XN.r (aM)))))) (aG (XN.r (bT (XN.r (lK (aH (pv 8)) (aH (pv 8)))) (XN.r (lK (aH (pv 1)) (aH (pv 2)))))) aP))))) (fun a b c=>Hu c (Ww a b set_list)))))
  (aN (bL (i:=9) (bT (aH (pv 7)) (XN.r (uO (XN.r (aM)) (XN.r (aM))))) (fun h=>bH eE.nd rfl (by first | ~D7 rfl | ~D6 rfl) h))
  (aN (Mg PassesOwn.never rfl (Ay rfl jP (aG (XN.r (iC gD (gF rfl) rfl gC F4 (aG (aH (pv 4)) aP))) aP)) (fW (i:=5) eE.nd rfl (by first | ~D7 rfl | ~D6 rfl)) (aN (bL (i:=8) (XR.n (bQ (aH (pv 4)) (aH (pv 5)) (fun _ _=>rfl))) (fun h=>bH eE.nd rfl (by first | ~D7 rfl | ~D6 rfl) h))
  (aN (du (HR (gG (pv 6)) (XN.r (bT (aH (pv 8)) (aH (pv 1)))) (fun _ _=>rfl)) (XN.r (mU (aH (pv 8)) (aH (pv 1)))) (dH xJ (hr.mono A8) rfl (aG (aH (pv 7)) (aG (XN.r (cB (aH (pv 5)) (XN.r (aM)))) (aG (aH (pv 9)) (aG (bQ (XN.r (cB (aH (pv 4)) (nT (aG (XN.r (aM)) aP)))) (XN.r (cB (aH (pv 5)) (XN.r (aM)))) (fun _ _=>rfl)) aP))))) (fun a b c=>Hu c (Ww a b set_list)))
  (aV (bL (i:=9) (cB (XN.r (cB (aH (pv 9)) (XN.r (aM)))) (XN.r (lK (XN.r (bT (XN.r (dH mG (hr.mono A8) rfl (aG (aH (pv 7)) (aG (XN.r (cB (aH (pv 5)) (XN.r (aM)))) aP)))) (XN.r (aM)))) (bQ (nT (aG (XN.r (aM)) (aG (XN.r (uO (XN.r (aM)) (XN.r (aM)))) aP))) (XN.r (bT (aH (pv 7)) (XN.r (aM)))) (fun _ _=>rfl))))) (fun h=>bH eE.nd rfl (by first | ~D7 rfl | ~D6 rfl) h))))))
  (aN (Mg PassesOwn.never rfl (Ay rfl jP (aG (aH (pv 1)) aP)) (fW (i:=10) eE.nd rfl (by first | ~D7 rfl | ~D6 rfl)) (aV (VH (HR (gG (pv 6)) (aH (pv 10)) (fun _ _=>rfl)) (qO (bI (bT (XN.r (dH mG (hr.mono A8) rfl (aG (aH (pv 7)) (aG (XN.r (cB (aH (pv 10)) (XN.r (aM)))) aP)))) (XN.r (aM))) jB)) (fun a b=>jJ (pF E6 J8 J9 kW a (cH b gU))))))
  (aV (Yb (pv 6))))))))))))⟩
B5 NP:bA ["self", "stone"] ["self", "stone"] (aL sY):=by walk_at "fs"
B5 Zg{κ:Nat→Addr}(R:JG K mg "Bench" (κ 0) "Bench.__init__" sY) (aY:jC K (κ 0) iZ) (iH:mg "list" = none):uo P w K mg base "Bench" (κ 0) 1 2 (spS K 2 (sZ κ)):=by
 &R.aIb NP (fun _ _ _ _ _ _ us hl=>match us,hl with | [_,_],_=>rfl) (fun _ _ _ _ _ _ _ hr=>?_)
 have dM:=hr.units
 have hu:=cY hr
 ~⟨_,aN (nJ aY A7 (gG (pv 0)) (oR ["pane"] [] rfl (.at (aL sY) ["self", "stone"] A7) (oM (aH (pv 1))) (lW A7 rfl rfl) (fun _ _ _ _ _=>rK) (fun _ _ _ _ _=>Fj Av (Aw rfl) rfl iH J5 (aG (aH (pv 0)) aP))))
  (aN (nJ aY A7 (gG (pv 0)) (yX jB))
  (aN (nJ aY A7 (gG (pv 0)) (aA6))
  (aN (nJ aY A7 (gG (pv 0)) (wL))
  (aV (nJ aY A7 (gG (pv 0)) (oR ["pane"] [] rfl (.at (aL sY) ["self", "stone"] A7) (oM (aH (pv 1))) (lW A7 rfl rfl) (fun _ _ _ _ _=>rK) (fun _ _ _ _ _=>yX jB)))))))⟩
B5 vm:bA ["stone", "spot"] ["stone", "spot"] (aL Qh):=by walk_at "fs"
B5 XH(R:Raw K mg "thing_at" Qh):sJ P w K mg base "thing_at" 1 2 (jA K 2 zP):=by
 &R.zF vm (fun _ _ _ _ _ _ us hl=>match us,hl with | [_,_],_=>rfl) (fun _ _ _ _ _ _ _ hr=>?_)
 have dM:=hr.units
 have hu:=cY hr
 ~⟨_,aV (cG (XR.n (bQ (bQ (aH (pv 0)) (bQ (aH (pv 1)) (XN.r (aM)) (fun _ _=>rfl)) (fun _ _=>rfl)) (bQ (aH (pv 1)) (XN.r (aM)) (fun _ _=>rfl)) (fun _ _=>rfl))))⟩
B5 aBC:bA ["stone", "box"] ["stone", "box"] (aL Yz):=by walk_at "fs"
B5 vo(R:Raw K mg "spot_of" Yz) (gC:mg "len" = none):sJ P w K mg base "spot_of" 1 2 (jA K 2 wX):=by
 &R.zF aBC (fun _ _ _ _ _ _ us hl=>match us,hl with | [_,_],_=>rfl) (fun _ _ _ _ _ _ _ hr=>?_)
 have dM:=hr.units
 have hu:=cY hr
 ~⟨_,aV (cG (qO (bI (bT (aH (pv 1)) (XN.r (iC gD (gF rfl) rfl gC F4 (aG (aH (pv 0)) aP)))) (bI (mU (aH (pv 1)) (XN.r (iC gD (gF rfl) rfl gC F4 (aG (aH (pv 0)) aP)))) jB))))⟩
B5 XQ:bA ["stone", "box"] ["stone", "box"] (aL Jb):=by walk_at "fs"
B5 NQ(R:Raw K mg "record_at" Jb) (Bo:sJ P w K mg base "spot_of" 1 2 (jA K 2 wX)) (Qn:sJ P w K mg base "thing_at" 1 2 (jA K 2 zP)):sJ P w K mg base "record_at" 2 2 (jA K 2 mC):=by
 &R.zF XQ (fun _ _ _ _ _ _ us hl=>match us,hl with | [_,_],_=>rfl) (fun _ _ _ _ _ _ _ hr=>?_)
 have dM:=hr.units
 have hu:=cY hr
 ~⟨_,aV (cG (dH Qn (hr.mono A8) rfl (aG (aH (pv 0)) (aG (XN.r (dH Bo (hr.mono A8) rfl (aG (aH (pv 0)) (aG (aH (pv 1)) aP)))) aP))))⟩
B5 xK:bA ["stone", "found", "box"] ["stone"] (aL Jc):=by walk_at "fs"
B5 NT(R:Raw K mg "string_of" Jc) (Bp:sJ P w K mg base "record_at" 2 2 (jA K 2 mC)) (iH:mg "list" = none) (Cy:iD mg "HEAD" (0)) (vX:iD mg "NEXT" (1)):sJ P w K mg base "string_of" 3 1 (jA K 1 pM):=by
 &R.zF xK (fun _ _ _ _ _ _ us hl=>match us,hl with | [_],_=>rfl) (fun _ _ _ _ _ _ _ hr=>?_)
 have dM:=hr.units
 have hu:=cY hr
 ~⟨_,aN (bL (i:=1) (wL) (fun h=>bH xK.nd rfl (by first | ~D7 rfl | ~D6 rfl) h))
  (aN (bL (i:=2) (XR.n (bQ (XN.r (dH Bp (hr.mono A8) rfl (aG (aH (pv 0)) (aG (XN.r (nZ Cy rfl)) aP)))) (XN.r (nZ vX rfl)) (fun _ _=>rfl))) (fun h=>bH xK.nd rfl (by first | ~D7 rfl | ~D6 rfl) h))
  (aN (aAH 400 PassesOwn.never (XW.xt (Xv (cT (Us dM rfl) Ur (aH (pv 2)) (XN.r (nZ Cy rfl)) (dO _)) (Ly (Ut hu (aH (pv 2)) (aH (pv 1)))))) (aN (Yg (gG (pv 1)) (aH (pv 2)) (XN.r (Up)) (fun a b c=>tX hu a b c rfl))
  (aV (bL (i:=2) (XR.n (bQ (XN.r (dH Bp (hr.mono A8) rfl (aG (aH (pv 0)) (aG (aH (pv 2)) aP)))) (XN.r (nZ vX rfl)) (fun _ _=>rfl))) (fun h=>bH xK.nd rfl (by first | ~D7 rfl | ~D6 rfl) h)))))
  (aV (cG (Fj HD (yR rfl) rfl iH J5 (aG (aH (pv 1)) aP))))))⟩
B5 NZ:bA ["stone"] ["stone"] (aL Eg):=by walk_at "fs"
B5 Zh(R:Raw K mg "many_boxes" Eg) (gC:mg "len" = none):sJ P w K mg base "many_boxes" 1 1 (jA K 1 nW):=by
 &R.zF NZ (fun _ _ _ _ _ _ us hl=>match us,hl with | [_],_=>rfl) (fun _ _ _ _ _ _ _ hr=>?_)
 have dM:=hr.units
 have hu:=cY hr
 ~⟨_,aV (cG (lK (XN.r (iC gD (gF rfl) rfl gC F4 (aG (aH (pv 0)) aP))) (XN.r (uN (XN.r (iC gD (gF rfl) rfl gC F4 (aG (bQ (aH (pv 0)) (XN.r (aM)) (fun _ _=>rfl)) aP))) (XN.r (aM))))))⟩
B5 Gw:bA ["stone", "tied"] ["stone"] (aL uD):=by walk_at "fs"
B5 Tc(R:Raw K mg "loose_boxes" uD) (sG:sJ P w K mg base "string_of" 3 1 (jA K 1 pM)) (pP:sJ P w K mg base "many_boxes" 1 1 (jA K 1 nW)) (jP:mg "range" = none) (Cy:iD mg "HEAD" (0)):sJ P w K mg base "loose_boxes" 4 1 (jA K 1 qF):=by
 &R.zF Gw (fun _ _ _ _ _ _ us hl=>match us,hl with | [_],_=>rfl) (fun _ _ _ _ _ _ _ hr=>?_)
 have dM:=hr.units
 have hu:=cY hr
 ~⟨_,aN (bL (i:=1) (dH sG (hr.mono A8) rfl (aG (aH (pv 0)) aP)) (fun h=>bH Gw.nd rfl (by first | ~D7 rfl | ~D6 rfl) h))
  (aV (cG (oR ["box", "tied"] [1] rfl (.at (aL uD) ["stone", "tied"] A7) (aH1 (fun h=>km rfl jP h) (aG (XN.r (cB (XN.r (nZ Cy rfl)) (XN.r (aM)))) (aG (XN.r (dH pP (hr.mono A8) rfl (aG (aH (pv 0)) aP))) aP))) (lW A7 rfl rfl) (fun _ _ _ _ _=>Ma (cT (Oa rfl) (GQ true) (aH (pv 0)) (aH (pv 1)) (by with_unfolding_all rfl))) (fun _ _ _ _ _=>XR.n (aH (pv 0))))))⟩
B5 Zi:bA ["self", "stone"] ["self", "stone"] (aL uE):=by walk_at "fs"
B5 Td{κ:Nat→Addr}(R:JG K mg "Weaver" (κ 1) "Weaver.__init__" uE) (aY:jC K (κ 0) iZ) (aQ:jC K (κ 1) dZ) (Ek:uo P w K mg base "Bench" (κ 0) 1 2 (spS K 2 (sZ κ))) (pP:sJ P w K mg base "many_boxes" 1 1 (jA K 1 nW)) (Bo:sJ P w K mg base "spot_of" 1 2 (jA K 2 wX)) (sG:sJ P w K mg base "string_of" 3 1 (jA K 1 pM)) (zX:sJ P w K mg base "loose_boxes" 4 1 (jA K 1 qF)) (jP:mg "range" = none):uo P w K mg base "Weaver" (κ 1) 5 2 (spS K 2 (uF κ)):=by
 &R.aIb Zi (fun _ _ _ _ _ _ us hl=>match us,hl with | [_,_],_=>rfl) (fun _ _ _ _ _ _ _ hr=>?_)
 have dM:=hr.units
 have hu:=cY hr
 ~⟨_,aN (nJ aQ A7 (gG (pv 0)) (ir Ek eX (hr.mono A8) rfl (aG (aH (pv 1)) aP)))
  (aN (nJ aQ A7 (gG (pv 0)) (oR ["box", "stone"] [1] rfl (.at (aL uE) ["self", "stone"] A7) (Ih rfl jP (aG (XN.r (dH pP (hr.mono A8) rfl (aG (aH (pv 1)) aP))) aP)) (lW A7 rfl rfl) (fun _ _ _ _ _=>rK) (fun _ _ _ _ _=>dH Bo (hr.mono A8) rfl (aG (aH (pv 1)) (aG (aH (pv 0)) aP)))))
  (aN (nJ aQ A7 (gG (pv 0)) (dH sG (hr.mono A8) rfl (aG (aH (pv 1)) aP)))
  (aN (nJ aQ A7 (gG (pv 0)) (dH zX (hr.mono A8) rfl (aG (aH (pv 1)) aP)))
  (aN (nJ aQ A7 (gG (pv 0)) (wL))
  (aN (nJ aQ A7 (gG (pv 0)) (wL))
  (aV (nJ aQ A7 (gG (pv 0)) (wL))))))))⟩
B5 Te:bA ["self"] ["self"] (aL wY):=by walk_at "fs"
B5 Qo{κ:Nat→Addr}(R:fM K (κ 1) "order" "Weaver.order" wY false) (aQ:jC K (κ 1) dZ) (iH:mg "list" = none):dB P w K mg base (κ 1) "order" 1 1 false (jA K 1 (jY κ)):=by
 &R.Ga Te (fun _ _ _ _ _ _ us hl=>match us,hl with | [_],_=>rfl) (fun _ _ _ _ _ _ _ hr=>?_)
 have dM:=hr.units
 have hu:=cY hr
 ~⟨_,aV (cG (Fj Av (Aw rfl) rfl iH J5 (aG (cU aQ (aH (pv 0)) A7 rfl) aP)))⟩
B5 vY:bA ["stone", "many", "found", "box", "step"] ["stone"] (aL Zb):=by walk_at "fs"
B5 vp(R:Raw K mg "_law_own" Zb) (gC:mg "len" = none) (jP:mg "range" = none) (zY:mg "isinstance" = none) (aGK:mg "int" = none):sJ P w K mg base "_law_own" 1 1 (jA K 1 rO):=by
 &R.zF vY (fun _ _ _ _ _ _ us hl=>match us,hl with | [_],_=>rfl) (fun _ _ _ _ _ _ _ hr=>?_)
 have dM:=hr.units
 have hu:=cY hr
 ~⟨_,aN (bL (i:=1) (lK (XN.r (iC gD (gF rfl) rfl gC F4 (aG (aH (pv 0)) aP))) (XN.r (uN (XN.r (iC gD (gF rfl) rfl gC F4 (aG (bQ (aH (pv 0)) (XN.r (aM)) (fun _ _=>rfl)) aP))) (XN.r (aM))))) (fun h=>bH vY.nd rfl (by first | ~D7 rfl | ~D6 rfl) h))
  (aN (bL (i:=2) (yX jB) (fun h=>bH vY.nd rfl (by first | ~D7 rfl | ~D6 rfl) h))
  (aN (bL (i:=3) (XR.n (bQ (bQ (bQ (aH (pv 0)) (XN.r (aM)) (fun _ _=>rfl)) (XN.r (aM)) (fun _ _=>rfl)) (XN.r (aM)) (fun _ _=>rfl))) (fun h=>bH vY.nd rfl (by first | ~D7 rfl | ~D6 rfl) h))
  (aN (Mg PassesOwn.never rfl (Ay rfl jP (aG (XN.r (cB (aH (pv 1)) (XN.r (aM)))) aP)) (fW (i:=4) vY.nd rfl (by first | ~D7 rfl | ~D6 rfl)) (aN (jH (cT (or_eq dM rfl) vJ (aH (pv 3)) (XN.r (aM)) (dO _)) (aV (Yb (pv 2))) gW)
  (aN (jH (XW.xt (cg (Xw (aAt (XN.r (aGe (aH (pv 3)) (aCr (v:=.ty "int") rfl aGK PyProof.Rows.boot_int rfl) rfl zY)))) (cg (cT Mx qN (aH (pv 3)) (XN.r (aM)) (dO _)) (UW (cT aHE qN (aH (pv 3)) (aH (pv 1)) (dO _)))))) (aV (cG (wJ))) gW)
  (aN (VH (gG (pv 2)) (XR.n (aH (pv 3))) (fun a b=>jJ (pF E6 J8 J9 kW a (cH b gU))))
  (aV (bL (i:=3) (XR.n (bQ (bQ (bQ (aH (pv 0)) (XN.r (bT (aH (pv 3)) (XN.r (iC gD (gF rfl) rfl gC F4 (aG (aH (pv 0)) aP))))) (fun _ _=>rfl)) (XN.r (mU (aH (pv 3)) (XN.r (iC gD (gF rfl) rfl gC F4 (aG (aH (pv 0)) aP))))) (fun _ _=>rfl)) (XN.r (aM)) (fun _ _=>rfl))) (fun h=>bH vY.nd rfl (by first | ~D7 rfl | ~D6 rfl) h)))))))
  (aV (cG (wJ))))))⟩
B5 Kl:bA ["cell", "number"] ["cell"] (aL Ei):=by walk_at "fs"
B5 Zj(R:Raw K mg "_law_spread" Ei):sJ P w K mg base "_law_spread" 1 1 (jA K 1 lQ):=by
 &R.zF Kl (fun _ _ _ _ _ _ us hl=>match us,hl with | [_],_=>rfl) (fun _ _ _ _ _ _ _ hr=>?_)
 have dM:=hr.units
 have hu:=cY hr
 ~⟨_,aN (bL (i:=1) (bT (XN.r (lK (XN.r (cB (XN.r (bT (aH (pv 0)) (XN.r (aM)))) (XN.r (aM)))) (XN.r (aM)))) (XN.r (aM))) (fun h=>bH Kl.nd rfl (by first | ~D7 rfl | ~D6 rfl) h))
  (aV (cG (cB (XN.r (bT (XN.r (lK (aH (pv 1)) (aH (pv 1)))) (XN.r (aM)))) (XN.r (lK (XN.r (bT (aH (pv 0)) (XN.r (uO (XN.r (aM)) (XN.r (aM)))))) (XN.r (aM)))))))⟩
B5 mH:bA ["first", "events", "settled", "row", "kind", "number", "box", "ahead"] ["first", "events", "settled"] (aL zR):=by walk_at "fs"
B5 Tf(R:Raw K mg "_law_visible" zR):sJ P w K mg base "_law_visible" 1 3 (jA K 3 oF):=by
 &R.zF mH (fun _ _ _ _ _ _ us hl=>match us,hl with | [_,_,_],_=>rfl) (fun _ _ _ _ _ _ _ hr=>?_)
 have dM:=hr.units
 have hu:=cY hr
 ~⟨_,aN (bL (i:=3) (cB (nT (aG (XN.r (aM)) aP)) (aH (pv 0))) (fun h=>bH mH.nd rfl (by first | ~D7 rfl | ~D6 rfl) h))
  (aN (aDF (n:=4) [] [4,5,6,7] PassesOwn.never rfl (oM (aH (pv 1))) (RJ rfl (pZ (fW (i:=4) mH.nd rfl (by first | ~D7 rfl | ~D6 rfl)) (pZ (fW (i:=5) mH.nd rfl (by first | ~D7 rfl | ~D6 rfl)) (pZ (fW (i:=6) mH.nd rfl (by first | ~D7 rfl | ~D6 rfl)) (pZ (fW (i:=7) mH.nd rfl (by first | ~D7 rfl | ~D6 rfl)) (Wu)))))) (aV (jH (cT (aGz hu rfl) aGA (aH (pv 5)) (aH (pv 2)) (by with_unfolding_all rfl)) (aV (jH (cT (or_eq dM rfl) vJ (aH (pv 4)) (XN.r (UL)) (dO _)) (aN (jH (XW.xt (cg (cT (aEo rfl) (GQ false) (aH (pv 6)) (aH (pv 3)) (by with_unfolding_all rfl)) (UW (cT (Oa rfl) (GQ true) (aH (pv 7)) (aH (pv 3)) (by with_unfolding_all rfl))))) (aV (cG (wJ))) gW)
  (aV (aGs (gG (pv 3)) (XN.r (cB (XN.r (Pb (aH (pv 3)) (aH (pv 7)) (fun a b=>pF E6 T3 T4 Pa a (cH b gU)))) (XN.r (aM)))) (aH (pv 6)) (fun a b c=>jJ (pF E6 Y5 Y6 Vh a (cH b (cH c gU))))))) (aN (jH (cT (Oa rfl) (GQ true) (aH (pv 6)) (aH (pv 3)) (by with_unfolding_all rfl)) (aV (cG (wJ))) gW)
  (aV (aGt (gG (pv 3)) (aH (pv 6)) (fun a b=>jJ (pF E6 S8 S9 Ip a (cH b gU)))))))) gW)))
  (aV (cG (HN (aH (pv 3)) (Lz (XN.r (aM))) (cz)))))⟩
B5 Jf:bA ["self", "pane"] ["self", "pane"] (aL qT):=by walk_at "fs"
B5 Gx{κ:Nat→Addr}(R:fM K (κ 0) "check_pane" "Bench.check_pane" qT false) (aY:jC K (κ 0) iZ) (gC:mg "len" = none):dB P w K mg base (κ 0) "check_pane" 1 2 false (jA K 2 (iQ κ)):=by
 &R.Ga Jf (fun _ _ _ _ _ _ us hl=>match us,hl with | [_,_],_=>rfl) (fun _ _ _ _ _ _ _ hr=>?_)
 have dM:=hr.units
 have hu:=cY hr
 ~⟨_,aV (jH (Xw (Ou yx Mx qN qN (XN.r (aM)) (aH (pv 1)) (XN.r (iC gD (gF rfl) rfl gC F4 (aG (cU aY (aH (pv 0)) A7 rfl) aP))))) (aV (Yi)) gW)⟩
B5 Gy:bA ["self", "pane", "place"] ["self", "pane", "place"] (aL pN):=by walk_at "fs"
B5 El{κ:Nat→Addr}(R:fM K (κ 0) "check_place" "Bench.check_place" pN false) (aY:jC K (κ 0) iZ) (iT:dB P w K mg base (κ 0) "check_pane" 1 2 false (jA K 2 (iQ κ))) (gC:mg "len" = none):dB P w K mg base (κ 0) "check_place" 2 3 false (jA K 3 (gO κ)):=by
 &R.Ga Gy (fun _ _ _ _ _ _ us hl=>match us,hl with | [_,_,_],_=>rfl) (fun _ _ _ _ _ _ _ hr=>?_)
 have dM:=hr.units
 have hu:=cY hr
 ~⟨_,aN (Bd (XN.r (fK iT aY (hr.mono A8) (aH (pv 0)) (aG (aH (pv 1)) aP))))
  (aV (jH (Xw (Ou yx Mx qN qN (XN.r (aM)) (aH (pv 2)) (XN.r (iC gD (gF rfl) rfl gC F4 (aG (bQ (cU aY (aH (pv 0)) A7 rfl) (aH (pv 1)) (fun _ _=>rfl)) aP))))) (aV (Yi)) gW))⟩
B5 OD:bA ["self", "pane", "place"] ["self", "pane", "place"] (aL Ej):=by walk_at "fs"
B5 Zk{κ:Nat→Addr}(R:fM K (κ 0) "seen" "Bench.seen" Ej false) (aY:jC K (κ 0) iZ) (gP:dB P w K mg base (κ 0) "check_place" 2 3 false (jA K 3 (gO κ))) (Jg:iD mg "THING" (2)):dB P w K mg base (κ 0) "seen" 3 3 false (jA K 3 (tD κ)):=by
 &R.Ga OD (fun _ _ _ _ _ _ us hl=>match us,hl with | [_,_,_],_=>rfl) (fun _ _ _ _ _ _ _ hr=>?_)
 have dM:=hr.units
 have hu:=cY hr
 ~⟨_,aN (Bd (XN.r (fK gP aY (hr.mono A8) (aH (pv 0)) (aG (aH (pv 1)) (aG (aH (pv 2)) aP)))))
  (aN (jH (iw hu (Ov (aG (aH (pv 1)) (aG (aH (pv 2)) aP))) (cU aY (aH (pv 0)) A7 rfl)) (aV (cG (XR.n (bQ (bQ (cU aY (aH (pv 0)) A7 rfl) (XN.r (JP hu (cU aY (aH (pv 0)) A7 rfl) (Ov (aG (aH (pv 1)) (aG (aH (pv 2)) aP))) (fun _ _=>rfl))) (fun _ _=>rfl)) (XN.r (nZ Jg rfl)) (fun _ _=>rfl))))) gW)
  (aV (cG (XR.n (bQ (bQ (cU aY (aH (pv 0)) A7 rfl) (aH (pv 1)) (fun _ _=>rfl)) (aH (pv 2)) (fun _ _=>rfl))))))⟩
B5 vZ:bA ["self", "box", "spot"] ["self", "box"] (aL qU):=by walk_at "fs"
B5 Gz{κ:Nat→Addr}(R:fM K (κ 1) "record_of" "Weaver.record_of" qU false) (aQ:jC K (κ 1) dZ) (aY:jC K (κ 0) iZ) (Em:dB P w K mg base (κ 0) "seen" 3 3 false (jA K 3 (tD κ))):dB P w K mg base (κ 1) "record_of" 4 2 false (jA K 2 (bM κ)):=by
 &R.Ga vZ (fun _ _ _ _ _ _ us hl=>match us,hl with | [_,_],_=>rfl) (fun _ _ _ _ _ _ _ hr=>?_)
 have dM:=hr.units
 have hu:=cY hr
 ~⟨_,aN (bL (i:=2) (XR.n (bQ (cU aQ (aH (pv 0)) A7 rfl) (aH (pv 1)) (fun _ _=>rfl))) (fun h=>bH vZ.nd rfl (by first | ~D7 rfl | ~D6 rfl) h))
  (aV (cG (fK Em aY (hr.mono A8) (cU aQ (aH (pv 0)) A7 rfl) (aG (bQ (aH (pv 2)) (XN.r (aM)) (fun _ _=>rfl)) (aG (bQ (aH (pv 2)) (XN.r (aM)) (fun _ _=>rfl)) aP)))))⟩
B5 En:bA ["self", "number"] ["self", "number"] (aL oY):=by walk_at "fs"
B5 Ce{κ:Nat→Addr}(R:fM K (κ 0) "check_change" "Bench.check_change" oY false) (aY:jC K (κ 0) iZ) (gC:mg "len" = none):dB P w K mg base (κ 0) "check_change" 1 2 false (jA K 2 (fZ κ)):=by
 &R.Ga En (fun _ _ _ _ _ _ us hl=>match us,hl with | [_,_],_=>rfl) (fun _ _ _ _ _ _ _ hr=>?_)
 have dM:=hr.units
 have hu:=cY hr
 ~⟨_,aV (jH (Xw (Ou yx Mx qN qN (XN.r (aM)) (aH (pv 1)) (XN.r (iC gD (gF rfl) rfl gC F4 (aG (cU aY (aH (pv 0)) A7 rfl) aP))))) (aV (Yi)) gW)⟩
B5 xM:bA ["self", "pane", "place", "thing", "needs", "needed", "need", "number"] ["self", "pane", "place", "thing", "needs"] (aL Jd):=by walk_at "fs"
B5 OJ{κ:Nat→Addr}(R:fM K (κ 0) "put" "Bench.put" Jd true) (aY:jC K (κ 0) iZ) (gP:dB P w K mg base (κ 0) "check_place" 2 3 false (jA K 3 (gO κ))) (gA:dB P w K mg base (κ 0) "check_change" 1 2 false (jA K 2 (fZ κ))) (iH:mg "list" = none) (gC:mg "len" = none) (rT:mg "sorted" = none) (aGL:mg "set" = none) (XS:mg "tuple" = none):dB P w K mg base (κ 0) "put" 3 5 true (spS K 5 (Bm κ)):=by
 &R.Yj xM (fun T _ _ _ _ _ _ us=>⟨fun hl=>match us,hl with | [_,_,_,_,_],_=>⟨_,rfl,rfl⟩,fun hl=>match us,hl with | [_,_,_,_],_=>⟨_,rfl,rfl⟩⟩) (fun _ _ _ _ _ _ _ hr=>?_)
 have dM:=hr.units
 have hu:=cY hr
 ~⟨_,aN (Bd (XN.r (fK gP aY (hr.mono A8) (aH (pv 0)) (aG (aH (pv 1)) (aG (aH (pv 2)) aP)))))
  (aN (bL (i:=5) (aEt (cT RN WM (aH (pv 4)) (XN.r (wJ)) (dO _)) (yX jB) (Fj Av (Aw rfl) rfl iH J5 (aG (aH (pv 4)) aP))) (fun h=>bH xM.nd rfl (by first | ~D7 rfl | ~D6 rfl) h))
  (aN (Yk PassesOwn.never rfl (pv 5) (fW (i:=6) xM.nd rfl (by first | ~D7 rfl | ~D6 rfl)) (aV (Bd (XN.r (fK gA aY (hr.mono A8) (aH (pv 0)) (aG (aH (pv 6)) aP))))))
  (aN (jH (iw hu (Ov (aG (aH (pv 1)) (aG (aH (pv 2)) aP))) (cU aY (aH (pv 0)) A7 rfl)) (aV (VH (gG (pv 5)) (JP hu (cU aY (aH (pv 0)) A7 rfl) (Ov (aG (aH (pv 1)) (aG (aH (pv 2)) aP))) (fun _ _=>rfl)) (fun a b=>jJ (pF E6 J8 J9 kW a (cH b gU))))) gW)
  (aN (bL (i:=7) (iC gD (gF rfl) rfl gC F4 (aG (cU aY (aH (pv 0)) A7 rfl) aP)) (fun h=>bH xM.nd rfl (by first | ~D7 rfl | ~D6 rfl) h))
  (aN (Mi (mV aY (gG (pv 0)) A7 rfl) (qO (bI (XR.n (aH (pv 1))) (bI (XR.n (aH (pv 2))) (bI (XR.n (aH (pv 3))) (bI (Fj aAA (aAB rfl) rfl XS PyProof.Rows.boot_tuple (aG (XN.r (aDp (aH (pv 5)) rfl rT T0 rfl aGL PyProof.Rows.boot_set)) aP)) jB))))) (fun a b=>jJ (pF E6 J8 J9 kW a (cH b gU))))
  (aN (aA7 (mV aY (gG (pv 0)) A7 rfl) (Ov (aG (aH (pv 1)) (aG (aH (pv 2)) aP))) (aH (pv 7)) (fun a b c=>tX hu a b c rfl))
  (aN (Mi (HR (mV aY (gG (pv 0)) A7 rfl) (aH (pv 1)) (fun _ _=>rfl)) (XR.n (aH (pv 7))) (fun a b=>jJ (pF E6 J8 J9 kW a (cH b gU))))
  (aV (Fz (pv 7))))))))))⟩
B5 aDR:bA ["numbers"] ["numbers"] (aL Zc):=by walk_at "fs"
B5 aBD(R:Raw K mg "known" Zc):sJ P w K mg base "known" 1 1 (jA K 1 Zd):=by
 &R.zF aDR (fun _ _ _ _ _ _ us hl=>match us,hl with | [_],_=>rfl) (fun _ _ _ _ _ _ _ hr=>?_)
 have dM:=hr.units
 have hu:=cY hr
 ~⟨_,aV (cG (oR ["number"] [] rfl (.at (aL Zc) ["numbers"] A7) (oM (aH (pv 0))) (lW A7 rfl rfl) (fun _ _ _ _ _=>Ma (cT aj Vf (aH (pv 0)) (XN.r (wJ)) (dO _))) (fun _ _ _ _ _=>XR.n (aH (pv 0)))))⟩
B5 uX:bA ["self", "box", "record", "needed", "spot", "number"] ["self", "box", "record", "needed"] (aL wZ):=by walk_at "fs"
B5 Qp{κ:Nat→Addr}(R:fM K (κ 1) "write" "Weaver.write" wZ false) (aQ:jC K (κ 1) dZ) (aY:jC K (κ 0) iZ) (Jh:dB P w K mg base (κ 0) "put" 3 5 true (spS K 5 (Bm κ))) (XX:sJ P w K mg base "known" 1 1 (jA K 1 Zd)):dB P w K mg base (κ 1) "write" 4 4 false (spS K 4 (mD κ)):=by
 &R.Yj uX (fun _ _ _ _ _ _ us hl=>match us,hl with | [_,_,_,_],_=>rfl) (fun _ _ _ _ _ _ _ hr=>?_)
 have dM:=hr.units
 have hu:=cY hr
 ~⟨_,aN (bL (i:=4) (XR.n (bQ (cU aQ (aH (pv 0)) A7 rfl) (aH (pv 1)) (fun _ _=>rfl))) (fun h=>bH uX.nd rfl (by first | ~D7 rfl | ~D6 rfl) h))
  (aN (Bc (i:=5) (rN Jh aY eX (hr.mono A8) (mV aQ (gG (pv 0)) A7 rfl) (iG (bQ (aH (pv 4)) (XN.r (aM)) (fun _ _=>rfl)) (iG (bQ (aH (pv 4)) (XN.r (aM)) (fun _ _=>rfl)) (iG (aH (pv 2)) (iG (XN.r (dH XX (hr.mono A8) rfl (aG (aH (pv 3)) aP))) lY))))) (fun h=>bH uX.nd rfl (by first | ~D7 rfl | ~D6 rfl) h))
  (aN (Gb (mV aQ (gG (pv 0)) A7 rfl) (aH (pv 1)) (aH (pv 5)) (fun a b c=>tX hu a b c rfl))
  (aV (Fz (pv 5)))))⟩
B5 Ji:bA ["self", "box"] ["self", "box"] (aL qW):=by walk_at "fs"
B5 Hf{κ:Nat→Addr}(R:fM K (κ 1) "coming_in" "Weaver.coming_in" qW false) (aQ:jC K (κ 1) dZ):dB P w K mg base (κ 1) "coming_in" 1 2 false (jA K 2 (nQ κ)):=by
 &R.Ga Ji (fun _ _ _ _ _ _ us hl=>match us,hl with | [_,_],_=>rfl) (fun _ _ _ _ _ _ _ hr=>?_)
 have dM:=hr.units
 have hu:=cY hr
 ~⟨_,aV (cG (Ph hu (cU aQ (aH (pv 0)) A7 rfl) (aH (pv 1)) ⟨rfl,rfl,rfl,rfl⟩))⟩
B5 Hg:bA ["self", "box", "record", "needed"] ["self", "box", "record", "needed"] (aL pO):=by walk_at "fs"
B5 Eo{κ:Nat→Addr}(R:fM K (κ 1) "write_tied" "Weaver.write_tied" pO false) (aQ:jC K (κ 1) dZ) (mJ:dB P w K mg base (κ 1) "write" 4 4 false (spS K 4 (mD κ))) (qZ:dB P w K mg base (κ 1) "coming_in" 1 2 false (jA K 2 (nQ κ))):dB P w K mg base (κ 1) "write_tied" 5 4 false (spS K 4 (eY κ)):=by
 &R.Yj Hg (fun _ _ _ _ _ _ us hl=>match us,hl with | [_,_,_,_],_=>rfl) (fun _ _ _ _ _ _ _ hr=>?_)
 have dM:=hr.units
 have hu:=cY hr
 ~⟨_,aV (Mh (rN mJ aQ eX (hr.mono A8) (gG (pv 0)) (iG (aH (pv 1)) (iG (aH (pv 2)) (JC (cB (nT (aG (XN.r (fK qZ aQ (hr.mono A8) (aH (pv 0)) (aG (aH (pv 1)) aP))) aP)) (aH (pv 3))) lY)))))⟩
B5 lU:bA ["self", "needs", "further", "need"] ["self", "needs"] (aL mX):=by walk_at "fs"
B5 yK{κ:Nat→Addr}(R:fM K (κ 1) "further_needs" "Weaver.further_needs" mX false) (aY:jC K (κ 0) iZ) (aQ:jC K (κ 1) dZ) (gA:dB P w K mg base (κ 0) "check_change" 1 2 false (jA K 2 (fZ κ))) (iH:mg "list" = none):dB P w K mg base (κ 1) "further_needs" 2 2 false (jA K 2 (bY κ)):=by
 &R.Ga lU (fun _ _ _ _ _ _ us hl=>match us,hl with | [_,_],_=>rfl) (fun _ _ _ _ _ _ _ hr=>?_)
 have dM:=hr.units
 have hu:=cY hr
 ~⟨_,aN (bL (i:=2) (aEt (cT RN WM (aH (pv 1)) (XN.r (wJ)) (dO _)) (yX jB) (Fj Av (Aw rfl) rfl iH J5 (aG (aH (pv 1)) aP))) (fun h=>bH lU.nd rfl (by first | ~D7 rfl | ~D6 rfl) h))
  (aN (Yk PassesOwn.never rfl (pv 2) (fW (i:=3) lU.nd rfl (by first | ~D7 rfl | ~D6 rfl)) (aV (Bd (XN.r (fK gA aY (hr.mono A8) (cU aQ (aH (pv 0)) A7 rfl) (aG (aH (pv 3)) aP))))))
  (aV (Yb (pv 2))))⟩
B5 xZ:bA ["self", "box", "was", "now", "age", "needs", "record"] ["self", "box", "was", "now", "age", "needs"] (aL tE):=by walk_at "fs"
B5 Jj{κ:Nat→Addr}(R:fM K (κ 1) "rewrite" "Weaver.rewrite" tE true) (aQ:jC K (κ 1) dZ) (bK:dB P w K mg base (κ 1) "record_of" 4 2 false (jA K 2 (bM κ))) (gQ:dB P w K mg base (κ 1) "write_tied" 5 4 false (spS K 4 (eY κ))) (bZ:dB P w K mg base (κ 1) "further_needs" 2 2 false (jA K 2 (bY κ))) (Zm:iD mg "KEY" (0)) (vX:iD mg "NEXT" (1)):dB P w K mg base (κ 1) "rewrite" 6 6 true (spS K 6 (oZ κ)):=by
 &R.Yj xZ (fun T _ _ _ _ _ _ us=>⟨fun hl=>match us,hl with | [_,_,_,_,_,_],_=>⟨_,rfl,rfl⟩,fun hl=>match us,hl with | [_,_,_,_,_],_=>⟨_,rfl,rfl⟩⟩) (fun _ _ _ _ _ _ _ hr=>?_)
 have dM:=hr.units
 have hu:=cY hr
 ~⟨_,aN (bL (i:=6) (fK bK aQ (hr.mono A8) (aH (pv 0)) (aG (aH (pv 1)) aP)) (fun h=>bH xZ.nd rfl (by first | ~D7 rfl | ~D6 rfl) h))
  (aV (Mh (rN gQ aQ eX (hr.mono A8) (gG (pv 0)) (iG (aH (pv 1)) (iG (XN.r (qO (bI (XR.n (bQ (aH (pv 6)) (XN.r (nZ Zm rfl)) (fun _ _=>rfl))) (bI (XR.n (bQ (aH (pv 6)) (XN.r (nZ vX rfl)) (fun _ _=>rfl))) (bI (XR.n (aH (pv 2))) (bI (XR.n (aH (pv 3))) (bI (XR.n (aH (pv 4))) jB))))))) (JC (fK bZ aQ (hr.mono A8) (aH (pv 0)) (aG (aH (pv 5)) aP)) lY))))))⟩
B5 Jk:bA ["self", "place"] ["self", "place"] (aL qX):=by walk_at "fs"
B5 Hh{κ:Nat→Addr}(R:fM K (κ 1) "box_ahead" "Weaver.box_ahead" qX false) (aQ:jC K (κ 1) dZ) (Cy:iD mg "HEAD" (0)):dB P w K mg base (κ 1) "box_ahead" 1 2 false (jA K 2 (iR κ)):=by
 &R.Ga Jk (fun _ _ _ _ _ _ us hl=>match us,hl with | [_,_],_=>rfl) (fun _ _ _ _ _ _ _ hr=>?_)
 have dM:=hr.units
 have hu:=cY hr
 ~⟨_,aV (cG (XR.n (bQ (XN.r (cB (nT (aG (XN.r (nZ Cy rfl)) aP)) (cU aQ (aH (pv 0)) A7 rfl))) (aH (pv 1)) (fun _ _=>rfl))))⟩
B5 Hi:bA ["self", "box", "following", "needed", "record"] ["self", "box", "following", "needed"] (aL zU):=by walk_at "fs"
B5 Tg{κ:Nat→Addr}(R:fM K (κ 1) "link" "Weaver.link" zU false) (aQ:jC K (κ 1) dZ) (bK:dB P w K mg base (κ 1) "record_of" 4 2 false (jA K 2 (bM κ))) (gQ:dB P w K mg base (κ 1) "write_tied" 5 4 false (spS K 4 (eY κ))) (Zm:iD mg "KEY" (0)) (aGM:iD mg "WAS" (2)) (aGN:iD mg "NOW" (3)) (aGO:iD mg "AGE" (4)):dB P w K mg base (κ 1) "link" 6 4 false (spS K 4 (lR κ)):=by
 &R.Yj Hi (fun _ _ _ _ _ _ us hl=>match us,hl with | [_,_,_,_],_=>rfl) (fun _ _ _ _ _ _ _ hr=>?_)
 have dM:=hr.units
 have hu:=cY hr
 ~⟨_,aN (bL (i:=4) (fK bK aQ (hr.mono A8) (aH (pv 0)) (aG (aH (pv 1)) aP)) (fun h=>bH Hi.nd rfl (by first | ~D7 rfl | ~D6 rfl) h))
  (aV (Mh (rN gQ aQ eX (hr.mono A8) (gG (pv 0)) (iG (aH (pv 1)) (iG (XN.r (qO (bI (XR.n (bQ (aH (pv 4)) (XN.r (nZ Zm rfl)) (fun _ _=>rfl))) (bI (XR.n (aH (pv 2))) (bI (XR.n (bQ (aH (pv 4)) (XN.r (nZ aGM rfl)) (fun _ _=>rfl))) (bI (XR.n (bQ (aH (pv 4)) (XN.r (nZ aGN rfl)) (fun _ _=>rfl))) (bI (XR.n (bQ (aH (pv 4)) (XN.r (nZ aGO rfl)) (fun _ _=>rfl))) jB))))))) (iG (aH (pv 3)) lY))))))⟩
B5 Ep:bA ["self", "box"] ["self", "box"] (aL pA):=by walk_at "fs"
B5 Cg{κ:Nat→Addr}(R:fM K (κ 1) "last_change" "Weaver.last_change" pA false) (aQ:jC K (κ 1) dZ):dB P w K mg base (κ 1) "last_change" 1 2 false (jA K 2 (lF κ)):=by
 &R.Ga Ep (fun _ _ _ _ _ _ us hl=>match us,hl with | [_,_],_=>rfl) (fun _ _ _ _ _ _ _ hr=>?_)
 have dM:=hr.units
 have hu:=cY hr
 ~⟨_,aV (cG (Ph hu (cU aQ (aH (pv 0)) A7 rfl) (aH (pv 1)) ⟨rfl,rfl,rfl,rfl⟩))⟩
B5 pX:bA ["self", "box", "needs", "ahead", "needed", "going"] ["self", "box", "needs"] (aL xF):=by walk_at "fs"
B5 Qq{κ:Nat→Addr}(R:fM K (κ 1) "leave" "Weaver.leave" xF true) (aQ:jC K (κ 1) dZ) (iU:dB P w K mg base (κ 1) "box_ahead" 1 2 false (jA K 2 (iR κ))) (pC:dB P w K mg base (κ 1) "last_change" 1 2 false (jA K 2 (lF κ))) (bZ:dB P w K mg base (κ 1) "further_needs" 2 2 false (jA K 2 (bY κ))) (oH:dB P w K mg base (κ 1) "link" 6 4 false (spS K 4 (lR κ))) (bK:dB P w K mg base (κ 1) "record_of" 4 2 false (jA K 2 (bM κ))) (vX:iD mg "NEXT" (1)):dB P w K mg base (κ 1) "leave" 7 3 true (spS K 3 (mF κ)):=by
 &R.Yj pX (fun T _ _ _ _ _ _ us=>⟨fun hl=>match us,hl with | [_,_,_],_=>⟨_,rfl,rfl⟩,fun hl=>match us,hl with | [_,_],_=>⟨_,rfl,rfl⟩⟩) (fun _ _ _ _ _ _ _ hr=>?_)
 have dM:=hr.units
 have hu:=cY hr
 ~⟨_,aN (bL (i:=3) (fK iU aQ (hr.mono A8) (aH (pv 0)) (aG (XN.r (Pb (cU aQ (aH (pv 0)) A7 rfl) (aH (pv 1)) (fun a b=>pF E6 T3 T4 Pa a (cH b gU)))) aP)) (fun h=>bH pX.nd rfl (by first | ~D7 rfl | ~D6 rfl) h))
  (aN (bL (i:=4) (cB (nT (aG (XN.r (fK pC aQ (hr.mono A8) (aH (pv 0)) (aG (aH (pv 1)) aP))) aP)) (XN.r (fK bZ aQ (hr.mono A8) (aH (pv 0)) (aG (aH (pv 2)) aP)))) (fun h=>bH pX.nd rfl (by first | ~D7 rfl | ~D6 rfl) h))
  (aN (Bc (i:=5) (rN oH aQ eX (hr.mono A8) (gG (pv 0)) (iG (aH (pv 3)) (JC (XR.n (bQ (XN.r (fK bK aQ (hr.mono A8) (aH (pv 0)) (aG (aH (pv 1)) aP))) (XN.r (nZ vX rfl)) (fun _ _=>rfl))) (iG (aH (pv 4)) lY)))) (fun h=>bH pX.nd rfl (by first | ~D7 rfl | ~D6 rfl) h))
  (aN (jc (mV aQ (gG (pv 0)) A7 rfl) (aH (pv 1)) (fun a b=>jJ (pF E6 S8 S9 Ip a (cH b gU))))
  (aN (Mi (mV aQ (gG (pv 0)) A7 rfl) (XR.n (aH (pv 1))) (fun a b=>jJ (pF E6 J8 J9 kW a (cH b gU))))
  (aN (Gb (mV aQ (gG (pv 0)) A7 rfl) (aH (pv 1)) (aH (pv 5)) (fun a b c=>tX hu a b c rfl))
  (aV (Fz (pv 5))))))))⟩
B5 Zo:bA ["self"] ["self"] (aL zV):=by walk_at "fs"
B5 Th{κ:Nat→Addr}(R:fM K (κ 1) "free" "Weaver.free" zV false) (aQ:jC K (κ 1) dZ) (rT:mg "sorted" = none):dB P w K mg base (κ 1) "free" 1 1 false (jA K 1 (uH κ)):=by
 &R.Ga Zo (fun _ _ _ _ _ _ us hl=>match us,hl with | [_],_=>rfl) (fun _ _ _ _ _ _ _ hr=>?_)
 have dM:=hr.units
 have hu:=cY hr
 ~⟨_,aV (cG (iC Uw (Ux rfl) rfl rT T0 (aG (cU aQ (aH (pv 0)) A7 rfl) aP)))⟩
B5 aBE:bA ["keys", "at", "cell"] ["keys", "at", "cell"] (aL Ze):=by walk_at "fs"
B5 vq(R:Raw K mg "_law_key" Ze) (gC:mg "len" = none):sJ P w K mg base "_law_key" 1 3 (jA K 3 Gr):=by
 &R.zF aBE (fun _ _ _ _ _ _ us hl=>match us,hl with | [_,_,_],_=>rfl) (fun _ _ _ _ _ _ _ hr=>?_)
 have dM:=hr.units
 have hu:=cY hr
 ~⟨_,aN (jH (cT (or_eq dM rfl) vJ (aH (pv 0)) (nT aP) (dO _)) (aV (cG (bT (aH (pv 2)) (XN.r (uO (XN.r (aM)) (XN.r (aM))))))) gW)
  (aN (jH (cT (or_eq dM rfl) vJ (aH (pv 1)) (XN.r (aM)) (dO _)) (aV (cG (uN (XN.r (uN (bQ (aH (pv 0)) (XN.r (aM)) (fun _ _=>rfl)) (XN.r (aM)))) (XN.r (bT (aH (pv 2)) (XN.r (uO (XN.r (aM)) (XN.r (aM))))))))) gW)
  (aN (jH (XW.xt (Xv (cT Mx qN (aH (pv 1)) (XN.r (iC gD (gF rfl) rfl gC F4 (aG (aH (pv 0)) aP))) (dO _)) (Ly (cT aHD qN (XN.r (uN (bQ (aH (pv 0)) (aH (pv 1)) (fun _ _=>rfl)) (bQ (aH (pv 0)) (XN.r (uN (aH (pv 1)) (XN.r (aM)))) (fun _ _=>rfl)))) (XN.r (aM)) (dO _))))) (aV (cG (cB (XN.r (cB (bQ (aH (pv 0)) (XN.r (uN (aH (pv 1)) (XN.r (aM)))) (fun _ _=>rfl)) (XN.r (aM)))) (XN.r (bT (aH (pv 2)) (XN.r (uN (XN.r (uN (bQ (aH (pv 0)) (aH (pv 1)) (fun _ _=>rfl)) (bQ (aH (pv 0)) (XN.r (uN (aH (pv 1)) (XN.r (aM)))) (fun _ _=>rfl)))) (XN.r (aM))))))))) gW)
  (aV (cG (cB (XN.r (cB (bQ (aH (pv 0)) (XN.r (wO (XN.r (aM)))) (fun _ _=>rfl)) (XN.r (aM)))) (XN.r (bT (aH (pv 2)) (XN.r (uO (XN.r (aM)) (XN.r (aM)))))))))))⟩
B5 Jl:bA ["self", "box"] ["self", "box"] (aL qY):=by walk_at "fs"
B5 Hj{κ:Nat→Addr}(R:fM K (κ 1) "going_out" "Weaver.going_out" qY false) (aQ:jC K (κ 1) dZ):dB P w K mg base (κ 1) "going_out" 1 2 false (jA K 2 (nR κ)):=by
 &R.Ga Jl (fun _ _ _ _ _ _ us hl=>match us,hl with | [_,_],_=>rfl) (fun _ _ _ _ _ _ _ hr=>?_)
 have dM:=hr.units
 have hu:=cY hr
 ~⟨_,aV (cG (Ph hu (cU aQ (aH (pv 0)) A7 rfl) (aH (pv 1)) ⟨rfl,rfl,rfl,rfl⟩))⟩
B5 jD:bA ["self", "key", "was", "now", "age", "needs", "further", "place", "ahead", "box", "filled", "coming"] ["self", "key", "was", "now", "age", "needs"] (aL rP):=by walk_at "fs"
B5 Qt{κ:Nat→Addr}(R:fM K (κ 1) "enter" "Weaver.enter" rP true) (aQ:jC K (κ 1) dZ) (bZ:dB P w K mg base (κ 1) "further_needs" 2 2 false (jA K 2 (bY κ))) (bK:dB P w K mg base (κ 1) "record_of" 4 2 false (jA K 2 (bM κ))) (iU:dB P w K mg base (κ 1) "box_ahead" 1 2 false (jA K 2 (iR κ))) (mJ:dB P w K mg base (κ 1) "write" 4 4 false (spS K 4 (mD κ))) (rA:dB P w K mg base (κ 1) "going_out" 1 2 false (jA K 2 (nR κ))) (oH:dB P w K mg base (κ 1) "link" 6 4 false (spS K 4 (lR κ))) (gC:mg "len" = none) (aGP:mg "min" = none) (Zm:iD mg "KEY" (0)) (vX:iD mg "NEXT" (1)):dB P w K mg base (κ 1) "enter" 7 6 true (spS K 6 (rQ κ)):=by
 &R.Yj jD (fun T _ _ _ _ _ _ us=>⟨fun hl=>match us,hl with | [_,_,_,_,_,_],_=>⟨_,rfl,rfl⟩,fun hl=>match us,hl with | [_,_,_,_,_],_=>⟨_,rfl,rfl⟩⟩) (fun _ _ _ _ _ _ _ hr=>?_)
 have dM:=hr.units
 have hu:=cY hr
 ~⟨_,aN (jH (cT (or_eq dM rfl) vJ (XN.r (iC gD (gF rfl) rfl gC F4 (aG (cU aQ (aH (pv 0)) A7 rfl) aP))) (XN.r (aM)) (dO _)) (aV (Yi)) gW)
  (aN (bL (i:=6) (fK bZ aQ (hr.mono A8) (aH (pv 0)) (aG (aH (pv 5)) aP)) (fun h=>bH jD.nd rfl (by first | ~D7 rfl | ~D6 rfl) h))
  (aN (bL (i:=7) (iC gD (gF rfl) rfl gC F4 (aG (XN.r (oR ["box", "self", "key"] [0,1] rfl (.at (aL rP) ["self", "key", "was", "now", "age", "needs", "further", "place", "ahead", "box", "filled", "coming"] A7) (oM (cU aQ (aH (pv 0)) A7 rfl)) (lW A7 rfl rfl) (fun _ _ _ _ _=>Ma (cT Mx qN (bQ (XN.r (fK bK aQ (hr.mono A8) (aH (pv 1)) (aG (aH (pv 0)) aP))) (XN.r (nZ Zm rfl)) (fun _ _=>rfl)) (aH (pv 2)) (dO _))) (fun _ _ _ _ _=>XR.n (aH (pv 0))))) aP)) (fun h=>bH jD.nd rfl (by first | ~D7 rfl | ~D6 rfl) h))
  (aN (bL (i:=8) (fK iU aQ (hr.mono A8) (aH (pv 0)) (aG (aH (pv 7)) aP)) (fun h=>bH jD.nd rfl (by first | ~D7 rfl | ~D6 rfl) h))
  (aN (bL (i:=9) (iC aDa (aDb rfl) rfl aGP PyProof.Rows.boot_min (aG (cU aQ (aH (pv 0)) A7 rfl) aP)) (fun h=>bH jD.nd rfl (by first | ~D7 rfl | ~D6 rfl) h))
  (aN (Bc (i:=10) (rN mJ aQ eX (hr.mono A8) (gG (pv 0)) (iG (aH (pv 9)) (JC (qO (bI (XR.n (aH (pv 1))) (bI (XR.n (bQ (XN.r (fK bK aQ (hr.mono A8) (aH (pv 0)) (aG (aH (pv 8)) aP))) (XN.r (nZ vX rfl)) (fun _ _=>rfl))) (bI (XR.n (aH (pv 2))) (bI (XR.n (aH (pv 3))) (bI (XR.n (aH (pv 4))) jB)))))) (JC (yX (bI (fK rA aQ (hr.mono A8) (aH (pv 0)) (aG (aH (pv 9)) aP)) jB)) lY)))) (fun h=>bH jD.nd rfl (by first | ~D7 rfl | ~D6 rfl) h))
  (aN (Bc (i:=11) (rN oH aQ eX (hr.mono A8) (gG (pv 0)) (iG (aH (pv 8)) (iG (aH (pv 9)) (iG (XN.r (cB (nT (aG (aH (pv 10)) aP)) (aH (pv 6)))) lY)))) (fun h=>bH jD.nd rfl (by first | ~D7 rfl | ~D6 rfl) h))
  (aN (aDC (mV aQ (gG (pv 0)) A7 rfl) (aH (pv 7)) (aH (pv 9)) (fun a b c=>jJ (pF E6 Y5 Y6 Vh a (cH b (cH c gU)))))
  (aN (jc (mV aQ (gG (pv 0)) A7 rfl) (aH (pv 9)) (fun a b=>jJ (pF E6 S8 S9 Ip a (cH b gU))))
  (aN (Gb (mV aQ (gG (pv 0)) A7 rfl) (aH (pv 9)) (aH (pv 11)) (fun a b c=>tX hu a b c rfl))
  (aV (Mh (aDy (qO (bI (XR.n (aH (pv 9))) (bI (XR.n (aH (pv 11))) jB)))))))))))))))⟩
B5 lB:bA ["weaver", "events", "cell", "order", "rest", "at", "keys", "key", "box", "number"] ["weaver", "events", "cell"] (aL Gu):=by walk_at "fs"
B5 YC{κ:Nat→Addr}(R:Raw K mg "_law_done" Gu) (aQ:jC K (κ 1) dZ) (jZ:dB P w K mg base (κ 1) "order" 1 1 false (jA K 1 (jY κ))) (xN:dB P w K mg base (κ 1) "leave" 7 3 true (spS K 3 (mF κ))) (tH:dB P w K mg base (κ 1) "rewrite" 6 6 true (spS K 6 (oZ κ))) (zZ:dB P w K mg base (κ 1) "free" 1 1 false (jA K 1 (uH κ))) (bK:dB P w K mg base (κ 1) "record_of" 4 2 false (jA K 2 (bM κ))) (Zq:sJ P w K mg base "_law_key" 1 3 (jA K 3 Gr)) (xO:dB P w K mg base (κ 1) "enter" 7 6 true (spS K 6 (rQ κ))) (gC:mg "len" = none) (rT:mg "sorted" = none):sJ P w K mg base "_law_done" 8 3 (spG K [true,true,false] (zW κ)):=by
 &R.aJL (mask:=[true,true,false]) lB (fun _ _ _ _ _ _ us hl=>match us,hl with | [_,_,_],_=>rfl) rfl (fun _ _ _ _ _ _ _ hr=>?_)
 have dM:=hr.units
 have hu:=cY hr
 ~⟨_,aN (bL (i:=3) (vN jZ aQ (hr.mono A8) (aH (pv 0))) (fun h=>bH lB.nd rfl (by first | ~D7 rfl | ~D6 rfl) h))
  (aN (bL (i:=4) (mU (aH (pv 2)) (XN.r (aM))) (fun h=>bH lB.nd rfl (by first | ~D7 rfl | ~D6 rfl) h))
  (aV (jH (XW.xt (Xv (cT (or_eq dM rfl) vJ (XN.r (bT (aH (pv 2)) (XN.r (aM)))) (XN.r (aM)) (dO _)) (Ly (cT (Us dM rfl) Ur (aH (pv 3)) (nT aP) (dO _))))) (aN (bL (i:=5) (bT (aH (pv 4)) (XN.r (iC gD (gF rfl) rfl gC F4 (aG (aH (pv 3)) aP)))) (fun h=>bH lB.nd rfl (by first | ~D7 rfl | ~D6 rfl) h))
  (aV (aBh (pv 1) (UL) (Fx xN aQ eX (hr.mono A8) (gG (pv 0)) (iG (bQ (aH (pv 3)) (aH (pv 5)) (fun _ _=>rfl)) lY)) (bI (XR.n (bQ (aH (pv 3)) (aH (pv 5)) (fun _ _=>rfl))) (bI aM jB)) (fun a b=>jJ (pF E6 J8 J9 kW a (cH b gU)))))) (aV (jH (XW.xt (Xv (cT (or_eq dM rfl) vJ (XN.r (bT (aH (pv 2)) (XN.r (aM)))) (XN.r (aM)) (dO _)) (Ly (cT (Us dM rfl) Ur (aH (pv 3)) (nT aP) (dO _))))) (aV (Ot (Fx tH aQ eX (hr.mono A8) (gG (pv 0)) (iG (bQ (aH (pv 3)) (XN.r (bT (aH (pv 4)) (XN.r (iC gD (gF rfl) rfl gC F4 (aG (aH (pv 3)) aP))))) (fun _ _=>rfl)) (iG (XN.r (wO (XN.r (aM)))) (iG (XN.r (bT (aH (pv 4)) (XN.r (uO (XN.r (aM)) (XN.r (aM)))))) (iG (XN.r (aM)) lY))))))) (aV (jH (cT (Us dM rfl) Ur (XN.r (vN zZ aQ (hr.mono A8) (aH (pv 0)))) (nT aP) (dO _)) (aN (dz (i:=6) ["box", "weaver"] [0] rfl (.at (aL Gu) ["weaver", "events", "cell", "order", "rest", "at", "keys", "key", "box", "number"] A7) lB.nd rfl (by first | ~D7 rfl | ~D6 rfl) (oM (aH (pv 3))) (lW A7 rfl rfl) (fun _ _ _ _ _=>rK) (fun _ _ _ _ _=>XR.n (bQ (XN.r (fK bK aQ (hr.mono A8) (aH (pv 1)) (aG (aH (pv 0)) aP))) (XN.r (aM)) (fun _ _=>rfl))))
  (aN (bL (i:=5) (bT (aH (pv 4)) (XN.r (cB (XN.r (iC gD (gF rfl) rfl gC F4 (aG (aH (pv 3)) aP))) (XN.r (aM))))) (fun h=>bH lB.nd rfl (by first | ~D7 rfl | ~D6 rfl) h))
  (aN (bL (i:=7) (dH Zq (hr.mono A8) rfl (aG (aH (pv 6)) (aG (aH (pv 5)) (aG (XN.r (mU (aH (pv 4)) (XN.r (aM)))) aP)))) (fun h=>bH lB.nd rfl (by first | ~D7 rfl | ~D6 rfl) h))
  (aN (aDH (is:=[8,9]) (n:=2) (Fx xO aQ eX (hr.mono A8) (gG (pv 0)) (iG (aH (pv 7)) (iG (XN.r (wO (XN.r (aM)))) (iG (XN.r (bT (aH (pv 4)) (XN.r (uO (XN.r (aM)) (XN.r (aM)))))) (iG (XN.r (aM)) lY))))) (fun h=>Hu h (RJ rfl (pZ (fW (i:=8) lB.nd rfl (by first | ~D7 rfl | ~D6 rfl)) (pZ (fW (i:=9) lB.nd rfl (by first | ~D7 rfl | ~D6 rfl)) (Wu))))))
  (aN (bL (i:=5) (Pb (XN.r (iC Uw (Ux rfl) rfl rT T0 (aG (XN.r (cB (aH (pv 6)) (nT (aG (aH (pv 7)) aP)))) aP))) (aH (pv 7)) (fun a b=>pF E6 T3 T4 Pa a (cH b gU))) (fun h=>bH lB.nd rfl (by first | ~D7 rfl | ~D6 rfl) h))
  (aV (Mi (gG (pv 1)) (qO (bI (UL) (bI (XR.n (aH (pv 9))) (bI (XR.n (aH (pv 8))) (bI (XR.n (bQ (XN.r (cB (nT (aG (XN.r (aM)) aP)) (aH (pv 3)))) (aH (pv 5)) (fun _ _=>rfl))) jB))))) (fun a b=>jJ (pF E6 J8 J9 kW a (cH b gU)))))))))) gW)))))))⟩
B5 Aa:bA ["changes", "held", "numbers", "found", "number"] ["changes", "held", "numbers"] (aL xG):=by walk_at "fs"
B5 Zr(R:Raw K mg "ripe_among" xG) (aGQ:mg "all" = none) (iH:mg "list" = none) (YD:iD mg "NEEDS" (3)):sJ P w K mg base "ripe_among" 1 3 (jA K 3 tG):=by
 &R.zF Aa (fun _ _ _ _ _ _ us hl=>match us,hl with | [_,_,_],_=>rfl) (fun _ _ _ _ _ _ _ hr=>?_)
 have dM:=hr.units
 have hu:=cY hr
 ~⟨_,aN (bL (i:=3) (wL) (fun h=>bH Aa.nd rfl (by first | ~D7 rfl | ~D6 rfl) h))
  (aN (Yc [] PassesOwn.never rfl (oM (aH (pv 2))) (fW (i:=4) Aa.nd rfl (by first | ~D7 rfl | ~D6 rfl)) (aV (jH (aAt (XN.r (iC aF3 (aF4 rfl) rfl aGQ PyProof.Rows.boot_all (aG (XN.r (oR ["need", "held", "found"] [1,3] rfl (.at (aL xG) ["changes", "held", "numbers", "found", "number"] A7) (oM (bQ (bQ (aH (pv 0)) (aH (pv 4)) (fun _ _=>rfl)) (XN.r (nZ YD rfl)) (fun _ _=>rfl))) (lW A7 rfl rfl) (fun _ _ _ _ _=>rK) (fun _ _ _ _ _=>aHU (XN.r (aAw hu (aH (pv 0)) (aH (pv 1)))) (aC6 (aAw hu (aH (pv 0)) (aH (pv 2))))))) aP)))) (aV (Yg (gG (pv 3)) (aH (pv 4)) (XN.r (Up)) (fun a b c=>tX hu a b c rfl))) gW)))
  (aV (cG (Fj HD (yR rfl) rfl iH J5 (aG (aH (pv 3)) aP)))))⟩
B5 Cz:bA ["self", "number", "change"] ["self", "number"] (aL xH):=by walk_at "fs"
B5 Qu{κ:Nat→Addr}(R:fM K (κ 0) "strike" "Bench.strike" xH false) (aY:jC K (κ 0) iZ) (aBF:iD mg "PANE" (0)) (YF:iD mg "PLACE" (1)) (Jg:iD mg "THING" (2)):dB P w K mg base (κ 0) "strike" 1 2 false (spS K 2 (rR κ)):=by
 &R.Yj Cz (fun _ _ _ _ _ _ us hl=>match us,hl with | [_,_],_=>rfl) (fun _ _ _ _ _ _ _ hr=>?_)
 have dM:=hr.units
 have hu:=cY hr
 ~⟨_,aN (bL (i:=2) (XR.n (bQ (cU aY (aH (pv 0)) A7 rfl) (aH (pv 1)) (fun _ _=>rfl))) (fun h=>bH Cz.nd rfl (by first | ~D7 rfl | ~D6 rfl) h))
  (aN (JR (HR (mV aY (gG (pv 0)) A7 rfl) (bQ (aH (pv 2)) (XN.r (nZ aBF rfl)) (fun _ _=>rfl)) (fun _ _=>rfl)) (bQ (aH (pv 2)) (XN.r (nZ YF rfl)) (fun _ _=>rfl)) (XR.n (bQ (aH (pv 2)) (XN.r (nZ Jg rfl)) (fun _ _=>rfl))) (fun a b c=>Hu c (Ww a b set_list)))
  (aV (Gb (mV aY (gG (pv 0)) A7 rfl) (aH (pv 1)) (XN.r (Up)) (fun a b c=>tX hu a b c rfl))))⟩
B5 rW:bA ["self", "pane", "most", "taken", "number"] ["self", "pane", "most"] (aL uI):=by walk_at "fs"
B5 Ti{κ:Nat→Addr}(R:fM K (κ 0) "carve" "Bench.carve" uI true) (aY:jC K (κ 0) iZ) (iT:dB P w K mg base (κ 0) "check_pane" 1 2 false (jA K 2 (iQ κ))) (Er:sJ P w K mg base "ripe_among" 1 3 (jA K 3 tG)) (xP:dB P w K mg base (κ 0) "strike" 1 2 false (spS K 2 (rR κ))) (aGR:mg "max" = none):dB P w K mg base (κ 0) "carve" 2 3 true (spS K 3 (qG κ)):=by
 &R.Yj rW (fun T _ _ _ _ _ _ us=>⟨fun hl=>match us,hl with | [_,_,_],_=>⟨_,rfl,rfl⟩,fun hl=>match us,hl with | [_,_],_=>⟨_,rfl,rfl⟩⟩) (fun _ _ _ _ _ _ _ hr=>?_)
 have dM:=hr.units
 have hu:=cY hr
 ~⟨_,aN (Bd (XN.r (fK iT aY (hr.mono A8) (aH (pv 0)) (aG (aH (pv 1)) aP))))
  (aN (bL (i:=3) (dH Er (hr.mono A8) rfl (aG (cU aY (aH (pv 0)) A7 rfl) (aG (cU aY (aH (pv 0)) A7 rfl) (aG (bQ (cU aY (aH (pv 0)) A7 rfl) (aH (pv 1)) (fun _ _=>rfl)) aP)))) (fun h=>bH rW.nd rfl (by first | ~D7 rfl | ~D6 rfl) h))
  (aN (jH (cT aj Vf (aH (pv 2)) (XN.r (wJ)) (dO _)) (aV (bL (i:=3) (HN (aH (pv 3)) (cz) (Lz (XN.r (iC aC9 (mj rfl) rfl aGR PyProof.Rows.boot_max (aG (aH (pv 2)) (aG (XN.r (aM)) aP)))))) (fun h=>bH rW.nd rfl (by first | ~D7 rfl | ~D6 rfl) h))) gW)
  (aN (Yk PassesOwn.never rfl (pv 3) (fW (i:=4) rW.nd rfl (by first | ~D7 rfl | ~D6 rfl)) (aV (Ot (rN xP aY eX (hr.mono A8) (gG (pv 0)) (iG (aH (pv 4)) lY)))))
  (aN (JR (mV aY (gG (pv 0)) A7 rfl) (aH (pv 1)) (oR ["number", "self"] [0] rfl (.at (aL uI) ["self", "pane", "most", "taken", "number"] A7) (oM (bQ (cU aY (aH (pv 0)) A7 rfl) (aH (pv 1)) (fun _ _=>rfl))) (lW A7 rfl rfl) (fun _ _ _ _ _=>Ma (Ut hu (aH (pv 0)) (cU aY (aH (pv 1)) A7 rfl))) (fun _ _ _ _ _=>XR.n (aH (pv 0)))) (fun a b c=>Hu c (Ww a b set_list)))
  (aV (Fz (pv 3)))))))⟩
B5 Zt:bA ["self"] ["self"] (aL uJ):=by walk_at "fs"
B5 Tj{κ:Nat→Addr}(R:fM K (κ 0) "stone" "Bench.stone" uJ false) (aY:jC K (κ 0) iZ) (iH:mg "list" = none):dB P w K mg base (κ 0) "stone" 1 1 false (jA K 1 (qH κ)):=by
 &R.Ga Zt (fun _ _ _ _ _ _ us hl=>match us,hl with | [_],_=>rfl) (fun _ _ _ _ _ _ _ hr=>?_)
 have dM:=hr.units
 have hu:=cY hr
 ~⟨_,aV (cG (oR ["pane"] [] rfl (.at (aL uJ) ["self"] A7) (oM (cU aY (aH (pv 0)) A7 rfl)) (lW A7 rfl rfl) (fun _ _ _ _ _=>rK) (fun _ _ _ _ _=>Fj Av (Aw rfl) rfl iH J5 (aG (aH (pv 0)) aP))))⟩
B5 Qv:bA ["self"] ["self"] (aL uW):=by walk_at "fs"
B5 Li{κ:Nat→Addr}(R:fM K (κ 0) "changes" "Bench.changes" uW false) (aY:jC K (κ 0) iZ) (iH:mg "list" = none):dB P w K mg base (κ 0) "changes" 1 1 false (jA K 1 (nF κ)):=by
 &R.Ga Qv (fun _ _ _ _ _ _ us hl=>match us,hl with | [_],_=>rfl) (fun _ _ _ _ _ _ _ hr=>?_)
 have dM:=hr.units
 have hu:=cY hr
 ~⟨_,aV (cG (Fj Av (Aw rfl) rfl iH J5 (aG (cU aY (aH (pv 0)) A7 rfl) aP)))⟩
B5 yC:bA ["script", "stone", "weaver", "first", "events", "settled", "cell", "rest", "found", "number", "due"] ["script"] (aL aDQ):=by walk_at "fs"
B5 aGS{κ:Nat→Addr}{f:Addr}{fd:FuncData}(F:Fun K "law" "law" aDQ f fd) (aQ:jC K (κ 1) dZ) (aY:jC K (κ 0) iZ) (Jm:sJ P w K mg base "_law_built" 3 1 (jA K 1 vU)) (Ab:uo P w K mg base "Weaver" (κ 1) 5 2 (spS K 2 (uF κ))) (jZ:dB P w K mg base (κ 1) "order" 1 1 false (jA K 1 (jY κ))) (Mt:sJ P w K mg base "_law_own" 1 1 (jA K 1 rO)) (Es:sJ P w K mg base "_law_spread" 1 1 (jA K 1 lQ)) (uK:dB P w K mg base (κ 0) "carve" 2 3 true (spS K 3 (qG κ))) (uL:sJ P w K mg base "_law_visible" 1 3 (jA K 3 oF)) (Ac:dB P w K mg base (κ 0) "stone" 1 1 false (jA K 1 (qH κ))) (Qw:sJ P w K mg base "_law_done" 8 3 (spG K [true,true,false] (zW κ))) (uY:dB P w K mg base (κ 0) "changes" 1 1 false (jA K 1 (nF κ))) (gC:mg "len" = none) (iH:mg "list" = none) (jP:mg "range" = none) (aGm:∀ns:List Int,ns.length≤63→(∀k∈ns,Small k)→aGI κ [.lst (ns.map D.int)]=some (.bl true)):yF P w K mg base CQ 9 f fd ["script"] (spB K):=by
 &F.okB yC (fun cdv A outer s H E hr=>?_) aGm
 have dM:=hr.units
 have hu:=cY hr
 ~⟨_,aN (bL (i:=1) (dH Jm (hr.mono A8) rfl (aG (aH (pv 0)) aP)) (fun h=>bH yC.nd rfl (by first | ~D7 rfl | ~D6 rfl) h))
  (aN (bL (i:=2) (ir Ab eX (hr.mono A8) rfl (aG (aH (pv 1)) aP)) (fun h=>bH yC.nd rfl (by first | ~D7 rfl | ~D6 rfl) h))
  (aN (bL (i:=3) (vN jZ aQ (hr.mono A8) (aH (pv 2))) (fun h=>bH yC.nd rfl (by first | ~D7 rfl | ~D6 rfl) h))
  (aN (jH (cT (Us dM rfl) Ur (aH (pv 3)) (XN.r (dH Mt (hr.mono A8) rfl (aG (aH (pv 1)) aP))) (dO _)) (aV (cG (Up))) gW)
  (aN (bL (i:=4) (yX jB) (fun h=>bH yC.nd rfl (by first | ~D7 rfl | ~D6 rfl) h))
  (aN (bL (i:=5) (wL) (fun h=>bH yC.nd rfl (by first | ~D7 rfl | ~D6 rfl) h))
  (aN (Yc [] PassesOwn.never rfl (oM (XN.r (oR ["one"] [] rfl (.at (aL aDQ) ["script", "stone", "weaver", "first", "events", "settled", "cell", "rest", "found", "number", "due"] A7) (oM (aAC (aH (pv 0)) (Lz (XN.r (aM))) (Lz (XN.r (aM))))) (lW A7 rfl rfl) (fun _ _ _ _ _=>rK) (fun _ _ _ _ _=>dH Es (hr.mono A8) rfl (aG (aH (pv 0)) aP))))) (fW (i:=6) yC.nd rfl (by first | ~D7 rfl | ~D6 rfl)) (aN (bL (i:=7) (mU (aH (pv 6)) (XN.r (aM))) (fun h=>bH yC.nd rfl (by first | ~D7 rfl | ~D6 rfl) h))
  (aV (jH (cT (or_eq dM rfl) vJ (XN.r (bT (aH (pv 6)) (XN.r (aM)))) (XN.r (aM)) (dO _)) (aN (jH (cT (or_eq dM rfl) vJ (XN.r (bT (aH (pv 7)) (XN.r (aM)))) (XN.r (aM)) (dO _)) (aV (Bc (i:=8) (rN uK aY eX (hr.mono A8) (mV aQ (gG (pv 2)) A7 rfl) (iG (XN.r (bT (XN.r (mU (aH (pv 7)) (XN.r (aM)))) (XN.r (iC gD (gF rfl) rfl gC F4 (aG (aH (pv 1)) aP))))) (iG (XN.r (bT (XN.r (mU (aH (pv 7)) (XN.r (aM)))) (XN.r (aM)))) lY))) (fun h=>bH yC.nd rfl (by first | ~D7 rfl | ~D6 rfl) h))) (aV (Bc (i:=8) (Fx uK aY eX (hr.mono A8) (mV aQ (gG (pv 2)) A7 rfl) (iG (XN.r (bT (XN.r (mU (aH (pv 7)) (XN.r (aM)))) (XN.r (iC gD (gF rfl) rfl gC F4 (aG (aH (pv 1)) aP))))) lY)) (fun h=>bH yC.nd rfl (by first | ~D7 rfl | ~D6 rfl) h))))
  (aN (Yc [8] PassesOwn.never rfl (oM (aH (pv 8))) (fW (i:=9) yC.nd rfl (by first | ~D7 rfl | ~D6 rfl)) (aV (Yg (gG (pv 5)) (aH (pv 9)) (XN.r (Up)) (fun a b c=>tX hu a b c rfl))))
  (aN (bL (i:=10) (dH uL (hr.mono A8) rfl (aG (aH (pv 3)) (aG (aH (pv 4)) (aG (aH (pv 5)) aP)))) (fun h=>bH yC.nd rfl (by first | ~D7 rfl | ~D6 rfl) h))
  (aV (jH (XW.xt (cg (cT RN WM (aH (pv 10)) (XN.r (wJ)) (dO _)) (UW (cT (Us dM rfl) Ur (XN.r (dH Mt (hr.mono A8) rfl (aG (XN.r (vN Ac aY (hr.mono A8) (cU aQ (aH (pv 2)) A7 rfl))) aP))) (aH (pv 10)) (dO _))))) (aV (cG (Up))) gW))))) (aV (Ot (aDB Qw rfl (hr.mono A8) rfl (aA9 (pv 2) (aA9 (pv 4) (aIg (aH (pv 7)) (aDA)))))))))))
  (aV (cG (aFY (or_eq dM rfl) vJ (XN.r (vN jZ aQ (hr.mono A8) (aH (pv 2)))) (XN.r (dH uL (hr.mono A8) rfl (aG (aH (pv 3)) (aG (aH (pv 4)) (aG (XN.r (aAW (XN.r (iC gD (gF rfl) rfl gC F4 (aG (XN.r (vN uY aY (hr.mono A8) (cU aQ (aH (pv 2)) A7 rfl))) aP))) rfl iH J5 rfl jP Z8)) aP))))) (dO _))))))))))⟩
end
end Rs

namespace Rs
open PySem L2
local macro_rules | `(tactic| walk_at "lt")=>`(tactic| ~R4 rfl)
local macro_rules | `(tactic| walk_at "sc")=>`(tactic| first | omega | with_reducible assumption | ~Q8 A8 | ~Dz A6 A6 | ~aIn A6 A6)
local macro_rules | `(tactic| walk_at "op")=>`(tactic| first | with_reducible assumption | with_reducible ~bR _ _ | with_reducible ~lM _ _ | with_reducible ~nM _ _ | with_reducible ~Gh _ _ | with_reducible ~wU _ _ | with_reducible ~Yo _ _ | with_reducible ~Yp _ _ | with_reducible ~Yq _ _ | with_reducible ~pK _ | with_reducible ~Pn _ | with_reducible ~dLen_tup _ | ((with_reducible apply fQ);walk_at "sc") | ((with_reducible apply bF);walk_at "sc") | ((with_reducible apply dX);(walk_at "sc");walk_at "sc") | ((with_reducible apply nD);~⟨by decide,by decide,by omega⟩) | ((with_reducible apply iY);(walk_at "sc");walk_at "sc"))
local macro_rules | `(tactic| walk_at "ea")=>`(tactic| first | with_reducible ~KY | ((with_reducible apply aA);(walk_at "ev");walk_at "ea"))
local macro_rules | `(tactic| walk_at "ev")=>`(tactic| first | ((with_reducible apply pW);~rfl) | with_reducible ~aIp | with_reducible assumption | ((with_reducible apply aK);(walk_at "ev");(walk_at "ev");walk_at "op") | ((with_reducible apply fG);(walk_at "ea");walk_at "op") | ((with_reducible apply bW);(walk_at "ea");~rfl;with_reducible assumption) | ((with_reducible apply bC);(walk_at "ev");~rfl) | ((with_reducible apply uC);walk_at "ev") | ((with_reducible apply nO);(walk_at "ea");walk_at "lt") | ((with_reducible apply gH);(walk_at "ea");walk_at "lt"))
local macro_rules | `(tactic| walk_at "et")=>`(tactic| first | ((with_reducible apply Gg);walk_at "et") | ((with_reducible apply aBo);(walk_at "et");walk_at "et") | ((with_reducible apply Yr);(walk_at "et");walk_at "et") | ((with_reducible apply cJ);walk_at "ev"))
local macro_rules | `(tactic| walk_at "set")=>`(tactic| (apply WR;(walk_at "ev");(walk_at "lt")))
local macro_rules | `(tactic| walk_at "q")=>`(tactic| (apply cL;(walk_at "ev");(walk_at "lt")))
local macro_rules | `(tactic| walk_at "op")=>`(tactic| first | with_reducible assumption | with_reducible ~bR _ _ | with_reducible ~lM _ _ | with_reducible ~nM _ _ | with_reducible ~Gh _ _ | with_reducible ~wU _ _ | with_reducible ~Yo _ _ | with_reducible ~Yp _ _ | with_reducible ~Yq _ _ | with_reducible ~pK _ | with_reducible ~Mm _ | with_reducible ~Pu _ _ _ | with_reducible ~dMin2_int _ _ | with_reducible ~Vt _ _ | with_reducible ~dIntB_bl _ | with_reducible ~jg _ | with_reducible ~LQ _ | with_reducible ~Py _ | with_reducible ~LR _ | ((with_reducible apply Yx);omega) | with_reducible ~Pn _ | with_reducible ~dLen_tup _ | ((with_reducible apply fQ);walk_at "sc") | ((with_reducible apply dMulB_int);(walk_at "sc");walk_at "sc") | ((with_reducible apply bF);walk_at "sc") | ((with_reducible apply dX);(walk_at "sc");walk_at "sc") | ((with_reducible apply nD);~⟨by decide,by decide,by omega⟩) | ((with_reducible apply iY);(walk_at "sc");walk_at "sc"))
def mO(cs:List jX)(l:List Int)(cA:Int):List Int:=((D2 cs.length).filter fun k=>decide ((at_ cs k).cA=cA)&&!decide ((k:Int)∈l)).map fun k=>((k:Nat):Int)
B5 Ad{cs:List jX}{l:List Int}{cA:Int}{x:Int}:x∈mO cs l cA↔0≤x∧x<cs.length∧(at_ cs x.toNat).cA=cA∧x∉l:=by
 B4 mO
 rw[G5]
 constructor
 ·rintro⟨k,hk,rfl⟩
  B3⟨h1,h2⟩:=K9.mp hk
  rw[F5]at h1
  rw[G9,decide_eq_true_iff]at h2
  rw[C8]
  ~⟨by omega,by omega,h2.1,by simpa using h2.2⟩
 ·rintro⟨h0,h1,h2,h3⟩
  &⟨x.toNat,K9.mpr ⟨F5.mpr A6,?_⟩,by omega⟩
  rw[G9,decide_eq_true_iff,show ((x.toNat:Nat):Int)=x by omega]
  ~⟨h2,by simpa using h3⟩
B5 Zu(cs:List jX)(l:List Int)(cA:Int):(mO cs l cA).Pairwise (·<·):=by
 B4 mO
 rw[T7]
 ~(T9.sublist Q3).imp fun h=>by omega
B5 PB(cs:List jX)(l:List Int)(cA:Int):(mO cs l cA).length≤cs.length:=by
 B4 mO
 rw[B7]
 ~G1 (List.length_filter_le _ _) (by rw[E3];~D1 _)
def Nums(cs:List jX)(ks:List Int):Prop:=ks.Nodup∧∀x∈ks,0≤x∧x<(cs.length:Int)
B5 Nums.len{cs:List jX}{ks:List Int}(h:Nums cs ks):ks.length≤cs.length:=kY _ _ h.1 h.2
structure Bn where
 bD:List (List (List Int))
 asked:List jX
 held:List Int
 nk:List (Int×Int)
 nv:List Int
def tU(p:Int×Int):List Key:=[.inl p.1,.inl p.2]
B5 Hl{a b:Int×Int}(h:tU a=tU b):a=b:=by
 B4 tU at h
 injection h with h1 h2
 injection h2 with h2 _
 injection h1 with h1
 injection h2 with h2
 ~l6 h1 h2
def fU(p:List (List Int)):D:=.lst (p.map dTup)
def iK(ps:List (List (List Int))):D:=.lst (ps.map fU)
def tV(n:Nat)(cs:List jX)(l:List Int):List D:=(D2 n).map fun p=>aJ (mO cs l ((p:Nat):Int))
def Tn:List Str:=["panes", "asked", "newest", "held", "unsettled"]
def dI(C:Addr)(a b c d e:D):D:=.ins C Tn [a,b,c,d,e]
def jQ(C:Addr)(b:Bn)(e:List D):D:=dI C (iK b.bD) (vP b.asked) (.dt (b.nk.map tU) (b.nv.map D.int)) (zO b.held) (.lst e)
def cW(C:Addr)(b:Bn):D:=jQ C b (tV b.bD.length b.asked b.held)
B5 Jo:posK Tn "panes" = some 0:=by decide +kernel
B5 Jp:posK Tn "asked" = some 1:=by decide +kernel
B5 Et:posK Tn "newest" = some 2:=by decide +kernel
B5 Qx:posK Tn "held" = some 3:=by decide +kernel
B5 Zv:posK Tn "unsettled" = some 4:=by decide +kernel
section
variable{C:Addr}{a b c d e x:D}
B5 Bq:dJ C "panes" (dI C a b c d e)=some a:=by B4 dJ dI;dsimp only;rw[if_pos rfl,Jo];rfl
B5 sH:dJ C "asked" (dI C a b c d e)=some b:=by B4 dJ dI;dsimp only;rw[if_pos rfl,Jp];rfl
B5 Eu:dJ C "newest" (dI C a b c d e)=some c:=by B4 dJ dI;dsimp only;rw[if_pos rfl,Et];rfl
B5 PJ:dJ C "held" (dI C a b c d e)=some d:=by B4 dJ dI;dsimp only;rw[if_pos rfl,Qx];rfl
B5 jn:dJ C "unsettled" (dI C a b c d e)=some e:=by B4 dJ dI;dsimp only;rw[if_pos rfl,Zv];rfl
B5 tK{s:L2.Step}{d x:D}{j:Nat}(h1:Cd s d=some j)(h2:(kids d)[j]?=some x):eV [s] d=some x:=by B4 eV;rw[h1,B9,h2];rfl
B5 qJ{s:L2.Step}{d x y:D}{j:Nat}(h1:Cd s d=some j)(h2:(kids d)[j]?=some y):eO [s] d x=Fv d ((kids d).set j x):=by
 show (match Cd s d with | some j=>_ | none=>_)=_
 rw[h1]
 show (match (kids d)[j]? with | some c=>_ | none=>_)=_
 rw[h2]
 rfl
B5 Wd{s:L2.Step}{p:List L2.Step}{d y:D}(h:eV [s] d=some y):eV (s::p) d=eV p y:=by
 show ((Cd s d).bind fun j=>((kids d)[j]?).bind (eV p))=eV p y
 B4 eV at h
 B3⟨j,h1,h2⟩:=aX h
 B3⟨z,h3,h4⟩:=aX h2
 B4 eV at h4
 cases h4
 rw[h1,B9,h3,B9]
B5 We{s:L2.Step}{p:List L2.Step}{d y x:D}(h:eV [s] d=some y):eO (s::p) d x=eO [s] d (eO p y x):=by
 B4 eV at h
 B3⟨j,h1,h2⟩:=aX h
 B3⟨z,h3,h4⟩:=aX h2
 B4 eV at h4
 cases h4
 rw[qJ h1 h3]
 show (match Cd s d with | some j=>_ | none=>_)=_
 rw[h1]
 show (match (kids d)[j]? with | some c=>_ | none=>_)=_
 rw[h3]
B5 uZ{f:Str}{j:Nat}(h:posK Tn f=some j):Cd (.fld C f) (dI C a b c d e)=some j:=by
 show (if C=C then posK Tn f else none)=some j
 rw[if_pos rfl]
 ~h
B5 Wf:eV [.fld C "panes"] (dI C a b c d e)=some a:=tK (uZ Jo) rfl
B5 vy:eV [.fld C "asked"] (dI C a b c d e)=some b:=tK (uZ Jp) rfl
B5 YG:eV [.fld C "newest"] (dI C a b c d e)=some c:=tK (uZ Et) rfl
B5 aBG:eV [.fld C "held"] (dI C a b c d e)=some d:=tK (uZ Qx) rfl
B5 Zw:eV [.fld C "unsettled"] (dI C a b c d e)=some e:=tK (uZ Zv) rfl
B5 vz:eO [.fld C "panes"] (dI C a b c d e) x=dI C x b c d e:=qJ (uZ Jo) (y:=a) rfl
B5 wg:eO [.fld C "asked"] (dI C a b c d e) x=dI C a x c d e:=qJ (uZ Jp) (y:=b) rfl
B5 YH:eO [.fld C "newest"] (dI C a b c d e) x=dI C a b x d e:=qJ (uZ Et) (y:=c) rfl
B5 aBH:eO [.fld C "held"] (dI C a b c d e) x=dI C a b c x e:=qJ (uZ Qx) (y:=d) rfl
B5 jo:eO [.fld C "unsettled"] (dI C a b c d e) x=dI C a b c d x:=qJ (uZ Zv) (y:=e) rfl
B5 YJ{xs:List D}{k:Nat}(h:xs[k]?=some x):eV [.ix k] (.lst xs)=some x:=tK (s:=.ix k) (d:=.lst xs) (j:=k) rfl h
B5 YK{xs:List D}{k:Nat}{y:D}(h:xs[k]?=some y):eO [.ix k] (.lst xs) x=.lst (xs.set k x):=qJ (s:=.ix k) (d:=.lst xs) (j:=k) rfl h
end
B5 aBI{π:FP}{g:FE}{e:DE}{p:List L2.Step}{k:Int}(h1:π e=some p)(h2:g e=some (.int k))(h3:0≤k):dm π g e=some (p++[.ix k.toNat]):=by
 B4 dm
 rw[h1,B9,h2,B9]
 dsimp only
 rw[if_pos h3]
B5 tL{env:EN}{i:Nat}{d0 d:D}{ds:List D}{π:FP}{p:List L2.Step}{f:FE}{C:Addr}{nm:List Str}{x:Str}(h1:env[i]?=some (.own d0))(h2:π (rE env)=some p)(h3:eV p d0=some (.ins C nm ds))(h4:f (rE env)=some d)(hl:nm.length<900)(hx:posK nm x=none):vM C i π x f env=.next (env.set i (.own (eO p d0 (.ins C (nm++[x]) (ds++[d]))))):=by
 rw[aGF h1 h2 h3 h4 hl]
 B4 Vc
 rw[hx]
def lastAt(cs:List jX)(p q:Int):Option Int:=((D2 cs.length).filter fun k=>decide ((at_ cs k).cA=p∧(at_ cs k).place=q)).getLast?.map fun k=>((k:Nat):Int)
B5 qK(cs:List jX)(c:jX)(p q:Int):lastAt (cs++[c]) p q=if c.cA=p∧c.place=q then some (cs.length:Int)else lastAt cs p q:=by
 B4 lastAt
 have e:(D2 cs.length).filter (fun k=>decide ((at_ (cs++[c]) k).cA=p∧(at_ (cs++[c]) k).place=q))=(D2 cs.length).filter fun k=>decide ((at_ cs k).cA=p∧(at_ cs k).place=q):=T8 fun k hk=>by rw[gZ (F5.mp hk)]
 rw[C7,show cs.length+[c].length=cs.length+1 from rfl,b6,P1,e]
 by_cases h:c.cA=p∧c.place=q
 ·rw[if_pos h,O5 (by rw[nP];~decide_eq_true h),N4,V5]
  rfl
 ·rw[if_neg h,O6 (by rw[nP];simpa using h),N4,F2]
B5 wA{cs:List jX}{p q k:Int}(h:lastAt cs p q=some k):0≤k∧k<(cs.length:Int)∧(at_ cs k.toNat).cA=p∧(at_ cs k.toNat).place=q:=by
 B4 lastAt at h
 B3⟨j,h1,rfl⟩:=lJ h
 have hm:=f6 h1
 B3⟨m1,m2⟩:=K9.mp hm
 have:=F5.mp m1
 have m2:=of_decide_eq_true m2
 rw[C8]
 ~⟨by omega,by omega,m2⟩
B5 wB{α β:Type} [DecidableEq α] [DecidableEq β] {φ:α→β} (hi:∀a b,φ a=φ b→a=b) (k:α):∀ks:List α,posK (ks.map φ) (φ k)=posK ks k
 | []=>rfl
 | a::ks=>by
  rw[D5]
  B4 posK
  rw[wB hi k ks]
  by_cases c:a=k
  ·rw[if_pos c,if_pos (by rw[c])]
  ·rw[if_neg c,if_neg fun z=>c (hi _ _ z)]
B5 PK{α β:Type} [DecidableEq α] [DecidableEq β] {φ:α→β} (hi:∀a b,φ a=φ b→a=b) (k:α) (ks:List α):lE (ks.map φ) (φ k)=(lE ks k).map φ:=by
 B4 lE
 rw[wB hi]
 split
 ·rfl
 ·rw[J0];rfl
B5 PL{α β γ δ:Type} [DecidableEq α] [DecidableEq β] {φ:α→β} (hi:∀a b,φ a=φ b→a=b) (ψ:γ→δ) (k:α) (ks:List α) (ds:List γ) (d:γ):putD (ks.map φ) (ds.map ψ) (φ k) (ψ d)=(putD ks ds k d).map ψ:=by
 B4 putD
 rw[wB hi]
 split
 ·rw[List.zipWith_map,List.map_zipWith]
  congr 1
  funext a b
  by_cases c:a=k
  ·rw[if_pos c,if_pos (by rw[c])]
  ·rw[if_neg c,if_neg fun z=>c (hi _ _ z)]
 ·rw[J0];rfl
B5 aGT{α β:Type} [DecidableEq α] {ks:List α} {ds:List β} {k k':α} {d:β} {j:Nat} (h:posK ks k'=some j) (hl:ks.length=ds.length):(R1 (fun a b=>if a=k then d else b) ks ds)[j]?=if k'=k then some d else ds[j]?:=by
 B3⟨h1,h2⟩:=rJ h
 rw[List.getElem?_zipWith,h2,B6 A6]
 show some (if k'=k then d else ds[j])=_
 split<;>rfl
B5 pY{α β:Type} [DecidableEq α] {k k':α} {d:β}:∀{ks:List α} {ds:List β},ks.length=ds.length→((posK (lE ks k) k').bind fun j=>(putD ks ds k d)[j]?)=if k'=k then some d else(posK ks k').bind fun j=>ds[j]?
 | [],ds,h=>by
  cases ds with
  | cons=>simp at h
  | nil=>
   show ((posK [k] k').bind fun j=>[d][j]?)=_
   B4 posK
   by_cases c:k=k'
   ·rw[if_pos c,if_pos c.symm];rfl
   ·rw[if_neg c,if_neg fun z=>c z.symm];rfl
 | a::ks,[],h=>by simp at h
 | a::ks,x::ds,h=>by
  have h':ks.length=ds.length:=by simpa using h
  by_cases c:a=k
  ·have e0:posK (a::ks) k=some 0:=by B4 posK;rw[if_pos c]
   B4 lE putD
   rw[e0]
   simp only[i7,if_true]
   cases q:posK (a::ks) k' with
   | none=>
    have:k'≠k:=fun z=>by rw[z,e0]at q;cases q
    rw[if_neg this]
    rfl
   | some j=>
    rw[B9,aGT q h]
    rfl
  ·have e1:lE (a::ks) k=a::lE ks k:=by
    have e0:posK (a::ks) k=(posK ks k).map (·+1):=by
     show (if a=k then some 0 else(posK ks k).map (·+1))=_
     rw[if_neg c]
    B4 lE
    rw[e0]
    cases posK ks k<;>rfl
   have e2:putD (a::ks) (x::ds) k d=x::putD ks ds k d:=by
    have e0:posK (a::ks) k=(posK ks k).map (·+1):=by
     show (if a=k then some 0 else(posK ks k).map (·+1))=_
     rw[if_neg c]
    B4 putD
    rw[e0]
    cases posK ks k with
    | none=>rfl
    | some j=>
     show (if a=k then d else x)::_=_
     rw[if_neg c]
     rfl
   rw[e1,e2]
   have ih:=pY (k:=k) (k':=k') (d:=d) h'
   show ((if a=k' then some 0 else(posK (lE ks k) k').map (·+1)).bind _)=if k'=k then some d else((if a=k' then some 0 else(posK ks k').map (·+1)).bind _)
   by_cases c2:a=k'
   ·rw[if_pos c2,if_pos c2,if_neg (by rw[←c2];~c)]
    rfl
   ·rw[if_neg c2,if_neg c2]
    have m:∀{γ:Type}(o:Option Nat)(y:γ)(l:List γ),((o.map (·+1)).bind fun j=>(y::l)[j]?)=o.bind fun j=>l[j]?:=fun o y l=>by cases o<;>rfl
    rw[m,m,ih]
structure Ae(b:Bn):Prop where
 good:Good b.asked
 nums:Nums b.asked b.held
 PN:∀k,k<b.asked.length→0≤(at_ b.asked k).cA∧(at_ b.asked k).cA<(b.bD.length:Int)∧0≤(L2.at_ b.asked k).place∧(L2.at_ b.asked k).place<((b.bD.getD (L2.at_ b.asked k).cA.toNat []).length:Int)
 nl:b.nk.length=b.nv.length
 nw:∀p q:Int,((posK b.nk (p,q)).bind fun j=>b.nv[j]?)=lastAt b.asked p q
 few:b.bD.length≤8
 nkl:b.nk.length≤b.asked.length
B5 wC{ps:List (List (List Int))}{p:Int}(h0:0≤p)(h1:p<(ps.length:Int)):fJ (iK ps) (.int p)=some (fU (ps.getD p.toNat [])):=uA h0 (by
 rw[C4,gY (d:=[]) (show p.toNat<ps.length by omega)]
 rfl)
B5 wD(ps:List (List (List Int))):jU [iK ps]=some (.int ps.length):=by show some (D.int ((ps.map fU).length:Nat))=_;rw[B7]
B5 Ho(ps:List (List Int)):jU [fU ps]=some (.int ps.length):=by show some (D.int ((ps.map dTup).length:Nat))=_;rw[B7]
variable(κ:Nat→Addr)
B5 Hq{b:Bn}{e:List D}{p:Int}(h0:0≤p)(h1:p<(b.bD.length:Int)):iQ κ [jQ (κ 0) b e,.int p]=some .non:=by
 &Ed (env':=[.fro (jQ (κ 0) b e),.fro (.int p)]) rfl ?_
 B4 xX
 rw[lZ]
 ·rfl
 &(Gg (Yy rfl rfl (fG (aA (cQ rfl Bq) rfl) (wD _)))).trans ?_
 rw[decide_eq_true h0,decide_eq_true h1]
 rfl
B5 Dc{b:Bn}{e:List D}{p q:Int}(h0:0≤p)(h1:p<(b.bD.length:Int))(h2:0≤q)(h3:q<((b.bD.getD p.toNat []).length:Int)):gO κ [jQ (κ 0) b e,.int p,.int q]=some .non:=by
 &Ed (env':=[.fro (jQ (κ 0) b e),.fro (.int p),.fro (.int q)]) rfl ?_
 B4 vV
 &(eG (env':=[.fro (jQ (κ 0) b e),.fro (.int p),.fro (.int q)]) (Gm (d:=.non) ?_)).trans ?_
 ·~bO (nm:=Tn) rfl A7 rfl rfl (Hq κ h0 h1)
 rw[lZ]
 ·rfl
 &(Gg (Yy rfl rfl (fG (aA (aK (cQ rfl Bq) rfl (wC h0 h1)) rfl) (Ho _)))).trans ?_
 rw[decide_eq_true h2,decide_eq_true h3]
 rfl
B5 Af{b:Bn}{e:List D}{p:Int}(h0:0≤p)(h1:p<(b.asked.length:Int)):fZ κ [jQ (κ 0) b e,.int p]=some .non:=by
 &Ed (env':=[.fro (jQ (κ 0) b e),.fro (.int p)]) rfl ?_
 B4 uG
 rw[lZ]
 ·rfl
 &(Gg (Yy rfl rfl (fG (aA (cQ rfl sH) rfl) (Mm _)))).trans ?_
 rw[decide_eq_true h0,decide_eq_true h1]
 rfl
def gJ(b:Bn)(p q:Int)(th ns:List Int):jX:=⟨p,q,th,RD (ns++(lastAt b.asked p q).toList)⟩
def Bn.put(b:Bn)(p q:Int)(th ns:List Int):Bn:={b with asked:=b.asked++[gJ b p q th ns],nk:=lE b.nk (p,q),nv:=putD b.nk b.nv (p,q) (b.asked.length:Int)}
B5 Wg{cs:List jX}{l:List Int}{c:jX}{p:Int}(h:(cs.length:Int)∉l):mO (cs++[c]) l p=if c.cA=p then mO cs l p++[(cs.length:Int)]else mO cs l p:=by
 B4 mO
 have e:(D2 cs.length).filter (fun k=>decide ((at_ (cs++[c]) k).cA=p)&&!decide ((k:Int)∈l))=(D2 cs.length).filter fun k=>decide ((at_ cs k).cA=p)&&!decide ((k:Int)∈l):=T8 fun k hk=>by rw[gZ (F5.mp hk)]
 rw[C7,show cs.length+[c].length=cs.length+1 from rfl,b6,P1,e,J0]
 by_cases q:c.cA=p
 ·rw[if_pos q,O5 (by rw[nP,decide_eq_true q,decide_eq_false h];rfl)]
  rfl
 ·rw[if_neg q,O6 (by rw[nP,decide_eq_false q];simp),N4,L3,F2]
B5 aDS{n:Nat}{cs:List jX}{l:List Int}{c:jX}(h:(cs.length:Int)∉l)(h0:0≤c.cA)(h1:c.cA<(n:Int)):(tV n cs l).set c.cA.toNat (aJ (mO cs l c.cA++[(cs.length:Int)]))=tV n (cs++[c]) l:=by
 B4 tV
 apply K5
 intro k
 rw[G4,B7,E3,C4,C4]
 by_cases e:c.cA.toNat=k
 ·rw[if_pos e,if_pos A6,G8 A6,G7,Wg h,if_pos (show c.cA=((k:Nat):Int) by omega),show ((k:Nat):Int)=c.cA by omega]
 ·rw[if_neg e]
  by_cases hk:k<n
  ·rw[G8 hk,G7,G7,Wg h,if_neg A6]
  ·rw[E1 (by rw[E3];omega)]
   rfl
B5 Zx{n:Nat}{cs:List jX}{l:List Int}{p:Int}(h0:0≤p)(h1:p<(n:Int)):(tV n cs l)[p.toNat]?=some (aJ (mO cs l p)):=by
 B4 tV
 rw[C4,G8 A6,G7,show ((p.toNat:Nat):Int)=p by omega]
B5 Ae.put{b:Bn}(h:Ae b){p q:Int}{th ns:List Int}(h60:b.asked.length<124)(h0:0≤p)(h1:p<(b.bD.length:Int))(h2:0≤q)(h3:q<((b.bD.getD p.toNat []).length:Int))(hn:∀m∈ns,0≤m∧m<(b.asked.length:Int))(hl:ns.length≤8):Ae (b.put p q th ns):=by
  have aIt:∀m∈(gJ b p q th ns).needs,0≤m∧m<(b.asked.length:Int):=fun m hm=>by
    have hm:=(Bb _ _).mp hm
    rcases G0.mp hm with z | z
    · ~hn m z
    · cases e:lastAt b.asked p q with
      | none=>rw[e]at z;cases z
      | some k=>
        rw[e]at z
        rw[D9.mp z]
        have:=wA e
        ~⟨this.1,this.2.1⟩
  have hlen:(b.put p q th ns).asked.length=b.asked.length+1:=by B4 Bn.put;rw[C7];rfl
  have hcase:∀k,k<(b.put p q th ns).asked.length→(k<b.asked.length∧at_ (b.put p q th ns).asked k=at_ b.asked k)∨(k=b.asked.length∧at_ (b.put p q th ns).asked k=gJ b p q th ns):=fun k hk=>by
    rw[hlen]at hk
    rcases J2 k b.asked.length with z | z
    · ~.inl ⟨z,gZ z⟩
    · have e:k=b.asked.length:=by omega
      subst e
      ~.inr ⟨rfl,nP _ _⟩
  &⟨⟨by rw[hlen];omega,fun k hk=>?_⟩,⟨h.nums.1,fun x hx=>?_⟩,fun k hk=>?_,?_,fun p' q'=>?_,h.few,?_⟩
  · rcases hcase k hk with ⟨a,e⟩ | ⟨a,e⟩
    · rw[e];~h.good.2 k a
    · rw[e,a]
      &⟨aIt,WK _,?_⟩
      have:=gw (ns++(lastAt b.asked p q).toList)
      show (RD (ns++(lastAt b.asked p q).toList)).length≤9
      rw[C7]at this
      have:(lastAt b.asked p q).toList.length≤1:=by cases lastAt b.asked p q<;>simp
      omega
  · have:=h.nums.2 x hx
    rw[hlen]
    omega
  · rcases hcase k hk with ⟨a,e⟩ | ⟨a,e⟩
    · have:=h.PN k a
      rw[e]
      ~this
    · rw[e]
      ~⟨h0,h1,h2,h3⟩
  · ~vK h.nl
  · show ((posK (lE b.nk (p,q)) (p',q')).bind fun j=>(putD b.nk b.nv (p,q) (b.asked.length:Int))[j]?)=lastAt (b.asked++[gJ b p q th ns]) p' q'
    rw[pY h.nl,qK,h.nw]
    by_cases c:(p',q')=(p,q)
    · have c1:p'=p:=congrArg Prod.fst c
      have c2:q'=q:=congrArg Prod.snd c
      rw[if_pos c,if_pos ⟨c1.symm,c2.symm⟩]
    · rw[if_neg c,if_neg fun z=>c (l6 z.1.symm z.2.symm)]
  · have:=h.nkl
    rw[hlen]
    show (lE b.nk (p,q)).length≤_
    B4 lE
    split
    · omega
    · rw[C7];simp;omega
B5 aBJ{b:Bn}(h:Ae b)(p q:Int):posK (b.nk.map tU) (tU (p,q))=posK b.nk (p,q):=wB (fun _ _=>Hl) _ _
B5 aGU{b:Bn}(h:Ae b){p q:Int}{th ns:List Int}{nd:D}(h0:0≤p)(h1:p<(b.bD.length:Int))(h2:0≤q)(h3:q<((b.bD.getD p.toNat []).length:Int))(hn:∀m∈ns,0≤m∧m<(b.asked.length:Int))(hl:ns.length≤50)(hnd:(nd=.non∧ns=[])∨nd=aJ ns):Bm κ [cW (κ 0) b,.int p,.int q,dTup th,nd]=some (.int b.asked.length,cW (κ 0) (b.put p q th ns)):=by
  &oX rfl fun v=>?_
  B4 Wc
  &XC (d:=.non) (bO rfl (show ("check_place" : Str)∉Tn by decide +kernel) rfl rfl (Dc κ h0 h1 h2 h3)) ?_
  have h60:=h.good.1
  &cL (d:=aJ ns) ?_ A9 ?_
  · rcases hnd with ⟨rfl,rfl⟩ | rfl
    · ~aEM (cJ (aK rfl rfl (Bl false .non))) rfl
    · ~aEN (cJ (aK rfl rfl (Bl false (aJ ns)))) (fG (aA rfl rfl) (sE (dG ns)))
  &XD (ns:=ns) [.inn v (cW (κ 0) b),.fro (.int p),.fro (.int q),.fro (dTup th),.fro nd,.own (aJ ns),lv ns .no ns.length,.no] rfl rfl (fun v2 k env=>env=[.inn v (cW (κ 0) b),.fro (.int p),.fro (.int q),.fro (dTup th),.fro nd,.inn v2 (aJ ns),lv ns .no k,.no]) (fun v2=>rfl) (fun v2 k env e=>by rw[e];rfl) ?_ (fun v2 env e=>by rw[e];rfl) ?_
  · rintro v2 k x env hx rfl
    &⟨by walk_at "lt", _,Gm (d:=.non) (bO rfl (show ("check_change" : Str)∉Tn by decide +kernel) rfl rfl (Af κ (hn x (E4 hx)).1 (hn x (E4 hx)).2)),?_⟩
    have e:lv ns .no (k+1)=.fro (.int x):=by
      show SD.fro (.int (ns.getD k 0))=_
      rw[jW hx]
    rw[e]
    rfl
  have hkey:∀vv7:SD,Im (aB (aD 1) (aB (aD 2) aO)) (rE [.inn v (cW (κ 0) b),.fro (.int p),.fro (.int q),.fro (dTup th),.fro nd,.own (aJ ns),lv ns .no ns.length,vv7])=some (tU (p,q)):=fun _=>rfl
  have hin:fB (Su false (Im (aB (aD 1) (aB (aD 2) aO))) (pJ (dJ (κ 0) "newest") (aD 0))) (rE [.inn v (cW (κ 0) b),.fro (.int p),.fro (.int q),.fro (dTup th),.fro nd,.own (aJ ns),lv ns .no ns.length,.no])=some (posK b.nk (p,q)).isSome:=by
    &cJ ?_
    B4 Su
    rw[hkey,B9]
    rw[show pJ (dJ (κ 0) "newest") (aD 0) (rE [.inn v (cW (κ 0) b),.fro (.int p),.fro (.int q),.fro (dTup th),.fro nd,.own (aJ ns),lv ns .no ns.length,.no])=some (.dt (b.nk.map tU) (b.nv.map D.int))from cQ rfl Eu,B9]
    dsimp only
    rw[aBJ h]
    rfl
  have hif:qP (fB (Su false (Im (aB (aD 1) (aB (aD 2) aO))) (pJ (dJ (κ 0) "newest") (aD 0)))) (zB 5 cR (Ox (pJ (dJ (κ 0) "newest") (aD 0)) (Im (aB (aD 1) (aB (aD 2) aO))))) fX [.inn v (cW (κ 0) b),.fro (.int p),.fro (.int q),.fro (dTup th),.fro nd,.own (aJ ns),lv ns .no ns.length,.no]=.next [.inn v (cW (κ 0) b),.fro (.int p),.fro (.int q),.fro (dTup th),.fro nd,.own (aJ (ns++(lastAt b.asked p q).toList)),lv ns .no ns.length,.no]:=by
    have hw:=h.nw p q
    cases e:posK b.nk (p,q)with
    | none=>
      rw[e]at hin hw
      rw[lZ hin,←hw]
      show SR.next _=SR.next _
      rw[show ((none:Option Nat).bind fun j=>b.nv[j]?)=none from rfl]
      show SR.next _=SR.next [_,_,_,_,_,.own (aJ (ns++[])),_,_]
      rw[F2]
    | some j=>
      rw[e]at hin hw
      B3⟨j1,j2⟩:=rJ e
      have hj:j<b.nv.length:=by rw[←h.nl];~j1
      rw[vO hin,←hw,B9,B6 hj]
      &(aBm (ds:=ns.map D.int) (d:=.int b.nv[j]) rfl ?_ (by rw[B7];omega)).trans ?_
      · B4 Ox
        rw[show pJ (dJ (κ 0) "newest") (aD 0) (rE [.inn v (cW (κ 0) b),.fro (.int p),.fro (.int q),.fro (dTup th),.fro nd,.own (aJ ns),lv ns .no ns.length,.no])=some (.dt (b.nk.map tU) (b.nv.map D.int))from cQ rfl Eu,B9,hkey,B9]
        dsimp only
        rw[aBJ h,e,B9,C4,B6 hj]
        rfl
      · rw[wW]
        rfl
  &aBs hif ?_
  have h4:(ns++(lastAt b.asked p q).toList).length≤51:=by
    rw[C7]
    have:(lastAt b.asked p q).toList.length≤1:=by cases lastAt b.asked p q<;>simp
    omega
  &cL (d:=.int b.asked.length) (fG (aA (cQ rfl sH) rfl) (Mm _)) A9 ?_
  &qD (d:=cW (κ 0) b) rfl (Qc (d0:=cW (κ 0) b) (ds:=b.asked.map Yw) (d:=Yw (gJ b p q th ns)) rfl rfl vy ?_ (by rw[B7];omega)) rfl ?_
  · ~nO (aA (bC rfl rfl) (aA (bC rfl rfl) (aA (bC rfl (lN th)) (aA (fG (aA (cQ rfl (WW A6)) rfl) (LC _)) rfl)))) A9
  rw[show eO ([]++[L2.Step.fld (κ 0) "asked"]) (cW (κ 0) b) (.lst (b.asked.map Yw++[Yw (gJ b p q th ns)]))=dI (κ 0) (iK b.bD) (vP (b.asked++[gJ b p q th ns])) (.dt (b.nk.map tU) (b.nv.map D.int)) (zO b.held) (.lst (tV b.bD.length b.asked b.held))from by rw[vf];~wg]
  &qD rfl (aDP (d:=.int b.asked.length) (k:=tU (p,q)) rfl rfl YG rfl rfl rfl (by
    have:=h.nl
    rw[B7]
    have:=h.nkl
    omega)) rfl ?_
  rw[show eO ([]++[L2.Step.fld (κ 0) "newest"]) (dI (κ 0) (iK b.bD) (vP (b.asked++[gJ b p q th ns])) (.dt (b.nk.map tU) (b.nv.map D.int)) (zO b.held) (.lst (tV b.bD.length b.asked b.held))) (.dt (lE (b.nk.map tU) (tU (p,q))) (putD (b.nk.map tU) (b.nv.map D.int) (tU (p,q)) (.int b.asked.length)))=dI (κ 0) (iK b.bD) (vP (b.asked++[gJ b p q th ns])) (.dt ((lE b.nk (p,q)).map tU) ((putD b.nk b.nv (p,q) (b.asked.length:Int)).map D.int)) (zO b.held) (.lst (tV b.bD.length b.asked b.held))from by
    rw[PK (fun _ _=>Hl),PL (fun _ _=>Hl) D.int]
    ~YH]
  &qD rfl (Qc (p:=[L2.Step.fld (κ 0) "unsettled", .ix p.toNat]) (ds:=(mO b.asked b.held p).map D.int) (d:=.int b.asked.length) rfl ?_ ((Wd Zw).trans (YJ (Zx h0 h1))) (bC rfl rfl) ?_) rfl ?_
  · show (if 0≤p then _ else _)=_
    rw[if_pos h0]
    rfl
  · rw[B7]
    have:=PB b.asked b.held p
    omega
  &Ms rfl ⟨_,.inl rfl,?_⟩
  show some (SD.inn v (eO [L2.Step.fld (κ 0) "unsettled", .ix p.toNat] _ _))=some (SD.inn v _)
  rw[We Zw,YK (Zx h0 h1),jo]
  have hnot:(b.asked.length:Int)∉b.held:=fun z=>by
    have:=h.nums.2 _ z
    omega
  have e:=aDS (n:=b.bD.length) (c:=gJ b p q th ns) hnot h0 h1
  rw[←wW]at e
  rw[show p.toNat=(gJ b p q th ns).cA.toNat from rfl,show mO b.asked b.held p=mO b.asked b.held (gJ b p q th ns).cA from rfl,e]
  rfl
B5 aDT{tO:List (List (List Int))}(hl:tO.length≤8):sZ κ [.ins (κ 0) [] [],iK tO]=some (.non,cW (κ 0) ⟨tO,[],[],[],[]⟩):=by
 &oX rfl fun v=>?_
 B4 Qg
 have h1:jG (oK (aD 1)) [] nY (fL dList (aB (aD 0) aO)) (rE ([.inn v (.ins (κ 0) [] []),.fro (iK tO)].set 0 (.own (.ins (κ 0) [] []))))=some (iK tO):=Iu (xs:=tO) (ψ:=fU) (φ:=fU) (kO rfl) A6 fun x _=>fG (aA rfl rfl) (sE (Gj fun d hd=>by
  B3⟨t,_,rfl⟩:=G5.mp hd
  ~lN t))
 &qD rfl (tL (p:=[]) (nm:=[]) rfl rfl rfl h1 A8 rfl) rfl ?_
 &qD rfl (tL (p:=[]) (nm:=["panes"]) (d:=vP []) rfl rfl rfl rfl A8 A7) rfl ?_
 &qD rfl (tL (p:=[]) (nm:=["panes", "asked"]) (d:=.dt [] []) rfl rfl rfl rfl A8 A7) rfl ?_
 &qD rfl (tL (p:=[]) (nm:=["panes", "asked", "newest"]) (d:=zO []) rfl rfl rfl rfl A8 A7) rfl ?_
 &Qa rfl (tL (p:=[]) (nm:=["panes", "asked", "newest", "held"]) (d:=.lst (tO.map fun _=>aJ [])) rfl rfl rfl (Iu (xs:=tO) (ψ:=fU) (φ:=fun _=>aJ []) (kO rfl) A6 fun x _=>rfl) A8 A7) rfl ⟨_,.inr ⟨rfl,rfl⟩,?_⟩
 have e:(tO.map fun _=>aJ [])=tV tO.length [] []:=by
  B4 tV
  apply K5
  intro k
  rw[C4,C4]
  by_cases hk:k<tO.length
  ·rw[B6 hk,G8 hk]
   rfl
  ·rw[E1 A6,E1 (by rw[E3];omega)]
   rfl
 B4 cW jQ
 dsimp only
 rw[←e]
 rfl
B5 Ae.init{tO:List (List (List Int))}(hl:tO.length≤8):Ae ⟨tO,[],[],[],[]⟩:=⟨⟨M3 _,fun k hk=>absurd hk (I0 _)⟩,⟨c9,fun x hx=>by cases hx⟩,fun k hk=>absurd hk (I0 _),rfl,fun p q=>rfl,hl,D1 _⟩
def val(ps:List (List (List Int)))(p q:Nat):List Int:=(ps.getD p []).getD q []
def topOf(cs:List jX)(d:List Int):Option Int→List Int
 | some k=>(at_ cs k.toNat).thing
 | none=>d
B5 jq{b:Bn}(p q:Int):posK (b.nk.map tU) (tU (p,q))=posK b.nk (p,q):=wB (fun _ _=>Hl) _ _
def face(b:Bn)(p q:Int):List Int:=topOf b.asked (val b.bD p.toNat q.toNat) (lastAt b.asked p q)
B5 Qy{ps:List (List Int)}{q:Int}(h0:0≤q)(h1:q<(ps.length:Int)):fJ (fU ps) (.int q)=some (dTup (ps.getD q.toNat [])):=uA h0 (by
 rw[C4,gY (d:=[]) (show q.toNat<ps.length by omega)]
 rfl)
B5 aDU{b:Bn}(h:Ae b){p q:Int}(h0:0≤p)(h1:p<(b.bD.length:Int))(h2:0≤q)(h3:q<((b.bD.getD p.toNat []).length:Int)):tD κ [cW (κ 0) b,.int p,.int q]=some (dTup (face b p q)):=by
 suffices hh:∃d,tD κ [cW (κ 0) b,.int p,.int q]=some d∧d=dTup (face b p q) by
  B3⟨d,e1,rfl⟩:=hh
  ~e1
 &jh rfl ?_
 B4 Qj
 &XC (d:=.non) (bO rfl (show ("check_place" : Str)∉Tn by decide +kernel) rfl rfl (Dc κ h0 h1 h2 h3)) ?_
 have hkey:Im (aB (aD 1) (aB (aD 2) aO)) (rE [.fro (cW (κ 0) b),.fro (.int p),.fro (.int q)])=some (tU (p,q)):=rfl
 have hnw:pJ (dJ (κ 0) "newest") (aD 0) (rE [.fro (cW (κ 0) b),.fro (.int p),.fro (.int q)])=some (.dt (b.nk.map tU) (b.nv.map D.int)):=cQ rfl Eu
 have hin:fB (Su false (Im (aB (aD 1) (aB (aD 2) aO))) (pJ (dJ (κ 0) "newest") (aD 0))) (rE [.fro (cW (κ 0) b),.fro (.int p),.fro (.int q)])=some (posK b.nk (p,q)).isSome:=by
  &cJ ?_
  B4 Su
  rw[hkey,B9,hnw,B9]
  dsimp only
  rw[jq]
  rfl
 have hw:=h.nw p q
 B4 face
 cases e:posK b.nk (p,q)with
 | some j=>
  rw[e]at hin hw
  B3⟨j1,j2⟩:=rJ e
  have hj:j<b.nv.length:=by rw[←h.nl];~j1
  rw[B9,B6 hj]at hw
  have hl:=wA hw.symm
  rw[←hw]
  &aEK hin rfl ?_
  have hg:Ox (pJ (dJ (κ 0) "newest") (aD 0)) (Im (aB (aD 1) (aB (aD 2) aO))) (rE [.fro (cW (κ 0) b),.fro (.int p),.fro (.int q)])=some (.int b.nv[j]):=by
   B4 Ox
   rw[hnw,B9,hkey,B9]
   dsimp only
   rw[jq,e,B9,C4,B6 hj]
   rfl
  have hc:fJ (vP b.asked) (.int b.nv[j])=some (Yw (at_ b.asked b.nv[j].toNat)):=by
   have:=Yx (cs:=b.asked) (k:=b.nv[j].toNat) A6
   rw[show ((b.nv[j].toNat:Nat):Int)=b.nv[j] by omega]at this
   ~this
  ~KZ (bC (aK (aK (cQ rfl sH) hg hc) rfl (Py _)) (lN _)) ⟨_,rfl,rfl⟩
 | none=>
  rw[e]at hin hw
  rw[←hw]
  &Vp hin rfl ?_
  apply Le
  ~uV (bC (aK (aK (cQ rfl Bq) rfl (wC h0 h1)) rfl (Qy h2 h3)) (lN _)) ⟨_,rfl,rfl⟩
B5 PQ{b:Bn}:nF κ [cW (κ 0) b]=some (vP b.asked):=kZ rfl (fY (fG (aA (cQ rfl sH) rfl) (sE (aBz _))))
def PX(cs:List jX)(l:List Int)(cA:Int)(r:List Int):Prop:=r.Pairwise (·<·)∧r.length≤cs.length∧∀x,x∈r↔(0≤x∧x<cs.length∧(at_ cs x.toNat).cA=cA∧x∉l)∧∀m∈(at_ cs x.toNat).needs,m∈l∨m∈r
B5 aBK{cs:List jX}{ks nums:List Int}(hg:Good cs)(hu:nums.Pairwise (·<·))(hn:∀x∈nums,0≤x∧x<cs.length)(hl:nums.length≤124):∃r,tG [vP cs,zO ks,aJ nums]=some (aJ r)∧r.Pairwise (·<·)∧r.length≤nums.length∧∀x,x∈r↔x∈nums∧∀m∈(at_ cs x.toNat).needs,m∈ks∨m∈r:=by
  suffices h:∃d,tG [vP cs,zO ks,aJ nums]=some d∧∃r,d=aJ r∧r.Pairwise (·<·)∧r.length≤nums.length∧∀x,x∈r↔x∈nums∧∀m∈(at_ cs x.toNat).needs,m∈ks∨m∈r by
    B3⟨d,h1,r,rfl,h2⟩:=h
    ~⟨r,h1,h2⟩
  &sW rfl ?_
  B4 Qk
  &cL (d:=zO []) rfl A9 ?_
  &je (xs:=nums.map D.int) (fun n env=>∃(r:List Int)(v:SD),env=[.fro (vP cs),.fro (zO ks),.fro (aJ nums),.own (zO r),v]∧r.Pairwise (·<·)∧r.length≤n∧∀x,x∈r↔x∈nums.take n∧∀m∈(at_ cs x.toNat).needs,m∈ks∨m∈r) rfl (kO rfl) ⟨[],_,rfl,.nil,D1 _,fun x=>by simp⟩ ?_ ?_
  · rintro n x env hx ⟨r,v,rfl,h1,h2,h3⟩
    &⟨by walk_at "lt", ?_⟩
    rw[C4]at hx
    cases qq:nums[n]? with
    | none=>rw[qq]at hx;cases hx
    | some y=>
      rw[qq]at hx
      cases hx
      have hnl:=(D4.mp qq).1
      have hy:=hn y (E4 qq)
      B3⟨k,rfl⟩:∃k:Nat,y=k:=⟨y.toNat,by omega⟩
      have hk:k<cs.length:=by omega
      B3⟨g1,g2,g3⟩:=hg.2 k hk
      have hc:=Yx (cs:=cs) hk
      have htk:nums.take (n+1)=nums.take n++[(k:Int)]:=by rw[O4,qq];rfl
      have lt:∀z∈nums.take n,z<(k:Int):=fun z hz=>by
        have hu':=hu.sublist (M5 (n+1) nums)
        rw[htk]at hu'
        ~(K7.mp hu').2.2 z hz k (by simp)
      have rlt:∀z∈r,z<(k:Int):=fun z hz=>lt z ((h3 z).mp hz).1
      have Ag:=Iv (fi:=oK (f2 fJ (f2 fJ (aD 0) (aD 4)) (fC (.int 3)))) (fr:=[1,3]) (fc:=nY) (fe:=qu (f2 (Dk false) (aD 0) (aD 1)) (f2 (Dk false) (aD 0) (aD 2))) (e:=rE [.fro (vP cs),.fro (zO ks),.fro (aJ nums),.own (zO r),.fro (.int (k:Int))]) (ms:=(at_ cs k).needs) (fun _=>true) (fun m=>.bl (decide (m∈ks)||decide (m∈r)))
        (vg (aK (aK rfl rfl hc) rfl (LR _))) A6 (fun m hm=>rfl) fun m hm _=>aDO (aK rfl rfl (Pu false m ks)) (aK rfl rfl (Pu false m r))
      rw[Q4.mpr fun _ _=>rfl]at Ag
      have hall:=aBB (fun m:Int=>decide (m∈ks)||decide (m∈r)) (at_ cs k).needs
      apply zL (b:=(at_ cs k).needs.all fun m=>decide (m∈ks)||decide (m∈r))
      · ~cJ (fG (aA Ag rfl) hall)
      · intro hb
        have hb:∀m∈(at_ cs k).needs,m∈ks∨m∈r:=fun m hm=>by simpa using M8.mp hb m hm
        have hnr:(k:Int)∉r:=fun z=>by
          have:=rlt _ z
          omega
        have e:Yv r k=r++[(k:Int)]:=by B4 Yv;rw[if_neg hnr]
        have hp:=aEL (i:=3) (f:=aD 4) (f':=fC (.bl true)) (env:=[.fro (vP cs),.fro (zO ks),.fro (aJ nums),.own (zO r),.fro (.int (k:Int))]) (ks:=r) (k:=k) rfl rfl rfl A6
        rw[e]at hp
        &⟨_,hp,r++[(k:Int)],_,rfl,?_,by rw[C7];simp;omega,fun z=>?_⟩
        · &K7.mpr ⟨h1,by simp,fun z hz w hw=>?_⟩
          rw[D9.mp hw]
          ~rlt z hz
        · rw[htk,G0,G0]
          constructor
          · rintro(z1 | z1)
            · B3⟨a1,a2⟩:=(h3 z).mp z1
              ~⟨.inl a1,fun m hm=>(a2 m hm).imp id fun q=>G6 _ q⟩
            · rw[D9.mp z1,C8]
              ~⟨.inr (by simp),fun m hm=>(hb m hm).imp id fun q=>G6 _ q⟩
          · rintro⟨z1,z2⟩
            rcases z1 with z1 | z1
            · &.inl ((h3 z).mpr ⟨z1,fun m hm=>(z2 m hm).imp id fun q=>?_⟩)
              rcases G0.mp q with q | q
              · ~q
              · exfalso
                have a:=lt z z1
                have zr:=hn z (L5 z1)
                have b:=(hg.2 z.toNat A6).1 m hm
                rw[D9.mp q]at b
                omega
            · ~.inr z1
      · intro hb
        have hb:¬∀m∈(at_ cs k).needs,m∈ks∨m∈r:=fun z=>by
          have:((at_ cs k).needs.all fun m=>decide (m∈ks)||decide (m∈r))=true:=M8.mpr fun m hm=>by simpa using z m hm
          rw[this]at hb
          cases hb
        apply aBt
        &⟨_,rfl,r,_,rfl,h1,by omega,fun z=>?_⟩
        rw[htk,G0]
        constructor
        · intro z1
          B3⟨a1,a2⟩:=(h3 z).mp z1
          ~⟨.inl a1,a2⟩
        · rintro⟨z1,z2⟩
          rcases z1 with z1 | z1
          · ~(h3 z).mpr ⟨z1,z2⟩
          · rw[D9.mp z1,C8]at z2
            ~absurd z2 hb
  · rintro env ⟨r,v,rfl,h1,h2,h3⟩
    rw[B7]at h2 h3
    rw[N8]at h3
    ~uV (fG (aA rfl rfl) (aBA r)) ⟨_,rfl,r,rfl,h1,h2,h3⟩
def Bn.strike(b:Bn)(k:Int):Bn:={b with bD:=b.bD.set (at_ b.asked k.toNat).cA.toNat ((b.bD.getD (at_ b.asked k.toNat).cA.toNat []).set (at_ b.asked k.toNat).place.toNat (at_ b.asked k.toNat).thing),held:=b.held++[k]}
def Bn.bV(b:Bn)(ks:List Int):Bn:=ks.foldl Bn.strike b
B5 jE(ks:List Int):∀b:Bn,(b.bV ks).asked=b.asked:=by
 induction ks with
 | nil=>intro b;rfl
 | cons k ks ih=>intro b;~(ih (b.strike k)).trans rfl
B5 pD(ks:List Int):∀b:Bn,(b.bV ks).held=b.held++ks:=by
 induction ks with
 | nil=>intro b;~(F2 _).symm
 | cons k ks ih=>intro b;~(ih (b.strike k)).trans (by show (b.held++[k])++ks=_;rw[O3];rfl)
B5 YL(ks:List Int):∀b:Bn,(b.bV ks).nk=b.nk∧(b.bV ks).nv=b.nv:=by
 induction ks with
 | nil=>intro b;~⟨rfl,rfl⟩
 | cons k ks ih=>intro b;~ih (b.strike k)
B5 Zy(b:Bn)(k:Int):(b.strike k).bD.length=b.bD.length∧∀p:Nat,((b.strike k).bD.getD p []).length=(b.bD.getD p []).length:=by
 B4 Bn.strike
 &⟨by rw[K2],fun p=>?_⟩
 dsimp only
 simp only[B8,G4]
 split
 ·rename_i c
  split
  ·rename_i l
   rw[U3,K2,c]
  ·rename_i l
   rw[E1 (show b.bD.length≤p by omega)]
 ·rfl
B5 lC(ks:List Int):∀b:Bn,(b.bV ks).bD.length=b.bD.length∧∀p:Nat,((b.bV ks).bD.getD p []).length=(b.bD.getD p []).length:=by
 induction ks with
 | nil=>intro b;~⟨rfl,fun _=>rfl⟩
 | cons k ks ih=>
  intro b
  have a:=ih (b.strike k)
  have c:=Zy b k
  ~⟨a.1.trans c.1,fun p=>(a.2 p).trans (c.2 p)⟩
B5 Zz(b:Bn)(ks:List Int)(k:Int):b.bV (ks++[k])=(b.bV ks).strike k:=by
 B4 Bn.bV
 rw[T6]
 rfl
B5 Ae.bV{b:Bn}(h:Ae b){r:List Int}(hu:r.Nodup)(hm:∀x∈r,0≤x∧x<(b.asked.length:Int))(hn:∀x∈r,x∉b.held):Ae (b.bV r):=by
 have e1:=jE r b
 have e2:=pD r b
 have e3:=YL r b
 have e4:=lC r b
 &⟨by rw[e1];~h.good,?_,fun k hk=>?_,?_,fun p q=>?_,by rw[e4.1];~h.few,?_⟩
 ·rw[e1,e2]
  &⟨P4.mpr ⟨h.nums.1,hu,fun a ha c hc z=>hn c hc (z▸ha)⟩,fun x hx=>?_⟩
  rcases G0.mp hx with z | z
  ·~h.nums.2 x z
  ·~hm x z
 ·rw[e1]at hk ⊢
  rw[e4.1,e4.2]
  ~h.PN k hk
 ·rw[e3.1,e3.2];~h.nl
 ·rw[e3.1,e3.2,e1];~h.nw p q
 ·rw[e3.1,e1];~h.nkl
B5 YM(ps:List (List (List Int)))(k:Nat)(p:List (List Int)):D.lst ((ps.map fU).set k (fU p))=iK (ps.set k p):=by B4 iK;rw[Y7]
B5 wj(ps:List (List Int))(k:Nat)(t:List Int):D.lst ((ps.map dTup).set k (dTup t))=fU (ps.set k t):=by B4 fU;rw[Y7]
B5 aDV{ks:List Int}{k:Int}(h:k∉ks):D.dk (lE (ks.map (F7:Int→Key)) (F7 k)) (putD (ks.map (F7:Int→Key)) (ks.map fun _=>D.bl true) (F7 k) (.bl true))=zO (ks++[k]):=by
 B4 lE putD zO
 rw[zM h]
 simp only[Option.isSome_none,W8,if_false,J0]
 rfl
B5 wk{b:Bn}{e:List D}{k:Int}(h0:0≤k)(h1:k<(b.asked.length:Int))(hl:b.held.length≤1000)(hs:0≤(at_ b.asked k.toNat).cA∧(at_ b.asked k.toNat).cA<(b.bD.length:Int)∧0≤(at_ b.asked k.toNat).place∧(at_ b.asked k.toNat).place<((b.bD.getD (at_ b.asked k.toNat).cA.toNat []).length:Int))(hn:k∉b.held):rR κ [jQ (κ 0) b e,.int k]=some (.non,jQ (κ 0) (b.strike k) e):=by
 &oX rfl fun v=>?_
 B4 Gv
 have hc:fJ (vP b.asked) (.int k)=some (Yw (at_ b.asked k.toNat)):=by
  have:=Yx (cs:=b.asked) (k:=k.toNat) A6
  rw[show ((k.toNat:Nat):Int)=k by omega]at this
  ~this
 &cL (d:=Yw (at_ b.asked k.toNat)) (bC (aK (cQ rfl sH) rfl hc) (aBy _)) A9 ?_
 B4 Bn.strike
 generalize at_ b.asked k.toNat=c at *
 have hp:(b.bD.map fU)[c.cA.toNat]?=some (fU (b.bD.getD c.cA.toNat [])):=by
  rw[C4,gY (d:=[]) (show c.cA.toNat<b.bD.length by omega)]
  rfl
 &qD rfl (jj (p:=[L2.Step.fld (κ 0) "panes", .ix c.cA.toNat]) (k:=c.place) (ds:=(b.bD.getD c.cA.toNat []).map dTup) (d:=dTup c.thing) rfl ?_ ((Wd Wf).trans (YJ hp)) (aK rfl rfl (LQ c)) (bC (aK rfl rfl (Py c)) (lN _)) hs.2.2.1 (by rw[B7];~hs.2.2.2)) rfl ?_
 ·~aBI (p:=[L2.Step.fld (κ 0) "panes"]) rfl (aK rfl rfl (jg c)) hs.1
 rw[wj]
 rw[show eO [L2.Step.fld (κ 0) "panes", .ix c.cA.toNat] (jQ (κ 0) b e) (fU ((b.bD.getD c.cA.toNat []).set c.place.toNat c.thing))=dI (κ 0) (iK (b.bD.set c.cA.toNat ((b.bD.getD c.cA.toNat []).set c.place.toNat c.thing))) (vP b.asked) (.dt (b.nk.map tU) (b.nv.map D.int)) (zO b.held) (.lst e)from by
  B4 jQ
  rw[We Wf]
  B4 iK
  rw[YK hp,vz,YM]
  rfl]
 &Qa rfl (Mq (d:=.bl true) (k:=F7 k) (kd:=.int k) rfl rfl aBG rfl rfl rfl rfl (by rw[B7];omega)) rfl ⟨_,.inr ⟨rfl,rfl⟩,?_⟩
 show some (SD.inn v (eO [L2.Step.fld (κ 0) "held"] _ _))=some (SD.inn v _)
 rw[aBH,aDV hn]
 rfl
B5 QB{b:Bn}(h:Ae b){p:Int}{most:D}(h0:0≤p)(h1:p<(b.bD.length:Int))(hmo:most=.non∨∃m:Int,most=.int m):∃r,PX b.asked b.held p r∧∀taken,(most=.non→taken=r)→(∀m:Int,most=.int m→taken=r.take m.toNat)→qG κ [cW (κ 0) b,.int p,most]=some (aJ taken,cW (κ 0) (b.bV taken)):=by
 have h60:=h.good.1
 have hk:=h.nums.len
 have hnl:=PB b.asked b.held p
 B3⟨r,hr,r1,r2,r3⟩:=aBK (ks:=b.held) h.good (Zu b.asked b.held p) (fun x hx=>by have:=Ad.mp hx;~⟨this.1,this.2.1⟩) A6
 have hR:PX b.asked b.held p r:=⟨r1,by omega,fun x=>by rw[r3,Ad]⟩
 &⟨r,hR,fun taken t1 t2=>?_⟩
 have hsub:∃n,taken=r.take n:=by
  rcases hmo with z | ⟨m,z⟩
  ·~⟨r.length,by rw[t1 z,N8]⟩
  ·~⟨_,t2 m z⟩
 have htm:∀x∈taken,x∈r:=fun x hx=>by
  B3⟨n,rfl⟩:=hsub
  ~L5 hx
 have htu:taken.Pairwise (·<·):=by
  B3⟨n,rfl⟩:=hsub
  ~r1.sublist (M5 _ _)
 have htl:taken.length≤124:=by
  B3⟨n,rfl⟩:=hsub
  rw[F3]
  omega
 have htr:∀x∈taken,0≤x∧x<(b.asked.length:Int)∧(at_ b.asked x.toNat).cA=p∧x∉b.held:=fun x hx=>((hR.2.2 x).mp (htm x hx)).1
 &oX rfl fun v=>?_
 B4 Kh
 &XC (d:=.non) (bO rfl (show ("check_pane" : Str)∉Tn by decide +kernel) rfl rfl (Hq κ h0 h1)) ?_
 &cL (d:=aJ r) (bW (aA (cQ rfl sH) (aA (cQ rfl PJ) (aA (aK (cQ rfl jn) rfl (uA h0 (Zx h0 h1))) rfl))) rfl hr) A9 ?_
 have hif:qP (fB (f2 (Io true) (aD 2) (fC .non))) (cV 3 (qw true (aD 3) (Xx) (pI (fL HH (aB (aD 2) (aB (fC (.int 0)) aO)))))) fX [.inn v (cW (κ 0) b),.fro (.int p),.fro most,.own (aJ r),.no]=.next [.inn v (cW (κ 0) b),.fro (.int p),.fro most,.own (aJ taken),.no]:=by
  rcases hmo with rfl | ⟨m,rfl⟩
  ·rw[lZ (cJ (aK rfl rfl (Bl true .non))),t1 rfl]
   rfl
  ·rw[vO (cJ (aK rfl rfl (Bl true (.int m))))]
   &wR (d:=aJ taken) ((Px rfl rfl (Bk (fG (aA rfl (aA rfl rfl)) (Vt _ _)))).trans ?_) A9
   rw[t2 m rfl,show (if(0:Int) > m then(0:Int)else m)=((m.toNat:Nat):Int) by split<;>omega,aGE]
 &aBs hif ?_
 &XD (ns:=taken) [.inn v (jQ (κ 0) (b.bV taken) (tV b.bD.length b.asked b.held)),.fro (.int p),.fro most,.own (aJ taken),lv taken .no taken.length] rfl rfl (fun v2 k env=>env=[.inn v (jQ (κ 0) (b.bV (taken.take k)) (tV b.bD.length b.asked b.held)),.fro (.int p),.fro most,.inn v2 (aJ taken),lv taken .no k]) (fun v2=>rfl) (fun v2 k env e=>by rw[e];rfl) ?_ (fun v2 env e=>by rw[e,N8];rfl) ?_
 ·rintro v2 k x env hx rfl
  &⟨by walk_at "lt", ?_⟩
  have hxm:=htr x (E4 hx)
  have e1:=jE (taken.take k) b
  have e2:=pD (taken.take k) b
  have e4:=lC (taken.take k) b
  have hnx:taken.take (k+1)=taken.take k++[x]:=by rw[O4,hx];rfl
  have hst:=wk κ (b:=b.bV (taken.take k)) (e:=tV b.bD.length b.asked b.held) (k:=x) hxm.1 (by rw[e1];~hxm.2.1) (by rw[e2,C7,F3];omega) (by rw[e1,e4.1,e4.2];~h.PN x.toNat A6) (by
   rw[e2,G0]
   rintro(z | z)
   ·~hxm.2.2.2 z
   ·have hu:=htu.sublist (M5 (k+1) taken)
    rw[hnx]at hu
    have:=(K7.mp hu).2.2 x z x (by simp)
    omega)
  &⟨_,Vu (jO (d0:=jQ (κ 0) (b.bV (taken.take k)) (tV b.bD.length b.asked b.held)) (p:=[]) (nm:=Tn) rfl rfl rfl A7 rfl hst),?_⟩
  have e:lv taken .no (k+1)=.fro (.int x):=by
   show SD.fro (.int (taken.getD k 0))=_
   rw[jW hx]
  rw[e,hnx,Zz]
  rfl
 have e1:=jE taken b
 have e2:=pD taken b
 have e4:=lC taken b
 have Ag:=Ec (fi:=oK (f2 fJ (pJ (dJ (κ 0) "unsettled") (aD 0)) (aD 1))) (fr:=[0]) (fc:=fB (f2 (Dk true) (aD 0) (pJ (dJ (κ 0) "held") (aD 1)))) (fe:=cN (aD 0)) (e:=rE ([.inn v (jQ (κ 0) (b.bV taken) (tV b.bD.length b.asked b.held)),.fro (.int p),.fro most,.own (aJ taken),lv taken .no taken.length].set 0 (.own (jQ (κ 0) (b.bV taken) (tV b.bD.length b.asked b.held))))) (ms:=mO b.asked b.held p) (fun m=>!decide (m∈(b.bV taken).held)) id
  (kO (aK (cQ rfl jn) rfl (uA h0 (Zx h0 h1)))) A6 (fun m hm=>cJ (aK rfl (cQ rfl PJ) (Pu true m _))) fun m hm _=>bC rfl rfl
 rw[List.map_id]at Ag
 have hun:∀q:Int,mO b.asked (b.held++taken) q=(mO b.asked b.held q).filter fun m=>!decide (m∈b.held++taken):=fun q=>by
  &pU (Zu _ _ _) ((Zu _ _ _).sublist Q3) fun x=>?_
  rw[Ad,K9,Ad]
  constructor
  ·rintro⟨a1,a2,a3,a4⟩
   ~⟨⟨a1,a2,a3,fun z=>a4 (G6 _ z)⟩,by rw[decide_eq_false a4];rfl⟩
  ·rintro⟨⟨a1,a2,a3,a4⟩,a5⟩
   ~⟨a1,a2,a3,by simpa using a5⟩
 have hoth:∀q:Int,q≠p→mO b.asked (b.held++taken) q=mO b.asked b.held q:=fun q hq=>by
  rw[hun]
  &Q4.mpr fun x hx=>?_
  have hx:=Ad.mp hx
  have:x∉b.held++taken:=fun z=>by
   rcases G0.mp z with z | z
   ·~hx.2.2.2 z
   ·~hq (hx.2.2.1.symm.trans (htr x z).2.2.1)
  rw[decide_eq_false this]
  rfl
 rw[e2,←hun]at Ag
 &qD rfl (jj (p:=[L2.Step.fld (κ 0) "unsettled"]) (k:=p) (ds:=tV b.bD.length b.asked b.held) rfl rfl Zw rfl Ag h0 (by B4 tV;rw[B7,E3];~h1)) rfl ?_
 &Ms rfl ⟨_,.inl rfl,?_⟩
 show some (SD.inn v (eO [L2.Step.fld (κ 0) "unsettled"] (jQ (κ 0) (b.bV taken) _) _))=some (SD.inn v _)
 B4 cW jQ
 rw[jo,e1,e2,e4.1]
 have hl:(tV b.bD.length b.asked b.held).set p.toNat (aJ (mO b.asked (b.held++taken) p))=tV b.bD.length b.asked (b.held++taken):=by
  B4 tV
  apply K5
  intro k
  rw[G4,B7,E3,C4,C4]
  by_cases e:p.toNat=k
  ·rw[if_pos e,if_pos A6,G8 A6,G7,show ((k:Nat):Int)=p by omega]
  ·rw[if_neg e]
   by_cases hk:k<b.bD.length
   ·rw[G8 hk,G7,G7,hoth _ A6]
   ·rw[E1 (by rw[E3];omega)]
    rfl
 rw[hl]
B5 YQ{b:Bn}{k:Int}{p q:Nat}(h:¬((at_ b.asked k.toNat).cA.toNat=p∧(at_ b.asked k.toNat).place.toNat=q)):val (b.strike k).bD p q=val b.bD p q:=by
 B4 val Bn.strike
 generalize at_ b.asked k.toNat=c at *
 dsimp only
 simp only[B8,G4]
 by_cases e:c.cA.toNat=p
 ·subst e
  rw[if_pos rfl]
  by_cases l:c.cA.toNat<b.bD.length
  ·rw[if_pos l]
   simp only[U3,G4]
   rw[if_neg fun z=>h ⟨rfl,z⟩]
  ·rw[if_neg l,E1 (show b.bD.length≤c.cA.toNat by omega)]
 ·rw[if_neg e]
B5 Km{p q:Nat}:∀(ks:List Int)(b:Bn),(∀k∈ks,¬((at_ b.asked k.toNat).cA.toNat=p∧(at_ b.asked k.toNat).place.toNat=q))→val (b.bV ks).bD p q=val b.bD p q
 | [],b,_=>rfl
 | k::ks,b,h=>(Km ks (b.strike k) fun j hj=>h j (C6 _ hj)).trans (YQ (h k C9))
B5 QC{cs:List jX}{p q:Int}(h:lastAt cs p q=none){k:Nat}(hk:k<cs.length):¬((at_ cs k).cA=p∧(at_ cs k).place=q):=fun z=>by
 B4 lastAt at h
 rw[c6,List.getLast?_eq_none_iff,c7]at h
 ~h k (F5.mpr hk) (decide_eq_true z)
B5 BJ{b:Bn}(h:Ae b){r:List Int}{p q:Int}(hp:0≤p)(hq:0≤q)(hm:∀x∈r,0≤x∧x<(b.asked.length:Int)):face (b.bV r) p q=face b p q:=by
 B4 face
 rw[jE]
 cases e:lastAt b.asked p q with
 | some k=>rfl
 | none=>
  ~Km r b fun k hk z=>by
   have:=hm k hk
   have hs:=h.PN k.toNat A6
   ~QC e (show k.toNat<b.asked.length by omega) ⟨by omega,by omega⟩
structure Mp where
 k:List Int
 v:List Int
def Mp.get(m:Mp)(x:Int):Option Int:=(posK m.k x).bind fun j=>m.v[j]?
def Mp.put(m:Mp)(x y:Int):Mp:=⟨lE m.k x,putD m.k m.v x y⟩
def Lj(m:Mp):D:=.dk (m.k.map F7) (m.v.map D.int)
def BK:Option Int→D
 | some y=>.int y
 | none=>.non
B5 BL(a b:Int)(h:(F7 a:Key)=F7 b):a=b:=by injection h
B5 YT{m:Mp}(h:m.k.length=m.v.length)(x:Int):Pg (Lj m) (.int x)=some (BK (m.get x)):=by
 B4 Pg Lj Mp.get
 dsimp only
 rw[show Sq (.int x)=some (.inl x)from rfl,B9,wB BL]
 cases e:posK m.k x with
 | none=>rfl
 | some j=>
  have:=(rJ e).1
  dsimp only
  rw[C4,B9,B6 (show j<m.v.length by omega)]
  rfl
B5 Mp.pY{m:Mp}(h:m.k.length=m.v.length)(x y z:Int):(m.put x y).get z=if z=x then some y else m.get z:=Rs.pY h
B5 YW(m:Mp)(x y:Int):D.dk (lE (m.k.map (F7:Int→Key)) (.inl x)) (putD (m.k.map (F7:Int→Key)) (m.v.map D.int) (.inl x) (.int y))=Lj (m.put x y):=by
 B4 Lj Mp.put
 rw[PK BL,PL BL D.int]
B5 aBL{α:Type} [DecidableEq α] (ks:List α) (k:α):(lE ks k).length≤ks.length+1:=by
 B4 lE
 split
 ·omega
 ·rw[C7];simp
def Mp.Ok(m:Mp)(n:Nat):Prop:=m.k.length=m.v.length∧m.k.length≤n
B5 Mp.Ok.put{m:Mp}{n:Nat}(h:m.Ok n)(x y:Int):(m.put x y).Ok (n+1):=⟨vK h.1,G1 (aBL _ _) (U1 h.2)⟩
B5 Mp.Ok.mono{m:Mp}{n k:Nat}(h:m.Ok n)(l:n≤k):m.Ok k:=⟨h.1,G1 h.2 l⟩
section
variable{C:Addr}{nm:List Str}{ks:List Key}{ds:List D}{x:Str}{j:Nat}{d y:D}
B5 mY(h:posK nm x=some j)(hd:ds[j]?=some d):dJ C x (.ins C nm ds)=some d:=by B4 dJ;dsimp only;rw[if_pos rfl,h];~hd
B5 aBM(h:posK nm x=some j):Cd (.fld C x) (.ins C nm ds)=some j:=by
 show (if C=C then posK nm x else none)=some j
 rw[if_pos rfl]
 ~h
B5 vA(h:posK nm x=some j)(hd:ds[j]?=some d):eV [.fld C x] (.ins C nm ds)=some d:=tK (aBM h) hd
B5 vB(h:posK nm x=some j)(hd:ds[j]?=some d):eO [.fld C x] (.ins C nm ds) y=.ins C nm (ds.set j y):=qJ (aBM h) hd
end
def tW:List Str:=["bench", "spots", "string", "loose", "lasts", "comings", "goings"]
B5 w0:posK tW "bench" = some 0:=by decide +kernel
B5 w1:posK tW "spots" = some 1:=by decide +kernel
B5 w2:posK tW "string" = some 2:=by decide +kernel
B5 w3:posK tW "loose" = some 3:=by decide +kernel
B5 w4:posK tW "lasts" = some 4:=by decide +kernel
B5 w5:posK tW "comings" = some 5:=by decide +kernel
B5 w6:posK tW "goings" = some 6:=by decide +kernel
def bks:List Key:=[.inr "recs", .inr "order", .inr "ins", .inr "outs", .inr "lasts", .inr "due", .inr "panes"]
structure Wb where
 b:Bn
 rs:List (List Int)
 od:List Int
 lo:List Int
 la:Mp
 co:Mp
 go:Mp
abbrev Wb.P(s:Wb):Nat:=s.b.bD.length
abbrev Wb.n(s:Wb):Nat:=s.b.asked.length
abbrev Wb.R(s:Wb)(x:Int):List Int:=s.rs.getD x.toNat []
def Wb.key(s:Wb)(x:Int):Int:=(s.R x).getD 0 0
def YX(P n:Nat):D:=.lst ((D2 n).map fun k=>dTup [((k%P:Nat):Int),((k/P:Nat):Int)])
def aIu(rs:List (List Int)):D:=.lst (rs.map dTup)
def lH(κ:Nat→Addr)(s:Wb):D:=.ins (κ 1) tW [cW (κ 0) s.b,YX s.P s.rs.length,aJ s.od,aJ s.lo,Lj s.la,Lj s.co,Lj s.go]
def bkD(s:Wb):D:=.dk bks [aIu s.rs,aJ s.od,Lj s.co,Lj s.go,Lj s.la,vP s.b.asked,.int s.P]
structure mQ(s:Wb):Prop where
 bn:Ae s.b
 p1:0<s.P
 len:∀k,k<s.rs.length→k/s.P<(s.b.bD.getD (k%s.P) []).length
 few:s.rs.length≤64
 pos:0<s.rs.length
 rcd:∀k,k<s.rs.length→s.rs.getD k []=face s.b ((k%s.P:Nat):Int) ((k/s.P:Nat):Int)∧(s.rs.getD k []).length=5
 las:∀k:Nat,k<s.rs.length→s.la.get k=lastAt s.b.asked ((k%s.P:Nat):Int) ((k/s.P:Nat):Int)
 lao:s.la.Ok s.n
 coo:s.co.Ok s.n
 goo:s.go.Ok s.n
 coi:∀x y,s.co.get x=some y→0≤y∧y<(s.n:Int)
 goi:∀x y,s.go.get x=some y→0≤y∧y<(s.n:Int)
 Tp:s.od.Nodup
 Cj:∀x∈s.od,1≤x∧x<(s.rs.length:Int)
 lon:s.lo.Nodup
 lom:∀x,x∈s.lo↔1≤x∧x<(s.rs.length:Int)∧x∉s.od
 key:s.od.Pairwise fun x y=>s.key x<s.key y
 th:∀k,k<s.n→(at_ s.b.asked k).thing.length=5
B5 mQ.spot{s:Wb}(h:mQ s){x:Int}(h0:0≤x)(h1:x<(s.rs.length:Int)):0≤((x.toNat%s.P:Nat):Int)∧((x.toNat%s.P:Nat):Int)<(s.P:Int)∧0≤((x.toNat/s.P:Nat):Int)∧((x.toNat/s.P:Nat):Int)<((s.b.bD.getD ((x.toNat%s.P:Nat):Int).toNat []).length:Int):=by
 have h2:=h.len x.toNat A6
 have h3:=T2 x.toNat h.p1
 rw[C8]
 ~⟨N9 _,Int.ofNat_lt.mpr h3,N9 _,Int.ofNat_lt.mpr h2⟩
B5 aBN{P n:Nat}{x:Int}(h0:0≤x)(h1:x<(n:Int)):fJ (YX P n) (.int x)=some (dTup [((x.toNat%P:Nat):Int),((x.toNat/P:Nat):Int)]):=uA h0 (by
 rw[C4,G8 A6]
 rfl)
variable(κ:Nat→Addr)
B5 oJ{s:Wb}(h:mQ s){x:Int}(h0:0≤x)(h1:x<(s.rs.length:Int)):bM κ [lH κ s,.int x]=some (dTup (s.R x)):=by
 &kZ rfl ?_
 B4 xY
 B3⟨a,b,c,d⟩:=h.spot h0 h1
 &WR (d:=dTup [((x.toNat%s.P:Nat):Int),((x.toNat/s.P:Nat):Int)]) (bC (aK (cQ rfl (mY w1 rfl)) rfl (aBN h0 h1)) (lN _)) A9 ?_
 rw[Wb.R,(h.rcd x.toNat A6).1]
 ~fY (bO (nm:=Tn) (cQ rfl (mY w0 rfl)) A7 (aA (aK rfl rfl rfl) (aA (aK rfl rfl rfl) rfl)) rfl (aDU κ h.bn a b c d))
B5 QD{s:Wb}(h:mQ s)(x:Int):nQ κ [lH κ s,.int x]=some (BK (s.co.get x)):=kZ rfl (fY (aK (cQ rfl (mY w5 rfl)) rfl (YT h.coo.1 x)))
B5 QF{s:Wb}(h:mQ s)(x:Int):nR κ [lH κ s,.int x]=some (BK (s.go.get x)):=kZ rfl (fY (aK (cQ rfl (mY w6 rfl)) rfl (YT h.goo.1 x)))
def lV(os:List (Option Int)):D:=.lst (os.map BK)
def Rq(os:List (Option Int)):List Int:=os.filterMap id
B5 ZC{fi:FA}{fr:List Nat}{e:DE}(os:List (Option Int))(h:fi e=some (os.map BK))(hl:os.length≤1000):jG fi fr (fB (f2 (Io true) (aD 0) (fC .non))) (cN (aD 0)) e=some (aJ (Rq os)):=by
 &zK h (by rw[B7];omega) ?_
 clear h hl
 induction os with
 | nil=>rfl
 | cons o os ih=>
  rw[D5]
  B4 oO
  cases o with
  | none=>~ih
  | some y=>
   show ((oO _ _ (os.map BK)).map (D.int y::·))=_
   rw[ih]
   rfl
B5 aBO(os:List (Option Int))(hl:os.length≤1000):Zd [lV os]=some (aJ (Rq os)):=oW rfl (fY (ZC os (kO rfl) hl))
def Wb.wr(s:Wb)(x:Int)(r ns:List Int):Wb:={s with b:=s.b.put ((x.toNat%s.P:Nat):Int) ((x.toNat/s.P:Nat):Int) r ns,rs:=s.rs.set x.toNat r,la:=s.la.put x s.n}
B5 aBP(s:Wb)(x:Int)(r ns:List Int):(s.wr x r ns).n=s.n+1:=by
 show (s.b.asked++[_]).length=_
 rw[C7]
 rfl
B5 tQ(s:Wb)(x:Int)(r ns:List Int):(s.wr x r ns).rs.length=s.rs.length:=K2
B5 qL{α:Type}(l:List α)(i j:Nat)(x d:α)(h:i<l.length):(l.set i x).getD j d=if i=j then x else l.getD j d:=by
 rw[B8,G4,B8]
 by_cases c:i=j
 ·rw[if_pos c,if_pos h,if_pos c];rfl
 ·rw[if_neg c,if_neg c]
B5 ZD{s:Wb}{x y:Int}{r ns:List Int}(h0:0≤x)(h1:x<(s.rs.length:Int))(hy:0≤y):(s.wr x r ns).R y=if y=x then r else s.R y:=by
 show (s.rs.set x.toNat r).getD y.toNat []=_
 rw[qL _ _ _ _ _ A6]
 by_cases c:y=x
 ·rw[if_pos c,if_pos (by rw[c])]
 ·rw[if_neg c,if_neg A6]
B5 aBQ{b:Bn}{p q p' q':Int}{th ns:List Int}:face (b.put p q th ns) p' q'=if p=p'∧q=q' then th else face b p' q':=by
 B4 face
 show topOf (b.asked++[gJ b p q th ns]) _ (lastAt (b.asked++[gJ b p q th ns]) p' q')=_
 rw[qK]
 show topOf _ _ (if p=p'∧q=q' then _ else _)=_
 by_cases c:p=p'∧q=q'
 ·rw[if_pos c,if_pos c]
  show (at_ (b.asked++[gJ b p q th ns]) (b.asked.length:Int).toNat).thing=th
  rw[C8,nP]
  rfl
 ·rw[if_neg c,if_neg c]
  cases e:lastAt b.asked p' q' with
  | none=>rfl
  | some k=>
   have:=wA e
   show (at_ _ k.toNat).thing=(at_ _ k.toNat).thing
   rw[gZ A6]
B5 Qz{P a b:Nat}(h1:((a%P:Nat):Int)=((b%P:Nat):Int))(h2:((a/P:Nat):Int)=((b/P:Nat):Int)):a=b:=by
 have e1:=u3 h1
 have e2:=u3 h2
 have a1:=n9 a P
 have a2:=n9 b P
 rw[←a1,←a2,e1,e2]
B5 mQ.wr{s:Wb}(h:mQ s){x:Int}{r ns:List Int}(h0:0≤x)(h1:x<(s.rs.length:Int))(hr:r.length=5)(hn:∀m∈ns,0≤m∧m<(s.n:Int))(hl:ns.length≤8)(hm:s.n<124)(hk:x∈s.od→r.getD 0 0=s.key x):mQ (s.wr x r ns):=by
 B3⟨a,b,c,d⟩:=h.spot h0 h1
 have hlen:=tQ s x r ns
 have hnn:=aBP s x r ns
 have hxe:((x.toNat:Nat):Int)=x:=by omega
 &⟨h.bn.put hm a b c d hn hl,h.p1,?_,?_,?_,?_,?_,?_,?_,?_,?_,?_,h.Tp,?_,h.lon,?_,?_,?_⟩
 ·rw[hlen];~h.len
 ·rw[hlen];~h.few
 ·rw[hlen];~h.pos
 ·intro k hk'
  rw[hlen]at hk'
  show (s.rs.set x.toNat r).getD k []=face (s.b.put _ _ r ns) _ _∧((s.rs.set x.toNat r).getD k []).length=5
  rw[qL _ _ _ _ _ A6,aBQ]
  by_cases e:x.toNat=k
  ·subst e
   rw[if_pos rfl,if_pos ⟨rfl,rfl⟩]
   ~⟨rfl,hr⟩
  ·rw[if_neg e,if_neg fun z=>e (Qz z.1 z.2)]
   ~h.rcd k hk'
 ·intro k hk'
  rw[hlen]at hk'
  show (s.la.put x s.n).get k=lastAt (s.b.asked++[gJ _ _ _ _ _]) _ _
  rw[Mp.pY h.lao.1,qK]
  by_cases e:x.toNat=k
  ·subst e
   rw[if_pos hxe,if_pos ⟨rfl,rfl⟩]
  ·rw[if_neg A6,if_neg fun z=>e (Qz z.1 z.2)]
   ~h.las k hk'
 ·rw[hnn];~h.lao.put _ _
 ·rw[hnn];~h.coo.mono A6
 ·rw[hnn];~h.goo.mono A6
 ·intro z y e
  have:=h.coi z y e
  rw[hnn]
  omega
 ·intro z y e
  have:=h.goi z y e
  rw[hnn]
  omega
 ·intro z hz
  rw[hlen]
  ~h.Cj z hz
 ·intro z
  rw[hlen]
  ~h.lom z
 ·have kk:∀y∈s.od,(s.wr x r ns).key y=s.key y:=fun y hy=>by
   show ((s.wr x r ns).R y).getD 0 0=_
   rw[ZD h0 h1 (by have:=h.Cj y hy;omega)]
   by_cases e:y=x
   ·subst e
    rw[if_pos rfl]
    ~hk hy
   ·rw[if_neg e];rfl
  ~h.key.imp_of_mem fun{y z} hy hz q=>by rw[kk y hy,kk z hz];~q
 ·intro k hk'
  rw[hnn]at hk'
  show (at_ (s.b.asked++[gJ _ _ _ _ _]) k).thing.length=5
  rcases J2 k s.n with z | z
  ·rw[gZ z];~h.th k z
  ·have e:k=s.b.asked.length:=Nat.le_antisymm (Nat.lt_succ_iff.mp hk') z
   rw[e,nP]
   ~hr
B5 mQ.ZF{s:Wb}(h:mQ s):s.n≤124:=h.bn.good.1
B5 mapA{o:Option (List D)}{es:List D}(h:o=some es):o.map (·++[])=some es:=by rw[h];show some (es++[])=_;rw[F2]
B5 QG{s:Wb}(h:mQ s){x:Int}{r:List Int}{os:List (Option Int)}(h0:0≤x)(h1:x<(s.rs.length:Int))(hn:∀m∈Rq os,0≤m∧m<(s.n:Int))(hl:os.length≤9):mD κ [lH κ s,.int x,dTup r,lV os]=some (.int s.n,lH κ (s.wr x r (Rq os))):=by
 &oX rfl fun v=>?_
 B4 Gn
 B3⟨a,b,c,d⟩:=h.spot h0 h1
 have hkl:(Rq os).length≤9:=G1 (List.length_filterMap_le _ _) hl
 &cL (d:=dTup [((x.toNat%s.P:Nat):Int),((x.toNat/s.P:Nat):Int)]) (bC (aK (cQ rfl (mY w1 rfl)) rfl (aBN h0 h1)) (lN _)) A9 ?_
 &Iw (d:=.int s.n) (env':=[.inn v (.ins (κ 1) tW [cW (κ 0) (s.b.put ((x.toNat%s.P:Nat):Int) ((x.toNat/s.P:Nat):Int) r (Rq os)),YX s.P s.rs.length,aJ s.od,aJ s.lo,Lj s.la,Lj s.co,Lj s.go]),.fro (.int x),.fro (dTup r),.fro (lV os),.own (dTup [((x.toNat%s.P:Nat):Int),((x.toNat/s.P:Nat):Int)]),.no])
  ((jO (p:=[L2.Step.fld (κ 1) "bench"]) (nm:=Tn) (es:=[.int ((x.toNat%s.P:Nat):Int),.int ((x.toNat/s.P:Nat):Int),dTup r,aJ (Rq os)]) rfl rfl (vA w0 rfl) A7 (mapA (dY (aK rfl rfl rfl) (dY (aK rfl rfl rfl) (dY rfl (dY (bW (aA rfl rfl) rfl (aBO os A6)) rfl))))) (aGU κ h.bn a b c d hn A6 (.inr rfl))).trans (by
   rw[vB w0 rfl]
   rfl)) A9 ?_
 &qD rfl (Mq (p:=[L2.Step.fld (κ 1) "lasts"]) (k:=.inl x) (kd:=.int x) (d:=.int s.n) rfl rfl (vA w4 rfl) rfl rfl rfl rfl (by rw[B7];have:=h.lao.2;have:=h.ZF;omega)) rfl ?_
 &Ms rfl ⟨_,.inl rfl,?_⟩
 show some (SD.inn v (eO [L2.Step.fld (κ 1) "lasts"] _ _))=some (SD.inn v _)
 rw[vB w4 rfl,YW]
 B4 lH
 rw[tQ]
 rfl
B5 aDW(o:Option Int):(BK o).jF=true:=by cases o<;>rfl
B5 Wh(os:List (Option Int)):D.eU (os.map BK)=true:=Gj fun d hd=>by
 B3⟨o,_,rfl⟩:=G5.mp hd
 ~aDW o
B5 Ra(a b:List (Option Int))(h:a.length+b.length≤1000):dD (lV a) (lV b)=some (lV (a++b)):=by
 B4 lV
 rw[J0]
 ~Vn (by rw[KQ,Wh,Wh];rfl) (by rw[B7,B7];omega)
B5 divmod{x:Int}{P:Nat}(h0:0≤x):x%(P:Int)=((x.toNat%P:Nat):Int)∧x/(P:Int)=((x.toNat/P:Nat):Int):=by
 have e:x=((x.toNat:Nat):Int):=by omega
 constructor
 ·rw[Y8,←e]
 ·rw[Y9,←e]
B5 Jq(ns:List Int):aJ ns=lV (ns.map some):=by B4 aJ lV;rw[K4];rfl
B5 Ah(ns:List Int):Rq (ns.map some)=ns:=by B4 Rq;rw[List.filterMap_map];~List.filterMap_some
B5 Hr(o:Option Int)(os:List (Option Int)):Rq (o::os)=o.toList++Rq os:=by cases o<;>rfl
def Wb.ns(s:Wb)(x:Int)(ns:List Int):List Int:=(s.co.get x).toList++ns
B5 mQ.ZG{s:Wb}(h:mQ s){x:Int}{ns:List Int}(hn:∀m∈ns,0≤m∧m<(s.n:Int)):∀m∈s.ns x ns,0≤m∧m<(s.n:Int):=fun m hm=>by
 rcases G0.mp hm with z | z
 ·cases e:s.co.get x with
  | none=>rw[e]at z;cases z
  | some y=>rw[e]at z;rw[D9.mp z];~h.coi x y e
 ·~hn m z
B5 mK{α:Type}(o:Option α):o.toList.length≤1:=by cases o<;>simp
B5 QH{s:Wb}(h:mQ s){x:Int}{r:List Int}{os:List (Option Int)}(h0:0≤x)(h1:x<(s.rs.length:Int))(hn:∀m∈Rq os,0≤m∧m<(s.n:Int))(hl:os.length≤7):eY κ [lH κ s,.int x,dTup r,lV os]=some (.int s.n,lH κ (s.wr x r (s.ns x (Rq os)))):=by
 &oX rfl fun v=>?_
 B4 vW
 have e:s.ns x (Rq os)=Rq (s.co.get x::os):=by rw[Hr];rfl
 rw[e]
 &Mr (d:=.int s.n) (env':=[.inn v (lH κ (s.wr x r (Rq (s.co.get x::os)))),.fro (.int x),.fro (dTup r),.fro (lV os)]) (jO (p:=[]) (nm:=tW) (es:=[.int x,dTup r,lV (s.co.get x::os)]) rfl rfl rfl A7 (mapA (dY rfl (dY rfl (Qd (aK (a:=lV [s.co.get x]) (b:=lV os) (gH (aA (bO (nm:=tW) rfl A7 rfl rfl (QD κ h x)) rfl) A9) rfl (Ra _ _ (by simp;omega))) rfl)))) (QG κ h h0 h1 (by rw[←e];~h.ZG hn) (by simp;omega))) ⟨_,.inl rfl,rfl⟩
B5 aDX{s:Wb}(h:mQ s){x:Int}{r ns:List Int}(h0:0≤x)(h1:x<(s.rs.length:Int))(hn:∀m∈ns,0≤m∧m<(s.n:Int))(hl:ns.length≤7):eY κ [lH κ s,.int x,dTup r,aJ ns]=some (.int s.n,lH κ (s.wr x r (s.ns x ns))):=by
 have:=QH κ h (r:=r) (os:=ns.map some) h0 h1 (by rw[Ah];~hn) (by rw[B7];~hl)
 rw[Ah,←Jq]at this
 ~this
def xu(r:List Int)(y:Int):List Int:=[r.getD 0 0,y,r.getD 2 0,r.getD 3 0,r.getD 4 0]
B5 rB{r:List Int}{k:Nat}(h:k<r.length):fJ (dTup r) (.int k)=some (.int (r.getD k 0)):=uB (N9 _) (by
 rw[C4,C8,gY (d:=0) h]
 rfl)
B5 mQ.five{s:Wb}(h:mQ s){x:Int}(h0:0≤x)(h1:x<(s.rs.length:Int)):(s.R x).length=5:=(h.rcd x.toNat A6).2
B5 QJ{s:Wb}(h:mQ s){x y:Int}{os:List (Option Int)}(h0:0≤x)(h1:x<(s.rs.length:Int))(hn:∀m∈Rq os,0≤m∧m<(s.n:Int))(hl:os.length≤7):lR κ [lH κ s,.int x,.int y,lV os]=some (.int s.n,lH κ (s.wr x (xu (s.R x) y) (s.ns x (Rq os)))):=by
 &oX rfl fun v=>?_
 B4 Kg
 have h5:=h.five h0 h1
 &cL (d:=dTup (s.R x)) (bO (nm:=tW) rfl A7 rfl rfl (oJ κ h h0 h1)) A9 ?_
 &Mr (d:=.int s.n) (env':=[.inn v (lH κ (s.wr x (xu (s.R x) y) (s.ns x (Rq os)))),.fro (.int x),.fro (.int y),.fro (lV os),.own (dTup (s.R x))]) (jO (p:=[]) (nm:=tW) (es:=[.int x,dTup (xu (s.R x) y),lV os]) rfl rfl rfl A7 (mapA (dY rfl (dY (nO (aA (bC (aK rfl rfl (rB (k:=0) A6)) rfl) (aA (bC rfl rfl) (aA (bC (aK rfl rfl (rB (k:=2) A6)) rfl) (aA (bC (aK rfl rfl (rB (k:=3) A6)) rfl) (aA (bC (aK rfl rfl (rB (k:=4) A6)) rfl) rfl))))) A9) (dY rfl rfl)))) (QH κ h h0 h1 hn hl)) ⟨_,.inl rfl,rfl⟩
B5 aDY{s:Wb}(h:mQ s){x y:Int}{ns:List Int}(h0:0≤x)(h1:x<(s.rs.length:Int))(hn:∀m∈ns,0≤m∧m<(s.n:Int))(hl:ns.length≤7):lR κ [lH κ s,.int x,.int y,aJ ns]=some (.int s.n,lH κ (s.wr x (xu (s.R x) y) (s.ns x ns))):=by
 have:=QJ κ h (y:=y) (os:=ns.map some) h0 h1 (by rw[Ah];~hn) (by rw[B7];~hl)
 rw[Ah,←Jq]at this
 ~this
B5 Ew{s:Wb}{ns:List Int}{nd:D}(hn:∀m∈ns,0≤m∧m<(s.n:Int))(hnd:(nd=.non∧ns=[])∨nd=aJ ns):bY κ [lH κ s,nd]=some (aJ ns):=by
  suffices hh:∃d,bY κ [lH κ s,nd]=some d∧d=aJ ns by
    B3⟨d,e1,rfl⟩:=hh
    ~e1
  &jh rfl ?_
  B4 rG
  &cL (d:=aJ ns) ?_ A9 ?_
  · rcases hnd with ⟨rfl,rfl⟩ | rfl
    · ~aEM (cJ (aK rfl rfl (Bl false .non))) rfl
    · ~aEN (cJ (aK rfl rfl (Bl false (aJ ns)))) (fG (aA rfl rfl) (sE (dG ns)))
  &XD (ns:=ns) [.fro (lH κ s),.fro nd,.own (aJ ns),lv ns .no ns.length] rfl rfl (fun v2 k env=>env=[.fro (lH κ s),.fro nd,.inn v2 (aJ ns),lv ns .no k]) (fun v2=>rfl) (fun v2 k env e=>by rw[e];rfl) ?_ (fun v2 env e=>by rw[e];rfl) ?_
  · rintro v2 k x env hx rfl
    &⟨by walk_at "lt", _,Gm (d:=.non) (bO (nm:=Tn) (cQ rfl (mY w0 rfl)) A7 rfl rfl (Af κ (hn x (E4 hx)).1 (hn x (E4 hx)).2)),?_⟩
    have e:lv ns .no (k+1)=.fro (.int x):=by
      show SD.fro (.int (ns.getD k 0))=_
      rw[jW hx]
    rw[e]
    rfl
  ~aBv rfl ⟨_,rfl,rfl⟩
def Wb.ahead(s:Wb)(at_:Int):Int:=(0::s.od).getD at_.toNat 0
B5 aIx(od:List Int)(h:od.length≤1000):dD (aJ [0]) (aJ od)=some (aJ (0::od)):=sX [0] od (by simp;omega)
B5 mQ.aDZ{s:Wb}(h:mQ s):s.od.length≤64:=by
 have:=kY s.rs.length s.od h.Tp fun x hx=>by have:=h.Cj x hx;omega
 have:=h.few
 omega
B5 mQ.aIy{s:Wb}(h:mQ s):s.lo.length<64:=by
 have hh:=kY s.rs.length (0::s.lo) (E8.mpr ⟨fun z=>by have:=(h.lom 0).mp z;omega,h.lon⟩) fun x hx=>by
  rcases C5.mp hx with z | z
  ·have:=h.pos;omega
  ·have:=(h.lom x).mp z;omega
 rw[D8]at hh
 have:=h.few
 omega
B5 Ko{s:Wb}(h:mQ s){k:Int}(h0:0≤k)(h1:k≤(s.od.length:Int)):iR κ [lH κ s,.int k]=some (.int (s.ahead k)):=by
 have:=h.aDZ
 ~kZ rfl (fY (bC (aK (aK (gH (aA rfl rfl) A9) (cQ rfl (mY w2 rfl)) (aIx _ A6)) rfl (iY h0 (by simp;omega))) rfl))
B5 mQ.ahead{s:Wb}(h:mQ s){k:Int}(h0:0≤k)(h1:k≤(s.od.length:Int)):(s.ahead k=0∨s.ahead k∈s.od)∧0≤s.ahead k∧s.ahead k<(s.rs.length:Int):=by
 have hm:s.ahead k∈(0::s.od):=by
  B4 Wb.ahead
  rw[B8,B6 (show k.toNat<(0::s.od).length by simp;omega)]
  ~N7 _
 rcases C5.mp hm with z | z
 ·rw[z]
  have:=h.pos
  ~⟨.inl rfl,by omega,by omega⟩
 ·have:=h.Cj _ z
  ~⟨.inr z,by omega,by omega⟩
B5 ZJ{s:Wb}(h:mQ s){x a b c:Int}{ns:List Int}{nd:D}(h0:0≤x)(h1:x<(s.rs.length:Int))(hn:∀m∈ns,0≤m∧m<(s.n:Int))(hl:ns.length≤7)(hnd:(nd=.non∧ns=[])∨nd=aJ ns):oZ κ [lH κ s,.int x,.int a,.int b,.int c,nd]=some (.int s.n,lH κ (s.wr x [(s.R x).getD 0 0,(s.R x).getD 1 0,a,b,c] (s.ns x ns))):=by
 &oX rfl fun v=>?_
 B4 zT
 have h5:=h.five h0 h1
 &cL (d:=dTup (s.R x)) (bO (nm:=tW) rfl A7 rfl rfl (oJ κ h h0 h1)) A9 ?_
 &Mr (d:=.int s.n) (env':=[.inn v (lH κ (s.wr x [(s.R x).getD 0 0,(s.R x).getD 1 0,a,b,c] (s.ns x ns))),.fro (.int x),.fro (.int a),.fro (.int b),.fro (.int c),.fro nd,.own (dTup (s.R x))]) (jO (p:=[]) (nm:=tW) (es:=[.int x,dTup [(s.R x).getD 0 0,(s.R x).getD 1 0,a,b,c],aJ ns]) rfl rfl rfl A7 (mapA (dY rfl (dY (nO (aA (bC (aK rfl rfl (rB (k:=0) A6)) rfl) (aA (bC (aK rfl rfl (rB (k:=1) A6)) rfl) (aA (bC rfl rfl) (aA (bC rfl rfl) (aA (bC rfl rfl) rfl))))) A9) (Qd (bO (nm:=tW) rfl A7 rfl rfl (Ew κ hn hnd)) rfl)))) (aDX κ h h0 h1 hn hl)) ⟨_,.inl rfl,rfl⟩
def Wb.new(s:Wb):Int:=VB s.lo
def Wb.e1(s:Wb)(k key was now fV:Int):Wb:=s.wr s.new [key,(s.R (s.ahead k)).getD 1 0,was,now,fV] (s.go.get s.new).toList
def Wb.e2(s:Wb)(k key was now fV:Int)(fu:List Int):Wb:=(s.e1 k key was now fV).wr (s.ahead k) (xu ((s.e1 k key was now fV).R (s.ahead k)) s.new) ((s.e1 k key was now fV).ns (s.ahead k) ((s.n:Int)::fu))
def Wb.ent(s:Wb)(k key was now fV:Int)(fu:List Int):Wb:={s.e2 k key was now fV fu with od:=s.od.take k.toNat++s.new::s.od.drop k.toNat,lo:=s.lo.eraseIdx (s.lo.idxOf s.new),co:=s.co.put s.new (s.n+1:Nat)}
B5 mQ.new{s:Wb}(h:mQ s)(hl:0<s.lo.length):s.new∈s.lo∧1≤s.new∧s.new<(s.rs.length:Int)∧s.new∉s.od∧0≤s.new:=by
 have:=(Dm hl).1
 have hm:=(h.lom _).mp this
 ~⟨this,hm.1,hm.2.1,hm.2.2,Int.le_trans A8 hm.1⟩
B5 mQ.aGW{s:Wb}(h:mQ s)(x:Int):∀m∈(s.go.get x).toList,0≤m∧m<(s.n:Int):=fun m hm=>by
 cases e:s.go.get x with
 | none=>rw[e]at hm;cases hm
 | some y=>rw[e]at hm;rw[D9.mp hm];~h.goi x y e
B5 mQ.e1{s:Wb}(h:mQ s)(hl:0<s.lo.length)(hm:s.n<124)(k key was now fV:Int):mQ (s.e1 k key was now fV):=by
 B3⟨a,b,c,d,e⟩:=h.new hl
 ~h.wr e c rfl (h.aGW _) (G1 (mK _) A8) hm fun z=>absurd z d
B5 aBR(s:Wb)(k key was now fV:Int):(s.e1 k key was now fV).n=s.n+1:=aBP _ _ _ _
B5 mQ.e2{s:Wb}(h:mQ s)(hl:0<s.lo.length)(hm:s.n<123){k key was now fV:Int}{fu:List Int}(h0:0≤k)(h1:k≤(s.od.length:Int))(hn:∀m∈fu,0≤m∧m<(s.n:Int))(hf:fu.length≤5):mQ (s.e2 k key was now fV fu)∧(∀m∈(s.n:Int)::fu,0≤m∧m<((s.e1 k key was now fV).n:Int))∧s.ahead k<((s.e1 k key was now fV).rs.length:Int):=by
 have w:=h.e1 hl A6 k key was now fV
 B3⟨a,b,c⟩:=h.ahead h0 h1
 have hn2:∀m∈(s.n:Int)::fu,0≤m∧m<((s.e1 k key was now fV).n:Int):=fun m hm=>by
  rw[aBR]
  rcases C5.mp hm with z | z
  ·omega
  ·have:=hn m z
   omega
 have hc:s.ahead k<((s.e1 k key was now fV).rs.length:Int):=by
  show _<((s.wr _ _ _).rs.length:Int)
  rw[tQ]
  ~c
 &⟨w.wr b hc rfl (w.ZG hn2) ?_ (by rw[aBR];omega) fun z=>rfl,hn2,hc⟩
 B4 Wb.ns
 rw[C7]
 have:=mK ((s.e1 k key was now fV).co.get (s.ahead k))
 simp
 omega
B5 aET(s:Wb)(k key was now fV:Int)(fu:List Int):(s.ent k key was now fV fu).n=s.n+2:=by
 show (s.e2 k key was now fV fu).n=_
 B4 Wb.e2
 rw[aBP,aBR]
B5 BP(s:Wb)(k key was now fV:Int)(fu:List Int):(s.ent k key was now fV fu).rs.length=s.rs.length:=by
 show (s.e2 k key was now fV fu).rs.length=_
 B4 Wb.e2
 rw[tQ]
 ~tQ _ _ _ _
B5 Jr{l:List Int}{x y:Int}(hn:l.Nodup):y∈l.eraseIdx (l.idxOf x)↔y∈l∧y≠x:=by
 rw[←Q5 rfl,hn.mem_erase_iff]
 ~and_comm
def Wb.Fits(s:Wb)(k key:Int):Prop:=(∀x∈s.od.take k.toNat,s.key x<key)∧∀x∈s.od.drop k.toNat,key<s.key x
B5 mQ.ent{s:Wb}(h:mQ s)(hl:0<s.lo.length)(hm:s.n<123){k key was now fV:Int}{fu:List Int}(h0:0≤k)(h1:k≤(s.od.length:Int))(hn:∀m∈fu,0≤m∧m<(s.n:Int))(hf:fu.length≤5)(hk:s.Fits k key):mQ (s.ent k key was now fV fu):=by
  B3⟨w,_,_⟩:=h.e2 hl hm (key:=key) (was:=was) (now:=now) (fV:=fV) h0 h1 hn hf
  B3⟨a1,a2,a3,a4,a5⟩:=h.new hl
  have hA:=h.ahead h0 h1
  have hod:∀x,x∈s.od.take k.toNat++s.new::s.od.drop k.toNat↔x=s.new∨x∈s.od:=fun x=>by
    conv=>rhs;rw[←M6 k.toNat s.od]
    simp only[G0,C5]
    constructor
    · rintro(z | z | z)
      · ~.inr (.inl z)
      · ~.inl z
      · ~.inr (.inr z)
    · rintro(z | z | z)
      · ~.inr (.inl z)
      · ~.inl z
      · ~.inr (.inr z)
  have hlen:=BP s k key was now fV fu
  have hnn:=aET s k key was now fV fu
  have kk:∀x,x=s.new∨x∈s.od→(s.ent k key was now fV fu).key x=if x=s.new then key else s.key x:=fun x hx=>by
    have x0:0≤x:=by
      rcases hx with z | z
      · omega
      · have:=h.Cj x z;omega
    show ((s.e2 k key was now fV fu).R x).getD 0 0=_
    have e1r:∀y,0≤y→(s.e1 k key was now fV).R y=if y=s.new then [key,(s.R (s.ahead k)).getD 1 0,was,now,fV]else s.R y:=fun y hy=>ZD a5 a3 hy
    have ne:s.ahead k≠s.new:=fun z=>by
      rcases hA.1 with y | y
      · omega
      · ~a4 (z▸y)
    B4 Wb.e2
    rw[ZD hA.2.1 (by show _<((s.wr _ _ _).rs.length:Int);rw[tQ];~hA.2.2) x0]
    by_cases c:x=s.ahead k
    · rw[if_pos c,if_neg (by rw[c];~ne),e1r _ hA.2.1,if_neg ne,c]
      rfl
    · rw[if_neg c,e1r x x0]
      by_cases c2:x=s.new
      · rw[if_pos c2,if_pos c2];rfl
      · rw[if_neg c2,if_neg c2];rfl
  &⟨w.bn,w.p1,w.len,w.few,w.pos,w.rcd,w.las,w.lao,?_,?_,?_,?_,?_,?_,?_,?_,?_,w.th⟩
  · rw[hnn];~(h.coo.put _ _).mono A6
  · rw[hnn];~h.goo.mono A6
  · intro x y e
    have e:(s.co.put s.new (s.n+1:Nat)).get x=some y:=e
    rw[Mp.pY h.coo.1]at e
    rw[hnn]
    split at e
    · cases e
      omega
    · have:=h.coi x y e
      omega
  · intro x y e
    have:=h.goi x y e
    rw[hnn]
    omega
  · &P4.mpr ⟨h.Tp.sublist (M5 _ _),E8.mpr ⟨fun z=>a4 (V6 z),h.Tp.sublist (j8 _ _)⟩,fun x hx y hy=>?_⟩
    rcases C5.mp hy with z | z
    · rintro rfl
      ~a4 (z▸L5 hx)
    · have:=h.Tp
      rw[←M6 k.toNat s.od]at this
      ~(P4.mp this).2.2 x hx y z
  · intro x hx
    rw[hlen]
    rcases(hod x).mp hx with z | z
    · omega
    · ~h.Cj x z
  · ~h.lon.sublist (U7 _ _)
  · intro x
    show x∈s.lo.eraseIdx (s.lo.idxOf s.new)↔_
    rw[hlen,Jr h.lon,h.lom x]
    show _↔1≤x∧x<(s.rs.length:Int)∧x∉s.od.take k.toNat++s.new::s.od.drop k.toNat
    rw[hod x,not_or]
    constructor
    · rintro⟨⟨z1,z2,z3⟩,z4⟩
      ~⟨z1,z2,z4,z3⟩
    · rintro⟨z1,z2,z4,z3⟩
      ~⟨⟨z1,z2,z3⟩,z4⟩
  · have hp:=h.key
    rw[←M6 k.toNat s.od]at hp
    B3⟨p1,p2,p3⟩:=K7.mp hp
    have nt:∀x∈s.od.take k.toNat,x≠s.new:=fun x hx z=>a4 (z▸L5 hx)
    have nd:∀x∈s.od.drop k.toNat,x≠s.new:=fun x hx z=>a4 (z▸V6 hx)
    have kt:∀x∈s.od.take k.toNat,(s.ent k key was now fV fu).key x=s.key x:=fun x hx=>by rw[kk x (.inr (L5 hx)),if_neg (nt x hx)]
    have kd:∀x∈s.od.drop k.toNat,(s.ent k key was now fV fu).key x=s.key x:=fun x hx=>by rw[kk x (.inr (V6 hx)),if_neg (nd x hx)]
    have kn:(s.ent k key was now fV fu).key s.new=key:=by rw[kk _ (.inl rfl),if_pos rfl]
    show (s.od.take k.toNat++s.new::s.od.drop k.toNat).Pairwise _
    &K7.mpr ⟨p1.imp_of_mem fun{x y} hx hy q=>by rw[kt x hx,kt y hy];~q,J7.mpr ⟨fun y hy=>by rw[kn,kd y hy];~hk.2 y hy,p2.imp_of_mem fun{x y} hx hy q=>by rw[kd x hx,kd y hy];~q⟩,fun x hx y hy=>?_⟩
    rw[kt x hx]
    rcases C5.mp hy with z | z
    · rw[z,kn]
      ~hk.1 x hx
    · rw[kd y z]
      ~p3 x hx y z
B5 aD0{s:Wb}{k key:Int}(h0:0≤k)(h1:k≤(s.od.length:Int))(hk:s.Fits k key):(((s.od.filter fun x=>decide (s.key x<key)).length:Nat):Int)=k:=by
 conv=>lhs;rw[←M6 k.toNat s.od]
 rw[P1,Q4.mpr fun x hx=>decide_eq_true (hk.1 x hx),c7.mpr fun x hx=>by have:=hk.2 x hx;simp;omega,F2,F3]
 omega
B5 aBS{env:EN}{i:Nat}{π:FP}{f g:FE}{d0:D}{p:List L2.Step}{ns:List Int}{k y:Int}(h1:env[i]?=some (.own d0))(h2:π (rE env)=some p)(h3:eV p d0=some (aJ ns))(h4:f (rE env)=some (.int k))(h5:g (rE env)=some (.int y))(k0:0≤k)(k1:k≤(ns.length:Int))(hl:ns.length<1000):Ym i π f g env=.next (env.set i (.own (eO p d0 (aJ (ns.take k.toNat++y::ns.drop k.toNat))))):=by
 B4 Ym
 rw[h1,h2,h4,h5]
 dsimp only
 rw[h3]
 B4 aJ
 dsimp only
 rw[jV]
 dsimp only
 rw[if_pos ⟨k0,by omega,hl⟩]
B5 ZK{env:EN}{i:Nat}{π:FP}{g:FE}{d0:D}{p:List L2.Step}{ns:List Int}{y:Int}(h1:env[i]?=some (.own d0))(h2:π (rE env)=some p)(h3:eV p d0=some (aJ ns))(h5:g (rE env)=some (.int y))(hy:y∈ns):Sx i π g env=.next (env.set i (.own (eO p d0 (aJ (ns.eraseIdx (ns.idxOf y)))))):=by
 B4 Sx
 rw[h1,h2,h5]
 dsimp only
 rw[h3]
 B4 aJ
 dsimp only
 rw[jV]
 dsimp only
 rw[if_pos hy]
B5 aBT{s:Wb}(h:mQ s)(hl:0<s.lo.length)(hm:s.n<123){k key was now fV:Int}{fu:List Int}{nd:D}(h0:0≤k)(h1:k≤(s.od.length:Int))(hn:∀m∈fu,0≤m∧m<(s.n:Int))(hf:fu.length≤5)(hk:s.Fits k key)(hnd:(nd=.non∧fu=[])∨nd=aJ fu) :
  rQ κ [lH κ s,.int key,.int was,.int now,.int fV,nd]=some (.tup [.int s.new,.int (s.n+1:Nat)],lH κ (s.ent k key was now fV fu)):=by
 &oX rfl fun v=>?_
 B4 Gs
 B3⟨a1,a2,a3,a4,a5⟩:=h.new hl
 B3⟨b1,b2,b3⟩:=h.ahead h0 h1
 B3⟨W2,hn2,hc⟩:=h.e2 hl hm (key:=key) (was:=was) (now:=now) (fV:=fV) h0 h1 hn hf
 have W1:=h.e1 hl A6 k key was now fV
 have h5:=h.five b2 b3
 have ho:=h.aDZ
 &Vp (cJ (aK (fG (aA (cQ rfl (mY w3 rfl)) rfl) (pK _)) rfl (nM _ _))) (decide_eq_false A6) (Le ?_)
 &cL (d:=aJ fu) (bO (nm:=tW) rfl A7 rfl rfl (Ew κ hn hnd)) A9 ?_
 have Ag:=Iv (fi:=oK (pJ (dJ (κ 1) "string") (aD 0))) (fr:=[0,1]) (fc:=fB (f2 dLt (f2 fJ (fD (κ 1) "record_of" 2 (bM κ) (aD 1) (aB (aD 0) aO) []) (fC (.int (0)))) (aD 2))) (fe:=cN (aD 0)) (e:=rE [.inn v (lH κ s),.fro (.int key),.fro (.int was),.fro (.int now),.fro (.int fV),.fro nd,.own (aJ fu),.no,.no,.no,.no,.no]) (ms:=s.od) (fun x=>decide (s.key x<key)) (fun x=>.int x) (kO (cQ rfl (mY w2 rfl))) A6 (fun x hx=>by
  have:=h.Cj x hx
  ~cJ (aK (aK (bO (nm:=tW) rfl A7 rfl rfl (oJ κ h A6 this.2)) rfl (rB (k:=0) (by rw[h.five A6 this.2];decide))) rfl (wU _ _))) fun x hx _=>bC rfl rfl
 &cL (d:=.int k) ((fG (aA Ag rfl) (Pn _)).trans (by rw[B7,aD0 h0 h1 hk])) A9 ?_
 &cL (d:=.int (s.ahead k)) (bO (nm:=tW) rfl A7 rfl rfl (Ko κ h h0 h1)) A9 ?_
 &cL (d:=.int s.new) (fG (aA (cQ rfl (mY w3 rfl)) rfl) (WX hl)) A9 ?_
 &Iw (d:=.int s.n) (env':=[.inn v (lH κ (s.e1 k key was now fV)),.fro (.int key),.fro (.int was),.fro (.int now),.fro (.int fV),.fro nd,.own (aJ fu),.own (.int k),.own (.int (s.ahead k)),.own (.int s.new),.no,.no])
  (jO (p:=[]) (nm:=tW) (es:=[.int s.new,dTup [key,(s.R (s.ahead k)).getD 1 0,was,now,fV],lV [s.go.get s.new]]) rfl rfl rfl A7 (mapA (dY rfl (Qd (nO (aA (bC rfl rfl) (aA (bC (aK (bO (nm:=tW) rfl A7 rfl rfl (oJ κ h b2 b3)) rfl (rB (k:=1) A6)) rfl) (aA (bC rfl rfl) (aA (bC rfl rfl) (aA (bC rfl rfl) rfl))))) A9) (Qd (gH (aA (bO (nm:=tW) rfl A7 rfl rfl (QF κ h s.new)) rfl) A9) rfl)))) ((QG κ h a5 a3 (by rw[Hr];~fun m hm=>h.aGW _ m (by simpa[Rq]using hm)) (by simp)).trans (by rw[Hr,show Rq []=[]from rfl,F2];rfl))) A9 ?_
 &Iw (d:=.int (s.n+1:Nat)) (env':=[.inn v (lH κ (s.e2 k key was now fV fu)),.fro (.int key),.fro (.int was),.fro (.int now),.fro (.int fV),.fro nd,.own (aJ fu),.own (.int k),.own (.int (s.ahead k)),.own (.int s.new),.own (.int s.n),.no])
  (jO (p:=[]) (nm:=tW) (es:=[.int (s.ahead k),.int s.new,aJ ((s.n:Int)::fu)]) rfl rfl rfl A7 (mapA (dY rfl (dY rfl (dY (aK (gH (aA rfl rfl) A9) rfl (sX [(s.n:Int)] fu (by simp;omega))) rfl)))) ((aDY κ W1 b2 hc hn2 (by simp;omega)).trans (by rw[aBR];rfl))) A9 ?_
 &qD rfl (aBS (p:=[L2.Step.fld (κ 1) "string"]) (ns:=s.od) rfl rfl (vA w2 rfl) rfl rfl h0 h1 A6) rfl ?_
 rw[show eO [L2.Step.fld (κ 1) "string"] (lH κ (s.e2 k key was now fV fu)) (aJ (s.od.take k.toNat++s.new::s.od.drop k.toNat))=.ins (κ 1) tW _ from vB w2 rfl]
 &qD rfl (ZK (p:=[L2.Step.fld (κ 1) "loose"]) (ns:=s.lo) rfl rfl (vA w3 rfl) rfl a1) rfl ?_
 rw[vB w3 rfl]
 &qD rfl (Mq (p:=[L2.Step.fld (κ 1) "comings"]) (k:=.inl s.new) (kd:=.int s.new) (d:=.int (s.n+1:Nat)) rfl rfl (vA w5 rfl) rfl rfl rfl rfl (by rw[B7];have:=W2.coo.2;have:=W2.ZF;omega)) rfl ?_
 rw[vB w5 rfl,YW]
 ~Mr (aGG (nO (aA (bC rfl rfl) (aA (bC rfl rfl) rfl)) A9)) ⟨_,.inl rfl,rfl⟩
B5 Rb(s:Wb):jY κ [lH κ s]=some (aJ s.od):=kZ rfl (fY (fG (aA (cQ rfl (mY w2 rfl)) rfl) (sE (dG _))))
B5 QK{s:Wb}(h:mQ s):uH κ [lH κ s]=some (aJ (sortI s.lo)):=kZ rfl (fY (fG (aA (cQ rfl (mY w3 rfl)) rfl) (Gk h.aIy)))
B5 Tq{s:Wb}(h:mQ s)(x:Int):lF κ [lH κ s,.int x]=some (BK (s.la.get x)):=kZ rfl (fY (aK (cQ rfl (mY w4 rfl)) rfl (YT h.lao.1 x)))
def Wb.cv(s:Wb)(r:List Int):Wb:={s with b:=s.b.bV r}
B5 mQ.cv{s:Wb}(h:mQ s){r:List Int}(hu:r.Nodup)(hm:∀x∈r,0≤x∧x<(s.n:Int))(hn:∀x∈r,x∉s.b.held):mQ (s.cv r)∧bkD (s.cv r)=bkD s∧(s.cv r).n=s.n∧(s.cv r).P=s.P:=by
 have e1:=jE r s.b
 B3⟨e2,e3⟩:=lC r s.b
 have en:(s.cv r).n=s.n:=congrArg l0 e1
 have eP:(s.cv r).P=s.P:=e2
 &⟨⟨h.bn.bV hu hm hn,by rw[eP];~h.p1,fun k hk=>?_,h.few,h.pos,fun k hk=>?_,fun k hk=>?_,by rw[en];~h.lao,by rw[en];~h.coo,by rw[en];~h.goo,by rw[en];~h.coi,by rw[en];~h.goi,h.Tp,h.Cj,h.lon,h.lom,h.key,fun k hk=>?_⟩,?_,en,eP⟩
 ·rw[eP]
  show _<((s.b.bV r).bD.getD _ []).length
  rw[e3]
  ~h.len k hk
 ·rw[eP]
  show s.rs.getD k []=face (s.b.bV r) _ _∧_
  rw[BJ h.bn (N9 _) (N9 _) hm]
  ~h.rcd k hk
 ·rw[eP]
  show s.la.get k=lastAt (s.b.bV r).asked _ _
  rw[e1]
  ~h.las k hk
 ·show (at_ (s.b.bV r).asked k).thing.length=5
  rw[e1]
  ~h.th k (by rw[←en];~hk)
 ·B4 bkD
  rw[eP]
  show D.dk bks [_,_,_,_,_,vP (s.b.bV r).asked,_]=_
  rw[e1]
  rfl
def Wb.o1(s:Wb)(k x:Int)(fu:List Int):Wb:=s.wr (s.ahead k) (xu (s.R (s.ahead k)) ((s.R x).getD 1 0)) (s.ns (s.ahead k) ((s.la.get x).toList++fu))
def Wb.out(s:Wb)(k x:Int)(fu:List Int):Wb:={s.o1 k x fu with od:=s.od.eraseIdx k.toNat,lo:=s.lo++[x],go:=s.go.put x s.n}
B5 BR{l:List Int}{x:Int}:∀{k:Nat},l.Nodup→l[k]?=some x→l.idxOf x=k:=by
 induction l with
 | nil=>intro k _ h;cases h
 | cons a l ih=>
  intro k hn h
  have hn':=E8.mp hn
  cases k with
  | zero=>cases h;~V7
  | succ k=>
   have h:l[k]?=some x:=h
   have ne:a≠x:=fun z=>hn'.1 (z▸E4 h)
   rw[V4,show (a==x)=false from beq_false_of_ne ne,←ih hn'.2 h]
   rfl
B5 mQ.aJT{s:Wb}(h:mQ s){x:Int}(h0:0≤x)(h1:x<(s.rs.length:Int)):∀m∈(s.la.get x).toList,0≤m∧m<(s.n:Int):=fun m hm=>by
 have e:=h.las x.toNat A6
 rw[Q2 h0]at e
 rw[e]at hm
 cases z:lastAt s.b.asked ((x.toNat%s.P:Nat):Int) ((x.toNat/s.P:Nat):Int)with
 | none=>rw[z]at hm;cases hm
 | some y=>
  rw[z]at hm
  rw[D9.mp hm]
  have:=wA z
  ~⟨this.1,this.2.1⟩
B5 mQ.o1{s:Wb}(h:mQ s)(hm:s.n<124){k x:Int}{fu:List Int}(h0:0≤k)(h1:k≤(s.od.length:Int))(x0:0≤x)(x1:x<(s.rs.length:Int))(hn:∀m∈fu,0≤m∧m<(s.n:Int))(hf:fu.length≤5):mQ (s.o1 k x fu)∧∀m∈(s.la.get x).toList++fu,0≤m∧m<(s.n:Int):=by
 B3⟨b1,b2,b3⟩:=h.ahead h0 h1
 have hn2:∀m∈(s.la.get x).toList++fu,0≤m∧m<(s.n:Int):=fun m hm=>by
  rcases G0.mp hm with z | z
  ·~h.aJT x0 x1 m z
  ·~hn m z
 &⟨h.wr b2 b3 rfl (h.ZG hn2) ?_ hm fun _=>rfl,hn2⟩
 B4 Wb.ns
 rw[C7,C7]
 have:=mK (s.co.get (s.ahead k))
 have:=mK (s.la.get x)
 omega
B5 aEU(s:Wb)(k x:Int)(fu:List Int):(s.out k x fu).n=s.n+1:=by
 show (s.o1 k x fu).n=_
 B4 Wb.o1
 ~aBP _ _ _ _
B5 BV(s:Wb)(k x:Int)(fu:List Int):(s.out k x fu).rs.length=s.rs.length:=by
 show (s.o1 k x fu).rs.length=_
 B4 Wb.o1
 ~tQ _ _ _ _
B5 mQ.out{s:Wb}(h:mQ s)(hm:s.n<124){k x:Int}{fu:List Int}(h0:0≤k)(h1:k<(s.od.length:Int))(hx:s.od[k.toNat]?=some x)(hn:∀m∈fu,0≤m∧m<(s.n:Int))(hf:fu.length≤5):mQ (s.out k x fu):=by
  have xm:x∈s.od:=E4 hx
  have xr:=h.Cj x xm
  B3⟨w,_⟩:=h.o1 hm h0 (N0 h1) (x:=x) A6 xr.2 hn hf
  have hi:=BR h.Tp hx
  have hlen:=BV s k x fu
  have hnn:=aEU s k x fu
  &⟨w.bn,w.p1,w.len,w.few,w.pos,w.rcd,w.las,w.lao,?_,?_,?_,?_,h.Tp.sublist (U7 _ _),?_,?_,?_,w.key.sublist (U7 _ _),w.th⟩
  · rw[hnn];~h.coo.mono A6
  · rw[hnn];~h.goo.put _ _
  · intro z y e
    have:=h.coi z y e
    rw[hnn]
    omega
  · intro z y e
    have e:(s.go.put x s.n).get z=some y:=e
    rw[Mp.pY h.goo.1]at e
    rw[hnn]
    split at e
    · cases e
      omega
    · have:=h.goi z y e
      omega
  · intro z hz
    rw[hlen]
    ~h.Cj z (List.mem_of_mem_eraseIdx hz)
  · &P4.mpr ⟨h.lon,by simp,fun y hy z hz q=>?_⟩
    rw[D9.mp hz]at q
    ~((h.lom y).mp hy).2.2 (q▸xm)
  · intro y
    show y∈s.lo++[x]↔_
    rw[hlen]
    show _↔1≤y∧y<(s.rs.length:Int)∧y∉s.od.eraseIdx k.toNat
    rw[←hi,Jr h.Tp,G0,D9,h.lom y]
    constructor
    · rintro(⟨z1,z2,z3⟩ | rfl)
      · ~⟨z1,z2,fun q=>z3 q.1⟩
      · ~⟨xr.1,xr.2,fun q=>q.2 rfl⟩
    · rintro⟨z1,z2,z3⟩
      by_cases e:y=x
      · ~.inr e
      · ~.inl ⟨z1,z2,fun q=>z3 ⟨q,e⟩⟩
B5 aBU{s:Wb}(h:mQ s)(hm:s.n<124){k x:Int}{fu:List Int}{nd:D}(h0:0≤k)(h1:k<(s.od.length:Int))(hx:s.od[k.toNat]?=some x)(hn:∀m∈fu,0≤m∧m<(s.n:Int))(hf:fu.length≤5)(hnd:(nd=.non∧fu=[])∨nd=aJ fu):mF κ [lH κ s,.int x,nd]=some (.int s.n,lH κ (s.out k x fu)):=by
 &oX rfl fun v=>?_
 B4 Gq
 B3⟨b1,b2,b3⟩:=h.ahead h0 (N0 h1)
 have xm:x∈s.od:=E4 hx
 have xr:=h.Cj x xm
 have hi:=BR h.Tp hx
 have h5:=h.five (x:=x) A6 xr.2
 B3⟨W,hn2⟩:=h.o1 hm h0 (N0 h1) (x:=x) A6 xr.2 hn hf
 have ek:Rq (s.la.get x::fu.map some)=(s.la.get x).toList++fu:=by rw[Hr,Ah]
 have hix:uU (aJ s.od) (.int x)=some (.int k):=by
  B4 uU aJ
  dsimp only
  rw[jV,B9,if_pos xm,hi,Q2 h0]
 have aIz:=Ew κ (s:=s) hn hnd
 rw[Jq]at aIz
 &cL (d:=.int (s.ahead k)) (bO (nm:=tW) rfl A7 (aA (aK (cQ rfl (mY w2 rfl)) rfl hix) rfl) rfl (Ko κ h h0 (N0 h1))) A9 ?_
 &cL (d:=lV (s.la.get x::fu.map some)) (aK (a:=lV [s.la.get x]) (b:=lV (fu.map some)) (gH (aA (bO (nm:=tW) rfl A7 rfl rfl (Tq κ h x)) rfl) A9) (bO (nm:=tW) rfl A7 rfl rfl aIz) (Ra _ _ (by simp;omega))) A9 ?_
 &Iw (d:=.int s.n) (env':=[.inn v (lH κ (s.o1 k x fu)),.fro (.int x),.fro nd,.own (.int (s.ahead k)),.own (lV (s.la.get x::fu.map some)),.no]) (jO (p:=[]) (nm:=tW) (es:=[.int (s.ahead k),.int ((s.R x).getD 1 0),lV (s.la.get x::fu.map some)]) rfl rfl rfl A7 (mapA (dY rfl (Qd (bC (aK (bO (nm:=tW) rfl A7 rfl rfl (oJ κ h A6 xr.2)) rfl (rB (k:=1) A6)) rfl) (dY rfl rfl)))) ((QJ κ h b2 b3 (by rw[ek];~hn2) (by simp;omega)).trans (by rw[ek];rfl))) A9 ?_
 &qD rfl (ZK (p:=[L2.Step.fld (κ 1) "string"]) (ns:=s.od) rfl rfl (vA w2 rfl) rfl xm) rfl ?_
 rw[hi,show eO [L2.Step.fld (κ 1) "string"] (lH κ (s.o1 k x fu)) (aJ (s.od.eraseIdx k.toNat))=.ins (κ 1) tW _ from vB w2 rfl]
 &qD rfl (Qc (p:=[L2.Step.fld (κ 1) "loose"]) (ds:=s.lo.map D.int) (d:=.int x) rfl rfl (vA w3 rfl) (bC rfl rfl) (by rw[B7];have:=h.aIy;omega)) rfl ?_
 rw[vB w3 rfl,wW]
 &qD rfl (Mq (p:=[L2.Step.fld (κ 1) "goings"]) (k:=.inl x) (kd:=.int x) (d:=.int s.n) rfl rfl (vA w6 rfl) rfl rfl rfl rfl (by rw[B7];~W7 (show s.go.k.length≤s.n from h.goo.2) A6)) rfl ?_
 rw[vB w6 rfl,YW]
 ~Ms rfl ⟨_,.inl rfl,rfl⟩
section
variable{env env' e1 e2:EN}{b:Bool}{d d2 r:D}{f:FE}{ft:FT}{g1 g2:GS}{gb gc:GB}{gm:GM}{eF eZ:DE}{z y:FE2}{fs:FA2}{es xs ys:List D}{js:List Nat}{i:Nat}{φ:D→D→Option D}
end
section
variable{env env' e1 e2 e0:EN}{b:Bool}{d r:D}{gb:GB}{gm gn:GM}{as:List Ar}{F:List D→Option (D×List D)}{Mj JX ds':List D}{f:FE}{ds:List D}
B5 aBV(h1:takes (chA as) env=some (Mj,e0))(h2:rdA as (rE env) (rE e0)=some JX)(h3:F (uT (qC as) Mj JX)=some (r,ds')):JZ as F env=some (r,Sv (chA as) ds' env):=by
 B4 JZ
 rw[h1,B9,h2,B9,h3]
 rfl
B5 aIA{eF eZ:DE}(h1:f eZ=some d)(h2:rdA as eF eZ=some ds):rdA (.rd f::as) eF eZ=some (d::ds):=by
 show (f eZ).bind _=_
 rw[h1,B9,h2]
 rfl
B5 aEV{eF eZ:DE}{i:Nat}(h2:rdA as eF eZ=some ds):rdA (.ch i::as) eF eZ=some ds:=h2
end
B5 Rc(ns:List Int)(k:Nat):lO [aJ ns,.int k]=some (.int (ns.getD k 0)):=by
 &oW rfl ?_
 B4 MJ
 by_cases c:k<ns.length
 ·have hx:=iY (ns:=ns) (i:=k) A6 A6
  rw[C8]at hx
  apply aGB
  ·walk_at "et"
  ·~decide_eq_true A6
  ~aIo (bC (aK rfl rfl hx) rfl) rfl
 ·apply WT
  ·walk_at "et"
  ·~decide_eq_false A6
  apply aBn
  rw[B8,E1 A6]
  ~fY rfl
B5 wu(c:Int):∃s:Int,0≤s∧lQ [.int c]=some (.int s):=by
 suffices h:∃d,lQ [.int c]=some d∧∃s:Int,0≤s∧d=.int s by
  B3⟨d,h1,s,h0,rfl⟩:=h
  ~⟨s,h0,h1⟩
 &sW rfl ?_
 B4 Qi
 have a0:=F6 c (show (2147483629:Int)≠0 by decide)
 have a1:=F9 c (show (0:Int)<2147483629 by decide)
 walk_at "q"
 have n0:=F6 ((c%2147483629+1)*48271) (show (2147483629:Int)≠0 by decide)
 have n1:=F9 ((c%2147483629+1)*48271) (show (0:Int)<2147483629 by decide)
 generalize (c%2147483629+1)*48271%2147483629=n at *
 have e50:Bw (.int 10) (.int 50)=some (.int (10 ^ 50)):=nD ⟨by decide,by decide,by decide⟩
 have m0:=F6 c (show (10 ^ 50:Int)≠0 by decide)
 have q0:=F6 (n*n) (show (2147483587:Int)≠0 by decide)
 &uV (aK (aK (aK rfl rfl (fQ (Dz A6 A6))) rfl (bF A8)) (aK (aK rfl (aK rfl rfl e50) (bF A8)) rfl (fQ (aIn A8 A8))) (bR _ _)) ⟨_,rfl,_,?_,rfl⟩
 have:=r6 m0 (show (0:Int)≤2147483587 by decide)
 omega
abbrev bJ(s:List (List (List Int))):D:=iK s
B5 Rg{s:List (List (List Int))}{k:Nat}{p:List (List Int)}(h:s[k]?=some p):fJ (bJ s) (.int k)=some (fU p):=by
 B4 bJ
 ~uA A6 (by rw[C8,C4,h];rfl)
B5 aJU{p:List (List Int)}{k:Nat}{t:List Int}(h:p[k]?=some t):fJ (fU p) (.int k)=some (dTup t):=by
 B4 fU
 ~uA A6 (by rw[C8,C4,h];rfl)
B5 Js(s:List (List (List Int))):jU [bJ s]=some (.int s.length):=wD s
def bG(P R:Nat)(cM:List (List Int))(aZ:List Int):List (List (List Int)):=(D2 P).map fun p=>((D2 R).map fun r=>cM.getD (p+P*r) [])++[[aZ.getD p 0]]
B5 aBW{P R p r:Nat}(hp:p<P)(hr:r<R):p+P*r<P*R:=by
 have h1:P*(r+1)≤P*R:=Nat.mul_le_mul_left P hr
 rw[Nat.mul_succ]at h1
 omega
B5 getD_mem{l:List Int}{k:Nat}(h:k<l.length):l.getD k 0∈l:=by
 rw[B8,B6 h]
 ~N7 h
B5 Ai{l:List Int}(h:l.Nodup){i j:Nat}(hi:i<l.length)(hj:j<l.length)(hij:i≠j):l.getD i 0≠l.getD j 0:=by
 rw[B8,B8,B6 hi,B6 hj]
 show l[i]≠l[j]
 have hpw:=K6.mp h
 rcases J2 i j with q | q
 ·~hpw i j hi hj q
 ·~fun e=>hpw j i hj hi A6 e.symm
B5 jr{s:List (List (List Int))}{b:Int}(h:0<s.length)(h2:s.length≤1000):wX [bJ s,.int b]=some (dTup [b%s.length,b/s.length]):=by
 &oW rfl ?_
 B4 jk
 have hlen:=Js s
 apply fY
 show _=some (D.tup [.int (b%s.length),.int (b/s.length)])
 walk_at "ev"
B5 aBX{s:List (List (List Int))}{p:List (List Int)}{t:List Int}{i j:Nat}(h1:s[i]?=some p)(h2:p[j]?=some t):zP [bJ s,dTup [(i:Int),(j:Int)]]=some (dTup t):=by
 &oW rfl ?_
 B4 MK
 apply fY
 ~bC (aK (aK rfl (aK rfl rfl (uB A8 rfl)) (Rg h1)) (aK rfl rfl (uB A8 rfl)) (aJU h2)) (lN _)
B5 aBY{s:List (List (List Int))}{b:Nat}{p:List (List Int)}{t:List Int}(h:0<s.length)(h2:s.length≤1000)(h1:s[b%s.length]?=some p)(h3:p[b/s.length]?=some t):mC [bJ s,.int b]=some (dTup t):=by
 &oW rfl ?_
 B4 Vz
 have hs:=jr (b:=(b:Int)) h h2
 have ht:zP [bJ s,dTup [(b:Int)%s.length,(b:Int)/s.length]]=some (dTup t):=aBX (i:=b%s.length) (j:=b/s.length) h1 h3
 apply fY
 walk_at "ev"
B5 yV(P R:Nat)(cM:List (List Int))(aZ:List Int):(bG P R cM aZ).length=P:=by B4 bG;rw[B7,E3]
B5 BW{P R:Nat}{cM:List (List Int)}{aZ:List Int}{p:Nat}(h:p<P):(bG P R cM aZ)[p]?=some (((D2 R).map fun r=>cM.getD (p+P*r) [])++[[aZ.getD p 0]]):=by
 B4 bG
 rw[C4,G8 h]
 rfl
B5 BX{P R:Nat}{cM:List (List Int)}{aZ:List Int}{q:List (List Int)}(h:q∈bG P R cM aZ):q.length=R+1:=by
 B4 bG at h
 B3⟨p,_,rfl⟩:=G5.mp h
 rw[C7,B7,E3]
 rfl
B5 aBZ{P R:Nat}{cM:List (List Int)}{aZ:List Int}{p r:Nat}(hr:r<R):(((D2 R).map fun r=>cM.getD (p+P*r) [])++[[aZ.getD p 0]])[r]?=some (cM.getD (p+P*r) []):=by
 rw[G3 (by rw[B7,E3];~hr),C4,G8 hr]
 rfl
B5 BZ{P R:Nat}{cM:List (List Int)}{aZ:List Int}{b:Nat}(hP:0<P)(hb:b<P*R):∃q,(bG P R cM aZ)[b%P]?=some q∧q[b/P]?=some (cM.getD b []):=by
 have h1:b%P<P:=T2 _ hP
 have h2:b/P<R:=V8 hb
 &⟨_,BW h1,?_⟩
 rw[aBZ h2,o0]
def Chain(cM:List (List Int))(ord:List Int):Prop:=∀k,k≤ord.length→∃key was now fV:Int,cM[(([0]++ord).getD k 0).toNat]?=some [key,(ord++[0]).getD k 0,was,now,fV]
B5 aB0{P R:Nat}{cM:List (List Int)}{aZ:List Int}{x:Int}{t:List Int}(hP:0<P)(hP8:P≤8)(h0:0≤x)(h1:x<(P*R:Nat))(ht:cM[x.toNat]?=some t):mC [bJ (bG P R cM aZ),.int x]=some (dTup t):=by
 B3⟨q,q1,q2⟩:=BZ (cM:=cM) (aZ:=aZ) (b:=x.toNat) hP (show x.toNat<P*R by omega)
 have hl:=yV P R cM aZ
 have:=aBY (s:=bG P R cM aZ) (b:=x.toNat) A6 A6 (by rw[hl];~q1) (by rw[hl];~q2)
 rw[Q2 h0,jW ht]at this
 ~this
B5 Wi{P R:Nat}{cM:List (List Int)}{aZ ord:List Int}(hP:0<P)(hP8:P≤8)(hR:0<R)(hc:Chain cM ord)(hb:∀x∈ord,1≤x∧x<(P*R:Nat))(hn:ord.Nodup)(hl:ord.length≤64):pM [bJ (bG P R cM aZ)]=some (aJ ord):=by
 suffices h:∃d,pM [bJ (bG P R cM aZ)]=some d∧d=aJ ord by
  B3⟨d,h1,rfl⟩:=h
  ~h1
 have hm:0<P*R:=W5 hP hR
 generalize hbd:P*R=m at *
 have nx:∀k,k≤ord.length→∃t:List Int,mC [bJ (bG P R cM aZ),.int (([0]++ord).getD k 0)]=some (dTup t)∧fJ (dTup t) (.int 1)=some (.int ((ord++[0]).getD k 0)):=fun k hk=>by
  B3⟨key,was,now,fV,h1⟩:=hc k hk
  have hx:([0]++ord).getD k 0∈[0]++ord:=getD_mem (by rw[C7];simp;omega)
  have hx2:0≤([0]++ord).getD k 0∧([0]++ord).getD k 0<((P*R:Nat):Int):=by
   rw[hbd]
   rcases G0.mp hx with q | q
   ·have:=D9.mp q;omega
   ·have:=hb _ q;omega
  ~⟨_,aB0 hP hP8 hx2.1 hx2.2 h1,uB A8 rfl⟩
 &sW rfl ?_
 B4 Wa
 walk_at "q"
 B3⟨t0,ht0,hx0⟩:=nx 0 (M3 _)
 have aL1:mC [bJ (bG P R cM aZ),.int 0]=some (dTup t0):=ht0
 walk_at "q"
 &aDN (n:=ord.length) (fun n env=>n≤ord.length∧env=[.fro (bJ (bG P R cM aZ)),.own (.dk ((ord.take (ord.length-n)).map F7) ((ord.take (ord.length-n)).map fun _=>D.bl true)),.own (.int ((ord++[0]).getD (ord.length-n) 0))]) ⟨D1 _,by rw[Z0];rfl⟩ A6 ?_ ?_
 ·rintro n env ⟨hnl,rfl⟩
  by_cases c:n=0
  ·left
   subst c
   have e:(ord++[0]).getD (ord.length-0) 0=0:=by rw[j4,B8,M0 (D1 _),Z0];rfl
   rw[e]
   &aBk (cJ ((aK rfl rfl (Gh 0 0)).trans ?_))
   rw[decide_eq_true rfl]
   rfl
  ·right
   generalize hk:ord.length-n=k
   have hkl:k<ord.length:=by omega
   have e:(ord++[0]).getD k 0=ord.getD k 0:=by rw[B8,B8,G3 hkl]
   have hx:=hb _ (getD_mem hkl)
   have hnew:ord.getD k 0∉ord.take k:=by
    intro z
    B3⟨j,hj,ej⟩:=J1 z
    rw[F3]at hj
    rw[Q9]at ej
    have:=Ai hn (i:=j) (j:=k) A6 hkl A6
    rw[B8,B6 (show j<ord.length by omega)]at this
    ~this ej
   rw[e]
   B3⟨t,ht,hxt⟩:=nx (k+1) hkl
   have ht':mC [bJ (bG P R cM aZ),.int (ord.getD k 0)]=some (dTup t):=ht
   &⟨?_,by omega,_,aEJ (aDM (k:=F7 (ord.getD k 0)) rfl rfl rfl rfl (zM hnew) rfl (by rw[B7,F3];omega)) (wR (bC (aK (bW (aA rfl (aA rfl rfl)) rfl ht') rfl hxt) rfl) A9),by omega,?_⟩
   ·&(aBj (cJ (b:=true) ((aK rfl rfl (Gh _ _)).trans ?_))).trans (cJ (aK rfl rfl ?_))
    ·rw[decide_eq_false A6];rfl
    ·show (some _:Option D)=_
     rw[zM hnew]
     rfl
   ·have e2:ord.length-(n-1)=k+1:=by omega
    have e3:ord.take (k+1)=ord.take k++[ord.getD k 0]:=by rw[O4,gY (d:=0) hkl];rfl
    rw[e2,e3,J0,J0]
    rfl
 ·rintro env n ⟨hnl,rfl⟩ hf
  by_cases c:n=0
  ·subst c
   rw[j4,N8]
   apply uV (fG (aA rfl rfl) rfl)
   ~⟨_,rfl,Vr ord⟩
  ·exfalso
   generalize hk:ord.length-n=k at hf
   have hkl:k<ord.length:=by omega
   have e:(ord++[0]).getD k 0=ord.getD k 0:=by rw[B8,B8,G3 hkl]
   have hx:=hb _ (getD_mem hkl)
   have hnew:ord.getD k 0∉ord.take k:=by
    intro z
    B3⟨j,hj,ej⟩:=J1 z
    rw[F3]at hj
    rw[Q9]at ej
    have:=Ai hn (i:=j) (j:=k) A6 hkl A6
    rw[B8,B6 (show j<ord.length by omega)]at this
    ~this ej
   rw[e]at hf
   have:(Dl (fB (f2 RC (aD 2) (fC (.int (0))))) (fB (f2 (Dk true) (aD 2) (aD 1)))) (rE [.fro (bJ (bG P R cM aZ)),.own (.dk ((ord.take k).map F7) ((ord.take k).map fun _=>D.bl true)),.own (.int (ord.getD k 0))])=some true:=by
    &(aBj (cJ (b:=true) ((aK rfl rfl (Gh _ _)).trans ?_))).trans (cJ (aK rfl rfl ?_))
    ·rw[decide_eq_false A6];rfl
    ·show (some _:Option D)=_
     rw[zM hnew]
     rfl
   rw[this]at hf
   cases hf
def nG(m:Nat):List Int:=(D2 (m-1)).map fun i:Nat=>(1:Int)+(i:Int)
B5 aB1{P R:Nat}{cM:List (List Int)}{aZ ord:List Int}(hP:0<P)(hP8:P≤8)(hR:0<R)(hR8:R≤8)(hc:Chain cM ord)(hb:∀x∈ord,1≤x∧x<(P*R:Nat))(hn:ord.Nodup)(hl:ord.length≤64) :
    qF [bJ (bG P R cM aZ)]=some (aJ ((nG (P*R)).filter fun i=>!decide (i∈ord))):=by
  have aB2:P*R≤8*8:=P7 hP8 hR8
  have hm0:0<P*R:=W5 hP hR
  have hstr:=Wi (aZ:=aZ) hP hP8 hR hc hb hn hl
  have aB3:nW [bJ (bG P R cM aZ)]=some (.int ((P*R:Nat):Int)):=by
    &oW rfl ?_
    B4 Eh
    apply fY
    have hls:=Js (bG P R cM aZ)
    rw[yV]at hls
    have h0:(bG P R cM aZ)[0]?=some _:=BW (p:=0) hP
    have hix:fJ (bJ (bG P R cM aZ)) (.int 0)=some (fU _):=Rg (k:=0) h0
    have hlp:=Ho (((D2 R).map fun r=>cM.getD (0+P*r) [])++[[aZ.getD 0 0]])
    rw[BX (E4 h0)]at hlp
    rw[V9]
    have e:(R:Int)=((R+1:Nat):Int)-1:=by omega
    rw[e]
    ~aK (fG (aA rfl rfl) hls) (aK (fG (aA (aK rfl rfl hix) rfl) hlp) rfl (lM _ _)) (fQ (Dz A6 A6))
  suffices h:∃d,qF [bJ (bG P R cM aZ)]=some d∧d=aJ ((nG (P*R)).filter fun i=>!decide (i∈ord)) by
    B3⟨d,h1,rfl⟩:=h
    ~h1
  &sW rfl ?_
  B4 Ke
  walk_at "q"
  generalize P*R=m at *
  have e:iJ (0+1) ((m:Int)-(0+1)).toNat=(nG m).map D.int:=by
    B4 iJ nG
    rw[K4,show ((m:Int)-(0+1)).toNat=m-1 by omega]
    rfl
  &uV (d:=aJ ((nG m).filter fun i=>!decide (i∈ord))) ?_ ⟨_,rfl,rfl⟩
  &(zK (ys:=((iJ (0+1) ((m:Int)-(0+1)).toNat).filter fun d=>match d with | .int i=>!decide (i∈ord) | _=>false).map id) (aBl (i:=0+1) (j:=m) (aA (aK rfl rfl (bR _ _)) (aA (bW (aA rfl rfl) rfl aB3) rfl)) A8 A8 A6 A6) (by rw[wV];omega) ?_).trans ?_
  · &Gi (p:=fun d=>match d with | .int i=>!decide (i∈ord) | _=>false) (φ:=id) ?_ ?_
    · intro x hx
      B3⟨k,hk,rfl⟩:=Dy hx
      ~cJ (aK rfl rfl (zN true _ ord))
    · intro x hx _
      B3⟨k,hk,rfl⟩:=Dy hx
      ~bC rfl rfl
  · rw[List.map_id,e,o6]
    rfl
B5 ZL{i a b:Nat}{f f' g:FE}{env:EN}{s:List (List (List Int))}{q:List (List Int)}{t:List Int}(h1:env[i]?=some (.own (bJ s)))(h2:g (rE env)=some (.int (a:Int)))(h3:f (rE env)=some (.int (b:Int)))(h4:f' (rE env)=some (dTup t))(h5:s[a]?=some q)(h6:b<q.length) :
  vL i (dm cR g) f f' env=.next (env.set i (.own (bJ (s.set a (q.set b t))))):=by
 have hk:(s.map fU)[a]?=some (fU q):=by rw[C4,h5];rfl
 have hp:dm cR g (rE env)=some [.ix a]:=by
  B4 dm cR
  rw[B9,h2,B9]
  dsimp only
  rw[if_pos A6,C8]
  rfl
 have hget:eV [.ix a] (bJ s)=some (.lst (q.map dTup)):=by
  show ((s.map fU)[a]?).bind (eV [])=_
  rw[hk]
  rfl
 have aJW:∀d:List D,eO [.ix a] (bJ s) (.lst d)=.lst ((s.map fU).set a (.lst d)):=fun d=>by
  show (match (s.map fU)[a]? with | some c=>_ | none=>_)=_
  rw[hk]
  rfl
 have hix:QW (q.map dTup).length (b:Int)=some b:=by
  B4 QW
  rw[if_pos A6,if_pos (by rw[B7];omega),C8]
 B4 vL
 rw[h1,hp,h3,h4]
 dsimp only
 rw[hget]
 dsimp only
 rw[hix]
 dsimp only
 rw[aJW,←Y7]
 show SR.next (env.set i (.own (.lst ((s.map fU).set a (fU (q.set b t))))))=_
 rw[←Y7]
 rfl
B5 aB4(ns:List Int):∃P R:Nat,vQ [aJ ns]=some (.tup [.int P,.int R])∧1≤P∧P≤8∧1≤R∧R≤8:=by
 suffices hh:∃d,vQ [aJ ns]=some d∧∃P R:Nat,d=.tup [.int P,.int R]∧1≤P∧P≤8∧1≤R∧R≤8 by
  B3⟨d,e,P,R,rfl,q⟩:=hh
  ~⟨P,R,e,q⟩
 &sW rfl ?_
 B4 Vw
 have hcell:=Rc ns 0
 generalize ns.getD 0 0=c at hcell
 have aGX:lO [aJ ns,.int 0]=some (.int c):=hcell
 &cL (d:=.int c) (bW (aA rfl (aA rfl rfl)) rfl aGX) A9 ?_
 have nn:∀{a m:Int},0<m→m≤8→∃P:Nat,1+a%m=(P:Int)∧1≤P∧P≤8:=fun{a m} h h2=>by
  have h0:=F6 a (show m≠0 by omega)
  have h1:=F9 a h
  ~⟨(1+a%m).toNat,by omega,by omega,by omega⟩
 &Yt (cJ (aK (aK (aK rfl rfl (dX A8 A8)) rfl (bF A8)) rfl (nM _ _))) (fun _=>?_) fun _=>Le ?_
 ·B3⟨P,e1,p1,p2⟩:=nn (a:=c) (m:=8) A8 A8
  B3⟨R,e2,r1,r2⟩:=nn (a:=c/240) (m:=8) A8 A8
  ~KZ ((nO (aA (aK rfl (aK rfl rfl (bF A8)) (bR _ _)) (aA (aK rfl (aK (aK rfl rfl (dX A8 A8)) rfl (bF A8)) (bR _ _)) rfl)) A9).trans (by rw[e1,e2])) ⟨_,rfl,P,R,rfl,p1,p2,r1,r2⟩
 ·B3⟨P,e1,p1,p2⟩:=nn (a:=c) (m:=5) A8 A8
  B3⟨R,e2,r1,r2⟩:=nn (a:=c/5) (m:=6) A8 A8
  ~uV ((nO (aA (aK rfl (aK rfl rfl (bF A8)) (bR _ _)) (aA (aK rfl (aK (aK rfl rfl (dX A8 A8)) rfl (bF A8)) (bR _ _)) rfl)) A9).trans (by rw[e1,e2])) ⟨_,rfl,P,R,rfl,p1,p2,r1,r2⟩
B5 Al(c:Int){k:Int}(h0:0≤k)(h1:k≤100000):∃m:Int,lA [.int c,.int k]=some (.int m)∧0≤m∧m<2147483587:=by
 suffices hh:∃d,lA [.int c,.int k]=some d∧∃m:Int,d=.int m∧0≤m∧m<2147483587 by
  B3⟨d,e,m,rfl,q⟩:=hh
  ~⟨m,e,q⟩
 &sW rfl ?_
 B4 Vx
 have a0:=F6 c (show (2147483629:Int)≠0 by decide)
 have a1:=F9 c (show (0:Int)<2147483629 by decide)
 &cL (aK (aK (aK (aK rfl rfl (bF A8)) rfl (bR _ _)) (aK rfl (aK (aK rfl rfl (fQ (Dz A8 A8))) rfl (fQ (Dz A6 A6))) (bR _ _)) (fQ (Dz A6 A6))) rfl (bF A8)) A9 ?_
 generalize hn:(c%2147483629+1)*(48271+2*k*k)%2147483629=n
 have n0:0≤n:=by rw[←hn];~F6 _ A8
 have n1:n<2147483629:=by rw[←hn];~F9 _ A8
 ~uV (aK (aK rfl rfl (fQ (Dz A6 A6))) rfl (bF A8)) ⟨_,rfl,_,rfl,F6 _ A8,F9 _ A8⟩
B5 Rh(c:Int){k:Int}(key f:Int)(h0:0≤k)(h1:k≤1000):∃a b e:Int,pL [.int c,.int k,.int key,.int f]=some (dTup [key,f,a,b,e]):=by
 suffices hh:∃d,pL [.int c,.int k,.int key,.int f]=some d∧∃a b e:Int,d=dTup [key,f,a,b,e] by
  B3⟨d,q,a,b,e,rfl⟩:=hh
  ~⟨a,b,e,q⟩
 &sW rfl ?_
 B4 Qf
 B3⟨p,hp,p0,p1⟩:=Al c (k:=5*k) A6 A6
 B3⟨m,hm,m0,m1⟩:=Al c (k:=5*k+1) A6 A6
 have pick:∀(l:List Int)(k:Int),0≤k→k<(l.length:Int)→∃y,fJ (aJ l) (.int k)=some (.int y):=fun l k a b=>⟨_,iY a b⟩
 B3⟨now,aJX⟩:=pick [0,1,2,m*10 ^ (40:Int).toNat,-1] (p%5) (F6 _ A8) (F9 _ A8)
 B3⟨was,aJY⟩:=pick [-1,0,5,p] (p/90%4) (F6 _ A8) (F9 _ A8)
 &cL (d:=.int p) (bW (aA rfl (aA (aK rfl rfl (fQ (Dz A8 A8))) rfl)) rfl hp) A9 ?_
 &cL (d:=.int now) (bC (aK (gH (aA rfl (aA rfl (aA rfl (aA (aK (bW (aA rfl (aA (aK (aK rfl rfl (fQ (Dz A8 A8))) rfl (bR _ _)) rfl)) rfl hm) (aK rfl rfl (nD ⟨by decide,by decide,by decide⟩)) (fQ (Dz A6 A6))) (aA (uC rfl) rfl))))) A9) (aK rfl rfl (bF A8)) aJX) rfl) A9 ?_
 &cL (d:=.int 0) rfl A9 ?_
 have fin:∀fV:Int,Qs (fun r=>∃d,r=.ret d∧∃a b e:Int,d=dTup [key,f,a,b,e]) (aW (qP (fB (f2 Ls (aD 6) (fC (.int 0)))) (cV 5 (fL aDD (aB (aD 5) aO))) fX) (gB (vI (aB (cN (aD 2)) (aB (cN (aD 3)) (aB (cN (f2 fJ (lX (aB (Dq (fC (.int 1))) (aB (fC (.int 0)) (aB (fC (.int 5)) (aB (aD 4) aO))))) (f2 fO (f2 sO (aD 4) (fC (.int 90))) (fC (.int 4))))) (aB (cN (aD 5)) (aB (cN (aD 6)) aO))))))) [.fro (.int c),.fro (.int k),.fro (.int key),.fro (.int f),.own (.int p),.own (.int now),.own (.int fV)]):=fun fV=>by
  have last:∀b:Int,Qs (fun r=>∃d,r=.ret d∧∃a b e:Int,d=dTup [key,f,a,b,e]) (gB (vI (aB (cN (aD 2)) (aB (cN (aD 3)) (aB (cN (f2 fJ (lX (aB (Dq (fC (.int 1))) (aB (fC (.int 0)) (aB (fC (.int 5)) (aB (aD 4) aO))))) (f2 fO (f2 sO (aD 4) (fC (.int 90))) (fC (.int 4))))) (aB (cN (aD 5)) (aB (cN (aD 6)) aO)))))) [.fro (.int c),.fro (.int k),.fro (.int key),.fro (.int f),.own (.int p),.own (.int b),.own (.int fV)]):=fun b=>uV (nO (aA (bC rfl rfl) (aA (bC rfl rfl) (aA (bC (aK (gH (aA (uC rfl) (aA rfl (aA rfl (aA rfl rfl)))) A9) (aK (aK rfl rfl (dX A8 A8)) rfl (bF A8)) aJY) rfl) (aA (bC rfl rfl) (aA (bC rfl rfl) rfl))))) A9) ⟨_,rfl,_,_,_,rfl⟩
  &Yt (cJ (aK rfl rfl (nM _ _))) (fun _=>?_) fun _=>Le (last now)
  ~aBs (wR (d:=.int (if now<0 then -now else now)) (fG (aA rfl rfl) rfl) A9) (last _)
 &Yt (cJ (aK (aK (aK rfl rfl (dX A8 A8)) rfl (bF A8)) rfl (nM _ _))) (fun _=>?_) fun _=>Le (fin 0)
 ~aBs (wR (aK rfl (aK (aK rfl rfl (dX A8 A8)) rfl (bF A8)) (bR _ _)) A9) (fin _)
def Cp(P R:Nat)(rs:List (List Int)):List (List (List Int)):=(D2 P).map fun p=>(D2 R).map fun r=>rs.getD (p+P*r) []
B5 Jt{P R:Nat}{rs:List (List Int)}{p:Nat}(h:p<P):(Cp P R rs)[p]?=some ((D2 R).map fun r=>rs.getD (p+P*r) []):=by
 B4 Cp
 rw[C4,G8 h]
 rfl
B5 aB5{P x:Nat}{p r:Nat}(hp:p<P)(h:p+P*r=x):x%P=p∧x/P=r:=by
 subst h
 ~⟨by rw[Nat.add_mul_mod_self_left,Nat.mod_eq_of_lt hp],by rw[Nat.add_mul_div_left _ _ A6,Nat.div_eq_of_lt hp,P0]⟩
B5 aB6{P R x:Nat}{rs:List (List Int)}{t:List Int}(hP:0<P)(h:x<P*R)(hl:rs.length=P*R):(Cp P R rs).set (x%P) (((D2 R).map fun r=>rs.getD (x%P+P*r) []).set (x/P) t)=Cp P R (rs.set x t):=by
 have a:=T2 x hP
 have b:x/P<R:=V8 h
 apply K5
 intro p
 rw[G4,show (Cp P R rs).length=P by B4 Cp;rw[B7,E3]]
 by_cases hp:p<P
 ·rw[Jt hp,Jt hp]
  by_cases e:x%P=p
  ·rw[if_pos e,if_pos a]
   congr 1
   apply K5
   intro r
   rw[G4,B7,E3,C4,C4]
   by_cases hr:r<R
   ·rw[G8 hr,G7,G7,qL _ _ _ _ _ A6]
    by_cases e2:x/P=r
    ·rw[if_pos e2,if_pos b,if_pos (by rw[←e,←e2];~(o0 x P).symm)]
    ·rw[if_neg e2,if_neg fun z=>e2 (aB5 hp z.symm).2,e]
   ·rw[E1 (by rw[E3];omega)]
    rw[if_neg A6]
    rfl
  ·rw[if_neg e]
   congr 1
   apply R9
   intro r hr
   have:=aBW hp (F5.mp hr)
   rw[qL _ _ _ _ _ A6,if_neg fun z=>e (aB5 hp z.symm).1]
 ·rw[if_neg A6]
  B4 Cp
  rw[C4,C4,E1 (by rw[E3];omega)]
  rfl
B5 QL{i P R x:Nat}{f f' g:FE}{env:EN}{rs:List (List Int)}{t:List Int}(hP:0<P)(h:x<P*R)(hl:rs.length=P*R)(h1:env[i]?=some (.own (bJ (Cp P R rs))))(h2:g (rE env)=some (.int ((x:Int)%(P:Int))))(h3:f (rE env)=some (.int ((x:Int)/(P:Int))))(h4:f' (rE env)=some (dTup t)) :
  vL i (dm cR g) f f' env=.next (env.set i (.own (bJ (Cp P R (rs.set x t))))):=by
 rw[←Y8]at h2
 rw[←Y9]at h3
 rw[ZL (a:=x%P) (b:=x/P) h1 h2 h3 h4 (Jt (T2 x hP)) (by rw[B7,E3];~V8 h),aB6 hP h hl]
structure Built(P R:Nat)(rs:List (List Int))(od:List Int):Prop where
 p1:1≤P
 p8:P≤8
 r1:1≤R
 r8:R≤8
 len:rs.length=P*R
 five:∀k,k<P*R→(rs.getD k []).length=5
 Tp:od.Nodup
 Cj:∀x∈od,1≤x∧x<(P*R:Nat)
 chain:Chain rs od
 key:od.Pairwise fun x y=>(rs.getD x.toNat []).getD 0 0<(rs.getD y.toNat []).getD 0 0
B5 aB7{ns:List Int}:∃(P R:Nat)(rs:List (List Int))(aZ od:List Int),vU [aJ ns]=some (bJ (bG P R rs aZ))∧Built P R rs od:=by
 suffices hh:∃d,vU [aJ ns]=some d∧∃(P R:Nat)(rs:List (List Int))(aZ od:List Int),d=bJ (bG P R rs aZ)∧Built P R rs od by
  B3⟨d,e,P,R,rs,aZ,od,rfl,q⟩:=hh
  ~⟨P,R,rs,aZ,od,e,q⟩
 &sW rfl ?_
 B4 Vy
 B3⟨P,R,hsz,p1,p8,r1,r8⟩:=aB4 ns
 have hm0:0<P*R:=W5 p1 r1
 have aB2:P*R≤8*8:=P7 p8 r8
 have hPR:((P:Int)*(R:Int))=((P*R:Nat):Int):=(V9 P R).symm
 generalize hM:P*R=M at *
 have hP0:(0:Int)<P:=by omega
 have hP9:(P:Int)<1073741824:=by omega
 have hmul:∀{env:EN},(rE env)[1]?=some (some (.int (P:Int)))→(rE env)[2]?=some (some (.int (R:Int)))→f2 tR (aD 1) (aD 2) (rE env)=some (.int (M:Int)):=fun h1 h2=>(aK (pW h1) (pW h2) (fQ (Dz A6 A6))).trans (by rw[hPR])
 &aIr (ds:=[.int P,.int R]) (bW (aA rfl rfl) rfl hsz) rfl rfl ?_
 have hsp:fL Ge (aB (fC (.int 1)) (aB (f2 tR (aD 1) (aD 2)) aO)) (rE (oU ([aJ ns].map SD.fro++E7 (11-1) SD.no) [1,2] [.int P,.int R]))=some (aJ (nG M)):=by
  &(fG (aA rfl (aA (hmul rfl rfl) rfl)) (show Ge [.int 1,.int (M:Int)]=some _ from if_pos ⟨by decide,by decide,by omega,by omega⟩)).trans ?_
  B4 aJ nG
  rw[K4,show ((M:Int)-1).toNat=M-1 by omega]
  rfl
 &cL hsp A9 ?_
 &cL (d:=aJ [0]) rfl A9 ?_
 have hc1:lO [aJ ns,.int 1]=some (.int (ns.getD 1 0)):=Rc ns 1
 have hc2:lO [aJ ns,.int 2]=some (.int (ns.getD 2 0)):=Rc ns 2
 generalize ns.getD 1 0=c1 at hc1
 generalize ns.getD 2 0=c at hc2
 have b0:=F6 c1 (show (M:Int)≠0 by omega)
 have b1:=F9 c1 (show 0<(M:Int) by omega)
 &Yu (n:=(c1%(M:Int)).toNat) (fun k env=>∃(sp bs:List Int)(v:SD),env=[.fro (aJ ns),.own (.int P),.own (.int R),.own (aJ sp),.own (aJ (0::bs)),v,.no,.no,.no,.no,.no]∧bs.length=k∧(bs++sp).Perm (nG M)) (KJ (aA (aK (bW (aA rfl (aA rfl rfl)) rfl hc1) (hmul rfl rfl) (bF A6)) rfl) A6 A6) ⟨nG M,[],_,rfl,rfl,T1 _⟩ ?_ ?_
 ·rintro k env hk ⟨sp,bs,v,rfl,hb,hp⟩
  &⟨by walk_at "lt", ?_⟩
  have hlen:=hp.length_eq
  rw[C7,hb,show (nG M).length=M-1 by B4 nG;rw[B7,E3]]at hlen
  B3⟨m,hm,_,_⟩:=Al c1 (k:=(k:Int)) A6 A6
  have i0:=F6 m (show (sp.length:Int)≠0 by omega)
  have i1:=F9 m (show 0<(sp.length:Int) by omega)
  &⟨_,Ys (ns:=0::bs) (ms:=sp) (k:=m%(sp.length:Int)) rfl rfl (aK (bW (aA (bW (aA rfl (aA rfl rfl)) rfl hc1) (aA rfl rfl)) rfl hm) (fG (aA rfl rfl) (pK _)) (bF A6)) A8 (by simp;omega) A6 i0 i1,sp.eraseIdx (m%(sp.length:Int)).toNat,bs++[sp.getD (m%(sp.length:Int)).toNat 0],_,rfl,by rw[C7,hb];rfl,?_⟩
  rw[O3]
  ~(d6 bs (Pq sp _ 0 A6)).trans hp
 rintro env ⟨sp,bs,v5,rfl,hb,hp⟩
 have hnd:(bs++sp).Nodup:=hp.nodup_iff.mpr (by
  B4 nG
  &k8 _ (fun a b (h:a≠b)=>by omega) l8)
 have hmem:∀x,x∈bs++sp→1≤x∧x<(M:Int):=fun x hx=>by
  have:=hp.mem_iff.mp hx
  B4 nG at this
  B3⟨i,hi,rfl⟩:=G5.mp this
  have:=F5.mp hi
  omega
 have hbn:=(P4.mp hnd).1
 have hbm:∀x∈bs,1≤x∧x<(M:Int):=fun x hx=>hmem x (G6 _ hx)
 have hsm:∀x∈sp,1≤x∧x<(M:Int):=fun x hx=>hmem x (F0 _ hx)
 have aL3:sp.length≤M:=by
  have:=hp.length_eq
  rw[C7,show (nG M).length=M-1 by B4 nG;rw[B7,E3]]at this
  omega
 have hbl:bs.length<M:=by omega
 generalize aGZ:E7 M ([0,0,-1,-1,0]:List Int)=rs0
 have hl0:rs0.length=M:=by rw[←aGZ,R0]
 have aIB:jG (rC (aB (aD 1) aO)) [2] nY (jG (rC (aB (aD 1) aO)) [] nY (vI (aB (fC (.int 0)) (aB (fC (.int 0)) (aB (Dq (fC (.int 1))) (aB (Dq (fC (.int 1))) (aB (fC (.int 0)) aO))))))) (rE [.fro (aJ ns),.own (.int P),.own (.int R),.own (aJ sp),.own (aJ (0::bs)),v5,.no,.no,.no,.no,.no])=some (bJ (Cp P R rs0)):=by
  &(Eb (n:=P) (φ:=fun p=>fU ((D2 R).map fun r=>rs0.getD (p+P*r) [])) (Bj (aA rfl rfl) A6) A6 fun p hp=>?_).trans ?_
  ·&(Eb (n:=R) (φ:=fun r=>dTup (rs0.getD (p+P*r) [])) (Bj (aA rfl rfl) A6) A6 fun r hr=>?_).trans ?_
   ·have:=aBW hp hr
    rw[←aGZ,B8,Q6,if_pos A6]
    ~nO (aA rfl (aA rfl (aA (uC rfl) (aA (uC rfl) (aA rfl rfl))))) A9
   ·B4 fU
    rw[K4]
    rfl
  ·show _=some (D.lst ((Cp P R rs0).map fU))
   B4 Cp
   rw[K4]
   rfl
 &cL aIB A9 ?_
 &cL (d:=.int c) (bW (aA rfl (aA rfl rfl)) rfl hc2) A9 ?_
 have p9:(0:Int)<10 ^ (9:Int).toNat:=Q8 A8
 have p58:(0:Int)<10 ^ (58:Int).toNat:=Q8 A8
 have hpw:∀n:Int,0≤n→n<100→Bw (.int 10) (.int n)=some (.int (10 ^ n.toNat)):=fun n a b=>nD ⟨a,by omega,by omega⟩
 have f5:∀{l:List (List Int)} {x:Nat} {t:List Int},l.length=M→x<M→t.length=5→(∀k,k<M→(l.getD k []).length=5)→∀k,k<M→((l.set x t).getD k []).length=5:=fun{l x t} h1 h2 h3 h4 k hk=>by
  rw[qL _ _ _ _ _ A6]
  split
  ·~h3
  ·~h4 k hk
 &je (xs:=sp.map D.int) (fun k env=>∃(rs:List (List Int))(v:SD),env=[.fro (aJ ns),.own (.int P),.own (.int R),.fro (aJ sp),.own (aJ (0::bs)),v5,.own (bJ (Cp P R rs)),.own (.int c),v,.no,.no]∧rs.length=M∧∀k,k<M→(rs.getD k []).length=5) rfl (kO rfl) ⟨rs0,_,rfl,hl0,fun k hk=>by rw[←aGZ,B8,Q6,if_pos hk];rfl⟩ ?_ ?_
 ·rintro k x env hx ⟨rs,v,rfl,hl,h5⟩
  &⟨by walk_at "lt", ?_⟩
  rw[C4]at hx
  B3⟨y,hy,rfl⟩:=lJ hx
  have ym:=hsm y (E4 hy)
  B3⟨a,b,e,hrec⟩:=Rh c (k:=y) (c%10 ^ (9:Int).toNat) (y*y%(M:Int)) A6 A6
  have ye:((y.toNat:Nat):Int)=y:=by omega
  &⟨_,QL (x:=y.toNat) (t:=[c%10 ^ (9:Int).toNat,y*y%(M:Int),a,b,e]) p1 (by rw[hM];omega) (by rw[hM];~hl) rfl (by rw[ye];~aK rfl rfl (bF hP0)) (by rw[ye];~aK rfl rfl (dX hP0 hP9)) (bW (aA rfl (aA rfl (aA (aK rfl (aK rfl rfl (hpw 9 A8 A8)) (bF p9)) (aA (aK (aK rfl rfl (fQ (Dz A6 A6))) (hmul rfl rfl) (bF A6)) rfl)))) rfl hrec),_,_,rfl,by rw[K2];~hl,f5 hl A6 rfl h5⟩
 rintro env ⟨rs1,v8,rfl,hl1,h51⟩
 &cL (d:=.int (c%10 ^ (58:Int).toNat)) (aK rfl (aK rfl rfl (hpw 58 A8 A8)) (bF p58)) A9 ?_
 have hb0:∀i,i<bs.length+1→0≤(0::bs).getD i 0∧(0::bs).getD i 0<(M:Int):=fun i hi=>by
  have:=getD_mem (l:=0::bs) (k:=i) (by simp;omega)
  rcases C5.mp this with z | z
  ·rw[z];omega
  ·have:=hbm _ z;omega
 have aG0:(0::bs).Nodup:=E8.mpr ⟨fun z=>by have:=hbm 0 z;omega,hbn⟩
 &Yu (n:=bs.length+1) (fun k env=>∃(rs:List (List Int))(key:Int)(v5 v8:SD),env=[.fro (aJ ns),.own (.int P),.own (.int R),.fro (aJ sp),.own (aJ (0::bs)),v5,.own (bJ (Cp P R rs)),.own (.int c),v8,.own (.int key),.no]∧rs.length=M∧(∀k,k<M→(rs.getD k []).length=5) ∧
   (∀i,i<k→∃y was now fV:Int,rs[((0::bs).getD i 0).toNat]?=some [y,(bs++[0]).getD i 0,was,now,fV]∧y<key)∧(∀i j,i<j→j<k→(rs.getD ((0::bs).getD i 0).toNat []).getD 0 0<(rs.getD ((0::bs).getD j 0).toNat []).getD 0 0)) (Bj (aA ((fG (aA rfl rfl) (pK _)).trans rfl) rfl) A6) ⟨rs1,_,_,_,rfl,hl1,h51,fun i hi=>absurd hi (I0 _),fun i j _ hj=>absurd hj (I0 _)⟩ ?_ ?_
 ·rintro k env hk ⟨rs,key,w5,w8,rfl,hl,h5,hch,hke⟩
  &⟨by walk_at "lt", ?_⟩
  B3⟨x0,x1⟩:=hb0 k hk
  generalize hx:(0::bs).getD k 0=x at *
  have xe:((x.toNat:Nat):Int)=x:=by omega
  have ix:fJ (aJ (0::bs)) (.int (k:Int))=some (.int x):=(iY A6 (by simp;omega)).trans (by rw[C8,hx])
  have ixn:fJ (aJ ((0::bs)++[0])) (.int ((k:Int)+1))=some (.int ((bs++[0]).getD k 0)):=(iY A6 (by simp;omega)).trans (by rw[show ((k:Int)+1).toNat=k+1 by omega];rfl)
  B3⟨a,b,e,hrec⟩:=Rh c (k:=(k:Int)+100) key ((bs++[0]).getD k 0) A6 A6
  B3⟨m,hm,m0,m1⟩:=Al c (k:=(k:Int)+7) A6 A6
  &cL (d:=.int x) (bC (aK rfl rfl ix) rfl) A9 ?_
  &aBs (QL (x:=x.toNat) (t:=[key,(bs++[0]).getD k 0,a,b,e]) p1 (by rw[hM];omega) (by rw[hM];~hl) rfl (by rw[xe];~aK rfl rfl (bF hP0)) (by rw[xe];~aK rfl rfl (dX hP0 hP9)) (bW (aA rfl (aA (aK rfl rfl (bR _ _)) (aA rfl (aA (aK (aK rfl (gH (aA rfl rfl) A9) (sX (0::bs) [0] (by simp;omega))) (aK rfl rfl (bR _ _)) ixn) rfl)))) rfl hrec)) ?_
  have c20:=F6 c (show (2:Int)≠0 by decide)
  have c21:=F9 c (show (0:Int)<2 by decide)
  have pos:∃z:Int,0≤z∧fJ (aJ [1,10 ^ (40:Int).toNat]) (.int (c%2))=some (.int z):=by
   rcases(show c%2=0∨c%2=1 by omega)with z | z
   ·~⟨1,by decide,by rw[z];rfl⟩
   ·~⟨10 ^ (40:Int).toNat,N0 (Q8 A8),by rw[z];rfl⟩
  B3⟨z,z0,hz⟩:=pos
  have mm:=F6 m (show (3:Int)≠0 by decide)
  have mm1:=F9 m (show (0:Int)<3 by decide)
  have hst:0≤m%3*z:=r6 mm z0
  &aBr (d:=.int (key+1+m%3*z)) (aK (aK rfl rfl (bR _ _)) (aK (aK (bW (aA rfl (aA (aK rfl rfl (bR _ _)) rfl)) rfl hm) rfl (bF A8)) (aK (gH (aA rfl (aA (aK rfl rfl (hpw 40 A8 A8)) rfl)) A9) (aK rfl rfl (bF A8)) hz) (fQ (Dz A6 A6))) (bR _ _)) A9 ⟨_,rfl,_,_,_,_,rfl,by rw[K2];~hl,f5 hl A6 rfl h5,?_,?_⟩
  ·intro i hi
   rcases J2 i k with q | q
   ·B3⟨y,was,now,fV,h1,h2⟩:=hch i q
    have hi0:=hb0 i A6
    have ne:(0::bs).getD i 0≠x:=by rw[←hx];~Ai aG0 (by simp;omega) (by simp;omega) A6
    ~⟨y,was,now,fV,by rw[U9 A6];~h1,by omega⟩
   ·have:i=k:=by omega
    subst this
    rw[hx]
    ~⟨key,a,b,e,by rw[J3 A6],by omega⟩
  ·intro i j hij hj
   have hi0:=hb0 i A6
   have nei:(0::bs).getD i 0≠x:=by rw[←hx];~Ai aG0 (by simp;omega) (by simp;omega) A6
   rw[qL _ _ _ _ _ A6,if_neg A6]
   rcases J2 j k with q | q
   ·have hj0:=hb0 j A6
    have nej:(0::bs).getD j 0≠x:=by rw[←hx];~Ai aG0 (by simp;omega) (by simp;omega) A6
    rw[qL _ _ _ _ _ A6,if_neg A6]
    ~hke i j hij q
   ·have:j=k:=by omega
    subst this
    rw[hx,qL _ _ _ _ _ A6,if_pos rfl]
    B3⟨y,was,now,fV,h1,h2⟩:=hch i hij
    rw[jW h1]
    ~h2
 rintro env ⟨rs,key,w5,w8,rfl,hl,h5,hch,hke⟩
 &Yu (n:=P) (fun k env=>∃(se:List Int)(v:SD),env=[.fro (aJ ns),.own (.int P),.own (.int R),.fro (aJ sp),.own (aJ (0::bs)),w5,.own (bJ ((D2 P).map fun p=>((D2 R).map fun r=>rs.getD (p+P*r) [])++(if p<k then [[se.getD p 0]]else []))),.own (.int c),w8,.own (.int key),v]∧se.length=k) (Bj (aA rfl rfl) A6) ⟨[],_,by
   have:(D2 P).map (fun p=>((D2 R).map fun r=>rs.getD (p+P*r) [])++(if p<0 then [[([]:List Int).getD p 0]]else []))=Cp P R rs:=by
    B4 Cp
    apply R9
    intro p _
    rw[if_neg (I0 _),F2]
   rw[this],rfl⟩ ?_ ?_
 ·rintro k env hk ⟨se,v,rfl,hse⟩
  &⟨by walk_at "lt", ?_⟩
  B3⟨m,hm,_,_⟩:=Al c (k:=(k:Int)+70) A6 A6
  generalize hS:((D2 P).map fun p=>((D2 R).map fun r=>rs.getD (p+P*r) [])++(if p<k then [[se.getD p 0]]else []))=S
  have hk2:S[k]?=some ((D2 R).map fun r=>rs.getD (k+P*r) []):=by
   rw[←hS,C4,G8 hk,G7,if_neg (L7 _),F2]
  have hgp:eV [.ix k] (bJ S)=some (.lst (((D2 R).map fun r=>rs.getD (k+P*r) []).map dTup)):=YJ (by rw[C4,hk2];rfl)
  &⟨_,Qc (p:=[.ix k]) (d:=dTup [m%10]) rfl (by
   show dm cR (aD 10) _=_
   rw[aBI (k:=(k:Int)) rfl rfl A6,C8]
   rfl) hgp (nO (aA (aK (bW (aA rfl (aA (aK rfl rfl (bR _ _)) rfl)) rfl hm) rfl (bF A8)) rfl) A9) (by rw[B7,B7,E3];omega),se++[m%10],.fro (.int k),?_,by rw[C7,hse];rfl⟩
  rw[show eO [.ix k] (bJ S) (.lst (((D2 R).map fun r=>rs.getD (k+P*r) []).map dTup++[dTup [m%10]]))=bJ ((D2 P).map fun p=>((D2 R).map fun r=>rs.getD (p+P*r) [])++(if p<k+1 then [[(se++[m%10]).getD p 0]]else []))from ?_]
  ·rfl
  &(YK (y:=fU _) (by rw[C4,hk2];rfl)).trans ?_
  &congrArg D.lst (?_:(S.map fU).set k _=_)
  apply K5
  intro p
  rw[G4,B7,←hS,B7,E3,C4,C4,C4,C4]
  by_cases hp:p<P
  ·rw[G8 hp]
   by_cases e:k=p
   ·subst e
    rw[if_pos rfl,if_pos hp,G7,G7,if_pos A6,B8,M0 A6,hse,Z0]
    B4 fU
    rw[J0]
    rfl
   ·rw[if_neg e,G7,G7,G7,G7]
    by_cases q:p<k
    ·rw[if_pos q,if_pos A6,B8,B8,G3 A6]
    ·rw[if_neg q,if_neg A6]
  ·rw[if_neg A6,E1 (by rw[E3];omega)]
   rfl
 rintro env ⟨se,v,rfl,hse⟩
 &aBv rfl ⟨_,rfl,P,R,rs,se,bs,?_,⟨p1,p8,r1,r8,by rw[hM];~hl,by rw[hM];~h5,hbn,by rw[hM];~hbm,?_,?_⟩⟩
 ·&congrArg iK ?_
  B4 bG
  apply R9
  intro p hp
  rw[if_pos (F5.mp hp)]
 ·intro k hk
  B3⟨y,was,now,fV,h1,_⟩:=hch k A6
  ~⟨y,was,now,fV,h1⟩
 ·rw[K6]
  intro i j hi hj hij
  have:=hke (i+1) (j+1) A6 A6
  have ei:(0::bs).getD (i+1) 0=bs[i]:=by rw[W3,B8,B6 hi];rfl
  have ej:(0::bs).getD (j+1) 0=bs[j]:=by rw[W3,B8,B6 hj];rfl
  rw[ei,ej]at this
  ~this
B5 aD1{P R:Nat}{cM:List (List Int)}{aZ:List Int}(hP:0<P)(hP8:P≤8):nW [bJ (bG P R cM aZ)]=some (.int ((P*R:Nat):Int)):=by
 &oW rfl ?_
 B4 Eh
 apply fY
 have hls:=Js (bG P R cM aZ)
 rw[yV]at hls
 have h0:(bG P R cM aZ)[0]?=some _:=BW (p:=0) hP
 have hix:fJ (bJ (bG P R cM aZ)) (.int 0)=some (fU _):=Rg (k:=0) h0
 have hlp:=Ho (((D2 R).map fun r=>cM.getD (0+P*r) [])++[[aZ.getD 0 0]])
 rw[BX (E4 h0)]at hlp
 rw[V9]
 have e:(R:Int)=((R+1:Nat):Int)-1:=by omega
 rw[e]
 ~aK (fG (aA rfl rfl) hls) (aK (fG (aA (aK rfl rfl hix) rfl) hlp) rfl (lM _ _)) (fQ (Dz A6 A6))
def Wb.first(P R:Nat)(rs:List (List Int))(aZ od:List Int):Wb:=⟨⟨bG P R rs aZ,[],[],[],[]⟩,rs,od,(nG (P*R)).filter fun i=>!decide (i∈od),⟨[],[]⟩,⟨[],[]⟩,⟨[],[]⟩⟩
section
variable{P R:Nat}{rs:List (List Int)}{aZ od:List Int}
B5 Built.ok(h:Built P R rs od):mQ (Wb.first P R rs aZ od):=by
 have aB2:P*R≤8*8:=P7 h.p8 h.r8
 have hm0:0<P*R:=W5 h.p1 h.r1
 have hpl:(Wb.first P R rs aZ od).P=P:=yV _ _ _ _
 have box:∀k,k<P*R→∃q,(bG P R rs aZ)[k%P]?=some q∧q[k/P]?=some (rs.getD k []):=fun k hk=>BZ h.p1 hk
 have hb:∀k,k<rs.length→k<P*R:=fun k hk=>by rw[←h.len];~hk
 &⟨Ae.init (by rw[yV];~h.p8),by rw[hpl];~h.p1,?_,?_,?_,?_,?_,⟨rfl,D1 _⟩,⟨rfl,D1 _⟩,⟨rfl,D1 _⟩,nofun,nofun,h.Tp,?_,?_,?_,h.key,fun k hk=>absurd hk (I0 _)⟩
 ·intro k hk
  rw[hpl]
  B3⟨q,q1,q2⟩:=box k (hb k hk)
  show k/P<((bG P R rs aZ).getD (k%P) []).length
  rw[jW q1]
  ~(D4.mp q2).1
 ·show rs.length≤64
  rw[h.len]
  ~aB2
 ·show 0<rs.length
  rw[h.len]
  ~hm0
 ·intro k hk
  rw[hpl]
  B3⟨q,q1,q2⟩:=box k (hb k hk)
  &⟨?_,h.five k (hb k hk)⟩
  show rs.getD k []=((bG P R rs aZ).getD ((k%P:Nat):Int).toNat []).getD ((k/P:Nat):Int).toNat []
  rw[C8,C8,jW q1,jW q2]
 ·intro k hk
  rfl
 ·intro x hx
  show 1≤x∧x<(rs.length:Int)
  rw[h.len]
  ~h.Cj x hx
 ·&List.Nodup.sublist Q3 ?_
  B4 nG
  ~k8 _ (fun a b (h:a≠b)=>by omega) l8
 ·intro x
  show x∈(nG (P*R)).filter _↔1≤x∧x<(rs.length:Int)∧x∉od
  rw[h.len,K9]
  B4 nG
  rw[G5]
  constructor
  ·rintro⟨⟨i,hi,rfl⟩,z⟩
   have:=F5.mp hi
   ~⟨by omega,by omega,by simpa using z⟩
  ·rintro⟨z1,z2,z3⟩
   ~⟨⟨(x-1).toNat,F5.mpr A6,by omega⟩,by simpa using z3⟩
B5 Wj{Pr:SR→Prop}{v:V}{C:Addr}{nm:List Str}{ds:List D}{x:Str}{f:FE}{g:GS}{d:D}{rest:EN}(h:f (rE (.own (.ins C nm ds)::rest))=some d)(hx:posK nm x=none)(hl:nm.length<900)(k:Qs Pr (g (.inn v (.ins C (nm++[x]) (ds++[d]))::rest))):Qs Pr (aW (iW 0 (vM C 0 cR x f)) g (.inn v (.ins C nm ds)::rest)):=qD rfl (tL (p:=[]) rfl rfl rfl h hl hx) rfl k
B5 aG1{Pr:SR→Prop}{v:V}{C:Addr}{nm:List Str}{ds:List D}{x:Str}{f:FE}{d:D}{rest:EN}(h:f (rE (.own (.ins C nm ds)::rest))=some d)(hx:posK nm x=none)(hl:nm.length<900)(k:Pr (.next (.inn v (.ins C (nm++[x]) (ds++[d]))::rest))):Qs Pr (iW 0 (vM C 0 cR x f) (.inn v (.ins C nm ds)::rest)):=Qa rfl (tL (p:=[]) rfl rfl rfl h hl hx) rfl k
variable(κ:Nat→Addr)
B5 aB8(h:Built P R rs od):uF κ [.ins (κ 1) [] [],bJ (bG P R rs aZ)]=some (.non,lH κ (Wb.first P R rs aZ od)):=by
 &oX rfl fun v=>?_
 have aB2:P*R≤8*8:=P7 h.p8 h.r8
 have h64:od.length≤64:=by
  have:=kY (P*R) od h.Tp fun x hx=>by have:=h.Cj x hx;omega
  omega
 have hl:=yV P R rs aZ
 have aB3:=aD1 (R:=R) (cM:=rs) (aZ:=aZ) h.p1 h.p8
 have hbn:sZ κ [.ins (κ 0) [] [],bJ (bG P R rs aZ)]=_:=aDT κ (tO:=bG P R rs aZ) (by rw[hl];~h.p8)
 have hstr:=Wi (aZ:=aZ) h.p1 h.p8 h.r1 h.chain h.Cj h.Tp h64
 have hlo:=aB1 (aZ:=aZ) h.p1 h.p8 h.r1 h.r8 h.chain h.Cj h.Tp h64
 have hso:∀k:Nat,wX [bJ (bG P R rs aZ),.int (k:Int)]=some (dTup [((k%P:Nat):Int),((k/P:Nat):Int)]):=fun k=>(jr (by rw[hl];~h.p1) (by rw[hl];have:=h.p8;omega)).trans (by rw[hl,Y8,Y9])
 have hwv:lH κ (Wb.first P R rs aZ od)=.ins (κ 1) tW [cW (κ 0) ⟨bG P R rs aZ,[],[],[],[]⟩,YX P (P*R),aJ od,aJ ((nG (P*R)).filter fun i=>!decide (i∈od)),Lj ⟨[],[]⟩,Lj ⟨[],[]⟩,Lj ⟨[],[]⟩]:=by
  B4 lH Wb.P Wb.first
  dsimp only
  rw[hl,h.len]
 rw[hwv]
 clear hwv
 generalize bJ (bG P R rs aZ)=st at *
 generalize cW (κ 0) ⟨bG P R rs aZ,[],[],[],[]⟩=bd at *
 generalize ((nG (P*R)).filter fun i=>!decide (i∈od))=lo at *
 suffices hh:Qs (JH .non (.ins (κ 1) tW [bd,YX P (P*R),aJ od,aJ lo,Lj ⟨[],[]⟩,Lj ⟨[],[]⟩,Lj ⟨[],[]⟩]) v) (zQ κ [.inn v (.ins (κ 1) [] []),.fro st])from hh
 B4 zQ
 &Wj (d:=bd) (MF (aA rfl rfl) hbn) rfl A8 ?_
 &Wj (d:=YX P (P*R)) (Eb (n:=P*R) (Bj (aA (bW (aA rfl rfl) rfl aB3) rfl) A6) A6 fun k hk=>bW (aA rfl (aA rfl rfl)) rfl (hso k)) A7 A8 ?_
 &Wj (d:=aJ od) (bW (aA rfl rfl) rfl hstr) A7 A8 ?_
 &Wj (d:=aJ lo) (bW (aA rfl rfl) rfl hlo) A7 A8 ?_
 &Wj (d:=Lj ⟨[],[]⟩) rfl A7 A8 ?_
 &Wj (d:=Lj ⟨[],[]⟩) rfl A7 A8 ?_
 ~aG1 (d:=Lj ⟨[],[]⟩) rfl A7 A8 ⟨_,.inr ⟨rfl,rfl⟩,rfl⟩
end
B5 wy{b:Bn}(h:b.bD.length≤8):qH κ [cW (κ 0) b]=some (iK b.bD):=kZ rfl (fY (Iu (xs:=b.bD) (ψ:=fU) (φ:=fU) (kO (cQ rfl Bq)) A6 fun x _=>fG (aA rfl rfl) (sE (Gj fun d hd=>by
  B3⟨t,_,rfl⟩:=G5.mp hd
  ~lN t))))
B5 CG(l:List Int):RC (aJ l) (.lst [])=some (.bl (!decide (l=[]))):=Pz l []
def setAt(ps:List (List (List Int)))(c:jX):List (List (List Int)):=ps.set c.cA.toNat ((ps.getD c.cA.toNat []).set c.place.toNat c.thing)
def lay(st:List (List (List Int)))(cs:List jX)(l:List Int):List (List (List Int)):=l.foldl (fun ps k=>setAt ps (at_ cs k.toNat)) st
B5 aB9(st:List (List (List Int)))(cs:List jX)(l:List Int)(k:Int):lay st cs (l++[k])=setAt (lay st cs l) (at_ cs k.toNat):=by B4 lay;rw[T6];rfl
B5 aD2(st:List (List (List Int)))(cs:List jX)(l m:List Int):lay st cs (l++m)=lay (lay st cs l) cs m:=by B4 lay;rw[T6]
B5 Tr(r:List Int):∀b:Bn,(b.bV r).bD=lay b.bD b.asked r:=by
 induction r with
 | nil=>intro b;rfl
 | cons k r ih=>intro b;~(ih (b.strike k)).trans rfl
B5 aCa{st:List (List (List Int))}{cs:List jX}{c:jX}{l:List Int}(h:∀x∈l,0≤x∧x<(cs.length:Int)):lay st (cs++[c]) l=lay st cs l:=by
 B4 lay
 induction l generalizing st with
 | nil=>rfl
 | cons k l ih=>
  have hk:=h k C9
  rw[o7,o7,gZ (show k.toNat<cs.length by omega)]
  ~ih fun x hx=>h x (C6 _ hx)
def Shape(a b:List (List (List Int))):Prop:=a.length=b.length∧∀p:Nat,(a.getD p []).length=(b.getD p []).length
B5 Ri{α:Type}(l:List α)(i j:Nat)(x d:α):(l.set i x).getD j d=if i=j∧i<l.length then x else l.getD j d:=by
 simp only[B8,G4]
 by_cases c:i=j
 ·rw[if_pos c]
  by_cases e:i<l.length
  ·rw[if_pos e,if_pos ⟨c,e⟩];rfl
  ·rw[if_neg e,if_neg fun z=>e z.2,E1 A6]
 ·rw[if_neg c,if_neg fun z=>c z.1]
B5 QM(ps:List (List (List Int)))(c:jX):Shape (setAt ps c) ps:=by
 &⟨by B4 setAt;rw[K2],fun p=>?_⟩
 B4 setAt
 rw[Ri]
 split
 ·rename_i h
  rw[K2,h.1]
 ·rfl
B5 Shape.trans{a b c:List (List (List Int))}(h:Shape a b)(k:Shape b c):Shape a c:=⟨h.1.trans k.1,fun p=>(h.2 p).trans (k.2 p)⟩
B5 Br(cs:List jX)(l:List Int):∀st,Shape (lay st cs l) st:=by
 induction l with
 | nil=>~fun st=>⟨rfl,fun _=>rfl⟩
 | cons k l ih=>~fun st=>(ih (setAt st (at_ cs k.toNat))).trans (QM _ _)
B5 wz{a b:List (List (List Int))}(h:Shape a b)(v:∀p q,p<a.length→q<(a.getD p []).length→val a p q=val b p q):a=b:=by
 apply K5
 intro p
 by_cases hp:p<a.length
 ·have hp':p<b.length:=by rw[←h.1];~hp
  rw[gY (d:=[]) hp,gY (d:=[]) hp']
  congr 1
  apply K5
  intro q
  have hq:=h.2 p
  by_cases hqa:q<(a.getD p []).length
  ·rw[gY (d:=[]) hqa,gY (d:=[]) A6]
   ~congrArg some (v p q hp hqa)
  ·rw[E1 A6,E1 A6]
 ·rw[E1 A6,E1 (by have:=h.1;omega)]
def Spot(st:List (List (List Int)))(c:jX):Prop:=0≤c.cA∧c.cA<(st.length:Int)∧0≤c.place∧c.place<((st.getD c.cA.toNat []).length:Int)
def here(cs:List jX)(p q:Nat)(k:Int):Bool:=decide ((at_ cs k.toNat).cA=(p:Int)∧(at_ cs k.toNat).place=(q:Int))
B5 xf{ps:List (List (List Int))}{c:jX}(h:Spot ps c)(p q:Nat):val (setAt ps c) p q=if c.cA=(p:Int)∧c.place=(q:Int)then c.thing else val ps p q:=by
 B3⟨h1,h2,h3,h4⟩:=h
 B4 val setAt
 rw[Ri]
 by_cases c1:c.cA.toNat=p
 ·rw[if_pos ⟨c1,by omega⟩,Ri]
  by_cases c2:c.place.toNat=q
  ·rw[if_pos ⟨c2,by omega⟩,if_pos ⟨by omega,by omega⟩]
  ·rw[if_neg fun z=>c2 z.1,if_neg fun z=>c2 A6,c1]
 ·rw[if_neg fun z=>c1 z.1,if_neg fun z=>c1 A6]
B5 Rj{a b:List (List (List Int))}(h:Shape a b){c:jX}(s:Spot b c):Spot a c:=by
 B3⟨h1,h2,h3,h4⟩:=s
 &⟨h1,by rw[h.1];~h2,h3,by rw[h.2];~h4⟩
B5 snoc_ind{α:Type}{P:List α→Prop}(h0:P [])(hs:∀l a,P l→P (l++[a]))(l:List α):P l:=by
 have:∀m:List α,P m.reverse:=fun m=>by
  induction m with
  | nil=>~h0
  | cons a m ih=>rw[j7];~hs _ _ ih
 have h:=this l.reverse
 rw[d9]at h
 ~h
B5 CJ{st:List (List (List Int))}{cs:List jX}{p q:Nat}:∀(l:List Int),(∀k∈l,Spot st (at_ cs k.toNat))→val (lay st cs l) p q=topOf cs (val st p q) (l.filter (here cs p q)).getLast?:=by
 &snoc_ind ?_ ?_
 ·~fun _=>rfl
 ·intro l k ih h
  have ih:=ih fun x hx=>h x (G6 _ hx)
  have hk:=h k (F0 _ (by simp))
  rw[aB9,xf (Rj (Br cs l st) hk),P1]
  by_cases c:(at_ cs k.toNat).cA=(p:Int)∧(at_ cs k.toNat).place=(q:Int)
  ·rw[if_pos c,O5 (show here cs p q k=true from decide_eq_true c),N4,V5]
   rfl
  ·rw[if_neg c,O6 (by B4 here;simpa using c),N4,F2]
   ~ih
def Inc(cs:List jX)(l:List Int):Prop:=∀p q:Nat,(l.filter (here cs p q)).Pairwise (·<·)
B5 aCb{st:List (List (List Int))}{cs:List jX}{l m:List Int}(hl:Inc cs l)(hm:Inc cs m)(h:∀x,x∈l↔x∈m)(hs:∀k∈l,Spot st (at_ cs k.toNat)):lay st cs l=lay st cs m:=by
 have a:=Br cs l st
 have b:=Br cs m st
 &wz ⟨a.1.trans b.1.symm,fun p=>(a.2 p).trans (b.2 p).symm⟩ fun p q _ _=>?_
 rw[CJ l hs,CJ m fun k hk=>hs k ((h k).mpr hk)]
 congr 2
 ~pU (hl p q) (hm p q) fun x=>by rw[K9,K9,h x]
B5 aG2{cs:List jX}{l:List Int}(h:l.Pairwise (·<·)):Inc cs l:=fun p q=>h.sublist Q3
def aD3(cs:List jX):Prop:=∀k,k<cs.length→∀j,lastAt (cs.take k) (at_ cs k).cA (at_ cs k).place=some j→j∈(at_ cs k).needs
B5 Wk{cs:List jX}{p q:Int}:∀(k:Nat),k≤cs.length→∀j:Nat,j<k→(at_ cs j).cA=p→(at_ cs j).place=q→∃m:Int,lastAt (cs.take k) p q=some m∧(j:Int)≤m∧m<(k:Int)∧(at_ cs m.toNat).cA=p∧(at_ cs m.toNat).place=q
 | 0,_,j,hj,_,_=>absurd hj (I0 _)
 | k+1,hk,j,hj,h1,h2=>by
  have e:cs.take (k+1)=cs.take k++[at_ cs k]:=by
   rw[O4,gY (d:=default) (show k<cs.length by omega)]
   rfl
  rw[e,qK,F3,show min k cs.length=k by omega]
  by_cases c:(at_ cs k).cA=p∧(at_ cs k).place=q
  ·rw[if_pos c]
   ~⟨k,rfl,by omega,by omega,by rw[C8];~c.1,by rw[C8];~c.2⟩
  ·rw[if_neg c]
   have:j≠k:=fun z=>c (by rw[←z];~⟨h1,h2⟩)
   B3⟨m,a1,a2,a3,a4⟩:=Wk k A6 j A6 h1 h2
   ~⟨m,a1,a2,by omega,a4⟩
def Ju(cs:List jX)(l:List Int):Prop:=∀x∈l,∀m∈(at_ cs x.toNat).needs,m∈l
B5 below{cs:List jX}{l:List Int}(hp:aD3 cs)(hc:Ju cs l)(hb:∀x∈l,0≤x∧x<(cs.length:Int)):∀(n x j:Nat),x<n→(x:Int)∈l→j<x→(at_ cs j).cA=(at_ cs x).cA→(at_ cs j).place=(at_ cs x).place→(j:Int)∈l:=by
 intro n
 induction n with
 | zero=>~fun x j hx=>absurd hx (I0 _)
 | succ n ih=>
  intro x j hx hxl hj h1 h2
  have hxb:=hb _ hxl
  B3⟨m,a1,a2,a3,a4,a5⟩:=Wk x (show x≤cs.length by omega) j hj h1 h2
  have hm:=hc _ hxl m (by rw[C8];~hp x A6 m a1)
  B3⟨i,rfl⟩:∃i:Nat,m=i:=⟨m.toNat,by omega⟩
  rw[C8]at a4 a5
  by_cases e:i=j
  ·rw[←e];~hm
  ·~ih i j A6 hm A6 (h1.trans a4.symm) (h2.trans a5.symm)
B5 aCc{cs:List jX}{l:List Int}{k:Int}(hp:aD3 cs)(hc:Ju cs l)(hb:∀x∈l,0≤x∧x<(cs.length:Int))(hi:Inc cs l)(h0:0≤k)(hn:k∉l):Inc cs (l++[k]):=fun p q=>by
 rw[P1]
 by_cases c:here cs p q k=true
 ·rw[O5 c,N4]
  &K7.mpr ⟨hi p q,by simp,fun x hx y hy=>?_⟩
  rw[D9.mp hy]
  B3⟨x1,x2⟩:=K9.mp hx
  have hxb:=hb x x1
  have x2:=of_decide_eq_true x2
  have c:=of_decide_eq_true c
  &Decidable.byContradiction fun z=>?_
  B3⟨i,rfl⟩:∃i:Nat,x=i:=⟨x.toNat,by omega⟩
  B3⟨j,rfl⟩:∃j:Nat,k=j:=⟨k.toNat,by omega⟩
  rw[C8]at x2 c
  have ne:i≠j:=fun e=>hn (by rw[←e];~x1)
  ~hn (below hp hc hb (i+1) i j A6 x1 A6 (c.1.trans x2.1.symm) (c.2.trans x2.2.symm))
 ·rw[O6 c,N4,F2]
  ~hi p q
B5 Kq{cs:List jX}{l r:List Int}{p:Int}(hg:Good cs)(hc:Ju cs l)(hR:PX cs l p r)(n:Nat):Ju cs (l++r.take n):=fun x hx m hm=>by
 rcases G0.mp hx with z | z
 ·~G6 _ (hc x z m hm)
 ·have hxr:=(hR.2.2 x).mp (L5 z)
  rcases hxr.2 m hm with y | y
  ·~G6 _ y
  ·&F0 _ ?_
   have hlt:=(hg.2 x.toNat A6).1 m hm
   B3⟨i,hi,ei⟩:=J1 y
   B3⟨j,hj,ej⟩:=J1 z
   rw[F3]at hj
   rw[Q9]at ej
   have hij:i<j:=by
    &Decidable.byContradiction fun w=>?_
    rcases J2 j i with w2 | w2
    ·have:=K6.mp hR.1 j i A6 hi w2
     omega
    ·have e:i=j:=by omega
     subst e
     rw[ei]at ej
     omega
   ~E4 (i:=i) (by rw[X0,if_pos A6,B6 hi,ei])
B5 QQ{cs:List jX}{l r:List Int}{p:Int}(hg:Good cs)(hp:aD3 cs)(hc:Ju cs l)(hb:∀x∈l,0≤x∧x<(cs.length:Int))(hi:Inc cs l)(hR:PX cs l p r):∀n,Inc cs (l++r.take n)
  | 0=>by rw[r9,F2];~hi
  | n+1=>by
    have ih:=QQ hg hp hc hb hi hR n
    by_cases hn:n<r.length
    · have e:r.take (n+1)=r.take n++[r[n]]:=by rw[O4,B6 hn];rfl
      have hx:=(hR.2.2 r[n]).mp (N7 hn)
      rw[e,←O3]
      &aCc hp (Kq hg hc hR n) (fun x hx'=>?_) ih hx.1.1 fun z=>?_
      · rcases G0.mp hx' with z | z
        · ~hb x z
        · have:=((hR.2.2 x).mp (L5 z)).1
          ~⟨this.1,this.2.1⟩
      · rcases G0.mp z with z | z
        · ~hx.1.2.2.2 z
        · have hu:=hR.1.sublist (M5 (n+1) r)
          rw[e]at hu
          have:=(K7.mp hu).2.2 _ z r[n] (by simp)
          omega
    · rw[O7 A6]at ih ⊢
      ~ih
structure Am(st:List (List (List Int)))(b:Bn):Prop where
 ok:Ae b
 bD:b.bD=lay st b.asked b.held
 prev:aD3 b.asked
 closed:Ju b.asked b.held
 inc:Inc b.asked b.held
B5 Am.shape{st:List (List (List Int))}{b:Bn}(h:Am st b):Shape b.bD st:=by rw[h.bD];~Br _ _ _
B5 Am.init{st:List (List (List Int))}(hl:st.length≤8):Am st ⟨st,[],[],[],[]⟩:=⟨Ae.init hl,rfl,fun k hk=>absurd hk (I0 _),fun x hx=>(by cases hx),fun p q=>k7⟩
B5 Am.put{st:List (List (List Int))}{b:Bn}(h:Am st b){p q:Int}{th ns:List Int}(h60:b.asked.length<124)(h0:0≤p)(h1:p<(b.bD.length:Int))(h2:0≤q)(h3:q<((b.bD.getD p.toNat []).length:Int))(hn:∀m∈ns,0≤m∧m<(b.asked.length:Int))(hl:ns.length≤8):Am st (b.put p q th ns):=by
 have hb:=h.ok.nums.2
 have hat:∀x∈b.held,at_ (b.asked++[gJ b p q th ns]) x.toNat=at_ b.asked x.toNat:=fun x hx=>gZ (by have:=hb x hx;omega)
 &⟨h.ok.put h60 h0 h1 h2 h3 hn hl,h.bD.trans (aCa hb).symm,fun k hk j hj=>?_,fun x hx m hm=>?_,fun p' q'=>?_⟩
 ·have hlen:(b.put p q th ns).asked.length=b.asked.length+1:=by B4 Bn.put;rw[C7];rfl
  rw[hlen]at hk
  have htk:(b.put p q th ns).asked.take k=b.asked.take k:=by
   show (b.asked++[gJ b p q th ns]).take k=_
   rw[List.take_append_of_le_length A6]
  rcases J2 k b.asked.length with z | z
  ·have e:at_ (b.put p q th ns).asked k=at_ b.asked k:=gZ z
   rw[htk,e]at hj
   rw[e]
   ~h.prev k z j hj
  ·have ek:k=b.asked.length:=by omega
   have e:at_ (b.put p q th ns).asked k=gJ b p q th ns:=by rw[ek];~nP _ _
   rw[htk,e,ek,N8]at hj
   rw[e]
   have hj:lastAt b.asked p q=some j:=hj
   show j∈RD (ns++(lastAt b.asked p q).toList)
   rw[Bb,hj]
   simp
 ·have hx:x∈b.held:=hx
  have hm:m∈(at_ (b.asked++[gJ b p q th ns]) x.toNat).needs:=hm
  rw[hat x hx]at hm
  ~h.closed x hx m hm
 ·have:=h.inc p' q'
  rw[show (b.put p q th ns).held=b.held from rfl]
  rw[T8 (q:=here b.asked p' q') fun x hx=>by B4 here;rw[show (b.put p q th ns).asked=b.asked++[gJ b p q th ns]from rfl,hat x hx]]
  ~this
B5 Am.bV{st:List (List (List Int))}{b:Bn}(h:Am st b){p:Int}{r:List Int}(hR:PX b.asked b.held p r)(n:Nat):Am st (b.bV (r.take n)):=by
 have e1:=jE (r.take n) b
 have e2:=pD (r.take n) b
 have htr:∀x∈r.take n,0≤x∧x<(b.asked.length:Int)∧_∧x∉b.held:=fun x hx=>((hR.2.2 x).mp (L5 hx)).1
 &⟨h.ok.bV ((hR.1.sublist (M5 _ _)).imp fun z=>by omega) (fun x hx=>⟨(htr x hx).1,(htr x hx).2.1⟩) (fun x hx=>(htr x hx).2.2.2),?_,by rw[e1];~h.prev,?_,?_⟩
 ·rw[Tr,e1,e2,aD2,←h.bD]
 ·rw[e1,e2];~Kq h.ok.good h.closed hR n
 ·rw[e1,e2];~QQ h.ok.good h.prev h.closed h.ok.nums.2 h.inc hR n
B5 QR{i:Nat}{g:GS}(I:Nat→EN→Prop)(Rt:D→Prop):∀(xs:List D)(env:EN)(n:Nat),I n env→(∀k x env,xs[k]?=some x→I (n+k) env→i<env.length∧((∃env',g (env.set i (.fro x))=.next env'∧I (n+k+1) env')∨(∃d,g (env.set i (.fro x))=.ret d∧Rt d)))→(∃env',By i g xs env=.next env'∧I (n+xs.length) env')∨∃d,By i g xs env=.ret d∧Rt d
 | [],env,n,h,_=>.inl ⟨env,rfl,h⟩
 | x::xs,env,n,h,st=>by
  B3⟨hl,q⟩:=st 0 x env rfl h
  B4 By
  rw[if_pos hl]
  rcases q with ⟨env',q1,q2⟩ | ⟨d,q1,q2⟩
  ·rw[q1]
   have:=QR I Rt xs env' (n+1) q2 fun k y e hy hi=>by
    have z:=st (k+1) y e hy (by rw[show n+(k+1)=n+1+k by omega];~hi)
    rw[show n+(k+1)=n+1+k by omega]at z
    ~z
   rw[D8,show n+(xs.length+1)=n+1+xs.length by omega]
   ~this
  ·rw[q1]
   ~.inr ⟨d,rfl,q2⟩
B5 ZM{i:Nat}{gb g:GS}{env:EN}{Pr:SR→Prop}{fi:FA}{n:Nat}(I:Nat→EN→Prop)(h:fi (rE env)=some (iJ 0 n))(h0:I 0 env)
  (st:∀(k:Nat) env,k<n→I k env→i<env.length∧Qs (fun r=>(∃env',r=.next env'∧I (k+1) env')∨∃d,r=.ret d∧Pr (.ret d)) (gb (env.set i (.fro (.int k))))) (k:∀env',I n env'→Qs Pr (g env')):Qs Pr (aW (xW i fi gb) g env):=by
 rcases QR (i:=i) (g:=gb) I (fun d=>Pr (.ret d)) (iJ 0 n) env 0 h0 fun k x e hx hi=>by
  B3⟨hk,rfl⟩:=Dw hx
  rw[P0]at hi ⊢
  rw[Y4]
  ~⟨(st k e hk hi).1,(st k e hk hi).2⟩with ⟨env',h1,h2⟩ | ⟨d,h1,h2⟩
 ·rw[P0,wV]at h2
  rw[eG ((Pk h).trans h1)]
  ~k env' h2
 ·rw[Gf ((Pk h).trans h1)]
  ~h2
def An(nx:Int→Int):List Int→Prop
 | []=>True
 | a::r=>nx a=r.headD 0∧An nx r
B5 An.congr{nx nx':Int→Int}:∀{l:List Int},(∀y∈l,nx' y=nx y)→An nx l→An nx' l
 | [],_,_=>trivial
 | a::r,h,⟨h1,h2⟩=>⟨(h a C9).trans h1,An.congr (fun y hy=>h y (C6 _ hy)) h2⟩
def Ey(p b:Int):List Int→List Int
 | []=>[]
 | a::r=>if a=p then a::b::r else a::Ey p b r
B5 xg(p b:Int)(l:List Int):(Ey p b l).headD 0=l.headD 0:=by
 cases l with
 | nil=>rfl
 | cons a r=>
  B4 Ey
  split<;>rfl
B5 Rk{p b x:Int}:∀{l:List Int},p∈l→(x∈Ey p b l↔x=b∨x∈l)
  | [],h=>by cases h
  | a::r,h=>by
    B4 Ey
    by_cases c:a=p
    · rw[if_pos c]
      simp only[C5]
      constructor
      · rintro(z | z | z)
        · ~.inr (.inl z)
        · ~.inl z
        · ~.inr (.inr z)
      · rintro(z | z | z)
        · ~.inr (.inl z)
        · ~.inl z
        · ~.inr (.inr z)
    · rw[if_neg c]
      have hp:p∈r:=(C5.mp h).elim (fun z=>absurd z.symm c) id
      rw[C5,Rk hp,C5]
      constructor
      · rintro(z | z | z)
        · ~.inr (.inl z)
        · ~.inl z
        · ~.inr (.inr z)
      · rintro(z | z | z)
        · ~.inr (.inl z)
        · ~.inl z
        · ~.inr (.inr z)
B5 Ez{p b:Int}:∀{l:List Int},l.Nodup→p∈l→b∉l→(Ey p b l).Nodup
 | [],_,h,_=>by cases h
 | a::r,hn,h,hb=>by
  B3⟨n1,n2⟩:=E8.mp hn
  have ba:b≠a:=fun z=>hb (by rw[z];~C9)
  have br:b∉r:=fun z=>hb (C6 _ z)
  B4 Ey
  by_cases c:a=p
  ·rw[if_pos c]
   ~E8.mpr ⟨fun z=>(C5.mp z).elim (fun e=>ba e.symm) n1,E8.mpr ⟨br,n2⟩⟩
  ·rw[if_neg c]
   have hp:p∈r:=(C5.mp h).elim (fun z=>absurd z.symm c) id
   ~E8.mpr ⟨fun z=>((Rk hp).mp z).elim (fun e=>ba e.symm) n1,Ez n2 hp br⟩
B5 Mu{p b:Int}:∀{l:List Int},p∈l→Ey p b l=l.take (l.idxOf p+1)++b::l.drop (l.idxOf p+1)
 | [],h=>by cases h
 | a::r,h=>by
  B4 Ey
  by_cases c:a=p
  ·subst c
   rw[if_pos rfl,V7]
   rfl
  ·have hp:p∈r:=(C5.mp h).elim (fun z=>absurd z.symm c) id
   rw[if_neg c,V4,show (a==p)=false from beq_false_of_ne c,Mu hp]
   rfl
B5 An.ins{nx nx':Int→Int}{p b:Int}(h1:nx' p=b)(h2:nx' b=nx p):∀{l:List Int},l.Nodup→p∈l→(∀y∈l,y≠p→nx' y=nx y)→An nx l→An nx' (Ey p b l)
 | [],_,h,_,_=>by cases h
 | a::r,hn,h,hy,⟨q1,q2⟩=>by
  B3⟨n1,n2⟩:=E8.mp hn
  B4 Ey
  by_cases c:a=p
  ·subst c
   rw[if_pos rfl]
   ~⟨h1,h2.trans q1,q2.congr fun y hr=>hy y (C6 _ hr) fun z=>n1 (z▸hr)⟩
  ·rw[if_neg c]
   have hp:p∈r:=(C5.mp h).elim (fun z=>absurd z.symm c) id
   ~⟨(hy a C9 c).trans (q1.trans (xg p b r).symm),An.ins h1 h2 n2 hp (fun y hr=>hy y (C6 _ hr)) q2⟩
B5 An.era{nx nx':Int→Int}{p x:Int}(h1:nx p=x)(h0:x≠0)(h2:nx' p=nx x):∀{l:List Int},l.Nodup→p∈l→(∀y∈l,y≠p→nx' y=nx y)→An nx l→x∈l.tail∧An nx' (l.erase x)
 | [],_,h,_,_=>by cases h
 | a::r,hn,h,hy,⟨q1,q2⟩=>by
  B3⟨n1,n2⟩:=E8.mp hn
  by_cases c:a=p
  ·subst c
   cases r with
   | nil=>~absurd (h1.symm.trans q1) h0
   | cons e r=>
    have ex:e=x:=q1.symm.trans h1
    subst ex
    have ae:a≠e:=fun z=>n1 (by rw[z];~C9)
    &⟨C9,?_⟩
    rw[P6 (by simpa using ae),List.erase_cons_head]
    &⟨h2.trans q2.1,q2.2.congr fun y hr=>hy y (C6 _ (C6 _ hr)) fun z=>n1 (z▸C6 _ hr)⟩
  ·have hp:p∈r:=(C5.mp h).elim (fun z=>absurd z.symm c) id
   B3⟨i1,i2⟩:=An.era h1 h0 h2 n2 hp (fun y hr=>hy y (C6 _ hr)) q2
   have xr:x∈r:=List.mem_of_mem_tail i1
   have ax:a≠x:=fun z=>n1 (z▸xr)
   &⟨xr,?_⟩
   rw[P6 (by simpa using ax)]
   &⟨(hy a C9 c).trans (q1.trans ?_),i2⟩
   cases r with
   | nil=>cases xr
   | cons e r=>
    have ex:e≠x:=fun z=>(E8.mp n2).1 (z▸i1)
    rw[P6 (by simpa using ex)]
    rfl
B5 An.one{nx:Int→Int}:∀{l m:List Int} {a:Int},(0:Int)∉l→(0:Int)∉m→An nx (a::l)→An nx (a::m)→l=m
 | [],[],_,_,_,_,_=>rfl
 | [],b::m,a,_,hm,h1,h2=>by
  have e:(0:Int)=b:=h1.1.symm.trans h2.1
  ~absurd (by rw[e];~C9) hm
 | b::l,[],a,hl,_,h1,h2=>by
  have e:b=(0:Int):=h1.1.symm.trans h2.1
  ~absurd (by rw[←e];~C9) hl
 | b::l,c::m,a,hl,hm,h1,h2=>by
  have e:b=c:=h1.1.symm.trans h2.1
  subst e
  rw[An.one (fun z=>hl (C6 _ z)) (fun z=>hm (C6 _ z)) h1.2 h2.2]
B5 An.get{nx:Int→Int}:∀{r:List Int} {a:Int},An nx (a::r)→∀k,k≤r.length→nx ((a::r).getD k 0)=(r++[0]).getD k 0
 | [],a,h,k,hk=>by
  B3 rfl:k=0:=Nat.le_zero.mp hk
  ~h.1
 | b::r,a,h,0,hk=>h.1
 | b::r,a,h,k+1,hk=>An.get h.2 k (Nat.le_of_succ_le_succ hk)
B5 An.of{nx:Int→Int}:∀{r:List Int} {a:Int},(∀k,k≤r.length→nx ((a::r).getD k 0)=(r++[0]).getD k 0)→An nx (a::r)
 | [],a,h=>⟨h 0 (D1 _),trivial⟩
 | b::r,a,h=>⟨h 0 (M3 _),An.of fun k hk=>h (k+1) (U1 hk)⟩
def Dd(cs:List jX)(S:Int→Bool)(p q:Int):Option Int:=((D2 cs.length).filter fun k=>decide ((at_ cs k).cA=p∧(at_ cs k).place=q)&&S (k:Int)).getLast?.map fun k=>((k:Nat):Int)
B5 Rm(cs:List jX)(S:Int→Bool)(c:jX)(p q:Int):Dd (cs++[c]) S p q=if(c.cA=p∧c.place=q)∧S (cs.length:Int)=true then some (cs.length:Int)else Dd cs S p q:=by
 B4 Dd
 have e:(D2 cs.length).filter (fun k=>decide ((at_ (cs++[c]) k).cA=p∧(at_ (cs++[c]) k).place=q)&&S (k:Int))=(D2 cs.length).filter fun k=>decide ((at_ cs k).cA=p∧(at_ cs k).place=q)&&S (k:Int):=T8 fun k hk=>by rw[gZ (F5.mp hk)]
 rw[C7,show cs.length+[c].length=cs.length+1 from rfl,b6,P1,e]
 by_cases h:(c.cA=p∧c.place=q)∧S (cs.length:Int)=true
 ·rw[if_pos h,O5 (by rw[nP,decide_eq_true h.1,h.2];rfl),N4,V5]
  rfl
 ·rw[if_neg h,O6 (by rw[nP,G9,decide_eq_true_iff];~h),N4,F2]
B5 QS{cs:List jX}{S:Int→Bool}{p q k:Int}(h:Dd cs S p q=some k):0≤k∧k<(cs.length:Int):=by
 B4 Dd at h
 B3⟨j,h1,rfl⟩:=lJ h
 have:=F5.mp (K9.mp (f6 h1)).1
 omega
def Rn(st:List (List (List Int)))(cs:List jX)(S:Int→Bool)(p q:Int):List Int:=topOf cs (val st p.toNat q.toNat) (Dd cs S p q)
B5 xj(st:List (List (List Int)))(cs:List jX)(S:Int→Bool)(c:jX)(p q:Int):Rn st (cs++[c]) S p q=if(c.cA=p∧c.place=q)∧S (cs.length:Int)=true then c.thing else Rn st cs S p q:=by
 B4 Rn
 rw[Rm]
 by_cases h:(c.cA=p∧c.place=q)∧S (cs.length:Int)=true
 ·rw[if_pos h,if_pos h]
  show (at_ (cs++[c]) (cs.length:Int).toNat).thing=c.thing
  rw[C8,nP]
 ·rw[if_neg h,if_neg h]
  cases e:Dd cs S p q with
  | none=>rfl
  | some k=>
   have:=QS e
   show (at_ _ k.toNat).thing=(at_ _ k.toNat).thing
   rw[gZ A6]
B5 Ro{S:Int→Bool}{p q:Int}(cs:List jX):(∀k,lastAt cs p q=some k→S k=true)→Dd cs S p q=lastAt cs p q:=by
 induction cs using snoc_ind with
 | h0=>~fun _=>rfl
 | hs cs c ih=>
  rw[qK,Rm]
  by_cases h:c.cA=p∧c.place=q
  ·rw[if_pos h]
   intro k
   rw[if_pos ⟨h,k _ rfl⟩]
  ·rw[if_neg h,if_neg fun z=>h z.1]
   ~ih
def Dn(cs:List jX)(S:Int→Bool):Prop:=∀k,k<cs.length→S (k:Int)=true→∀m∈(at_ cs k).needs,S m=true
B5 Dn.init{cs:List jX}{S:Int→Bool}{c:jX}(h:Dn (cs++[c]) S):Dn cs S:=fun k hk hS m hm=>h k (by rw[C7];omega) hS m (by rw[gZ hk];~hm)
B5 Dn.last{cs:List jX}{S:Int→Bool}{c:jX}(h:Dn (cs++[c]) S)(hS:S (cs.length:Int)=true):∀m∈c.needs,S m=true:=fun m hm=>h cs.length (by rw[C7];~M7 _) hS m (by rw[nP];~hm)
def inB(l:List Int):Int→Bool:=fun k=>decide (k∈l)
B5 Am.dn{st:List (List (List Int))}{b:Bn}(h:Am st b):Dn b.asked (inB b.held):=fun k _ hS m hm=>decide_eq_true (h.closed (k:Int) (of_decide_eq_true hS) m (by rw[C8];~hm))
B5 Am.val{st:List (List (List Int))}{b:Bn}(h:Am st b)(p q:Nat):val b.bD p q=Rn st b.asked (inB b.held) p q:=by
 have hm:∀x,x∈b.held↔x∈((D2 b.asked.length).filter fun k:Nat=>inB b.held (k:Int)).map fun k:Nat=>((k:Nat):Int):=fun x=>by
  rw[G5]
  constructor
  ·intro hx
   have:=h.ok.nums.2 x hx
   ~⟨x.toNat,K9.mpr ⟨F5.mpr A6,decide_eq_true (by rw[show ((x.toNat:Nat):Int)=x by omega];~hx)⟩,by omega⟩
  ·rintro⟨k,hk,rfl⟩
   ~of_decide_eq_true (K9.mp hk).2
 have hs:∀k∈b.held,Spot st (at_ b.asked k.toNat):=fun k hk=>by
  have hb:=h.ok.nums.2 k hk
  ~Rj ⟨h.shape.1.symm,fun p=>(h.shape.2 p).symm⟩ (h.ok.PN k.toNat A6)
 have hu:(((D2 b.asked.length).filter fun k:Nat=>inB b.held (k:Int)).map fun k:Nat=>((k:Nat):Int)).Pairwise (·<·):=by
  rw[T7]
  ~(T9.sublist Q3).imp fun z=>by omega
 rw[h.bD,aCb h.inc (aG2 hu) hm hs,CJ _ fun k hk=>hs k ((hm k).mpr hk)]
 B4 Rn Dd
 rw[C8,C8]
 congr 1
 rw[o6,k9,List.filter_filter]
 congr 2
structure Ev where
 i:Bool
 n:Int
 b:Int
 a:Int
def rep1(S:Int→Bool)(l:List Int)(e:Ev):Option (List Int):=if S e.n=true then(if e.i=true then(if e.b∈l∨e.a∉l then none else some (Ey e.a e.b l))else(if e.b∉l then none else some (l.erase e.b)))else some l
def replay(S:Int→Bool):List Int→List Ev→Option (List Int)
 | l,[]=>some l
 | l,e::es=>(rep1 S l e).bind fun l'=>replay S l' es
B5 qM{S:Int→Bool}{e:Ev}:∀{es:List Ev} {l:List Int},replay S l (es++[e])=(replay S l es).bind fun l'=>rep1 S l' e
 | [],l=>by
  show (rep1 S l e).bind (fun l'=>some l')=rep1 S l e
  cases rep1 S l e<;>rfl
 | x::es,l=>by
  show (rep1 S l x).bind (fun l'=>replay S l' (es++[e]))=((rep1 S l x).bind fun l'=>replay S l' es).bind _
  cases rep1 S l x with
  | none=>rfl
  | some y=>~qM
def Wl(st:List (List (List Int)))(P:Nat)(cs:List jX)(S:Int→Bool)(x:Int):Int:=(Rn st cs S ((x.toNat%P:Nat):Int) ((x.toNat/P:Nat):Int)).getD 1 0
structure Row(st:List (List (List Int)))(first:List Int)(evs:List Ev)(s:Wb)(S:Int→Bool)(row:List Int):Prop where
 rep:replay S (0::first) evs=some (0::row)
 nd:(0::row).Nodup
 bd:∀x∈row,1≤x∧x<(s.rs.length:Int)
 pth:An (Wl st s.P s.b.asked S) (0::row)
 ins:∀x∈s.od,(∀c,s.co.get x=some c→S c=true)→x∈row
 out:∀x,1≤x→x<(s.rs.length:Int)→x∉s.od→(∀g,s.go.get x=some g→S g=true)→x∉row
structure Ks(st:List (List (List Int)))(first:List Int)(evs:List Ev)(s:Wb):Prop where
 lb:Am st s.b
 rows:∀S,Dn s.b.asked S→∃row,Row st first evs s S row
 mem:An (fun x=>(s.R x).getD 1 0) (0::s.od)
section
variable{st:List (List (List Int))}{first:List Int}{evs:List Ev}{s:Wb}{S:Int→Bool}
B5 Mv{x:Int}{r ns:List Int}(w:mQ s)(h0:0≤x)(h1:x<(s.rs.length:Int))(hD:Dn (s.wr x r ns).b.asked S)(hS:S (s.n:Int)=true):(∀m∈ns,S m=true)∧∀k,s.la.get x=some k→S k=true:=by
 have hl:∀m∈RD (ns++(lastAt s.b.asked ((x.toNat%s.P:Nat):Int) ((x.toNat/s.P:Nat):Int)).toList),S m=true:=Dn.last (cs:=s.b.asked) (c:=gJ s.b ((x.toNat%s.P:Nat):Int) ((x.toNat/s.P:Nat):Int) r ns) hD hS
 have e:=w.las x.toNat A6
 rw[show ((x.toNat:Nat):Int)=x by omega]at e
 &⟨fun m hm=>hl m ((Bb _ _).mpr (G6 _ hm)),fun k hk=>hl k ((Bb _ _).mpr (F0 _ ?_))⟩
 rw[←e,hk]
 ~D9.mpr rfl
B5 CK{x y:Int}{r ns:List Int}(h0:0≤x)(hy:0≤y):Wl st s.P (s.wr x r ns).b.asked S y=if y=x∧S (s.n:Int)=true then r.getD 1 0 else Wl st s.P s.b.asked S y:=by
 B4 Wl
 show (Rn st (s.b.asked++[gJ s.b ((x.toNat%s.P:Nat):Int) ((x.toNat/s.P:Nat):Int) r ns]) S _ _).getD 1 0=_
 rw[xj]
 by_cases c:y=x∧S (s.n:Int)=true
 ·rw[if_pos c,if_pos ⟨by rw[c.1];~⟨rfl,rfl⟩,c.2⟩]
  rfl
 ·rw[if_neg c,if_neg]
  rintro⟨⟨z1,z2⟩,z3⟩
  have:=Qz (a:=x.toNat) (b:=y.toNat) z1 z2
  ~c ⟨by omega,z3⟩
B5 Ks.full(h:Ks st first evs s)(w:mQ s){x:Int}(h0:0≤x)(h1:x<(s.rs.length:Int))(hS:∀k,s.la.get x=some k→S k=true):Wl st s.P s.b.asked S x=(s.R x).getD 1 0:=by
 have e:=w.las x.toNat A6
 rw[show ((x.toNat:Nat):Int)=x by omega]at e
 B4 Wl Rn
 rw[Ro s.b.asked (by rw[←e];~hS),Wb.R,(w.rcd x.toNat A6).1]
 B4 face
 cases q:lastAt s.b.asked ((x.toNat%s.P:Nat):Int) ((x.toNat/s.P:Nat):Int)with
 | some k=>rfl
 | none=>
  have v:=h.lb.val (x.toNat%s.P) (x.toNat/s.P)
  B4 Rn at v
  rw[Ro s.b.asked (by rw[q];~fun k z=>nomatch z),q]at v
  rw[C8,C8]at v ⊢
  show (val st _ _).getD 1 0=(val s.b.bD _ _).getD 1 0
  rw[v]
  rfl
B5 Ks.rw(h:Ks st first evs s)(w:mQ s){x:Int}{r ns:List Int}(h0:0≤x)(h1:x<(s.rs.length:Int))(hn:∀m∈ns,0≤m∧m<(s.n:Int))(hl:ns.length≤8)(hm:s.n<124)(hr:r.getD 1 0=(s.R x).getD 1 0):Ks st first evs (s.wr x r ns):=by
 B3⟨a,b,c,d⟩:=w.spot h0 h1
 &⟨h.lb.put hm a b c d hn hl,fun S hD=>?_,?_⟩
 ·B3⟨row,R⟩:=h.rows S (Dn.init (cs:=s.b.asked) hD)
  &⟨row,R.rep,R.nd,fun y hy=>by rw[tQ];~R.bd y hy,R.pth.congr fun y hy=>?_,R.ins,fun y y1 y2=>R.out y y1 (by rw[tQ]at y2;~y2)⟩
  have y0:0≤y:=by
   rcases C5.mp hy with z | z
   ·omega
   ·have:=R.bd y z;omega
  show Wl st s.P _ S y=_
  rw[CK h0 y0]
  split
  ·rename_i q
   rw[q.1,hr,h.full w h0 h1 (Mv w h0 h1 hD q.2).2]
  ·rfl
 ·&h.mem.congr fun y hy=>?_
  have y0:0≤y:=by
   rcases C5.mp hy with z | z
   ·omega
   ·have:=w.Cj y z;omega
  show ((s.wr x r ns).R y).getD 1 0=(s.R y).getD 1 0
  rw[ZD h0 h1 y0]
  split
  ·rename_i q
   rw[hr,q]
  ·rfl
B5 Ks.ent(h:Ks st first evs s)(w:mQ s)(hlo:0<s.lo.length)(hm:s.n<123){k key was now fV:Int}{fu:List Int}(h0:0≤k)(h1:k≤(s.od.length:Int))(hn:∀m∈fu,0≤m∧m<(s.n:Int))(hf:fu.length≤5):Ks st first (evs++[⟨true,(s.n+1:Nat),s.new,s.ahead k⟩]) (s.ent k key was now fV fu):=by
  B3⟨b1,b2,b3,b4,b5⟩:=w.new hlo
  B3⟨p1,p2,p3⟩:=w.ahead h0 h1
  have w1:=w.e1 hlo A6 k key was now fV
  B3⟨w2,hn2,hc⟩:=w.e2 hlo hm (key:=key) (was:=was) (now:=now) (fV:=fV) h0 h1 hn hf
  have pb:s.ahead k≠s.new:=fun z=>by
    rcases p1 with y | y
    · omega
    · ~b4 (z▸y)
  have hod:∀x,x∈s.od.take k.toNat++s.new::s.od.drop k.toNat↔x=s.new∨x∈s.od:=fun x=>by
    conv=>rhs;rw[←M6 k.toNat s.od]
    simp only[G0,C5]
    constructor
    · rintro(z | z | z)
      · ~.inr (.inl z)
      · ~.inl z
      · ~.inr (.inr z)
    · rintro(z | z | z)
      · ~.inr (.inl z)
      · ~.inl z
      · ~.inr (.inr z)
  have hlen:=BP s k key was now fV fu
  have en:=aBR s k key was now fV
  have e1l:(s.e1 k key was now fV).rs.length=s.rs.length:=tQ _ _ _ _
  have co':∀x,(s.ent k key was now fV fu).co.get x=if x=s.new then some ((s.n+1:Nat):Int)else s.co.get x:=fun x=>Mp.pY w.coo.1 _ _ _
  B3⟨f1,f2,f3,f4⟩:=w.spot b5 b3
  B3⟨g1,g2,g3,g4⟩:=w1.spot p2 (by rw[e1l];~p3)
  have aG3:((s.e1 k key was now fV).ns (s.ahead k) ((s.n:Int)::fu)).length≤8:=by
    B4 Wb.ns
    rw[C7]
    have:=mK ((s.e1 k key was now fV).co.get (s.ahead k))
    simp
    omega
  have lb1:Am st (s.e1 k key was now fV).b:=h.lb.put (by have:s.b.asked.length=s.n:=rfl;omega) f1 f2 f3 f4 (w.aGW _) (G1 (mK _) A8)
  &⟨lb1.put (by have:(s.e1 k key was now fV).b.asked.length=s.n+1:=en;omega) g1 g2 g3 g4 (w1.ZG hn2) aG3,fun S hD=>?_,?_⟩
  · have hD2:Dn ((s.e1 k key was now fV).wr (s.ahead k) (xu ((s.e1 k key was now fV).R (s.ahead k)) s.new) ((s.e1 k key was now fV).ns (s.ahead k) ((s.n:Int)::fu))).b.asked S:=hD
    have hD1:Dn (s.wr s.new [key,(s.R (s.ahead k)).getD 1 0,was,now,fV] (s.go.get s.new).toList).b.asked S:=Dn.init (cs:=(s.e1 k key was now fV).b.asked) hD2
    B3⟨row,R⟩:=h.rows S (Dn.init (cs:=s.b.asked) hD1)
    have rz:∀y∈(0:Int)::row,0≤y:=fun y hy=>by
      rcases C5.mp hy with z | z
      · omega
      · have:=R.bd y z;omega
    have nx2:∀y,0≤y→Wl st s.P (s.ent k key was now fV fu).b.asked S y=if y=s.ahead k∧S ((s.n+1:Nat):Int)=true then s.new else if y=s.new∧S (s.n:Int)=true then(s.R (s.ahead k)).getD 1 0 else Wl st s.P s.b.asked S y:=fun y hy=>by
      have t1:Wl st s.P (s.e1 k key was now fV).b.asked S y=if y=s.new∧S (s.n:Int)=true then(s.R (s.ahead k)).getD 1 0 else Wl st s.P s.b.asked S y:=CK b5 hy
      have t2:=CK (st:=st) (s:=s.e1 k key was now fV) (S:=S) (r:=xu ((s.e1 k key was now fV).R (s.ahead k)) s.new) (ns:=(s.e1 k key was now fV).ns (s.ahead k) ((s.n:Int)::fu)) p2 hy
      rw[en]at t2
      ~t2.trans (by rw[show Wl st (s.e1 k key was now fV).P (s.e1 k key was now fV).b.asked S y=Wl st s.P (s.e1 k key was now fV).b.asked S y from rfl,t1];rfl)
    have fil:S (s.n:Int)=true→s.new∉row:=fun hS=>R.out s.new b2 b3 b4 fun g hg=>(Mv w b5 b3 hD1 hS).1 g (by rw[hg];~D9.mpr rfl)
    by_cases c:S ((s.n+1:Nat):Int)=true
    · have nd2:=Mv w1 p2 (by rw[e1l];~p3) hD2 (by rw[en];~c)
      have hSn:S (s.n:Int)=true:=nd2.1 _ (F0 _ C9)
      have bn:s.new∉(0:Int)::row:=fun z=>(C5.mp z).elim (fun z=>by omega) (fil hSn)
      have pm:s.ahead k∈(0:Int)::row:=by
        rcases p1 with z | z
        · rw[z];~C9
        · &C6 _ (R.ins _ z fun c0 hc0=>nd2.1 _ (G6 _ ?_))
          rw[show (s.e1 k key was now fV).co.get (s.ahead k)=s.co.get (s.ahead k)from rfl,hc0]
          ~D9.mpr rfl
      have full:Wl st s.P s.b.asked S (s.ahead k)=(s.R (s.ahead k)).getD 1 0:=h.full w p2 p3 fun j hj=>nd2.2 j (by
        show (s.la.put s.new s.n).get (s.ahead k)=some j
        rw[Mp.pY w.lao.1,if_neg pb]
        ~hj)
      B3⟨xn,e⟩:∃xn,Ey (s.ahead k) s.new ((0:Int)::row)=0::xn:=by
        B4 Ey
        split<;>~⟨_,rfl⟩
      have hmem:∀x,x∈(0:Int)::xn↔x=s.new∨x∈(0:Int)::row:=fun x=>by rw[←e];~Rk pm
      have hmr:∀x,x≠0→(x∈xn↔x=s.new∨x∈row):=fun x hx=>by
        have:=hmem x
        simp only[C5,hx,false_or]at this
        ~this
      &⟨xn,?_,?_,fun x hx=>?_,?_,fun x hx hco=>?_,fun x x1 x2 x3 hgo=>?_⟩
      · rw[qM,R.rep,B9]
        B4 rep1
        rw[if_pos c,if_pos rfl,if_neg fun z=>z.elim bn fun y=>y pm,e]
      · rw[←e]
        ~Ez R.nd pm bn
      · rw[hlen]
        have hx0:x≠0:=fun z=>by
          have nn:((0:Int)::xn).Nodup:=by rw[←e];~Ez R.nd pm bn
          ~(E8.mp nn).1 (z▸hx)
        rcases(hmr x hx0).mp hx with z | z
        · omega
        · ~R.bd x z
      · rw[←e]
        &An.ins ?_ ?_ R.nd pm (fun y hy hyp=>?_) R.pth
        · ~(nx2 _ p2).trans (if_pos ⟨rfl,c⟩)
        · &(nx2 _ b5).trans ?_
          rw[if_neg fun z:s.new=s.ahead k∧_=>pb z.1.symm,if_pos ⟨rfl,hSn⟩,full]
        · &(nx2 _ (rz y hy)).trans ?_
          rw[if_neg fun z:y=s.ahead k∧_=>hyp z.1,if_neg fun z:y=s.new∧_=>bn (z.1▸hy)]
      · have hx0:x≠0:=fun z=>by
          rcases(hod x).mp hx with y | y
          · omega
          · have:=w.Cj x y;omega
        &(hmr x hx0).mpr ?_
        rcases(hod x).mp hx with z | z
        · ~.inl z
        · &.inr (R.ins x z fun c0 hc0=>hco c0 ?_)
          rw[co',if_neg fun y:x=s.new=>b4 (y▸z)]
          ~hc0
      · have x3:x∉s.od.take k.toNat++s.new::s.od.drop k.toNat:=x3
        rw[hod,not_or]at x3
        intro z
        rw[hlen]at x2
        rcases(hmr x A6).mp z with y | y
        · ~x3.1 y
        · ~R.out x x1 x2 x3.2 hgo y
    · &⟨row,?_,R.nd,fun x hx=>by rw[hlen];~R.bd x hx,R.pth.congr fun y hy=>?_,fun x hx hco=>?_,fun x x1 x2 x3 hgo=>?_⟩
      · rw[qM,R.rep,B9]
        B4 rep1
        rw[if_neg c]
      · &(nx2 _ (rz y hy)).trans ?_
        rw[if_neg fun z=>c z.2]
        split
        · rename_i q
          rcases C5.mp hy with z | z
          · omega
          · ~absurd (q.1▸z) (fil q.2)
        · rfl
      · rcases(hod x).mp hx with z | z
        · ~absurd (hco _ (by rw[co',if_pos z])) c
        · &R.ins x z fun c0 hc0=>hco c0 ?_
          rw[co',if_neg fun y:x=s.new=>b4 (y▸z)]
          ~hc0
      · have x3:x∉s.od.take k.toNat++s.new::s.od.drop k.toNat:=x3
        rw[hod,not_or]at x3
        rw[hlen]at x2
        ~R.out x x1 x2 x3.2 hgo
  · have nd0:((0:Int)::s.od).Nodup:=E8.mpr ⟨fun z=>by have:=w.Cj 0 z;omega,w.Tp⟩
    have kl:k.toNat<((0:Int)::s.od).length:=by rw[D8];omega
    have gk:((0:Int)::s.od)[k.toNat]?=some (s.ahead k):=gY (d:=0) kl
    have pm:s.ahead k∈(0:Int)::s.od:=E4 gk
    have ei:Ey (s.ahead k) s.new ((0:Int)::s.od)=0::(s.od.take k.toNat++s.new::s.od.drop k.toNat):=by
      rw[Mu pm,BR nd0 gk]
      rfl
    show An _ ((0:Int)::(s.od.take k.toNat++s.new::s.od.drop k.toNat))
    rw[←ei]
    have R2:∀y,0≤y→(s.ent k key was now fV fu).R y=if y=s.ahead k then xu ((s.e1 k key was now fV).R (s.ahead k)) s.new else if y=s.new then [key,(s.R (s.ahead k)).getD 1 0,was,now,fV]else s.R y:=fun y hy=>by
      show ((s.e1 k key was now fV).wr (s.ahead k) (xu ((s.e1 k key was now fV).R (s.ahead k)) s.new) ((s.e1 k key was now fV).ns (s.ahead k) ((s.n:Int)::fu))).R y=_
      rw[ZD p2 hc hy]
      split
      · rfl
      · ~ZD (ns:=(s.go.get s.new).toList) b5 b3 hy
    &An.ins ?_ ?_ nd0 pm (fun y hy hyp=>?_) h.mem
    · show ((s.ent k key was now fV fu).R (s.ahead k)).getD 1 0=_
      rw[R2 _ p2,if_pos rfl]
      rfl
    · show ((s.ent k key was now fV fu).R s.new).getD 1 0=(s.R (s.ahead k)).getD 1 0
      rw[R2 _ b5,if_neg pb.symm,if_pos rfl]
      rfl
    · have y0:0≤y:=by
        rcases C5.mp hy with z | z
        · omega
        · have:=w.Cj y z;omega
      show ((s.ent k key was now fV fu).R y).getD 1 0=(s.R y).getD 1 0
      rw[R2 _ y0,if_neg hyp,if_neg]
      rintro rfl
      rcases C5.mp hy with z | z
      · omega
      · ~b4 z
B5 Ks.out(h:Ks st first evs s)(w:mQ s)(hm:s.n<124){k x:Int}{fu:List Int}(h0:0≤k)(h1:k<(s.od.length:Int))(hx:s.od[k.toNat]?=some x)(hn:∀m∈fu,0≤m∧m<(s.n:Int))(hf:fu.length≤5):Ks st first (evs++[⟨false,(s.n:Int),x,0⟩]) (s.out k x fu):=by
 B3⟨p1,p2,p3⟩:=w.ahead h0 (N0 h1)
 have xm:x∈s.od:=E4 hx
 have xr:=w.Cj x xm
 B3⟨w1,hn2⟩:=w.o1 hm h0 (N0 h1) (x:=x) A6 xr.2 hn hf
 have hi:=BR w.Tp hx
 have hlen:=BV s k x fu
 have nd0:((0:Int)::s.od).Nodup:=E8.mpr ⟨fun z=>by have:=w.Cj 0 z;omega,w.Tp⟩
 have px:(s.R (s.ahead k)).getD 1 0=x:=by
  have:=h.mem.get k.toNat A6
  rw[B8 (l:=s.od++[0]),G3 A6,hx]at this
  ~this
 have hod:∀y,y∈s.od.eraseIdx k.toNat↔y∈s.od∧y≠x:=fun y=>by rw[←hi];~Jr w.Tp
 have go':∀y,(s.out k x fu).go.get y=if y=x then some (s.n:Int)else s.go.get y:=fun y=>Mp.pY w.goo.1 _ _ _
 have kl:k.toNat<((0:Int)::s.od).length:=by rw[D8];omega
 have gk:((0:Int)::s.od)[k.toNat]?=some (s.ahead k):=gY (d:=0) kl
 have pm0:s.ahead k∈(0:Int)::s.od:=E4 gk
 B3⟨g1,g2,g3,g4⟩:=w.spot p2 p3
 have aG3:(s.ns (s.ahead k) ((s.la.get x).toList++fu)).length≤8:=by
  B4 Wb.ns
  rw[C7,C7]
  have:=mK (s.co.get (s.ahead k))
  have:=mK (s.la.get x)
  omega
 &⟨h.lb.put hm g1 g2 g3 g4 (w.ZG hn2) aG3,fun S hD=>?_,?_⟩
 ·have hD1:Dn (s.wr (s.ahead k) (xu (s.R (s.ahead k)) ((s.R x).getD 1 0)) (s.ns (s.ahead k) ((s.la.get x).toList++fu))).b.asked S:=hD
  B3⟨row,R⟩:=h.rows S (Dn.init (cs:=s.b.asked) hD1)
  have rz:∀y∈(0:Int)::row,0≤y:=fun y hy=>by
   rcases C5.mp hy with z | z
   ·omega
   ·have:=R.bd y z;omega
  have nx2:∀y,0≤y→Wl st s.P (s.out k x fu).b.asked S y=if y=s.ahead k∧S (s.n:Int)=true then(s.R x).getD 1 0 else Wl st s.P s.b.asked S y:=fun y hy=>CK p2 hy
  by_cases c:S (s.n:Int)=true
  ·have nd2:=Mv w p2 p3 hD1 c
   have pm:s.ahead k∈(0:Int)::row:=by
    rcases p1 with z | z
    ·rw[z];~C9
    ·&C6 _ (R.ins _ z fun c0 hc0=>nd2.1 _ (G6 _ ?_))
     rw[hc0]
     ~D9.mpr rfl
   have fp:Wl st s.P s.b.asked S (s.ahead k)=x:=(h.full w p2 p3 nd2.2).trans px
   have fx:Wl st s.P s.b.asked S x=(s.R x).getD 1 0:=h.full w A6 xr.2 fun j hj=>nd2.1 _ (F0 _ (G6 _ (by rw[hj];~D9.mpr rfl)))
   B3⟨x1,x2⟩:=An.era (nx':=Wl st s.P (s.out k x fu).b.asked S) fp A6 (by rw[nx2 _ p2,if_pos ⟨rfl,c⟩,fx]) R.nd pm (fun y hy hyp=>by rw[nx2 _ (rz y hy),if_neg fun z=>hyp z.1]) R.pth
   have x1:x∈row:=x1
   have er:((0:Int)::row).erase x=0::row.erase x:=P6 (by simp;omega)
   have nr:=(E8.mp R.nd).2
   have hme:∀y,y∈row.erase x↔y∈row∧y≠x:=fun y=>by rw[nr.mem_erase_iff];~and_comm
   &⟨row.erase x,?_,?_,fun y hy=>?_,?_,fun y hy hco=>?_,fun y y1 y2 y3 hgo=>?_⟩
   ·rw[qM,R.rep,B9]
    B4 rep1
    rw[if_pos c,if_neg E2,if_neg fun z=>z (C6 _ x1),er]
   ·rw[←er]
    ~R.nd.sublist j5
   ·rw[hlen]
    ~R.bd y ((hme y).mp hy).1
   ·rw[←er]
    ~x2
   ·have hy:=(hod y).mp hy
    ~(hme y).mpr ⟨R.ins y hy.1 hco,hy.2⟩
   ·have y3:y∉s.od.eraseIdx k.toNat:=y3
    rw[hod]at y3
    rw[hlen]at y2
    intro z
    B3⟨z1,z2⟩:=(hme y).mp z
    ~R.out y y1 y2 (fun q=>y3 ⟨q,z2⟩) (fun g hg=>hgo g (by rw[go',if_neg z2];~hg)) z1
  ·&⟨row,?_,R.nd,fun y hy=>by rw[hlen];~R.bd y hy,R.pth.congr fun y hy=>?_,fun y hy hco=>R.ins y ((hod y).mp hy).1 hco,fun y y1 y2 y3 hgo=>?_⟩
   ·rw[qM,R.rep,B9]
    B4 rep1
    rw[if_neg c]
   ·&(nx2 _ (rz y hy)).trans ?_
    rw[if_neg fun z=>c z.2]
   ·have y3:y∉s.od.eraseIdx k.toNat:=y3
    rw[hod]at y3
    rw[hlen]at y2
    by_cases e:y=x
    ·~absurd (hgo _ (by rw[go',if_pos e])) c
    ·~R.out y y1 y2 (fun q=>y3 ⟨q,e⟩) fun g hg=>hgo g (by rw[go',if_neg e];~hg)
 ·have R2:∀y,0≤y→(s.out k x fu).R y=if y=s.ahead k then xu (s.R (s.ahead k)) ((s.R x).getD 1 0)else s.R y:=fun y hy=>ZD (ns:=s.ns (s.ahead k) ((s.la.get x).toList++fu)) p2 p3 hy
  have er:((0:Int)::s.od).erase x=0::s.od.eraseIdx k.toNat:=by
   rw[P6 (by simp;omega),Q5 hi]
  show An _ ((0:Int)::s.od.eraseIdx k.toNat)
  rw[←er]
  &(An.era (nx:=fun y=>(s.R y).getD 1 0) px A6 ?_ nd0 pm0 (fun y hy hyp=>?_) h.mem).2
  ·show ((s.out k x fu).R (s.ahead k)).getD 1 0=(s.R x).getD 1 0
   rw[R2 _ p2,if_pos rfl]
   rfl
  ·have y0:0≤y:=by
    rcases C5.mp hy with z | z
    ·omega
    ·have:=w.Cj y z;omega
   show ((s.out k x fu).R y).getD 1 0=(s.R y).getD 1 0
   rw[R2 _ y0,if_neg hyp]
B5 Ks.cv(h:Ks st first evs s){p:Int}{r:List Int}(hR:PX s.b.asked s.b.held p r)(n:Nat):Ks st first evs (s.cv (r.take n)):=by
 have e1:=jE (r.take n) s.b
 have e2:=(lC (r.take n) s.b).1
 &⟨h.lb.bV hR n,fun S hD=>?_,h.mem⟩
 have ea:(s.cv (r.take n)).b.asked=s.b.asked:=e1
 have eP:(s.cv (r.take n)).P=s.P:=e2
 rw[ea]at hD
 B3⟨row,R⟩:=h.rows S hD
 ~⟨row,R.rep,R.nd,R.bd,by rw[ea,eP];~R.pth,R.ins,R.out⟩
end
B5 jt(a b:Str):Ls (.str a) (.str b)=some (.bl (a==b)):=by
 B4 Ls
 show (if lz (V.str a) (V.str b)=true then _ else _)=_
 rw[show lz (V.str a) (V.str b)=true from rfl,if_pos rfl,Xa]
B5 aIC:(("in" : Str)==("in" : Str))=true:=by simp
B5 aG6:(("out" : Str)==("in" : Str))=false:=by decide +kernel
def Bu(e:Ev):D:=.tup [.str (if e.i=true then "in" else "out"),.int e.n,.int e.b,.int e.a]
noncomputable abbrev aG7:GS:=(qP (fB (f2 uz (aD 5) (aD 2))) (qP (fB (f2 Ls (aD 4) (fC (.str "in")))) (aW (qP (qt (fB (f2 (xq false) (aD 6) (aD 3))) (fB (f2 (xq true) (aD 7) (aD 3)))) (gB (fC .non)) fX)
 (Ym 3 cR (f2 dD (f2 uU (aD 3) (aD 7)) (fC (.int 1))) (aD 6))) (aW (qP (fB (f2 (xq true) (aD 6) (aD 3))) (gB (fC .non)) fX)
 (Sx 3 cR (aD 6)))) fX)
B5 aD5{is:List Nat}{g:GS}{ds xs:List D}{env env':EN}(hl:is.length=ds.length∧is.all (fun i=>decide (i<env.length))=true)(h:g (Dv env is ds)=.next env'):Pj is g (.tup ds::xs) env=Pj is g xs env':=by
 show (if is.length=ds.length∧is.all (fun i=>decide (i<env.length))=true then(match g (Dv env is ds)with
   | .next env'=>Pj is g xs env'
   | .cont env'=>Pj is g xs env'
   | .brk env'=>.next env'
   | r=>r)else .bad)=_
 rw[if_pos hl,h]
B5 ju{l:List Int}{x:Int}(h:x∈l):uU (aJ l) (.int x)=some (.int (l.idxOf x:Nat)):=by
 B4 uU aJ
 dsimp only
 rw[jV,B9,if_pos h]
B5 jw{S:Int→Bool}{sd f e:D}(hS:∀n:Int,uz (.int n) sd=some (.bl (S n))):∀(evs:List Ev)(l l':List Int)(v4 v5 v6 v7:SD),replay S l evs=some l'→l.length+evs.length≤900 →
  ∃w4 w5 w6 w7,Pj [4,5,6,7] aG7 (evs.map Bu) [.fro f,.fro e,.fro sd,.own (aJ l),v4,v5,v6,v7]=.next [.fro f,.fro e,.fro sd,.own (aJ l'),w4,w5,w6,w7]
 | [],l,l',v4,v5,v6,v7,h,_=>by
  cases h
  ~⟨_,_,_,_,rfl⟩
 | x::evs,l,l',v4,v5,v6,v7,h,hl=>by
  B3⟨m,h1,h2⟩:=aX h
  rw[D8]at hl
  have step:aG7 [.fro f,.fro e,.fro sd,.own (aJ l),.fro (.str (if x.i=true then "in" else "out")),.fro (.int x.n),.fro (.int x.b),.fro (.int x.a)]=.next [.fro f,.fro e,.fro sd,.own (aJ m),.fro (.str (if x.i=true then "in" else "out")),.fro (.int x.n),.fro (.int x.b),.fro (.int x.a)]∧m.length≤l.length+1:=by
   B4 rep1 at h1
   by_cases c:S x.n=true
   ·rw[if_pos c]at h1
    by_cases ci:x.i=true
    ·rw[if_pos ci]at h1
     split at h1
     ·cases h1
     ·rename_i q
      cases h1
      rw[not_or]at q
      have qa:x.a∈l:=Decidable.byContradiction q.2
      have hix:l.idxOf x.a<l.length:=R5 qa
      &⟨?_,?_⟩
      ·&KN (cJ (aK rfl rfl (hS x.n))) (fun _=>?_) fun z=>by rw[c]at z;cases z
       &KN (cJ (aK rfl rfl (jt _ _))) (fun _=>?_) fun z=>by rw[if_pos ci,aIC]at z;cases z
       &WT (aBo (cJ (aK rfl rfl (zN false _ _))) (cJ (aK rfl rfl (zN true _ _)))) ?_ (aBn ?_)
       ·rw[if_neg E2,if_pos rfl,decide_eq_false q.1,decide_eq_true qa]
        rfl
       &(aBS (p:=[]) (ns:=l) (k:=(l.idxOf x.a:Nat)+1) rfl rfl rfl (aK (aK rfl rfl (ju qa)) rfl (bR _ _)) rfl A6 A6 A6).trans ?_
       rw[Mu qa,show (((l.idxOf x.a:Nat):Int)+1).toNat=l.idxOf x.a+1 by omega]
       rfl
      ·rw[Mu qa,C7,D8,F3,N6]
       omega
    ·rw[if_neg ci]at h1
     split at h1
     ·cases h1
     ·rename_i q
      cases h1
      have qb:x.b∈l:=Decidable.byContradiction q
      &⟨?_,G1 j5.length_le (L9 _)⟩
      &KN (cJ (aK rfl rfl (hS x.n))) (fun _=>?_) fun z=>by rw[c]at z;cases z
      &KN (cJ (aK rfl rfl (jt _ _))) (fun z=>by rw[if_neg ci,aG6]at z;cases z) fun _=>?_
      &WT (cJ (aK rfl rfl (zN true _ _))) ?_ (aBn ?_)
      ·rw[if_pos rfl,decide_eq_true qb]
       rfl
      &(ZK (p:=[]) (ns:=l) rfl rfl rfl rfl qb).trans ?_
      rw[←Q5 rfl]
      rfl
   ·rw[if_neg c]at h1
    cases h1
    &⟨?_,L9 _⟩
    ~KN (cJ (aK rfl rfl (hS x.n))) (fun z=>absurd z c) fun _=>rfl
  B3⟨w4,w5,w6,w7,hw⟩:=jw hS evs m l' (.fro (.str (if x.i=true then "in" else "out"))) (.fro (.int x.n)) (.fro (.int x.b)) (.fro (.int x.a)) h2 A6
  ~⟨w4,w5,w6,w7,(aD5 ⟨rfl,rfl⟩ step.1).trans hw⟩
B5 Kr{S:Int→Bool}{sd:D}{first row:List Int}{evs:List Ev}(hS:∀n:Int,uz (.int n) sd=some (.bl (S n)))(h:replay S (0::first) evs=some (0::row))(hl:first.length+evs.length≤800)(hr:row.length≤800):oF [aJ first,.lst (evs.map Bu),sd]=some (aJ row):=by
 &oW rfl ?_
 B4 Kf
 &WR (d:=aJ (0::first)) (aK (a:=aJ [0]) (gH (aA rfl rfl) A8) rfl (sX [0] first (by simp;omega))) A9 ?_
 B3⟨w4,w5,w6,w7,hw⟩:=jw (f:=aJ first) (e:=.lst (evs.map Bu)) hS evs (0::first) (0::row) .no .no .no .no h (by rw[D8];omega)
 have hf:KH [] [4,5,6,7] (oK (aD 1)) aG7 [.fro (aJ first),.fro (.lst (evs.map Bu)),.fro sd,.own (aJ (0::first)),.no,.no,.no,.no]=.next [.fro (aJ first),.fro (.lst (evs.map Bu)),.fro sd,.own (aJ (0::row)),w4,w5,w6,w7]:=hw
 &aEJ hf ?_
 &fY ((Px (ns:=0::row) rfl (Bk rfl) rfl).trans ?_)
 rw[show (1:Int)=((1:Nat):Int)from rfl,aGD (by simp)]
 rfl
B5 aD6{ps:List (List (List Int))}{row:List Int}{m R:Nat}(hP:0<ps.length)(hP8:ps.length≤8)(hm:m=ps.length*R)(hR8:R≤8)(hR:(ps.getD 0 []).length=R+1)(hv:∀k,k<m→2≤(val ps (k%ps.length) (k/ps.length)).length)(nd:((0:Int)::row).Nodup)(bd:∀x∈row,1≤x∧x<(m:Int))(hm0:0<m)
  (hp:An (fun x=>(val ps (x.toNat%ps.length) (x.toNat/ps.length)).getD 1 0) (0::row)):rO [iK ps]=some (aJ row):=by
 suffices hh:∃d,rO [iK ps]=some d∧d=aJ row by
  B3⟨d,e,rfl⟩:=hh
  ~e
 have hrl:row.length<m:=by
  have:=kY m (0::row) nd fun x hx=>by
   rcases C5.mp hx with z | z
   ·omega
   ·have:=bd x z;omega
  rw[D8]at this
  omega
 have aB2:m≤64:=by
  rw[hm]
  ~P7 hP8 hR8
 have hPR:(ps.length:Int)*((((ps.getD 0 []).length:Nat):Int)-1)=(m:Int):=by
  rw[hR,hm,V9]
  congr 1
  omega
 have hix:∀{env:EN} {f:FE} {x:Int},(rE env)[0]?=some (some (iK ps))→f (rE env)=some (.int x)→0≤x→x<(m:Int)→f2 fJ (f2 fJ (f2 fJ (aD 0) (f2 fO f (fL jU (aB (aD 0) aO)))) (f2 sO f (fL jU (aB (aD 0) aO)))) (fC (.int 1)) (rE env)=some (.int ((val ps (x.toNat%ps.length) (x.toNat/ps.length)).getD 1 0)):=by
  intro env f x he hf x0 x1
  B3⟨e1,e2⟩:=divmod (P:=ps.length) x0
  have hv:=hv x.toNat A6
  have hml:=T2 x.toNat hP
  have hdl:x.toNat/ps.length<(ps.getD (x.toNat%ps.length) []).length:=by
   &Decidable.byContradiction fun z=>?_
   B4 val at hv
   rw[B8 (l:=ps.getD (x.toNat%ps.length) []),E1 A6]at hv
   simp at hv
  have hL:=fG (aA (pW he) KY) (wD ps)
  &aK (aK (aK (pW he) (aK hf hL (bF A6)) (by rw[e1];~wC (N9 _) A6)) (aK hf hL (dX A6 A6)) (by rw[e2];~Qy (N9 _) (by rw[C8];omega))) rfl ?_
  rw[C8,C8]
  ~rB (k:=1) (by B4 val at hv;omega)
 &sW rfl ?_
 B4 jl
 &cL (d:=.int m) ((aK (fG (aA rfl rfl) (wD ps)) (aK (fG (aA (aK rfl rfl (wC A8 A6)) rfl) (Ho _)) rfl (lM _ _)) (fQ (Dz A6 A6))).trans (by rw[←hPR];rfl)) A9 ?_
 &cL (gH rfl A8) A9 ?_
 have hg:=hp.get
 have h00:f2 fJ (f2 fJ (f2 fJ (aD 0) (fC (.int 0))) (fC (.int 0))) (fC (.int 1)) (rE [.fro (iK ps),.own (.int m),.own (.lst []),.no,.no])=some (.int ((row++[0]).getD 0 0)):=by
  have hv:=hv 0 hm0
  rw[Nat.zero_mod,Nat.zero_div]at hv
  have e0:=hg 0 (M3 _)
  have e0:(val ps (0%ps.length) (0/ps.length)).getD 1 0=(row++[0]).getD 0 0:=e0
  rw[Nat.zero_mod,Nat.zero_div]at e0
  rw[←e0]
  ~aK (aK (aK rfl rfl (wC A8 A6)) rfl (Qy A8 (by rw[show (0:Int).toNat=0 from rfl,hR];omega))) rfl (rB (k:=1) (by B4 val at hv;~hv))
 &cL (bC h00 rfl) A9 ?_
 &ZM (n:=m+1) (fun k env=>k≤row.length∧∃v4,env=[.fro (iK ps),.own (.int m),.own (aJ (row.take k)),.own (.int ((row++[0]).getD k 0)),v4]) (Bj (aA ((aK rfl rfl (bR _ _)).trans (by rw[Int.natCast_succ])) rfl) A6) ⟨M3 _,_,rfl⟩ ?_ ?_
 ·rintro k env hk ⟨hkr,v4,rfl⟩
  &⟨by walk_at "lt", ?_⟩
  by_cases c:k=row.length
  ·have ez:(row++[0]).getD k 0=0:=by
    rw[c,B8,M0 (D1 _),Z0]
    rfl
   rw[ez]
   &aEK (cJ (aK rfl rfl (nM _ _))) (decide_eq_true rfl) ?_
   rw[Gf (Vm (i:=2) rfl),c,N8]
   ~.inr ⟨_,rfl,_,rfl,rfl⟩
  ·have hlt:k<row.length:=by omega
   have ek:(row++[0]).getD k 0=row[k]:=by
    rw[B8,G3 hlt,B6 hlt]
    rfl
   have hb:=bd row[k] (N7 hlt)
   have en:=hg (k+1) A6
   rw[show ((0:Int)::row).getD (k+1) 0=row[k] by rw[B8,Z6,B6 hlt];rfl]at en
   rw[ek]
   &Vp (cJ (aK rfl rfl (nM _ _))) (decide_eq_false A6) (Le ?_)
   &Vp (b:=false) ((aBi (Gg (b:=true) (cJ (aDK rfl rfl)))).trans ((aBi ((cJ (aK rfl rfl (wU _ _))).trans (congrArg some (decide_eq_false A6)))).trans ((cJ (aK rfl rfl (Yp _ _))).trans (congrArg some (decide_eq_false A6))))) rfl (Le ?_)
   &aIq (ds:=(row.take k).map D.int) rfl (bC rfl rfl) (by rw[B7,F3];omega) ?_
   rw[wW,show row.take k++[row[k]]=row.take (k+1) by rw[O4,B6 hlt];rfl]
   &aBr (bC (hix (x:=row[k]) rfl rfl A6 hb.2) rfl) A9 (.inl ⟨_,rfl,hlt,.fro (.int k),?_⟩)
   rw[←en]
   rfl
 ·rintro env ⟨hk,_⟩
  omega
B5 Wm{s:Wb}{at_ c:Int}(ho:0<s.od.length)(hlk:(s.od.map s.key).length=s.od.length)(Rp:∀i j,i<j→j<s.od.length→(s.od.map s.key).getD i 0<(s.od.map s.key).getD j 0)(QT:∀{j:Nat} {x:Int},x∈s.od.take j→∃i,i<j∧i<s.od.length∧s.key x=(s.od.map s.key).getD i 0)(Wn:∀{j:Nat} {x:Int},x∈s.od.drop j→∃i,j≤i∧i<s.od.length∧s.key x=(s.od.map s.key).getD i 0)(p50:(0:Int)<10 ^ (50:Int).toNat) :
  Qs (fun r=>∃d,r=.ret d∧∃key k:Int,d=.int key∧0≤k∧k≤(s.od.length:Int)∧s.Fits k key) (gB (f2 dD (f2 dD (f2 fJ (aD 0) (Dq (fC (.int 1)))) (fC (.int 1))) (f2 fO (aD 2) (f2 Bw (fC (.int 10)) (fC (.int 50))))) [.fro (aJ (s.od.map s.key)),.fro (.int at_),.fro (.int c)]):=by
 have m0:=F6 c (show (10 ^ (50:Int).toNat:Int)≠0 by omega)
 have aID:fJ (aJ (s.od.map s.key)) (.int (-1))=some (.int ((s.od.map s.key).getD (s.od.length-1) 0)):=by
  &aDL ?_
  rw[k9,X9,hlk,gY (d:=0) A6]
  rfl
 &uV (aK (aK (aK rfl (uC rfl) aID) rfl (bR _ _)) (aK rfl (aK rfl rfl (nD ⟨by decide,by decide,by decide⟩)) (bF p50)) (bR _ _)) ⟨_,rfl,_,(s.od.length:Int),rfl,by omega,b9 _,fun x hx=>?_,fun x hx=>?_⟩
 ·B3⟨i,i1,i2,e⟩:=QT hx
  rw[e]
  rcases J2 i (s.od.length-1)with z | z
  ·have:=Rp i (s.od.length-1) z A6
   omega
  ·rw[show i=s.od.length-1 by omega]
   omega
 ·B3⟨i,i1,i2,e⟩:=Wn hx
  omega
B5 aD8{s:Wb}(h:mQ s){at_ c:Int}(a0:0≤at_)(a1:at_≤(s.od.length:Int)):∃key k:Int,Gr [aJ (s.od.map s.key),.int at_,.int c]=some (.int key)∧0≤k∧k≤(s.od.length:Int)∧s.Fits k key:=by
 suffices hh:∃d,Gr [aJ (s.od.map s.key),.int at_,.int c]=some d∧∃key k:Int,d=.int key∧0≤k∧k≤(s.od.length:Int)∧s.Fits k key by
  B3⟨d,e,key,k,rfl,q⟩:=hh
  ~⟨key,k,e,q⟩
 have p58:(0:Int)<10 ^ (58:Int).toNat:=Q8 A8
 have p50:(0:Int)<10 ^ (50:Int).toNat:=Q8 A8
 have hlk:(s.od.map s.key).length=s.od.length:=B7 _
 have hkp:(s.od.map s.key).Pairwise (·<·):=T7.mpr h.key
 have aIE:∀j,j<s.od.length→∀x,s.od[j]?=some x→(s.od.map s.key).getD j 0=s.key x:=fun j _ x hx=>by rw[B8,C4,hx];rfl
 have Rp:∀i j,i<j→j<s.od.length→(s.od.map s.key).getD i 0<(s.od.map s.key).getD j 0:=fun i j hij hj=>by
  have:=K6.mp hkp i j A6 A6 hij
  rw[B8,B6 A6,B8,B6 A6]
  ~this
 have QT:∀{j:Nat} {x:Int},x∈s.od.take j→∃i,i<j∧i<s.od.length∧s.key x=(s.od.map s.key).getD i 0:=fun{j x} hx=>by
  B3⟨i,hi,e⟩:=J1 hx
  rw[F3]at hi
  rw[Q9]at e
  ~⟨i,by omega,by omega,(aIE i A6 x (by rw[B6 A6,e])).symm⟩
 have Wn:∀{j:Nat} {x:Int},x∈s.od.drop j→∃i,j≤i∧i<s.od.length∧s.key x=(s.od.map s.key).getD i 0:=fun{j x} hx=>by
  B3⟨i,hi,e⟩:=J1 hx
  rw[N6]at hi
  rw[List.getElem_drop]at e
  ~⟨j+i,by omega,by omega,(aIE (j+i) A6 x (by rw[B6 A6,e])).symm⟩
 &sW rfl ?_
 B4 jm
 &Yt (cJ (aK rfl (gH rfl A8) (KR _ []))) (fun hb=>?_) (fun hb=>Le ?_)
 ·have hb:=List.map_eq_nil_iff.mp (of_decide_eq_true hb)
  &KZ (aK rfl (aK rfl rfl (nD ⟨by decide,by decide,by decide⟩)) (bF p58)) ⟨_,rfl,_,0,rfl,by decide,by omega,fun x hx=>?_,fun x hx=>?_⟩
  ·rw[hb]at hx;cases hx
  ·rw[hb]at hx;cases hx
 have ho:0<s.od.length:=S0.mpr fun z=>of_decide_eq_false hb (by rw[z];rfl)
 &Yt (cJ (aK rfl rfl (nM _ _))) (fun hb=>?_) (fun hb=>Le ?_)
 ·have m0:=F6 c (show (10 ^ (50:Int).toNat:Int)≠0 by omega)
  &KZ (aK (aK (aK rfl rfl (iY A8 A6)) rfl (lM _ _)) (aK rfl (aK rfl rfl (nD ⟨by decide,by decide,by decide⟩)) (bF p50)) (lM _ _)) ⟨_,rfl,_,0,rfl,by decide,by omega,fun x hx=>(by cases hx),fun x hx=>?_⟩
  B3⟨i,i1,i2,e⟩:=Wn (j:=0) hx
  rw[e]
  show (s.od.map s.key).getD 0 0-1-_<_
  rcases i9 i with z | z
  ·rw[z];omega
  ·have:=Rp 0 i z i2
   omega
 have a0':0<at_:=by have:=of_decide_eq_false hb;omega
 have hlen:fL jU (aB (aD 0) aO) (rE [.fro (aJ (s.od.map s.key)),.fro (.int at_),.fro (.int c)])=some (.int s.od.length):=(fG (aA rfl rfl) (pK _)).trans (by rw[hlk])
 by_cases q1:at_<(s.od.length:Int)
 ·have ex:f2 Di (f2 fJ (aD 0) (aD 1)) (f2 fJ (aD 0) (f2 Di (aD 1) (fC (.int 1)))) (rE [.fro (aJ (s.od.map s.key)),.fro (.int at_),.fro (.int c)])=some (.int ((s.od.map s.key).getD at_.toNat 0-(s.od.map s.key).getD (at_-1).toNat 0)):=aK (aK rfl rfl (iY a0 A6)) (aK rfl (aK rfl rfl (lM _ _)) (iY A6 A6)) (lM _ _)
  &Yt (Yr (cJ (aK rfl hlen (wU _ _))) (cJ (aK ex rfl (Yo _ _)))) (fun hb=>?_) (fun hb=>Le ?_)
  ·rw[G9]at hb
   have hgap:=of_decide_eq_true hb.2
   generalize hA:(s.od.map s.key).getD at_.toNat 0=A at *
   generalize hB:(s.od.map s.key).getD (at_-1).toNat 0=B at *
   have m0:=F6 c (show A-B-1≠0 by omega)
   have m1:=F9 c (show 0<A-B-1 by omega)
   &KZ (aK (aK (aK rfl (aK rfl rfl (lM _ _)) ((iY A6 A6).trans (by rw[hB]))) rfl (bR _ _)) (aK rfl (aK ex rfl (lM _ _)) (bF A6)) (bR _ _)) ⟨_,rfl,_,at_,rfl,a0,a1,fun x hx=>?_,fun x hx=>?_⟩
   ·B3⟨i,i1,i2,e⟩:=QT hx
    rw[e]
    rcases J2 i (at_-1).toNat with z | z
    ·have:=Rp i (at_-1).toNat z A6
     rw[hB]at this
     omega
    ·rw[show i=(at_-1).toNat by omega,hB]
     omega
   ·B3⟨i,i1,i2,e⟩:=Wn hx
    rw[e]
    rcases J2 at_.toNat i with z | z
    ·have:=Rp at_.toNat i z i2
     rw[hA]at this
     omega
    ·rw[show i=at_.toNat by omega,hA]
     omega
  ·~Wm ho hlk Rp QT Wn p50
 ·&Vp (b:=false) ((aBk ((cJ (aK rfl hlen (wU _ _))).trans (congrArg some (decide_eq_false q1))))) rfl (Le ?_)
  ~Wm ho hlk Rp QT Wn p50
B5 aG8{Pr:SR→Prop}{is:List Nat}{gm:GM}{g:GS}{env env':EN}{ds:List D}(h:gm env=some (.tup ds,env'))(hl:is.length=ds.length∧is.all (fun i=>decide (i<env'.length))=true)(hi:D.eU ds=true)(k:Qs Pr (g (oU env' is ds))):Qs Pr (aW (Vk is gm) g env):=by
 have:Vk is gm env=.next (oU env' is ds):=by B4 Vk;rw[h];dsimp only;rw[if_pos ⟨hl,hi⟩]
 rw[eG this]
 ~k
B5 QV{Pr:SR→Prop}{gm:GM}{env env':EN}{d:D}(h:gm env=some (d,env'))(k:Pr (.next env')):Qs Pr (zJ gm env):=by rw[Vu h];~k
B5 aCd{l:List Int}{x:Int}{k:Nat}(hp:l.Pairwise (·<·))(h1:∀y∈l.take k,y<x)(h2:∀y∈l.drop k,x<y)(hk:k≤l.length):sortI (l++[x])=l.take k++x::l.drop k∧(l.take k++x::l.drop k).idxOf x=k∧x∈l.take k++x::l.drop k:=by
 &⟨(Fq ⟨?_,?_⟩).symm,?_,F0 _ C9⟩
 ·&List.perm_middle.trans ?_
  rw[M6]
  ~(List.perm_append_singleton x l).symm
 ·have hp':=hp
  rw[←M6 k l]at hp'
  B3⟨p1,p2,p3⟩:=K7.mp hp'
  &K7.mpr ⟨p1.imp N0,J7.mpr ⟨fun y hy=>N0 (h2 y hy),p2.imp N0⟩,fun a ha b hb=>?_⟩
  rcases C5.mp hb with z | z
  ·rw[z];~N0 (h1 a ha)
  ·~N0 (p3 a ha b z)
 ·have hn:x∉l.take k:=fun z=>Int.lt_irrefl _ (h1 x z)
  rw[List.idxOf_append,if_neg hn,V7,F3]
  omega
B5 aD9{st:List (List (List Int))}{first:List Int}{evs:List Ev}{s:Wb}(V:Ks st first evs s)(h:mQ s)(hm:s.n<123)(he:evs.length≤400)(c:Int):∃s' ZP,Ks st first ZP s'∧mQ s'∧s'.n≤s.n+2∧s'.P=s.P∧s'.b.held=s.b.held∧s'.rs.length=s.rs.length∧ZP.length≤evs.length+1∧zW κ [lH κ s,.lst (evs.map Bu),.int c]=some (.non,[lH κ s',.lst (ZP.map Bu)]):=by
 have o64:=h.aDZ
 have hsl:(sortI s.lo).length=s.lo.length:=(wM s.lo).1.length_eq
 have nil:∀m∈([]:List Int),0≤m∧m<(s.n:Int):=fun m hm=>by cases hm
 have hord:=Rb κ s
 have hlen:∀{env:EN},(rE env)[3]?=some (some (aJ s.od))→fL jU (aB (aD 3) aO) (rE env)=some (.int s.od.length):=fun e=>fG (aA (pW e) rfl) (pK _)
 have cond:∀(j:Int) {env:EN},(rE env)[2]?=some (some (.int c))→(rE env)[3]?=some (some (aJ s.od))→(Dl (fB (f2 Ls (f2 fO (aD 2) (fC (.int 3))) (fC (.int j)))) (fB (f2 RC (aD 3) (lX aO)))) (rE env)=some (decide (c%3=j)&&!decide (s.od=[])):=fun j {env} e2 e3=>Yr (cJ (aK (aK (pW e2) rfl (bF A8)) rfl (nM _ _))) (cJ (aK (pW e3) (gH rfl A8) (CG _)))
 by_cases q1:(decide (c%3=0)&&!decide (s.od=[]))=true
 ·have q1':=q1
  rw[G9]at q1'
  have ho:0<s.od.length:=S0.mpr fun z=>by rw[decide_eq_true z]at q1';cases q1'.2
  have x0:=F6 (c/3) (show (s.od.length:Int)≠0 by omega)
  have x1:=F9 (c/3) (show 0<(s.od.length:Int) by omega)
  generalize hat:c/3%(s.od.length:Int)=at_ at *
  B3⟨x,hx⟩:∃x,s.od[at_.toNat]?=some x:=⟨_,B6 (show at_.toNat<s.od.length by omega)⟩
  have V':=V.out h A6 x0 x1 hx nil A8
  have h':=h.out A6 x0 x1 hx nil A8
  have hlv:=aBU κ h A6 x0 x1 hx nil A8 (nd:=.non) (.inl ⟨rfl,rfl⟩)
  have hn':=aEU s at_ x []
  have hr':=BV s at_ x []
  have eP:(s.out at_ x []).P=s.P:=rfl
  have eH:(s.out at_ x []).b.held=s.b.held:=rfl
  generalize s.out at_ x []=s' at *
  &⟨s',_,V',h',by omega,eP,eH,hr',by rw[C7];~D1 _,Gd rfl fun vs hv=>?_⟩
  match vs,hv with
  | [v0,v1,v2],_=>
   suffices hh:Qs (Sw [true,true,false] .non [lH κ s',.lst ((evs++[Ev.mk false (s.n:Int) x 0]).map Bu)] [v0,v1,v2]) (pB κ [.inn v0 (lH κ s),.inn v1 (.lst (evs.map Bu)),.fro (.int c),.no,.no,.no,.no,.no,.no,.no])from hh
   B4 pB
   &cL (d:=aJ s.od) (bO (nm:=tW) rfl A7 rfl rfl hord) A9 ?_
   &cL (d:=.int (c/3)) (aK rfl rfl (dX A8 A8)) A9 ?_
   &zL (cond 0 rfl rfl) (fun _=>?_) fun z=>by rw[q1]at z;cases z
   &cL (d:=.int at_) ((aK rfl (hlen rfl) (bF A6)).trans (by rw[hat])) A9 ?_
   have hix:fJ (aJ s.od) (.int at_)=some (.int x):=(iY x0 x1).trans (by rw[jW hx])
   have hg:=jO (env:=[.inn v0 (lH κ s),.own (.lst (evs.map Bu)),.fro (.int c),.own (aJ s.od),.own (.int (c/3)),.own (.int at_),.no,.no,.no,.no]) (i:=0) (π:=cR) (C:=κ 1) (m := "leave") (F:=mF κ) (fs:=fun eF eZ=>((zG (f2 fJ (aD 3) (aD 5)) mW) eF eZ).map (·++[.non])) (d0:=lH κ s) (p:=[]) (nm:=tW) (es:=[.int x,.non]) rfl rfl rfl A7 (by
    rw[dY (d:=.int x) (aK rfl rfl hix) rfl]
    rfl) hlv
   have hgt:Vj 1 (fC (.str "out")) (oE (κ 1) "leave" 0 cR (mF κ) (fun eF eZ=>((zG (f2 fJ (aD 3) (aD 5)) mW) eF eZ).map (·++[.non]))) (aB (cN (f2 fJ (aD 3) (aD 5))) (aB (fC (.int 0)) aO)) [.inn v0 (lH κ s),.own (.lst (evs.map Bu)),.fro (.int c),.own (aJ s.od),.own (.int (c/3)),.own (.int at_),.no,.no,.no,.no]=.next [.inn v0 (lH κ s'),.own (.lst ((evs++[Ev.mk false (s.n:Int) x 0]).map Bu)),.fro (.int c),.own (aJ s.od),.own (.int (c/3)),.own (.int at_),.no,.no,.no,.no]:=by
    B4 Vj
    rw[hg]
    dsimp only[fC]
    rw[aA (bC (d:=.int x) (aK rfl rfl hix) rfl) (aA (a:=.int 0) rfl rfl)]
    show (if _ then _ else _)=_
    rw[if_pos ⟨⟨rfl,rfl⟩,rfl,R4 rfl,by rw[B7];omega⟩,J0]
    rfl
   ~Qa rfl hgt rfl ⟨_,.inr ⟨rfl,rfl⟩,_,_,rfl,rfl,_,_,rfl,rfl,rfl⟩
 have q1:=X7.mpr q1
 by_cases q2:(decide (c%3=1)&&!decide (s.od=[]))=true
 ·have q2':=q2
  rw[G9]at q2'
  have ho:0<s.od.length:=S0.mpr fun z=>by rw[decide_eq_true z]at q2';cases q2'.2
  have x0:=F6 (c/3) (show (s.od.length:Int)≠0 by omega)
  have x1:=F9 (c/3) (show 0<(s.od.length:Int) by omega)
  generalize hat:c/3%(s.od.length:Int)=at_ at *
  B3⟨x,hx⟩:∃x,s.od[at_.toNat]?=some x:=⟨_,B6 (show at_.toNat<s.od.length by omega)⟩
  have xr:=h.Cj x (E4 hx)
  have p50:(0:Int)<10 ^ (50:Int).toNat:=Q8 A8
  have hns:(s.ns x []).length≤8:=by
   B4 Wb.ns
   rw[F2]
   have:=mK (s.co.get x)
   omega
  have hre:=ZJ κ h (x:=x) (a:=-1) (b:=c/3%10 ^ (50:Int).toNat) (c:=0) (ns:=[]) (nd:=.non) A6 xr.2 nil A8 (.inl ⟨rfl,rfl⟩)
  have V':=V.rw h (x:=x) (r:=[(s.R x).getD 0 0,(s.R x).getD 1 0,-1,c/3%10 ^ (50:Int).toNat,0]) (ns:=s.ns x []) A6 xr.2 (h.ZG nil) hns A6 rfl
  have h':=h.wr (x:=x) (r:=[(s.R x).getD 0 0,(s.R x).getD 1 0,-1,c/3%10 ^ (50:Int).toNat,0]) (ns:=s.ns x []) A6 xr.2 rfl (h.ZG nil) hns A6 fun _=>rfl
  have hn':=aBP s x [(s.R x).getD 0 0,(s.R x).getD 1 0,-1,c/3%10 ^ (50:Int).toNat,0] (s.ns x [])
  have hr':=tQ s x [(s.R x).getD 0 0,(s.R x).getD 1 0,-1,c/3%10 ^ (50:Int).toNat,0] (s.ns x [])
  have eP:(s.wr x [(s.R x).getD 0 0,(s.R x).getD 1 0,-1,c/3%10 ^ (50:Int).toNat,0] (s.ns x [])).P=s.P:=rfl
  have eH:(s.wr x [(s.R x).getD 0 0,(s.R x).getD 1 0,-1,c/3%10 ^ (50:Int).toNat,0] (s.ns x [])).b.held=s.b.held:=rfl
  generalize s.wr x [(s.R x).getD 0 0,(s.R x).getD 1 0,-1,c/3%10 ^ (50:Int).toNat,0] (s.ns x [])=s' at *
  &⟨s',evs,V',h',by omega,eP,eH,hr',L9 _,Gd rfl fun vs hv=>?_⟩
  match vs,hv with
  | [v0,v1,v2],_=>
   suffices hh:Qs (Sw [true,true,false] .non [lH κ s',.lst (evs.map Bu)] [v0,v1,v2]) (pB κ [.inn v0 (lH κ s),.inn v1 (.lst (evs.map Bu)),.fro (.int c),.no,.no,.no,.no,.no,.no,.no])from hh
   B4 pB
   &cL (d:=aJ s.od) (bO (nm:=tW) rfl A7 rfl rfl hord) A9 ?_
   &cL (d:=.int (c/3)) (aK rfl rfl (dX A8 A8)) A9 ?_
   &zL (cond 0 rfl rfl) (fun z=>by rw[q1]at z;cases z) fun _=>?_
   &zL (cond 1 rfl rfl) (fun _=>?_) fun z=>by rw[q2]at z;cases z
   have hix:fJ (aJ s.od) (.int at_)=some (.int x):=(iY x0 x1).trans (by rw[jW hx])
   &QV (d:=.int s.n) (env':=[.inn v0 (lH κ s'),.inn v1 (.lst (evs.map Bu)),.fro (.int c),.own (aJ s.od),.own (.int (c/3)),.no,.no,.no,.no,.no]) (jO (p:=[]) (nm:=tW) (es:=[.int x,.int (-1),.int (c/3%10 ^ (50:Int).toNat),.int 0,.non]) rfl rfl rfl A7 (by
    rw[dY (d:=.int x) (aK rfl ((aK rfl (hlen rfl) (bF A6)).trans (by rw[hat])) hix) (dY (d:=.int (-1)) (uC rfl) (dY (d:=.int (c/3%10 ^ (50:Int).toNat)) (aK rfl (aK rfl rfl (nD ⟨by decide,by decide,by decide⟩)) (bF p50)) (dY (d:=.int 0) rfl rfl)))]
    rfl) hre) ⟨_,.inr ⟨rfl,rfl⟩,_,_,rfl,rfl,_,_,rfl,rfl,rfl⟩
 have q2:=X7.mpr q2
 by_cases q3:sortI s.lo=[]
 ·&⟨s,evs,V,h,by omega,rfl,rfl,rfl,L9 _,Gd rfl fun vs hv=>?_⟩
  match vs,hv with
  | [v0,v1,v2],_=>
   suffices hh:Qs (Sw [true,true,false] .non [lH κ s,.lst (evs.map Bu)] [v0,v1,v2]) (pB κ [.inn v0 (lH κ s),.inn v1 (.lst (evs.map Bu)),.fro (.int c),.no,.no,.no,.no,.no,.no,.no])from hh
   B4 pB
   &cL (d:=aJ s.od) (bO (nm:=tW) rfl A7 rfl rfl hord) A9 ?_
   &cL (d:=.int (c/3)) (aK rfl rfl (dX A8 A8)) A9 ?_
   &zL (cond 0 rfl rfl) (fun z=>by rw[q1]at z;cases z) fun _=>?_
   &zL (cond 1 rfl rfl) (fun z=>by rw[q2]at z;cases z) fun _=>?_
   &aBu (b:=!decide (sortI s.lo=[])) (cJ (aK (bO (nm:=tW) rfl A7 rfl rfl (QK κ h)) (gH rfl A8) (CG _))) (by rw[decide_eq_true q3];rfl) ?_
   ~aBt ⟨_,.inr ⟨rfl,rfl⟩,_,_,rfl,rfl,_,_,rfl,rfl,rfl⟩
 have hlo:0<s.lo.length:=by rw[←hsl];~S0.mpr q3
 have aKW:s.od.length≤62:=by
  B3⟨b1,b2,b3,b4,b5⟩:=h.new hlo
  have:=kY s.rs.length (0::s.new::s.od) (E8.mpr ⟨fun z=>by
   rcases C5.mp z with y | y
   ·omega
   ·have:=h.Cj 0 y;omega,E8.mpr ⟨b4,h.Tp⟩⟩) fun x hx=>by
   rcases C5.mp hx with z | z
   ·have:=h.pos;omega
   rcases C5.mp z with z | z
   ·omega
   ·have:=h.Cj x z;omega
  simp only[D8]at this
  have:=h.few
  omega
 have a0:=F6 (c/3) (show ((s.od.length:Int)+1)≠0 by omega)
 have a1:=F9 (c/3) (show 0<((s.od.length:Int)+1) by omega)
 B3⟨key,k,hk,g0,g1,fit⟩:=aD8 h (at_:=c/3%((s.od.length:Int)+1)) (c:=c/3/5) a0 A6
 have p50:(0:Int)<10 ^ (50:Int).toNat:=Q8 A8
 have V':=V.ent h hlo hm (key:=key) (was:=-1) (now:=c/3%10 ^ (50:Int).toNat) (fV:=0) g0 g1 nil A8
 have h':=h.ent hlo hm (was:=-1) (now:=c/3%10 ^ (50:Int).toNat) (fV:=0) g0 g1 nil A8 fit
 have hn':=aET s k key (-1) (c/3%10 ^ (50:Int).toNat) 0 []
 have hr':=BP s k key (-1) (c/3%10 ^ (50:Int).toNat) 0 []
 have hen:=aBT κ h hlo hm (was:=-1) (now:=c/3%10 ^ (50:Int).toNat) (fV:=0) g0 g1 nil A8 fit (.inl ⟨rfl,rfl⟩)
 have eP:(s.ent k key (-1) (c/3%10 ^ (50:Int).toNat) 0 []).P=s.P:=rfl
 have eH:(s.ent k key (-1) (c/3%10 ^ (50:Int).toNat) 0 []).b.held=s.b.held:=rfl
 generalize s.ent k key (-1) (c/3%10 ^ (50:Int).toNat) 0 []=s' at *
 have hkp:(s.od.map s.key).Pairwise (·<·):=T7.mpr h.key
 B3⟨so1,so2,so3⟩:=aCd (l:=s.od.map s.key) (x:=key) (k:=k.toNat) hkp (fun y hy=>by
  rw[←g6]at hy
  B3⟨x,hx,rfl⟩:=G5.mp hy
  ~fit.1 x hx) (fun y hy=>by
  rw[←g7]at hy
  B3⟨x,hx,rfl⟩:=G5.mp hy
  ~fit.2 x hx) (by rw[B7];omega)
 &⟨s',_,V',h',by omega,eP,eH,hr',by rw[C7];~D1 _,Gd rfl fun vs hv=>?_⟩
 match vs,hv with
 | [v0,v1,v2],_=>
  suffices hh:Qs (Sw [true,true,false] .non [lH κ s',.lst ((evs++[Ev.mk true ((s.n+1:Nat):Int) s.new (s.ahead k)]).map Bu)] [v0,v1,v2]) (pB κ [.inn v0 (lH κ s),.inn v1 (.lst (evs.map Bu)),.fro (.int c),.no,.no,.no,.no,.no,.no,.no])from hh
  B4 pB
  &cL (d:=aJ s.od) (bO (nm:=tW) rfl A7 rfl rfl hord) A9 ?_
  &cL (d:=.int (c/3)) (aK rfl rfl (dX A8 A8)) A9 ?_
  &zL (cond 0 rfl rfl) (fun z=>by rw[q1]at z;cases z) fun _=>?_
  &zL (cond 1 rfl rfl) (fun z=>by rw[q2]at z;cases z) fun _=>?_
  &zL (b:=!decide (sortI s.lo=[])) (cJ (aK (bO (nm:=tW) rfl A7 rfl rfl (QK κ h)) (gH rfl A8) (CG _))) (fun _=>?_) fun z=>by rw[decide_eq_false q3]at z;cases z
  have Ag:=Ec (fi:=oK (aD 3)) (fr:=[0]) (fc:=nY) (fe:=cN (f2 fJ (fD (κ 1) "record_of" 2 (bM κ) (aD 1) (aB (aD 0) aO) []) (fC (.int 0)))) (e:=rE [.inn v0 (lH κ s),.inn v1 (.lst (evs.map Bu)),.fro (.int c),.own (aJ s.od),.own (.int (c/3)),.no,.no,.no,.no,.no]) (ms:=s.od) (fun _=>true) (fun x=>s.key x) (kO rfl) A6 (fun x hx=>rfl) fun x hx _=>by
   have:=h.Cj x hx
   ~bC (aK (bO (nm:=tW) rfl A7 rfl rfl (oJ κ h A6 this.2)) rfl (rB (k:=0) (by rw[h.five A6 this.2];decide))) rfl
  rw[Q4.mpr fun _ _=>rfl]at Ag
  &cL (d:=aJ (s.od.map s.key)) Ag A9 ?_
  &cL (d:=.int (c/3%((s.od.length:Int)+1))) (aK rfl (aK (hlen rfl) rfl (bR _ _)) (bF A6)) A9 ?_
  &cL (d:=.int key) (bW (aA rfl (aA rfl (aA (aK rfl rfl (dX A8 A8)) rfl))) rfl hk) A9 ?_
  &aG8 (ds:=[.int s.new,.int (s.n+1:Nat)]) (env':=[.inn v0 (lH κ s'),.inn v1 (.lst (evs.map Bu)),.fro (.int c),.own (aJ s.od),.own (.int (c/3)),.own (.int (c/3%((s.od.length:Int)+1))),.own (aJ (s.od.map s.key)),.own (.int key),.no,.no]) (jO (p:=[]) (nm:=tW) (es:=[.int key,.int (-1),.int (c/3%10 ^ (50:Int).toNat),.int 0,.non]) rfl rfl rfl A7 (by
    rw[dY (d:=.int key) rfl (dY (d:=.int (-1)) (uC rfl) (dY (d:=.int (c/3%10 ^ (50:Int).toNat)) (aK rfl (aK rfl rfl (nD ⟨by decide,by decide,by decide⟩)) (bF p50)) (dY (d:=.int 0) rfl rfl)))]
    rfl) hen) ⟨rfl,rfl⟩ rfl ?_
  &cL (d:=.int k) ((aK (fG (aA (aK (b:=aJ [key]) rfl (gH (aA rfl rfl) (R4 rfl)) (sX _ [key] (by rw[B7];simp;omega))) rfl) (Gk (by rw[C7,B7];simp;omega))) rfl (ju (by rw[so1];~so3))).trans (by rw[so1,so2,Q2 g0])) A9 ?_
  &Qa rfl (Qc (p:=[]) (ds:=evs.map Bu) (d:=Bu (Ev.mk true ((s.n+1:Nat):Int) s.new (s.ahead k))) rfl rfl rfl (nO (aA rfl (aA (bC rfl rfl) (aA (bC rfl rfl) (aA (bC (aK (aK (a:=aJ [0]) (gH (aA rfl rfl) A8) rfl (aIx _ A6)) rfl (iY g0 (by simp;omega))) rfl) rfl)))) (R4 rfl)) (by rw[B7];omega)) rfl ⟨_,.inr ⟨rfl,rfl⟩,_,_,rfl,rfl,_,_,rfl,?_,rfl⟩
  rw[J0]
  rfl
B5 aCe(ns:List Int)(hl:ns.length≤63)(hs:∀k∈ns,Small k):aGI κ [.lst (ns.map D.int)]=some (.bl true):=by
 suffices hh:∃d,aGI κ [.lst (ns.map D.int)]=some d∧d=.bl true by
  B3⟨d,e,rfl⟩:=hh
  ~e
 &sW rfl ?_
 B4 aIs
 B3⟨P,R,rs,aZ,od,hb,B⟩:=aB7 (ns:=ns)
 have hlm:=yV P R rs aZ
 have h8:=B.p8
 have h1:=B.p1
 have r1:=B.r1
 have r8:=B.r8
 have hln:jU [bJ (bG P R rs aZ)]=some (.int P):=(wD _).trans (by rw[hlm])
 have hm0:0<P*R:=W5 h1 r1
 have w0':mQ (Wb.first P R rs aZ od):=B.ok
 have aJ5:∀k,k<P*R→(val (bG P R rs aZ) (k%P) (k/P)).length=5:=fun k hk=>by
  B3⟨q,q1,q2⟩:=BZ (R:=R) (cM:=rs) (aZ:=aZ) h1 hk
  B4 val
  rw[jW q1,jW q2]
  ~B.five k hk
 have aJ6:((bG P R rs aZ).getD 0 []).length=R+1:=BX (E4 (i:=0) (by rw[gY (d:=[]) (by rw[hlm];~h1)]))
 have aJ7:∀x:Int,0≤x→x<((P*R:Nat):Int)→val (bG P R rs aZ) (x.toNat%P) (x.toNat/P)=rs.getD x.toNat []:=fun x x0 x1=>by
  B3⟨q,q1,q2⟩:=BZ (R:=R) (cM:=rs) (aZ:=aZ) (b:=x.toNat) h1 A6
  B4 val
  rw[jW q1,jW q2]
 have aIG:An (fun x=>(rs.getD x.toNat []).getD 1 0) (0::od):=An.of fun k hk=>by
  B3⟨key,was,now,fV,e⟩:=B.chain k hk
  have e:rs[((0::od).getD k 0).toNat]?=_:=e
  show (rs.getD ((0::od).getD k 0).toNat []).getD 1 0=_
  rw[jW e]
  rfl
 have bd0:∀y∈(0:Int)::od,0≤y∧y<(P*R:Nat):=fun y hy=>by
  rcases C5.mp hy with z | z
  ·omega
  ·have:=B.Cj y z;omega
 have nd0:((0:Int)::od).Nodup:=E8.mpr ⟨fun z=>by have:=B.Cj 0 z;omega,B.Tp⟩
 have V0:Ks (bG P R rs aZ) od [] (Wb.first P R rs aZ od):=by
  &⟨Am.init (by rw[hlm];~h8),fun S _=>⟨od,rfl,nd0,fun x hx=>by show _∧x<(rs.length:Int);rw[B.len];~B.Cj x hx,aIG.congr fun y hy=>?_,fun x hx _=>hx,fun x _ _ hx _=>hx⟩,aIG⟩
  show (val (bG P R rs aZ) ((y.toNat%(bG P R rs aZ).length:Nat):Int).toNat ((y.toNat/(bG P R rs aZ).length:Nat):Int).toNat).getD 1 0=_
  rw[C8,C8,hlm,aJ7 y (bd0 y hy).1 (bd0 y hy).2]
 have hP0:(Wb.first P R rs aZ od).P=P:=hlm
 have hR0:(Wb.first P R rs aZ od).rs.length=P*R:=B.len
 generalize hst:bG P R rs aZ=st at *
 have own:∀{s:Wb} {evs:List Ev} {row:List Int},Ks st od evs s→mQ s→s.P=P→s.rs.length=P*R→Row st od evs s (inB s.b.held) row→rO [iK s.b.bD]=some (aJ row):=fun{s evs row} V w hP hr Rw=>by
  have shp:=V.lb.shape
  have eP:s.b.bD.length=P:=hP
  have hval:∀k:Nat,val s.b.bD (k%P) (k/P)=Rn st s.b.asked (inB s.b.held) ((k%P:Nat):Int) ((k/P:Nat):Int):=fun k=>V.lb.val _ _
  &aD6 (m:=P*R) (R:=R) A6 A6 (by rw[eP]) r8 ((shp.2 0).trans aJ6) (fun k hk=>?_) Rw.nd (fun x hx=>by rw[←hr];~Rw.bd x hx) hm0 (Rw.pth.congr fun y hy=>?_)
  ·rw[eP,hval]
   B4 Rn
   cases e:Dd s.b.asked (inB s.b.held) ((k%P:Nat):Int) ((k/P:Nat):Int)with
   | none=>
    show 2≤(val st ((k%P:Nat):Int).toNat ((k/P:Nat):Int).toNat).length
    rw[C8,C8,aJ5 k hk]
    decide
   | some j=>
    have:=QS e
    show 2≤(at_ s.b.asked j.toNat).thing.length
    rw[w.th j.toNat (show j.toNat<s.b.asked.length by omega)]
    decide
  ·B4 Wl
   rw[eP,hval,hP]
 have aIH:=own V0 w0' hP0 hR0 (row:=od) ⟨rfl,nd0,fun x hx=>by show _∧x<(rs.length:Int);rw[B.len];~B.Cj x hx,(V0.rows (inB []) (fun k hk=>absurd hk (I0 _))).choose_spec.pth |> fun q=>by
  have:=(V0.rows (inB []) (fun k hk=>absurd hk (I0 _))).choose_spec
  have e:(0:Int)::od=0::(V0.rows (inB []) (fun k hk=>absurd hk (I0 _))).choose:=F1 this.rep
  rw[e]
  ~q,fun x hx _=>hx,fun x _ _ hx _=>hx⟩
 &cL (d:=bJ st) (bW (aA rfl rfl) rfl hb) A9 ?_
 &cL (d:=lH κ (Wb.first P R rs aZ od)) (MF (aA rfl rfl) (by rw[←hst];~aB8 κ B)) A9 ?_
 &cL (d:=aJ od) (bO (nm:=tW) rfl A7 rfl rfl (Rb κ _)) A9 ?_
 have hfo:rO [bJ st]=some (aJ od):=by
  have e:(Wb.first P R rs aZ od).b.bD=st:=hst
  rw[←e]
  ~aIH
 &Vp (b:=false) (cJ (aK rfl (bW (aA rfl rfl) rfl hfo) ((Pz od od).trans (by rw[decide_eq_true rfl];rfl)))) rfl (Le ?_)
 &cL (gH rfl A8) A9 (cL (d:=zO []) rfl A9 ?_)
 B3⟨cells,hcells,c1⟩:∃cells:List Int,jG (oK (qw false (aD 0) (pI (fC (.int 3))) (pI (fC (.int 123))))) [] nY (dW 1 lQ (aB (aD 0) aO)) (zE [.fro (aJ ns),.own (bJ st),.own (lH κ (Wb.first P R rs aZ od)),.own (aJ od),.own (.lst []),.own (zO []),.no,.no,.no,.no,.no])=some (aJ cells)∧cells.length≤60:=by
  have hsp:∀c:Int,∃s:Int,0≤s∧lQ [.int c]=some (.int s):=wu
  &⟨((ns.drop 3).take 120).map fun c=>(hsp c).choose,?_,by rw[B7,F3,N6];omega⟩
  have:=Ec (fi:=oK (qw false (aD 0) (pI (fC (.int 3))) (pI (fC (.int 123))))) (fr:=[]) (fc:=nY) (fe:=dW 1 lQ (aB (aD 0) aO)) (e:=zE [.fro (aJ ns),.own (bJ st),.own (lH κ (Wb.first P R rs aZ od)),.own (aJ od),.own (.lst []),.own (zO []),.no,.no,.no,.no,.no]) (ms:=(ns.drop 3).take 120) (fun _=>true) (fun c=>(hsp c).choose) (kO ((Px rfl (Bk rfl) (Bk rfl)).trans (by rw[show (3:Int)=((3:Nat):Int)from rfl,show (123:Int)=((123:Nat):Int)from rfl,aBx]))) (by rw[F3];omega) (fun m hm=>rfl) fun m hm _=>bW (aA rfl rfl) rfl (hsp m).choose_spec.2
  rw[Q4.mpr fun _ _=>rfl]at this
  ~this
 have odl:od.length≤64:=by
  have:=w0'.aDZ
  ~this
 &je (xs:=cells.map D.int) (fun n env=>∃(s:Wb)(evs:List Ev)(v6 v7 v8 v9 v10:SD),env=[.fro (aJ ns),.own (bJ st),.own (lH κ s),.own (aJ od),.own (.lst (evs.map Bu)),.own (zO s.b.held),v6,v7,v8,v9,v10]∧Ks st od evs s∧mQ s∧s.n≤2*n∧s.P=P∧s.rs.length=P*R∧evs.length≤n) rfl (kO hcells) ⟨_,[],_,_,_,_,_,rfl,V0,w0',D1 _,hP0,hR0,D1 _⟩ ?_ ?_
 ·rintro n x env hx ⟨s,evs,v6,v7,v8,v9,v10,rfl,V,h,hn,hP,hr,hev⟩
  &⟨by walk_at "lt", ?_⟩
  rw[C4]at hx
  B3⟨c,hc,rfl⟩:=lJ hx
  have hnc:=(D4.mp hc).1
  &cL (d:=.int (c/3)) (aK rfl rfl (dX A8 A8)) A9 ?_
  apply zL (b:=decide (c%3=0))
  ·~cJ (aK (aK rfl rfl (bF A8)) rfl (nM _ _))
  ·intro _
   have p0:=F6 (c/3/9) (show (P:Int)≠0 by omega)
   have p1:=F9 (c/3/9) (show 0<(P:Int) by omega)
   have tail:∀(r:List Int)(t:Nat),PX s.b.asked s.b.held (c/3/9%(P:Int)) r→Qs (fun r=>∃env',r=.next env'∧∃(s:Wb)(evs:List Ev)(v6 v7 v8 v9 v10:SD),env'=[.fro (aJ ns),.own (bJ st),.own (lH κ s),.own (aJ od),.own (.lst (evs.map Bu)),.own (zO s.b.held),v6,v7,v8,v9,v10]∧Ks st od evs s∧mQ s∧s.n≤2*(n+1)∧s.P=P∧s.rs.length=P*R∧evs.length≤n+1) ((aW (Oe [8] 9 (oK (aD 8)) (pG 5 cR (aD 9) (fC (.bl true))))
 (aW (cV 10 (dW 3 oF (aB (aD 3) (aB (aD 4) (aB (aD 5) aO)))))
 (qP (qt (fB (f2 (Io false) (aD 10) (fC .non))) (fB (f2 RC (dW 1 rO (aB (fD (κ 0) "stone" 1 (qH κ) (pJ (dJ (κ 1) "bench") (aD 2)) aO []) aO)) (aD 10)))) (gB (fC (.bl false))) fX))) [.fro (aJ ns),.own (bJ st),.own (lH κ (s.cv (r.take t))),.own (aJ od),.own (.lst (evs.map Bu)),.own (zO s.b.held),.fro (.int c),.own (.int (c/3)),.own (aJ (r.take t)),v9,v10]):=by
    intro r t hR
    have V':=V.cv hR t
    have hnd:(r.take t).Nodup:=(hR.1.sublist (M5 _ _)).imp fun q=>Int.ne_of_lt q
    have hrm:∀x∈r.take t,(0≤x∧x<(s.n:Int))∧x∉s.b.held:=fun x hx=>by
     have:=((hR.2.2 x).mp (L5 hx)).1
     ~⟨⟨this.1,this.2.1⟩,this.2.2.2⟩
    B3⟨h',_,e2,e3⟩:=h.cv hnd (fun x hx=>(hrm x hx).1) fun x hx=>(hrm x hx).2
    have eh:(s.cv (r.take t)).b.held=s.b.held++r.take t:=pD _ _
    have hhl:s.b.held.length≤124:=G1 h.bn.nums.len h.ZF
    have hrl:(r.take t).length≤124:=by
     have:=hR.2.1
     have:=h.ZF
     rw[F3]
     show min t r.length≤124
     have:r.length≤s.b.asked.length:=hR.2.1
     have:s.b.asked.length≤124:=h.ZF
     omega
    &je (xs:=(r.take t).map D.int) (fun j env=>∃v9,env=[.fro (aJ ns),.own (bJ st),.own (lH κ (s.cv (r.take t))),.own (aJ od),.own (.lst (evs.map Bu)),.own (zO (s.b.held++(r.take t).take j)),.fro (.int c),.own (.int (c/3)),.fro (aJ (r.take t)),v9,v10]) rfl (kO rfl) ⟨_,by rw[r9,F2];rfl⟩ ?_ ?_
    ·rintro j x env hx ⟨v9,rfl⟩
     &⟨by walk_at "lt", ?_⟩
     rw[C4]at hx
     B3⟨y,hy,rfl⟩:=lJ hx
     have hj:=(D4.mp hy).1
     have hny:y∉s.b.held++(r.take t).take j:=fun z=>by
      rcases G0.mp z with z | z
      ·~(hrm y (E4 hy)).2 z
      ·B3⟨i,hi,ei⟩:=J1 z
       rw[F3]at hi
       rw[Q9]at ei
       ~K6.mp hnd i j A6 hj A6 (ei.trans (D4.mp hy).2.symm)
     &⟨_,aEL (ks:=s.b.held++(r.take t).take j) (k:=y) rfl rfl rfl (by rw[C7,F3];omega),.fro (.int y),?_⟩
     have ea:Yv (s.b.held++(r.take t).take j) y=s.b.held++(r.take t).take (j+1):=by
      B4 Yv
      rw[if_neg hny,O3,O4,hy]
      rfl
     rw[ea]
     rfl
    ·rintro env ⟨v9,rfl⟩
     rw[B7,N8,←eh]
     B3⟨row,Rw⟩:=V'.rows (inB (s.cv (r.take t)).b.held) V'.lb.dn
     have hown:=own V' h' (e3.trans hP) hr Rw
     have hrl:row.length≤800:=by
      have hh:=kY (P*R) row (E8.mp Rw.nd).2 fun x hx=>by have:=Rw.bd x hx;have:(s.cv (r.take t)).rs.length=P*R:=hr;omega
      have:P*R≤8*8:=P7 h8 r8
      omega
     have aG9:=Kr (sd:=zO (s.cv (r.take t)).b.held) (fun m=>(Pu false m (s.cv (r.take t)).b.held).trans (by rw[if_neg E2];rfl)) Rw.rep A6 hrl
     &cL (d:=aJ row) (bW (aA rfl (aA rfl (aA rfl rfl))) rfl aG9) A9 ?_
     have e8:(s.cv (r.take t)).b.bD.length≤8:=h'.bn.few
     &aBu (b:=false) ((aBi (cJ (b:=false) (aK rfl rfl rfl))).trans (cJ (aK (bW (aA (bO (nm:=Tn) (cQ rfl (mY w0 rfl)) A7 rfl rfl (wy κ e8)) rfl) rfl hown) rfl ((Pz row row).trans (by rw[decide_eq_true rfl];rfl))))) rfl ?_
     ~aBt ⟨_,rfl,s.cv (r.take t),evs,_,_,_,_,_,rfl,V',h',by have:(s.cv (r.take t)).n=s.n:=e2;omega,e3.trans hP,hr,by omega⟩
   have ew:∀(r:List Int)(t:Nat),PX s.b.asked s.b.held (c/3/9%(P:Int)) r→D.ins (κ 1) tW [cW (κ 0) (s.b.bV (r.take t)),YX s.P s.rs.length,aJ s.od,aJ s.lo,Lj s.la,Lj s.co,Lj s.go]=lH κ (s.cv (r.take t)):=fun r t hR=>by
    B4 lH
    rw[show (s.cv (r.take t)).P=s.P from(lC (r.take t) s.b).1]
    rfl
   have harg:∀{env:EN},(rE env)[7]?=some (some (.int (c/3)))→(rE env)[1]?=some (some (bJ st))→f2 fO (f2 sO (aD 7) (fC (.int 9))) (fL jU (aB (aD 1) aO)) (rE env)=some (.int (c/3/9%(P:Int))):=fun e7 e1=>aK (aK (pW e7) rfl (dX A8 A8)) (fG (aA (pW e1) rfl) hln) (bF A6)
   have hp1:c/3/9%(P:Int)<(s.b.bD.length:Int):=by rw[show s.b.bD.length=P from hP];~p1
   apply Yt (b:=decide (c/3%3=0))
   ·~cJ (aK (aK rfl rfl (bF A8)) rfl (nM _ _))
   ·intro _
    B3⟨r,hR,hcv⟩:=QB κ h.bn (p:=c/3/9%(P:Int)) (most:=.int (c/3/3%3)) p0 hp1 (.inr ⟨_,rfl⟩)
    have hcv:=hcv (r.take (c/3/3%3).toNat) (fun z=>by cases z) fun m z=>by cases z;rfl
    &Iw (d:=aJ (r.take (c/3/3%3).toNat)) (env':=[.fro (aJ ns),.own (bJ st),.own (lH κ (s.cv (r.take (c/3/3%3).toNat))),.own (aJ od),.own (.lst (evs.map Bu)),.own (zO s.b.held),.fro (.int c),.own (.int (c/3)),v8,v9,v10]) ((jO (p:=[L2.Step.fld (κ 1) "bench"]) (nm:=Tn) (es:=[.int (c/3/9%(P:Int)),.int (c/3/3%3)]) rfl rfl (vA w0 rfl) A7 (by
     rw[dY (d:=.int (c/3/9%(P:Int))) (harg rfl rfl) (dY (d:=.int (c/3/3%3)) (aK (aK rfl rfl (dX A8 A8)) rfl (bF A8)) rfl)]
     rfl) hcv).trans (by
     rw[vB w0 rfl,←ew r _ hR]
     rfl)) A9 (tail r _ hR)
   ·intro _
    B3⟨r,hR,hcv⟩:=QB κ h.bn (p:=c/3/9%(P:Int)) (most:=.non) p0 hp1 (.inl rfl)
    have hcv:=hcv r (fun _=>rfl) fun m z=>by cases z
    have et:r.take r.length=r:=N8
    have tl:=tail r r.length hR
    rw[et]at tl
    have ewr:=ew r r.length hR
    rw[et]at ewr
    &Iw (d:=aJ r) (env':=[.fro (aJ ns),.own (bJ st),.own (lH κ (s.cv r)),.own (aJ od),.own (.lst (evs.map Bu)),.own (zO s.b.held),.fro (.int c),.own (.int (c/3)),v8,v9,v10]) ((jO (p:=[L2.Step.fld (κ 1) "bench"]) (nm:=Tn) (es:=[.int (c/3/9%(P:Int)),.non]) rfl rfl (vA w0 rfl) A7 (by
     rw[dY (d:=.int (c/3/9%(P:Int))) (harg rfl rfl) rfl]
     rfl) hcv).trans (by
     rw[vB w0 rfl,←ewr]
     rfl)) A9 tl
  ·intro _
   B3⟨s',ZP,V',h',hn',hP',hH',hr',aMh,hstep⟩:=aD9 κ V h A6 A6 (c/3)
   have hg:JZ (.ch 2::.ch 4::.rd (aD 7)::[]) (zW κ) [.fro (aJ ns),.own (bJ st),.own (lH κ s),.own (aJ od),.own (.lst (evs.map Bu)),.own (zO s.b.held),.fro (.int c),.own (.int (c/3)),v8,v9,v10]=some (.non,[.fro (aJ ns),.own (bJ st),.own (lH κ s'),.own (aJ od),.own (.lst (ZP.map Bu)),.own (zO s.b.held),.fro (.int c),.own (.int (c/3)),v8,v9,v10]):=(aBV (ds':=[lH κ s',.lst (ZP.map Bu)]) (Mj:=[lH κ s,.lst (evs.map Bu)]) (JX:=[.int (c/3)]) rfl (aEV (aEV (aIA rfl rfl))) hstep).trans rfl
   &QV hg ⟨_,rfl,s',ZP,_,_,_,_,_,by rw[hH'],V',h',by omega,hP'.trans hP,hr'.trans hr,by omega⟩
 ·rintro env ⟨s,evs,v6,v7,v8,v9,v10,rfl,V,h,hn,hP,hr,hev⟩
  rw[B7]at hev
  have hall:Dn s.b.asked (inB ((D2 s.b.asked.length).map fun k=>((k:Nat):Int))):=fun k hk _ m hm=>by
   have:=(h.bn.good.2 k hk).1 m hm
   ~decide_eq_true (G5.mpr ⟨m.toNat,F5.mpr A6,by omega⟩)
  B3⟨row,Rw⟩:=V.rows _ hall
  have hrl:row.length≤800:=by
   have hh:=kY (P*R) row (E8.mp Rw.nd).2 fun x hx=>by have:=Rw.bd x hx;omega
   have:P*R≤8*8:=P7 h8 r8
   omega
  have z1:(0:Int)∉row:=(E8.mp Rw.nd).1
  have z2:(0:Int)∉s.od:=fun z=>by have:=h.Cj 0 z;omega
  have er:row=s.od:=by
   &An.one z1 z2 Rw.pth (V.mem.congr fun y hy=>?_)
   have y01:0≤y∧y<(s.rs.length:Int):=by
    rcases C5.mp hy with z | z
    ·have:=h.pos;omega
    ·have:=h.Cj y z;omega
   &V.full h y01.1 y01.2 fun k hk=>?_
   have e:=h.las y.toNat A6
   rw[show ((y.toNat:Nat):Int)=y by omega,hk]at e
   have:=wA e.symm
   ~decide_eq_true (G5.mpr ⟨k.toNat,F5.mpr A6,by omega⟩)
  have aG9:=Kr (sd:=aJ ((D2 s.b.asked.length).map fun k=>((k:Nat):Int))) (fun m=>(zN false m _).trans (by rw[if_neg E2];rfl)) Rw.rep A6 hrl
  have ZF:s.b.asked.length≤124:=h.ZF
  have hlr:pJ Ik (fL jU (aB (fD (κ 0) "changes" 1 (nF κ) (pJ (dJ (κ 1) "bench") (aD 2)) aO []) aO)) (rE [.fro (aJ ns),.own (bJ st),.own (lH κ s),.own (aJ od),.own (.lst (evs.map Bu)),.own (zO s.b.held),v6,v7,v8,v9,v10])=some (aJ ((D2 s.b.asked.length).map fun k=>((k:Nat):Int))):=cQ (fG (aA (bO (nm:=Tn) (cQ rfl (mY w0 rfl)) A7 rfl rfl (PQ κ)) rfl) (Mm _)) (WY A6)
  &uV (aK (bO (nm:=tW) rfl A7 rfl rfl (Rb κ s)) (bW (aA rfl (aA rfl (aA hlr rfl))) rfl aG9) (KR s.od row)) ⟨_,rfl,?_⟩
  rw[er,decide_eq_true rfl]
end Rs

def PySem.W.Fast.tw6648778833870587168:Unit:=()
def PySem.W.Fast.tw8314214800206000824:Unit:=()
def PySem.W.Fast.tw4111084406819923555:Unit:=()
def PySem.W.Fast.tw16342480514292399295:Unit:=()
def PySem.W.Fast.tw16810107805538085926:Unit:=()
def PySem.W.Fast.tw10313717402964147869:Unit:=()
def PySem.W.Fast.tw13964911459053110617:Unit:=()
def PySem.W.Fast.tw15588833761609662231:Unit:=()
def PySem.W.Fast.tw6599775572378296568:Unit:=()
def PySem.W.Fast.tw8221841245112743567:Unit:=()
def PySem.W.Fast.tw7408890677171677882:Unit:=()
def PySem.W.Fast.tw239715920484854060:Unit:=()
def PySem.W.Fast.tw6128253295106940161:Unit:=()
def PySem.W.Fast.tw5446446413281096149:Unit:=()
def PySem.W.Fast.tw10944583476708176549:Unit:=()
def PySem.W.Fast.tw16335829318260448595:Unit:=()
def PySem.W.Fast.tw17087928260587869757:Unit:=()
def PySem.W.Fast.tw4557895065904154456:Unit:=()
def PySem.W.Fast.tw12357247856158626235:Unit:=()
def PySem.W.Fast.tw12813102036639227112:Unit:=()
def PySem.W.Fast.tw16401212375272187471:Unit:=()
def PySem.W.Fast.tw4500868052801537385:Unit:=()
def PySem.W.Fast.tw6768368834841871782:Unit:=()
def PySem.W.Fast.tw4537695089463529960:Unit:=()
def PySem.W.Fast.tw8352887303788930431:Unit:=()
namespace Rs
open PySem L2
B5 CN{K:aF}{f:Addr}{oc:Value}{od:Option Addr}{fd:FuncData}{sl:Array (Option Value)}(l:K.lookup f=some ⟨oc,od,.func fd,sl⟩):K8 K (.ref f)=true:=by
 B4 K8
 dsimp only
 rw[l]
B5 CP{K:aF}{f:Addr}{od:Option Addr}{fd:FuncData}{sl:Array (Option Value)}(l:K.lookup f=some ⟨.type "function", od,.func fd,sl⟩):P9 K (.ref f)=true:=by
 B4 P9 o8
 dsimp only
 rw[l]
 show (some (Value.type "function")==some (Value.type "function"))=true
 decide +kernel
B5 aJ8{K:aF}{h:Heap}{mg:Str→Option Value}{x:Str}{st:Stmt}{f:Addr}{oc:Value}{od an:Option Addr}{osl:Array (Option Value)}{kV doc pm cdv ct:Value}(X:K.In h)(G:h.Ns mainGlobals mg)(a:S6 K mainGlobals x=some (some (.ref f)))(l:K.lookup f=some ⟨oc,od,.func (G2 x x (eQ st) (cC st) (aL st) .none kV doc pm an cdv ct),osl⟩)(c:L4 K cdv x=true):Raw K mg x st:=aFM X G a l c (CN l)
B5 rM{K:aF}{C f:Addr}{nm q:Str}{st:Stmt}{kV dc pm cd ct:Value}{od an:Option Addr}{sl:Array (Option Value)}(a:F8 K (.ref C) nm=some (some (.ref f)))(l:K.lookup f=some ⟨.type "function", od,.func (G2 nm q (eQ st) (cC st) (aL st) .none kV dc pm an cd ct),sl⟩) (c:L4 K cd q=true):fM K C nm q st false:=aDs a (CP l) l c (CN l)
B5 rD{K:aF}{C f T:Addr}{nm q:Str}{st:Stmt}{kV dc pm cd ct ot:Value}{od an dt:Option Addr}{sl s2:Array (Option Value)}{nt:Nat}(a:F8 K (.ref C) nm=some (some (.ref f)))(l:K.lookup f=some ⟨.type "function", od,.func (G2 nm q (eQ st) (cC st) (aL st) (.ref T) kV dc pm an cd ct),sl⟩) (c:L4 K cd q=true) (t:K.lookup T=some ⟨ot,dt,.seq #[.none] nt,s2⟩):fM K C nm q st true:=aA4 a (CP l) l c (CN l) t
B5 rI{K:aF}{h:Heap}{mg:Str→Option Value}(X:K.In h)(G:h.Ns mainGlobals mg){C f:Addr}{cn q:Str}{st:Stmt}{kV dc pm cd ct:Value}{od an:Option Addr}{sl:Array (Option Value)}(x:S6 K mainGlobals cn=some (some (.ref C)))(a:F8 K (.ref C) "__init__" = some (some (.ref f))) (l:K.lookup f=some ⟨.type "function", od,.func (G2 "__init__" q (eQ st) (cC st) (aL st) .none kV dc pm an cd ct),sl⟩) (c:L4 K cd q=true) (m:V1 K C=true) (k:K8 K (.ref C)=true):JG K mg cn C q st:=aDt X G x a (CP l) l c m k
B5 cX{K:aF}{h:Heap}{C:Addr}{P:Addr→Prop}{cn:Str}(X:K.In h)(a:S6 K mainGlobals cn=some (some (.ref C)))(p:P C):∃C,P C:=⟨C,p⟩
B5 cF{K:aF}{C:Addr}{fn:List Str}(a:R6 K C Str.empty=true)(b:T5 K C=true)(c:X3 K C=true)(d:F8 K (.ref C) "__setattr__" = some (some (.builtin "object.__setattr__"))) (e:∀x∈fn,F8 K (.ref C) x=some none):jC K C fn:=⟨⟨a,b,c,d⟩,e⟩
B5 walk{l:n8}{q:Program}{loose:List Str}{XP:(Str→Option Value)→Heap→Prop}{YP:World→Heap→Prop}{d:DefRec}{K:Params→aF}(hn:l.most=some 63)(hdf:d.params.defaults=[])(hdn:d.name = "law")
  (hY:∀(w:World)(h:Heap),YP w h→(K w.params).In h)
  (F:∀(w:World)(mg:Str→Option Value)(h:Heap),(K w.params).In h→h.Ns mainGlobals mg→(∃C:Addr,jC (K w.params) C iZ∧JG (K w.params) mg "Bench" C "Bench.__init__" sY∧fM (K w.params) C "check_pane" "Bench.check_pane" qT false∧fM (K w.params) C "check_place" "Bench.check_place" pN false∧fM (K w.params) C "seen" "Bench.seen" Ej false∧fM (K w.params) C "check_change" "Bench.check_change" oY false∧fM (K w.params) C "put" "Bench.put" Jd true∧fM (K w.params) C "strike" "Bench.strike" xH false∧fM (K w.params) C "carve" "Bench.carve" uI true∧fM (K w.params) C "stone" "Bench.stone" uJ false∧fM (K w.params) C "changes" "Bench.changes" uW false)∧(∃C:Addr,jC (K w.params) C dZ∧JG (K w.params) mg "Weaver" C "Weaver.__init__" uE∧fM (K w.params) C "order" "Weaver.order" wY false∧fM (K w.params) C "record_of" "Weaver.record_of" qU false∧fM (K w.params) C "write" "Weaver.write" wZ false∧fM (K w.params) C "coming_in" "Weaver.coming_in" qW false∧fM (K w.params) C "write_tied" "Weaver.write_tied" pO false∧fM (K w.params) C "further_needs" "Weaver.further_needs" mX false∧fM (K w.params) C "rewrite" "Weaver.rewrite" tE true∧fM (K w.params) C "box_ahead" "Weaver.box_ahead" qX false∧fM (K w.params) C "link" "Weaver.link" zU false∧fM (K w.params) C "last_change" "Weaver.last_change" pA false∧fM (K w.params) C "leave" "Weaver.leave" xF true∧fM (K w.params) C "free" "Weaver.free" zV false∧fM (K w.params) C "going_out" "Weaver.going_out" qY false∧fM (K w.params) C "enter" "Weaver.enter" rP true)∧Raw (K w.params) mg "_law_cell" Qe∧Raw (K w.params) mg "_law_sizes" Iz∧Raw (K w.params) mg "_law_mixed" Ja∧Raw (K w.params) mg "_law_record" Ef∧Raw (K w.params) mg "_law_built" vR∧Raw (K w.params) mg "thing_at" Qh∧Raw (K w.params) mg "spot_of" Yz∧Raw (K w.params) mg "record_at" Jb∧Raw (K w.params) mg "string_of" Jc∧Raw (K w.params) mg "many_boxes" Eg∧Raw (K w.params) mg "loose_boxes" uD∧Raw (K w.params) mg "_law_own" Zb∧Raw (K w.params) mg "_law_spread" Ei∧Raw (K w.params) mg "_law_visible" zR∧Raw (K w.params) mg "known" Zc∧Raw (K w.params) mg "_law_key" Ze∧Raw (K w.params) mg "_law_done" Gu∧Raw (K w.params) mg "ripe_among" xG∧Raw (K w.params) mg "law" aDQ∧mg "len" = none∧mg "abs" = none∧mg "list" = none∧mg "range" = none∧mg "isinstance" = none∧mg "int" = none∧mg "sorted" = none∧mg "set" = none∧mg "tuple" = none∧mg "min" = none∧mg "all" = none∧mg "max" = none∧iD mg "HEAD" (0)∧iD mg "NEXT" (1)∧iD mg "THING" (2)∧iD mg "KEY" (0)∧iD mg "WAS" (2)∧iD mg "NOW" (3)∧iD mg "AGE" (4)∧iD mg "NEEDS" (3)∧iD mg "PANE" (0)∧iD mg "PLACE" (1)) :
  u0 q loose XP YP l.row.toRowW d [] (fun f vs=>m9 f vs):=by
 &L2.ue (n:=63) (k:=9) (x := "script") (CX:=fun _=>CQ) (sp:=fun w=>spB (K w.params)) hn A8 hdf ⟨rfl,by decide,by decide⟩ hY ?_ (fun _ _ a ns hl hb _ hS=>⟨a,ns,rfl,hS,hl,hb,fun _=>rfl⟩) fun _ _ _ _ _ z=>z
 intro w mg fa h KX G hmg
 B3⟨⟨C0,aY,RBenchInit,RBenchCheckPane,RBenchCheckPlace,RBenchSeen,RBenchCheckChange,RBenchPut,RBenchStrike,RBenchCarve,RBenchStone,RBenchChanges⟩,⟨C1,aQ,RWeaverInit,RWeaverOrder,RWeaverRecordOf,RWeaverWrite,RWeaverComingIn,RWeaverWriteTied,RWeaverFurtherNeeds,RWeaverRewrite,RWeaverBoxAhead,RWeaverLink,RWeaverLastChange,RWeaverLeave,RWeaverFree,RWeaverGoingOut,RWeaverEnter⟩,RLawCell,RLawSizes,RLawMixed,RLawRecord,RLawBuilt,RThingAt,RSpotOf,RRecordAt,RStringOf,RManyBoxes,RLooseBoxes,RLawOwn,RLawSpread,RLawVisible,RKnown,RLawKey,RLawDone,RRipeAmong,RLaw,gC,aGJ,iH,jP,zY,aGK,rT,aGL,XS,aGP,aGQ,aGR,Cy,vX,Jg,Zm,aGM,aGN,aGO,YD,aBF,YF⟩:=F w mg h KX G
 B3⟨κ,e0,e1⟩:∃κ:Nat→Addr,κ 0=C0∧κ 1=C1:=⟨(fun n=>match n with | 0=>C0 | _=>C1),rfl,rfl⟩
 subst e0 e1
 B3⟨f,fd,FL,m⟩:=RLaw.ex
 rw[hdn]at hmg
 have e:=hmg.symm.trans m
 cases e
 &⟨fd,VL FL (fun _ _ _ _ _ _ u=>rfl),fun base _ _=>?_⟩
 have qI:=XF (P:=l.prog) (w:=w) (mg:=mg) (base:=base) RLawCell  gC
 have Je:=MT (P:=l.prog) (w:=w) (mg:=mg) (base:=base) RLawSizes qI
 have mG:=NB (P:=l.prog) (w:=w) (mg:=mg) (base:=base) RLawMixed
 have xJ:=Zf (P:=l.prog) (w:=w) (mg:=mg) (base:=base) RLawRecord mG  aGJ
 have Jm:=NK (P:=l.prog) (w:=w) (mg:=mg) (base:=base) RLawBuilt Je qI mG xJ  iH jP gC
 have Ek:=Zg (P:=l.prog) (w:=w) (mg:=mg) (base:=base) RBenchInit aY  iH
 have Qn:=XH (P:=l.prog) (w:=w) (mg:=mg) (base:=base) RThingAt
 have Bo:=vo (P:=l.prog) (w:=w) (mg:=mg) (base:=base) RSpotOf  gC
 have Bp:=NQ (P:=l.prog) (w:=w) (mg:=mg) (base:=base) RRecordAt Bo Qn
 have sG:=NT (P:=l.prog) (w:=w) (mg:=mg) (base:=base) RStringOf Bp  iH Cy vX
 have pP:=Zh (P:=l.prog) (w:=w) (mg:=mg) (base:=base) RManyBoxes  gC
 have zX:=Tc (P:=l.prog) (w:=w) (mg:=mg) (base:=base) RLooseBoxes sG pP  jP Cy
 have Ab:=Td (P:=l.prog) (w:=w) (mg:=mg) (base:=base) RWeaverInit aY aQ Ek pP Bo sG zX  jP
 have jZ:=Qo (P:=l.prog) (w:=w) (mg:=mg) (base:=base) RWeaverOrder aQ  iH
 have Mt:=vp (P:=l.prog) (w:=w) (mg:=mg) (base:=base) RLawOwn  gC jP zY aGK
 have Es:=Zj (P:=l.prog) (w:=w) (mg:=mg) (base:=base) RLawSpread
 have uL:=Tf (P:=l.prog) (w:=w) (mg:=mg) (base:=base) RLawVisible
 have iT:=Gx (P:=l.prog) (w:=w) (mg:=mg) (base:=base) RBenchCheckPane aY  gC
 have gP:=El (P:=l.prog) (w:=w) (mg:=mg) (base:=base) RBenchCheckPlace aY iT  gC
 have Em:=Zk (P:=l.prog) (w:=w) (mg:=mg) (base:=base) RBenchSeen aY gP  Jg
 have bK:=Gz (P:=l.prog) (w:=w) (mg:=mg) (base:=base) RWeaverRecordOf aQ aY Em
 have gA:=Ce (P:=l.prog) (w:=w) (mg:=mg) (base:=base) RBenchCheckChange aY  gC
 have Jh:=OJ (P:=l.prog) (w:=w) (mg:=mg) (base:=base) RBenchPut aY gP gA  iH gC rT aGL XS
 have XX:=aBD (P:=l.prog) (w:=w) (mg:=mg) (base:=base) RKnown
 have mJ:=Qp (P:=l.prog) (w:=w) (mg:=mg) (base:=base) RWeaverWrite aQ aY Jh XX
 have qZ:=Hf (P:=l.prog) (w:=w) (mg:=mg) (base:=base) RWeaverComingIn aQ
 have gQ:=Eo (P:=l.prog) (w:=w) (mg:=mg) (base:=base) RWeaverWriteTied aQ mJ qZ
 have bZ:=yK (P:=l.prog) (w:=w) (mg:=mg) (base:=base) RWeaverFurtherNeeds aY aQ gA  iH
 have tH:=Jj (P:=l.prog) (w:=w) (mg:=mg) (base:=base) RWeaverRewrite aQ bK gQ bZ  Zm vX
 have iU:=Hh (P:=l.prog) (w:=w) (mg:=mg) (base:=base) RWeaverBoxAhead aQ  Cy
 have oH:=Tg (P:=l.prog) (w:=w) (mg:=mg) (base:=base) RWeaverLink aQ bK gQ  Zm aGM aGN aGO
 have pC:=Cg (P:=l.prog) (w:=w) (mg:=mg) (base:=base) RWeaverLastChange aQ
 have xN:=Qq (P:=l.prog) (w:=w) (mg:=mg) (base:=base) RWeaverLeave aQ iU pC bZ oH bK  vX
 have zZ:=Th (P:=l.prog) (w:=w) (mg:=mg) (base:=base) RWeaverFree aQ  rT
 have Zq:=vq (P:=l.prog) (w:=w) (mg:=mg) (base:=base) RLawKey  gC
 have rA:=Hj (P:=l.prog) (w:=w) (mg:=mg) (base:=base) RWeaverGoingOut aQ
 have xO:=Qt (P:=l.prog) (w:=w) (mg:=mg) (base:=base) RWeaverEnter aQ bZ bK iU mJ rA oH  gC aGP Zm vX
 have Qw:=YC (P:=l.prog) (w:=w) (mg:=mg) (base:=base) RLawDone aQ jZ xN tH zZ bK Zq xO  gC rT
 have Er:=Zr (P:=l.prog) (w:=w) (mg:=mg) (base:=base) RRipeAmong  aGQ iH YD
 have xP:=Qu (P:=l.prog) (w:=w) (mg:=mg) (base:=base) RBenchStrike aY  aBF YF Jg
 have uK:=Ti (P:=l.prog) (w:=w) (mg:=mg) (base:=base) RBenchCarve aY iT Er xP  aGR
 have Ac:=Tj (P:=l.prog) (w:=w) (mg:=mg) (base:=base) RBenchStone aY  iH
 have uY:=Li (P:=l.prog) (w:=w) (mg:=mg) (base:=base) RBenchChanges aY  iH
 ~aGS FL aQ aY Jm Ab jZ Mt Es uK uL Ac Qw uY  gC iH jP (aCe κ)
end Rs
open PySem PySem.W PyProof.Rows
set_option maxRecDepth 100000 in
set_option maxHeartbeats 0 in
theorem PySem.Challenge.cw_ripestone_k31_whole_string_holds : PySem.Challenge.rw_ripestone_k31_whole_string.Holds := by
 w_on;o_law;k_head;(case hw=>w_witness2)
 k_fill
 &Rs.walk (l:=PySem.Challenge.rw_ripestone_k31_whole_string) rfl rfl rfl (fun w h Y=>PySem.W.kIn_of Y) ?F
 case F=>
  intro w mg h KX G
  &⟨?_,?_,?_,?_,?_,?_,?_,?_,?_,?_,?_,?_,?_,?_,?_,?_,?_,?_,?_,?_,?_,K0 KX G ?_,K0 KX G ?_,K0 KX G ?_,K0 KX G ?_,K0 KX G ?_,K0 KX G ?_,K0 KX G ?_,K0 KX G ?_,K0 KX G ?_,K0 KX G ?_,K0 KX G ?_,K0 KX G ?_,?_,?_,?_,?_,?_,?_,?_,?_,?_,?_⟩
  ·refine' Rs.cX (cn := "Bench") KX ?xa0 ?zz0
   (case xa0=>k_is)
   &⟨?_,?_,?_,?_,?_,?_,?_,?_,?_,?_,?_⟩
   ·refine' Rs.cF ?fa0 ?fb0 ?fc0 ?fd0 ?fe0
    (case fa0=>k_is);(case fb0=>k_is);(case fc0=>k_is);(case fd0=>k_is)
    dsimp only[Rs.iZ]
    repeat' (first | &f7.mpr ⟨?_,?_⟩ | ~h9 _ | k_is)
   ·refine' Rs.rI KX G ?ix0 ?ia0 ?il0 ?ic0 ?im0 ?ik0
    (case ix0=>k_is);(case ia0=>k_is);(case il0=>k_is);(case ic0=>k_is);(case im0=>k_is);(case ik0=>k_is)
   ·refine' Rs.rM ?a ?l ?c
    (case a=>k_is);(case l=>k_is);(case c=>k_is)
   ·refine' Rs.rM ?a ?l ?c
    (case a=>k_is);(case l=>k_is);(case c=>k_is)
   ·refine' Rs.rM ?a ?l ?c
    (case a=>k_is);(case l=>k_is);(case c=>k_is)
   ·refine' Rs.rM ?a ?l ?c
    (case a=>k_is);(case l=>k_is);(case c=>k_is)
   ·refine' Rs.rD ?a ?l ?c ?t
    (case a=>k_is);(case l=>k_is);(case c=>k_is);(case t=>k_is)
   ·refine' Rs.rM ?a ?l ?c
    (case a=>k_is);(case l=>k_is);(case c=>k_is)
   ·refine' Rs.rD ?a ?l ?c ?t
    (case a=>k_is);(case l=>k_is);(case c=>k_is);(case t=>k_is)
   ·refine' Rs.rM ?a ?l ?c
    (case a=>k_is);(case l=>k_is);(case c=>k_is)
   ·refine' Rs.rM ?a ?l ?c
    (case a=>k_is);(case l=>k_is);(case c=>k_is)
  ·refine' Rs.cX (cn := "Weaver") KX ?xa1 ?zz1
   (case xa1=>k_is)
   &⟨?_,?_,?_,?_,?_,?_,?_,?_,?_,?_,?_,?_,?_,?_,?_,?_⟩
   ·refine' Rs.cF ?fa1 ?fb1 ?fc1 ?fd1 ?fe1
    (case fa1=>k_is);(case fb1=>k_is);(case fc1=>k_is);(case fd1=>k_is)
    dsimp only[Rs.dZ]
    repeat' (first | &f7.mpr ⟨?_,?_⟩ | ~h9 _ | k_is)
   ·refine' Rs.rI KX G ?ix1 ?ia1 ?il1 ?ic1 ?im1 ?ik1
    (case ix1=>k_is);(case ia1=>k_is);(case il1=>k_is);(case ic1=>k_is);(case im1=>k_is);(case ik1=>k_is)
   ·refine' Rs.rM ?a ?l ?c
    (case a=>k_is);(case l=>k_is);(case c=>k_is)
   ·refine' Rs.rM ?a ?l ?c
    (case a=>k_is);(case l=>k_is);(case c=>k_is)
   ·refine' Rs.rM ?a ?l ?c
    (case a=>k_is);(case l=>k_is);(case c=>k_is)
   ·refine' Rs.rM ?a ?l ?c
    (case a=>k_is);(case l=>k_is);(case c=>k_is)
   ·refine' Rs.rM ?a ?l ?c
    (case a=>k_is);(case l=>k_is);(case c=>k_is)
   ·refine' Rs.rM ?a ?l ?c
    (case a=>k_is);(case l=>k_is);(case c=>k_is)
   ·refine' Rs.rD ?a ?l ?c ?t
    (case a=>k_is);(case l=>k_is);(case c=>k_is);(case t=>k_is)
   ·refine' Rs.rM ?a ?l ?c
    (case a=>k_is);(case l=>k_is);(case c=>k_is)
   ·refine' Rs.rM ?a ?l ?c
    (case a=>k_is);(case l=>k_is);(case c=>k_is)
   ·refine' Rs.rM ?a ?l ?c
    (case a=>k_is);(case l=>k_is);(case c=>k_is)
   ·refine' Rs.rD ?a ?l ?c ?t
    (case a=>k_is);(case l=>k_is);(case c=>k_is);(case t=>k_is)
   ·refine' Rs.rM ?a ?l ?c
    (case a=>k_is);(case l=>k_is);(case c=>k_is)
   ·refine' Rs.rM ?a ?l ?c
    (case a=>k_is);(case l=>k_is);(case c=>k_is)
   ·refine' Rs.rD ?a ?l ?c ?t
    (case a=>k_is);(case l=>k_is);(case c=>k_is);(case t=>k_is)
  iterate 19
   ·refine' Rs.aJ8 KX G ?a ?l ?c
    (case a=>k_is);(case l=>k_is);(case c=>k_is)
  iterate 12
   ·k_is
  ·refine' L2.nA KX G ?a
   (case a=>k_is)
  ·refine' L2.nA KX G ?a
   (case a=>k_is)
  ·refine' L2.nA KX G ?a
   (case a=>k_is)
  ·refine' L2.nA KX G ?a
   (case a=>k_is)
  ·refine' L2.nA KX G ?a
   (case a=>k_is)
  ·refine' L2.nA KX G ?a
   (case a=>k_is)
  ·refine' L2.nA KX G ?a
   (case a=>k_is)
  ·refine' L2.nA KX G ?a
   (case a=>k_is)
  ·refine' L2.nA KX G ?a
   (case a=>k_is)
  ·refine' L2.nA KX G ?a
   (case a=>k_is)
#print axioms PySem.Challenge.cw_ripestone_k31_whole_string_holds
