import PyProof.Rows.All
import Wide.All
import OpenK.AllK
import Wide.FinOn
import Lean
import PyProof.EqAt
import PyProof.EqKinds
import PyProof.TupleCall
import PySem.Challenge.RW_ripestone_k30_order_and_free
macro"~"t:term:tactic=>`(tactic|exact $t)
macro"&"t:term:tactic=>`(tactic|refine $t)
macro"A6":term=>`(by omega)
macro"A7":term=>`(by decide +kernel)
macro"A8":term=>`(by decide)
macro"A9":term=>`(by exact Nat.le_of_ble_eq_true rfl)
macro"B4"i:(ppSpace colGt ident)+ l:(Lean.Parser.Tactic.location)?:tactic=>`(tactic|unfold $i* $[$l]?)
macro"B3"p:Lean.Parser.Tactic.rcasesPatMed":="t:term:tactic=>`(tactic|obtain $p := $t)
macro"B3"p:Lean.Parser.Tactic.rcasesPatMed":"y:term":="t:term:tactic=>`(tactic|obtain $p : $y := $t)
open Lean.Parser.Command in
macro"B5"n:declId s:declSig v:declVal:command=>`(command|theorem $n $s $v)
open Array renaming length_toList→K3,getElem?_toList→L8,getElem?_eq_getElem→N3,getD→O4,getElem_toList→T8,toList_push→i7,toList→p5
open Bool renaming false_ne_true→E2,and_eq_true→J7,eq_iff_iff→M8,false_eq_true→U9,eq_false_iff→W0,or_eq_true→l3,and_false→m7,or_false→o7
open Int renaming toNat_natCast→D7,emod_nonneg→E6,emod_lt_of_pos→E7,le_of_lt→L0,natCast_nonneg→P6,pow_pos→P7,natCast_mul→U1,toNat_of_nonneg→U4,le_refl→Y7,zero_add→f7,ne_of_lt→g9,natCast_emod→j9,natCast_ediv→k7,mul_nonneg→o0
open Int.ofNat renaming inj→p4
open List renaming getElem?_eq_getElem→B6,length_map→B7,getElem?_map→B8,getD_eq_getElem?_getD→B9,size_toArray→C5,length_append→C7,mem_cons_of_mem→C8,mem_cons→C9,getElem?_eq_some_iff→D1,range→D2,map_cons→D3,mem_cons_self→D4,length_range→D8,mem_of_getElem?→D9,mem_singleton→E3,replicate→E4,getElem?_eq_none→E8,length_cons→E9,mem_range→F5,getElem?_set→F8,append_nil→F9,map_append→G0,mem_append_right→G3,mem_map→G4,getElem?_range→G5,getElem?_set_self→G6,mem_append→G7,getElem?_append_left→G9,pairwise_iff_getElem→I0,length_take→J0,zipWith_cons_cons→J1,map_nil→J2,pairwise_cons→J3,length_set→J5,getElem_of_mem→J6,map_map→K5,ext_getElem?→K6,pairwise_append→K9,map_congr_left→L4,nodup_cons→L5,drop_eq_getElem_cons→L6,eq_nil_of_length_eq_zero→L9,all_eq_true→M3,mem_of_mem_take→M5,eraseIdx_cons_succ→M6,filter_eq_self→N0,getElem?_append_right→N1,take_append_drop→N2,mem_filter→N7,mem_append_left→N8,find?_cons→N9,take_sublist→O0,nodup_append→O1,pairwise_map→O3,length_drop→O8,getElem_mem→O9,cons_append→P0,length_pos_iff→P2,getElem?_replicate→P4,zip_cons_cons→P5,append_assoc→P8,length_replicate→P9,zipWith→Q1,zipWith_nil_left→Q2,any_eq_true→Q6,mem_of_mem_drop→Q7,lookup→Q8,filterMap_cons→Q9,filter_sublist→R0,set_set→R4,map_set→R7,pairwise_lt_range→R9,take_of_length_le→S0,any_cons→S5,map_take→S6,map_drop→S7,lookup_cons→S8,take_length→T0,eraseIdx_sublist→T2,eraseIdxIfInBounds_toArray→T3,eraseIdx_eq_take_drop_succ→T4,getElem?_set_ne→T5,getD_cons_succ→U3,getElem?_drop→V0,idxOf_lt_length_of_mem→V2,filter_append→V3,length_eraseIdx_of_lt→V4,take_add_one→W3,getElem_take→W4,getLast?_eq_getElem?→W6,ext_getElem→X0,drop_length→X1,length_erase_of_mem→X2,mem_of_mem_eraseIdx→X3,filter_cons_of_pos→X7,filter_cons_of_neg→X8,of_mem_zip→Y0,nil_append→Y1,length_zip→Y2,idxOf_cons→Y3,filter_nil→Y4,filter_eq_nil_iff→Y9,nodup_nil→Z6,idxOf_cons_self→b6,forall_mem_cons→b7,take_succ_cons→b9,replicate_succ→c6,forall_mem_nil→c7,mem_filterMap→c9,getElem_idxOf→f6,getElem?_take→g6,find?_eq_none→g8,foldl_append→i4,drop_sublist→i6,filter_congr→i9,length→j4,filter_cons→j8,nodup_range→k8,range_succ→l6,drop_zero→n9,all_cons→o8
open List.Pairwise renaming map→j0
open List.Perm renaming refl→Q3,append_left→Z7,swap→m9
open Nat renaming le_refl→C6,lt_of_lt_of_le→E1,ne_of_lt→E5,le_trans→G2,lt_or_ge→J8,lt_irrefl→K7,not_lt_zero→L7,lt_succ_self→M0,lt_succ_of_lt→M7,zero_le→N4,le_succ→N5,le_of_lt→O5,ne_of_gt→O6,zero_add→Q4,mod_lt→T9,div_lt_of_lt_mul→U0,mul_le_mul→U6,lt_of_le_of_lt→U8,eq_zero_or_pos→V1,succ_le_succ→W9,mul_pos→Z0,le_of_eq→d6,min_self→d9,sub_zero→f9,sub_self→g7,lt_trichotomy→i8,div_add_mod→l7,mod_add_div→l8
open Nat.succ renaming inj→p6
open Option renaming bind_some→C4,map_some→G1,getD_some→S9,isSome_map→V9,isSome_iff_exists→W8,map_eq_none_iff→Y8,map→a9,isSome_some→d8,getD_none→j6,map_map→n8,none→p7
open Option.some renaming inj→F4
open Or renaming inr→D5,inl→D6
open Prod renaming ext→j7
open PyProof.Rows renaming boot_list→F7,callWith_type1→K8,boot_sorted→P1,callWith_builtin1→T7,boot_range→X6,boot_all→a7,boot_set→a8
open PyProof.Rows.F renaming plain_set_update_loop→O2,entry_set_update_loop→R3
open PySem renaming boot_len→F0,mem_of_lookup→M9,Within→c8,call→l4
open PySem.F renaming plainAttrs_list→F1,slot_list_append→K1,type_list_append→K2,called_set→M4,slot_list_remove→R5,type_list_remove→R6,slot_dict_get→T1,plain_extend_loop→W5,args_dict_get_2→X4,plain_list_iadd→X5,entry_dict_get→Y6,plain_set_new→Z8,slot_set_iter→Z9
open PySem.W renaming findIn→F3,fnOf→F6,mg_none_of→G8,kitOne→J4,keepIn→J9,kia_one→K0,codeIn→K4,emptyDict→L3,instObj→N6,isFn→O7,plainGet→Q5,nsIn→R1,hasDictIn→R8,makesIn→T6,plainGet_of→U2,lookIn→U5,callWith_K→U7,methodObj→V5,plainOver→V6,specialIn→V7,kitx_list→V8,takerIn→X9,cellsFrom_some→Y5,methodCall_KW→Z5,mg_of→b8,kitx_tuple→d7,kitx_dict→h9,handedIn→j5,hideAll→k9,takesIn→l0,OpenLaw→l5,typeIn→l9,kitCls→m8,mroIn→o6,WalkO→o9
open Sum renaming inl→F2,inr→W7
abbrev aF:=PySem.W.Frag
B5 aY{α:Type u_1}{b:α}{β:Type u_2}{x:Option β}{f:β→Option α}(h:x.bind f=some b):∃a,x=some a∧f a=some b:=Option.bind_eq_some_iff.mp h
B5 lN{α:Type u_1}{b:α}{β:Type u_2}{x:Option β}{f:β→α}(h:x.map f=some b):∃a,x=some a∧f a=b:=Option.map_eq_some_iff.mp h

set_option Elab.async false
set_option linter.all false
set_option maxRecDepth 100000
namespace L2
open PySem PySem.Spec PyProof.Rows
abbrev Key:=Sum Int Str
def Uc:Key→Value→Bool
 | .inl k,v=>Value.isInt k v
 | .inr x,v=>Value.isStrOf x v
def aIQ(w:World):Key→Int
 | .inl k=>hashInt k
 | .inr x=>hashStr w x
B5 iH:∀{k:Key} {v:Value},Uc k v=true→(∃i t,k=F2 i∧v=Value.int i t)∨(∃x t,k=W7 x∧v=Value.str x t)
 | .inl i,v,h=>by
  B3⟨t,e⟩:=Value.isInt_shape (k:=i) (v:=v) h
  ~.inl ⟨i,t,rfl,e⟩
 | .inr x,v,h=>by
  B3⟨t,e⟩:=Value.isStrOf_shape (x:=x) (v:=v) h
  ~.inr ⟨x,t,rfl,e⟩
B5 jx(i:Int)(t:Tok):Uc (.inl i) (.int i t)=true:=by simp[Uc,Value.isInt]
B5 jy(x:Str)(t:Tok):Uc (.inr x) (.str x t)=true:=by simp[Uc,Value.isStrOf]
B5 aET(a b:Int):decide ((F2 a:Key)=F2 b)=(a==b):=by
 by_cases e:a=b
 ·subst e;simp
 ·have h:¬(F2 a:Key)=F2 b:=fun q=>e (Sum.inl.inj q)
  rw[decide_eq_false h]
  ~(beq_eq_false_iff_ne.mpr e).symm
B5 aEU(a b:Str):decide ((W7 a:Key)=W7 b)=decide (a=b):=by
 by_cases e:a=b
 ·subst e;simp
 ·have h:¬(W7 a:Key)=W7 b:=fun q=>e (Sum.inr.inj q)
  rw[decide_eq_false h,decide_eq_false e]
B5 aEV(a:Int)(b:Str):decide ((F2 a:Key)=W7 b)=false:=decide_eq_false (fun q=>nomatch q)
B5 aEW(a:Str)(b:Int):decide ((W7 a:Key)=F2 b)=false:=decide_eq_false (fun q=>nomatch q)
def iW(prog:Program)(w:World):PySem.KeyKind prog w Key where
  is:=Uc
  hash:=aIQ w
  inj:=fun v a b ha hb=>by
    rcases iH ha with ⟨i,t,rfl,rfl⟩ | ⟨x,t,rfl,rfl⟩
    · rcases iH hb with ⟨j,u,rfl,e⟩ | ⟨y,u,rfl,e⟩
      · injection e with e1 _;rw[e1]
      · ~nomatch e
    · rcases iH hb with ⟨j,u,rfl,e⟩ | ⟨y,u,rfl,e⟩
      · ~nomatch e
      · injection e with e1 _;rw[e1]
  byValue:=fun k v h=>by
    rcases iH h with ⟨i,t,rfl,rfl⟩ | ⟨x,t,rfl,rfl⟩<;>rfl
  pyHash:=fun hv h=>by
    rcases iH hv with ⟨i,t,rfl,rfl⟩ | ⟨x,t,rfl,rfl⟩
    · ~wpAny_pyHash_int h
    · ~wpAny_pyHash_str h
  eqBool:=fun hu hv h=>by
    rcases iH hu with ⟨i,t,rfl,rfl⟩ | ⟨x,t,rfl,rfl⟩
    · rcases iH hv with ⟨j,u,rfl,rfl⟩ | ⟨y,u,rfl,rfl⟩
      · rw[aET]at h;~wpAny_eqBool_int h
      · rw[aEV]at h;~SeqAt.EqAt.int_str i t y u _ _ _ _ h
    · rcases iH hv with ⟨j,u,rfl,rfl⟩ | ⟨y,u,rfl,rfl⟩
      · rw[aEW]at h;~SeqAt.EqAt.str_int x t j u _ _ _ _ h
      · rw[aEU]at h;~wpAny_eqBool_str h
  «strs»:=fun k x t v h=>by
    rcases iH h with ⟨i,u,rfl,e⟩ | ⟨y,u,rfl,e⟩
    · ~nomatch e
    · injection e with e1 _
      subst e1
      cases v<;>rfl
B5 DP(prog:Program)(w:World)(i:Int)(t:Tok):(iW prog w).is (.inl i) (.int i t)=true:=jx i t
B5 DQ(prog:Program)(w:World)(x:Str)(t:Tok):(iW prog w).is (.inr x) (.str x t)=true:=jy x t
end L2
namespace L2
open PySem PySem.Spec PyProof.Rows
inductive V where
  | non | bl (b:Bool) | int (i:Int) | str (x:Str) | byt (b:Array UInt8) | flt (b:UInt64) | ref (a:Addr) | ty (n:String)
  deriving DecidableEq
def RelV:V→Value→Prop
 | .non,u=>u=Value.none
 | .bl b,u=>u=Value.bool b
 | .int i,u=>∃t,u=Value.int i t
 | .str x,u=>∃t,u=Value.str x t
 | .byt b,u=>∃t,u=Value.bytes b t
 | .flt b,u=>∃t,u=Value.float b t
 | .ref a,u=>u=Value.ref a
 | .ty n,u=>u=Value.type n
abbrev Vals:List V→List Value→Prop:=Paired RelV
B5 Vals.length{xs:List V}{us:List Value}(r:Vals xs us):xs.length=us.length:=Paired.length r
B5 Vals.get:∀{xs:List V} {us:List Value} {i:Nat} {x:V},Vals xs us→xs[i]?=some x→∃u,us[i]?=some u∧RelV x u
 | _,_,_,_,.nil,e=>by simp at e
 | _,_,0,_,.cons r _,e=>by simp at e;subst e;~⟨_,rfl,r⟩
 | _,_,i+1,x,.cons _ t,e=>by
  B3⟨u,h1,h2⟩:=Vals.get (i:=i) (x:=x) t (by simpa using e)
  ~⟨u,by simpa using h1,h2⟩
B5 Vals.set{x:V}{u:Value}(r:RelV x u):∀{xs:List V} {us:List Value} (i:Nat),Vals xs us→Vals (xs.set i x) (us.set i u)
 | _,_,_,.nil=>.nil
 | _,_,0,.cons _ t=>.cons r t
 | _,_,i+1,.cons q t=>.cons q (Vals.set r i t)
B5 Vals.append:∀{xs ys:List V} {us ws:List Value},Vals xs us→Vals ys ws→Vals (xs++ys) (us++ws)
 | _,_,_,_,.nil,s=>s
 | _,_,_,_,.cons r t,s=>.cons r (Vals.append t s)
B5 Vals.take:∀{xs:List V} {us:List Value} (n:Nat),Vals xs us→Vals (xs.take n) (us.take n)
 | _,_,0,_=>.nil
 | _,_,_+1,.nil=>.nil
 | _,_,n+1,.cons r t=>.cons r (Vals.take n t)
B5 Vals.drop:∀{xs:List V} {us:List Value} (n:Nat),Vals xs us→Vals (xs.drop n) (us.drop n)
 | _,_,0,r=>r
 | _,_,_+1,.nil=>.nil
 | _,_,n+1,.cons _ t=>Vals.drop n t
def yZ:Option V→Option Value→Prop
 | some v,some u=>RelV v u
 | none,none=>True
 | _,_=>False
def KV{κ:Type}:List (κ×V)→List (κ×Value)→Prop:=Paired fun(p:κ×V) (q:κ×Value)=>p.1=q.1∧RelV p.2 q.2
def kV:Key→V
 | .inl i=>.int i
 | .inr x=>.str x
inductive HO where
  | lst (xs:List V)
  | tup (xs:List V)
  | dK (kvs:List (Key×V)) | dT (kvs:List (List Key×V))
  | set (S:Int→Bool) (n:Nat)
  | ins (C dx:Addr) (fs:List (Str×V))
  | own (x:Addr)
  | xd (fs:List (Str×V))
  | met (f x:Addr)
  | rng (lo hi:Int)
  | zA (o:Obj) (u:HO)
  | tbl (ps:Array Value)
  | ext (φ:Heap→Prop)
abbrev Hp:=Addr→Option HO
def upd(H:Hp)(a:Addr)(o:HO):Hp:=fun b=>if b=a then some o else H b
B5 cJ{H:Hp}{a:Addr}{o:HO}:upd H a o a=some o:=by B4 upd;rw[if_pos rfl]
B5 bQ{H:Hp}{a b:Addr}{o:HO}(h:b≠a):upd H a o b=H b:=by B4 upd;rw[if_neg h]
B5 aG6{H:Hp}{a b:Addr}{o u:HO}(h:H a=some o)(h':H b=some u)(d:o≠u):a≠b:=by
 intro e;subst e;rw[h]at h';~d (F4 h')
B5 iQ{H:Hp}{a b:Addr}{o:HO}(h:H a=some o)(h':H b=none):a≠b:=by
 intro e;subst e;rw[h]at h';cases h'
section
variable(P:Program)(w:World)
def jG(H:Hp)(h:Heap)(a:Addr):HO→Prop
 | .lst xs=>xs.length≤sizeLine∧∃(its:List Value)(n:Nat),Vals xs its∧h.get? a=some {cls:=.type "list", data:=.seq its.toArray n}
 | .tup xs=>xs.length≤sizeLine∧∃its:List Value,Vals xs its∧IsTup h a its.toArray
 | .dK kvs=>kvs.length≤sizeLine∧(a==sysModules)=false∧∃vs,KV kvs vs∧h.DictOf (iW P w) a vs
 | .dT kvs=>kvs.length≤sizeLine∧(a==sysModules)=false∧∃xs:List (List Key×Addr×Value),
   Paired (fun(p:List Key×V) (q:List Key×Addr×Value)=>p.1=q.1∧H q.2.1=some (.tup (p.1.map kV))∧RelV p.2 q.2.2) kvs xs ∧
   ∃o es ep,h.get? a=some o∧o.ExactDict∧o.data=.dict es ep∧es.toList=xs.map (entryOfKey (tupleKind (iW P w)))∧(xs.map (·.1)).Nodup
 | .set S n=>h.SetOf (intKind P w) a S n
 | .ins C dx fs=>H dx=some (.own a)∧fs.length≤1000∧dx≠a∧h.get? a=some (N6 C dx) ∧
   ∃mA,h.Ns1 dx mA∧(∀f,yZ (fs.lookup f) (mA f))∧c8 mA (fs.map (·.1))
 | .own _=>∃o,h.get? a=some o
 | .xd fs=>∃mA,h.Ns1 a mA∧∀f,yZ (fs.lookup f) (mA f)
 | .rng lo hi=>∃t u v,h.get? a=some {cls:=.type "range", data:=.fields #[.int lo t,.int hi u,.int 1 v]}
 | .zA o u=>h.get? a=some o∧jG H h a u
 | .tbl ps=>h.get? a=some {cls:=.none,data:=.fields ps}
 | .met f x=>h.get? a=some (V5 (.ref f) (.ref x))
 | .ext φ=>φ h∧(∃o,h.get? a=some o)∧∀h1 h2:Heap,φ h1→(∀o,h1.get? a=some o→h2.get? a=some o)→φ h2
def Df(H:Hp)(h:Heap):Prop:=∀a o,H a=some o→jG P w H h a o
end
section
variable{P:Program}{w:World}{H H':Hp}{h h':Heap}{a:Addr}{o:HO}
B5 jG.lt(x:jG P w H h a o):a<h.objs.size:=by
 cases o with
 | lst xs=>B3⟨_,_,_,_,e⟩:=x;~Heap.lt_size e
 | tup xs=>B3⟨_,_,_,p⟩:=x;~p.lt
 | dK kvs=>B3⟨_,_,_,_,o,_,_,e,_⟩:=x;~Heap.lt_size e
 | dT kvs=>B3⟨_,_,_,_,o,_,_,e,_⟩:=x;~Heap.lt_size e
 | set S n=>B3⟨o,_,_,_,e,_⟩:=x;~Heap.lt_size e
 | ins C dx fs=>B3⟨_,_,_,e,_⟩:=x;~Heap.lt_size e
 | own y=>B3⟨_,e⟩:=x;~Heap.lt_size e
 | xd fs=>B3⟨_,⟨_,_,_,e,_⟩,_⟩:=x;~Heap.lt_size e
 | rng lo hi=>B3⟨_,_,_,e⟩:=x;~Heap.lt_size e
 | zA ob u=>B3⟨e,_⟩:=x;~Heap.lt_size e
 | tbl ps=>~Heap.lt_size (show h.get? a=some _ from x)
 | met f y=>~Heap.lt_size (show h.get? a=some _ from x)
 | ext φ=>B3⟨_,⟨_,e⟩,_⟩:=x;~Heap.lt_size e
B5 Paired.aEX{α β:Type}{F G:α→β→Prop}:∀{l₁:List α} {l₂:List β},Paired F l₁ l₂→(∀a b,F a b→G a b)→Paired G l₁ l₂
 | _,_,.nil,_=>.nil
 | _,_,.cons r t,f=>.cons (f _ _ r) (Paired.aEX t f)
B5 jG.stay(x:jG P w H h a o)(k:∀b u,(b=a∨H b=some (.own a))→h.get? b=some u→h'.get? b=some u)
  (ho:∀b,H b=some (.own a)→H' b=some (.own a)) (ht:∀b xs,H b=some (.tup xs)→H' b=some (.tup xs)):jG P w H' h' a o:=by
 induction o with
 | lst xs=>B3⟨z,its,n,r,e⟩:=x;~⟨z,its,n,r,k _ _ (.inl rfl) e⟩
 | tup xs=>B3⟨z,its,r,ob,e,c⟩:=x;~⟨z,its,r,ob,k _ _ (.inl rfl) e,c⟩
 | dK kvs=>B3⟨z,y,vs,r,ob,es,ep,e,c⟩:=x;~⟨z,y,vs,r,ob,es,ep,k _ _ (.inl rfl) e,c⟩
 | dT kvs=>
  B3⟨z,y,xs,r,ob,es,ep,e,c⟩:=x
  ~⟨z,y,xs,Paired.aEX r fun p q z=>⟨z.1,ht _ _ z.2.1,z.2.2⟩,ob,es,ep,k _ _ (.inl rfl) e,c⟩
 | set S n=>B3⟨ob,es,ep,t,e,c⟩:=x;~⟨ob,es,ep,t,k _ _ (.inl rfl) e,c⟩
 | ins C dx fs=>
  B3⟨d,z,ne,e,mA,⟨od,es,ep,e2,c⟩,r⟩:=x
  ~⟨ho _ d,z,ne,k _ _ (.inl rfl) e,mA,⟨od,es,ep,k _ _ (.inr d) e2,c⟩,r⟩
 | own y=>B3⟨ob,e⟩:=x;~⟨ob,k _ _ (.inl rfl) e⟩
 | xd fs=>B3⟨mA,⟨od,es,ep,e,c⟩,r⟩:=x;~⟨mA,⟨od,es,ep,k _ _ (.inl rfl) e,c⟩,r⟩
 | rng lo hi=>B3⟨t,u,v,e⟩:=x;~⟨t,u,v,k _ _ (.inl rfl) e⟩
 | zA ob u ih=>B3⟨e,q⟩:=x;~⟨k _ _ (.inl rfl) e,ih q⟩
 | tbl ps=>
  have e:h.get? a=some {cls:=.none,data:=.fields ps}:=x
  show h'.get? a=some {cls:=.none,data:=.fields ps}
  ~k a _ (.inl rfl) e
 | met f y=>
  have e:h.get? a=some (V5 (.ref f) (.ref y)):=x
  show h'.get? a=some (V5 (.ref f) (.ref y))
  ~k a _ (.inl rfl) e
 | ext φ=>B3⟨p,⟨o,e⟩,st⟩:=x;~⟨st _ _ p fun o q=>k _ _ (.inl rfl) q,⟨o,k _ _ (.inl rfl) e⟩,st⟩
B5 Df.lt(x:Df P w H h)(e:H a=some o):a<h.objs.size:=(x a o e).lt
B5 Df.fresh(x:Df P w H h)(e:h.objs.size≤a):H a=none:=by
 cases q:H a with
 | none=>rfl
 | some u=>~absurd (E1 (x.lt q) e) (K7 _)
B5 Df.kept(x:Df P w H h)(k:∀b u,h.get? b=some u→h'.get? b=some u):Df P w H h':=fun a o e=>
 (x a o e).stay (fun b u _ q=>k b u q) (fun _ q=>q) fun _ _ q=>q
B5 Df.laid(x:Df P w H h)(k:∀b u,h.get? b=some u→h'.get? b=some u)(hp:h.objs.size≤a)(new:jG P w (upd H a o) h' a o):Df P w (upd H a o) h':=fun b u e=>by
 have hn:=x.fresh hp
 by_cases hb:b=a
 ·subst hb;rw[cJ]at e;cases e;~new
 ·rw[bQ hb]at e
  ~(x b u e).stay (fun c v _ q=>k c v q) (fun c q=>by rw[bQ (iQ q hn)];~q) fun c xs q=>by rw[bQ (iQ q hn)];~q
end
def Rd(H:Hp)(a:Addr)(u:HO):Prop:=H a=some u∨∃o,H a=some (.zA o u)
B5 Rd.ok{P:Program}{w:World}{H:Hp}{h:Heap}{a:Addr}{u:HO}(r:Rd H a u)(x:Df P w H h):jG P w H h a u:=by
 rcases r with r | ⟨o,r⟩
 ·~x a u r
 ·B3⟨_,q⟩:=x a _ r
  ~q
def Mut:Option HO→Prop
 | some (.lst _)=>True
 | some (.dK _)=>True
 | some (.dT _)=>True
 | some (.set _ _)=>True
 | some (.ins _ _ _)=>True
 | some (.ext _)=>True
 | _=>False
section
variable{P:Program}{w:World}{H:Hp}{h h':Heap}{x e:Addr}{o':HO}
B5 Df.write(ok:Df P w H h)(mu:Mut (H x))(he:e=x∨H e=some (.own x))(k:∀b u,b≠e→h.get? b=some u→h'.get? b=some u)(heo:∃u,h'.get? e=some u)
  (new:jG P w (upd H x o') h' x o'):Df P w (upd H x o') h':=fun b u q=>by
 have aG8:∀c y,H c=some (.own y)→c≠x:=fun c y r z=>by subst z;rw[r]at mu;~mu
 have aIR:∀c xs,H c=some (.tup xs)→c≠x:=fun c xs r z=>by subst z;rw[r]at mu;~mu
 by_cases hb:b=x
 ·subst hb;rw[cJ]at q;cases q;~new
 ·rw[bQ hb]at q
  by_cases hbe:b=e
  ·have q':H b=some (.own x):=by
    rcases he with z | z
    ·~absurd (hbe.trans z) hb
    ·rw[hbe];~z
   rw[q]at q';cases q'
   B3⟨v,hv⟩:=heo
   ~⟨v,by rw[hbe];~hv⟩
  ·&(ok b u q).stay (fun c v hc r=>k c v ?_ r) (fun c r=>by rw[bQ (aG8 c b r)];~r) fun c xs r=>by rw[bQ (aIR c xs r)];~r
   rcases hc with rfl | hc
   ·~hbe
   ·rintro rfl
    rcases he with z | z
    ·~aG8 c b hc z
    ·rw[hc]at z;cases z;~hb rfl
end
structure Un(fs ex:List Addr)(H H':Hp)(h h':Heap):Prop where
 keep:∀b o,h.get? b=some o→H b=none→b∉fs→b∉ex→h'.get? b=some o
 slot:∀b o,h.get? b=some o→H b=none→b∈fs→b∉ex→∃sl,h'.get? b=some {o with slots:=sl}
 free:∀b o,h.get? b=some o→H b=none→b∉ex→H' b=none
 there:∀b o,h.get? b=some o→b∉ex→∃o',h'.get? b=some o'
 tups:∀b xs,H b=some (.tup xs)→H' b=some (.tup xs)
 Wx:∀b o u,H b=some (.zA o u)→H' b=some (.zA o u)
 DR:∀b ps,H b=some (.tbl ps)→∃more,H' b=some (.tbl (ps++more))
section
variable{fs fs' ex ex':List Addr}{H H1 H2:Hp}{h h1 h2 h':Heap}{a x e:Addr}{o:HO}
B5 Un.any(u:Un fs ex H H1 h h1){b:Addr}{ob:Obj}(q:h.get? b=some ob)(n:H b=none)(hx:b∉ex):∃sl,h1.get? b=some {ob with slots:=sl}:=by
 by_cases hb:b∈fs
 ·~u.slot b ob q n hb hx
 ·~⟨ob.slots,u.keep b ob q n hb hx⟩
B5 Un.kept(k:∀b u,h.get? b=some u→h'.get? b=some u):Un fs ex H H h h':=
 ⟨fun b ob q _ _ _=>k b ob q,fun b ob q _ _ _=>⟨ob.slots,k b ob q⟩,fun _ _ _ n _=>n,fun b ob q _=>⟨ob,k b ob q⟩,fun _ _ q=>q,fun _ _ _ q=>q,fun _ ps q=>⟨#[],by rw[q];simp⟩⟩
B5 Un.refl:Un fs ex H H h h:=Un.kept fun _ _ q=>q
B5 Un.laid(k:∀b u,h.get? b=some u→h'.get? b=some u)(hp:h.objs.size≤a)(hn:H a=none):Un fs ex H (upd H a o) h h' where
 keep:=fun b u q _ _ _=>k b u q
 slot:=fun b u q _ _ _=>⟨u.slots,k b u q⟩
 free:=fun b u q n _=>by rw[bQ (E5 (E1 (Heap.lt_size q) hp))];~n
 there:=fun b u q _=>⟨u,k b u q⟩
 tups:=fun b xs q=>by rw[bQ (iQ q hn)];~q
 Wx:=fun b u xs q=>by rw[bQ (iQ q hn)];~q
 DR:=fun b ps q=>⟨#[],by rw[bQ (iQ q hn),q];simp⟩
B5 Un.write(mu:Mut (H x))(he:e=x∨H e=some (.own x))(k:∀b u,b≠e→h.get? b=some u→h'.get? b=some u)(heo:∃u,h'.get? e=some u):Un fs ex H (upd H x o) h h':=by
 have hx:∀b,H b=none→b≠x:=fun b n z=>by subst z;rw[n]at mu;~mu
 have hb:∀b,H b=none→b≠e:=fun b n z=>by
  subst z
  rcases he with r | r
  ·~hx b n r
  ·rw[n]at r;cases r
 have hm:∀b u,H b=some u→¬Mut (some u)→b≠x:=fun b u q nm z=>by subst z;rw[q]at mu;~nm mu
 &⟨fun b u q n _ _=>k b u (hb b n) q,fun b u q n _ _=>⟨u.slots,k b u (hb b n) q⟩,fun b u q n _=>by rw[bQ (hx b n)];~n,fun b u q _=>?_,
  fun b xs q=>by rw[bQ (hm b _ q fun z=>z)];~q,fun b u xs q=>by rw[bQ (hm b _ q fun z=>z)];~q,fun b ps q=>⟨#[],by rw[bQ (hm b _ q fun z=>z),q];simp⟩⟩
 by_cases hbe:b=e
 ·subst hbe;~heo
 ·~⟨u,k b u hbe q⟩
end
def trk(h:Heap)(H:Hp):List Addr:=(D2 h.objs.size).filter fun a=>(H a).isSome
def Wy(h:Heap)(H:Hp):Heap:=k9 h (trk h H)
B5 jz(h:Heap)(H:Hp):(Wy h H).objs.size=h.objs.size:=PySem.W.hideAll_size _ _
B5 yd{h:Heap}{H:Hp}{b:Addr}{o:Obj}(e:h.get? b=some o)(n:H b=none):(Wy h H).get? b=some o:=
 PySem.W.hideAll_get _ e fun hm=>by
  have q:(H b).isSome=true:=(N7.mp hm).2
  rw[n]at q;simp at q
B5 aCp{h:Heap}{H:Hp}{b:Addr}{o:Obj}(e:(Wy h H).get? b=some o):h.get? b=some o∧H b=none:=by
 have e':h.get? b=some o:=PySem.W.of_hideAll (trk h H) e
 &⟨e',?_⟩
 cases q:H b with
 | none=>rfl
 | some x=>
  have hm:b∈trk h H:=N7.mpr ⟨F5.mpr (Heap.lt_size e'),by simp[q]⟩
  have z:(Wy h H).get? b=none:=PySem.W.hideAll_none (trk h H) hm
  rw[z]at e;cases e
def aCq(g h:Heap)(L:Addr):List (Addr×Obj):=(D2 h.objs.size).filterMap fun a=>if a=L∨(g.get? a).isSome=true then none else(h.get? a).map fun o=>(a,o)
def rest(g h:Heap)(L d:Addr):List (Addr×Obj):=(aCq g h L).filter fun p=>decide (p.1≠d)
end L2
namespace L2
open PySem PySem.Spec PyProof.Rows
structure Mod(K:aF)(mg:Str→Option Value)(base:Heap):Prop where
 kin:K.In base
 glob:base.Ns mainGlobals mg
 blt:∃mb,base.Ns builtinsNs mb∧∀x:Str,x ≠ "__name__" → mb x=bootBuiltins x
 nolimit:base.NoLimit
structure Cx where
 prog:Program
 w:World
 K:aF
 mg:Str→Option Value
 base:Heap
 A:Around
 N:List Str
 s₀:Shared
 H₀:Hp
 env:Env
 outer:List Env
 stack:List Env
 ex:List Addr
 fn:Str→Bool
 calm:Bool
 pn:List (Addr×Obj)
 xe:Value→Shared→Prop
def frs(l:List Env):List Addr:=l.filterMap (·.frame)
abbrev Cx.fs(X:Cx):List Addr:=frs X.outer
def Vis(sc:Scope)(x:Str):Prop:=sc.names.lookup x=some .local∨sc.names.lookup x=some .cell∨sc.names.lookup x=some .free
def Loc(sc:Scope)(x:Str):Prop:=sc.names.lookup x=some .local∨sc.names.lookup x=some .cell
def Look(env:Env)(h:Heap)(m:Str→Option Value)(x:Str)(u:Value):Prop:=
 (env.kindOf x=some .local∧m x=some u)∨((env.kindOf x=some .cell∨env.kindOf x=some .free)∧∃c,env.cells.lookup x=some c∧h.IsCell c (some u))
structure Cx.Ok(X:Cx):Prop where
 mod:Mod X.K X.mg X.base
 kind:X.env.scope.kind=.function
 glob:X.env.globals=mainGlobals
 blt:X.env.builtins=builtinsNs
 above:X.s₀.heap.objs.size≤X.env.locals
 inj:∀x y c,X.env.cells.lookup x=some c→X.env.cells.lookup y=some c→x=y
 has:∀x,(X.env.kindOf x=some .cell∨X.env.kindOf x=some .free)→∃c,X.env.cells.lookup x=some c
 cab:∀x c,X.fn x=true→X.env.cells.lookup x=some c→X.s₀.heap.objs.size≤c
 hd:X.calm=true→X.A.handled=none
 frames:X.A.frames=some X.stack
 stk:X.stack=X.outer∨(X.stack=X.env::X.outer∧X.env.frame=some X.env.locals)
 exf:∀b∈X.ex,b≠X.env.locals∧∀x c,X.env.cells.lookup x=some c→c≠b
 bs:∀b o,X.base.get? b=some o→X.s₀.heap.get? b=some o∧X.H₀ b=none
 bsz:X.base.objs.size≤X.s₀.heap.objs.size
 yf:∀b o,X.base.get? b=some o→b∉X.ex
 aCt:∀b∈X.ex,b∉X.fs
 Lr:X.s₀.heap.FunFrames X.base X.outer
 frf:∀b∈X.fs,X.H₀ b=none
structure Inv(X:Cx)(pins:List (Addr×Obj))(σ:List (Option V))(H:Hp)(s:Shared):Prop where
 ok:X.Ok
 os:s.os=X.s₀.os
 bare:AllBare s.gens
 base:Un X.fs X.ex X.H₀ H X.s₀.heap s.heap
 loc:∃m,s.heap.Ns X.env.locals m∧∀(i:Nat)(x:Str)(v:V),X.N[i]?=some x→σ[i]?=some (some v)→Vis X.env.scope x→∃u,RelV v u∧Look X.env s.heap m x u
 cell:∀x c,X.env.cells.lookup x=some c→∃v,s.heap.IsCell c v
 free:H X.env.locals=none
 yM:∀x c,X.env.cells.lookup x=some c→H c=none
 pin:∀p∈X.pn++pins,s.heap.get? p.1=some p.2∧H p.1=none∧p.1≠X.env.locals∧p.1∉X.fs∧∀v,p.2.data≠.cell v
 hok:Df X.prog X.w H s.heap
 len:σ.length=X.N.length
section
variable{X:Cx}{pins:List (Addr×Obj)}{σ:List (Option V)}{H H':Hp}{s:Shared}{h':Heap}
B5 Cx.Ok.aIS(ok:X.Ok){b:Addr}{o:Obj}(e:X.base.get? b=some o):b∉X.fs:=fun hb=>by
 have:=(ok.Lr.mem hb).1
 rw[e]at this;cases this
B5 Inv.bs(I:Inv X pins σ H s):∀b o,X.base.get? b=some o→s.heap.get? b=some o∧H b=none:=fun b o e=>
 ⟨I.base.keep b o (I.ok.bs b o e).1 (I.ok.bs b o e).2 (I.ok.aIS e) (I.ok.yf b o e),I.base.free b o (I.ok.bs b o e).1 (I.ok.bs b o e).2 (I.ok.yf b o e)⟩
B5 Inv.bk(I:Inv X pins σ H s):∀b o,X.base.get? b=some o→s.heap.get? b=some o:=fun b o e=>(I.bs b o e).1
B5 Inv.mod(I:Inv X pins σ H s):Mod X.K X.mg X.base:=I.ok.mod
B5 Inv.Im(I:Inv X pins σ H s):X.K.In s.heap:=I.ok.mod.kin.keeps I.bk
B5 Inv.lt(I:Inv X pins σ H s):X.env.locals<s.heap.objs.size:=let ⟨_,hn,_⟩:=I.loc;hn.lt
B5 Inv.sz(I:Inv X pins σ H s):X.s₀.heap.objs.size≤s.heap.objs.size:=G2 I.ok.above (O5 I.lt)
B5 Inv.aIT(I:Inv X pins σ H s){a:Addr}(h:s.heap.objs.size≤a):a∉X.fs:=fun hb=>by
 B3⟨_,o,ho,_⟩:=I.ok.Lr.mem hb
 ~absurd (E1 (Heap.lt_size ho) (G2 I.sz h)) (K7 _)
B5 Inv.cne(I:Inv X pins σ H s):∀x c,X.env.cells.lookup x=some c→c≠X.env.locals:=fun x c e z=>by
 B3⟨v,o,ho,hd⟩:=I.cell x c e
 B3⟨m,⟨o',es,ep,ho',hd',_⟩,_⟩:=I.loc
 rw[z,ho']at ho;cases ho;rw[hd']at hd;cases hd
B5 Inv.Lr(I:Inv X pins σ H s):s.heap.FunFrames X.base X.outer:=by
 have all:∀(l:List Env),(∀b∈frs l,b∈X.fs)→X.s₀.heap.FunFrames X.base l→s.heap.FunFrames X.base l:=by
  intro l
  induction l with
  | nil=>intro _ _;trivial
  | cons env r ih=>
   intro hs hl
   B3⟨hk,⟨L,o,hf,hn,ho,hd⟩,hr⟩:=hl
   have hL:L∈X.fs:=hs L (by B4 frs;rw[Q9,hf];~D4)
   B3⟨sl,e⟩:=I.base.slot L o ho (I.ok.frf L hL) hL fun z=>I.ok.aCt L z hL
   ~⟨hk,⟨L,_,hf,hn,e,hd⟩,ih (fun b hb=>hs b (by B4 frs;rw[Q9,hf];~C8 _ hb)) hr⟩
 ~all X.outer (fun _ hb=>hb) I.ok.Lr
B5 Inv.stack(I:Inv X pins σ H s):s.heap.FunFrames X.base X.stack:=by
 rcases I.ok.stk with e | ⟨e,hf⟩
 ·rw[e];~I.Lr
 ·rw[e]
  B3⟨m,hn,_⟩:=I.loc
  &.cons (by rw[I.ok.kind];decide) hf hn ?_ I.Lr
  ~Heap.get?_none_of_le (G2 I.ok.bsz I.ok.above)
B5 Inv.Wz(I:Inv X pins σ H s):∀b∈frs X.stack,b∈X.env.locals::X.fs:=fun b hb=>by
 rcases I.ok.stk with e | ⟨e,hf⟩
 ·rw[e]at hb;~C8 _ hb
 ·rw[e]at hb
  B4 frs at hb
  rw[Q9,hf]at hb
  ~hb
B5 Inv.ZG(I:Inv X pins σ H s):∀b∈frs X.stack,H b=none:=fun b hb=>by
 rcases C9.mp (I.Wz b hb)with e | hb
 ·rw[e];~I.free
 ·B3⟨_,o,ho,_⟩:=I.ok.Lr.mem hb
  ~I.base.free b o ho (I.ok.frf b hb) fun z=>I.ok.aCt b z hb
B5 Inv.step{g':Array GenState}{t':Nat}{d':Drawn}{ch:List Addr}(I:Inv X pins σ H s)
  (hch:∀b∈ch,(b∈X.ex∨X.s₀.heap.objs.size≤b)∧b≠X.env.locals∧(∀x c,X.env.cells.lookup x=some c→c≠b)∧∀p∈X.pn++pins,p.1≠b)
  (keep:∀b o,b≠X.env.locals→b∉X.fs→b∉ch→s.heap.get? b=some o→H b=none→h'.get? b=some o)
  (slot:∀b o,b≠X.env.locals→b∈X.fs→b∉ch→s.heap.get? b=some o→H b=none→∃sl,h'.get? b=some {o with slots:=sl}) (free:∀b o,b∉ch→s.heap.get? b=some o→H b=none→H' b=none)
  (there:∀b o,b∉ch→s.heap.get? b=some o→∃o',h'.get? b=some o')
  (tups:∀b xs,H b=some (.tup xs)→H' b=some (.tup xs)) (Wx:∀b o u,H b=some (.zA o u)→H' b=some (.zA o u)) (DR:∀b ps,H b=some (.tbl ps)→∃more,H' b=some (.tbl (ps++more)))
  (ns:∀m,s.heap.Ns X.env.locals m→h'.Ns X.env.locals m) (hok:Df X.prog X.w H' h') (hg:AllBare g') :
  Inv X pins σ H' {s with heap:=h',gens:=g',drawn:=d',toks:=t'}:=by
 have neL:∀b o,X.s₀.heap.get? b=some o→b≠X.env.locals:=fun b o e=>E5 (E1 (Heap.lt_size e) I.ok.above)
 have neC:∀b o,X.s₀.heap.get? b=some o→b∉X.ex→b∉ch:=fun b o e hx hb=>by
  rcases(hch b hb).1 with z | z
  ·~hx z
  ·~absurd (E1 (Heap.lt_size e) z) (K7 _)
 have cellK:∀x c,X.env.cells.lookup x=some c→∀v,s.heap.IsCell c v→h'.IsCell c v:=fun x c e v ⟨o,ho,hd⟩=>by
  have nch:c∉ch:=fun z=>(hch c z).2.2.1 x c e rfl
  by_cases hc:c∈X.fs
  ·B3⟨sl,q⟩:=slot c o (I.cne x c e) hc nch ho (I.yM x c e)
   ~⟨_,q,hd⟩
  ·~⟨o,keep c o (I.cne x c e) hc nch ho (I.yM x c e),hd⟩
 &⟨I.ok,I.os,hg,⟨fun b o e n hb hx=>?_,fun b o e n hb hx=>?_,fun b o e n hx=>?_,fun b o e hx=>?_,fun b xs e=>tups b xs (I.base.tups b xs e),fun b o xs e=>Wx b o xs (I.base.Wx b o xs e),fun b ps e=>?_⟩,?_,fun x c e=>?_,?_,fun x c e=>?_,fun p hp=>?_,hok,I.len⟩
 ·~keep b o (neL b o e) hb (neC b o e hx) (I.base.keep b o e n hb hx) (I.base.free b o e n hx)
 ·B3⟨sl,e1⟩:=I.base.slot b o e n hb hx
  B3⟨sl',e2⟩:=slot b _ (neL b o e) hb (neC b o e hx) e1 (I.base.free b o e n hx)
  ~⟨sl',e2⟩
 ·B3⟨o',e1⟩:=I.base.there b o e hx
  ~free b o' (neC b o e hx) e1 (I.base.free b o e n hx)
 ·B3⟨o',e1⟩:=I.base.there b o e hx
  ~there b o' (neC b o e hx) e1
 ·B3⟨m1,e1⟩:=I.base.DR b ps e
  B3⟨m2,e2⟩:=DR b _ e1
  ~⟨m1++m2,by rw[e2,Array.append_assoc]⟩
 ·B3⟨m,hn,hl⟩:=I.loc
  &⟨m,ns m hn,fun i x v e1 e2 e3=>?_⟩
  B3⟨u,r,l⟩:=hl i x v e1 e2 e3
  &⟨u,r,?_⟩
  rcases l with l | ⟨k,c,e,z⟩
  ·~.inl l
  ·~.inr ⟨k,c,e,cellK x c e _ z⟩
 ·B3⟨v,z⟩:=I.cell x c e
  ~⟨v,cellK x c e v z⟩
 ·B3⟨m,⟨o,_,_,ho,_⟩,_⟩:=I.loc
  ~free _ o (fun z=>(hch _ z).2.1 rfl) ho I.free
 ·B3⟨v,o,ho,hd⟩:=I.cell x c e
  ~free c o (fun z=>(hch c z).2.2.1 x c e rfl) ho (I.yM x c e)
 ·B3⟨e,n,ne,nf,d⟩:=I.pin p hp
  have nch:p.1∉ch:=fun z=>(hch p.1 z).2.2.2 p hp rfl
  ~⟨keep p.1 p.2 ne nf nch e n,free p.1 p.2 nch e n,ne,nf,d⟩
B5 Inv.un{t':Nat}(I:Inv X pins σ H s)(u:Un X.fs [] H H' s.heap h')(hok:Df X.prog X.w H' h'):Inv X pins σ H' {s with heap:=h',toks:=t'}:=by
 B3⟨m,⟨o,es,ep,ho,r⟩,_⟩:=id I.loc
 B3⟨sl,hL⟩:=u.any ho I.free (by simp)
 ~I.step (g':=s.gens) (d':=s.drawn) (ch:=[]) (fun _ z=>nomatch z) (fun b o _ hb _ e n=>u.keep b o e n hb (by simp)) (fun b o _ hb _ e n=>u.slot b o e n hb (by simp)) (fun b o _ e n=>u.free b o e n (by simp)) (fun b o _ e=>u.there b o e (by simp)) u.tups u.Wx u.DR (fun m' hm=>by
  B3⟨o',es',ep',ho',r'⟩:=hm
  rw[ho]at ho';cases ho'
  ~⟨_,es',ep',hL,r'⟩) hok I.bare
B5 Inv.call{g':Array GenState}{t':Nat}{d':Drawn}{ch:List Addr}(I:Inv X pins σ H s)(u:Un (frs X.stack) ch H H' s.heap h')(hok:Df X.prog X.w H' h')(hg:AllBare g')
  (hch:∀b∈ch,(b∈X.ex∨X.s₀.heap.objs.size≤b)∧b≠X.env.locals∧(∀x c,X.env.cells.lookup x=some c→c≠b)∧∀p∈X.pn++pins,p.1≠b) :
  Inv X pins σ H' {s with heap:=h',gens:=g',drawn:=d',toks:=t'}:=by
 B3⟨m,⟨o,es,ep,ho,r⟩,_⟩:=id I.loc
 B3⟨sl,hL⟩:=u.any ho I.free fun z=>(hch _ z).2.1 rfl
 ~I.step (ch:=ch) hch (fun b o hL hb hc e n=>u.keep b o e n (fun z=>(C9.mp (I.Wz b z)).elim hL hb) hc) (fun b o _ _ hc e n=>u.any e n hc) (fun b o hc e n=>u.free b o e n hc) (fun b o hc e=>u.there b o e hc) u.tups u.Wx u.DR (fun m' hm=>by
  B3⟨o',es',ep',ho',r'⟩:=hm
  rw[ho]at ho';cases ho'
  ~⟨_,es',ep',hL,r'⟩) hok hg
B5 Inv.turned{t':Nat}{it:Addr}(I:Inv X pins σ H s)(k:∀b o,b≠it→s.heap.get? b=some o→h'.get? b=some o)(hn:H it=none)(hL:it≠X.env.locals)
  (h1:it∈X.ex∨X.s₀.heap.objs.size≤it) (h2:∀x c,X.env.cells.lookup x=some c→c≠it) (h3:∀p∈X.pn++pins,p.1≠it):Inv X pins σ H {s with heap:=h',toks:=t'}:=by
 have nit:∀b u,H b=some u→b≠it:=fun b u e z=>by rw[z,hn]at e;cases e
 &I.step (g':=s.gens) (d':=s.drawn) (ch:=[it]) (fun b hb=>?_) (fun b o _ _ hc e _=>k b o (fun z=>hc (by simp[z])) e) (fun b o _ _ hc e _=>⟨o.slots,k b o (fun z=>hc (by simp[z])) e⟩) (fun _ _ _ _ n=>n)
  (fun b o hc e=>⟨o,k b o (fun z=>hc (by simp[z])) e⟩) (fun _ _ e=>e) (fun _ _ _ e=>e) (fun b ps e=>⟨#[],by rw[e];simp⟩) (fun m hm=>?_) (fun b u e=>?_) I.bare
 ·have e:b=it:=by simpa using hb
  subst e
  ~⟨h1,hL,h2,h3⟩
 ·B3⟨o,es,ep,ho,r⟩:=hm
  ~⟨o,es,ep,k _ o (Ne.symm hL) ho,r⟩
 ·&(I.hok b u e).stay (fun c v hc q=>k c v ?_ q) (fun _ q=>q) fun _ _ q=>q
  rcases hc with z | z
  ·rw[z];~nit b u e
  ·~nit c _ z
B5 Inv.tok(I:Inv X pins σ H s)(t:Nat):Inv X pins σ H {s with toks:=t}:=I.un (h':=s.heap) (t':=t) Un.refl I.hok
B5 Inv.kept{t':Nat}(I:Inv X pins σ H s)(k:∀b u,s.heap.get? b=some u→h'.get? b=some u):Inv X pins σ H {s with heap:=h',toks:=t'}:=I.un (Un.kept k) (I.hok.kept k)
B5 Inv.laid{a:Addr}{o:HO}{t':Nat}(I:Inv X pins σ H s)(k:∀b u,s.heap.get? b=some u→h'.get? b=some u)(hp:s.heap.objs.size≤a)(new:jG X.prog X.w (upd H a o) h' a o) :
  Inv X pins σ (upd H a o) {s with heap:=h',toks:=t'}:=I.un (Un.laid k hp (I.hok.fresh hp)) (I.hok.laid k hp new)
B5 Inv.write{x e:Addr}{o:HO}{t':Nat}(I:Inv X pins σ H s)(mu:Mut (H x))(he:e=x∨H e=some (.own x))(k:∀b u,b≠e→s.heap.get? b=some u→h'.get? b=some u)(heo:∃u,h'.get? e=some u)
  (new:jG X.prog X.w (upd H x o) h' x o):Inv X pins σ (upd H x o) {s with heap:=h',toks:=t'}:=I.un (Un.write mu he k heo) (I.hok.write mu he k heo new)
B5 Inv.weak{σ':List (Option V)}(I:Inv X pins σ H s)(hl:σ'.length=σ.length)(w:∀(i:Nat) v,σ'[i]?=some (some v)→σ[i]?=some (some v)):Inv X pins σ' H s:=
 ⟨I.ok,I.os,I.bare,I.base,let ⟨m,hn,hl'⟩:=I.loc;⟨m,hn,fun i x v e1 e2 e3=>hl' i x v e1 (w i v e2) e3⟩,I.cell,I.free,I.yM,I.pin,I.hok,hl.trans I.len⟩
B5 Inv.ZJ{yg:List (Addr×Obj)}(I:Inv X pins σ H s)(h:∀p∈yg,s.heap.get? p.1=some p.2∧H p.1=none∧p.1≠X.env.locals∧p.1∉X.fs∧∀v,p.2.data≠.cell v):Inv X yg σ H s:=
 ⟨I.ok,I.os,I.bare,I.base,I.loc,I.cell,I.free,I.yM,fun p hp=>(G7.mp hp).elim (fun z=>I.pin p (N8 _ z)) (h p),I.hok,I.len⟩
B5 DW{N:List Str}(hN:N.Nodup){i j:Nat}{x:Str}(a:N[i]?=some x)(b:N[j]?=some x):i=j:=by
 B3⟨h1,e1⟩:=D1.mp a
 B3⟨h2,e2⟩:=D1.mp b
 ~(List.getElem_inj hN).mp (e1.trans e2.symm)
B5 Ud{M:Model}{A:Around}{E:Value→Shared→Prop}{i:Nat}{x:Str}{v:V}{u:Value}{Q:Unit→Shared→Prop}(I:Inv X pins σ H s)(hN:X.N.Nodup)(hi:X.N[i]?=some x)(hx:Loc X.env.scope x)(r:RelV v u)
  (h:∀s',Inv X pins (σ.set i (some v)) H s'→(∃a,Heap.SameBut a s.heap s'.heap∧(a=X.env.locals∨X.env.cells.lookup x=some a))→Q () s') (hf:X.fn x=true∨X.env.scope.names.lookup x=some .local:=by first | ~.inl rfl | ~.inr rfl | assumption):wpAny M A (storeName X.env x u) Q E s:=by
 B3⟨m,hn,hl⟩:=id I.loc
 have hcls:(X.env.scope.kind==.class||(X.env.scope.kind==.module&&X.env.locals != X.env.globals))=false:=by rw[I.ok.kind];rfl
 have hiσ:i<σ.length:=by rw[I.len];~(D1.mp hi).1
 have cne:=I.cne
 have tracked:∀{a:Addr} {h':Heap},(∃o,s.heap.get? a=some o∧H a=none)→Heap.SameBut a s.heap h'→Df X.prog X.w H h':=fun{a h'} ha hs b ob e=>by
  B3⟨_,_,hfree⟩:=ha
  &(I.hok b ob e).stay (fun c w' hc q=>(hs.2 c ?_).trans q) (fun _ q=>q) fun _ _ q=>q
  rintro rfl
  rcases hc with rfl | hc
  ·rw[hfree]at e;cases e
  ·rw[hfree]at hc;cases hc
 rcases hx with hk | hk
 ·&wpAny_storeName_local hk hn (fun h' hn' hs=>?_) hcls
  B3⟨oL,_,_,hoL,_⟩:=id hn
  &h _ ⟨I.ok,I.os,I.bare,⟨fun b o e n hb hx=>?_,fun b o e n hb hx=>?_,I.base.free,fun b o e hx=>?_,I.base.tups,I.base.Wx,I.base.DR⟩,⟨_,hn',fun j y v' e1 e2 e3=>?_⟩,fun y c e=>?_,I.free,I.yM,fun p hp=>?_,tracked ⟨oL,hoL,I.free⟩ hs,by simpa using I.len⟩ ⟨_,hs,.inl rfl⟩
  ·~(hs.2 b (E5 (E1 (Heap.lt_size e) I.ok.above))).trans (I.base.keep b o e n hb hx)
  ·B3⟨sl,e1⟩:=I.base.slot b o e n hb hx
   ~⟨sl,(hs.2 b (E5 (E1 (Heap.lt_size e) I.ok.above))).trans e1⟩
  ·B3⟨o',e1⟩:=I.base.there b o e hx
   ~⟨o',(hs.2 b (E5 (E1 (Heap.lt_size e) I.ok.above))).trans e1⟩
  ·by_cases hj:j=i
   ·subst hj
    rw[hi]at e1;cases e1
    rw[G6 hiσ]at e2
    cases e2
    ~⟨u,r,.inl ⟨hk,by simp⟩⟩
   ·rw[T5 (Ne.symm hj)]at e2
    B3⟨u',r',q⟩:=hl j y v' e1 e2 e3
    &⟨u',r',?_⟩
    rcases q with ⟨k,e⟩ | ⟨k,c,e,z⟩
    ·&.inl ⟨k,?_⟩
     have:y≠x:=fun e=>hj (DW hN e1 (e▸hi))
     simp[this,e]
    ·~.inr ⟨k,c,e,z.sameBut hs (cne y c e)⟩
  ·B3⟨w',z⟩:=I.cell y c e
   ~⟨w',z.sameBut hs (cne y c e)⟩
  ·B3⟨e,n,ne,nf,d⟩:=I.pin p hp
   ~⟨(hs.2 p.1 ne).trans e,n,ne,nf,d⟩
 ·have hfn:X.fn x=true:=by
   rcases hf with z | z
   ·~z
   ·rw[z]at hk;cases hk
  B3⟨c,hc⟩:=I.ok.has x (.inl hk)
  B3⟨w',z⟩:=I.cell x c hc
  &wpAny_storeName_cell I.ok.kind hk hc z (fun h' hc' hs=>?_)
  B3⟨oc,hoc,aIU⟩:=id z
  &h {s with heap:=h'} ⟨I.ok,I.os,I.bare,⟨fun b o e n hb hx=>?_,fun b o e n hb hx=>?_,I.base.free,fun b o e hx=>?_,I.base.tups,I.base.Wx,I.base.DR⟩,⟨m,hn.sameBut hs (Ne.symm (cne x c hc)),fun j y v' e1 e2 e3=>?_⟩,fun y c' e=>?_,I.free,I.yM,fun p hp=>?_,tracked ⟨oc,hoc,I.yM x c hc⟩ hs,by simpa using I.len⟩ ⟨c,hs,.inr hc⟩
  ·~(hs.2 b (E5 (E1 (Heap.lt_size e) (I.ok.cab x c hfn hc)))).trans (I.base.keep b o e n hb hx)
  ·B3⟨sl,e1⟩:=I.base.slot b o e n hb hx
   ~⟨sl,(hs.2 b (E5 (E1 (Heap.lt_size e) (I.ok.cab x c hfn hc)))).trans e1⟩
  ·B3⟨o',e1⟩:=I.base.there b o e hx
   ~⟨o',(hs.2 b (E5 (E1 (Heap.lt_size e) (I.ok.cab x c hfn hc)))).trans e1⟩
  ·by_cases hj:j=i
   ·subst hj
    rw[hi]at e1;cases e1
    rw[G6 hiσ]at e2
    cases e2
    ~⟨u,r,.inr ⟨.inl hk,c,hc,hc'⟩⟩
   ·rw[T5 (Ne.symm hj)]at e2
    B3⟨u',r',q⟩:=hl j y v' e1 e2 e3
    &⟨u',r',?_⟩
    rcases q with q | ⟨k,c',e,z'⟩
    ·~.inl q
    ·&.inr ⟨k,c',e,z'.sameBut hs ?_⟩
     rintro rfl
     ~hj (DW hN e1 (I.ok.inj _ _ _ e hc▸hi))
  ·by_cases hcc:c'=c
   ·subst hcc;~⟨_,hc'⟩
   ·B3⟨w2,z2⟩:=I.cell y c' e
    ~⟨w2,z2.sameBut hs hcc⟩
  ·B3⟨e,n,ne,nf,d⟩:=I.pin p hp
   &⟨(hs.2 p.1 ?_).trans e,n,ne,nf,d⟩
   intro q
   rw[q,hoc]at e
   have q':oc=p.2:=F4 e
   ~d w' (by rw[←q'];~aIU)
B5 DX{M:Model}{A:Around}{E:Value→Shared→Prop}{i:Nat}{x:Str}{v:V}{u:Value}{Q:Unit→Shared→Prop}(I:Inv X pins σ H s)(hN:X.N.Nodup)(hi:X.N[i]?=some x)(hx:Loc X.env.scope x)(r:RelV v u)
  (h:∀s',Inv X pins (σ.set i (some v)) H s'→Q () s') (hf:X.fn x=true∨X.env.scope.names.lookup x=some .local:=by first | ~.inl rfl | ~.inr rfl | assumption):wpAny M A (storeName X.env x u) Q E s:=
 Ud I hN hi hx r (fun s' I' _=>h s' I') hf
B5 Inv.call'{s':Shared}{ch:List Addr}(I:Inv X pins σ H s)(ho:s'.os=s.os)(u:Un (frs X.stack) ch H H' s.heap s'.heap)(hok:Df X.prog X.w H' s'.heap)(hg:AllBare s'.gens)
  (hch:∀b∈ch,(b∈X.ex∨X.s₀.heap.objs.size≤b)∧b≠X.env.locals∧(∀x c,X.env.cells.lookup x=some c→c≠b)∧∀p∈X.pn++pins,p.1≠b):Inv X pins σ H' s':=by
 B3⟨h',g',d',t',o'⟩:=s'
 have e:o'=s.os:=ho
 subst e
 ~I.call (g':=g') (t':=t') (d':=d') u hok hg hch
end
abbrev XK:=Value→Option Addr→Hp→Prop
abbrev St:=List (Option V)
abbrev VK:=V→Hp→Prop
abbrev TE:=St→Hp→VK→Prop
abbrev TT:=St→Hp→(Bool→Hp→Prop)→Prop
abbrev TA:=St→Hp→(List V→Hp→Prop)→Prop
structure Ends where
 nx:St→Hp→Prop
 rt:VK
 bk:St→Hp→Prop:=fun _ _=>False
 ct:St→Hp→Prop:=fun _ _=>False
abbrev TS:=Ends→St→Hp→Prop
def EP(X:Cx)(pins:List (Addr×Obj))(σ:St)(Q:VK)(u:Value)(s':Shared):Prop:=∃v H',Inv X pins σ H' s'∧RelV v u∧Q v H'
def TP(X:Cx)(pins:List (Addr×Obj))(σ:St)(Q:Bool→Hp→Prop)(b:Bool)(s':Shared):Prop:=∃H',Inv X pins σ H' s'∧Q b H'
def AP(X:Cx)(pins:List (Addr×Obj))(σ:St)(Q:List V→Hp→Prop)(us:List Value)(s':Shared):Prop:=∃vs H',Inv X pins σ H' s'∧Vals vs us∧Q vs H'
def SP(X:Cx)(pins:List (Addr×Obj))(D:Ends)(f:Flow)(s':Shared):Prop:=
 match f with
 | .next=>∃σ' H',Inv X pins σ' H' s'∧D.nx σ' H'
 | .brk=>∃σ' H',Inv X pins σ' H' s'∧D.bk σ' H'
 | .cont=>∃σ' H',Inv X pins σ' H' s'∧D.ct σ' H'
 | .ret u=>∃v σ' H',Inv X pins σ' H' s'∧RelV v u∧D.rt v H'
def PE(X:Cx)(e:Expr)(t:TE):Prop:=
 ∀(pins:List (Addr×Obj))(s:Shared)(σ:St)(H:Hp)(Q:VK),Inv X pins σ H s→t σ H Q→wpAny (model X.prog X.w) X.A (eval e X.env) (EP X pins σ Q) X.xe s
def PT(X:Cx)(e:Expr)(t:TT):Prop:=
 ∀(pins:List (Addr×Obj))(s:Shared)(σ:St)(H:Hp)(Q:Bool→Hp→Prop),Inv X pins σ H s→t σ H Q→wpAny (model X.prog X.w) X.A (isTrue e X.env (eval e X.env)) (TP X pins σ Q) X.xe s
def PW(X:Cx)(e:Expr)(t:TT):Prop:=
 ∀(whole:Sem Value)(pins:List (Addr×Obj))(s:Shared)(σ:St)(H:Hp)(Q:Bool→Hp→Prop),Inv X pins σ H s→t σ H Q→wpAny (model X.prog X.w) X.A (isTrue e X.env whole) (TP X pins σ Q) X.xe s
B5 PW.pt{X:Cx}{e:Expr}{t:TT}(h:PW X e t):PT X e t:=h _
def PA(X:Cx)(es:List Expr)(t:TA):Prop:=
 ∀(pos:Pos)(pins:List (Addr×Obj))(s:Shared)(σ:St)(H:Hp)(Q:List V→Hp→Prop),Inv X pins σ H s→t σ H Q→wpAny (model X.prog X.w) X.A (spliced (backTo pos (starEach es X.env))) (AP X pins σ Q) X.xe s
def PS(X:Cx)(st:Stmt)(t:TS):Prop:=
 ∀(pins:List (Addr×Obj))(s:Shared)(σ:St)(H:Hp)(D:Ends),Inv X pins σ H s→t D σ H→wpAny (model X.prog X.w) X.A (exec st X.env) (SP X pins D) X.xe s
def DY(X:Cx)(st:List Stmt)(t:TS):Prop:=
 ∀(pins:List (Addr×Obj))(s:Shared)(σ:St)(H:Hp)(D:Ends),Inv X pins σ H s→t D σ H→wpAny (model X.prog X.w) X.A (execs st X.env) (SP X pins D) X.xe s
B5 jA{α:Type}{t:Sem α}{Q Q':α→Shared→Prop}{M:Model}{A:Around}{E:Value→Shared→Prop}{s:Shared}(h:wpAny M A t Q E s)(hQ:∀a s,Q a s→Q' a s):wpAny M A t Q' E s:=wpAny_mono h hQ fun _ _ x=>x
end L2
namespace L2
open PySem PySem.Spec PyProof.Rows
section
variable{X:Cx}
def qN(i:Nat):TE:=fun σ H Q=>∃v,σ[i]?=some (some v)∧Q v H
def tC(v:V):TE:=fun _ H Q=>Q v H
B5 aEZ{i:Nat}{x:Str}{pos:Pos}(hN:X.N[i]?=some x)(hv:Vis X.env.scope x)(hd:(x==("__debug__" : Str))=false:=by decide) (hcd:(x==("__classdict__" : Str))=false:=by decide):PE X (.Name x pos) (qN i):=by
  intro pins s σ H Q I h
  B3⟨v,e,h⟩:=h
  B3⟨m,hn,hl⟩:=I.loc
  B3⟨u,r,l⟩:=hl i x v hN e hv
  have fin:EP X pins σ Q u s:=⟨v,H,I,r,h⟩
  rcases l with ⟨hk,hm⟩ | ⟨hk,c,hc,hcell⟩
  · ~wpAny_Name (wpAny_loadName_local I.ok.kind hk hn hm fin) hd
  · rcases hk with hk | hk
    · ~wpAny_Name (wpAny_loadName_cell I.ok.kind hk hc hcell fin) hd
    · ~wpAny_Name (wpAny_loadName_free I.ok.kind hk hc hcell fin hcd) hd
B5 yh{i j pos}:PE X (.Constant (.int i) j pos) (tC (.int i)):=fun _ _ _ H _ I h=>wpAny_Constant_int ⟨.int i,H,I.tok _,⟨_,rfl⟩,h⟩
B5 aHa{b j pos}:PE X (.Constant (.bool b) j pos) (tC (.bl b)):=fun _ _ _ H _ I h=>Constant_bool ⟨.bl b,H,I,rfl,h⟩
B5 aE0{j pos}:PE X (.Constant .none j pos) (tC .non):=fun _ _ _ H _ I h=>Constant_none ⟨.non,H,I,rfl,h⟩
def Gl(X:Cx)(x:Str):Prop:=X.env.kindOf x=some .globalImplicit
B5 Xa{E:Value→Shared→Prop}{pins:List (Addr×Obj)}{s:Shared}{σ:St}{H:Hp}{x:Str}{u:Value}{pos:Pos}{Q:Value→Shared→Prop}(I:Inv X pins σ H s)(hg:Gl X x)(hm:X.mg x=some u)(h:Q u s)
  (hd:(x==("__debug__" : Str))=false:=by decide):wpAny (model X.prog X.w) X.A (eval (.Name x pos) X.env) Q E s:=
 Calls.Name_function_global I.ok.kind hg (Calls.loadGlobal_global (by rw[I.ok.glob];~I.mod.glob.keeps I.bk) hm h) hd
B5 wN{E:Value→Shared→Prop}{pins:List (Addr×Obj)}{s:Shared}{σ:St}{H:Hp}{x:Str}{u:Value}{pos:Pos}{Q:Value→Shared→Prop}(I:Inv X pins σ H s)(hg:Gl X x)(hm:X.mg x=none)(hv:bootBuiltins x=some u)(h:Q u s)
  (hn:x ≠ "__name__" := by decide) (hd:(x==("__debug__" : Str))=false:=by decide):wpAny (model X.prog X.w) X.A (eval (.Name x pos) X.env) Q E s:=by
 B3⟨mb,h1,h2⟩:=I.mod.blt
 ~Calls.Name_function_global I.ok.kind hg (Calls.loadGlobal_builtin (by rw[I.ok.glob];~I.mod.glob.keeps I.bk) hm (by rw[I.ok.blt];~h1.keeps I.bk) ((h2 x hn).trans hv) h) hd
B5 aCu{x:Str}{v:V}{u:Value}{pos:Pos}(hg:Gl X x)(hm:X.mg x=some u)(r:RelV v u)(hd:(x==("__debug__" : Str))=false:=by decide):PE X (.Name x pos) (tC v):=
 fun _ _ _ H _ I h=>Xa I hg hm ⟨v,H,I,r,h⟩ hd
B5 Xb{x:Str}{v:V}{u:Value}{pos:Pos}(hg:Gl X x)(hm:X.mg x=none)(hv:bootBuiltins x=some u)(r:RelV v u)(hn:x ≠ "__name__" := by decide) (hd:(x==("__debug__" : Str))=false:=by decide):PE X (.Name x pos) (tC v):=
 fun _ _ _ H _ I h=>wN I hg hm hv ⟨v,H,I,r,h⟩ hn hd
variable{a b:Expr}{ta tb:TE}{pos:Pos}
def PC(X:Cx)(op:CmpOp)(a b:Expr)(t:TE):Prop:=
 ∀(pins:List (Addr×Obj))(s:Shared)(σ:St)(H:Hp)(Q:VK),Inv X pins σ H s→t σ H Q →
  wpAny (model X.prog X.w) X.A (eval a X.env) (fun v s₁=>wpAny (model X.prog X.w) X.A (eval b X.env) (fun u s₂=>wpAny (model X.prog X.w) X.A (compareOp op v u) (EP X pins σ Q) X.xe s₂) X.xe s₁) X.xe s
def tB(t:TE):TT:=fun σ H Q=>t σ H fun x H1=>∃c,x=.bl c∧Q c H1
B5 RB{op:CmpOp}{t:TE}(h:PC X op a b t)(h1:behindInMarks op b=false:=by first | ~nobehind _ A8 A8 | rfl):PE X (.Compare a [op] [b] pos) t:=fun pins s σ H Q I hw=>wpAny_Compare1 (h pins s σ H Q I hw) h1
B5 aE1{op:CmpOp}{t:TE}(h:PC X op a b t)(h1:behindInMarks op b=false:=by first | ~nobehind _ A8 A8 | rfl):PT X (.Compare a [op] [b] pos) (tB t):=by
 intro pins s σ H Q I hw
 &wpAny_isTrue_Compare1 (jA (h pins s σ H _ I hw) fun v s1 h1=>jA h1 fun u s2 h2=>jA h2 fun c s3 ⟨x,H1,I1,r1,q1⟩=>?_) h1
 B3⟨d,rfl,q⟩:=q1
 cases r1
 ~wpAny_truthy_bool ⟨H1,I1,q⟩
B5 aE2{e:Expr}{t:TE}(h:PE X e t)(he:∀whole,isTrue e X.env whole=(do let v ←whole;standAt e.pos;holding [v] (truthy v)):=by intro _;rfl):PT X e (tB t):=by
 intro pins s σ H Q I hw
 &isTrue_plain (jA (h pins s σ H _ I hw) fun v s1 ⟨x,H1,I1,r1,q1⟩=>?_) (he _)
 B3⟨d,rfl,q⟩:=q1
 cases r1
 ~wpAny_truthy_bool ⟨H1,I1,q⟩
variable{tA tB':TT}{rest:List Expr}
def aE3(t u:TT):TT:=fun σ H Q=>t σ H fun c H1=>if c=true then u σ H1 Q else Q false H1
def tOr(t u:TT):TT:=fun σ H Q=>t σ H fun c H1=>if c=true then Q true H1 else u σ H1 Q
def aE4(t:TT):TT:=fun σ H Q=>t σ H fun c H1=>Q (!c) H1
B5 aCv(ha:PT X a tA):PW X (.BoolOp .And [a] pos) tA:=by
 intro wh pins s σ H Q I h
 &isTrue_and (jA (ha pins s σ H Q I h) fun c s1 e=>?_)
 cases c with
 | true=>~isTrue_and_nil e
 | false=>~e
B5 aE5(ha:PT X a tA):PW X (.BoolOp .Or [a] pos) tA:=by
 intro wh pins s σ H Q I h
 &isTrue_or (jA (ha pins s σ H Q I h) fun c s1 e=>?_)
 cases c with
 | false=>~isTrue_or_nil e
 | true=>~e
B5 aE6(ha:PT X a tA)(hb:PW X (.BoolOp .And (b::rest) pos) tB'):PW X (.BoolOp .And (a::b::rest) pos) (aE3 tA tB'):=by
 intro wh pins s σ H Q I h
 &isTrue_and (jA (ha pins s σ H _ I h) fun c s1 ⟨H1,I1,q1⟩=>?_)
 cases c with
 | true=>~hb wh pins s1 σ H1 Q I1 q1
 | false=>~⟨H1,I1,q1⟩
B5 aHb(ha:PT X a tA)(hb:PW X (.BoolOp .Or (b::rest) pos) tB'):PW X (.BoolOp .Or (a::b::rest) pos) (tOr tA tB'):=by
 intro wh pins s σ H Q I h
 &isTrue_or (jA (ha pins s σ H _ I h) fun c s1 ⟨H1,I1,q1⟩=>?_)
 cases c with
 | true=>~⟨H1,I1,q1⟩
 | false=>~hb wh pins s1 σ H1 Q I1 q1
B5 aE7(ha:PT X a tA):PT X (.UnaryOp .Not a pos) (aE4 tA):=by
 intro pins s σ H Q I h
 ~isTrue_not (ha pins s σ H (fun c H1=>Q (!c) H1) I h)
def aD4(ta tb:TE):TE:=fun σ H Q=>ta σ H fun x H1=>∃c,x=.bl c∧if c=true then tb σ H1 Q else Q (.bl false) H1
def aHc(ta tb:TE):TE:=fun σ H Q=>ta σ H fun x H1=>∃c,x=.bl c∧if c=true then Q (.bl true) H1 else tb σ H1 Q
def aD5(ta:TE):TE:=fun σ H Q=>ta σ H fun x H1=>∃c,x=.bl c∧Q (.bl (!c)) H1
B5 aE8{op}{t:TE}(h:PE X a t):PE X (.BoolOp op [a] pos) t:=fun pins s σ H Q I hw=>BoolOp_one (h pins s σ H Q I hw)
B5 aE9(ha:PE X a ta)(hb:PE X (.BoolOp .And (b::rest) pos) tb):PE X (.BoolOp .And (a::b::rest) pos) (aD4 ta tb):=by
 intro pins s σ H Q I h
 &BoolOp_and (jA (ha pins s σ H _ I h) fun v s1 ⟨x,H1,I1,r1,q1⟩=>?_)
 B3⟨c,rfl,q1⟩:=q1
 cases r1
 &wpAny_truthy_bool ?_
 cases c with
 | true=>~hb pins s1 σ H1 Q I1 q1
 | false=>~⟨.bl false,H1,I1,rfl,q1⟩
B5 aHd(ha:PE X a ta)(hb:PE X (.BoolOp .Or (b::rest) pos) tb):PE X (.BoolOp .Or (a::b::rest) pos) (aHc ta tb):=by
 intro pins s σ H Q I h
 &BoolOp_or (jA (ha pins s σ H _ I h) fun v s1 ⟨x,H1,I1,r1,q1⟩=>?_)
 B3⟨c,rfl,q1⟩:=q1
 cases r1
 &wpAny_truthy_bool ?_
 cases c with
 | false=>~hb pins s1 σ H1 Q I1 q1
 | true=>~⟨.bl true,H1,I1,rfl,q1⟩
B5 aFa(ha:PE X a ta):PE X (.UnaryOp .Not a pos) (aD5 ta):=by
 intro pins s σ H Q I h
 &UnaryOp_ (jA (ha pins s σ H _ I h) fun v s1 ⟨x,H1,I1,r1,q1⟩=>?_)
 B3⟨c,rfl,q1⟩:=q1
 cases r1
 ~not_of (wpAny_truthy_bool ⟨.bl (!c),H1,I1,rfl,q1⟩)
def tIf(t:TT)(ta tb:TE):TE:=fun σ H Q=>t σ H fun c H1=>if c=true then ta σ H1 Q else tb σ H1 Q
B5 yj{c:Expr}(hc:PT X c tA)(ha:PE X a ta)(hb:PE X b tb):PE X (.IfExp c a b pos) (tIf tA ta tb):=by
 intro pins s σ H Q I h
 &wpAny_IfExp (jA (hc pins s σ H _ I h) fun d s1 ⟨H1,I1,q1⟩=>?_)
 cases d with
 | true=>~ha pins s1 σ H1 Q I1 q1
 | false=>~hb pins s1 σ H1 Q I1 q1
end
end L2
namespace L2
open PySem PySem.Spec PyProof.Rows
def pK(K:aF)(H:Hp)(a:Addr)(xs:List V):Prop:=
 Rd H a (.lst xs) ∨
  ∃(o:Obj)(its:Array Value)(n:Nat),K.lookup a=some o∧o.cls=.type "list" ∧ o.dict=none∧o.data=.seq its n∧its.size≤sizeLine∧Vals xs its.toList
def zO(K:aF)(H:Hp)(a:Addr)(xs:List V):Prop:=
 Rd H a (.tup xs) ∨
  ∃(o:Obj)(its:Array Value)(n:Nat),K.lookup a=some o∧o.cls=.type "tuple" ∧ o.data=.seq its n∧its.size≤sizeLine∧Vals xs its.toList
def aIW:Value→Option V
 | .none=>some .non
 | .bool b=>some (.bl b)
 | .int i _=>some (.int i)
 | .str x _=>some (.str x)
 | .bytes b _=>some (.byt b)
 | .float b _=>some (.flt b)
 | .ref a=>some (.ref a)
 | .type n=>some (.ty n)
 | _=>none
B5 RelV.abs{x:V}{u:Value}(r:RelV x u):aIW u=some x:=by
 cases x with
 | non=>cases r;rfl
 | bl _=>cases r;rfl
 | int _=>B3⟨t,rfl⟩:=r;rfl
 | str _=>B3⟨t,rfl⟩:=r;rfl
 | byt _=>B3⟨t,rfl⟩:=r;rfl
 | flt _=>B3⟨t,rfl⟩:=r;rfl
 | ref _=>cases r;rfl
 | ty _=>cases r;rfl
B5 RelV.inj{x y:V}{u:Value}(r:RelV x u)(q:RelV y u):x=y:=F4 (r.abs.symm.trans q.abs)
B5 Vals.inj:∀{xs ys:List V} {us:List Value},Vals xs us→Vals ys us→xs=ys
 | _,_,_,.nil,.nil=>rfl
 | _,_,_,.cons r t,.cons r' t'=>by rw[r.inj r',Vals.inj t t']
section
variable{X:Cx}{pins:List (Addr×Obj)}{σ:St}{H:Hp}{s:Shared}{a:Addr}{xs ys:List V}
B5 pK.of{K:aF}(h:H a=some (.lst xs)):pK K H a xs:=.inl (.inl h)
B5 zO.of{K:aF}(h:H a=some (.tup xs)):zO K H a xs:=.inl (.inl h)
B5 Inv.list(I:Inv X pins σ H s)(h:pK X.K H a xs):∃its:List Value,Vals xs its∧PlainL s.heap a its.toArray∧xs.length≤sizeLine:=by
 rcases h with h | ⟨o,its,n,hk,hc,hd,hs,hz,r⟩
 ·B3⟨z,its,n,r,e⟩:=h.ok I.hok
  ~⟨its,r,⟨_,n,e,rfl,rfl,rfl⟩,z⟩
 ·&⟨its.toList,r,⟨o,n,I.Im a o hk,hc,hd,by simpa using hs⟩,?_⟩
  have e:=r.length
  simp only[K3]at e
  omega
B5 Inv.tuple(I:Inv X pins σ H s)(h:zO X.K H a xs):∃its:List Value,Vals xs its∧IsTup s.heap a its.toArray∧xs.length≤sizeLine:=by
 rcases h with h | ⟨o,its,n,hk,hc,hs,hz,r⟩
 ·B3⟨z,its,r,p⟩:=h.ok I.hok
  ~⟨its,r,p,z⟩
 ·&⟨its.toList,r,⟨o,I.Im a o hk,hc,n,by simpa using hs⟩,?_⟩
  have e:=r.length
  simp only[K3]at e
  omega
B5 Inv.EY(I:Inv X pins σ H s)(h:pK X.K H a xs)(h':pK X.K H a ys):xs=ys:=by
 B3⟨its,r,⟨o,n,e,_,_,d⟩,_⟩:=I.list h
 B3⟨its',r',⟨o',n',e',_,_,d'⟩,_⟩:=I.list h'
 rw[e]at e';cases e'
 rw[d]at d'
 injection d' with d1 _
 have:its=its':=by simpa using congrArg p5 d1
 subst this
 ~r.inj r'
B5 Inv.Ue(I:Inv X pins σ H s)(h:zO X.K H a xs)(h':zO X.K H a ys):xs=ys:=by
 B3⟨its,r,⟨o,e,_,n,d⟩,_⟩:=I.tuple h
 B3⟨its',r',⟨o',e',_,n',d'⟩,_⟩:=I.tuple h'
 rw[e]at e';cases e'
 rw[d]at d'
 injection d' with d1 _
 have:its=its':=by simpa using congrArg p5 d1
 subst this
 ~r.inj r'
end
abbrev Cx.wish(X:Cx)(E:Value→Shared→Prop):Cx:={X with xe:=E}
abbrev Cx.ZK(X:Cx):Cx:=X.wish fun _ _=>False
B5 Cx.Ok.wish{X:Cx}(ok:X.Ok)(E:Value→Shared→Prop):(X.wish E).Ok:=
 ⟨ok.mod,ok.kind,ok.glob,ok.blt,ok.above,ok.inj,ok.has,ok.cab,ok.hd,ok.frames,ok.stk,ok.exf,ok.bs,ok.bsz,ok.yf,ok.aCt,ok.Lr,ok.frf⟩
B5 Cx.Ok.zP{X:Cx}{E:Value→Shared→Prop}(ok:(X.wish E).Ok):X.Ok:=
 ⟨ok.mod,ok.kind,ok.glob,ok.blt,ok.above,ok.inj,ok.has,ok.cab,ok.hd,ok.frames,ok.stk,ok.exf,ok.bs,ok.bsz,ok.yf,ok.aCt,ok.Lr,ok.frf⟩
section
variable{X:Cx}{pins:List (Addr×Obj)}{σ:St}{H:Hp}{s:Shared}{E:Value→Shared→Prop}
B5 Inv.wish(I:Inv X pins σ H s)(E:Value→Shared→Prop):Inv (X.wish E) pins σ H s:=⟨I.ok.wish E,I.os,I.bare,I.base,I.loc,I.cell,I.free,I.yM,I.pin,I.hok,I.len⟩
B5 Inv.zP(I:Inv (X.wish E) pins σ H s):Inv X pins σ H s:=⟨I.ok.zP,I.os,I.bare,I.base,I.loc,I.cell,I.free,I.yM,I.pin,I.hok,I.len⟩
B5 SP.zP{D:Ends}{f:Flow}{s':Shared}(h:SP (X.wish E) pins D f s'):SP X pins D f s':=by
 cases f with
 | next=>B3⟨σ',H',I,q⟩:=h;~⟨σ',H',I.zP,q⟩
 | brk=>B3⟨σ',H',I,q⟩:=h;~⟨σ',H',I.zP,q⟩
 | cont=>B3⟨σ',H',I,q⟩:=h;~⟨σ',H',I.zP,q⟩
 | ret u=>B3⟨v,σ',H',I,r,q⟩:=h;~⟨v,σ',H',I.zP,r,q⟩
B5 DY.ZK{st:List Stmt}{t:TS}(h:DY X.ZK st t):DY X st t:=fun pins s σ H D I hw=>
 wpAny_mono (h pins s σ H D (I.wish _) hw) (fun _ _ q=>q.zP) fun _ _ z=>False.elim z
end
section
variable{X:Cx}{st:Stmt}{rest:List Stmt}{t u:TS}{e:Expr}{te:TE}{pos:Pos}
def aD6:TS:=fun D σ H=>D.nx σ H
def aFb(t u:TS):TS:=fun D σ H=>t {D with nx:=u D} σ H
B5 aCw:DY X [] aD6:=fun _ _ σ H _ I h=>wpAny_execs_nil ⟨σ,H,I,h⟩
B5 yl(h1:PS X st t)(h2:DY X rest u):DY X (st::rest) (aFb t u):=by
 intro pins s σ H D I h
 &wpAny_execs_cons (jA (h1 pins s σ H {D with nx:=u D} I h) fun f s1 q=>?_)
 cases f with
 | next=>
  B3⟨σ',H',I',q⟩:=q
  ~h2 pins s1 σ' H' D I' q
 | ret v=>~q
 | brk=>~q
 | cont=>~q
B5 ZL(h1:PS X st t):DY X [st] t:=by
 intro pins s σ H D I h
 &wpAny_execs_cons (jA (h1 pins s σ H D I h) fun f s1 q=>?_)
 cases f with
 | next=>~wpAny_execs_nil q
 | ret v=>~q
 | brk=>~q
 | cont=>~q
B5 Inv.quiet{pins:List (Addr×Obj)}{σ:St}{H:Hp}{s:Shared}(I:Inv X pins σ H s):interactive X.env=false:=by simp[interactive,I.ok.kind]
def nD(te:TE):TS:=fun D σ H=>te σ H fun _ H1=>D.nx σ H1
B5 lH(he:PE X e te)(hs:swapsWith e none pos.line X.env=pure false:=by rfl):PS X (.Expr e pos) (nD te):=by
 intro pins s σ H D I h
 ~wpAny_Expr_any (jA (he pins s σ H _ I h) fun v s1 ⟨x,H1,I1,r1,q1⟩=>⟨σ,H1,I1,q1⟩) I.quiet hs
def yo(te:TE):TS:=fun D σ H=>te σ H D.rt
B5 Xc(he:PE X e te):PS X (.Return (some e) pos) (yo te):=by
 intro pins s σ H D I h
 ~wpAny_Return_some (jA (he pins s σ H _ I h) fun v s1 ⟨x,H1,I1,r1,q1⟩=>⟨x,σ,H1,I1,r1,q1⟩)
def aHe(c:TT)(t u:TS):TS:=fun D σ H=>c σ H fun b H1=>if b=true then t D σ H1 else u D σ H1
B5 aHf{c:Expr}{a b:List Stmt}{tc:TT}(hc:PT X c tc)(ha:DY X a t)(hb:DY X b u):PS X (.If c a b pos) (aHe tc t u):=by
 intro pins s σ H D I h
 &wpAny_If (jA (hc pins s σ H _ I h) fun d s1 ⟨H1,I1,q1⟩=>?_)
 cases d with
 | true=>~ha pins s1 σ H1 D I1 q1
 | false=>~hb pins s1 σ H1 D I1 q1
def yp:TS:=fun _ _ _=>False
B5 yq:PS X st yp:=fun _ _ _ _ _ _ h=>h.elim
end
abbrev TG:=V→St→Hp→(St→Hp→Prop)→Prop
abbrev TGs:=List V→St→Hp→(St→Hp→Prop)→Prop
def PG(X:Cx)(target:Expr)(t:TG):Prop:=
 ∀(pins:List (Addr×Obj))(s:Shared)(σ:St)(H:Hp)(v:V)(u:Value)(Q:St→Hp→Prop),Inv X pins σ H s→RelV v u→t v σ H Q →
  wpAny (model X.prog X.w) X.A (assign target X.env u) (fun _ s'=>∃σ' H',Inv X pins σ' H' s'∧Q σ' H') X.xe s
def PGs(X:Cx)(ts:List Expr)(t:TGs):Prop:=
 ∀(pins:List (Addr×Obj))(s:Shared)(σ:St)(H:Hp)(vs:List V)(us:List Value)(Q:St→Hp→Prop),Inv X pins σ H s→Vals vs us→t vs σ H Q →
  wpAny (model X.prog X.w) X.A (assignInOrder ((assignEach ts X.env).map (·.2)) us) (fun _ s'=>∃σ' H',Inv X pins σ' H' s'∧Q σ' H') X.xe s
abbrev aFc:=V→V→V→Hp→(Hp→Prop)→Prop
def aHg(X:Cx)(t:aFc):Prop:=
 ∀(pins:List (Addr×Obj))(s:Shared)(σ:St)(H:Hp)(o i v:V)(ov iv u:Value)(Q:Hp→Prop),Inv X pins σ H s→RelV o ov→RelV i iv→RelV v u→t o i v H Q →
  wpAny (model X.prog X.w) X.A (setItem ov iv u) (fun _ s'=>∃H',Inv X pins σ H' s'∧Q H') X.xe s
section
variable{X:Cx}{pos:Pos}
def iR(i:Nat):TG:=fun v σ H Q=>Q (σ.set i (some v)) H
B5 lJ{i:Nat}{x:Str}(hN:X.N.Nodup)(hi:X.N[i]?=some x)(hx:Loc X.env.scope x)(hf:X.fn x=true∨X.env.scope.names.lookup x=some .local:=by first | ~.inl rfl | ~.inr rfl | assumption):PG X (.Name x pos) (iR i):=by
 intro pins s σ H v u Q I r h
 ~wpAny_assign_Name (DX I hN hi hx r (fun s' I'=>⟨_,H,I',h⟩) hf)
def aHh:TGs:=fun vs σ H Q=>vs=[]∧Q σ H
def aD8(t:TG)(u:TGs):TGs:=fun vs σ H Q=>∃v r,vs=v::r∧t v σ H fun σ' H'=>u r σ' H' Q
B5 aCx:PGs X [] aHh:=by
 intro pins s σ H vs us Q I r h
 B3⟨e,h⟩:=h
 subst e
 cases r
 ~assignInOrder_nil ⟨σ,H,I,h⟩
B5 FJ{e:Expr}{es:List Expr}{t:TG}{u:TGs}(h1:PG X e t)(h2:PGs X es u)
  (hs:(assignEach (e::es) X.env).map (·.2)=assign e X.env::(assignEach es X.env).map (·.2):=by rfl):PGs X (e::es) (aD8 t u):=by
 intro pins s σ H vs us Q I r h
 B3⟨v,vr,e1,h⟩:=h
 subst e1
 cases r with
 | cons r rr=>
  rw[hs]
  &assignInOrder_cons (jA (h1 pins s σ H _ _ _ I r h) fun _ s1 ⟨σ1,H1,I1,q1⟩=>?_)
  ~h2 pins s1 σ1 H1 _ _ Q I1 rr q1
def aCy(K:aF)(n:Nat)(t:TGs):TG:=fun v σ H Q=>∃a xs,v=.ref a∧zO K H a xs∧xs.length=n∧t xs σ H Q
B5 aFd{es:List Expr}{k:Nat}{t:TGs}{n:Nat}(hc:X.calm=true)(h:PGs X es t)
  (hn:(assignEach es X.env).length=n:=by rfl) (hst:(assignEach es X.env).findIdx? (·.1)=none:=by rfl):PG X (.Tuple es k pos) (aCy X.K n t):=by
 intro pins s σ H v u Q I r hw
 B3⟨a,xs,e1,hq,hl,hw⟩:=hw
 subst e1
 cases r
 B3⟨its,rv,ht,hz⟩:=I.tuple hq
 &assign_Tuple_tuple (I.ok.hd hc) ht (by simp[hn,←hl,rv.length]) hst fun h' hx=>?_
 have I1:Inv X pins σ H {s with heap:=h'}:=I.kept (t':=s.toks) fun b o e=>hx b o (E5 (Heap.lt_size e)) e
 ~h pins _ σ H xs _ Q I1 (by simpa using rv) hw
def Xd(to ti:TE)(t:aFc):TG:=fun v σ H Q=>to σ H fun o H1=>ti σ H1 fun i H2=>t o i v H2 fun H3=>Q σ H3
B5 Io{o i:Expr}{to ti:TE}{t:aFc}(ho:PE X o to)(hi:PE X i ti)(hs:aHg X t)
  (ha:∀v,assign (.Subscript o i pos) X.env v=(do
   let ov ←holding [v] (eval o X.env)
   let iv ←holding [v,ov] (eval i X.env)
   standAt pos
   holding [v,ov,iv] (setItem ov iv v)
   release [v,ov,iv] []):=by intro _;rfl):PG X (.Subscript o i pos) (Xd to ti t):=by
 intro pins s σ H v u Q I r h
 rw[ha]
 &wpAny_bind (wpAny_holding (jA (ho pins s σ H _ I h) fun ov s1 ⟨x,H1,I1,r1,q1⟩=>?_))
 &wpAny_bind (wpAny_holding (jA (hi pins s1 σ H1 _ I1 q1) fun iv s2 ⟨y,H2,I2,r2,q2⟩=>?_))
 &wpAny_bind (wpAny_standAt (wpAny_bind (wpAny_holding (jA (hs pins s2 σ H2 x y v ov iv u _ I2 r1 r2 r q2) fun _ s3 ⟨H3,I3,q3⟩=>?_))))
 ~wpAny_release ⟨σ,H3,I3,q3⟩
def uD(te:TE)(g:TG):TS:=fun D σ H=>te σ H fun x H1=>g x σ H1 D.nx
B5 Dt{tg e:Expr}{te:TE}{g:TG}(he:PE X e te)(hg:PG X tg g)(hs:swapsWithSole [tg] e pos.line X.env=pure false:=by rfl)(hw:swappedStores [tg] e X.env=pure none:=by rfl)
  (h1:(assignEach [tg] X.env).map (·.2)=[assign tg X.env]:=by rfl):PS X (.Assign [tg] e pos) (uD te g):=by
 intro pins s σ H D I h
 &wpAny_Assign_stores (jA (he pins s σ H _ I h) fun v s1 ⟨x,H1,I1,r1,q1⟩=>?_) hs hw
 rw[h1]
 ~jA (hg pins s1 σ H1 x v _ I1 r1 q1) fun _ s2 q=>q
B5 bI{i:Nat}{x:Str}{e:Expr}{te:TE}{pos':Pos}(hN:X.N.Nodup)(hi:X.N[i]?=some x)(hx:Loc X.env.scope x)(he:PE X e te)(hs:swapsWith e (some (.Name x pos')) pos.line X.env=pure false:=by rfl)(hf:X.fn x=true∨X.env.scope.names.lookup x=some .local:=by first | ~.inl rfl | ~.inr rfl | assumption) :
  PS X (.Assign [.Name x pos'] e pos) (uD te (iR i)):=by
 intro pins s σ H D I h
 &wpAny_Assign_Name (jA (he pins s σ H _ I h) fun v s1 ⟨y,H1,I1,r1,q1⟩=>?_) hs
 ~DX I1 hN hi hx r1 (fun s2 I2=>⟨_,H1,I2,q1⟩) hf
end
section
variable{X:Cx}{pos:Pos}
def RC(c:TT)(tb:TS):TS:=fun D σ H=>∃W:Nat→St→Hp→Prop,(∃m,W m σ H)∧∀m σ H,W m σ H →
 c σ H fun b H1=>if b=true then ∃N:St→Hp→Prop,(∀σ' H',N σ' H'→∃m',m'<m∧W m' σ' H')∧tb {D with nx:=N,ct:=N,bk:=D.nx} σ H1 else D.nx σ H1
B5 yr{c:Expr}{body:List Stmt}{tc:TT}{tb:TS}(hp:PassesOwn (model X.prog X.w) X.A X.env X.xe)(hc:PT X c tc)(hb:DY X body tb):PS X (.While c body [] pos) (RC tc tb):=by
 intro pins s σ H D I h
 B3⟨W,⟨m0,w0⟩,turn⟩:=h
 &wpAny_While (codeAny_whileLoop (fun n s'=>∃σ' H',Inv X pins σ' H' s'∧W n σ' H') ?_ m0 ⟨σ,H,I,w0⟩)
 rintro n s1 ⟨σ1,H1,I1,w1⟩
 &wpAny_passesOwn hp (jA (hc pins s1 σ1 H1 _ I1 (turn n σ1 H1 w1)) fun b s2 ⟨H2,I2,q2⟩=>?_)
 cases b with
 | true=>
  B3⟨N,hN,q2⟩:=q2
  rw[if_pos rfl]
  &wpAny_passesOwn hp (jA (hb pins s2 σ1 H2 _ I2 q2) fun f s3 q3=>?_)
  cases f with
  | next=>
   B3⟨σ3,H3,I3,n3⟩:=q3
   B3⟨m',hm,w3⟩:=hN σ3 H3 n3
   ~⟨m',hm,σ3,H3,I3,w3⟩
  | cont=>
   B3⟨σ3,H3,I3,n3⟩:=q3
   B3⟨m',hm,w3⟩:=hN σ3 H3 n3
   ~⟨m',hm,σ3,H3,I3,w3⟩
  | brk=>~q3
  | ret v=>~q3
 | false=>
  rw[if_neg E2]
  ~wpAny_execs_nil ⟨σ1,H2,I2,q2⟩
end
structure It where
 go:Nat→Hp→Prop
 yld:Nat→Hp→V→Hp→Prop
 stop:Nat→Hp→Prop
def Xe(X:Cx)(pins:List (Addr×Obj))(H:Hp)(b:Addr):Prop:=
 H b=none∧b≠X.env.locals∧b∉X.fs∧(b∈X.ex∨X.s₀.heap.objs.size≤b)∧(∀x c,X.env.cells.lookup x=some c→c≠b)∧∀p∈X.pn++pins,p.1≠b
B5 Inv.aFe{X:Cx}{pins:List (Addr×Obj)}{σ:St}{H H':Hp}{s:Shared}{b:Addr}(I:Inv X pins σ H s)(hb:s.heap.objs.size≤b)(hn:H' b=none):Xe X pins H' b:=by
 &⟨hn,O6 (E1 I.lt hb),I.aIT hb,.inr (G2 I.sz hb),fun x c e z=>?_,fun p hp z=>?_⟩
 ·B3⟨v,q⟩:=I.cell x c e
  ~absurd (E1 q.lt (by rw[z];~hb)) (K7 _)
 ·~absurd (E1 (Heap.lt_size (I.pin p hp).1) (by rw[z];~hb)) (K7 _)
structure Turn(P:Program)(w:World)(K:aF)(tg:Expr)(J:It)(fp:List Addr)(it:Addr)(tn:Nat→Heap→Prop):Prop where
 mem:it∈fp
 obj:∀i h,tn i h→∀b∈fp,∃o,h.get? b=some o∧∀v,o.data≠.cell v
 keep:∀i h h',tn i h→(∀b∈fp,∀o,h.get? b=some o→h'.get? b=some o)→tn i h'
 item:∀(X:Cx),X.prog=P→X.w=w→X.K=K→X.calm=true→∀(i:Nat)(pins:List (Addr×Obj))(s:Shared)(σ:St)(H:Hp)(E:Value→Shared→Prop),Inv X pins σ H s→(∀b∈fp,Xe X pins H b)→tn i s.heap→J.go i H →
  wpAny (model P w) X.A (pyNext (.ref it)) (fun r s1=>∃u,r=some u ∧
   wpAny (model P w) X.A (letOwnedTupleGo tg (.ref it) u) (fun _ s2=>∃x H',Inv X pins σ H' s2∧RelV x u∧J.yld i H x H'∧tn (i+1) s2.heap∧∀b∈fp,H' b=none) E s1) E s
 done:∀(X:Cx),X.prog=P→X.w=w→X.K=K→X.calm=true→∀(i:Nat)(pins:List (Addr×Obj))(s:Shared)(σ:St)(H:Hp)(E:Value→Shared→Prop),Inv X pins σ H s→(∀b∈fp,Xe X pins H b)→tn i s.heap→J.stop i H →
  wpAny (model P w) X.A (pyNext (.ref it)) (fun r s1=>r=none∧Inv X pins σ H s1) E s
 self:∀(A:Around)(i:Nat)(s:Shared)(Q:Value→Shared→Prop)(E:Value→Shared→Prop),tn i s.heap→Q (.ref it) s→wpAny (model P w) A (pyIter (.ref it)) Q E s
abbrev TI:=St→Hp→(It→Hp→Prop)→Prop
def PIE(X:Cx)(pins:List (Addr×Obj))(σ:St)(tg:Expr)(R:It→Hp→Prop)(itv:Value)(s2:Shared):Prop:=
 ∃(it:Addr)(fp:List Addr)(tn:Nat→Heap→Prop)(J:It)(H':Hp),itv=.ref it∧Inv X pins σ H' s2∧Turn X.prog X.w X.K tg J fp it tn∧tn 0 s2.heap∧(∀b∈fp,Xe X pins H' b)∧R J H'
def PI(X:Cx)(tg iter:Expr)(wi:TI):Prop:=
 ∀(pins:List (Addr×Obj))(s:Shared)(σ:St)(H:Hp)(R:It→Hp→Prop),Inv X pins σ H s→wi σ H R →
  wpAny (model X.prog X.w) X.A (eval iter X.env) (fun v s1=>wpAny (model X.prog X.w) X.A (pyIter v) (PIE X pins σ tg R) X.xe s1) X.xe s
B5 yu{M:Model}{A:Around}{E:Value→Shared→Prop}{s:Shared}{tg:Expr}{it:Addr}{u:Value}{o:Obj}{n:String}{vs:Array Value}{Q:Unit→Shared→Prop}(ho:s.heap.get? it=some o)(hc:o.cls=.type n)(hd:o.data=.fields vs)
    (hn:["enumerate", "zip", "dict_itemiterator", "dict_reverseitemiterator", "odict_iterator", "itertools.zip_longest", "itertools.pairwise"].contains n=false) (hQ:Q () s):wpAny M A (letOwnedTupleGo tg (.ref it) u) Q E s:=by
  B4 letOwnedTupleGo
  cases tg<;>first
    | ~wpAny_pure hQ
    | (cases u<;>first
        | ~wpAny_pure hQ
        | (&wpAny_bind (wpAny_load ho ?_)
           rw[hc,hd]
           show wpAny M A (if(["enumerate", "zip", "dict_itemiterator", "dict_reverseitemiterator", "odict_iterator", "itertools.zip_longest", "itertools.pairwise"].contains n&&vs[0]?==some (rawInt _))=true then _ else _) Q E s
           rw[if_neg (by intro h;rw[hn,Bool.false_and]at h;cases h)]
           ~wpAny_pure hQ))
def Itl(K:aF)(a:Addr):It:=
 ⟨fun i H=>∃xs x,pK K H a xs∧xs[i]?=some x,fun i H x H'=>H'=H∧∀xs,pK K H a xs→xs[i]?=some x,fun i H=>∃xs,pK K H a xs∧xs.length≤i⟩
def Itt(K:aF)(a:Addr):It:=
 ⟨fun i H=>∃xs x,zO K H a xs∧xs[i]?=some x,fun i H x H'=>H'=H∧∀xs,zO K H a xs→xs[i]?=some x,fun i H=>∃xs,zO K H a xs∧xs.length≤i⟩
def Itr(lo:Int)(n:Nat):It:=⟨fun i _=>i<n,fun i H x H'=>H'=H∧x=.int (lo+i),fun i _=>n≤i⟩
B5 kh{P:Program}{w:World}{K:aF}{tg:Expr}(a it:Addr):Turn P w K tg (Itl K a) [it] it (fun i h=>h.IsListIter it a i) where
 mem:=by simp
 obj:=fun i h st b hb=>by
  have e:b=it:=by simpa using hb
  subst e
  B3⟨o,e,c,d⟩:=st
  ~⟨o,e,fun v z=>by rw[d]at z;cases z⟩
 keep:=fun i h h' st k=>st.at fun o e=>k it (by simp) o e
 item:=by
  intro X hP hw hK hc i pins s σ H E I hf st hg
  subst hP hw hK
  B3⟨xs,x,hq,hx⟩:=hg
  B3⟨its,rv,p,hz⟩:=I.list hq
  B3⟨u,hu,ru⟩:=rv.get hx
  B3⟨f0,f1,f2,f3,f4,f5⟩:=hf it (by simp)
  &wpAny_pyNext_list_item st p.isList (x:=u) (by simpa using hu) fun h' st' sb=>?_
  have I1:Inv X pins σ H {s with heap:=h'}:=I.turned (t':=s.toks) (fun b o hb e=>(sb.2 b hb).trans e) f0 f1 f3 f4 f5
  B3⟨o,e,c,d⟩:=id st'
  ~⟨u,rfl,yu (s:={s with heap:=h'}) e c d A8 ⟨x,H,I1,ru,⟨rfl,fun ys hy=>by rw[I.EY hy hq];~hx⟩,st',fun b hb=>(hf b hb).1⟩⟩
 done:=by
  intro X hP hw hK hc i pins s σ H E I hf st hg
  subst hP hw hK
  B3⟨xs,hq,hx⟩:=hg
  B3⟨its,rv,p,hz⟩:=I.list hq
  B3⟨f0,f1,f2,f3,f4,f5⟩:=hf it (by simp)
  have hl:=rv.length
  ~wpAny_pyNext_list_end (I.ok.hd hc) st p.isList (by simp;omega) fun h' eb=>⟨rfl,I.turned (t':=s.toks) (fun b o hb e=>eb b o hb e) f0 f1 f3 f4 f5⟩
 self:=fun _ _ _ _ _ st h=>wpAny_pyIter_listiter st h
B5 RD{P:Program}{w:World}{K:aF}{tg:Expr}(a it:Addr):Turn P w K tg (Itt K a) [it] it (fun i h=>h.IsTupleIter it a i) where
 mem:=by simp
 obj:=fun i h st b hb=>by
  have e:b=it:=by simpa using hb
  subst e
  B3⟨o,e,c,d⟩:=st
  ~⟨o,e,fun v z=>by rw[d]at z;cases z⟩
 keep:=fun i h h' st k=>st.at fun o e=>k it (by simp) o e
 item:=by
  intro X hP hw hK hc i pins s σ H E I hf st hg
  subst hP hw hK
  B3⟨xs,x,hq,hx⟩:=hg
  B3⟨its,rv,p,hz⟩:=I.tuple hq
  B3⟨u,hu,ru⟩:=rv.get hx
  B3⟨f0,f1,f2,f3,f4,f5⟩:=hf it (by simp)
  &wpAny_pyNext_tuple_item st (show s.heap.IsTuple a its.toArray from p) (x:=u) (by simpa using hu) fun h' st' sb=>?_
  have I1:Inv X pins σ H {s with heap:=h'}:=I.turned (t':=s.toks) (fun b o hb e=>(sb.2 b hb).trans e) f0 f1 f3 f4 f5
  B3⟨o,e,c,d⟩:=id st'
  ~⟨u,rfl,yu (s:={s with heap:=h'}) e c d A8 ⟨x,H,I1,ru,⟨rfl,fun ys hy=>by rw[I.Ue hy hq];~hx⟩,st',fun b hb=>(hf b hb).1⟩⟩
 done:=by
  intro X hP hw hK hc i pins s σ H E I hf st hg
  subst hP hw hK
  B3⟨xs,hq,hx⟩:=hg
  B3⟨its,rv,p,hz⟩:=I.tuple hq
  B3⟨f0,f1,f2,f3,f4,f5⟩:=hf it (by simp)
  have hl:=rv.length
  ~wpAny_pyNext_tuple_end (I.ok.hd hc) st (show s.heap.IsTuple a its.toArray from p) (by simp;omega) fun h' eb=>⟨rfl,I.turned (t':=s.toks) (fun b o hb e=>eb b o hb e) f0 f1 f3 f4 f5⟩
 self:=fun _ _ _ _ _ st h=>wpAny_pyIter_tupleiter st h
B5 RG{P:Program}{w:World}{K:aF}{tg:Expr}(it:Addr)(lo:Int)(n:Nat):Turn P w K tg (Itr lo n) [it] it (fun i h=>IsRangeIter h it (lo+(i:Nat)*1) ((n:Int)-(i:Nat)) 1) where
 mem:=by simp
 obj:=fun i h st b hb=>by
  have e:b=it:=by simpa using hb
  subst e
  ~⟨_,st,fun v z=>by
   have z':Data.fields _=Data.cell v:=z
   cases z'⟩
 keep:=fun i h h' st k=>k it (by simp) _ st
 item:=by
  intro X hP hw hK hc i pins s σ H E I hf st hg
  subst hP hw hK
  B3⟨f0,f1,f2,f3,f4,f5⟩:=hf it (by simp)
  have W:=Walks.range (prog:=X.prog) (w:=X.w) (I.ok.hd hc) it lo 1 n
  &W.item i s _ _ hg st fun v h' tk hv st' kk=>?_
  B3⟨t,rfl⟩:=hv
  have I1:Inv X pins σ H {s with heap:=h',toks:=tk}:=I.turned (fun b o hb e=>kk b o (by simpa using hb) e) f0 f1 f3 f4 f5
  &⟨_,rfl,yu (s:={s with heap:=h',toks:=tk}) (n := "range_iterator") st' rfl rfl A8 ⟨.int (lo+i),H,I1,⟨t,?_⟩,⟨rfl,rfl⟩,st',fun b hb=>(hf b hb).1⟩⟩
  rw[Int.mul_one]
 done:=by
  intro X hP hw hK hc i pins s σ H E I hf st hg
  subst hP hw hK
  B3⟨f0,f1,f2,f3,f4,f5⟩:=hf it (by simp)
  ~wpAny_pyNext_range_end (I.ok.hd hc) st (by have:n≤i:=hg;omega) fun h' eb=>⟨rfl,I.turned (t':=s.toks) (fun b o hb e=>eb b o hb e) f0 f1 f3 f4 f5⟩
 self:=fun _ _ _ _ _ st h=>wpAny_pyIter_rangeiter st h
end L2
namespace L2
open PySem PySem.Spec PyProof.Rows
section
variable{X:Cx}{tg:Expr}
def aD9(K:aF)(tl:TE):TI:=fun σ H R=>tl σ H fun x H1=>∃a,x=.ref a∧(∃xs,pK K H1 a xs)∧R (Itl K a) H1
def aHk(K:aF)(tl:TE):TI:=fun σ H R=>tl σ H fun x H1=>∃a,x=.ref a∧(∃xs,zO K H1 a xs)∧R (Itt K a) H1
B5 ZM{l:Expr}{tl:TE}(hl:PE X l tl):PI X tg l (aD9 X.K tl):=by
 intro pins s σ H R I h
 &jA (hl pins s σ H _ I h) fun v s1 ⟨x,H1,I1,r1,q1⟩=>?_
 B3⟨a,e,⟨xs,hq⟩,q⟩:=q1
 subst e
 cases r1
 B3⟨its,rv,p,hz⟩:=I1.list hq
 &wpAny_pyIter_list p.isList ?_
 &⟨s1.heap.objs.size,[s1.heap.objs.size],_,_,H1,rfl,I1.kept (t':=s1.toks) fun b o e=>Heap.get?_push_of_some _ e,kh a _,⟨_,Heap.get?_push_size _ rfl,rfl,rfl⟩,fun b hb=>?_,q⟩
 have e:b=s1.heap.objs.size:=by simpa using hb
 subst e
 ~I1.aFe (C6 _) (I1.hok.fresh (C6 _))
B5 yw{l:Expr}{tl:TE}(hl:PE X l tl):PI X tg l (aHk X.K tl):=by
 intro pins s σ H R I h
 &jA (hl pins s σ H _ I h) fun v s1 ⟨x,H1,I1,r1,q1⟩=>?_
 B3⟨a,e,⟨xs,hq⟩,q⟩:=q1
 subst e
 cases r1
 B3⟨its,rv,p,hz⟩:=I1.tuple hq
 &wpAny_pyIter_tuple (show s1.heap.IsTuple a its.toArray from p) ?_
 &⟨s1.heap.objs.size,[s1.heap.objs.size],_,_,H1,rfl,I1.kept (t':=s1.toks) fun b o e=>Heap.get?_push_of_some _ e,RD a _,⟨_,Heap.get?_push_size _ rfl,rfl,rfl⟩,fun b hb=>?_,q⟩
 have e:b=s1.heap.objs.size:=by simpa using hb
 subst e
 ~I1.aFe (C6 _) (I1.hok.fresh (C6 _))
B5 FN{pins:List (Addr×Obj)}{σ:St}{H:Hp}{s:Shared}{R:It→Hp→Prop}{E:Value→Shared→Prop}{lo hi:Int}{t u v:Tok}{tk:Nat}(I:Inv X pins σ H s)(h1:-(2 ^ 62)≤lo)(h2:lo<2 ^ 62)(h3:-(2 ^ 62)≤hi)(h4:hi<2 ^ 62)
  (q:R (Itr lo (hi-lo).toNat) H):wpAny (model X.prog X.w) X.A (pyIter (.ref s.heap.objs.size)) (PIE X pins σ tg R) E {s with heap:=s.heap.push {cls:=.type "range", data:=.fields #[.int lo t,.int hi u,.int 1 v]},toks:=tk}:=by
 &wpAny_pyIter_range (IsRange.new ..) (small_one h1 h2 h3 h4) ?_
 have I1:Inv X pins σ H {s with heap:=s.heap.push {cls:=.type "range", data:=.fields #[.int lo t,.int hi u,.int 1 v]},toks:=tk}:=I.kept fun b o e=>Heap.get?_push_of_some _ e
 &⟨(s.heap.push {cls:=.type "range", data:=.fields #[.int lo t,.int hi u,.int 1 v]}).objs.size,[(s.heap.push {cls:=.type "range", data:=.fields #[.int lo t,.int hi u,.int 1 v]}).objs.size],_,_,H,rfl,
  I1.kept (t':=tk) fun b o e=>Heap.get?_push_of_some _ e,RG _ lo (hi-lo).toNat,?_,fun b hb=>?_,q⟩
 ·have e1:lo+((0:Nat):Int)*1=lo:=by simp
  have e2:(((hi-lo).toNat:Nat):Int)-((0:Nat):Int)=Builtin.Range.rangeSize lo hi 1:=by rw[rangeSize_one];split<;>omega
  show IsRangeIter _ _ (lo+((0:Nat):Int)*1) ((((hi-lo).toNat:Nat):Int)-((0:Nat):Int)) 1
  rw[e1,e2]
  ~Heap.get?_push_size _ rfl
 ·have e:b=(s.heap.push {cls:=.type "range", data:=.fields #[.int lo t,.int hi u,.int 1 v]}).objs.size:=by simpa using hb
  subst e
  ~I1.aFe (C6 _) (I1.hok.fresh (C6 _))
def yx(ta:TA):TI:=fun σ H R=>ta σ H fun vs H1=>∃j:Int,vs=[.int j]∧-(2 ^ 62)≤j∧j<2 ^ 62∧R (Itr 0 j.toNat) H1
def yz(ta:TA):TI:=fun σ H R=>ta σ H fun vs H1=>∃i j:Int,vs=[.int i,.int j]∧(-(2 ^ 62)≤i∧i<2 ^ 62∧-(2 ^ 62)≤j∧j<2 ^ 62)∧R (Itr i (j-i).toNat) H1
B5 Ug{a:Expr}{ta:TA}{p pos:Pos}(hg:Gl X "range") (hm:X.mg "range" = none) (ha:PA X [a] ta) (hs:starEach [a] X.env=[(false,eval a X.env)]:=by rfl):PI X tg (.Call (.Name "range" p) [a] [] pos) (yx ta):=by
 intro pins s σ H R I h
 &Call_ (wN I hg hm boot_range (K8 (jA (ha pos pins s σ H _ I h) fun us s1 ⟨vs,H1,I1,r1,q1⟩=>?_) hs rfl))
 B3⟨j,e,q1,q2,q⟩:=q1
 subst e
 cases r1 with
 | cons r rr=>
  cases rr
  B3⟨t,rfl⟩:=r
  ~call_range_1 (FN I1 A6 A6 q1 q2 (by simpa using q))
B5 Uh{a b:Expr}{ta:TA}{p pos:Pos}(hg:Gl X "range") (hm:X.mg "range" = none) (ha:PA X [a,b] ta) (hs:starEach [a,b] X.env=[(false,eval a X.env),(false,eval b X.env)]:=by rfl) (hs2:starEach [b] X.env=[(false,eval b X.env)]:=by rfl) :
  PI X tg (.Call (.Name "range" p) [a,b] [] pos) (yz ta):=by
 intro pins s σ H R I h
 &Call_ (wN I hg hm boot_range (K8 (jA (ha pos pins s σ H _ I h) fun us s1 ⟨vs,H1,I1,r1,q1⟩=>?_) (by rw[hs,hs2]) (by rw[hs2];rfl)))
 B3⟨i,j,e,⟨q1,q2,q3,q4⟩,q⟩:=q1
 subst e
 cases r1 with
 | cons r rr=>
  cases rr with
  | cons r' rr=>
   cases rr
   B3⟨t,rfl⟩:=r
   B3⟨t',rfl⟩:=r'
   ~call_range_2 (FN I1 q1 q2 q3 q4 q)
def Xf(wi:TI)(g:TG)(tb:TS):TS:=fun D σ H=>wi σ H fun J H1=>∃W:Nat→Nat→St→Hp→Prop,(∃m,W 0 m σ H1)∧∀i m σ H,W i m σ H →
 (J.stop i H∧D.nx σ H)∨(J.go i H∧∃N:St→Hp→Prop,(∀σ' H',N σ' H'→∃m',m'<m∧W (i+1) m' σ' H')∧∀x H',J.yld i H x H'→g x σ H' fun σ2 H2=>tb {D with nx:=N,ct:=N,bk:=D.nx} σ2 H2)
def Nm(fp:List Addr)(h:Heap):List (Addr×Obj):=fp.filterMap fun b=>(h.get? b).map fun o=>(b,o)
B5 wO{fp:List Addr}{h:Heap}{b:Addr}{o:Obj}(hb:b∈fp)(e:h.get? b=some o):(b,o)∈Nm fp h:=c9.mpr ⟨b,hb,by rw[e];rfl⟩
B5 kj{fp:List Addr}{h:Heap}{p:Addr×Obj}(hp:p∈Nm fp h):p.1∈fp∧h.get? p.1=some p.2:=by
 B3⟨b,hb,e⟩:=c9.mp hp
 cases q:h.get? b with
 | none=>rw[q]at e;cases e
 | some o=>
  rw[q]at e
  have e':(b,o)=p:=F4 e
  subst e'
  ~⟨hb,q⟩
B5 Inv.pinned{pins:List (Addr×Obj)}{σ:St}{H:Hp}{s:Shared}{fp:List Addr}(I:Inv X pins σ H s)(hf:∀b∈fp,Xe X pins H b)(ho:∀b∈fp,∃o,s.heap.get? b=some o∧∀v,o.data≠.cell v):Inv X (pins++Nm fp s.heap) σ H s:=
 I.ZJ fun p hp=>(G7.mp hp).elim (fun z=>I.pin p (G3 _ z)) fun z=>by
  B3⟨hb,e⟩:=kj z
  B3⟨f0,f1,f2,_⟩:=hf p.1 hb
  B3⟨o,e',d⟩:=ho p.1 hb
  rw[e]at e';cases e'
  ~⟨e,f0,f1,f2,d⟩
B5 Inv.Ft{pins pl:List (Addr×Obj)}{σ:St}{H:Hp}{s:Shared}(I:Inv X (pins++pl) σ H s):Inv X pins σ H s:=I.ZJ fun p hp=>I.pin p (G3 _ (N8 _ hp))
B5 Xg{iter:Expr}{body:List Stmt}{wi:TI}{g:TG}{tb:TS}{pos:Pos}(hp:PassesOwn (model X.prog X.w) X.A X.env X.xe)(hc:X.calm=true)(hi:PI X tg iter wi)(hg:PG X tg g)(hb:DY X body tb)
  (hs:∀x,foldedSetIterable iter X.env x=pure x:=by intro _;rfl):PS X (.For tg iter body [] pos) (Xf wi g tb):=by
 intro pins s σ H D I h
 &wpAny_For (jA (hi pins s σ H _ I h) fun v s1 h1=>jA h1 fun itv s2 h2=>?_) hs
 B3⟨it,fp,tn,J,H2,e,I2,T,st2,f2,W,⟨m0,w0⟩,turn⟩:=h2
 subst e
 have stat:∀{H':Hp},(∀b∈fp,H' b=none)→∀b∈fp,Xe X pins H' b:=fun hn b hb=>⟨hn b hb,(f2 b hb).2⟩
 &codeAny_forLoop_any (fun n s'=>∃i σ' H',Inv X pins σ' H' s'∧tn i s'.heap∧(∀b∈fp,H' b=none)∧W i n σ' H') ?_ m0 ⟨0,σ,H2,I2,st2,fun b hb=>(f2 b hb).1,w0⟩
 rintro n s3 ⟨i,σ3,H3,I3,st3,fr3,w3⟩
 rcases turn i n σ3 H3 w3 with ⟨stop,qn⟩ | ⟨go,N,hN,step⟩
 ·&wpAny_passesOwn hp (jA (T.done X rfl rfl rfl hc i pins s3 σ3 H3 X.xe I3 (stat fr3) st3 stop) fun r s4 ⟨hr,I4⟩=>?_)
  subst hr
  ~wpAny_execs_nil ⟨σ3,H3,I4,qn⟩
 ·&wpAny_passesOwn hp (jA (T.item X rfl rfl rfl hc i pins s3 σ3 H3 X.xe I3 (stat fr3) st3 go) fun r s4 ⟨u,hr,h4⟩=>?_)
  subst hr
  &wpAny_passesOwn hp (jA h4 fun _ s5 ⟨x,H5,I5,r5,y5,st5,fr5⟩=>?_)
  have I5':=I5.pinned (stat fr5) (T.obj _ _ st5)
  &wpAny_passesOwn hp (jA (hg _ s5 σ3 H5 x u _ I5' r5 (step x H5 y5)) fun _ s6 ⟨σ6,H6,I6,q6⟩=>?_)
  &wpAny_passesOwn hp (jA (hb _ s6 σ6 H6 _ I6 q6) fun f s7 q7=>?_)
  have again:∀{σ7:St} {H7:Hp},Inv X (pins++Nm fp s5.heap) σ7 H7 s7→N σ7 H7→∃m,m<n∧∃i σ' H',Inv X pins σ' H' s7∧tn i s7.heap∧(∀b∈fp,H' b=none)∧W i m σ' H':=fun{σ7 H7} I7 n7=>by
   B3⟨m',hm,w7⟩:=hN σ7 H7 n7
   &⟨m',hm,i+1,σ7,H7,I7.Ft,T.keep _ _ _ st5 fun b hb o e=>(I7.pin (b,o) (G3 _ (G3 _ (wO hb e)))).1,fun b hb=>?_,w7⟩
   B3⟨o,e,d⟩:=T.obj _ _ st5 b hb
   ~(I7.pin (b,o) (G3 _ (G3 _ (wO hb e)))).2.1
  cases f with
  | next=>B3⟨σ7,H7,I7,n7⟩:=q7;~again I7 n7
  | cont=>B3⟨σ7,H7,I7,n7⟩:=q7;~again I7 n7
  | brk=>B3⟨σ7,H7,I7,q7⟩:=q7;~⟨σ7,H7,I7.Ft,q7⟩
  | ret v=>B3⟨x7,σ7,H7,I7,r7,q7⟩:=q7;~⟨x7,σ7,H7,I7.Ft,r7,q7⟩
end
end L2
namespace L2
open PySem PySem.Spec PyProof.Rows
abbrev R2:=V→V→Hp→VK→Prop
def wM(X:Cx)(f:Value→Value→Sem Value)(r:R2):Prop:=
 ∀(pins:List (Addr×Obj))(s:Shared)(σ:St)(H:Hp)(x y:V)(v u:Value)(Q:VK),Inv X pins σ H s→RelV x v→RelV y u→r x y H Q →
  wpAny (model X.prog X.w) X.A (f v u) (EP X pins σ Q) X.xe s
def UnR(X:Cx)(f:Value→Sem Value)(r:V→Hp→VK→Prop):Prop:=
 ∀(pins:List (Addr×Obj))(s:Shared)(σ:St)(H:Hp)(x:V)(v:Value)(Q:VK),Inv X pins σ H s→RelV x v→r x H Q →
  wpAny (model X.prog X.w) X.A (f v) (EP X pins σ Q) X.xe s
def nF(X:Cx)(f:Value)(r:List V→Hp→VK→Prop):Prop:=
 ∀(pins:List (Addr×Obj))(s:Shared)(σ:St)(H:Hp)(xs:List V)(us:List Value)(Q:VK),Inv X pins σ H s→Vals xs us→r xs H Q →
  wpAny (model X.prog X.w) X.A (call f us) (EP X pins σ Q) X.xe s
def CW(r:R2)(ta tb:TE):TE:=fun σ H Q=>ta σ H fun x H1=>tb σ H1 fun y H2=>r x y H2 Q
def tUn(r:V→Hp→VK→Prop)(ta:TE):TE:=fun σ H Q=>ta σ H fun x H1=>r x H1 Q
def rI(C:Int→Int→Prop)(g:Int→Int→V):R2:=fun x y H Q=>∃i j,x=.int i∧y=.int j∧C i j∧Q (g i j) H
def xq(g:Int→Int→V):R2:=fun x y H Q=>∃i j,x=.int i∧y=.int j∧Q (g i j) H
def rU(g:Int→V):V→Hp→VK→Prop:=fun x H Q=>∃i,x=.int i∧Q (g i) H
section
variable{X:Cx}{a b c:Expr}{ta tb tc:TE}{pos:Pos}
B5 aFf(ha:PE X a ta)(hb:PE X b tb){pins:List (Addr×Obj)}{s:Shared}{σ:St}{H:Hp}{R:V→V→Hp→Prop}(I:Inv X pins σ H s)
  (h:ta σ H fun x H1=>tb σ H1 fun y H2=>R x y H2) {Q:Value→Shared→Prop} {f:Value→Value→Sem Value}
  (hf:∀v u s2 x y H2,Inv X pins σ H2 s2→RelV x v→RelV y u→R x y H2→wpAny (model X.prog X.w) X.A (f v u) Q X.xe s2) :
  wpAny (model X.prog X.w) X.A (eval a X.env) (fun v s₁=>wpAny (model X.prog X.w) X.A (eval b X.env) (fun u s₂=>wpAny (model X.prog X.w) X.A (f v u) Q X.xe s₂) X.xe s₁) X.xe s:=by
 &jA (ha pins s σ H _ I h) fun v s1 ⟨x,H1,I1,r1,q1⟩=>?_
 &jA (hb pins s1 σ H1 _ I1 q1) fun u s2 ⟨y,H2,I2,r2,q2⟩=>?_
 ~hf v u s2 x y H2 I2 r1 r2 q2
B5 aEa{op:Operator}{r:R2}(ho:wM X (binaryOp op) r)(ha:PE X a ta)(hb:PE X b tb):PE X (.BinOp a op b pos) (CW r ta tb):=by
 intro pins s σ H Q I h
 ~wpAny_BinOp (aFf ha hb I h fun v u s2 x y H2 I2 rx ry q=>ho pins s2 σ H2 x y v u Q I2 rx ry q)
B5 aHl{op:UnaryOp}{r:V→Hp→VK→Prop}(ho:UnR X (unaryOp op) r)(ha:PE X a ta):PE X (.UnaryOp op a pos) (tUn r ta):=by
 intro pins s σ H Q I h
 ~UnaryOp_ (jA (ha pins s σ H _ I h) fun v s1 ⟨x,H1,I1,r1,q1⟩=>ho pins s1 σ H1 x v Q I1 r1 q1)
B5 opI{f:Value→Value→Sem Value}{C:Int→Int→Prop}{g:Int→Int→Int}
  (rule:∀(i j:Int)(t u:Tok)(s:Shared)(Q:Value→Shared→Prop)(E:Value→Shared→Prop),C i j→Q (.int (g i j) s.toks) {s with toks:=s.toks+1}→wpAny (model X.prog X.w) X.A (f (.int i t) (.int j u)) Q E s) :
  wM X f (rI C fun i j=>.int (g i j)):=by
 intro pins s σ H x y v u Q I rx ry h
 B3⟨i,j,rfl,rfl,hc,q⟩:=h
 B3⟨t,rfl⟩:=rx
 B3⟨t',rfl⟩:=ry
 ~rule i j t t' s _ _ hc ⟨.int (g i j),H,I.tok _,⟨_,rfl⟩,q⟩
B5 aHm{f:Value→Value→Sem Value}{g:Int→Int→Int}
  (rule:∀(i j:Int)(t u:Tok)(s:Shared)(Q:Value→Shared→Prop)(E:Value→Shared→Prop),Q (.int (g i j) s.toks) {s with toks:=s.toks+1}→wpAny (model X.prog X.w) X.A (f (.int i t) (.int j u)) Q E s) :
  wM X f (xq fun i j=>.int (g i j)):=by
 intro pins s σ H x y v u Q I rx ry h
 B3⟨i,j,rfl,rfl,q⟩:=h
 B3⟨t,rfl⟩:=rx
 B3⟨t',rfl⟩:=ry
 ~rule i j t t' s _ _ ⟨.int (g i j),H,I.tok _,⟨_,rfl⟩,q⟩
B5 aFg{f:Value→Value→Sem Value}{g:Int→Int→Bool}
  (rule:∀(i j:Int)(t u:Tok)(s:Shared)(Q:Value→Shared→Prop)(E:Value→Shared→Prop),Q (.bool (g i j)) s→wpAny (model X.prog X.w) X.A (f (.int i t) (.int j u)) Q E s) :
  wM X f (xq fun i j=>.bl (g i j)):=by
 intro pins s σ H x y v u Q I rx ry h
 B3⟨i,j,rfl,rfl,q⟩:=h
 B3⟨t,rfl⟩:=rx
 B3⟨t',rfl⟩:=ry
 ~rule i j t t' s _ _ ⟨.bl (g i j),H,I,rfl,q⟩
def lg(i j:Int):Prop:=0<j∧j<1073741824
def lq(i j:Int):Prop:=0≤j∧j≤1000000∧i.natAbs<2 ^ 64
def Su(i j:Int):Prop:=(-(2 ^ 64)<i∧i<2 ^ 64)∨(-(2 ^ 64)<j∧j<2 ^ 64)
B5 Su.ok{i j:Int}(h:Su i j):IntMulOk i j:=by
 rcases h with ⟨h1,h2⟩ | ⟨h1,h2⟩
 ·~.of_left (intBits_le_64 h1 h2)
 ·~.of_right (intBits_le_64 h1 h2)
B5 aFh:wM X (binaryOp .Add) (xq fun i j=>.int (i+j)):=aHm fun _ _ _ _ _ _ _ q=>add_int q
B5 aFi:wM X (binaryOp .Sub) (xq fun i j=>.int (i-j)):=aHm fun _ _ _ _ _ _ _ q=>sub_int q
B5 aFj:wM X (binaryOp .Mult) (rI Su fun i j=>.int (i*j)):=opI fun _ _ _ _ _ _ _ hc q=>mul_int q hc.ok
B5 aCz:wM X (binaryOp .FloorDiv) (rI lg fun i j=>.int (i/j)):=opI fun i j _ _ _ _ _ hc q=>by
 have h1:(0:Int)<j:=hc.1
 have h2:j<1073741824:=hc.2
 ~floordiv_int A6 (by rw[Int.fdiv_eq_ediv_of_nonneg i A6];~q) (.inl (PyProof.noPylong_small A6))
B5 aFk:wM X (binaryOp .Mod) (rI (fun _ j=>0<j) fun i j=>.int (i%j)):=opI fun i j _ _ _ _ _ hc q=>by
 have h1:(0:Int)<j:=hc
 ~mod_int' A6 (by rw[Int.fmod_eq_emod_of_nonneg i A6];~q)
B5 aFl:wM X (binaryOp .Pow) (rI lq fun i j=>.int (i ^ j.toNat)):=opI fun _ _ _ _ _ _ _ hc q=>pow_int_small hc.1 hc.2.1 hc.2.2 q
B5 unI{f:Value→Sem Value}{g:Int→Int}
  (rule:∀(i:Int)(t:Tok)(s:Shared)(Q:Value→Shared→Prop)(E:Value→Shared→Prop),Q (.int (g i) s.toks) {s with toks:=s.toks+1}→wpAny (model X.prog X.w) X.A (f (.int i t)) Q E s) :
  UnR X f (rU fun i=>.int (g i)):=by
 intro pins s σ H x v Q I rx h
 B3⟨i,rfl,q⟩:=h
 B3⟨t,rfl⟩:=rx
 ~rule i t s _ _ ⟨.int (g i),H,I.tok _,⟨_,rfl⟩,q⟩
B5 aFm:UnR X (unaryOp .USub) (rU fun i=>.int (-i)):=unI fun _ _ _ _ _ q=>neg_int q
end
def aCA:V→V→Bool
  | .non,.non=>true | .non,.int _=>true | .int _,.non=>true | .non,.bl _=>true | .bl _,.non=>true | .non,.str _=>true | .str _,.non=>true
  | .int _,.int _=>true | .bl _,.bl _=>true | .str _,.str _=>true | .byt _,.byt _=>true
  | .int _,.str _=>true | .str _,.int _=>true | .bl _,.str _=>true | .str _,.bl _=>true
  | _,_=>false
def rEq:R2:=fun x y H Q=>aCA x y=true∧Q (.bl (decide (x=y))) H
def rNe:R2:=fun x y H Q=>aCA x y=true∧Q (.bl (!decide (x=y))) H
B5 ZP{i j:Int}:decide (V.int i=V.int j)=(i==j):=by
 rw[M8]
 simp
B5 zb{i j:Bool}:decide (V.bl i=V.bl j)=(i==j):=by
 rw[M8]
 simp
B5 ZQ{i j:Str}:decide (V.str i=V.str j)=(i==j):=by
 rw[M8]
 simp
B5 ZR{i j:Array UInt8}:decide (V.byt i=V.byt j)=(i.toList==j.toList):=by
 rw[M8]
 cases i
 cases j
 simp
section
variable{X:Cx}{a b c:Expr}{ta tb tc:TE}{pos:Pos}
B5 dM{pins:List (Addr×Obj)}{σ:St}{H:Hp}{s:Shared}{Q:VK}{k k':Bool}(I:Inv X pins σ H s)(q:Q (.bl k) H)(e:k=k'):EP X pins σ Q (.bool k') s:=by
 subst e
 ~⟨.bl k,H,I,rfl,q⟩
B5 aHn:wM X (compareOp .Eq) rEq:=by
 intro pins s σ H x y v u Q I rx ry h
 B3⟨hs,q⟩:=h
 cases x with
 | non=>
  cases rx
  cases y with
  | non=>cases ry;~PySem.EqNone.eq_none_none (dM I q (by simp))
  | bl j=>cases ry;~PySem.EqNone.eq_none_bool (dM I q (by simp))
  | int j=>B3⟨t',rfl⟩:=ry;~PySem.EqNone.eq_none_int (dM I q (by simp))
  | str j=>B3⟨t',rfl⟩:=ry;~PySem.EqNone.eq_none_str (dM I q (by simp))
  | _=>~absurd (show false=true from hs) E2
 | bl i=>
  cases rx
  cases y with
  | non=>cases ry;~PySem.EqNone.eq_bool_none (dM I q (by simp))
  | bl j=>cases ry;~eq_bool (dM I q zb)
  | str j=>B3⟨t',rfl⟩:=ry;~PySem.EqMixed.eq_bool_str (dM I q (by simp))
  | _=>~absurd (show false=true from hs) E2
 | int i=>
  B3⟨t,rfl⟩:=rx
  cases y with
  | non=>cases ry;~PySem.EqNone.eq_int_none (dM I q (by simp))
  | int j=>B3⟨t',rfl⟩:=ry;~eq_int (dM I q ZP)
  | str j=>B3⟨t',rfl⟩:=ry;~PySem.EqMixed.eq_int_str (dM I q (by simp))
  | _=>~absurd (show false=true from hs) E2
 | str i=>
  B3⟨t,rfl⟩:=rx
  cases y with
  | non=>cases ry;~PySem.EqNone.eq_str_none (dM I q (by simp))
  | bl j=>cases ry;~PySem.EqMixed.eq_str_bool (dM I q (by simp))
  | int j=>B3⟨t',rfl⟩:=ry;~PySem.EqMixed.eq_str_int (dM I q (by simp))
  | str j=>B3⟨t',rfl⟩:=ry;~eq_str (dM I q ZQ)
  | _=>~absurd (show false=true from hs) E2
 | byt i=>
  B3⟨t,rfl⟩:=rx
  cases y with
  | byt j=>B3⟨t',rfl⟩:=ry;~PySem.W.eq_bytes (dM I q ZR)
  | _=>~absurd (show false=true from hs) E2
 | _=>cases y<;>~absurd (show false=true from hs) E2
B5 aHo:wM X (compareOp .NotEq) rNe:=by
 intro pins s σ H x y v u Q I rx ry h
 B3⟨hs,q⟩:=h
 cases x with
 | non=>
  cases rx
  cases y with
  | non=>cases ry;~PySem.EqNone.ne_none_none (dM I q (by simp))
  | bl j=>cases ry;~PySem.EqNone.ne_none_bool (dM I q (by simp))
  | int j=>B3⟨t',rfl⟩:=ry;~PySem.EqNone.ne_none_int (dM I q (by simp))
  | str j=>B3⟨t',rfl⟩:=ry;~PySem.EqNone.ne_none_str (dM I q (by simp))
  | _=>~absurd (show false=true from hs) E2
 | bl i=>
  cases rx
  cases y with
  | non=>cases ry;~PySem.EqNone.ne_bool_none (dM I q (by simp))
  | bl j=>cases ry;~ne_bool (dM I q (congrArg not zb))
  | str j=>B3⟨t',rfl⟩:=ry;~PySem.EqMixed.ne_bool_str (dM I q (by simp))
  | _=>~absurd (show false=true from hs) E2
 | int i=>
  B3⟨t,rfl⟩:=rx
  cases y with
  | non=>cases ry;~PySem.EqNone.ne_int_none (dM I q (by simp))
  | int j=>B3⟨t',rfl⟩:=ry;~ne_int (dM I q (congrArg not ZP))
  | str j=>B3⟨t',rfl⟩:=ry;~PySem.EqMixed.ne_int_str (dM I q (by simp))
  | _=>~absurd (show false=true from hs) E2
 | str i=>
  B3⟨t,rfl⟩:=rx
  cases y with
  | non=>cases ry;~PySem.EqNone.ne_str_none (dM I q (by simp))
  | bl j=>cases ry;~PySem.EqMixed.ne_str_bool (dM I q (by simp))
  | int j=>B3⟨t',rfl⟩:=ry;~PySem.EqMixed.ne_str_int (dM I q (by simp))
  | str j=>B3⟨t',rfl⟩:=ry;~ne_str (dM I q (congrArg not ZQ))
  | _=>~absurd (show false=true from hs) E2
 | byt i=>
  B3⟨t,rfl⟩:=rx
  cases y with
  | byt j=>B3⟨t',rfl⟩:=ry;~PySem.W.ne_bytes (dM I q (congrArg not ZR))
  | _=>~absurd (show false=true from hs) E2
 | _=>cases y<;>~absurd (show false=true from hs) E2
B5 Np:wM X (compareOp .Lt) (xq fun i j=>.bl (decide (i<j))):=aFg fun _ _ _ _ _ _ _ q=>lt_int q
B5 zc:wM X (compareOp .LtE) (xq fun i j=>.bl (decide (i≤j))):=aFg fun _ _ _ _ _ _ _ q=>le_int q
B5 aHp:wM X (compareOp .Gt) (xq fun i j=>.bl (decide (j<i))):=aFg fun _ _ _ _ _ _ _ q=>gt_int q
B5 Xh:wM X (compareOp .Is) (fun x y H Q=>y=.non∧Q (.bl (decide (x=.non))) H):=by
 intro pins s σ H x y v u Q I rx ry h
 B3⟨rfl,q⟩:=h
 cases ry
 &is_none_gen (dM I q ?_)
 cases x<;>first
  | (cases rx;rfl)
  | (B3⟨t,rfl⟩:=rx;rfl)
B5 Xi:wM X (compareOp .IsNot) (fun x y H Q=>y=.non∧Q (.bl (!decide (x=.non))) H):=by
 intro pins s σ H x y v u Q I rx ry h
 B3⟨rfl,q⟩:=h
 cases ry
 &isnot_none_gen (dM I q ?_)
 cases x<;>first
  | (cases rx;rfl)
  | (B3⟨t,rfl⟩:=rx;rfl)
B5 wM.or{f:Value→Value→Sem Value}{r r':R2}(h:wM X f r)(h':wM X f r'):wM X f (fun x y H Q=>r x y H Q∨r' x y H Q):=by
 intro pins s σ H x y v u Q I rx ry q
 rcases q with q | q
 ·~h pins s σ H x y v u Q I rx ry q
 ·~h' pins s σ H x y v u Q I rx ry q
B5 cR(b:Expr){op:CmpOp}(h:op≠.In:=by decide)(h2:op≠.NotIn:=by decide):behindInMarks op b=false:=by
 have e1:(op==CmpOp.In)=false:=by cases op<;>first | rfl | ~absurd rfl h
 have e2:(op==CmpOp.NotIn)=false:=by cases op<;>first | rfl | ~absurd rfl h2
 cases b<;>simp[behindInMarks,e1,e2]
B5 aCB{op:CmpOp}{r:R2}(ho:wM X (compareOp op) r)(ha:PE X a ta)(hb:PE X b tb)(hm:behindInMarks op b=false):PE X (.Compare a [op] [b] pos) (CW r ta tb):=by
 intro pins s σ H Q I h
 ~wpAny_Compare1 (aFf ha hb I h fun v u s2 x y H2 I2 rx ry q=>ho pins s2 σ H2 x y v u Q I2 rx ry q) hm
def FQ(t:TE):TT:=fun σ H Q=>t σ H fun x H'=>∃k,x=.bl k∧Q k H'
B5 aCC{op:CmpOp}{r:R2}(ho:wM X (compareOp op) r)(ha:PE X a ta)(hb:PE X b tb)(hm:behindInMarks op b=false):PT X (.Compare a [op] [b] pos) (FQ (CW r ta tb)):=by
 intro pins s σ H Q I h
 &wpAny_isTrue_Compare1 (jA (ha pins s σ H _ I h) fun v s1 ⟨x,H1,I1,r1,q1⟩=>jA (hb pins s1 σ H1 _ I1 q1) fun u s2 ⟨y,H2,I2,r2,q2⟩=>
  jA (ho pins s2 σ H2 x y v u _ I2 r1 r2 q2) fun c s3 ⟨z,H3,I3,r3,k,e,q3⟩=>?_) hm
 subst e
 cases r3
 ~wpAny_truthy_bool ⟨H3,I3,q3⟩
def zf(r r':R2)(ta tb tc:TE):TE:=fun σ H Q=>ta σ H fun x H1=>tb σ H1 fun y H2=>r x y H2 fun z H3=>∃k,z=.bl k ∧
 (if k=true then tc σ H3 fun w' H4=>r' y w' H4 Q else Q (.bl false) H3)
B5 zg{op op':CmpOp}{r r':R2}(ho:wM X (compareOp op) r)(ho':wM X (compareOp op') r')(ha:PE X a ta)(hb:PE X b tb)(hc:PE X c tc)
  (hm:lastMarks [op,op'] [b,c]=false:=by with_unfolding_all rfl):PT X (.Compare a [op,op'] [b,c] pos) (FQ (zf r r' ta tb tc)):=by
 intro pins s σ H Q I h
 &isTrue_chain (jA (ha pins s σ H _ I h) fun v s1 ⟨x,H1,I1,r1,q1⟩=>test_link (jA (hb pins s1 σ H1 _ I1 q1) fun u s2 ⟨y,H2,I2,r2,q2⟩=>
  jA (ho pins s2 σ H2 x y v u _ I2 r1 r2 q2) fun d s3 ⟨z,H3,I3,r3,k,e,q3⟩=>?_)) hm
 subst e
 cases r3
 &wpAny_truthy_bool ?_
 cases k with
 | false=>
  B3⟨k',e',q'⟩:=q3
  cases e'
  ~ite_ff ⟨H3,I3,q'⟩
 | true=>
  &ite_tt (test_last (jA (hc pins s3 σ H3 _ I3 q3) fun w' s4 ⟨z',H4,I4,r4,q4⟩=>jA (ho' pins s4 σ H4 y z' u w' _ I4 r2 r4 q4) fun d' s5 ⟨z2,H5,I5,r5,k2,e2,q5⟩=>?_))
  subst e2
  cases r5
  ~wpAny_truthy_bool ⟨H5,I5,q5⟩
B5 Nq:(sizeLine:Nat)<2 ^ 63:=by rw[sizeLine_eq];decide
B5 vals1{x:V}{us:List Value}(r:Vals [x] us):∃u,us=[u]∧RelV x u:=by
 cases r with
 | cons r1 r2=>cases r2;~⟨_,rfl,r1⟩
B5 vals2{x y:V}{us:List Value}(r:Vals [x,y] us):∃u w',us=[u,w']∧RelV x u∧RelV y w':=by
 cases r with
 | cons r1 r2=>
  cases r2 with
  | cons r3 r4=>cases r4;~⟨_,_,rfl,r1,r3⟩
B5 lr(hc:X.calm=true):nF X (.builtin "max") (fun xs H Q=>∃i j,xs=[.int i,.int j]∧Q (.int (if j > i then j else i)) H):=by
 intro pins s σ H xs us Q I r h
 B3⟨i,j,rfl,q⟩:=h
 B3⟨u,w',rfl,⟨t,rfl⟩,⟨t',rfl⟩⟩:=vals2 r
 &max_two_ints (I.ok.hd hc) fun h' tk k=>⟨_,H,I.kept k,?_,q⟩
 by_cases hj:j > i
 ·rw[if_pos hj,if_pos hj];~⟨_,rfl⟩
 ·rw[if_neg hj,if_neg hj];~⟨_,rfl⟩
end
end L2
namespace L2
open PySem PySem.Spec PyProof.Rows
structure RJ(h:Heap)(x dx C:Addr)(mA:Str→Option Value):Prop where
 obj:h.get? x=some (N6 C dx)
 ns:h.Ns1 dx mA
 ne:dx≠x
B5 lu{h:Heap}{dx:Addr}{mA:Str→Option Value}(n:h.Ns1 dx mA):∃od,h.get? dx=some od∧∀name,U5 name od=some (mA name):=by
 B3⟨o,es,ep,ho,hd,hk,_,hm⟩:=n
 &⟨o,ho,fun name=>?_⟩
 have e:=hm name
 B4 nsFind findBy at e
 rw[←Array.find?_toList]at e
 B4 U5
 rw[hd]
 dsimp only
 split
 ·rename_i y q
  rw[q]at e
  ~congrArg some e
 ·rename_i q
  rw[q]at e
  have a:es.toList.any (·.refKey)=false:=by
   rw[List.any_eq_false]
   intro y hy
   B3⟨z,t,hkey⟩:=hk y (Array.mem_toList_iff.mp hy)
   simp[DictEntry.refKey,hkey]
  have a':¬es.toList.any (·.refKey)=true:=by rw[a];~E2
  rw[if_neg a']
  ~congrArg some e
B5 RJ.look{h:Heap}{x dx C:Addr}{mA:Str→Option Value}(I:RJ h x dx C mA):∃od,PySem.W.InstAt h x (N6 C dx) C (some od)∧∀name,U5 name od=some (mA name):=
 let ⟨od,ho,hl⟩:=lu I.ns
 ⟨od,⟨I.obj,rfl,rfl,ho⟩,hl⟩
section
variable{prog:Program}{w:World}{A:Around}{E:Value→Shared→Prop}{s:Shared}{K:aF}{x dx C f:Addr}{mA:Str→Option Value}{name:Str}{v:Value}
B5 get_map{expr:Bool}{Q:Value→Shared→Prop}(X:K.In s.heap)(I:RJ s.heap x dx C mA)(hg:Q5 K C name=true)(hh:R8 K C=true)
  (ha:F3 K (.ref C) name=some none) (hv:mA name=some v) (hv':j5 v=true) (h:Q v {s with toks:=s.toks+1}) :
  wpAny (model prog w) A (getAttr (.ref x) name expr) Q E s:=by
 B3⟨od,J,hl⟩:=I.look
 ~PySem.W.get_value X J (U2 hg).1 (PySem.W.findObj_own hh ha rfl (by rw[hl,hv])) hv' h
B5 zj{pl:Sem Bool}{Q:Value×List Value→Shared→Prop}(X:K.In s.heap)(I:RJ s.heap x dx C mA)(hg:Q5 K C name=true)
  (hf:F3 K (.ref C) name=some (some (.ref f))) (ht:O7 K (.ref f)=true) (hv:mA name=none) (h:Q (.ref f,[.ref x]) s) :
  wpAny (model prog w) A (getMethod (.ref x) name pl) Q E s:=by
 B3⟨od,J,hl⟩:=I.look
 ~PySem.W.method_fn X J (U2 hg).1 (U2 hg).2 hf (beq_iff_eq.mp ht) (by show (U5 name od).map (·.isSome)=some false;rw[hl,hv];rfl) h
B5 aCD{ns:List Str}{Q:Unit→Shared→Prop}(X:K.In s.heap)(I:RJ s.heap x dx C mA)
  (hs:F3 K (.ref C) "__setattr__" = some (some (.builtin "object.__setattr__"))) (hp:V6 K C=true) (ht:X9 K C name=some none) (hh:R8 K C=true)
  (hw:c8 mA ns) (hsz:ns.length≤sizeLine)
  (h:∀h',RJ h' x dx C (fun y=>if y=name then some v else mA y)→Heap.SameBut dx s.heap h'→Q () {s with heap:=h',toks:=s.toks+2}) :
  wpAny (model prog w) A (setAttr (.ref x) name v) Q E s:=by
 B3⟨od,J,hl⟩:=I.look
 &PySem.W.set_plain X J hs (PySem.W.osa_open (s:={s with toks:=s.toks+1}) (r:=none) X J hp ht fun b=>?_)
 B3⟨cd,hc,hd'⟩:=PySem.W.any_some hh
 have hx:s.heap.get? x=some ⟨.ref C,some dx,.plain,#[]⟩:=I.obj
 &wpAny_bind (wpAny_pure (wpAny_bind (wpAny_bind (wpAny_loadPart hx (wpAny_bind (PySem.W.Looks.here (s:={s with toks:=s.toks+1}) (PySem.W.looks_clsIn X hc) ?_))))))
 rw[hd']
 &wpAny_pure (a:=some dx) (wpAny_bind (wpAny_pure (wpAny_bind ?_)))
 &wpAny_nsSet1 (s:={s with toks:=s.toks+1}) I.ns fun h' hn2 hs2=>?_
 B3⟨oD,esD,epD,hoD,hdD,hcD⟩:=hn2.count (PySem.Within.cons name v hw)
 &wpAny_bind (wpAny_lookBehind hoD (by rw[hdD];~pastItsLine_dict (G2 hcD (by rw[E9];omega))) ?_)
 ~wpAny_pure (h _ ⟨(hs2.2 _ (Ne.symm I.ne)).trans I.obj,hn2,I.ne⟩ hs2)
B5 zm{R:Result→Shared→Prop}{vs:List Value}{kw:List (Str×Value)}(X:K.In s.heap)(hm:T6 K C=true)
  (hi:F3 K (.ref C) "__init__" = some (some (.ref f))) (hf:l9 K (.ref f)=some (.type "function"))
  (h:codeAny (model prog w) (A.under (.builtin "type.__call__" ⟨.ref C::vs,kw⟩)) (.call (.ref f) ⟨.ref (s.heap.objs.size+1)::vs,kw⟩) (PySem.W.InitBack (s.heap.objs.size+1) R)
   {s with heap:=(s.heap.push L3).push (N6 C s.heap.objs.size)}) :
  codeAny (model prog w) A (.call (.ref C) ⟨vs,kw⟩) R s:=by
 B3⟨hh,g,d,t,os⟩:=s
 ~PySem.W.make_core (PySem.W.makes_of X hm) (PySem.W.looks_findIn X hi) (fun self=>PySem.W.bind_fn X self hf) (.inl rfl) h
end
def zB(f:Str)(v:V):List (Str×V)→List (Str×V)
 | []=>[(f,v)]
 | (g,x)::r=>if g=f then(g,v)::r else(g,x)::zB f v r
B5 Kw(f g:Str)(v:V):∀fs:List (Str×V),(zB f v fs).lookup g=if g=f then some v else fs.lookup g
 | []=>by
  show Q8 g [(f,v)]=_
  by_cases h:g=f
  ·have hb:(g==f)=true:=beq_iff_eq.mpr h
   simp only[Q8,hb,if_pos h]
  ·have hb:(g==f)=false:=beq_eq_false_iff_ne.mpr h
   simp only[Q8,hb,if_neg h]
 | (k,x)::r=>by
  have ih:=Kw f g v r
  rw[show zB f v ((k,x)::r)=(if k=f then(k,v)::r else(k,x)::zB f v r)from rfl]
  by_cases hk:k=f
  ·rw[if_pos hk]
   by_cases h:g=k
   ·have hb:(g==k)=true:=beq_iff_eq.mpr h
    simp only[Q8,hb,if_pos (h.trans hk)]
   ·have hb:(g==k)=false:=beq_eq_false_iff_ne.mpr h
    simp only[Q8,hb,if_neg (fun e:g=f=>h (e.trans hk.symm))]
  ·rw[if_neg hk]
   by_cases h:g=k
   ·have hb:(g==k)=true:=beq_iff_eq.mpr h
    simp only[Q8,hb,if_neg (fun e:g=f=>hk (h.symm.trans e))]
   ·have hb:(g==k)=false:=beq_eq_false_iff_ne.mpr h
    simp only[Q8,hb]
    ~ih
B5 Ip(f:Str)(v:V):∀fs:List (Str×V),f∈(zB f v fs).map (·.1)∧∀g,g∈fs.map (·.1)→g∈(zB f v fs).map (·.1)
 | []=>⟨by simp[zB],fun g h=>by simp at h⟩
 | (k,x)::r=>by
  B3⟨i1,i2⟩:=Ip f v r
  rw[show zB f v ((k,x)::r)=(if k=f then(k,v)::r else(k,x)::zB f v r)from rfl]
  by_cases hk:k=f
  ·rw[if_pos hk]
   subst hk
   ~⟨by simp,fun g h=>by simpa using h⟩
  ·rw[if_neg hk]
   &⟨?_,fun g h=>?_⟩
   ·rw[D3]
    ~C8 _ i1
   ·rw[D3]at h ⊢
    rcases C9.mp h with e | e
    ·~C9.mpr (.inl e)
    ·~C8 _ (i2 g e)
B5 Ky(f:Str)(v:V):∀fs:List (Str×V),(zB f v fs).length≤fs.length+1
 | []=>by simp[zB]
 | (k,x)::r=>by
  have ih:=Ky f v r
  rw[show zB f v ((k,x)::r)=(if k=f then(k,v)::r else(k,x)::zB f v r)from rfl]
  by_cases hk:k=f
  ·rw[if_pos hk,E9,E9];omega
  ·rw[if_neg hk,E9,E9];omega
B5 yZ.some_of{v:V}{o:Option Value}(r:yZ (some v) o):∃u,o=some u∧RelV v u:=by
 cases o with
 | none=>~(show False from r).elim
 | some u=>~⟨u,rfl,r⟩
B5 yZ.none_of{o:Option Value}(r:yZ none o):o=none:=by
 cases o with
 | none=>rfl
 | some u=>~(show False from r).elim
B5 lz{v:V}{u:Value}(r:RelV v u):j5 u=true:=by
 cases v with
 | non=>cases(show u=Value.none from r);rfl
 | bl b=>cases(show u=Value.bool b from r);rfl
 | int i=>B3⟨t,e⟩:=(show ∃t,u=Value.int i t from r);cases e;rfl
 | str x=>B3⟨t,e⟩:=(show ∃t,u=Value.str x t from r);cases e;rfl
 | byt b=>B3⟨t,e⟩:=(show ∃t,u=Value.bytes b t from r);cases e;rfl
 | flt b=>B3⟨t,e⟩:=(show ∃t,u=Value.float b t from r);cases e;rfl
 | ref a=>cases(show u=Value.ref a from r);rfl
 | ty n=>cases(show u=Value.type n from r);rfl
section
variable{P:Program}{w:World}{H H':Hp}{h h':Heap}{a C dx:Addr}{fs fs':List (Str×V)}
B5 Mi(hok:Df P w H h)(e:H a=some (.ins C dx fs)):∃mA,RJ h a dx C mA∧(∀f,yZ (fs.lookup f) (mA f))∧c8 mA (fs.map (·.1))∧fs.length≤1000∧H dx=some (.own a):=by
 B3⟨d,z,ne,ob,mA,n,r,q⟩:=(show jG P w H h a (.ins C dx fs)from hok a _ e)
 ~⟨mA,⟨ob,n,ne⟩,r,q,z,d⟩
end
structure zp(K:aF)(C:Addr):Prop where
 pg:Q5 K C Str.empty=true
 hd:R8 K C=true
 po:V6 K C=true
 sa:F3 K (.ref C) "__setattr__" = some (some (.builtin "object.__setattr__"))
B5 zp.get{K:aF}{C:Addr}(c:zp K C)(f:Str):Q5 K C f=true:=c.pg
def Du(K:aF)(C:Addr)(f:Str):Prop:=F3 K (.ref C) f=some none
B5 Du.taker{K:aF}{C:Addr}{f:Str}(n:Du K C f):X9 K C f=some none:=by
 B4 X9
 rw[show F3 K (.ref C) f=some none from n]
 rfl
structure Con(K:aF)(C:Addr)(f:Str)(v:V)(u:Value):Prop where
 at_:F3 K (.ref C) f=some (some u)
 rel:RelV v u
 get:V7 K u "__get__" = some none
 cp:PySem.W.copiedNames.contains f=false
structure Meth(K:aF)(C:Addr)(m:Str)(f:Addr):Prop where
 at_:F3 K (.ref C) m=some (some (.ref f))
 fn:O7 K (.ref f)=true
 kp:J9 K (.ref f)=true
section
variable{X:Cx}{pins:List (Addr×Obj)}{σ:St}{H:Hp}{s:Shared}{a C dx:Addr}{fs:List (Str×V)}{f:Str}{v:V}{A:Around}{E:Value→Shared→Prop}
B5 RK{b:Bool}{Q:Value→Shared→Prop}(I:Inv X pins σ H s)(e:H a=some (.ins C dx fs))(c:zp X.K C)(n:Du X.K C f)(l:fs.lookup f=some v)
  (h:∀u s',Inv X pins σ H s'→RelV v u→Q u s'):wpAny (model X.prog X.w) A (getAttr (.ref a) f b) Q E s:=by
 B3⟨mA,O,r,_,_,_⟩:=Mi I.hok e
 B3⟨u,hu,ru⟩:=yZ.some_of (v:=v) (o:=mA f) (by rw[←l];~r f)
 ~get_map I.Im O (c.get f) c.hd n hu (lz ru) (h u _ (I.tok _) ru)
B5 Nr{m:Str}{g:Addr}{pl:Sem Bool}{Q:Value×List Value→Shared→Prop}(I:Inv X pins σ H s)(e:H a=some (.ins C dx fs))(c:zp X.K C)(k:Meth X.K C m g)(l:fs.lookup m=none)
  (h:Q (.ref g,[.ref a]) s):wpAny (model X.prog X.w) A (getMethod (.ref a) m pl) Q E s:=by
 B3⟨mA,O,r,_,_,_⟩:=Mi I.hok e
 have hn:mA m=none:=yZ.none_of (by rw[←l];~r m)
 ~zj I.Im O (c.get m) k.at_ k.fn hn h
B5 RL{y:V}{u:Value}{Q:Unit→Shared→Prop}(I:Inv X pins σ H s)(e:H a=some (.ins C dx fs))(c:zp X.K C)(n:Du X.K C f)(hl:fs.length<1000)(ry:RelV y u)
  (h:∀s',Inv X pins σ (upd H a (.ins C dx (zB f y fs))) s'→Q () s'):wpAny (model X.prog X.w) A (setAttr (.ref a) f u) Q E s:=by
 B3⟨mA,O,r,wi,_,ho⟩:=Mi I.hok e
 have hz:(fs.map (·.1)).length≤sizeLine:=by rw[B7,sizeLine_eq];omega
 &aCD I.Im O c.sa c.po n.taker c.hd wi hz fun h' O' sb=>h _ ?_
 have hd:∃o,h'.get? dx=some o:=let ⟨o,_,_,e',_⟩:=O'.ns;⟨o,e'⟩
 &I.write (x:=a) (e:=dx) (by rw[e];~True.intro) (.inr ho) (fun b q hb z=>(sb.2 b hb).trans z) hd ?_
 &⟨by rw[bQ O.ne];~ho,?_,O.ne,O'.obj,_,O'.ns,fun g=>?_,fun g hg=>?_⟩
 ·have:=Ky f y fs;omega
 ·show yZ ((zB f y fs).lookup g) (if g=f then some u else mA g)
  rw[Kw]
  by_cases q:g=f
  ·rw[if_pos q,if_pos q];~ry
  ·rw[if_neg q,if_neg q];~r g
 ·by_cases q:g=f
  ·rw[q];~(Ip f y fs).1
  ·&(Ip f y fs).2 g (wi g fun z=>hg ?_)
   show (if g=f then some u else mA g)=none
   rw[if_neg q];~z
B5 Inv.made(I:Inv X pins σ H s):Inv X pins σ (upd (upd H s.heap.objs.size (.own (s.heap.objs.size+1))) (s.heap.objs.size+1) (.ins C s.heap.objs.size []))
  {s with heap:=(s.heap.push L3).push (N6 C s.heap.objs.size)}:=by
 have e1:(s.heap.push L3).get? s.heap.objs.size=some L3:=Heap.get?_push_size s.heap rfl
 have e2:((s.heap.push L3).push (N6 C s.heap.objs.size)).get? (s.heap.objs.size+1)=some (N6 C s.heap.objs.size):=by
  have:=Heap.get?_push_size (s.heap.push L3) (o:=N6 C s.heap.objs.size) rfl
  rwa [Heap.size_push]at this
 have e3:(s.heap.push L3).Ns s.heap.objs.size (fun _=>none):=⟨L3,#[],_,e1,rfl,(fun e he=>absurd he (by simp)),fun _=>rfl⟩
 have I1:=I.laid (a:=s.heap.objs.size) (o:=.own (s.heap.objs.size+1)) (h':=s.heap.push L3) (t':=s.toks) (fun b u q=>Heap.get?_push_of_some _ q) (C6 _) ⟨_,e1⟩
 &I1.laid (a:=s.heap.objs.size+1) (o:=.ins C s.heap.objs.size []) (t':=s.toks) (fun b u q=>Heap.get?_push_of_some _ q) (d6 (Heap.size_push _ _)) ?_
 have ne:s.heap.objs.size≠s.heap.objs.size+1:=E5 (M0 _)
 &⟨by rw[bQ ne,cJ],N4 _,ne,e2,fun _=>none,(Heap.Ns1.of_empty e3).at fun o q=>Heap.get?_push_of_some _ q,fun _=>True.intro,fun y hy=>absurd rfl hy⟩
B5 aCE{prog:Program}{w:World}{env:Env}{e:Expr}{f:Str}{pos:Pos}{s:Shared}{Q:Value→Shared→Prop}(hb:attributeBase e f env (eval e env)=eval e env)
  (h:wpAny (model prog w) A (eval e env) (fun o s₁=>wpAny (model prog w) A (getAttr o f true) Q E s₁) E s):wpAny (model prog w) A (eval (.Attribute e f pos) env) Q E s:=
 Attribute_any_ h (by rw[arm_eval_Attribute,hb])
end
def aFn(K:aF)(ta:TE)(f:Str):TE:=fun σ H Q=>ta σ H fun x H1=>∃a C dx fs v,x=.ref a∧H1 a=some (.ins C dx fs)∧zp K C∧Du K C f∧fs.lookup f=some v∧Q v H1
def aFo(K:aF)(ta tv:TE)(f:Str):TS:=fun D σ H=>tv σ H fun y H1=>ta σ H1 fun x H2=>∃a C dx fs,x=.ref a∧H2 a=some (.ins C dx fs)∧zp K C∧Du K C f∧fs.length<1000 ∧
 D.nx σ (upd H2 a (.ins C dx (zB f y fs)))
section
variable{X:Cx}{o e value:Expr}{f:Str}{pos pos' tpos:Pos}{ta tv:TE}
B5 zq(he:PE X e ta)(hb:attributeBase e f X.env (eval e X.env)=eval e X.env):PE X (.Attribute e f pos) (aFn X.K ta f):=by
 intro pins s σ H Q I h
 &aCE hb (jA (he pins s σ H _ I h) fun u s1 ⟨x,H1,I1,rx,a,C,dx,fs,v,ex,ea,c,n,l,q⟩=>?_)
 subst ex
 B3 rfl:u=Value.ref a:=rx
 ~RK I1 ea c n l fun u' s2 I2 ru=>⟨v,H1,I2,ru,q⟩
B5 aFp(ha:PE X o ta)(hv:PE X value tv)(hs:swapsWith value (some (.Attribute o f pos')) pos.line X.env=pure false):PS X (.Assign [.Attribute o f pos'] value pos) (aFo X.K ta tv f):=by
 intro pins s σ H D I h
 &plainObj_wpAny_Assign_Attribute (jA (hv pins s σ H _ I h) fun u s1 ⟨y,H1,I1,ry,q⟩=>jA (ha pins s1 σ H1 _ I1 q) fun ov s2 ⟨x,H2,I2,rx,a,C,dx,fs,ex,ea,c,n,l,q2⟩=>?_) hs
 subst ex
 B3 rfl:ov=Value.ref a:=rx
 ~RL I2 ea c n l ry fun s3 I3=>⟨σ,_,I3,q2⟩
end
section
variable{X:Cx}{pins:List (Addr×Obj)}{σ:St}{H:Hp}{s:Shared}{A:Around}{E:Value→Shared→Prop}{Q:Value→Shared→Prop}{c:Value}{b:Bool}
inductive Ls(K:aF)(H:Hp):V→Value→Prop where
 | non:Ls K H .non (.type "NoneType")
 | bl (x:Bool):Ls K H (.bl x) (.type "bool")
 | int (i:Int):Ls K H (.int i) (.type "int")
 | str (x:Str):Ls K H (.str x) (.type "str")
 | flt (x:UInt64):Ls K H (.flt x) (.type "float")
 | lst {a:Addr} {xs:List V} (e:H a=some (.lst xs)):Ls K H (.ref a) (.type "list")
 | zA {a:Addr} {o:Obj} {xs:List V} (e:H a=some (.zA o (.lst xs))):Ls K H (.ref a) (.type "list")
 | tup {a:Addr} {xs:List V} (e:H a=some (.tup xs)):Ls K H (.ref a) (.type "tuple")
 | dK {a:Addr} {kvs:List (Key×V)} (e:H a=some (.dK kvs)):Ls K H (.ref a) (.type "dict")
 | dT {a:Addr} {kvs:List (List Key×V)} (e:H a=some (.dT kvs)):Ls K H (.ref a) (.type "dict")
 | ins {a C dx:Addr} {fs:List (Str×V)} (e:H a=some (.ins C dx fs)) (cl:zp K C) (ha:F3 K (.ref C) "__class__" = some (some (.builtin "object.__class__")))
   (hn:V7 K (.builtin "object.__class__") "__get__" = some (some (.builtin "getset_descriptor.__get__"))) (htk:l0 K (.builtin "object.__class__")=some true)
   (hm:o6 K C (.type "object")=some true):Ls K H (.ref a) (.ref C)
B5 Ui{x:V}{u t:Value}(I:Inv X pins σ H s)(rx:RelV x u)(ty:Ls X.K H x t)(e:J4 X.K t c=some b)(h:∀tk,Q (.bool b) {s with toks:=tk}) :
  wpAny (model X.prog X.w) A (call (.builtin "isinstance") [u,c]) Q E s:=by
 cases ty with
 | non=>cases(show u=Value.none from rx);~K0 PySem.W.kitx_none I.Im True.intro e (fun z=>nomatch z) h
 | bl y=>cases(show u=Value.bool y from rx);~K0 PySem.W.kitx_bool I.Im True.intro e (fun z=>nomatch z) h
 | int i=>B3⟨t,q⟩:=(show ∃t,u=Value.int i t from rx);cases q;~K0 PySem.W.kitx_int I.Im True.intro e (fun z=>nomatch z) h
 | str y=>B3⟨t,q⟩:=(show ∃t,u=Value.str y t from rx);cases q;~K0 PySem.W.kitx_str I.Im True.intro e (fun z=>nomatch z) h
 | flt y=>B3⟨t,q⟩:=(show ∃t,u=Value.float y t from rx);cases q;~K0 PySem.W.kitx_float I.Im True.intro e (fun z=>nomatch z) h
 | @lst a xs ea=>
  cases(show u=Value.ref a from rx)
  B3⟨_,_,n,_,h1⟩:=(show jG X.prog X.w H s.heap a (.lst xs)from I.hok a _ ea)
  ~K0 V8 I.Im ⟨_,h1,rfl⟩ e (fun z=>nomatch z) h
 | @zA a ob xs ea=>
  cases(show u=Value.ref a from rx)
  B3⟨_,_,_,n,_,h1⟩:=(show jG X.prog X.w H s.heap a (.zA ob (.lst xs))from I.hok a _ ea)
  ~K0 V8 I.Im ⟨_,h1,rfl⟩ e (fun z=>nomatch z) h
 | @tup a xs ea=>
  cases(show u=Value.ref a from rx)
  B3⟨_,_,_,p⟩:=(show jG X.prog X.w H s.heap a (.tup xs)from I.hok a _ ea)
  B3⟨o,h1,h2,_⟩:=p
  ~K0 d7 I.Im ⟨o,h1,h2⟩ e (fun z=>nomatch z) h
 | @dK a kvs ea=>
  cases(show u=Value.ref a from rx)
  B3⟨_,_,vs,_,p⟩:=(show jG X.prog X.w H s.heap a (.dK kvs)from I.hok a _ ea)
  B3⟨o,es,ep,h1,h2,_⟩:=p
  ~K0 h9 I.Im ⟨o,h1,h2.1⟩ e (fun z=>nomatch z) h
 | @dT a kvs ea=>
  cases(show u=Value.ref a from rx)
  B3⟨_,_,xs,_,o,es,ep,h1,h2,_⟩:=(show jG X.prog X.w H s.heap a (.dT kvs)from I.hok a _ ea)
  ~K0 h9 I.Im ⟨o,h1,h2.1⟩ e (fun z=>nomatch z) h
 | @ins a C dx fs ea cl ha hn htk hm=>
  cases(show u=Value.ref a from rx)
  B3⟨mA,O,_⟩:=Mi I.hok ea
  B3⟨od,J,_⟩:=O.look
  ~K0 (PySem.W.kitx_own (cl.get _) cl.hd ha hn htk hm) I.Im J e (fun z=>nomatch z) h
end
end L2
namespace L2
open PySem PySem.Spec PyProof.Rows
structure jR(k:Nat)(A:Around):Prop where
 hd:A.handled=none
 dp:A.depth+3*k+5<recursionLimit
 un:A.units+16*k+200<cLine
B5 jR.mono{j k:Nat}{A:Around}(r:jR k A)(h:j≤k):jR j A:=⟨r.hd,by have:=r.dp;omega,by have:=r.un;omega⟩
B5 jR.deeper{k:Nat}{A:Around}(r:jR (k+1) A)(env:Env):jR k (A.deeper env):=
 ⟨r.hd,by have:=r.dp;show A.depth+1+3*k+5<_;omega,by have:=r.un;show A.units+3+16*k+200<_;omega⟩
B5 RM{A:Around}{C:Addr}{us:List Value}{kw:List (Str×Value)}:(A.under (.builtin "type.__call__" ⟨.ref C::us,kw⟩)).depth=A.depth+1:=by
  first | rfl | simp[Around.under,Code.weight,Code.isCreation,Code.isGuard,Code.isCaller,Code.frames,Code.isFrame,guardIds]
B5 RN{A:Around}{C:Addr}{us:List Value}{kw:List (Str×Value)}:(A.under (.builtin "type.__call__" ⟨.ref C::us,kw⟩)).units=A.units+1:=by
  first | rfl | simp[Around.under,Code.cUnits,Code.frames,Code.isFrame]
B5 jR.make{k:Nat}{A:Around}(r:jR (k+1) A)(C:Addr)(us:List Value)(kw:List (Str×Value)):jR k (A.under (.builtin "type.__call__" ⟨.ref C::us,kw⟩)):=
 ⟨r.hd,by have:=r.dp;rw[RM];omega,by have:=r.un;rw[RN];omega⟩
B5 jR.depth{k:Nat}{A:Around}(r:jR k A):A.depth<recursionLimit:=by have:=r.dp;omega
B5 jR.units{k:Nat}{A:Around}(r:jR k A):A.units+64<cLine:=by have:=r.un;omega
def nG:TA:=fun _ H Q=>Q [] H
def fY(ta:TE)(tr:TA):TA:=fun σ H Q=>ta σ H fun x H1=>tr σ H1 fun xs H2=>Q (x::xs) H2
section
variable{X:Cx}{e:Expr}{es:List Expr}{te:TE}{t:TA}{pos:Pos}
B5 jY:PA X [] nG:=fun _ _ _ _ H Q I h=>Calls.spliced_nil ⟨[],H,I,.nil,h⟩
B5 fD(ha:PE X e te)(hr:PA X es t)(hs:starEach (e::es) X.env=(false,eval e X.env)::starEach es X.env:=by rfl):PA X (e::es) (fY te t):=by
 intro pos pins s σ H Q I h
 rw[hs]
 show wpAny _ _ (spliced ((false,eval e X.env)::backTo pos (starEach es X.env))) _ _ s
 &Calls.spliced_cons (jA (ha pins s σ H _ I h) fun u s1 ⟨x,H1,I1,r1,q1⟩=>?_)
 ~jA (hr pos pins s1 σ H1 _ I1 q1) fun us s2 ⟨xs,H2,I2,r2,q2⟩=>⟨x::xs,H2,I2,.cons r1 r2,q2⟩
def aCF(t:TA):TE:=fun σ H Q=>t σ H fun xs H1=>xs.length≤sizeLine∧∀p,H1 p=none→Q (.ref p) (upd H1 p (.tup xs))
def zu(t:TA):TE:=fun σ H Q=>t σ H fun xs H1=>xs.length≤sizeLine∧∀p,H1 p=none→Q (.ref p) (upd H1 p (.lst xs))
B5 zy{x1}(h:PA X es t):PE X (.Tuple es x1 pos) (aCF t):=by
 intro pins s σ H Q I hq
 &wpAny_Tuple_spliced (jA (h pos pins s σ H _ I hq) fun us s1 ⟨xs,H1,I1,r,z,q⟩=>⟨by rw[←r.length];~z,?_⟩)
 have hf:H1 s1.heap.objs.size=none:=I1.hok.fresh (C6 _)
 &⟨.ref s1.heap.objs.size,upd H1 s1.heap.objs.size (.tup xs),I1.laid (t':=s1.toks) (fun b u e=>Heap.get?_push_of_some _ e) (C6 _) ?_,rfl,q _ hf⟩
 ~⟨z,us,r,⟨_,Heap.get?_push_size _ rfl,rfl,_,rfl⟩⟩
B5 aAa(h:PA X es t):PE X (.List es pos) (zu t):=by
 intro pins s σ H Q I hq
 &wpAny_List_spliced (jA (h pos pins s σ H _ I hq) fun us s1 ⟨xs,H1,I1,r,z,q⟩=>⟨by rw[←r.length];~z,?_⟩)
 have hf:H1 s1.heap.objs.size=none:=I1.hok.fresh (C6 _)
 &⟨.ref s1.heap.objs.size,upd H1 s1.heap.objs.size (.lst xs),I1.laid (t':=s1.toks) (fun b u e=>Heap.get?_push_of_some _ e) (C6 _) ?_,rfl,q _ hf⟩
 ~⟨z,us,0,r,Heap.get?_push_size _ rfl⟩
end
abbrev Sp:=List V→Hp→VK→XK→Prop
abbrev mj:=List Env→Hp→Shared→XK→Value→Shared→Prop
structure RP(P:Program)(w:World)(K:aF)(mg:Str→Option Value)(base:Heap)(A:Around)(outer:List Env)(s:Shared)(H:Hp):Prop where
 frames:A.frames=some outer
 mod:Mod K mg base
 bs:∀b o,base.get? b=some o→s.heap.get? b=some o∧H b=none
 bsz:base.objs.size≤s.heap.objs.size
 Lr:s.heap.FunFrames base outer
 frf:∀b∈frs outer,H b=none
 hok:Df P w H s.heap
 bare:AllBare s.gens
def CE(outer:List Env)(P:Program)(w:World)(H:Hp)(s:Shared)(Q:VK)(u:Value)(s':Shared):Prop:=
 ∃v H',s'.os=s.os∧AllBare s'.gens∧Un (frs outer) [] H H' s.heap s'.heap∧Df P w H' s'.heap∧RelV v u∧Q v H'
def CR(CX:mj)(outer:List Env)(P:Program)(w:World)(H:Hp)(s:Shared)(Q:VK)(E:XK)(r:Result)(s':Shared):Prop:=
 match r with
 | .ok (.ret u)=>CE outer P w H s Q u s'
 | .ok _=>False
 | .error e=>CX outer H s E e s'
structure zF(P:Program)(w:World)(K:aF)(mg:Str→Option Value)(base:Heap)(CX:mj)(k:Nat)(f:Addr)(fd:FuncData)(ps:List Str)(sp:Sp):Prop where
 len:∀vs H Q E,sp vs H Q E→vs.length=ps.length
 run:∀(A:Around)(outer:List Env)(s:Shared)(H:Hp)(args:Args)(us:List Value)(vs:List V)(Q:VK)(E:XK),jR k A→RP P w K mg base A outer s H→BindsTo s fd args (ps.zip us)→Vals vs us→sp vs H Q E →
  codeAny (model P w) A (.call (.ref f) args) (CR CX outer P w H s Q E) s
B5 RP.make{P:Program}{w:World}{K:aF}{mg:Str→Option Value}{base:Heap}{A:Around}{outer:List Env}{s:Shared}{H:Hp}(e:RP P w K mg base A outer s H)(C:Addr)(us:List Value)(kw:List (Str×Value)) :
  RP P w K mg base (A.under (.builtin "type.__call__" ⟨.ref C::us,kw⟩)) outer s H:=⟨by first | ~e.frames | (simpa[Around.under,Code.envs,Code.isFrame,pushEnvs]using e.frames),e.mod,e.bs,e.bsz,e.Lr,e.frf,e.hok,e.bare⟩
section
variable{X:Cx}{pins:List (Addr×Obj)}{σ:St}{H:Hp}{s s':Shared}
B5 Inv.env0(I:Inv X pins σ H s):RP X.prog X.w X.K X.mg X.base X.A X.stack s H:=
 ⟨I.ok.frames,I.ok.mod,I.bs,G2 I.ok.bsz I.sz,I.stack,I.ZG,I.hok,I.bare⟩
B5 Inv.after{Q:VK}{u:Value}(I:Inv X pins σ H s)(h:CE X.stack X.prog X.w H s Q u s'):EP X pins σ Q u s':=by
 B3⟨v,H',os,bare,un,hok,r,q⟩:=h
 B3⟨hh,g,d,t,os'⟩:=s'
 B3 rfl:os'=s.os:=os
 ~⟨v,H',I.call (h':=hh) (g':=g) (d':=d) (t':=t) (ch:=[]) un hok bare (fun b z=>absurd z (by simp)),r,q⟩
end
def Uj(sp:Sp)(Ik:List V)(E:XK)(t:TA):TE:=fun σ H Q=>t σ H fun vs H1=>sp (vs++Ik) H1 Q E
def Kz(C:Addr)(m:Str)(sp:Sp)(Ik:List V)(E:XK)(ta:TE)(t:TA):TE:=fun σ H Q=>ta σ H fun x H1=>∃a dx fs,x=.ref a∧H1 a=some (.ins C dx fs)∧fs.lookup m=none ∧
 t σ H1 fun vs H2=>sp (x::(vs++Ik)) H2 Q E
def aEb(C:Addr)(sp:Sp)(Ik:List V)(E:XK)(t:TA):TE:=fun σ H Q=>t σ H fun vs H1=>∀x dx,H1 x=none→H1 dx=none→dx≠x →
 sp (.ref x::(vs++Ik)) (upd (upd H1 dx (.own x)) x (.ins C dx [])) (fun v H2=>v=.non∧Q (.ref x) H2) E
def Binds(K:aF)(fd:FuncData)(ps:List Str)(ds:List Value):Prop:=
 ∀(s:Shared)(us:List Value),K.In s.heap→(us++ds).length=ps.length→BindsTo s fd ⟨us,[]⟩ (ps.zip (us++ds))
B5 Binds.all{K:aF}{fd:FuncData}{ps:List Str}(h:∀us:List Value,us.length=ps.length→bindArgs fd ⟨us,[]⟩=pure (ps.zip us)):Binds K fd ps []:=fun s us _ hl=>by
 rw[F9]at hl ⊢
 ~.of_eq (h us hl)
def Passes(CX:mj)(X:Cx)(E:XK):Prop:=∀(pins:List (Addr×Obj))(σ:St)(H:Hp)(s:Shared)(e:Value)(s':Shared),Inv X pins σ H s→CX X.stack H s E e s'→X.xe e s'
section
variable{X:Cx}{CX:mj}{k:Nat}{f C:Addr}{fd:FuncData}{ps:List Str}{sp:Sp}{Ik:List V}{ds:List Value}{E:XK}{x m:Str}{p pos apos:Pos}{e o:Expr}{es:List Expr}{ta:TE}{t:TA}
B5 RQ{pins:List (Addr×Obj)}{σ:St}{H:Hp}{s:Shared}{Q:VK}{us:List Value}{vs:List V}(F:zF X.prog X.w X.K X.mg X.base CX k f fd ps sp)(hr:jR k X.A)(hb:Binds X.K fd ps ds)(hd:Vals Ik ds)(hx:Passes CX X E)
  (I:Inv X pins σ H s) (r:Vals vs us) (h:sp (vs++Ik) H Q E):wpAny (model X.prog X.w) X.A (call (.ref f) us) (EP X pins σ Q) X.xe s:=by
 have r2:Vals (vs++Ik) (us++ds):=r.append hd
 have hl:(us++ds).length=ps.length:=by rw[←r2.length];~F.len _ _ _ _ h
 &wpAny_call (codeAny_mono (F.run X.A X.stack s H ⟨us,[]⟩ (us++ds) (vs++Ik) Q E hr I.env0 (hb s us I.Im hl) r2 h) fun r s' hq=>?_)
 cases r with
 | error e=>~hx pins σ H s e s' I hq
 | ok fl=>
  cases fl with
  | ret u=>~I.after hq
  | next=>~False.elim hq
  | brk=>~False.elim hq
  | cont=>~False.elim hq
B5 aCG(F:zF X.prog X.w X.K X.mg X.base CX k f fd ps sp)(hr:jR k X.A)(hg:Gl X x)(hm:X.mg x=some (.ref f))(hk:J9 X.K (.ref f)=true)(hb:Binds X.K fd ps ds)(hd:Vals Ik ds)(hx:Passes CX X E)
  (ha:PA X (e::es) t) (hdb:(x==("__debug__" : Str))=false:=by decide) (he:starEach (e::es) X.env=(false,eval e X.env)::starEach es X.env:=by rfl) (hpl:(backTo pos (starEach es X.env)).any (·.1)=false:=by rfl) :
  PE X (.Call (.Name x p) (e::es) [] pos) (Uj sp Ik E t):=by
 intro pins s σ H Q I h
 &wpAny_Call_Name_kw (Xa I hg hm ?_ hdb)
 &U7 (h₀:=X.base) I.ok.mod.kin hk (jA (ha pos pins s σ H _ I h) fun us s1 ⟨vs,H1,I1,r,q⟩=>⟨I1.Im,?_⟩) he hpl
 ~RQ F hr hb hd hx I1 r q
B5 Xj{pl:Sem Bool}(he:PE X o ta)(c:zp X.K C)(hm:Meth X.K C m f)(F:zF X.prog X.w X.K X.mg X.base CX k f fd ps sp)(hr:jR k X.A)(hb:Binds X.K fd ps ds)(hd:Vals Ik ds)(hx:Passes CX X E)(ha:PA X (e::es) t)
  (hst:starEach (e::es) X.env=(false,eval e X.env)::starEach es X.env:=by rfl) (hpl:(backTo pos (starEach es X.env)).any (·.1)=false:=by rfl)
  (ht:eval (.Call (.Attribute o m apos) (e::es) [] pos) X.env=(do
   let ov ←eval o X.env
   standAt apos.atName
   let (f,first) ←holding [ov] (getMethod ov m pl)
   callWith pos f first (backTo pos (starEach (e::es) X.env)) (backToKw pos (keywordEach [] X.env))):=by rfl) :
  PE X (.Call (.Attribute o m apos) (e::es) [] pos) (Kz C m sp Ik E ta t):=by
 intro pins s σ H Q I h
 &Z5 (pl:=pl) (jA (he pins s σ H _ I h) fun u s1 ⟨x,H1,I1,rx,a,dx,fs,ex,ea,l,q⟩=>?_) ht
 subst ex
 B3 rfl:u=Value.ref a:=rx
 &Nr I1 ea c hm l ?_
 &U7 (first:=[.ref a]) (h₀:=X.base) I.ok.mod.kin hm.kp (jA (ha pos pins s1 σ H1 _ I1 q) fun us s2 ⟨vs,H2,I2,r,q2⟩=>⟨I2.Im,?_⟩) hst hpl
 ~RQ (us:=.ref a::us) (vs:=.ref a::vs) F hr hb hd hx I2 (.cons rfl r) q2
B5 aAb{pl:Sem Bool}(he:PE X o ta)(c:zp X.K C)(hm:Meth X.K C m f)(F:zF X.prog X.w X.K X.mg X.base CX k f fd ps sp)(hr:jR k X.A)(hb:Binds X.K fd ps ds)(hd:Vals Ik ds)(hx:Passes CX X E)
  (ht:eval (.Call (.Attribute o m apos) [] [] pos) X.env=(do
   let ov ←eval o X.env
   standAt apos.atName
   let (f,first) ←holding [ov] (getMethod ov m pl)
   callWith pos f first (backTo pos (starEach [] X.env)) (backToKw pos (keywordEach [] X.env))):=by rfl) :
  PE X (.Call (.Attribute o m apos) [] [] pos) (Kz C m sp Ik E ta nG):=by
 intro pins s σ H Q I h
 &Z5 (pl:=pl) (jA (he pins s σ H _ I h) fun u s1 ⟨x,H1,I1,rx,a,dx,fs,ex,ea,l,q⟩=>?_) ht
 subst ex
 B3 rfl:u=Value.ref a:=rx
 &Nr I1 ea c hm l ?_
 ~PySem.W.callWith_K0 (first:=[.ref a]) I1.Im hm.kp (RQ (us:=[.ref a]) (vs:=[.ref a]) F hr hb hd hx I1 (.cons rfl .nil) q)
structure Mk(K:aF)(C f:Addr):Prop where
 makes:T6 K C=true
 init:F3 K (.ref C) "__init__" = some (some (.ref f))
 fn:O7 K (.ref f)=true
 kp:J9 K (.ref C)=true
B5 aAc{pins:List (Addr×Obj)}{σ:St}{H:Hp}{s:Shared}{Q:VK}{us:List Value}{vs:List V}(M:Mk X.K C f)(F:zF X.prog X.w X.K X.mg X.base CX k f fd ps sp)(hr:jR (k+1) X.A)(hb:Binds X.K fd ps ds)(hd:Vals Ik ds)
  (hx:Passes CX X E) (I:Inv X pins σ H s) (r:Vals vs us)
  (h:∀x dx,H x=none→H dx=none→dx≠x→sp (.ref x::(vs++Ik)) (upd (upd H dx (.own x)) x (.ins C dx [])) (fun v H2=>v=.non∧Q (.ref x) H2) E) :
  wpAny (model X.prog X.w) X.A (call (.ref C) us) (EP X pins σ Q) X.xe s:=by
 have hq:=h (s.heap.objs.size+1) s.heap.objs.size (I.hok.fresh (N5 _)) (I.hok.fresh (C6 _)) (E5 (M0 _))
 have I2:=Inv.made (C:=C) I
 have r2:Vals (V.ref (s.heap.objs.size+1)::(vs++Ik)) (Value.ref (s.heap.objs.size+1)::(us++ds)):=.cons rfl (r.append hd)
 have hl:(Value.ref (s.heap.objs.size+1)::us++ds).length=ps.length:=by
  have e:=r2.length
  rw[F.len _ _ _ _ hq]at e
  ~e.symm
 &wpAny_call (zm (f:=f) I.Im M.makes M.init (beq_iff_eq.mp M.fn) (codeAny_mono (F.run _ X.stack _ _ ⟨Value.ref (s.heap.objs.size+1)::us,[]⟩ (Value.ref (s.heap.objs.size+1)::(us++ds)) _ _ E (hr.make C us [])
  (I2.env0.make C us []) (hb _ (Value.ref (s.heap.objs.size+1)::us) I2.Im hl) r2 hq) fun r s' hq'=>?_))
 cases r with
 | error e=>~hx pins σ _ _ e s' I2 hq'
 | ok fl=>
  cases fl with
  | ret u=>
   B3⟨v,H',I3,rv,ev,q3⟩:=I2.after hq'
   subst ev
   ~⟨rv,⟨V.ref (s.heap.objs.size+1),H',I3,rfl,q3⟩⟩
  | next=>~False.elim hq'
  | brk=>~False.elim hq'
  | cont=>~False.elim hq'
B5 aCH(M:Mk X.K C f)(F:zF X.prog X.w X.K X.mg X.base CX k f fd ps sp)(hr:jR (k+1) X.A)(hg:Gl X x)(hm:X.mg x=some (.ref C))(hb:Binds X.K fd ps ds)(hd:Vals Ik ds)(hx:Passes CX X E)
  (ha:PA X (e::es) t) (hdb:(x==("__debug__" : Str))=false:=by decide) (he:starEach (e::es) X.env=(false,eval e X.env)::starEach es X.env:=by rfl) (hpl:(backTo pos (starEach es X.env)).any (·.1)=false:=by rfl) :
  PE X (.Call (.Name x p) (e::es) [] pos) (aEb C sp Ik E t):=by
 intro pins s σ H Q I h
 &wpAny_Call_Name_kw (Xa I hg hm ?_ hdb)
 &U7 (h₀:=X.base) I.ok.mod.kin M.kp (jA (ha pos pins s σ H _ I h) fun us s1 ⟨vs,H1,I1,r,q⟩=>⟨I1.Im,?_⟩) he hpl
 ~aAc M F hr hb hd hx I1 r q
end
section
variable{X:Cx}{CX:mj}{k:Nat}{f C:Addr}{fd:FuncData}{ps ks:List Str}{sp:Sp}{E:XK}{x m:Str}{p pos apos kpos:Pos}{e o:Expr}{es:List Expr}{kws:List Keyword}{te ta:TE}{t tk:TA}{nm:Option Str}
structure aI1(K:aF)(fd:FuncData)(ps ks:List Str)(g:List Value→List Value→List Value)(gV:List V→List V→List V):Prop where
 to:∀(s:Shared)(us ws:List Value),K.In s.heap→(g us ws).length=ps.length→BindsTo s fd ⟨us,ks.zip ws⟩ (ps.zip (g us ws))
 rel:∀{vs:List V} {us:List Value} {zs:List V} {ws:List Value},Vals vs us→Vals zs ws→Vals (gV vs zs) (g us ws)
variable{g:List Value→List Value→List Value}{gV:List V→List V→List V}
end
structure bB(N P:List Str)(sc:Scope):Prop where
 kind:sc.kind=.function
 co:sc.isCoroutine=false
 gen:sc.isGenerator=false
 nd:N.Nodup
 pre:N.take P.length=P
 par:∀x∈P,sc.names.lookup x=some .local∨sc.names.lookup x=some .cell
 aFq:∀y∈sc.names,y.2≠.free
B5 Uk{kindOf:Str→Option NameKind}{x:Str}:∀{binds:List (Str×Value)} {m:Str→Option Value},(∀v,(x,v)∉binds)→bindL kindOf binds m x=m x
 | [],_,_=>rfl
 | (n,v)::r,m,h=>by
  B4 bindL
  rw[Uk fun w hw=>h w (C8 _ hw)]
  split
  ·have:x≠n:=by rintro rfl;~h v D4
   simp[this]
  ·rfl
B5 Ul{kindOf:Str→Option NameKind}{x:Str}:∀{binds:List (Str×Value)} {m:Str→Option Value},(∀v,(x,v)∉binds)→bindC kindOf binds m x=m x
 | [],_,_=>rfl
 | (n,v)::r,m,h=>by
  B4 bindC
  rw[Ul fun w hw=>h w (C8 _ hw)]
  split
  ·rfl
  ·have:x≠n:=by rintro rfl;~h v D4
   simp[this]
B5 Um{kindOf:Str→Option NameKind}{x:Str}{v:Value}:∀{P:List Str} {vs:List Value} {i:Nat} {m:Str→Option Value},P.Nodup→P[i]?=some x→vs[i]?=some v→kindOf x=some .local →
  bindL kindOf (P.zip vs) m x=some v
 | [],_,_,_,_,h,_,_=>by simp at h
 | _::_,[],_,_,_,_,h,_=>by simp at h
 | p::P,w::vs,0,m,nd,h1,h2,hk=>by
  simp at h1 h2;subst h1;subst h2
  show bindL kindOf ((p,w)::P.zip vs) m p=_
  B4 bindL
  rw[Uk fun v hv=>(L5.mp nd).1 (Y0 hv).1,if_pos hk]
  simp
 | p::P,w::vs,i+1,m,nd,h1,h2,hk=>by
  show bindL kindOf ((p,w)::P.zip vs) m x=_
  B4 bindL
  ~Um (i:=i) (L5.mp nd).2 (by simpa using h1) (by simpa using h2) hk
B5 Uo{kindOf:Str→Option NameKind}{x:Str}{v:Value}:∀{P:List Str} {vs:List Value} {i:Nat} {m:Str→Option Value},P.Nodup→P[i]?=some x→vs[i]?=some v→kindOf x≠some .local →
  bindC kindOf (P.zip vs) m x=some v
 | [],_,_,_,_,h,_,_=>by simp at h
 | _::_,[],_,_,_,_,h,_=>by simp at h
 | p::P,w::vs,0,m,nd,h1,h2,hk=>by
  simp at h1 h2;subst h1;subst h2
  show bindC kindOf ((p,w)::P.zip vs) m p=_
  B4 bindC
  rw[Ul fun v hv=>(L5.mp nd).1 (Y0 hv).1,if_neg hk]
  simp
 | p::P,w::vs,i+1,m,nd,h1,h2,hk=>by
  show bindC kindOf ((p,w)::P.zip vs) m x=_
  B4 bindC
  ~Uo (i:=i) (L5.mp nd).2 (by simpa using h1) (by simpa using h2) hk
def start(N:List Str)(vs:List V):St:=vs.map some++E4 (N.length-vs.length) none
def Fv(CX:mj)(P:Program)(w:World)(K:aF)(mg:Str→Option Value)(base:Heap)(N:List Str)(qual:Str)(scope:Scope)(f:Addr)(cd:Value)(A:Around)(outer:List Env)(s:Shared)(H:Hp)(E:XK):Cx where
 prog:=P
 w:=w
 K:=K
 mg:=mg
 base:=base
 A:=A.deeper (envOfC qual scope s.heap.objs.size f cd)
 N:=N
 s₀:=s
 H₀:=H
 env:=envOfC qual scope s.heap.objs.size f cd
 outer:=outer
 stack:=envOfC qual scope s.heap.objs.size f cd::outer
 ex:=[]
 calm:=true
 fn:=fun _=>true
 pn:=[]
 xe:=fun e s'=>wpAny (model P w) (A.deeper (envOfC qual scope s.heap.objs.size f cd)) (leaving (envOfC qual scope s.heap.objs.size f cd) e) (fun _ s''=>CX outer H s E e s'') (fun e' s''=>CX outer H s E e' s'') s'
B5 FW{sc:Scope}{n:Nat}{x:Str}(h:sc.names.lookup x=some .cell):∃c,(cellsFrom n sc.names []).lookup x=some c:=by
 have q:=Y5 sc.names n [] (.inl h)
 ~W8.mp q
B5 mq{CX:mj}{P:Program}{w:World}{K:aF}{mg:Str→Option Value}{base:Heap}{N ps:List Str}{qual:Str}{scope:Scope}{f:Addr}{cd:Value}{A:Around}{outer:List Env}{s s1:Shared}{H:Hp}{E:XK}{us:List Value}{vs:List V}
  (S:bB N ps scope) (hd:A.handled=none) (e0:RP P w K mg base A outer s H) (hl:vs.length=ps.length) (r:Vals vs us)
  (x:InCallC s s.heap.objs.size (bindL (envOfC qual scope s.heap.objs.size f cd).kindOf (ps.zip us) fun _=>none) (cellsFrom (s.heap.objs.size+1) scope.names []) (bindC (envOfC qual scope s.heap.objs.size f cd).kindOf (ps.zip us) fun _=>none) s1) :
  Inv (Fv CX P w K mg base N qual scope f cd A outer s H E) [] (start N vs) H s1:=by
 have hpl:ps.length≤N.length:=by have:=congrArg j4 S.pre;rw[J0]at this;omega
 B3⟨h1,tk,rfl,hk⟩:=x.done
 have noA:∀b:Addr,b∉(Fv CX P w K mg base N qual scope f cd A outer s H E).ex:=fun b z=>absurd (show b∈([]:List Addr)from z) (by simp)
 &⟨⟨e0.mod,S.kind,rfl,rfl,C6 _,fun y z c h1 h2=>?_,fun y hy=>?_,fun y c _ h=>?_,fun _=>hd,Around.frames_deeper e0.frames,.inr ⟨rfl,rfl⟩,fun b z=>absurd z (noA b),e0.bs,e0.bsz,fun b _ _=>noA b,fun b z=>absurd z (noA b),e0.Lr,e0.frf⟩,
  rfl,e0.bare,Un.kept hk,⟨_,x.toInCall.ns,fun i y v h1 h2 h3=>?_⟩,fun y c h=>⟨_,x.cell y c h⟩,e0.hok.fresh (C6 _),fun y c h=>?_,fun p hp=>absurd (show p∈([]:List (Addr×Obj))from hp) (by simp),e0.hok.kept hk,?_⟩
 ·~name_of_addr x.apart (M9 h1) (M9 h2)
 ·have hy:scope.names.lookup y=some .cell∨scope.names.lookup y=some .free:=hy
  rcases hy with hy | hy
  ·~FW hy
  ·~absurd rfl (S.aFq _ (M9 hy))
 ·~O5 (x.above y c (M9 h))
 ·have hi:i<vs.length:=by
   B4 start at h2
   by_cases hi:i<vs.length
   ·~hi
   ·rw[N1 (by simpa using hi)]at h2
    rw[P4]at h2
    split at h2<;>cases h2
  have ha:vs[i]?=some v:=by
   B4 start at h2
   rw[G9 (by simpa using hi),B8]at h2
   cases e:vs[i]? with
   | none=>rw[e]at h2;cases h2
   | some a=>rw[e]at h2;cases h2;rfl
  B3⟨u,hu,rv⟩:=r.get ha
  have hp:ps[i]?=some y:=by
   rw[←S.pre,List.getElem?_take_of_lt A6];~h1
  have ndP:ps.Nodup:=by rw[←S.pre];~S.nd.sublist (O0 _ _)
  &⟨u,rv,?_⟩
  rcases S.par y (D9 hp)with k | k
  ·~.inl ⟨k,Um ndP hp hu k⟩
  ·B3⟨c,e⟩:=FW (n:=s.heap.objs.size+1) k
   &.inr ⟨.inl k,c,e,?_⟩
   have q:=x.cell y c e
   rw[Uo ndP hp hu (by show scope.names.lookup y≠_;rw[k];decide)]at q
   ~q
 ·~e0.hok.fresh (O5 (x.above y c (M9 h)))
 ·B4 start
  show _=N.length
  rw[C7,B7,P9]
  omega
B5 aAd{CX:mj}{P:Program}{w:World}{K:aF}{mg:Str→Option Value}{base:Heap}{k:Nat}{f:Addr}{name qual:Str}{params:Arguments}{body:List Stmt}{scope:Scope}{dV kV doc pm cdv ct oc:Value}{an od:Option Addr}
  {osl:Array (Option Value)} {N ps:List Str} {sp:Sp} (lk:K.lookup f=some ⟨oc,od,.func (F6 name qual params body scope dV kV doc pm an cdv ct),osl⟩) (hcd:K4 K cdv qual=true) (S:bB N ps scope)
  (len:∀vs H Q E,sp vs H Q E→vs.length=ps.length)
  (hbody:∀(A:Around)(outer:List Env)(s:Shared)(H:Hp)(vs:List V)(Q:VK)(E:XK),jR k (A.deeper (envOfC qual scope s.heap.objs.size f cdv))→sp vs H Q E →
   ∃t,DY (Fv CX P w K mg base N qual scope f cdv A outer s H E) body t∧t {nx:=fun _ H'=>Q .non H',rt:=Q} (start N vs) H) :
  zF P w K mg base CX (k+1) f (F6 name qual params body scope dV kV doc pm an cdv ct) ps sp:=by
 &⟨len,fun A outer s H args us vs Q E hr e0 hb r hsp=>?_⟩
 have hl:=len _ _ _ _ hsp
 have KX:K.In s.heap:=e0.mod.kin.keeps fun b o e=>(e0.bs b o e).1
 have lim:s.heap.NoLimit:=e0.mod.nolimit.keeps fun b o e=>(e0.bs b o e).1
 have hkind:∀y∈ps.zip us,scope.names.lookup y.1=some .local∨(scope.names.lookup y.1=some .cell∧((cellsFrom (s.heap.objs.size+1) scope.names []).lookup y.1).isSome=true):=fun⟨n,v⟩ hy=>by
  rcases S.par n (Y0 hy).1 with q | q
  ·~.inl q
  ·~.inr ⟨q,Y5 _ _ _ (.inl q)⟩
 &codeAny_call_function hr.depth (KX _ _ lk) rfl S.co S.gen rfl (PySem.W.codeRec_of KX hcd) (hb _ _ _ _ ?_)
 &wpAny_newFunctionEnv_cells S.kind hkind fun env he s1 x=>?_
 subst he
 &⟨lim.keeps x.toInCall.keep,codeAny_func ?_⟩
 B3⟨t,ht,hq⟩:=hbody A outer s H vs Q E (hr.deeper _) hsp
 have I:Inv (Fv CX P w K mg base N qual scope f cdv A outer s H E) [] (start N vs) H s1:=mq S hr.hd e0 hl r x
 &wpAny_mono (ht [] s1 (start N vs) H _ I hq) (fun fl s' hs=>?_) fun e s' hs=>hs
 have fin:∀{σ':St} {H':Hp} {v:V} {u:Value},Inv (Fv CX P w K mg base N qual scope f cdv A outer s H E) [] σ' H' s'→RelV v u→Q v H'→CE outer P w H s Q u s':=
  fun{σ' H' v u} J rv q=>⟨v,H',J.os,J.bare,J.base,J.hok,rv,q⟩
 cases fl with
 | ret u=>
  B3⟨v,σ',H',J,rv,q⟩:=hs
  ~fin J rv q
 | next=>
  B3⟨σ',H',J,q⟩:=hs
  ~fin (v:=V.non) (u:=Value.none) J rfl q
 | brk=>
  B3⟨_,_,_,q⟩:=hs
  ~False.elim q
 | cont=>
  B3⟨_,_,_,q⟩:=hs
  ~False.elim q
end L2
namespace L2
open PySem PySem.Spec PyProof.Rows
section
variable{X:Cx}{x:Str}{p pos:Pos}{e:Expr}{es:List Expr}{t:TA}{id T:String}{r:List V→Hp→VK→Prop}
def tCB(r:List V→Hp→VK→Prop)(t:TA):TE:=fun σ H Q=>t σ H fun vs H1=>r vs H1 Q
B5 FZ(hc:nF X (.builtin id) r)(hg:Gl X x)(hm:X.mg x=none)(hv:bootBuiltins x=some (.builtin id))(ha:PA X (e::es) t)(hn:x ≠ "__name__" := by decide) (hdb:(x==("__debug__" : Str))=false:=by decide)
  (he:starEach (e::es) X.env=(false,eval e X.env)::starEach es X.env:=by rfl) (hpl:(backTo pos (starEach es X.env)).any (·.1)=false:=by rfl):PE X (.Call (.Name x p) (e::es) [] pos) (tCB r t):=by
 intro pins s σ H Q I h
 &wpAny_Call_Name_kw (wN I hg hm hv ?_ hn hdb)
 ~T7 (jA (ha pos pins s σ H _ I h) fun us s1 ⟨vs,H1,I1,r1,q1⟩=>hc pins s1 σ H1 vs us Q I1 r1 q1) he hpl
B5 my(hc:nF X (.type T) r)(hg:Gl X x)(hm:X.mg x=none)(hv:bootBuiltins x=some (.type T))(ha:PA X (e::es) t)(hn:x ≠ "__name__" := by decide) (hdb:(x==("__debug__" : Str))=false:=by decide)
  (he:starEach (e::es) X.env=(false,eval e X.env)::starEach es X.env:=by rfl) (hpl:(backTo pos (starEach es X.env)).any (·.1)=false:=by rfl):PE X (.Call (.Name x p) (e::es) [] pos) (tCB r t):=by
 intro pins s σ H Q I h
 &wpAny_Call_Name_kw (wN I hg hm hv ?_ hn hdb)
 ~K8 (jA (ha pos pins s σ H _ I h) fun us s1 ⟨vs,H1,I1,r1,q1⟩=>hc pins s1 σ H1 vs us Q I1 r1 q1) he hpl
end
end L2
namespace HT
open PySem PyProof.Rows
B5 aAe(A:Around)(s:Shared)(a:Int)(t:Tok)(c:Int)(u:Tok)(prog:Program)(w:World)(E:Value→Shared→Prop)(Q:Value→Shared→Prop)(h:Q (.bool (decide (a<c))) s) :
  wpAny (model prog w) A (richCompare .Lt (.int a t) (.int c u)) Q E s:=
 (PyProof.Rows.lt_int h:wpAny (model prog w) A (compareOp .Lt (.int a t) (.int c u)) Q E s)
section
open PySem.SeqAt
open PySem.AutoSeq1 (wpAny_loadPart')
open PySem.MeetsSeq PySem.MeetsSeq2 PySem.MeetsSeq3
end
section
variable{prog:Program}{w:World}{A:Around}{E:Value→Shared→Prop}{s:Shared}
def Nt(n d:Nat):Option Int→Nat
 | none=>d
 | some v=>if v<0 then(v+(n:Int)).toNat else min v.toNat n
B5 aCI(n d k:Nat):Nt n d (some (k:Int))=min k n:=by
 show (if(k:Int)<0 then((k:Int)+(n:Int)).toNat else min (k:Int).toNat n)=min k n
 rw[if_neg A6,D7]
end
end HT
namespace L2
open PySem PySem.Spec PyProof.Rows
abbrev TO:=St→Hp→(Option Int→Hp→Prop)→Prop
def PO(X:Cx)(e:Option Expr)(t:TO):Prop:=
 ∀(pins:List (Addr×Obj))(s:Shared)(σ:St)(H:Hp)(Q:Option Int→Hp→Prop),Inv X pins σ H s→t σ H Q →
  wpAny (model X.prog X.w) X.A (evalPart e X.env) (fun u s'=>∃o H',Inv X pins σ H' s'∧IsPart u o∧Q o H') X.xe s
def ZV:TO:=fun _ H Q=>Q none H
def aEd(t:TE):TO:=fun σ H Q=>t σ H fun x H1=>∃i,x=.int i∧Q (some i) H1
B5 intsAre_of{ns:List Int}:∀{us:List Value},Vals (ns.map V.int) us→IntsAre us ns:=by
 induction ns with
 | nil=>intro us r;rw[J2]at r;cases r;~.nil
 | cons n ns ih=>
  intro us r
  rw[D3]at r
  cases r with
  | cons r1 r2=>
   B3⟨t,e⟩:=r1
   subst e
   ~.cons n t (ih r2)
section
variable{X:Cx}{e:Expr}{te:TE}{lo hi:Option Expr}{tl th:TO}{pos p2:Pos}
B5 aCJ:PO X none ZV:=by
 intro pins s σ H Q I h
 rw[evalPart_none]
 ~wpAny_pure ⟨none,H,I,.none,h⟩
B5 aCK(h:PE X e te):PO X (some e) (aEd te):=by
 intro pins s σ H Q I hw
 rw[evalPart_some]
 &jA (h pins s σ H _ I hw) fun u s1 ⟨x,H1,I1,r1,q1⟩=>?_
 B3⟨i,rfl,q⟩:=q1
 B3⟨t,rfl⟩:=r1
 ~⟨some i,H1,I1,.int i t,q⟩
def SlR(X:Cx)(r:V→Option Int→Option Int→Hp→VK→Prop):Prop:=
 ∀(pins:List (Addr×Obj))(s:Shared)(σ:St)(H:Hp)(x:V)(v vl vu:Value)(lo hi:Option Int)(sl:Addr)(Q:VK),Inv X pins σ H s→RelV x v→s.heap.IsSliceOf sl vl vu .none→IsPart vl lo→IsPart vu hi→r x lo hi H Q →
  ∃T id,typeLookup (.type T) "__getitem__" = pure (some (.builtin id))∧s.TypeIs v T∧wpAny (model X.prog X.w) X.A (getItem v (.ref sl)) (EP X pins σ Q) X.xe s
def tSl(r:V→Option Int→Option Int→Hp→VK→Prop)(te:TE)(tl th:TO):TE:=fun σ H Q=>te σ H fun x H1=>tl σ H1 fun l H2=>th σ H2 fun u H3=>r x l u H3 Q
B5 GC{r:V→Option Int→Option Int→Hp→VK→Prop}(hr:SlR X r)(he:PE X e te)(hl:PO X lo tl)(hu:PO X hi th):PE X (.Subscript e (.Slice lo hi none p2) pos) (tSl r te tl th):=by
 intro pins s σ H Q I h
 &Subscript_ (jA (he pins s σ H _ I h) fun v s1 ⟨x,H1,I1,r1,q1⟩=>?_)
 &wpAny_Slice (jA (hl pins s1 σ H1 _ I1 q1) fun vl s2 ⟨l,H2,I2,pl,q2⟩=>jA (hu pins s2 σ H2 _ I2 q2) fun vu s3 ⟨u,H3,I3,pu,q3⟩=>?_)
 rw[evalPart_none]
 &wpAny_pure ?_
 have I4:Inv X pins σ H3 {s3 with heap:=s3.heap.push {cls:=.type "slice", data:=.fields #[vl,vu,.none]}}:=I3.kept (t':=s3.toks) fun b ob q=>Heap.get?_push_of_some _ q
 B3⟨T,id,hT,ht,hg⟩:=hr pins {s3 with heap:=s3.heap.push {cls:=.type "slice", data:=.fields #[vl,vu,.none]}} σ H3 x v vl vu l u s3.heap.objs.size Q I4 r1 (Heap.IsSliceOf.new ..) pl pu q3
 show wpAny (model X.prog X.w) X.A (subscriptTail e (.Slice lo hi none p2) v (.ref s3.heap.objs.size)) (EP X pins σ Q) X.xe {s3 with heap:=s3.heap.push {cls:=.type "slice", data:=.fields #[vl,vu,.none]}}
 ~tail_any (ops:=[.ref s3.heap.objs.size,v]) ht hT hg (by with_unfolding_all rfl)
def RT(xs:List V)(lo hi:Option Int):List V:=(xs.drop (HT.Nt xs.length 0 lo)).take (HT.Nt xs.length xs.length hi-HT.Nt xs.length 0 lo)
B5 GD(xs:List V)(lo hi:Option Int):(RT xs lo hi).length≤xs.length:=by
 B4 RT
 rw[J0,O8]
 omega
end
end L2
namespace L2
open PySem PySem.Spec PyProof.Rows
def Up(n:Nat)(i:Int):Option Nat:=if 0≤i then(if i<n then some i.toNat else none)else if -(n:Int)≤i then some (i+n).toNat else none
def QZ{α:Type}(xs:List α)(i:Int):Option α:=(Up xs.length i).bind fun j=>xs[j]?
B5 ZW{n:Nat}{i:Int}{j:Nat}(h:Up n i=some j):seqIndex? i n=some j∧j<n∧-(n:Int)≤i∧i<n:=by
 B4 Up at h
 by_cases h0:0≤i
 ·rw[if_pos h0]at h
  by_cases h1:i<n
  ·rw[if_pos h1]at h
   have e:i.toNat=j:=F4 h
   ~⟨by rw[seqIndex_of h0 h1,e],by omega,by omega,h1⟩
  ·rw[if_neg h1]at h;cases h
 ·rw[if_neg h0]at h
  by_cases h1:-(n:Int)≤i
  ·rw[if_pos h1]at h
   have e:(i+n).toNat=j:=F4 h
   ~⟨by rw[seqIndex_neg A6 h1,e],by omega,h1,by omega⟩
  ·rw[if_neg h1]at h;cases h
B5 Xk{α:Type}{xs:List α}{i:Int}{v:α}(h:QZ xs i=some v):∃j,seqIndex? i xs.length=some j∧xs[j]?=some v∧j<xs.length∧-(xs.length:Int)≤i∧i<xs.length:=by
 B4 QZ at h
 cases e:Up xs.length i with
 | none=>rw[e]at h;cases h
 | some j=>
  rw[e]at h
  B3⟨h1,h2,h3,h4⟩:=ZW e
  ~⟨j,h1,h,h2,h3,h4⟩
B5 aCL{α:Type}{xs:List α}{j:Nat}{v:α}(h:xs[j]?=some v):QZ xs (j:Int)=some v:=by
 have hj:j<xs.length:=(D1.mp h).1
 have e:Up xs.length (j:Int)=some j:=by
  B4 Up
  rw[if_pos A6,if_pos A6];simp
 B4 QZ;rw[e];~h
def Xl(b:Expr):Prop:=∀o i,subscripted b false o i=operate [o,i] (getItem o i)
def IxR(X:Cx)(r:R2):Prop:=
 ∀(value slice:Expr)(pins:List (Addr×Obj))(s:Shared)(σ:St)(H:Hp)(x y:V)(v u:Value)(Q:VK),Inv X pins σ H s→RelV x v→RelV y u→r x y H Q →
  subscripted slice false v u=operate [v,u] (getItem v u)→wpAny (model X.prog X.w) X.A (subscriptTail value slice v u) (EP X pins σ Q) X.xe s
def MtR(X:Cx)(id:String)(r:V→List V→Hp→VK→Prop):Prop:=
 ∀(pins:List (Addr×Obj))(s:Shared)(σ:St)(H:Hp)(x:V)(xs:List V)(v:Value)(us:List Value)(Q:VK),Inv X pins σ H s→RelV x v→Vals xs us→r x xs H Q →
  wpAny (model X.prog X.w) X.A (call (.builtin id) (v::us)) (EP X pins σ Q) X.xe s
section
variable{X:Cx}{a b:Expr}{ta tb:TE}{pos:Pos}
B5 IxR.or{r r':R2}(h:IxR X r)(h':IxR X r'):IxR X (fun x y H Q=>r x y H Q∨r' x y H Q):=by
 intro value slice pins s σ H x y v u Q I rx ry q hs
 rcases q with q | q
 ·~h value slice pins s σ H x y v u Q I rx ry q hs
 ·~h' value slice pins s σ H x y v u Q I rx ry q hs
B5 aEe{r:R2}(hr:IxR X r)(ha:PE X a ta)(hb:PE X b tb)(hs:Xl b):PE X (.Subscript a b pos) (CW r ta tb):=by
 intro pins s σ H Q I h
 ~Subscript_ (aFf ha hb I h fun v u s2 x y H2 I2 rx ry q=>hr a b pins s2 σ H2 x y v u Q I2 rx ry q (hs _ _))
def aHr(K:aF):R2:=fun x y H Q=>∃p xs i v,x=.ref p∧y=.int i∧pK K H p xs∧QZ xs i=some v∧Q v H
def aHs(K:aF):R2:=fun x y H Q=>∃p xs i v,x=.ref p∧y=.int i∧zO K H p xs∧QZ xs i=some v∧Q v H
def aHt:R2:=fun x y H Q=>∃z i c,x=.str z∧y=.int i∧z.length≤sizeLine∧QZ z.cps.toList i=some c∧Q (.str ⟨#[c]⟩) H
B5 aCM:IxR X (aHr X.K):=by
 intro value slice pins s σ H x y v u Q I rx ry h hs
 B3⟨p,xs,i,z,rfl,rfl,hq,he,q⟩:=h
 cases rx
 B3⟨t,rfl⟩:=ry
 B3⟨its,r,pl,hz⟩:=I.list hq
 B3⟨j,h1,h2,h3,h4,h5⟩:=Xk he
 B3⟨w,ew,Sv⟩:=r.get h2
 have hl:=r.length
 have hn:=Nq
 have fin:EP X pins σ Q w s:=⟨z,H,I,Sv,q⟩
 by_cases h0:0≤i
 ·have hj:i.toNat=j:=by
   rw[seqIndex_of h0 h5]at h1
   ~F4 h1
  ~item_listR pl.isList h0 A6 (by rw[hj];simpa using ew) fin hs
 ·have hj:(i+(its.toArray.size:Int)).toNat=j:=by
   rw[seqIndex_neg A6 h4]at h1
   rw[C5,←hl]
   ~F4 h1
  ~subscriptTail_builtinR (x:=w) pl.isList.typeIs slot_list_getitem.lookup
   (wpAny_getItem_list_neg (Q:=fun r s'=>r=w∧EP X pins σ Q r s') pl.isList A6 (by rw[C5]<;>omega) A6 (by rw[hj];simpa using ew) ⟨rfl,fin⟩) hs
B5 aFr:IxR X (aHs X.K):=by
 intro value slice pins s σ H x y v u Q I rx ry h hs
 B3⟨p,xs,i,z,rfl,rfl,hq,he,q⟩:=h
 cases rx
 B3⟨t,rfl⟩:=ry
 B3⟨its,r,pl,hz⟩:=I.tuple hq
 B3⟨j,h1,h2,h3,h4,h5⟩:=Xk he
 B3⟨w,ew,Sv⟩:=r.get h2
 have hl:=r.length
 have hn:=Nq
 have fin:EP X pins σ Q w s:=⟨z,H,I,Sv,q⟩
 ~subscriptTail_builtinR (x:=w) pl.typeIs slot_tuple_getitem.lookup
  (getItem_tuple (j:=j) (Q:=fun r s'=>r=w∧EP X pins σ Q r s') pl A6 A6 (by rw[C5,←hl];~h1) (by simpa using ew) ⟨rfl,fin⟩) hs
B5 aFs:IxR X aHt:=by
 intro value slice pins s σ H x y v u Q I rx ry h hs
 B3⟨z,i,c,rfl,rfl,hz,he,q⟩:=h
 B3⟨t,rfl⟩:=rx
 B3⟨t',rfl⟩:=ry
 B3⟨j,h1,h2,h3,h4,h5⟩:=Xk he
 have hl:z.cps.toList.length=z.length:=by simp[Str.length]
 rw[hl]at h1 h4 h5
 have hn:=Nq
 ~tail_any (typeIs_str s z t) slot_str_getitem.lookup (getItem_str (c:=c) (by
  have e1:decide (i < -(2 ^ 63:Int))=false:=decide_eq_false A6
  have e2:decide (i≥2 ^ 63)=false:=decide_eq_false A6
  rw[e1,e2,o7]) (by rw[h1];simpa using h2) ⟨.str ⟨#[c]⟩,H,I.tok _,⟨_,rfl⟩,q⟩) hs
def rIx(K:aF):R2:=fun x y H Q=>aHr K x y H Q∨aHs K x y H Q∨aHt x y H Q
B5 aFt:IxR X (rIx X.K):=aCM.or (aFr.or aFs)
B5 RV(its:List Value)(n j:Nat)(u:Value):Obj.mapSeq (·.setIfInBounds j u) {cls:=.type "list", data:=.seq its.toArray n}={cls:=.type "list", data:=.seq (its.set j u).toArray n}:=by
 simp[Obj.mapSeq]
B5 Inv.lst{pins:List (Addr×Obj)}{σ:St}{H:Hp}{s:Shared}{p:Addr}{xs:List V}(I:Inv X pins σ H s)(h:H p=some (.lst xs)) :
  ∃(its:List Value)(n:Nat),Vals xs its∧s.heap.get? p=some {cls:=.type "list", data:=.seq its.toArray n}∧xs.length≤sizeLine:=by
 B3⟨z,its,n,r,e⟩:=I.hok p _ h
 ~⟨its,n,r,e,z⟩
B5 Inv.aFu{pins:List (Addr×Obj)}{σ:St}{H:Hp}{s:Shared}{p:Addr}{xs ys:List V}{its its':List Value}{n n':Nat}{f:Obj→Obj}(I:Inv X pins σ H s)(h:H p=some (.lst xs))
  (ho:s.heap.get? p=some {cls:=.type "list", data:=.seq its.toArray n}) (hf:f {cls:=.type "list", data:=.seq its.toArray n}={cls:=.type "list", data:=.seq its'.toArray n'}) (r:Vals ys its') (hz:ys.length≤sizeLine) (t:Nat) :
  Inv X pins σ (upd H p (.lst ys)) {s with heap:=s.heap.update p f,toks:=t}:=by
 have e:(s.heap.update p f).get? p=some {cls:=.type "list", data:=.seq its'.toArray n'}:=by
  rw[Heap.get?_update_self f ho (by rw[hf]<;>rfl),hf]
 &I.write (x:=p) (e:=p) (by rw[h];trivial) (.inl rfl) (fun b u hb q=>(Heap.get?_update_other _ _ (Ne.symm hb)).trans q) ⟨_,e⟩ ?_
 ~⟨hz,its',n',r,e⟩
def Fw:V→V→V→Hp→(Hp→Prop)→Prop:=fun o i v H Q=>∃p xs k j,o=.ref p∧i=.int k∧H p=some (.lst xs)∧Up xs.length k=some j∧Q (upd H p (.lst (xs.set j v)))
B5 set_list:aHg X Fw:=by
 intro pins s σ H o i v ov iv u Q I ro ri rv h
 B3⟨p,xs,k,j,rfl,rfl,hp,hj,q⟩:=h
 cases ro
 B3⟨t,rfl⟩:=ri
 B3⟨its,n,r,ho,hz⟩:=I.lst hp
 B3⟨h1,h2,h3,h4⟩:=ZW hj
 have hl:=r.length
 have hn:=Nq
 have I':Inv X pins σ (upd H p (.lst (xs.set j v))) {s with heap:=s.heap.update p (Obj.mapSeq (·.setIfInBounds j u))}:=
  I.aFu hp ho (RV its n j u) (r.set rv j) (by rw[J5];~hz) s.toks
 by_cases h0:0≤k
 ·have hk:k.toNat=j:=by
   rw[seqIndex_of h0 h4]at h1
   ~F4 h1
  ~PySem.W.ki_setAt ho h0 A6 (by rw[C5,←hl];~h4) (by rw[hk];~⟨_,I',q⟩)
 ·have hk:(k+(its.toArray.size:Int)).toNat=j:=by
   rw[seqIndex_neg A6 h3]at h1
   rw[C5,←hl]
   ~F4 h1
  ~PySem.W.ki_setBack ho A6 (by rw[C5,←hl];~h3) A6 (by rw[hk];~⟨_,I',q⟩)
B5 Xm(lo hi:Option Int)(n:Nat):(sliceBounds lo hi none n).1=((HT.Nt n 0 lo:Nat):Int)∧(sliceBounds lo hi none n).2.1=((HT.Nt n n hi:Nat):Int)∧(sliceBounds lo hi none n).2.2=1:=by
 &⟨?_,?_,rfl⟩
 ·cases lo with
  | none=>simp[sliceBounds,HT.Nt]
  | some i=>
   simp only[sliceBounds,HT.Nt,j6,show (1:Int) > 0 by decide,if_true]
   by_cases h:i<0
   ·simp only[h,if_true]<;>omega
   ·simp only[h,if_false]<;>omega
 ·cases hi with
  | none=>simp[sliceBounds,HT.Nt]
  | some i=>
   simp only[sliceBounds,HT.Nt,j6,show (1:Int) > 0 by decide,if_true]
   by_cases h:i<0
   ·simp only[h,if_true]<;>omega
   ·simp only[h,if_false]<;>omega
B5 Sw(its:List Value)(lo hi:Option Int):slicePick its.toArray lo hi none=((its.drop (HT.Nt its.length 0 lo)).take (HT.Nt its.length its.length hi-HT.Nt its.length 0 lo)).toArray:=by
 B3⟨h1,h2,h3⟩:=Xm lo hi its.toArray.size
 B4 slicePick
 rw[h1,h2,h3]
 simp only[sliceRange_one,pick_run,C5]<;>rfl
def aCN(K:aF):V→Option Int→Option Int→Hp→VK→Prop:=fun x lo hi H Q=>∃a xs,x=.ref a∧pK K H a xs∧∀p,H p=none→Q (.ref p) (upd H p (.lst (RT xs lo hi)))
B5 aCO:SlR X (aCN X.K):=by
 intro pins s σ H x v vl vu lo hi sl Q I rx hs pl pu h
 B3⟨a,xs,rfl,hx,q⟩:=h
 cases rx
 B3⟨its,r,ht,hz⟩:=I.list hx
 have hlen:=r.length
 &⟨"list", _,slot_list_getitem.lookup,ht.isList.typeIs,?_⟩
 &wpAny_getItem_list_slice ht.isList hs pl pu .none (by simp) ?_ (by rw[C5]<;>omega)
 rw[Sw,←hlen]
 &⟨.ref s.heap.objs.size,_,I.laid (t':=s.toks) (o:=.lst (RT xs lo hi)) (fun b ob q=>Heap.get?_push_of_some _ q) (C6 _) ?_,rfl,q _ (I.hok.fresh (C6 _))⟩
 ~⟨G2 (GD xs lo hi) hz,_,0,(r.drop (HT.Nt xs.length 0 lo)).take (HT.Nt xs.length xs.length hi-HT.Nt xs.length 0 lo),Heap.get?_push_size _ rfl⟩
def zQ:V→Bool
 | .non=>true
 | .bl _=>true
 | .int _=>true
 | .str _=>true
 | _=>false
def eqV:V→V→Bool
 | .non,.non=>true
 | .bl a,.bl b=>a==b
 | .bl a,.int b=>(if a then 1 else 0)==b
 | .int a,.bl b=>a==(if b then 1 else 0)
 | .int a,.int b=>a==b
 | .str a,.str b=>a==b
 | _,_=>false
B5 aFv{A:Around}{s:Shared}{y x:V}{u v:Value}(ry:RelV y u)(rx:RelV x v)(fy:zQ y=true)(fx:zQ x=true):SeqAt.EqAt A s u v (eqV y x):=by
 cases y with
 | non=>
  cases ry
  cases x with
  | non=>cases rx;~SeqAt.EqAt.same _
  | bl b=>cases rx;~SeqAt.EqAt.none_bool b
  | int b=>B3⟨t,rfl⟩:=rx;~SeqAt.EqAt.none_int b t
  | str b=>B3⟨t,rfl⟩:=rx;~SeqAt.EqAt.none_str b t
  | _=>~absurd (show false=true from fx) E2
 | bl a=>
  cases ry
  cases x with
  | non=>cases rx;~SeqAt.EqAt.bool_none a
  | bl b=>cases rx;~SeqAt.EqAt.bool_bool a b
  | int b=>B3⟨t,rfl⟩:=rx;~SeqAt.EqAt.bool_int a b t
  | str b=>B3⟨t,rfl⟩:=rx;~SeqAt.EqAt.bool_str a b t
  | _=>~absurd (show false=true from fx) E2
 | int a=>
  B3⟨t',rfl⟩:=ry
  cases x with
  | non=>cases rx;~SeqAt.EqAt.int_none a t'
  | bl b=>cases rx;~SeqAt.EqAt.int_bool a t' b
  | int b=>B3⟨t,rfl⟩:=rx;~SeqAt.EqAt.int_int a t' b t
  | str b=>B3⟨t,rfl⟩:=rx;~SeqAt.EqAt.int_str a t' b t
  | _=>~absurd (show false=true from fx) E2
 | str a=>
  B3⟨t',rfl⟩:=ry
  cases x with
  | non=>cases rx;~SeqAt.EqAt.str_none a t'
  | bl b=>cases rx;~SeqAt.EqAt.str_bool a t' b
  | int b=>B3⟨t,rfl⟩:=rx;~SeqAt.EqAt.str_int a t' b t
  | str b=>B3⟨t,rfl⟩:=rx;~SeqAt.EqAt.str_str a t' b t
  | _=>~absurd (show false=true from fx) E2
 | _=>~absurd (show false=true from fy) E2
def Xn(x:V)(u:Value):Bool:=match u with
 | .none=>eqV .non x
 | .bool b=>eqV (.bl b) x
 | .int i _=>eqV (.int i) x
 | .str z _=>eqV (.str z) x
 | _=>false
B5 aAf{x y:V}{u:Value}(r:RelV y u)(f:zQ y=true):Xn x u=eqV y x:=by
 cases y with
 | non=>cases r;rfl
 | bl b=>cases r;rfl
 | int i=>B3⟨t,rfl⟩:=r;rfl
 | str z=>B3⟨t,rfl⟩:=r;rfl
 | _=>~absurd (show false=true from f) E2
B5 Fx{x:V}:∀{xs:List V} {us:List Value},Vals xs us→xs.all zQ=true→us.any (Xn x)=xs.any fun y=>eqV y x
 | _,_,.nil,_=>rfl
 | y::xs,u::us,.cons r t,f=>by
  rw[o8,J7]at f
  rw[S5,S5,aAf r f.1,Fx t f.2]
B5 zR{A:Around}{s:Shared}{x:V}{v:Value}(rx:RelV x v)(fx:zQ x=true):∀{xs:List V} {us:List Value},Vals xs us→xs.all zQ=true→∀u∈us,SeqAt.EqAt A s u v (Xn x u)
 | _,_,.nil,_=>fun u hu=>by cases hu
 | y::xs,u::us,.cons r t,f=>fun u' hu=>by
  rw[o8,J7]at f
  rcases C9.mp hu with rfl | hu
  ·rw[aAf r f.1];~aFv r rx f.1 fx
  ·~zR rx fx t f.2 u' hu
def inV(x:V)(xs:List V):Bool:=xs.any fun y=>eqV y x
def rIn(K:aF)(neg:Bool):R2:=fun x y H Q=>∃p xs,y=.ref p∧(pK K H p xs∨zO K H p xs)∧zQ x=true∧xs.all zQ=true∧Q (.bl (if neg then !inV x xs else inV x xs)) H
B5 mz:wM X (compareOp .In) (rIn X.K false):=by
 intro pins s σ H x y v u Q I rx ry h
 B3⟨p,xs,rfl,hq,fx,fs,q⟩:=h
 cases ry
 rcases hq with hq | hq
 ·B3⟨its,r,pl,hz⟩:=I.list hq
  &SeqAt.in_listAt (Xn x) pl.isList (fun w hw=>zR rx fx r fs w (by simpa using hw)) ⟨.bl _,H,I,rfl,?_⟩
  rw[show its.toArray.any (Xn x)=its.any (Xn x) by simp,Fx r fs]
  ~q
 ·B3⟨its,r,pl,hz⟩:=I.tuple hq
  &SeqAt.in_tupleAt (Xn x) pl (fun w hw=>zR rx fx r fs w (by simpa using hw)) ⟨.bl _,H,I,rfl,?_⟩
  rw[show its.toArray.any (Xn x)=its.any (Xn x) by simp,Fx r fs]
  ~q
B5 Xo:wM X (compareOp .NotIn) (rIn X.K true):=by
 intro pins s σ H x y v u Q I rx ry h
 B3⟨p,xs,rfl,hq,fx,fs,q⟩:=h
 cases ry
 rcases hq with hq | hq
 ·B3⟨its,r,pl,hz⟩:=I.list hq
  &SeqAt.notIn_listAt (Xn x) pl.isList (fun w hw=>zR rx fx r fs w (by simpa using hw)) ⟨.bl _,H,I,rfl,?_⟩
  rw[show its.toArray.any (Xn x)=its.any (Xn x) by simp,Fx r fs]
  ~q
 ·B3⟨its,r,pl,hz⟩:=I.tuple hq
  &SeqAt.notIn_tupleAt (Xn x) pl (fun w hw=>zR rx fx r fs w (by simpa using hw)) ⟨.bl _,H,I,rfl,?_⟩
  rw[show its.toArray.any (Xn x)=its.any (Xn x) by simp,Fx r fs]
  ~q
B5 Xp:nF X (.builtin "len") (fun xs H Q=>∃p ys,xs=[.ref p]∧(pK X.K H p ys∨zO X.K H p ys)∧Q (.int ys.length) H):=by
 intro pins s σ H xs us Q I r h
 B3⟨p,ys,rfl,hq,q⟩:=h
 B3⟨u,rfl,rx⟩:=vals1 r
 cases rx
 have hn:=Nq
 rcases hq with hq | hq
 ·B3⟨its,r',pl,hz⟩:=I.list hq
  have hlen:=r'.length
  ~Calls.call_len_list pl.isList (by simp only[C5]<;>omega) ⟨.int ys.length,H,I.tok _,⟨s.toks+1,by rw[C5,hlen]⟩,q⟩
 ·B3⟨its,r',pl,hz⟩:=I.tuple hq
  have hlen:=r'.length
  ~len_tuple pl (by simp only[C5]<;>omega) ⟨.int ys.length,H,I.tok _,⟨s.toks+1,by rw[C5,hlen]⟩,q⟩
B5 Xq:nF X (.type "list") (fun xs H Q=>∃p ys,xs=[.ref p]∧(pK X.K H p ys∨zO X.K H p ys)∧∀l,H l=none→Q (.ref l) (upd H l (.lst ys))):=by
 intro pins s σ H xs us Q I r h
 B3⟨p,ys,rfl,hq,q⟩:=h
 B3⟨u,rfl,rx⟩:=vals1 r
 cases rx
 have fin:∀(its:List Value),Vals ys its→ys.length≤sizeLine→∀(h':Heap)(c':Nat),(∀b o',s.heap.get? b=some o'→h'.get? b=some o') →
   h'.get? s.heap.objs.size=some {cls:=.type "list", dict:=none,data:=.seq its.toArray c',slots:=#[]}→EP X pins σ Q (.ref s.heap.objs.size) {s with heap:=h'}:=fun its r' hz h' c' kp e=>
  ⟨.ref s.heap.objs.size,_,I.laid (t':=s.toks) kp (C6 _) (show jG X.prog X.w _ h' _ (.lst ys)from⟨hz,its,c',r',e⟩),rfl,q _ (I.hok.fresh (C6 _))⟩
 rcases hq with hq | hq
 ·B3⟨its,r',pl,hz⟩:=I.list hq
  have hlen:=r'.length
  B3⟨o,ho,hc,n,hd⟩:=pl.isList
  ~call_list_seq p (.inl rfl) ho hc hd (fun h' c' kp e=>fin its r' hz h' c' kp e) (by simp only[C5]<;>omega)
 ·B3⟨its,r',pl,hz⟩:=I.tuple hq
  have hlen:=r'.length
  B3⟨o,ho,hc,n,hd⟩:=pl
  ~call_list_seq p (.inr rfl) ho hc hd (fun h' c' kp e=>fin its r' hz h' c' kp e) (by simp only[C5]<;>omega)
B5 Sx:nF X (.type "tuple") (fun xs H Q=>∃p ys,xs=[.ref p]∧((pK X.K H p ys∧∀l,H l=none→Q (.ref l) (upd H l (.tup ys)))∨(zO X.K H p ys∧Q (.ref p) H))):=by
 intro pins s σ H xs us Q I r h
 B3⟨p,ys,rfl,h⟩:=h
 B3⟨u,rfl,rx⟩:=vals1 r
 cases rx
 rcases h with ⟨hq,q⟩ | ⟨hq,q⟩
 ·B3⟨its,r',pl,hz⟩:=I.list hq
  have hlen:=r'.length
  &call_tuple_list pl.isList (fun h' kp=>?_) (by simp only[C5]<;>omega)
  have I1:Inv X pins σ H {s with heap:=h'}:=I.kept (t':=s.toks) kp
  have I2:Inv X pins σ (upd H h'.objs.size (.tup ys)) {s with heap:=h'.push {cls:=.type "tuple", data:=.seq its.toArray}}:=
   I1.laid (t':=s.toks) (fun b o e=>Heap.get?_push_of_some _ e) (C6 _) (show jG X.prog X.w _ _ _ (.tup ys)from⟨hz,its,r',IsTup.new _ _⟩)
  ~⟨.ref h'.objs.size,_,I2,rfl,q _ (I1.hok.fresh (C6 _))⟩
 ·B3⟨its,r',pl,hz⟩:=I.tuple hq
  ~call_tuple_same pl ⟨.ref p,H,I,rfl,q⟩
def tyV(K:aF)(T:String)(x:V)(H:Hp):Prop:=match x with
 | .str _=>T = "str"
 | .int _=>T = "int"
 | .ref p=>(T = "list" ∧ ∃xs,pK K H p xs)∨(T = "tuple" ∧ ∃o,K.lookup p=some o∧o.cls=.type "tuple" ∧ o.dict=none) ∨
   (T = "dict" ∧ ((∃kvs,H p=some (.dK kvs))∨∃kvs,H p=some (.dT kvs)))∨(T = "set" ∧ ∃S n,H p=some (.set S n))
 | _=>False
B5 aFw{pins:List (Addr×Obj)}{σ:St}{H:Hp}{s:Shared}{T:String}{x:V}{v:Value}(I:Inv X pins σ H s)(r:RelV x v)(ty:tyV X.K T x H) :
  s.TypeIs v T∧∀a,v=.ref a→∃ob,s.heap.get? a=some ob∧ob.dict=none:=by
 cases x with
 | str z=>
  B3⟨t,rfl⟩:=r
  cases(show T = "str" from ty)
  ~⟨typeIs_str s z t,fun _ e=>nomatch e⟩
 | int i=>
  B3⟨t,rfl⟩:=r
  cases(show T = "int" from ty)
  ~⟨typeIs_int s i t,fun _ e=>nomatch e⟩
 | ref p=>
  cases r
  rcases ty with ⟨rfl,xs,hq⟩ | ⟨rfl,o,hk,hc,hd⟩ | ⟨rfl,hk⟩ | ⟨rfl,S,n,hk⟩
  ·B3⟨its,_,pl,_⟩:=I.list hq
   &⟨pl.isList.typeIs,fun a e=>?_⟩
   cases e
   B3⟨o,n,e,c,hd,_⟩:=pl
   ~⟨o,e,hd⟩
  ·&⟨⟨o,I.Im p o hk,hc⟩,fun a e=>?_⟩
   cases e
   ~⟨o,I.Im _ o hk,hd⟩
  ·have z:∃o,s.heap.get? p=some o∧o.ExactDict:=by
    rcases hk with ⟨kvs,hk⟩ | ⟨kvs,hk⟩
    ·B3⟨_,_,_,_,o,_,_,e,ex,_⟩:=I.hok p _ hk
     ~⟨o,e,ex⟩
    ·B3⟨_,_,_,_,o,_,_,e,ex,_⟩:=I.hok p _ hk
     ~⟨o,e,ex⟩
   B3⟨o,e,ex⟩:=z
   &⟨⟨o,e,ex.1⟩,fun a e2=>?_⟩
   cases e2
   ~⟨o,e,ex.2.1⟩
  ·B3⟨o,_,_,_,e,ex,_⟩:=I.hok p _ hk
   &⟨⟨o,e,ex.1⟩,fun a e2=>?_⟩
   cases e2
   ~⟨o,e,ex.2.1⟩
 | _=>~False.elim ty
def Nu(K:aF)(T:String)(r:V→List V→Hp→VK→Prop)(to:TE)(t:TA):TE:=fun σ H Q=>to σ H fun x H1=>tyV K T x H1∧t σ H1 fun xs H2=>r x xs H2 Q
variable{o e:Expr}{es:List Expr}{to:TE}{t:TA}{name:Str}{apos cpos:Pos}{T id:String}{r:V→List V→Hp→VK→Prop}
B5 uG(pa:PlainAttrs T)(slot:Slot T name id)(hty:typeOf (.builtin id)=pure (.type "method_descriptor")) (hm:MtR X id r) (ho:PE X o to) (ha:PA X (e::es) t)
  (hbase:attributeBase o name X.env (eval o X.env)=eval o X.env:=by rfl)
  (hfew:((backTo cpos (starEach (e::es) X.env)).all (fun x=>!x.1)&&(backToKw cpos (keywordEach [] X.env)).all (fun x=>x.1.isSome)
   && decide ((e::es).length+([]:List Keyword).length+(if([]:List Keyword).isEmpty then 0 else 1)<30))=true:=by rfl)
  (hline:(apos.endLine==cpos.line)=true:=by rfl) (hs:starEach (e::es) X.env=(false,eval e X.env)::starEach es X.env:=by rfl) (hplain:(backTo cpos (starEach es X.env)).any (·.1)=false:=by rfl) :
  PE X (.Call (.Attribute o name apos) (e::es) [] cpos) (Nu X.K T r to t):=by
 intro pins s σ H Q I h
 &wpAny_Call_method_late hbase hfew hline rfl (jA (ho pins s σ H _ I h) fun v s1 ⟨x,H1,I1,r1,ty,q1⟩=>?_)
 B3⟨h1,h2⟩:=aFw I1 r1 ty
 &⟨T,id,pa,slot,hty,h1,h2,?_⟩
 have hA:=ha cpos pins s1 σ H1 _ I1 q1
 rw[hs]at hA ⊢
 &Calls.callWith_builtin (by show (false||(backTo cpos (starEach es X.env)).any (·.1))=false;rw[hplain]<;>rfl) (Calls.evalArgs_plain ?_)
 ~jA hA fun us s2 ⟨vs,H2,I2,r2,q2⟩=>hm pins s2 σ H2 x vs v us Q I2 r1 r2 q2
end
end L2
namespace L2
open PySem PySem.Spec PyProof.Rows
def MtM(X:Cx)(id:String)(r:V→List V→Hp→VK→Prop):Prop:=
 ∀(pins:List (Addr×Obj))(s:Shared)(σ:St)(H:Hp)(x:V)(xs:List V)(v:Value)(us:List Value)(Q:VK),Inv X pins σ H s→RelV x v→Vals xs us→r x xs H Q →
  wpAny (model X.prog X.w) X.A (call (.builtin id) (v::us)) (EP X pins σ Q) X.xe s
B5 Vals.one:∀{x:V} {us:List Value},Vals [x] us→∃u,us=[u]∧RelV x u
 | _,_,.cons r .nil=>⟨_,rfl,r⟩
B5 Vals.two:∀{x y:V} {us:List Value},Vals [x,y] us→∃u v,us=[u,v]∧RelV x u∧RelV y v
 | _,_,_,.cons r (.cons q .nil)=>⟨_,_,rfl,r,q⟩
B5 Vals.eraseIdx:∀{xs:List V} {us:List Value} (i:Nat),Vals xs us→Vals (xs.eraseIdx i) (us.eraseIdx i)
 | _,_,_,.nil=>.nil
 | _,_,0,.cons _ t=>t
 | _,_,i+1,.cons r t=>.cons r (Vals.eraseIdx i t)
B5 Ir{α:Type}:∀(l:List α)(i:Nat),(l.eraseIdx i).length≤l.length
 | [],_=>C6 _
 | _::_,0=>N5 _
 | _::r,i+1=>W9 (Ir r i)
section
variable{X:Cx}{pins:List (Addr×Obj)}{σ:St}{H:Hp}{s:Shared}{l b:Addr}{xs ys zs:List V}
B5 Inv.aCP{its its':List Value}{n:Nat}{f:Array Value→Array Value}{t':Nat}(I:Inv X pins σ H s)(hH:H l=some (.lst xs))
  (e:s.heap.get? l=some {cls:=.type "list", data:=.seq its.toArray n}) (hf:f its.toArray=its'.toArray) (hv:Vals ys its') (hz:ys.length≤sizeLine) :
  Inv X pins σ (upd H l (.lst ys)) {s with heap:=s.heap.update l (Obj.mapSeq f),toks:=t'}:=by
 have q:=PySem.IsL.update e f
 rw[hf]at q
 &I.write (x:=l) (e:=l) (by rw[hH];~trivial) (.inl rfl) (fun b' u hb hu=>(Heap.get?_update_other s.heap (Obj.mapSeq f) (Ne.symm hb)).trans hu) ⟨_,q⟩ ?_
 ~⟨hz,its',_,hv,q⟩
B5 Inv.aHw{its:List Value}{t':Nat}(I:Inv X pins σ H s)(hv:Vals ys its)(hz:ys.length≤sizeLine) :
  Inv X pins σ (upd H s.heap.objs.size (.lst ys)) {s with heap:=s.heap.push {cls:=.type "list", data:=.seq its.toArray},toks:=t'}:=
 I.laid (fun _ _ q=>Heap.get?_push_of_some _ q) (C6 _) ⟨hz,its,0,hv,Heap.get?_push_size _ rfl⟩
B5 Inv.fresh(I:Inv X pins σ H s):H s.heap.objs.size=none:=I.hok.fresh (C6 _)
B5 Inv.aCQ(I:Inv X pins σ H s)(hH:H l=some (.lst xs)):xs.length≤sizeLine∧∃(its:List Value)(n:Nat),Vals xs its∧xs.length=its.length∧s.heap.get? l=some {cls:=.type "list", data:=.seq its.toArray n}:=by
 B3⟨z,its,n,r,e⟩:=I.hok l _ hH
 ~⟨z,its,n,r,r.length,e⟩
end
section
variable{X:Cx}
def nT:V→List V→Hp→VK→Prop:=fun x vs H Q=>∃l xs y,x=.ref l∧vs=[y]∧H l=some (.lst xs)∧xs.length<sizeLine∧Q .non (upd H l (.lst (xs++[y])))
B5 mJ:MtM X "list.append" nT:=by
 intro pins s σ H x vs v us Q I rx rv h
 B3⟨l,xs,y,rfl,rfl,hH,hz,q⟩:=h
 cases rx
 B3⟨u,rfl,ru⟩:=rv.one
 B3⟨z,its,n,r,hl,e⟩:=I.aCQ hH
 &call_meets F.slot_list_append ⟨_,e,rfl⟩ F.entry_list_append (F.args_list_append_2 _ _) (PySem.list_append l its.toArray n u (by rw[C5];omega)) ⟨e,?_⟩
 &⟨.non,_,I.aCP (its':=its++[u]) hH e (by simp) (r.append (.cons ru .nil)) ?_,rfl,q⟩
 rw[C7,List.length_singleton]
 omega
def Xr:V→List V→Hp→VK→Prop:=fun x vs H Q=>∃l xs i k y,x=.ref l∧vs=[.int i]∧H l=some (.lst xs)∧-(2 ^ 63)≤i∧i<2 ^ 63∧seqIndex? i xs.length=some k∧xs[k]?=some y∧Q y (upd H l (.lst (xs.eraseIdx k)))
B5 aAg:MtM X "list.pop" Xr:=by
 intro pins s σ H x vs v us Q I rx rv h
 B3⟨l,xs,i,k,y,rfl,rfl,hH,h1,h2,hk,hy,q⟩:=h
 cases rx
 B3⟨u,rfl,ru⟩:=rv.one
 B3⟨t,rfl⟩:=ru
 B3⟨z,its,n,r,hl,e⟩:=I.aCQ hH
 B3⟨w,hw,Sv⟩:=r.get hy
 &call_meets F.slot_list_pop ⟨_,e,rfl⟩ F.entry_list_pop (F.args_list_pop_2 _ _)
  (MeetsSeq.list_pop_at l its.toArray n i t k w (fitsIndex_both h1 h2) (by rw[C5,←hl];~hk) (by rw[←L8];~hw) (by rw[C5];omega)) ⟨e,?_⟩
 &⟨y,_,I.aCP (its':=its.eraseIdx k) hH e ?_ (r.eraseIdx k) ?_,Sv,q⟩
 ·show its.toArray.eraseIdxIfInBounds k=(its.eraseIdx k).toArray
  rw[T3]
 ·have:=Ir xs k
  omega
end
section
variable{prog:Program}{w:World}{A:Around}{E:Value→Shared→Prop}{s:Shared}
end
section
variable{X:Cx}
end
end L2
namespace L2
open PySem PySem.Spec PyProof.Rows
section
variable{κ:Type} [DecidableEq κ]
def wQ(kvs:List (κ×V))(k:κ):Option V:=(kvs.find? fun kv=>decide (kv.1=k)).map (·.2)
def putK(kvs:List (κ×V))(k:κ)(v:V):List (κ×V):=
 if(kvs.any fun kv=>decide (kv.1=k))=true then kvs.map (fun kv=>if kv.1=k then(kv.1,v)else kv)else kvs++[(k,v)]
def aJ1(kvs:List (κ×V))(k:κ):List (κ×V):=kvs.filter fun kv=>decide (kv.1≠k)
B5 Nv{p:κ×V}{r:List (κ×V)}{k:κ}(e:p.1=k):wQ (p::r) k=some p.2:=by simp[wQ,N9,e]
B5 Nx{p:κ×V}{r:List (κ×V)}{k:κ}(e:¬p.1=k):wQ (p::r) k=wQ r k:=by simp[wQ,N9,e]
B5 Ny(k:κ):∀kvs:List (κ×V),(kvs.any fun kv=>decide (kv.1=k))=(wQ kvs k).isSome
 | []=>rfl
 | p::r=>by
  rw[S5]
  by_cases e:p.1=k
  ·simp only[Nv e,decide_eq_true e,Bool.true_or,d8]
  ·rw[Nx e,decide_eq_false e,Bool.false_or];~Ny k r
B5 zT(kvs:List (κ×V))(k:κ)(v:V):(putK kvs k v).length≤kvs.length+1:=by
 B4 putK
 split
 ·rw[B7];omega
 ·rw[C7,E9,List.length_nil];omega
B5 yZ.vK{o:Option V}{u:Option Value}(r:yZ o u):o.isSome=u.isSome:=by
 cases o with
 | none=>cases u with
  | none=>rfl
  | some _=>~(show False from r).elim
 | some _=>cases u with
  | none=>~(show False from r).elim
  | some _=>rfl
B5 yZ.getD{o:Option V}{u:Option Value}{d:V}{d':Value}(r:yZ o u)(rd:RelV d d'):RelV (o.getD d) (u.getD d'):=by
 cases o with
 | none=>cases u with
  | none=>~rd
  | some _=>~(show False from r).elim
 | some _=>cases u with
  | none=>~(show False from r).elim
  | some _=>~r
B5 KV.val{kvs:List (κ×V)}{vs:List (κ×Value)}(r:KV kvs vs)(k:κ):yZ (wQ kvs k) (valueAt vs k):=by
 B4 KV at r
 induction r with
 | nil=>~True.intro
 | @cons p q ps qs h t ih=>
  B3⟨h1,h2⟩:=h
  by_cases e:p.1=k
  ·have e':q.1=k:=h1.symm.trans e
   have b:valueAt (q::qs) k=some q.2:=by simp[valueAt,N9,e']
   rw[Nv e,b];~h2
  ·have e':¬q.1=k:=fun z=>e (h1.trans z)
   have b:valueAt (q::qs) k=valueAt qs k:=by simp[valueAt,N9,e']
   rw[Nx e,b];~ih
B5 KV.any{kvs:List (κ×V)}{vs:List (κ×Value)}(r:KV kvs vs)(k:κ):(kvs.any fun kv=>decide (kv.1=k))=vs.any fun kv=>decide (kv.1=k):=by
 B4 KV at r
 induction r with
 | nil=>rfl
 | cons h t ih=>rw[S5,S5,ih,h.1]
B5 KV.repl{kvs:List (κ×V)}{vs:List (κ×Value)}(r:KV kvs vs)(k:κ){y:V}{u:Value}(ry:RelV y u) :
  KV (kvs.map fun kv=>if kv.1=k then(kv.1,y)else kv) (vs.map fun kv=>if kv.1=k then(kv.1,u)else kv):=by
 B4 KV at r ⊢
 induction r with
 | nil=>~.nil
 | @cons p q ps qs h t ih=>
  rw[D3,D3]
  &.cons ?_ ih
  B3⟨h1,h2⟩:=h
  by_cases e:p.1=k
  ·rw[if_pos e,if_pos (h1.symm.trans e)];~⟨h1,ry⟩
  ·rw[if_neg e,if_neg (fun z=>e (h1.trans z))];~⟨h1,h2⟩
B5 KV.put{kvs:List (κ×V)}{vs:List (κ×Value)}(r:KV kvs vs)(k:κ){y:V}{u:Value}(ry:RelV y u):KV (putK kvs k y) (stored vs k u):=by
 B4 putK stored
 rw[r.any k]
 by_cases e:(vs.any fun kv=>decide (kv.1=k))=true
 ·rw[if_pos e,if_pos e];~r.repl k ry
 ·rw[if_neg e,if_neg e];~Paired.snoc r ⟨rfl,ry⟩
B5 KV.keys{kvs:List (κ×V)}{vs:List (κ×Value)}(r:KV kvs vs):kvs.map (·.1)=vs.map (·.1):=by
 B4 KV at r
 induction r with
 | nil=>rfl
 | cons h t ih=>rw[D3,D3,ih,h.1]
B5 KV.length{kvs:List (κ×V)}{vs:List (κ×Value)}(r:KV kvs vs):kvs.length=vs.length:=Paired.length r
end
B5 Uq{P:Program}{w:World}{k:Key}{u:Value}(r:RelV (kV k) u):(iW P w).is k u=true:=by
 cases k with
 | inl i=>B3⟨t,e⟩:=(show ∃t,u=Value.int i t from r);subst e;~DP P w i t
 | inr x=>B3⟨t,e⟩:=(show ∃t,u=Value.str x t from r);subst e;~DQ P w x t
B5 Ur{P:Program}{w:World}:∀{ks:List Key} {us:List Value},Vals (ks.map kV) us→ItemsAre (iW P w) ks us
 | [],_,r=>by rw[J2]at r;cases r;~.nil
 | k::ks,_,r=>by
  rw[D3]at r
  cases r with
  | cons h t=>~.cons (Uq h) (Ur t)
abbrev KT(H:Hp):List (List Key×V)→List (List Key×Addr×Value)→Prop:=Paired fun p q=>p.1=q.1∧H q.2.1=some (.tup (p.1.map kV))∧RelV p.2 q.2.2
B5 KT.val{H:Hp}{kvs:List (List Key×V)}{xs:List (List Key×Addr×Value)}(r:KT H kvs xs)(k:List Key):yZ (wQ kvs k) ((atKey xs k).map (·.2)):=by
 induction r with
 | nil=>~True.intro
 | @cons p q ps qs h t ih=>
  B3⟨h1,_,h2⟩:=h
  by_cases e:p.1=k
  ·have e':q.1=k:=h1.symm.trans e
   have b:atKey (q::qs) k=some q.2:=by simp[atKey,N9,e']
   rw[Nv e,b];~h2
  ·have e':¬q.1=k:=fun z=>e (h1.trans z)
   have b:atKey (q::qs) k=atKey qs k:=by simp[atKey,N9,e']
   rw[Nx e,b];~ih
B5 KT.repl{H:Hp}{kvs:List (List Key×V)}{xs:List (List Key×Addr×Value)}(r:KT H kvs xs)(k:List Key){y:V}{u:Value}(ry:RelV y u) :
  KT H (kvs.map fun kv=>if kv.1=k then(kv.1,y)else kv) (xs.map (putAt k u)):=by
 induction r with
 | nil=>~.nil
 | @cons p q ps qs h t ih=>
  rw[D3,D3]
  &.cons ?_ ih
  B3⟨h1,h2,h3⟩:=h
  B4 putAt
  by_cases e:p.1=k
  ·rw[if_pos e,if_pos (h1.symm.trans e)];~⟨h1,h2,ry⟩
  ·rw[if_neg e,if_neg (fun z=>e (h1.trans z))];~⟨h1,h2,h3⟩
B5 KT.put{H:Hp}{kvs:List (List Key×V)}{xs:List (List Key×Addr×Value)}(r:KT H kvs xs)(k:List Key){b:Addr}{y:V}{u:Value}(hb:H b=some (.tup (k.map kV)))(ry:RelV y u) :
  KT H (putK kvs k y) (storedH xs k b u):=by
 have e:(kvs.any fun kv=>decide (kv.1=k))=(atKey xs k).isSome:=by
  rw[Ny,(r.val k).vK,V9]
 B4 putK storedH
 rw[e]
 by_cases q:(atKey xs k).isSome=true
 ·rw[if_pos q,if_pos q];~r.repl k ry
 ·rw[if_neg q,if_neg q];~Paired.snoc r ⟨rfl,hb,ry⟩
B5 KT.keeps{H H':Hp}{kvs:List (List Key×V)}{xs:List (List Key×Addr×Value)}(r:KT H kvs xs)(ht:∀b ys,H b=some (.tup ys)→H' b=some (.tup ys)):KT H' kvs xs:=
 Paired.aEX r fun _ _ z=>⟨z.1,ht _ _ z.2.1,z.2.2⟩
section
variable{P:Program}{w:World}{H:Hp}{h:Heap}{a:Addr}
B5 aEf{u:HO}(ok:Df P w H h)(e:Rd H a u):jG P w H h a u:=e.ok ok
B5 La{kvs:List (Key×V)}(ok:Df P w H h)(e:Rd H a (.dK kvs)):kvs.length≤sizeLine∧(a==sysModules)=false∧∃vs,KV kvs vs∧h.DictOf (iW P w) a vs:=
 show jG P w H h a (.dK kvs)from aEf ok e
B5 aHx{kvs:List (Key×V)}(ok:Df P w H h)(e:H a=some (.dK kvs)):kvs.length≤sizeLine∧(a==sysModules)=false∧∃vs,KV kvs vs∧h.DictOf (iW P w) a vs:=La ok (.inl e)
B5 Iu{ks:List Key}(ok:Df P w H h)(e:H a=some (.tup (ks.map kV))):(tupleKind (iW P w)).is h ks a:=by
 B3⟨_,its,r,o,h1,h2,n,h3⟩:=(show jG P w H h a (.tup (ks.map kV))from ok a _ e)
 ~⟨o,its.toArray,n,h1,h2,h3,by simpa using Ur r⟩
B5 Nz{kvs:List (List Key×V)}(ok:Df P w H h)(e:Rd H a (.dT kvs)):kvs.length≤sizeLine∧(a==sysModules)=false ∧
  ∃xs,KT H kvs xs∧h.DictOfH (tupleKind (iW P w)) a xs:=by
 B3⟨z,y,xs,r,o,es,ep,h1,h2,h3,h4,h5⟩:=(show jG P w H h a (.dT kvs)from aEf ok e)
 &⟨z,y,xs,r,o,es,ep,h1,h2,h3,h4,fun x hx=>?_,h5⟩
 have all:∀{l:List (List Key×V)} {m:List (List Key×Addr×Value)},KT H l m→∀x∈m,(tupleKind (iW P w)).is h x.1 x.2.1:=by
  intro l m q
  induction q with
  | nil=>intro x hx;~nomatch hx
  | @cons p q ps qs hq t ih=>
   intro x hx
   rcases C9.mp hx with e | hx
   ·subst e
    ~Iu ok (by rw[←hq.1];~hq.2.1)
   ·~ih x hx
 ~all r x hx
B5 aHy{kvs:List (List Key×V)}(ok:Df P w H h)(e:H a=some (.dT kvs)):kvs.length≤sizeLine∧(a==sysModules)=false ∧
  ∃xs,KT H kvs xs∧h.DictOfH (tupleKind (iW P w)) a xs:=Nz ok (.inl e)
end
def Oa(H:Hp)(a:Addr)(y:V)(r:Option V):Prop:=
 (∃kvs k,Rd H a (.dK kvs)∧y=kV k∧r=wQ kvs k)∨∃kvs k b,Rd H a (.dT kvs)∧y=.ref b∧H b=some (.tup (k.map kV))∧r=wQ kvs k
def aHz(H:Hp)(a:Addr)(y v:V)(H':Hp):Prop:=
 (∃kvs k,H a=some (.dK kvs)∧y=kV k∧kvs.length<sizeLine∧H'=upd H a (.dK (putK kvs k v))) ∨
 ∃kvs k b,H a=some (.dT kvs)∧y=.ref b∧H b=some (.tup (k.map kV))∧kvs.length<sizeLine∧H'=upd H a (.dT (putK kvs k v))
section
variable{X:Cx}{pins:List (Addr×Obj)}{σ:St}{H:Hp}{s:Shared}{a:Addr}{y v:V}{u r:Value}{o:Option V}{A:Around}{E:Value→Shared→Prop}
B5 Inv.big(I:Inv X pins σ H s):sysModules<s.heap.objs.size:=by
 have h:mainGlobals<s.heap.objs.size:=(I.mod.glob.keeps I.bk).lt
 ~Nat.lt_trans A8 h
B5 ni{Q:Value→Shared→Prop}(hu:A.units+1<cLine)(I:Inv X pins σ H s)(g:Oa H a y (some v))(ry:RelV y u)(h:∀w' s',Inv X pins σ H s'→RelV v w'→Q w' s') :
  wpAny (model X.prog X.w) A (getItem (.ref a) u) Q E s:=by
 rcases g with ⟨kvs,k,e,ey,l⟩ | ⟨kvs,k,b,e,ey,eb,l⟩
 ·subst ey
  B3⟨z,hd,vs,rel,dd⟩:=La I.hok e
  B3⟨w',hw,Sv⟩:=yZ.some_of (v:=v) (o:=valueAt vs k) (by rw[l];~rel.val k)
  ~wpAny_getItem_of (Uq ry) dd.mapOf hw (h w' _ (I.tok _) Sv)
 ·subst ey
  cases(show u=Value.ref b from ry)
  B3⟨z,hd,xs,rel,dd⟩:=Nz I.hok e
  B3⟨w',hw,Sv⟩:=yZ.some_of (v:=v) (o:=(atKey xs k).map (·.2)) (by rw[l];~rel.val k)
  B3⟨p,hp,hp2⟩:=lN hw
  &wpAny_getItem_heap (tupleKind_room_in1 hu) (Iu I.hok eb) dd hp ?_
  rw[hp2]
  ~h w' _ (I.tok _) Sv
B5 aI4{Q:Value→Shared→Prop}(hu:A.units+1<cLine)(I:Inv X pins σ H s)(g:Oa H a y o)(ry:RelV y u)(h:∀s',Inv X pins σ H s'→Q (.bool o.isSome) s') :
  wpAny (model X.prog X.w) A (compareOp .In u (.ref a)) Q E s:=by
 rcases g with ⟨kvs,k,e,ey,l⟩ | ⟨kvs,k,b,e,ey,eb,l⟩
 ·subst ey
  B3⟨z,hd,vs,rel,dd⟩:=La I.hok e
  &wpAny_in_of (Uq ry) hd dd.mapOf ?_
  rw[←(rel.val k).vK,←l]
  ~h _ (I.tok _)
 ·subst ey
  cases(show u=Value.ref b from ry)
  B3⟨z,hd,xs,rel,dd⟩:=Nz I.hok e
  &wpAny_in_heap (tupleKind_room_in1 hu) (Iu I.hok eb) hd dd ?_
  have q:=(rel.val k).vK
  rw[V9]at q
  rw[←q,←l]
  ~h _ (I.tok _)
B5 aCR{Q:Value→Shared→Prop}(hu:A.units+1<cLine)(I:Inv X pins σ H s)(g:Oa H a y o)(ry:RelV y u)(h:∀s',Inv X pins σ H s'→Q (.bool (!o.isSome)) s') :
  wpAny (model X.prog X.w) A (compareOp .NotIn u (.ref a)) Q E s:=by
 rcases g with ⟨kvs,k,e,ey,l⟩ | ⟨kvs,k,b,e,ey,eb,l⟩
 ·subst ey
  B3⟨z,hd,vs,rel,dd⟩:=La I.hok e
  &wpAny_notIn_of (Uq ry) hd dd.mapOf ?_
  rw[←(rel.val k).vK,←l]
  ~h _ (I.tok _)
 ·subst ey
  cases(show u=Value.ref b from ry)
  B3⟨z,hd,xs,rel,dd⟩:=Nz I.hok e
  &wpAny_notIn_heap (tupleKind_room_in1 hu) (Iu I.hok eb) hd dd ?_
  have q:=(rel.val k).vK
  rw[V9]at q
  rw[←q,←l]
  ~h _ (I.tok _)
B5 ZX{h':Heap}{t':Nat}{ob:HO}(I:Inv X pins σ H s)(mu:Mut (H a))(hs:Heap.SameBut a s.heap h')(he:∃q,h'.get? a=some q)(new:jG X.prog X.w (upd H a ob) h' a ob) :
  Inv X pins σ (upd H a ob) {s with heap:=h',toks:=t'}:=
 I.write (x:=a) (e:=a) mu (.inl rfl) (fun b q hb z=>(hs.2 b hb).trans z) he new
B5 aFx{P:Program}{w:World}{H':Hp}{h':Heap}{kvs:List (Key×V)}{vs:List (Key×Value)}(z:kvs.length≤sizeLine)(hd:(a==sysModules)=false)(rel:KV kvs vs)(dd:h'.DictOf (iW P w) a vs) :
  jG P w H' h' a (.dK kvs):=⟨z,hd,vs,rel,dd⟩
B5 nq{H':Hp}{Q:Unit→Shared→Prop}(hu:A.units+1<cLine)(I:Inv X pins σ H s)(g:aHz H a y v H')(ry:RelV y u)(rv:RelV v r)(h:∀s',Inv X pins σ H' s'→Q () s') :
  wpAny (model X.prog X.w) A (setItem (.ref a) u r) Q E s:=by
 rcases g with ⟨kvs,k,e,ey,l,eH⟩ | ⟨kvs,k,b,e,ey,eb,l,eH⟩
 ·subst ey eH
  B3⟨z,hd,vs,rel,dd⟩:=aHx I.hok e
  have hz:vs.length≤sizeLine:=by rw[←rel.length];~z
  have hl:(putK kvs k v).length≤sizeLine:=by have:=zT kvs k v;omega
  &wpAny_setItem_pairs (hsz:=hz) (Uq ry) dd fun h' dd' hs=>h _ ?_
  have he:∃q,h'.get? a=some q:=let ⟨q,_,_,hq,_⟩:=dd';⟨q,hq⟩
  ~ZX I (by rw[e];~True.intro) hs he (aFx hl hd (rel.put k rv) dd')
 ·subst ey eH
  cases(show u=Value.ref b from ry)
  B3⟨z,hd,xs,rel,dd⟩:=aHy I.hok e
  have hz:xs.length≤sizeLine:=by rw[←Paired.length rel];~z
  have hl:(putK kvs k v).length≤sizeLine:=by have:=zT kvs k v;omega
  &wpAny_setItem_heap (hsz:=hz) (tupleKind_room_in1 hu) (Iu I.hok eb) dd fun h' dd' hs=>h _ ?_
  B3⟨q,es,ep,hq,h2,h3,h4,_,h5⟩:=dd'
  &ZX I (by rw[e];~True.intro) hs ⟨q,hq⟩ ⟨hl,hd,_,(rel.put k eb rv).keeps fun c ys ec=>?_,q,es,ep,hq,h2,h3,h4,h5⟩
  rw[bQ (aG6 ec e (fun z=>nomatch z))]
  ~ec
end
section
variable{X:Cx}{pins:List (Addr×Obj)}{σ:St}{H:Hp}{s:Shared}{a:Addr}{kvs:List (Key×V)}{k:Key}{u:Value}{A:Around}{E:Value→Shared→Prop}
end
def aFy(i:Expr):Prop:=∀ov iv,subscripted i false ov iv=operate [ov,iv] (getItem ov iv)
B5 aCS{prog:Program}{w:World}{A:Around}{E:Value→Shared→Prop}{s:Shared}{env:Env}{value slice:Expr}{pos:Pos}{T id:String}{Q:Value→Shared→Prop}
  (hl:typeLookup (.type T) "__getitem__" = pure (some (.builtin id))) (hs:aFy slice)
  (h:wpAny (model prog w) A (eval value env) (fun o s₁=>wpAny (model prog w) A (eval slice env) (fun i s₂=>s₂.TypeIs o T∧wpAny (model prog w) A (getItem o i) Q E s₂) E s₁) E s) :
  wpAny (model prog w) A (eval (.Subscript value slice pos) env) Q E s:=by
 &Subscript_ (wpAny_mono h (fun o s₁ h₁=>wpAny_mono h₁ (fun i s₂ h₂=>?_) fun _ _ x=>x) fun _ _ x=>x)
 B3⟨hT,h₂⟩:=h₂
 B4 subscriptTail
 &wpAny_bind ?_
 rw[getitemInPython_of_ne hT.not_modules]
 &wpAny_bind (wpAny_specialOf hT hl ?_)
 have fin:wpAny (model prog w) A (subscripted slice false o i) (fun r s₃=>wpAny (model prog w) A (letTemporaryGo value o r >>= fun _=>pure r) Q E s₃) E s₂:=by
  rw[hs o i]
  ~wpAny_operating (wpAny_mono h₂ (fun r s₃ h₃=>wpAny_bind (wpAny_letTemporaryGo (wpAny_pure h₃))) fun _ _ x=>x)
 first
  | ~wpAny_pure (wpAny_bind fin)
  | ~wpAny_bind (wpAny_pure (wpAny_bind fin))
  | ~wpAny_bind fin
B5 GF{X:Cx}{pins:List (Addr×Obj)}{σ:St}{H:Hp}{s:Shared}{a:Addr}{y:V}{o:Option V}(I:Inv X pins σ H s)(g:Oa H a y o):s.TypeIs (.ref a) "dict" := by
 rcases g with ⟨kvs,k,e,_,_⟩ | ⟨kvs,k,b,e,_,_,_⟩
 ·B3⟨_,_,vs,_,dd⟩:=La I.hok e
  ~dd.typeIs
 ·B3⟨_,_,xs,_,dd⟩:=Nz I.hok e
  ~dd.typeIs
def aEg(td ty:TE):TE:=fun σ H Q=>td σ H fun x H1=>ty σ H1 fun y H2=>∃a v,x=.ref a∧Oa H2 a y (some v)∧Q v H2
def aCT(ty td:TE):TE:=fun σ H Q=>ty σ H fun y H1=>td σ H1 fun x H2=>∃a o,x=.ref a∧Oa H2 a y o∧Q (.bl o.isSome) H2
def Xu(ty td:TE):TE:=fun σ H Q=>ty σ H fun y H1=>td σ H1 fun x H2=>∃a o,x=.ref a∧Oa H2 a y o∧Q (.bl (!o.isSome)) H2
def Fy(td ty tv:TE):TS:=fun D σ H=>tv σ H fun v H1=>td σ H1 fun x H2=>ty σ H2 fun y H3=>∃a H4,x=.ref a∧aHz H3 a y v H4∧D.nx σ H4
section
variable{X:Cx}{o i e value:Expr}{pos pos' tpos:Pos}{td ty tv:TE}
B5 aCU(hu:X.A.units+1<cLine)(ho:PE X o td)(hi:PE X i ty)(hs:aFy i):PE X (.Subscript o i pos) (aEg td ty):=by
 intro pins s σ H Q I h
 &aCS PySem.F.slot_dict_getitem.lookup hs (jA (ho pins s σ H _ I h) fun u s1 ⟨x,H1,I1,rx,q1⟩=>jA (hi pins s1 σ H1 _ I1 q1) fun iv s2 ⟨y,H2,I2,ry,a,v,ex,g,q2⟩=>?_)
 subst ex
 B3 rfl:u=Value.ref a:=rx
 ~⟨GF I2 g,ni hu I2 g ry fun w' s3 I3 Sv=>⟨v,H2,I3,Sv,q2⟩⟩
B5 RW(hu:X.A.units+1<cLine)(hi:PE X i ty)(ho:PE X o td):PC X .In i o (aCT ty td):=by
 intro pins s σ H Q I h
 &jA (hi pins s σ H _ I h) fun iv s1 ⟨y,H1,I1,ry,q1⟩=>jA (ho pins s1 σ H1 _ I1 q1) fun u s2 ⟨x,H2,I2,rx,a,ov,ex,g,q2⟩=>?_
 subst ex
 B3 rfl:u=Value.ref a:=rx
 ~aI4 hu I2 g ry fun s3 I3=>⟨.bl ov.isSome,H2,I3,rfl,q2⟩
B5 Us(hu:X.A.units+1<cLine)(hi:PE X i ty)(ho:PE X o td):PC X .NotIn i o (Xu ty td):=by
 intro pins s σ H Q I h
 &jA (hi pins s σ H _ I h) fun iv s1 ⟨y,H1,I1,ry,q1⟩=>jA (ho pins s1 σ H1 _ I1 q1) fun u s2 ⟨x,H2,I2,rx,a,ov,ex,g,q2⟩=>?_
 subst ex
 B3 rfl:u=Value.ref a:=rx
 ~aCR hu I2 g ry fun s3 I3=>⟨.bl (!ov.isSome),H2,I3,rfl,q2⟩
B5 wR(hu:X.A.units+1<cLine)(ho:PE X o td)(hi:PE X i ty)(hv:PE X value tv)(hs:swapsWith value (some (.Subscript o i pos')) pos.line X.env=pure false) :
  PS X (.Assign [.Subscript o i pos'] value pos) (Fy td ty tv):=by
 intro pins s σ H D I h
 &wpAny_Assign_Subscript (jA (hv pins s σ H _ I h) fun r s1 ⟨v,H1,I1,rv,q1⟩=>jA (ho pins s1 σ H1 _ I1 q1) fun u s2 ⟨x,H2,I2,rx,q2⟩=>jA (hi pins s2 σ H2 _ I2 q2) fun iv s3 ⟨y,H3,I3,ry,a,H4,ex,g,q3⟩=>?_) hs
 subst ex
 B3 rfl:u=Value.ref a:=rx
 ~nq hu I3 g ry rv fun s4 I4=>⟨σ,H4,I4,q3⟩
end
B5 aAh{P:Program}{w:World}{H:Hp}(h:Heap)(hb:sysModules<h.objs.size):jG P w H (h.push {cls:=.type "dict", data:=.dict #[]}) h.objs.size (.dK []):=
 ⟨N4 _,beq_eq_false_iff_ne.mpr (Ne.symm (E5 hb)),[],.nil,Heap.DictOf.new h⟩
B5 aAi{P:Program}{w:World}{H:Hp}(h:Heap)(hb:sysModules<h.objs.size):jG P w H (h.push {cls:=.type "dict", data:=.dict #[]}) h.objs.size (.dT []):=
 ⟨N4 _,beq_eq_false_iff_ne.mpr (Ne.symm (E5 hb)),[],.nil,_,#[],0,Heap.get?_push_size _ rfl,⟨rfl,rfl,rfl⟩,rfl,rfl,Z6⟩
def RX:TE:=fun _ H Q=>∀p,H p=none→Q (.ref p) (upd H p (.dK []))
def aAj:TE:=fun _ H Q=>∀p,H p=none→Q (.ref p) (upd H p (.dT []))
section
variable{X:Cx}{pos:Pos}
B5 aAk:PE X (.Dict [] [] pos) RX:=fun pins s σ H Q I h=>
 wpAny_Dict_empty ⟨.ref s.heap.objs.size,_,I.laid (a:=s.heap.objs.size) (o:=.dK []) (t':=s.toks) (fun _ _ q=>Heap.get?_push_of_some _ q) (C6 _) (aAh s.heap I.big),rfl,h _ (I.hok.fresh (C6 _))⟩
B5 aAl:PE X (.Dict [] [] pos) aAj:=fun pins s σ H Q I h=>
 wpAny_Dict_empty ⟨.ref s.heap.objs.size,_,I.laid (a:=s.heap.objs.size) (o:=.dT []) (t':=s.toks) (fun _ _ q=>Heap.get?_push_of_some _ q) (C6 _) (aAi s.heap I.big),rfl,h _ (I.hok.fresh (C6 _))⟩
end
def RZ:List (TE×TE)→St→Hp→(List (V×V)→Hp→Prop)→Prop
 | [],_,H,Q=>Q [] H
 | (tk,tv)::r,σ,H,Q=>tk σ H fun x H1=>tv σ H1 fun y H2=>RZ r σ H2 fun ps H3=>Q ((x,y)::ps) H3
abbrev VV:List (V×V)→List (Value×Value)→Prop:=Paired fun p q=>RelV p.1 q.1∧RelV p.2 q.2
def PPs(X:Cx)(pos:Pos)(keys:List (Option Expr))(values:List Expr)(trs:List (TE×TE)):Prop:=
 ∀(pins:List (Addr×Obj))(s:Shared)(σ:St)(H:Hp)(Q:List (V×V)→Hp→Prop),Inv X pins σ H s→RZ trs σ H Q →
  wpAny (model X.prog X.w) X.A (evalPairs (pairTrees keys values X.env pos)) (fun vs s'=>∃ps H',Inv X pins σ H' s'∧VV ps vs∧Q ps H') X.xe s
structure M1(X:Cx)(o:Expr)(m:Str)(apos:Pos)(e:Expr)(cpos:Pos):Prop where
 base:attributeBase o m X.env (eval o X.env)=eval o X.env
 few:((backTo cpos (starEach [e] X.env)).all (fun x=>!x.1)&&(backToKw cpos (keywordEach [] X.env)).all (fun x=>x.1.isSome)
  && decide (([e]:List Expr).length+([]:List Keyword).length+(if([]:List Keyword).isEmpty then 0 else 1)<30))=true
 line:(apos.endLine==cpos.line)=true
 trees:backTo cpos (starEach [e] X.env)=[(false,eval e X.env)]
structure M2(X:Cx)(o:Expr)(m:Str)(apos:Pos)(e f:Expr)(cpos:Pos):Prop where
 base:attributeBase o m X.env (eval o X.env)=eval o X.env
 few:((backTo cpos (starEach [e,f] X.env)).all (fun x=>!x.1)&&(backToKw cpos (keywordEach [] X.env)).all (fun x=>x.1.isSome)
  && decide (([e,f]:List Expr).length+([]:List Keyword).length+(if([]:List Keyword).isEmpty then 0 else 1)<30))=true
 line:(apos.endLine==cpos.line)=true
 trees:backTo cpos (starEach [e,f] X.env)=[(false,eval e X.env),(false,eval f X.env)]
def IsD(H:Hp)(a:Addr):Prop:=(∃kvs,Rd H a (.dK kvs))∨∃kvs,Rd H a (.dT kvs)
B5 aFz{X:Cx}{pins:List (Addr×Obj)}{σ:St}{H:Hp}{s:Shared}{a:Addr}(I:Inv X pins σ H s)(d:IsD H a) :
  s.TypeIs (.ref a) "dict" ∧ (∀b,Value.ref a=.ref b→∃ob,s.heap.get? b=some ob∧ob.dict=none)∧(a==sysModules)=false:=by
 rcases d with ⟨kvs,e⟩ | ⟨kvs,e⟩
 ·B3⟨_,hd,vs,_,dd⟩:=La I.hok e
  &⟨dd.typeIs,fun b q=>?_,hd⟩
  cases q
  B3⟨ob,_,_,h1,h2,_⟩:=dd
  ~⟨ob,h1,h2.2.1⟩
 ·B3⟨_,hd,xs,_,dd⟩:=Nz I.hok e
  &⟨dd.typeIs,fun b q=>?_,hd⟩
  cases q
  B3⟨ob,_,_,h1,h2,_⟩:=dd
  ~⟨ob,h1,h2.2.1⟩
section
variable{X:Cx}{pins:List (Addr×Obj)}{σ:St}{H:Hp}{s:Shared}{a:Addr}{y d:V}{u r:Value}{o:Option V}{A:Around}{E:Value→Shared→Prop}
B5 aFA{Q:Value→Shared→Prop}(hu:A.units+1<cLine)(I:Inv X pins σ H s)(g:Oa H a y o)(ry:RelV y u)(h:∀w' s',Inv X pins σ H s'→RelV (o.getD .non) w'→Q w' s') :
  wpAny (model X.prog X.w) A (call (.builtin "dict.get") [.ref a,u]) Q E s:=by
 rcases g with ⟨kvs,k,e,ey,l⟩ | ⟨kvs,k,b,e,ey,eb,l⟩
 ·subst ey
  B3⟨z,hd,vs,rel,dd⟩:=La I.hok e
  &call_meetsIn T1 dd.typeIs Y6 (X4 _ _) (meets_dict_get (iW X.prog X.w) a (Uq ry) hd) ⟨_,dd.mapOf,h _ _ (I.tok _) ?_⟩
  rw[l]
  ~(rel.val k).getD rfl
 ·subst ey
  cases(show u=Value.ref b from ry)
  B3⟨z,hd,xs,rel,dd⟩:=Nz I.hok e
  &call_meetsIn T1 dd.typeIs Y6 (X4 _ _) (meetsH_dict_get (tupleKind (iW X.prog X.w)) a b hd) ⟨tupleKind_room_in1 hu,k,xs,Iu I.hok eb,dd,h _ _ (I.tok _) ?_⟩
  rw[l]
  ~(rel.val k).getD rfl
end
def aAm(td ty:TE):TE:=fun σ H Q=>td σ H fun x H1=>∃a,x=.ref a∧IsD H1 a∧ty σ H1 fun y H2=>∃o,Oa H2 a y o∧Q (o.getD .non) H2
section
variable{X:Cx}{o e f:Expr}{apos cpos:Pos}{td ty tx:TE}
B5 aAn(hu:X.A.units+1<cLine)(ho:PE X o td)(he:PE X e ty)(m:M1 X o "get" apos e cpos):PE X (.Call (.Attribute o "get" apos) [e] [] cpos) (aAm td ty):=by
 intro pins s σ H Q I h
 &wpAny_Call_method m.base m.few m.line PySem.F.plainAttrs_dict T1 PySem.F.type_dict_get (jA (ho pins s σ H _ I h) fun u s1 ⟨x,H1,I1,rx,a,ex,d,q1⟩=>?_)
 subst ex
 B3 rfl:u=Value.ref a:=rx
 B3⟨t1,t2,_⟩:=aFz I1 d
 &⟨t1,t2,?_⟩
 rw[m.trees]
 &Calls.callWith_builtin rfl (Calls.evalArgs_plain (Calls.spliced_cons (jA (he pins s1 σ H1 _ I1 q1) fun iv s2 ⟨y,H2,I2,ry,ov,g,q2⟩=>Calls.spliced_nil ?_)))
 ~aFA hu I2 g ry fun w' s3 I3 Sv=>⟨_,H2,I3,Sv,q2⟩
end
section
variable{X:Cx}{pins:List (Addr×Obj)}{σ:St}{H:Hp}{s:Shared}{a:Addr}{kvs:List (Key×V)}{A:Around}{E:Value→Shared→Prop}
end
section
variable{X:Cx}{pins:List (Addr×Obj)}{σ:St}{H:Hp}{s:Shared}{a:Addr}{y:V}{u:Value}{A:Around}{E:Value→Shared→Prop}
end
end L2
namespace Att
open PySem PySem.W PySem.Calls PyProof.Rows
B5 Lw{P:Params}{h:Heap}:∀(ns:List Int)(vs:List Value),WellAll P h vs (ns.map WData.int)→IntsAre vs ns:=by
 intro ns
 induction ns with
 | nil=>
  intro vs w
  rw[J2]at w
  cases w
  ~.nil
 | cons n ns ih=>
  intro vs w
  rw[D3]at w
  cases w with
  | cons a b=>
   cases a
   ~.cons _ _ (ih _ b)
B5 nu{l:OpenLaw}{n:Nat}(hn:l.most=some n){P:Params}{h:Heap}{args:List WData}{vals:List Value}
  (hpre:l.row.toRowW.claim.pre args=true) (hwl:WellAll P h vals args) :
  ∃a vs ns,vals=[Value.ref a]∧args=[WData.list (ns.map WData.int)]∧h.get? a=some {cls:=.type "list", data:=.seq vs.toArray}∧IntsAre vs ns∧ns.length≤n:=by
 have hsh:WShape.hasAll [] args [.list .int]=true:=(pre_splitW hpre).1
 have hc:l.pre.holds [] {args:=args}=true:=(pre_splitW hpre).2
 B3⟨d,r,rfl,h1,h2⟩:=hasAllW_cons hsh
 B3 rfl:=hasAllW_nil h2
 B3⟨xs,rfl,h3⟩:=hasW_list h1
 B3⟨ns,rfl⟩:=items_int h3
 have hlen:ns.length≤n:=by
  B4 OpenLaw.pre at hc
  have h4:(WTm.not (.lt (.lit (.int (n:Int))) (.len (.arg 0)))).holds [] {args:=[.list (ns.map .int)]}=true:=by
   have h4:=(holds_andW hc).1
   rw[hn]at h4
   ~h4
  have h5:=condW_of h4 (w_not (w_lt w_lit (w_len_list (w_arg rfl))))
  rw[B7]at h5
  &Nat.le_of_not_lt fun q=>?_
  have q':(n:Int)<((ns.length:Nat):Int):=by omega
  first
   | (rw[decide_eq_true q']at h5;~absurd h5 A8)
   | (simp at h5;omega)
 cases hwl with
 | cons w1 w2=>
  cases w2
  cases w1 with
  | list ho hall=>~⟨_,_,ns,rfl,rfl,ho,Lw ns _ hall,hlen⟩
B5 oh(l:OpenLaw)(args:List WData):l.row.toRowW.claim.post args (.bool true) args=true:=
 postW_of (r:=l.row.toRowW) (X:=(true==true))
  (show WShape.has [] (.bool true) .bool=true by first | rfl | decide | simp[WShape.has,WShape.arms,WShape.armsAll])
  (show (WTm.eq .res (.lit (.bool true))).value [] {args:=args,res:=some (.bool true),after:=args}=some (.bool (true==true))from w_eq_bool (w_res rfl) w_lit) rfl
section
variable{prog:Program}{w:World}{A:Around}{E:Value→Shared→Prop}{s:Shared}{K:Frag}
end
end Att
namespace L2
open PySem PySem.Spec PyProof.Rows
B5 Bf:∀{vs:List Value} {ns:List Int},IntsAre vs ns→Vals (ns.map V.int) vs
 | _,_,.nil=>.nil
 | _,_,.cons n t h=>.cons ⟨t,rfl⟩ (Bf h)
def Only(H:Hp):Prop:=∀b,H b=none∨∃o xs,H b=some (.zA o (.lst xs))
B5 aAo{P:Program}{w:World}{K:aF}{mg mb:Str→Option Value}{CX:mj}{k:Nat}{fa a:Addr}{fd:FuncData}{x:Str}{sp:Sp}{s₁:Shared}{vs:List Value}{ns:List Int}
  (KX:K.In s₁.heap) (hns:s₁.heap.Ns mainGlobals mg) (hb:s₁.heap.Ns builtinsNs mb) (hbb:∀x:Str,x ≠ "__name__" → mb x=bootBuiltins x) (hlim:s₁.heap.NoLimit) (hg:s₁.gens=#[])
  (ha:s₁.heap.get? a=some {cls:=.type "list", data:=.seq vs.toArray}) (hi:IntsAre vs ns) (hl:ns.length≤sizeLine) (hr:jR k callerA)
  (F:∀base:Heap,K.In base→base.Ns mainGlobals mg→zF P w K mg base CX k fa fd [x] sp) (hbind:∀(s:Shared)(u:Value),BindsTo s fd ⟨[u],[]⟩ [(x,u)])
  (hsp:∀H:Hp,Only H→pK K H a (ns.map V.int)→sp [.ref a] H (fun v _=>v=.bl true) fun _ _ _=>False)
  (hCX:∀H e s',CX [] H s₁ (fun _ _ _=>False) e s'→False) :
  codeAny (model P w) callerA (.call (.ref fa) ⟨[.ref a],[]⟩) (fun r s'=>r=.ok (.ret (.bool true))∧OldK s₁.heap s'.heap∧s'.os=s₁.os∧AllBare s'.gens) s₁:=by
 have rv:=Bf hi
 have lenV:=hi.length
 have core:∀H:Hp,Only H→pK K H a (ns.map V.int)→Df P w H s₁.heap→(∀b,H b≠none→b=a)→(H a≠none→K.lookup a=none) →
   codeAny (model P w) callerA (.call (.ref fa) ⟨[.ref a],[]⟩) (fun r s'=>r=.ok (.ret (.bool true))∧OldK s₁.heap s'.heap∧s'.os=s₁.os∧AllBare s'.gens) s₁:=by
  intro H hO hS hok hA hK
  have ZZ:∀{b:Addr} {o:Obj},s₁.heap.get? b=some o→H b=none→(Wy s₁.heap H).get? b=some o:=fun e n=>yd e n
  have noA:∀{b:Addr} {o:Obj} {es:Array DictEntry} {ep:Nat},s₁.heap.get? b=some o→o.data=.dict es ep→H b=none:=fun{b o es ep} e d=>by
   cases q:H b with
   | none=>rfl
   | some u=>
    have e':b=a:=hA b (by rw[q];simp)
    subst e'
    rw[ha]at e;cases e
    have d':Data.seq vs.toArray _=Data.dict es ep:=d
    cases d'
  have nsK:∀{b:Addr} {m:Str→Option Value},s₁.heap.Ns b m→(Wy s₁.heap H).Ns b m:=fun{b m} ⟨o,es,ep,e,d,r⟩=>⟨o,es,ep,ZZ e (noA e d),d,r⟩
  have hKb:K.In (Wy s₁.heap H):=fun b o e=>ZZ (KX b o e) (by
   cases q:H b with
   | none=>rfl
   | some u=>
    have e':b=a:=hA b (by rw[q];simp)
    subst e'
    rw[hK (by rw[q];simp)]at e;cases e)
  have hM:Mod K mg (Wy s₁.heap H):=⟨hKb,nsK hns,⟨mb,nsK hb,hbb⟩,let ⟨mc,h1,h2⟩:=hlim;⟨mc,nsK h1,h2⟩⟩
  have e0:RP P w K mg (Wy s₁.heap H) callerA [] s₁ H:=⟨rfl,hM,fun b o e=>aCp e,d6 (jz _ _),trivial,fun b hb=>absurd (show b∈([]:List Addr)from hb) (by simp),hok,.of_eq hg⟩
  &codeAny_mono ((F _ hKb (nsK hns)).run callerA [] s₁ H ⟨[.ref a],[]⟩ [.ref a] [.ref a] _ _ hr e0 (hbind s₁ (.ref a)) (.cons rfl .nil) (hsp H hO hS)) fun r s' h=>?_
  cases r with
  | error e=>~(hCX H e s' h).elim
  | ok fl=>
   cases fl with
   | next=>~False.elim h
   | brk=>~False.elim h
   | cont=>~False.elim h
   | ret u=>
    B3⟨v,H',os,bare,un,hok',r',q⟩:=h
    have q':v=.bl true:=q
    subst q'
    B3 rfl:u=Value.bool true:=r'
    &⟨rfl,OldK.of_keep fun b o e=>?_,os,bare⟩
    cases q:H b with
    | none=>~un.keep b o e q (by intro z;~absurd (show b∈([]:List Addr)from z) (by simp)) (by simp)
    | some u=>
     rcases hO b with z | ⟨ob,xs,z⟩
     ·rw[q]at z;cases z
     ·have z2:=un.Wx b ob _ z
      B3⟨e1,_⟩:=hok b _ z
      B3⟨e2,_⟩:=hok' b _ z2
      rw[e]at e1;cases e1
      ~e2
 cases hk:K.lookup a with
 | some o=>
  have e:=KX a o hk
  rw[ha]at e
  cases e
  &core (fun _=>none) (fun _=>.inl rfl) (.inr ⟨_,vs.toArray,_,hk,rfl,rfl,rfl,by rw[C5,lenV];~hl,by simpa using rv⟩) (fun b u z=>by have z':(none:Option HO)=some u:=z;cases z') (fun b z=>absurd rfl z) fun z=>absurd rfl z
 | none=>
  &core (fun b=>if b=a then some (.zA {cls:=.type "list", data:=.seq vs.toArray} (.lst (ns.map V.int)))else none) (fun b=>?_) (.inl (.inr ⟨{cls:=.type "list", data:=.seq vs.toArray},if_pos rfl⟩)) (fun b u z=>?_) (fun b z=>?_) fun _=>hk
  ·by_cases hb:b=a
   ·~.inr ⟨_,_,if_pos hb⟩
   ·~.inl (if_neg hb)
  ·by_cases hb:b=a
   ·have z':=(if_pos hb).symm.trans z
    cases z'
    subst hb
    ~⟨ha,by rw[B7];~hl,vs,_,rv,ha⟩
   ·have z':=(if_neg hb).symm.trans z
    cases z'
  ·by_cases hb:b=a
   ·~hb
   ·~absurd (if_neg hb) z
end L2
namespace L2
open PySem PySem.Spec PyProof.Rows
end L2
namespace L2
open PySem PySem.Spec PyProof.Rows
def inClass(s:Stmt)(j:Nat):Stmt:=match s with
 | .ClassDef _ _ _ body _ _ _ _ _ _ _=>body.getD j (.Pass ⟨0,0,0,0⟩)
 | _=>.Pass ⟨0,0,0,0⟩
def fP(s:Stmt):Arguments:=match s with
 | .FunctionDef _ a _ _ _ _ _ _ _ _=>a
 | _=>{posonlyargs:=[],args:=[],vararg:=none,kwonlyargs:=[],kw_defaults:=[],kwarg:=none,defaults:=[]}
def cH(s:Stmt):List Stmt:=match s with
 | .FunctionDef _ _ b _ _ _ _ _ _ _=>b
 | _=>[]
def aM(s:Stmt):Scope:=match s with
 | .FunctionDef _ _ _ _ _ _ sc _ _ _=>sc
 | _=>{kind:=.function,names:=[],isGenerator:=false,isCoroutine:=false}
abbrev CZ:mj:=fun _ _ _ _ _ _=>False
abbrev E0:XK:=fun _ _ _=>False
B5 Ut{X:Cx}:Passes CZ X E0:=fun _ _ _ _ _ _ _ h=>h.elim
structure Fun(K:aF)(x qual:Str)(st:Stmt)(f:Addr)(fd:FuncData):Prop where
 ex:∃(oc:Value)(od:Option Addr)(kV doc pm:Value)(an:Option Addr)(cdv ct:Value)(osl:Array (Option Value)),
  fd=F6 x qual (fP st) (cH st) (aM st) .none kV doc pm an cdv ct∧K.lookup f=some ⟨oc,od,.func fd,osl⟩∧K4 K cdv qual=true
 kp:J9 K (.ref f)=true
section
variable{P:Program}{w:World}{K:aF}{mg:Str→Option Value}{base:Heap}
B5 Fun.ok{x qual:Str}{st:Stmt}{f:Addr}{fd:FuncData}{N ps:List Str}{k:Nat}{sp:Sp}(F:Fun K x qual st f fd)(S:bB N ps (aM st))(len:∀vs H Q E,sp vs H Q E→vs.length=ps.length)
  (hbody:∀(cdv:Value)(A:Around)(outer:List Env)(s:Shared)(H:Hp)(vs:List V)(Q:VK)(E:XK),jR k (A.deeper (envOfC qual (aM st) s.heap.objs.size f cdv))→sp vs H Q E →
   ∃t,DY (Fv CZ P w K mg base N qual (aM st) f cdv A outer s H E).ZK (cH st) t∧t {nx:=fun _ H'=>Q .non H',rt:=Q} (start N vs) H):zF P w K mg base CZ (k+1) f fd ps sp:=by
 B3⟨oc,od,kV,doc,pm,an,cdv,ct,osl,rfl,lk,hcd⟩:=F.ex
 &aAd lk hcd S len fun A outer s H vs Q E hr hsp=>?_
 B3⟨t,h,q⟩:=hbody cdv A outer s H vs Q E hr hsp
 ~⟨t,h.ZK,q⟩
B5 Fun.binds{x qual:Str}{st:Stmt}{f:Addr}{fd:FuncData}{ps:List Str}(F:Fun K x qual st f fd)
  (h:∀(kV doc pm:Value)(an:Option Addr)(cdv ct:Value)(us:List Value),us.length=ps.length→bindArgs (F6 x qual (fP st) (cH st) (aM st) .none kV doc pm an cdv ct) ⟨us,[]⟩=pure (ps.zip us)):Binds K fd ps []:=by
 B3⟨oc,od,kV,doc,pm,an,cdv,ct,osl,rfl,lk,hcd⟩:=F.ex
 ~.all (h kV doc pm an cdv ct)
B5 aFB{x qual:Str}{st:Stmt}{f:Addr}{oc:Value}{od an:Option Addr}{osl:Array (Option Value)}{kV doc pm cdv ct:Value}(l:K.lookup f=some ⟨oc,od,.func (F6 x qual (fP st) (cH st) (aM st) .none kV doc pm an cdv ct),osl⟩)
  (c:K4 K cdv qual=true) (k:J9 K (.ref f)=true):Fun K x qual st f (F6 x qual (fP st) (cH st) (aM st) .none kV doc pm an cdv ct):=⟨⟨oc,od,kV,doc,pm,an,cdv,ct,osl,rfl,l,c⟩,k⟩
end
B5 cY{A:Around}{k:Nat}(hr:jR k A):A.units+1<cLine:=U8 (Nat.add_le_add_left (by decide:1≤64) _) hr.units
B5 vL{n:Nat}(h:n≤1000):n<sizeLine:=U8 h A8
section
variable{X:Cx}
B5 pv(i:Nat){x:Str}{pos:Pos}(hN:X.N[i]?=some x:=by rfl)(hv:Vis X.env.scope x:=by first | ~D6 rfl | ~D5 (D6 rfl) | ~D5 (D5 rfl))(hd:(x==("__debug__" : Str))=false:=by decide)
  (hcd:(x==("__classdict__" : Str))=false:=by decide):PE X (.Name x pos) (qN i):=aEZ hN hv hd hcd
end
def aU(H H':Hp):Prop:=∀b o,H b=some o→H' b=some o
B5 aU.refl(H:Hp):aU H H:=fun _ _ h=>h
B5 aU.trans{H H1 H2:Hp}(a:aU H H1)(b:aU H1 H2):aU H H2:=fun c o h=>b c o (a c o h)
B5 aU.free{H H':Hp}(e:aU H H'){l:Addr}(h:H' l=p7):H l=p7:=by
 cases q:H l with
 | none=>rfl
 | some o=>
  rw[e l o q]at h
  cases h
B5 aU.seq{K:aF}{H H':Hp}{a:Addr}{xs:List V}(e:aU H H')(h:pK K H a xs):pK K H' a xs:=by
 rcases h with (h | ⟨o,h⟩) | h
 ·~.inl (.inl (e _ _ h))
 ·~.inl (.inr ⟨o,e _ _ h⟩)
 ·~.inr h
section
variable{κ:Type} [DecidableEq κ]
end
end L2


namespace L2
open PySem PySem.Spec PyProof.Rows
B5 Dv(env:Env):∀(names:List (Str×NameKind))(acc:List (Str×Addr)),(∀x∈names,x.2=.free→∃c,env.cells.lookup x.1=some c) →
    ∃cl:List (Str×Addr),(forIn names acc (fun(x:Str×NameKind) (r:List (Str×Addr))=>(match x with
      | (name,kind)=>if(kind==.free)=true then do let c ←cellOf env name;pure (ForInStep.yield ((name,c)::r))else pure (ForInStep.yield r):Sem (ForInStep (List (Str×Addr))))))=pure cl ∧
      (∀x c,cl.lookup x=some c→(∃k,(x,k)∈names∧k=.free∧env.cells.lookup x=some c)∨acc.lookup x=some c) ∧
      (∀x,(x,NameKind.free)∈names→∃c,cl.lookup x=some c)∧(∀x c,acc.lookup x=some c→∃c',cl.lookup x=some c')
  | [],acc,_=>⟨acc,rfl,fun x c h=>.inr h,fun x h=>by simp at h,fun x c h=>⟨c,h⟩⟩
  | (n,k)::r,acc,h=>by
    rw[List.forIn_cons]
    by_cases hk:k=.free
    · subst hk
      B3⟨c,hc⟩:=h (n,.free) D4 rfl
      B3⟨cl,e,h1,h2,h3⟩:=Dv env r ((n,c)::acc) fun x hx=>h x (C8 _ hx)
      &⟨cl,?_,fun x d hd=>?_,fun x hx=>?_,fun x d hd=>?_⟩
      · have e0:cellOf env n=pure c:=by B4 cellOf;rw[hc]
        simp only[beq_self_eq_true,if_true,e0,pure_bind]
        ~e
      · rcases h1 x d hd with ⟨k',m,q⟩ | q
        · ~.inl ⟨k',C8 _ m,q⟩
        · rw[S8]at q
          by_cases e:x==n
          · rw[e]at q
            have e':=eq_of_beq e
            subst e'
            cases q
            ~.inl ⟨.free,D4,rfl,hc⟩
          · have e':(x==n)=false:=by simpa using e
            rw[e']at q
            ~.inr q
      · rcases C9.mp hx with q | q
        · cases q
          ~h3 n c (by simp)
        · ~h2 x q
      · by_cases e:x==n
        · ~h3 x c (by rw[S8,e])
        · have e':(x==n)=false:=by simpa using e
          ~h3 x d (by rw[S8,e'];~hd)
    · B3⟨cl,e,h1,h2,h3⟩:=Dv env r acc fun x hx=>h x (C8 _ hx)
      have hb:(k==NameKind.free)=false:=by simpa using hk
      &⟨cl,?_,fun x d hd=>?_,fun x hx=>?_,h3⟩
      · simp only[hb,U9,if_false,pure_bind]
        ~e
      · rcases h1 x d hd with ⟨k',m,q⟩ | q
        · ~.inl ⟨k',C8 _ m,q⟩
        · ~.inr q
      · rcases C9.mp hx with q | q
        · cases q
          ~absurd rfl hk
        · ~h2 x q
B5 Dg(scope:Scope)(env:Env)(h:∀x∈scope.names,x.2=.free→∃c,env.cells.lookup x.1=some c) :
    ∃cl,closureFor scope env=pure cl∧(∀x c,cl.lookup x=some c→(x,NameKind.free)∈scope.names∧env.cells.lookup x=some c)∧∀x,(x,NameKind.free)∈scope.names→∃c,cl.lookup x=some c:=by
  B3⟨cl,e,h1,h2,_⟩:=Dv env scope.names [] h
  &⟨cl,?_,fun x c hx=>?_,h2⟩
  · B4 closureFor
    ~(congrArg (fun t=>t >>= pure) e).trans (pure_bind _ _)
  · rcases h1 x c hx with ⟨k,m,rfl,q⟩ | q
    · ~⟨m,q⟩
    · simp at q
B5 Xv{scope:Scope}{env:Env}(hcell:∀y∈scope.names,y.2≠.cell){x:Str}(h:(relabel scope env).names.lookup x=some .cell∨(relabel scope env).names.lookup x=some .free):(x,NameKind.free)∈scope.names:=by
 have m:(x,NameKind.cell)∈(relabel scope env).names∨(x,NameKind.free)∈(relabel scope env).names:=by
  rcases h with h | h
  ·~.inl (M9 h)
  ·~.inr (M9 h)
 B4 relabel at m
 rcases m with m | m
 all_goals
  B3⟨⟨n,k⟩,hm,e⟩:=G4.mp m
  dsimp only at e
  split at e
  ·rename_i hc
   simp only[J7,beq_iff_eq]at hc
   cases e
   first
    | (rw[hc.1.1]at hm;~hm)
    | skip
  ·cases e
   first
    | ~hm
    | ~absurd rfl (hcell _ hm)
def lE(X:Cx)(scope:Scope)(N:List Str)(cl:List (Str×Addr))(fp:List Addr)(s:Shared)(H:Hp)(C:Addr):Cx where
 prog:=X.prog
 w:=X.w
 K:=X.K
 mg:=X.mg
 base:=X.base
 A:=X.A
 N:=N
 s₀:=s
 H₀:=H
 env:=compEnvC scope cl C X.env
 outer:=X.stack
 stack:=X.stack
 ex:=fp
 calm:=X.calm
 fn:=fun _=>false
 pn:=[]
 xe:=fun _ _=>False
def SJ(σ:St)(fr:List Nat):St:=fr.map fun i=>σ.getD i none
def blk(k:Nat)(σ:St)(fr:List Nat):St:=E4 k none++SJ σ fr
def Kp(k:Nat)(σ:St)(fr:List Nat)(σ2:St):Prop:=σ2.length=(blk k σ fr).length∧∀(j:Nat) v,(blk k σ fr)[j]?=some (some v)→σ2[j]?=some (some v)
def PTs(X:Cx)(ifs:List Expr)(t:TT):Prop:=
 ∀(pins:List (Addr×Obj))(s:Shared)(σ:St)(H:Hp)(Q:Bool→Hp→Prop),Inv X pins σ H s→t σ H Q →
  wpAny (model X.prog X.w) X.A (forIn ifs true fun c r=>if r=true then do let ok ←isTrue c X.env (eval c X.env);pure (ForInStep.yield ok)else pure (ForInStep.yield r)) (TP X pins σ Q) X.xe s
def aHA:TT:=fun _ H Q=>Q true H
B5 aCV{X:Cx}:PTs X [] aHA:=fun _ _ _ H _ I h=>wpAny_tests_nil ⟨H,I,h⟩
B5 aCW{X:Cx}{c:Expr}{t:TT}(h:PT X c t):PTs X [c] t:=fun pins s σ H Q I q=>wpAny_tests_one (h pins s σ H Q I q)
B5 Cq{prog:Program}{w:World}{A:Around}{R:Result→Shared→Prop}{s:Shared}{elt target iter:Expr}{ifs:List Expr}{scope:Scope}{pos:Pos}{it acc:Value}{env:Env}(I:Nat→Shared→Prop)
  (turn:∀n s,I n s→wpAny (model prog w) A (pyNext it) (fun r s₁=>match r with
   | none=>R (.ok .next) s₁
   | some v=>wpAny (model prog w) A (letOwnedTupleGo target it v) (fun _ s₀=>wpAny (model prog w) A (assign target env v) (fun _ s₂=>
     wpAny (model prog w) A (forIn ifs true fun c r=>if r=true then do let ok ←isTrue c env (eval c env);pure (ForInStep.yield ok)else pure (ForInStep.yield r)) (fun ok s₃=>
      if ok=true then wpAny (model prog w) A (eval elt env) (fun x s₄=>
       wpAny (model prog w) A (call (.builtin "list.append") [acc,x]) (fun _ s₅=>∃m,m<n∧I m s₅) (fun _ _=>False) s₄) (fun _ _=>False) s₃
      else ∃m,m<n∧I m s₃) (fun _ _=>False) s₂) (fun _ _=>False) s₀) (fun _ _=>False) s₁) (fun _ _=>False) s)
  (n:Nat) (h:I n s) :
  codeAny (model prog w) A (.compLoop (.ListComp elt [⟨target,iter,ifs,0⟩] scope pos) 0 it acc env) R s:=by
 &codeAny_loop rfl I (fun n s hI=>?_) n h
 show wpAny _ A ((compTurn (.ListComp elt [⟨target,iter,ifs,0⟩] scope pos) 0 it acc env).onRaise (fun x=>do noteFrame x env;theTreesLotGoes x)) _ _ s
 &wpAny_noted ?_
 rw[compTurn_list]
 &wpAny_mono (E:=fun _ _=>False) ?_ (fun _ _ q=>q) fun _ _ x=>x.elim
 &wpAny_bind (wpAny_standAt (wpAny_bind (wpAny_mono (turn n s hI) (fun r s₁ h₁=>?_) fun _ _ h'=>h')))
 cases r with
 | none=>~wpAny_pure h₁
 | some v=>
  &wpAny_bind (wpAny_mono h₁ (fun _ s₀ h₀=>?_) fun _ _ h'=>h')
  &wpAny_bind (wpAny_mono h₀ (fun _ s₂ h₂=>wpAny_bind (wpAny_mono h₂ (fun ok s₃ h₃=>?_) fun _ _ h'=>h')) fun _ _ h'=>h')
  cases ok with
  | false=>~wpAny_pure ⟨rfl,h₃⟩
  | true=>
   ~wpAny_bind (wpAny_bind (wpAny_mono h₃ (fun x s₄ h₄=>wpAny_bind (wpAny_mono h₄ (fun _ s₅ h₅=>wpAny_pure (wpAny_pure ⟨rfl,h₅⟩)) fun _ _ h'=>h')) fun _ _ h'=>h'))
def aEh(J:It)(k:Nat)(fr:List Nat)(g:TG)(tc:TT)(te:TE)(σ:St)(H1:Hp)(Q:VK)(D:Addr):Prop:=∃W:Nat→Nat→List V→Hp→Prop,(∃m,W 0 m [] (upd H1 D (.lst []))) ∧
 ∀i m ys H,W i m ys H→H D=some (.lst ys)∧((J.stop i H∧Q (.ref D) H)∨(J.go i H∧∀x H',J.yld i H x H'→g x (blk k σ fr) H' fun σ2 H2=>Kp k σ fr σ2∧tc σ2 H2 fun ok H3=>if ok=true then
  te σ2 H3 fun y H4=>H4 D=some (.lst ys)∧ys.length<sizeLine∧∃m',m'<m∧W (i+1) m' (ys++[y]) (upd H4 D (.lst (ys++[y])))else ∃m',m'<m∧W (i+1) m' ys H3))
def GJ(wi:TI)(k:Nat)(fr:List Nat)(g:TG)(tc:TT)(te:TE):TE:=fun σ H Q=>wi σ H fun J H1=>∀D,H1 D=none→aEh J k fr g tc te σ H1 Q D
def vM(scope DG:Scope):Scope:=
 {scope with names:=scope.names.map fun(n,k)=>if(k==.free&&DG.kind==.function&&DG.names.lookup n==some .cell)then(n,.cell)else(n,k)}
structure kO(DG scope:Scope)(oN N:List Str)(k:Nat)(fr:List Nat):Prop where
 kind:scope.kind=.function
 cell:∀y∈scope.names,y.2≠.cell
 loc:∀y∈scope.names,y.2=.local→scope.names.lookup y.1=some .local
 free:∀y∈scope.names,y.2=.free→DG.names.lookup y.1=some .cell∨DG.names.lookup y.1=some .free
 len:N.length=k+fr.length
 slots:∀j∈D2 fr.length,oN[fr.getD j 0]?=N[k+j]?
 from_:∀x∈N.drop k,(x,NameKind.free)∈scope.names∧((vM scope DG).names.lookup x=some .cell∨(vM scope DG).names.lookup x=some .free)
def aj(DG scope:Scope)(oN N:List Str)(k:Nat)(fr:List Nat):Bool:=
 decide (scope.kind=.function)&&decide (∀y∈scope.names,y.2≠.cell)&&decide (∀y∈scope.names,y.2=.local→scope.names.lookup y.1=some .local) &&
 decide (∀y∈scope.names,y.2=.free→DG.names.lookup y.1=some .cell∨DG.names.lookup y.1=some .free)&&decide (N.length=k+fr.length) &&
 decide (∀j∈D2 fr.length,oN[fr.getD j 0]?=N[k+j]?) &&
 decide (∀x∈N.drop k,(x,NameKind.free)∈scope.names∧((vM scope DG).names.lookup x=some .cell∨(vM scope DG).names.lookup x=some .free))
B5 kO.of{DG scope:Scope}{oN N:List Str}{k:Nat}{fr:List Nat}(h:aj DG scope oN N k fr=true):kO DG scope oN N k fr:=by
 B4 aj at h
 simp only[J7,decide_eq_true_eq]at h
 B3⟨⟨⟨⟨⟨⟨h1,h2⟩,h3⟩,h4⟩,h5⟩,h6⟩,h7⟩:=h
 ~⟨h1,h2,h3,h4,h5,h6,h7⟩
section
variable{X:Cx}
B5 aCX{k:Nat}{σ:St}{fr:List Nat}{i:Nat}{v:V}(h:(blk k σ fr)[i]?=some (some v)):∃j o,i=k+j∧fr[j]?=some o∧σ[o]?=some (some v):=by
 B4 blk at h
 by_cases hi:i<k
 ·rw[G9 (by simpa using hi),P4]at h
  rw[if_pos hi]at h
  cases h
 ·rw[N1 (by simpa using hi),P9]at h
  B4 SJ at h
  rw[B8]at h
  cases e:fr[i-k]? with
  | none=>rw[e]at h;cases h
  | some o=>
   rw[e]at h
   &⟨i-k,o,by omega,e,?_⟩
   have h:some (σ.getD o none)=some (some v):=h
   have h:=F4 h
   rw[B9]at h
   cases e2:σ[o]? with
   | none=>rw[e2]at h;cases h
   | some z=>rw[e2]at h;~congrArg some h
B5 SM{pins:List (Addr×Obj)}{σ:St}{H:Hp}{s:Shared}{scope:Scope}{N:List Str}{k:Nat}{fr:List Nat}{cl:List (Str×Addr)}{fp:List Addr}{h₁:Heap}{tk:Nat}{m:Str→Option Value}
    (I:Inv X pins σ H s) (B:kO X.env.scope scope X.N N k fr) (hf:∀b∈fp,Xe X pins H b) (hfo:∀b∈fp,b<s.heap.objs.size)
    (hcl:∀x c,cl.lookup x=some c→(x,NameKind.free)∈scope.names∧X.env.cells.lookup x=some c) (aCY:∀x,(x,NameKind.free)∈scope.names→∃c,cl.lookup x=some c)
    (hn:h₁.Ns (s.heap.objs.size+1) m) (hs:Heap.SameBut (s.heap.objs.size+1) ((s.heap.push {cls:=.type "list", data:=.seq ([]:List Value).toArray}).push {cls:=.type "dict", data:=.dict #[]}) h₁) :
    Inv (lE X scope N cl fp s H (s.heap.objs.size+1)) [] (blk k σ fr) (upd H s.heap.objs.size (.lst [])) {s with heap:=h₁,toks:=tk}:=by
  have I3:=I.aHw (ys:=[]) (its:=[]) (t':=tk) .nil (N4 _)
  have hD:H s.heap.objs.size=none:=I.fresh
  have hC:H (s.heap.objs.size+1)=none:=I.hok.fresh (N5 _)
  have neC:∀b o,(s.heap.push {cls:=.type "list", data:=.seq ([]:List Value).toArray}).get? b=some o→b≠s.heap.objs.size+1:=fun b o e=>by
    have:=Heap.lt_size e
    rw[Heap.size_push]at this
    ~E5 this
  have aEi:∀b o,(s.heap.push {cls:=.type "list", data:=.seq ([]:List Value).toArray}).get? b=some o→h₁.get? b=some o:=fun b o e=>
    hs.extBut b o (neC b o e) (Heap.get?_push_of_some _ e)
  have kept:∀b o,s.heap.get? b=some o→h₁.get? b=some o:=fun b o e=>aEi b o (Heap.get?_push_of_some _ e)
  &⟨⟨I.ok.mod,B.kind,I.ok.glob,I.ok.blt,N5 _,fun x y c h1 h2=>I.ok.inj x y c (hcl x c h1).2 (hcl y c h2).2,fun x hx=>aCY x (Xv B.cell hx),fun x c h _=>(nomatch h),
      I.ok.hd,I.ok.frames,.inl rfl,fun b hb=>⟨?_,fun x c e=>(hf b hb).2.2.2.2.1 x c (hcl x c e).2⟩,fun b o e=>I.bs b o e,G2 I.ok.bsz I.sz,fun b o e hb=>?_,fun b hb hb2=>?_,I.stack,I.ZG⟩,
    rfl,I.bare,Un.laid kept (C6 _) hD,⟨m,hn,fun i x v h1 h2 h3=>?_⟩,fun x c e=>?_,?_,fun x c e=>?_,fun p hp=>absurd (show p∈([]:List (Addr×Obj))from hp) (by simp),?_,?_⟩
  · ~E5 (M7 (hfo b hb))
  · rcases(hf b hb).2.2.2.1 with z | z
    · ~I.ok.yf b o e z
    · ~absurd (E1 (Heap.lt_size e) (G2 I.ok.bsz z)) (K7 _)
  · rcases C9.mp (I.Wz b hb2)with z | z
    · ~(hf b hb).2.1 z
    · ~(hf b hb).2.2.1 z
  · B3⟨j,o,rfl,h4,h5⟩:=aCX h2
    have h1:N[k+j]?=some x:=h1
    have hj:j<fr.length:=(D1.mp h4).1
    have hx:X.N[o]?=some x:=by
      have q:=B.slots j (F5.mpr hj)
      rw[B9,h4]at q
      ~q.trans h1
    B3⟨hfr,hre⟩:=B.from_ x (D9 (i:=j) (by rw[V0];~h1))
    have hk:=B.free _ hfr rfl
    B3⟨m0,hn0,hl0⟩:=I.loc
    have hv:Vis X.env.scope x:=by
      rcases hk with q | q
      · ~.inr (.inl q)
      · ~.inr (.inr q)
    B3⟨u,r,l⟩:=hl0 o x v hx h5 hv
    &⟨u,r,.inr ?_⟩
    rcases l with ⟨q,_⟩ | ⟨_,c,e,z⟩
    · rcases hk with q' | q'
      · ~absurd (q.symm.trans q') (by intro z;cases z)
      · ~absurd (q.symm.trans q') (by intro z;cases z)
    · B3⟨c',e'⟩:=aCY x hfr
      have e2:=(hcl x c' e').2
      rw[e]at e2
      cases e2
      &⟨hre,c,e',?_⟩
      B3⟨oc,hoc,hd⟩:=z
      ~⟨oc,kept c oc hoc,hd⟩
  · B3⟨v,oc,hoc,hd⟩:=I.cell x c (hcl x c e).2
    ~⟨v,oc,kept c oc hoc,hd⟩
  · show upd H s.heap.objs.size (.lst []) (s.heap.objs.size+1)=none
    rw[bQ (O6 (M0 _))]
    ~hC
  · have hc:=(hcl x c e).2
    B3⟨v,oc,hoc,hd⟩:=I.cell x c hc
    show upd H s.heap.objs.size (.lst []) c=none
    rw[bQ (E5 (Heap.lt_size hoc))]
    ~I.yM x c hc
  · ~Df.kept I3.hok aEi
  · show (blk k σ fr).length=N.length
    rw[B.len]
    B4 blk SJ
    simp
B5 GK{tg elt iter:Expr}{ifs:List Expr}{scope:Scope}{pos:Pos}{N:List Str}{k:Nat}{fr:List Nat}{g:TG}{tc:TT}{te:TE}{cl:List (Str×Addr)}{pins:List (Addr×Obj)}{σ:St}{H:Hp}{s:Shared}{it:Addr}{fp:List Addr}{tn:Nat→Heap→Prop}{J:It}{Q:VK}
    {RR:Value→Addr→Result→Shared→Prop} {E:Value→Shared→Prop} (hcalm:X.calm=true) (I:Inv X pins σ H s) (T:Turn X.prog X.w X.K tg J fp it tn) (st:tn 0 s.heap) (hf:∀b∈fp,Xe X pins H b) (B:kO X.env.scope scope X.N N k fr)
    (hcl:∀x c,cl.lookup x=some c→(x,NameKind.free)∈scope.names∧X.env.cells.lookup x=some c) (aCY:∀x,(x,NameKind.free)∈scope.names→∃c,cl.lookup x=some c)
    (hg:∀cl fp s H C,PG (lE X scope N cl fp s H C) tg g) (hc:∀cl fp s H C,PTs (lE X scope N cl fp s H C) ifs tc) (he:∀cl fp s H C,PE (lE X scope N cl fp s H C) elt te)
    (hw:∀D,H D=none→aEh J k fr g tc te σ H Q D)
    (hRR:∀D C m s' H',s'.heap.Ns C m→s.heap.objs.size≤C→H' C=none→C≠D→Inv X pins σ H' s'→Q (.ref D) H'→RR (.ref D) C (.ok .next) s') :
    wpAny (model X.prog X.w) X.A (newList []) (fun acc s₃=>wpAny (model X.prog X.w) X.A (newFunctionEnv scope X.env.globals cl [] X.env.qual none .none (some X.env)) (fun cenv s₄=>
      codeAny (model X.prog X.w) X.A (.compStart (.ListComp elt [⟨tg,iter,ifs,0⟩] scope pos) 0 (.ref it) acc {cenv with scope:=relabel scope X.env}) (RR acc cenv.locals) s₄) E s₃) E s:=by
  &wpAny_newObj_type (wpAny_newFunctionEnv B.cell (by intro y hy;simp at hy) (fun h₁ hns₁ hsb₁=>?_) B.kind)
  dsimp only at hns₁ hsb₁ ⊢
  rw[Heap.size_push]at hns₁ hsb₁ ⊢
  have hfo:∀b∈fp,b<s.heap.objs.size:=fun b hb=>by
    B3⟨o,e,_⟩:=T.obj 0 _ st b hb
    ~Heap.lt_size e
  have I4:=SM (tk:=s.toks+([]:List (Str×Value)).length) I B hf hfo hcl aCY hns₁ hsb₁
  generalize hD:s.heap.objs.size=D at *
  have hDn:H D=none:=by rw[←hD];~I.fresh
  B3⟨W,⟨m0,w0⟩,turn⟩:=hw D hDn
  have st1:tn 0 h₁:=T.keep 0 _ _ st fun b hb o e=>hsb₁.extBut b o (E5 (M7 (by have:=hfo b hb;~this))) (Heap.get?_push_of_some _ (Heap.get?_push_of_some _ e))
  have fr0:∀b∈fp,(upd H D (.lst [])) b=none:=fun b hb=>by
    rw[bQ (E5 (hfo b hb))]
    ~(hf b hb).1
  generalize hX':lE X scope N cl fp s H (D+1)=X' at I4
  have stat:∀{H':Hp},(∀b∈fp,H' b=none)→∀b∈fp,Xe X' [] H' b:=fun{H'} hn b hb=>by
    subst hX'
    &⟨hn b hb,?_,fun z=>?_,.inl hb,fun x c e=>(hf b hb).2.2.2.2.1 x c (hcl x c e).2,fun p hp=>absurd (show p∈([]:List (Addr×Obj))from hp) (by simp)⟩
    · ~E5 (M7 (hfo b hb))
    · rcases C9.mp (I.Wz b z)with z | z
      · ~(hf b hb).2.1 z
      · ~(hf b hb).2.2.1 z
  have loop:∀s₃:Shared,s₃={s with heap:=h₁,toks:=s.toks+([]:List (Str×Value)).length} →
      codeAny (model X.prog X.w) X.A (.compLoop (.ListComp elt [⟨tg,iter,ifs,0⟩] scope pos) 0 (.ref it) (.ref D) (compEnvC scope cl (D+1) X.env)) (RR (.ref D) (D+1)) s₃:=by
    rintro s₃ rfl
    &Cq (fun n s'=>∃i ys H',Inv X' [] (blk k σ fr) H' s'∧tn i s'.heap∧(∀b∈fp,H' b=none)∧W i n ys H') ?_ m0 ⟨0,[],_,I4,st1,fr0,w0⟩
    rintro n s5 ⟨i,ys,H5,I5,st5,fr5,w5⟩
    B3⟨hys,way⟩:=turn i n ys H5 w5
    have e1:X'.prog=X.prog:=by rw[←hX'];rfl
    have e2:X'.w=X.w:=by rw[←hX'];rfl
    have e3:X'.K=X.K:=by rw[←hX'];rfl
    have e4:X'.A=X.A:=by rw[←hX'];rfl
    have e5:X'.calm=true:=by rw[←hX'];~hcalm
    have e6:X'.env=compEnvC scope cl (D+1) X.env:=by rw[←hX'];rfl
    have e7:X'.xe=fun _ _=>False:=by rw[←hX'];rfl
    rcases way with ⟨stop,q⟩ | ⟨go,step⟩
    · have d:=T.done X' e1 e2 e3 e5 i [] s5 _ H5 (fun _ _=>False) I5 (stat fr5) st5 stop
      rw[e4]at d
      &jA d fun r s6 ⟨hr,I6⟩=>?_
      subst hr
      subst hX'
      B3⟨m6,hn6,_⟩:=I6.loc
      &hRR D (D+1) m6 s6 H5 hn6 (N5 _) I6.free (O6 (M0 _)) ?_ q
      ~I.call' I6.os I6.base I6.hok I6.bare fun b hb=>⟨(hf b hb).2.2.2.1,(hf b hb).2.1,(hf b hb).2.2.2.2.1,(hf b hb).2.2.2.2.2⟩
    · have d:=T.item X' e1 e2 e3 e5 i [] s5 _ H5 (fun _ _=>False) I5 (stat fr5) st5 go
      rw[e4]at d
      &jA d fun r s6 ⟨u,hr,h6⟩=>?_
      subst hr
      &jA h6 fun _ s7 ⟨x,H7,I7,r7,y7,st7,fr7⟩=>?_
      have I7':=I7.pinned (stat fr7) (T.obj _ _ st7)
      have hg':PG X' tg g:=by rw[←hX'];~hg _ _ _ _ _
      have hc':PTs X' ifs tc:=by rw[←hX'];~hc _ _ _ _ _
      have he':PE X' elt te:=by rw[←hX'];~he _ _ _ _ _
      have a1:=hg' _ s7 _ H7 x u _ I7' r7 (step x H7 y7)
      rw[e1,e2,e4,e6,e7]at a1
      &jA a1 fun _ s8 ⟨σ8,H8,I8,⟨kl,kk⟩,q8⟩=>?_
      have a2:=hc' _ s8 σ8 H8 _ I8 q8
      rw[e1,e2,e4,e6,e7]at a2
      &jA a2 fun ok s9 ⟨H9,I9,q9⟩=>?_
      have again:∀{Ha:Hp} {ya:List V} {sa:Shared},Inv X' ([]++Nm fp s7.heap) σ8 Ha sa→(∃m',m'<n∧W (i+1) m' ya Ha) →
          ∃m,m<n∧∃i ys H',Inv X' [] (blk k σ fr) H' sa∧tn i sa.heap∧(∀b∈fp,H' b=none)∧W i m ys H':=fun{Ha ya sa} Ia ⟨m',hm,w'⟩=>by
        &⟨m',hm,i+1,ya,Ha,(Ia.weak kl.symm kk).Ft,T.keep _ _ _ st7 fun b hb o e=>(Ia.pin (b,o) (G3 _ (G3 _ (wO hb e)))).1,fun b hb=>?_,w'⟩
        B3⟨o,e,d⟩:=T.obj _ _ st7 b hb
        ~(Ia.pin (b,o) (G3 _ (G3 _ (wO hb e)))).2.1
      cases ok with
      | false=>~again I9 q9
      | true=>
        have a3:=he' _ s9 σ8 H9 _ I9 q9
        rw[e1,e2,e4,e6,e7]at a3
        show wpAny _ _ _ _ _ s9
        &jA a3 fun v s10 ⟨y,H10,I10,r10,hD10,hz,q10⟩=>?_
        have a4:=mJ (X:=X') _ s10 σ8 H10 (.ref D) [y] (.ref D) [v] (fun _ H11=>H11=upd H10 D (.lst (ys++[y]))) I10 rfl (.cons r10 .nil) ⟨D,ys,y,rfl,rfl,hD10,hz,rfl⟩
        rw[e1,e2,e4,e7]at a4
        &jA a4 fun _ s11 ⟨_,H11,I11,_,e11⟩=>?_
        subst e11
        ~again I11 q10
  ~codeAny_compStart_list (loop _ rfl) (T.self _ 0 _ _ _ st1 (loop _ rfl))
B5 aCZ{tg elt iter:Expr}{ifs:List Expr}{scope:Scope}{pos:Pos}{wi:TI}{g:TG}{tc:TT}{te:TE}(N:List Str)(k:Nat)(fr:List Nat)(hcalm:X.calm=true)(B:kO X.env.scope scope X.N N k fr)(hi:PI X tg iter wi)
  (hg:∀cl fp s H C,PG (lE X scope N cl fp s H C) tg g) (hc:∀cl fp s H C,PTs (lE X scope N cl fp s H C) ifs tc) (he:∀cl fp s H C,PE (lE X scope N cl fp s H C) elt te)
  (hs:∀x,foldedSetIterable iter X.env x=pure x:=by intro _;rfl):PE X (.ListComp elt [⟨tg,iter,ifs,0⟩] scope pos) (GJ wi k fr g tc te):=by
 intro pins s σ H Q I h
 B3⟨cl,e,h1,h2⟩:=Dg scope X.env fun y hy hk=>I.ok.has y.1 (B.free y hy hk)
 rw[eval_ListComp]
 &wpAny_comprehension_free (use:=none) rfl hs e B.kind B.loc (wpAny_mono (hi pins s σ H _ I h) (fun xv s₁ q₁=>wpAny_mono q₁ (fun itv s₂ q₂=>?_) fun _ _ x=>x) fun _ _ x=>x)
 B3⟨it,fp,tn,J,H2,rfl,I2,T,st2,f2,hw⟩:=q₂
 &GK (Q:=Q) (RR:=fun acc C=>compPost (model X.prog X.w) X.A X.xe none (EP X pins σ Q) acc C) hcalm I2 T st2 f2 B h1 h2 hg hc he hw ?_
 intro D C m s' H' hn hC hf hne I' q
 &⟨m,hn,fun h' hs'=>⟨.ref D,H',?_,rfl,q⟩⟩
 ~I'.turned (t':=s'.toks) (fun b o hb eb=>(hs'.2 b hb).trans eb) hf (O6 (E1 I2.lt hC)) (.inr (G2 I2.sz hC)) (fun x c ec z=>by
  B3⟨v,q⟩:=I2.cell x c ec
  ~absurd (E1 q.lt (by rw[z];~hC)) (K7 _)) fun p hp z=>absurd (E1 (Heap.lt_size (I2.pin p hp).1) (by rw[z];~hC)) (K7 _)
B5 aC0{tg elt iter:Expr}{ifs:List Expr}{scope:Scope}{pos spos py:Pos}{y:Str}{i:Nat}{wi:TI}{g:TG}{tc:TT}{te:TE}(N:List Str)(k:Nat)(fr:List Nat)(hcalm:X.calm=true)(B:kO X.env.scope scope X.N N k fr)(hN:X.N.Nodup)(hy:X.N[i]?=some y)(hx:Loc X.env.scope y)(hi:PI X tg iter wi)
  (hg:∀cl fp s H C,PG (lE X scope N cl fp s H C) tg g) (hc:∀cl fp s H C,PTs (lE X scope N cl fp s H C) ifs tc) (he:∀cl fp s H C,PE (lE X scope N cl fp s H C) elt te)
  (hsw:swapsWith (.ListComp elt [⟨tg,iter,ifs,0⟩] scope pos) (some (.Name y py)) spos.line X.env=pure true:=by rfl)
  (hs:∀x,foldedSetIterable iter X.env x=pure x:=by intro _;rfl) (hf:X.fn y=true∨X.env.scope.names.lookup y=some .local:=by first | ~.inl rfl | ~.inr rfl | assumption) :
  PS X (.Assign [.Name y py] (.ListComp elt [⟨tg,iter,ifs,0⟩] scope pos) spos) (uD (GJ wi k fr g tc te) (iR i)):=by
 intro pins s σ H D I h
 B3⟨cl,e,h1,h2⟩:=Dg scope X.env fun y hy hk=>I.ok.has y.1 (B.free y hy hk)
 rw[exec_Assign_Name_used _ _ _ _ hsw]
 &wpAny_bind (wpAny_standAt (wpAny_bind ?_))
 show wpAny _ X.A (do let _ ←comprehension (.ListComp elt [⟨tg,iter,ifs,0⟩] scope pos) scope X.env _ (newList []) false (eval iter X.env) (some (assign (.Name y py) X.env))) _ _ s
 &wpAny_bind (wpAny_mono (wpAny_comprehension_free (use:=some (assign (.Name y py) X.env)) (Q:=fun _ s'=>SP X pins D .next s') rfl hs e B.kind B.loc
  (wpAny_mono (hi pins s σ H _ I h) (fun xv s₁ q₁=>wpAny_mono q₁ (fun itv s₂ q₂=>?_) fun _ _ x=>x) fun _ _ x=>x)) (fun _ s' hq=>wpAny_pure (wpAny_pure hq)) fun _ _ x=>x)
 B3⟨it,fp,tn,J,H2,rfl,I2,T,st2,f2,hw⟩:=q₂
 &GK (Q:=fun x H1=>iR i x σ H1 D.nx) (RR:=fun acc C=>compPost (model X.prog X.w) X.A X.xe (some (assign (.Name y py) X.env)) (fun _ s'=>SP X pins D .next s') acc C) hcalm I2 T st2 f2 B h1 h2 hg hc he hw ?_
 intro E C m s' H' hn hC hfr hne I' q
 show wpAny _ X.A (assign (.Name y py) X.env (.ref E)) _ _ _
 have cne:∀x c,X.env.cells.lookup x=some c→c≠C:=fun x c ec z=>by
  B3⟨v,q⟩:=I2.cell x c ec
  ~absurd (E1 q.lt (by rw[z];~hC)) (K7 _)
 &wpAny_assign_Name (Ud I' hN hy hx (show RelV (.ref E) (.ref E)from rfl) (fun s6 I6 ⟨a,hsb,ha⟩=>?_) hf)
 have neA:C≠a:=by
  rcases ha with z | z
  ·rw[z];~O6 (E1 I2.lt hC)
  ·~fun q=>cne _ _ z q.symm
 &⟨m,hn.sameBut hsb neA,fun h'' hs''=>⟨_,H',?_,q⟩⟩
 ~I6.turned (t':=s6.toks) (fun b o hb eb=>(hs''.2 b hb).trans eb) hfr (O6 (E1 I2.lt hC)) (.inr (G2 I2.sz hC)) cne
  fun p hp z=>absurd (E1 (Heap.lt_size (I2.pin p hp).1) (by rw[z];~hC)) (K7 _)
end
end L2


set_option maxHeartbeats 4000000
namespace L2
open PySem PySem.Spec PyProof.Rows
def JIs(J:It)(P:Hp→Prop)(xs:List V):Prop:=
 ∀i H,P H→(i<xs.length→J.go i H)∧(∀x H',J.yld i H x H'→H'=H∧(i<xs.length→xs[i]?=some x))∧(xs.length≤i→J.stop i H)
B5 Ob{K:aF}{a:Addr}{xs:List V}:JIs (Itl K a) (fun H=>pK K H a xs) xs:=fun i H hq=>
 ⟨fun h=>⟨xs,xs[i],hq,by simp[h]⟩,fun x H' ⟨e,y⟩=>⟨e,fun _=>y xs hq⟩,fun h=>⟨xs,hq,h⟩⟩
B5 aC1{K:aF}{a:Addr}{xs:List V}:JIs (Itt K a) (fun H=>zO K H a xs) xs:=fun i H hq=>
 ⟨fun h=>⟨xs,xs[i],hq,by simp[h]⟩,fun x H' ⟨e,y⟩=>⟨e,fun _=>y xs hq⟩,fun h=>⟨xs,hq,h⟩⟩
B5 Iv{lo:Int}{n:Nat}:JIs (Itr lo n) (fun _=>True) ((D2 n).map fun i:Nat=>V.int (lo+(i:Int))):=fun i H _=>
 ⟨fun h=>show i<n by simpa using h,fun x H' ⟨e,y⟩=>⟨e,fun h=>by
  have h:i<n:=by simpa using h
  subst y
  simp[h]⟩,fun h=>show n≤i by simpa using h⟩
section
variable{X:Cx}
B5 jH{scope:Scope}{N:List Str}{x:Str}{pos:Pos}(hN:N.Nodup)(hi:N[0]?=some x)(hx:(vM scope X.env.scope).names.lookup x=some .local) :
  ∀cl fp s H C,PG (lE X scope N cl fp s H C) (.Name x pos) (iR 0):=fun _ _ _ _ _=>lJ hN hi (D6 hx) (D5 hx)
B5 aC2{P:Program}{w:World}{k:Key}{v:Value}(h:(iW P w).is k v=true):RelV (kV k) v:=by
 rcases iH (k:=k) (v:=v) h with ⟨i,t,rfl,rfl⟩ | ⟨x,t,rfl,rfl⟩
 ·~⟨t,rfl⟩
 ·~⟨t,rfl⟩
B5 Mj{J:It}{P:Hp→Prop}{xs:List V}(hJ:JIs J P xs){g:TG}{tb:TS}{D:Ends}{σ:St}{H:Hp}(Pv:Nat→St→Hp→Prop)(h0:Pv 0 σ H)(hl:∀i σ H,i≤xs.length→Pv i σ H→P H)
  (hs:∀i x σ H,xs[i]?=some x→Pv i σ H→g x σ H fun σ2 H2=>tb {D with nx:=Pv (i+1),ct:=Pv (i+1),bk:=D.nx} σ2 H2) (hd:∀σ H,Pv xs.length σ H→D.nx σ H) :
  ∃W:Nat→Nat→St→Hp→Prop,(∃m,W 0 m σ H)∧∀i m σ H,W i m σ H →
   (J.stop i H∧D.nx σ H)∨(J.go i H∧∃N:St→Hp→Prop,(∀σ' H',N σ' H'→∃m',m'<m∧W (i+1) m' σ' H')∧∀x H',J.yld i H x H'→g x σ H' fun σ2 H2=>tb {D with nx:=N,ct:=N,bk:=D.nx} σ2 H2):=by
 &⟨fun i m σ H=>m=xs.length-i∧i≤xs.length∧Pv i σ H,⟨xs.length,by simp,N4 _,h0⟩,?_⟩
 rintro i m σ H ⟨rfl,hi,p⟩
 B3⟨j1,j2,j3⟩:=hJ i H (hl i σ H hi p)
 by_cases hlt:i<xs.length
 ·&.inr ⟨j1 hlt,Pv (i+1),fun σ' H' p'=>⟨xs.length-(i+1),by omega,rfl,hlt,p'⟩,fun x H' y=>?_⟩
  B3⟨e,ex⟩:=j2 x H' y
  subst e
  ~hs i x σ _ (ex hlt) p
 ·have e:i=xs.length:=by omega
  subst e
  ~.inl ⟨j3 (C6 _),hd σ H p⟩
end
end L2


namespace L2
open PySem PySem.Spec PyProof.Rows
section
variable{X:Cx}
B5 Lb:∀{bs:List Bool} {us:List Value},Vals (bs.map V.bl) us→us=bs.map Value.bool
 | [],us,r=>by rw[J2]at r;cases r;rfl
 | b::bs,us,r=>by
  rw[D3]at r
  cases r with
  | cons r1 r2=>
   cases(show _=Value.bool b from r1)
   rw[Lb r2]
   rfl
B5 SN(bs:List Bool):((D2 bs.length).all fun i=>(bs[i]?).getD true)=bs.all id:=by
 rw[M8,M3,M3]
 constructor
 ·intro h b hb
  B3⟨i,hi,rfl⟩:=J6 hb
  have:=h i (F5.mpr hi)
  simpa[hi]using this
 ·intro h i hi
  have hi':=F5.mp hi
  simp only[B6 hi',S9]
  ~h _ (O9 hi')
B5 ak{s:Shared}{h':Heap}{o:Obj}(hk:∀b x,b∉[s.heap.objs.size]→(s.heap.push o).get? b=some x→h'.get? b=some x):∀b x,s.heap.get? b=some x→h'.get? b=some x:=
 fun b x e=>hk b x (fun hm=>by rw[E3.mp hm]at e;~K7 _ (Heap.lt_size e)) (Heap.get?_push_of_some _ e)
B5 aAp(hc:X.calm=true):nF X (.builtin "all") (fun xs H Q=>∃(p:Addr)(bs:List Bool),xs=[.ref p]∧pK X.K H p (bs.map V.bl)∧Q (.bl (bs.all id)) H):=by
 intro pins s σ H xs us Q I r h
 B3⟨p,bs,rfl,hq,q⟩:=h
 B3⟨u,rfl,rx⟩:=vals1 r
 cases rx
 B3⟨its,rv,pl,hz⟩:=I.list hq
 have hb:=Lb rv
 subst hb
 have hl:=pl.isList
 have hlt:p<s.heap.objs.size:=by B3⟨_,e,_⟩:=hl;~Heap.lt_size e
 &call_all_walk (wpAny_pyIter_list hl ?_)
 &⟨s.heap.objs.size,[s.heap.objs.size,p],[s.heap.objs.size],_,_,_,fun i=>(bs[i]?).getD true,rfl,Walks.list (A:=X.A.in1) (I.ok.hd hc) _ p (E5 hlt) _,
  ⟨⟨_,Heap.get?_push_size _ rfl,rfl,rfl⟩,hl.push _⟩,fun i v s' Q' E' hP hQ=>?_,fun h' tk hk=>?_⟩
 ·have e:(bs.map Value.bool)[i]?=some v:=by simpa using hP
  rw[B8]at e
  cases e2:bs[i]? with
  | none=>rw[e2]at e;cases e
  | some b=>
   rw[e2]at e
   cases e
   simp only[e2,S9]at hQ
   ~wpAny_truthy_bool hQ
 ·have e:((D2 (bs.map Value.bool).toArray.size).all fun i=>(bs[i]?).getD true)=bs.all id:=by
   rw[C5,B7];~SN bs
  rw[e]
  ~⟨.bl _,H,I.kept (ak hk),rfl,q⟩
B5 ou{P:Program}{w:World}{kvs:List (Key×V)}{vs:List (Key×Value)}(rel:KV kvs vs){us:List Value}(hl:us.length=vs.length)(hv:∀(j:Nat)(v:Value),us[j]?=some v→∃k x,vs[j]?=some (k,x)∧(iW P w).is k v=true) :
  Vals (kvs.map fun kv=>kV kv.1) us:=by
 have ek:=KV.keys rel
 have e0:(kvs.map fun kv=>kV kv.1)=(vs.map (·.1)).map kV:=by rw[←ek,K5];rfl
 rw[e0]
 clear e0 ek rel
 induction vs generalizing us with
 | nil=>
  cases us with
  | nil=>~.nil
  | cons _ _=>simp at hl
 | cons p r ih=>
  cases us with
  | nil=>simp at hl
  | cons u us=>
   &.cons ?_ (ih (by simpa using hl) fun j v e=>by simpa using hv (j+1) v (by simpa using e))
   B3⟨k,x,e,h⟩:=hv 0 u rfl
   simp at e
   subst e
   ~aC2 h
B5 zU(hc:X.calm=true):nF X (.type "list") (fun xs H Q=>∃p kvs,xs=[.ref p]∧Rd H p (.dK kvs)∧∀l,H l=none→Q (.ref l) (upd H l (.lst (kvs.map fun kv=>kV kv.1)))):=by
 intro pins s σ H xs us Q I r h
 B3⟨p,kvs,rfl,hq,q⟩:=h
 B3⟨u,rfl,rx⟩:=vals1 r
 cases rx
 B3⟨hz,hsm,vs,rel,dd⟩:=La I.hok hq
 B3⟨ep,hat⟩:=dd.dictAt
 have hl:=KV.length rel
 &PySem.W.kdl_call (PySem.W.kdl_dict (knd:=iW X.prog X.w) (kvs:=vs) (ep:=ep) hsm) (I.ok.hd hc) hat A6 ?_
 intro h' tk acc c kp e hacc
 have hk:=ou (P:=X.prog) (w:=X.w) rel (us:=acc.toList) (by rw[K3];~hacc.1) fun j v ej=>hacc.2 j v (by rw[←L8];~ej)
 ~⟨.ref s.heap.objs.size,_,I.laid (t':=tk) kp (C6 _) (show jG X.prog X.w _ h' _ (.lst (kvs.map fun kv=>kV kv.1))from⟨by rw[B7];~hz,acc.toList,c,hk,by simpa using e⟩),rfl,q _ (I.hok.fresh (C6 _))⟩
def rising(ns ms:List Int):Prop:=ms.Perm ns∧ms.Pairwise (·≤·)
B5 GP:nF X (.builtin "sorted") (fun xs H Q=>∃(p:Addr)(ns:List Int),xs=[.ref p]∧pK X.K H p (ns.map V.int)∧ns.length<64∧∀l ms,H l=none→rising ns ms→Q (.ref l) (upd H l (.lst (ms.map V.int)))):=by
 intro pins s σ H xs us Q I r h
 B3⟨p,ns,rfl,hq,h64,q⟩:=h
 B3⟨u,rfl,rx⟩:=vals1 r
 cases rx
 B3⟨its,rv,pl,hz⟩:=I.list hq
 have hlen:=rv.length
 rw[B7]at hlen
 &sorted_ints pl.isList (intsAre_of rv) A6 fun out ns' a1 a2 a3=>?_
 B3⟨e,he⟩:=sortedAll_at s.heap its out
 have hl2:ns'.length=ns.length:=a2.length_eq
 have hs:H (s.heap.objs.size+1)=none:=I.hok.fresh (N5 _)
 have I2:=I.laid (t':=s.toks) (a:=s.heap.objs.size+1) (o:=.lst (ns'.map V.int)) (h':=sortedAll s.heap its out) (fun b o e=>sortedAll_old e) (N5 _)
  ⟨by rw[B7];~O5 (vL A6),out.toList,e,Bf a1,by simpa[seqObj]using he⟩
 ~⟨.ref _,_,I2,rfl,q _ _ hs ⟨a2,a3⟩⟩
end
inductive DV where
  | int (i:Int) | non | lst (ds:List DV) | tup (ds:List DV)
mutual
def Reads(K:aF)(H:Hp):DV→V→Prop
 | .int i,x=>x=.int i
 | .non,x=>x=.non
 | .lst ds,x=>∃a xs,x=.ref a∧pK K H a xs∧eN K H ds xs
 | .tup ds,x=>∃a xs,x=.ref a∧zO K H a xs∧eN K H ds xs
def eN(K:aF)(H:Hp):List DV→List V→Prop
 | [],xs=>xs=[]
 | d::ds,xs=>∃y ys,xs=y::ys∧Reads K H d y∧eN K H ds ys
end
mutual
def DV.depth:DV→Nat
 | .int _=>0
 | .non=>0
 | .lst ds=>gQ ds+1
 | .tup ds=>gQ ds+1
def gQ:List DV→Nat
 | []=>0
 | d::ds=>max d.depth (gQ ds)
end
B5 eN.length{K:aF}{H:Hp}:∀{ds:List DV} {xs:List V},eN K H ds xs→xs.length=ds.length
 | [],xs,h=>by
  B4 eN at h
  rw[h]
  rfl
 | d::ds,xs,h=>by
  B4 eN at h
  B3⟨y,ys,rfl,_,h2⟩:=h
  simp[eN.length h2]
B5 eN.get{K:aF}{H:Hp}:∀{ds:List DV} {xs:List V} {i:Nat} {d:DV},eN K H ds xs→ds[i]?=some d→∃x,xs[i]?=some x∧Reads K H d x
 | [],xs,i,d,h,e=>by simp at e
 | d'::ds,xs,0,d,h,e=>by
  B4 eN at h
  B3⟨y,ys,rfl,h1,_⟩:=h
  simp at e
  subst e
  ~⟨y,rfl,h1⟩
 | d'::ds,xs,i+1,d,h,e=>by
  B4 eN at h
  B3⟨y,ys,rfl,_,h2⟩:=h
  B3⟨x,e1,e2⟩:=eN.get h2 (by simpa using e)
  ~⟨x,by simpa using e1,e2⟩
B5 Oc:∀{ds:List DV} {i:Nat} {d:DV},ds[i]?=some d→d.depth≤gQ ds
 | [],i,d,e=>by simp at e
 | d'::ds,0,d,e=>by
  simp at e
  subst e
  B4 gQ
  ~Nat.le_max_left _ _
 | d'::ds,i+1,d,e=>by
  have:=Oc (ds:=ds) (i:=i) (d:=d) (by simpa using e)
  B4 gQ
  ~G2 this (Nat.le_max_right _ _)
B5 SQ(A:Around):A.in1.units=A.units+1:=rfl
section
open SeqAt
open Classical in
noncomputable def zV(d e:DV):Bool:=decide (d=e)
B5 vN{d e:DV}:zV d e=true↔d=e:=by B4 zV;simp
B5 vO(d:DV):zV d d=true:=vN.mpr rfl
B5 jZ{d e:DV}(h:d≠e):zV d e=false:=by B4 zV;simp[h]
B5 aC3(a b:Int):zV (.int a) (.int b)=(a==b):=by
 by_cases h:a=b
 ·subst h;simp[vO]
 ·rw[jZ (by simpa using h)];simp[h]
open Classical in
B5 pX{ds es:List DV}(hl:ds.length=es.length):((D2 ds.length).all fun i=>match ds[i]?,es[i]? with | some d,some e=>zV d e | _,_=>true)=decide (ds=es):=by
 rw[M8,M3,decide_eq_true_iff]
 constructor
 ·intro h
  apply X0 hl
  intro i h1 h2
  have:=h i (F5.mpr h1)
  simp only[B6 h1,B6 h2]at this
  ~vN.mp this
 ·rintro rfl i hi
  have hi':=F5.mp hi
  simp only[B6 hi']
  ~vO _
variable{X:Cx}{pins:List (Addr×Obj)}{σ:St}{H:Hp}{s:Shared}
open Classical in
B5 ao(ds es:List DV):zV (.lst ds) (.lst es)=decide (ds=es):=by
 by_cases h:ds=es
 ·subst h;simp[vO]
 ·rw[jZ (by intro z;cases z;~h rfl)];simp[h]
open Classical in
B5 aq(ds es:List DV):zV (.tup ds) (.tup es)=decide (ds=es):=by
 by_cases h:ds=es
 ·subst h;simp[vO]
 ·rw[jZ (by intro z;cases z;~h rfl)];simp[h]
B5 Uu(I:Inv X pins σ H s):∀(n:Nat)(d e:DV)(x:V),d.depth≤n→Reads X.K H d x→Reads X.K H e x→d=e:=by
 have lists:∀(n:Nat),(∀(d e:DV)(x:V),d.depth≤n→Reads X.K H d x→Reads X.K H e x→d=e)→∀(ds es:List DV)(xs:List V),gQ ds≤n→eN X.K H ds xs→eN X.K H es xs→ds=es:=by
  intro n ih ds
  induction ds with
  | nil=>
   intro es xs _ h1 h2
   have l1:=h1.length
   have l2:=h2.length
   cases es with
   | nil=>rfl
   | cons _ _=>rw[l1]at l2;simp at l2
  | cons d ds ihl=>
   intro es xs hd h1 h2
   have hd1:d.depth≤n:=by B4 gQ at hd;omega
   have hd2:gQ ds≤n:=by B4 gQ at hd;omega
   B4 eN at h1
   B3⟨y,ys,rfl,a1,a2⟩:=h1
   cases es with
   | nil=>have:=h2.length;simp at this
   | cons e es=>
    B4 eN at h2
    B3⟨y',ys',q,b1,b2⟩:=h2
    cases q
    rw[ih d e y hd1 a1 b1,ihl es ys hd2 a2 b2]
 have kinds:∀{a:Addr} {xs ys:List V},pK X.K H a xs→zO X.K H a ys→False:=fun{a xs ys} h1 h2=>by
  B3⟨_,_,p1,_⟩:=I.list h1
  B3⟨_,_,p2,_⟩:=I.tuple h2
  ~ne_of_list_tuple p1.isList (show s.heap.IsTuple a _ from p2) rfl
 intro n
 induction n with
 | zero=>
  intro d e x hd h1 h2
  cases d with
  | int i=>
   B4 Reads at h1
   subst h1
   cases e with
   | int j=>B4 Reads at h2;cases h2;rfl
   | non=>B4 Reads at h2;cases h2
   | lst es=>B4 Reads at h2;B3⟨_,_,q,_⟩:=h2;cases q
   | tup es=>B4 Reads at h2;B3⟨_,_,q,_⟩:=h2;cases q
  | non=>
   B4 Reads at h1
   subst h1
   cases e with
   | non=>rfl
   | int j=>B4 Reads at h2;cases h2
   | lst es=>B4 Reads at h2;B3⟨_,_,q,_⟩:=h2;cases q
   | tup es=>B4 Reads at h2;B3⟨_,_,q,_⟩:=h2;cases q
  | lst ds=>B4 DV.depth at hd;omega
  | tup ds=>B4 DV.depth at hd;omega
 | succ n ih=>
  intro d e x hd h1 h2
  cases d with
  | int i=>
   B4 Reads at h1
   subst h1
   cases e with
   | int j=>B4 Reads at h2;cases h2;rfl
   | non=>B4 Reads at h2;cases h2
   | lst es=>B4 Reads at h2;B3⟨_,_,q,_⟩:=h2;cases q
   | tup es=>B4 Reads at h2;B3⟨_,_,q,_⟩:=h2;cases q
  | non=>
   B4 Reads at h1
   subst h1
   cases e with
   | non=>rfl
   | int j=>B4 Reads at h2;cases h2
   | lst es=>B4 Reads at h2;B3⟨_,_,q,_⟩:=h2;cases q
   | tup es=>B4 Reads at h2;B3⟨_,_,q,_⟩:=h2;cases q
  | lst ds=>
   B4 Reads at h1
   B3⟨a,xs,rfl,hq,r⟩:=h1
   cases e with
   | int j=>B4 Reads at h2;cases h2
   | non=>B4 Reads at h2;cases h2
   | lst es=>
    B4 Reads at h2
    B3⟨b,ys,q,hq2,r2⟩:=h2
    cases q
    have:=I.EY hq hq2
    subst this
    rw[lists n ih ds es xs (by B4 DV.depth at hd;omega) r r2]
   | tup es=>
    B4 Reads at h2
    B3⟨b,ys,q,hq2,r2⟩:=h2
    cases q
    ~(kinds hq hq2).elim
  | tup ds=>
   B4 Reads at h1
   B3⟨a,xs,rfl,hq,r⟩:=h1
   cases e with
   | int j=>B4 Reads at h2;cases h2
   | non=>B4 Reads at h2;cases h2
   | lst es=>
    B4 Reads at h2
    B3⟨b,ys,q,hq2,r2⟩:=h2
    cases q
    ~(kinds hq2 hq).elim
   | tup es=>
    B4 Reads at h2
    B3⟨b,ys,q,hq2,r2⟩:=h2
    cases q
    have:=I.Ue hq hq2
    subst this
    rw[lists n ih ds es xs (by B4 DV.depth at hd;omega) r r2]
B5 aAq(I:Inv X pins σ H s)(i:Int)(e:DV)(y:V)(u v:Value)(A:Around)(hu:A.units<cLine)(r2:Reads X.K H e y)(rx:RelV (.int i) u)(ry:RelV y v):RcAt A s u v (zV (.int i) e)∧EqAt A s u v (zV (.int i) e):=by
 B3⟨t,rfl⟩:=rx
 cases e with
 | int j=>
  B4 Reads at r2
  subst r2
  B3⟨t',rfl⟩:=ry
  rw[aC3]
  ~⟨RcAt.int_int _ _ _ _,EqAt.int_int _ _ _ _⟩
 | non=>
  B4 Reads at r2
  subst r2
  cases ry
  rw[jZ (by intro z;cases z)]
  ~⟨RcAt.int_none _ _,EqAt.int_none _ _⟩
 | lst es=>
  B4 Reads at r2
  B3⟨b,ys,rfl,hq,_⟩:=r2
  cases ry
  B3⟨its,_,pl,_⟩:=I.list hq
  rw[jZ (by intro z;cases z)]
  ~⟨RcAt.int_list _ _ pl.isList (hu),EqAt.int_list _ _ pl.isList (hu)⟩
 | tup es=>
  B4 Reads at r2
  B3⟨b,ys,rfl,hq,_⟩:=r2
  cases ry
  B3⟨its,_,pl,_⟩:=I.tuple hq
  rw[jZ (by intro z;cases z)]
  ~⟨RcAt.int_tuple _ _ pl (hu),EqAt.int_tuple _ _ pl (hu)⟩
B5 aAr(I:Inv X pins σ H s)(e:DV)(y:V)(u v:Value)(A:Around)(hu:A.units<cLine)(r2:Reads X.K H e y)(rx:RelV .non u)(ry:RelV y v):RcAt A s u v (zV .non e)∧EqAt A s u v (zV .non e):=by
 cases rx
 cases e with
 | non=>
  B4 Reads at r2
  subst r2
  cases ry
  rw[vO]
  ~⟨RcAt.none_none,EqAt.same _⟩
 | int j=>
  B4 Reads at r2
  subst r2
  B3⟨t',rfl⟩:=ry
  rw[jZ (by intro z;cases z)]
  ~⟨RcAt.none_int _ _,EqAt.none_int _ _⟩
 | lst es=>
  B4 Reads at r2
  B3⟨b,ys,rfl,hq,_⟩:=r2
  cases ry
  B3⟨its,_,pl,_⟩:=I.list hq
  rw[jZ (by intro z;cases z)]
  ~⟨RcAt.none_list pl.isList hu,EqAt.none_list pl.isList hu⟩
 | tup es=>
  B4 Reads at r2
  B3⟨b,ys,rfl,hq,_⟩:=r2
  cases ry
  B3⟨its,_,pl,_⟩:=I.tuple hq
  rw[jZ (by intro z;cases z)]
  ~⟨RcAt.none_tuple pl hu,EqAt.none_tuple pl hu⟩
B5 Od(I:Inv X pins σ H s):∀(n:Nat)(A:Around),(∀(d e:DV)(x y:V)(u v:Value)(A:Around),d.depth≤n→A.units+n<cLine→Reads X.K H d x→Reads X.K H e y→RelV x u→RelV y v→RcAt A s u v (zV d e)∧EqAt A s u v (zV d e)) →
  ∀(ds es:List DV)(xs ys:List V)(us vs:List Value),gQ ds≤n→A.units+(n+1)<cLine→eN X.K H ds xs→eN X.K H es ys→Vals xs us→Vals ys vs →
  ∀j (h1:j<us.toArray.size) (h2:j<vs.toArray.size),EqAt A.in1 s us.toArray[j] vs.toArray[j] (match ds[j]?,es[j]? with | some d,some e=>zV d e | _,_=>true):=by
 intro n A ih ds es xs ys us vs hd hu r1 r2 v1 v2 j h1 h2
 have l1:j<ds.length:=by rw[←r1.length,v1.length];simpa using h1
 have l2:j<es.length:=by rw[←r2.length,v2.length];simpa using h2
 B3⟨x,ex,rx⟩:=r1.get (i:=j) (d:=ds[j]) (by simp)
 B3⟨y,ey,ry⟩:=r2.get (i:=j) (d:=es[j]) (by simp)
 B3⟨u,eu,ru⟩:=v1.get ex
 B3⟨v,ev,rv⟩:=v2.get ey
 have e1:us.toArray[j]=u:=by
  rw[D1]at eu
  B3⟨_,eu⟩:=eu
  simpa using eu
 have e2:vs.toArray[j]=v:=by
  rw[D1]at ev
  B3⟨_,ev⟩:=ev
  simpa using ev
 rw[e1,e2]
 simp only[B6 l1,B6 l2]
 ~(ih _ _ x y u v A.in1 (G2 (Oc (i:=j) (by simp)) hd) (by rw[SQ];omega) rx ry ru rv).2
B5 Xw(I:Inv X pins σ H s):∀(n:Nat)(d e:DV)(x y:V)(u v:Value)(A:Around),d.depth≤n→A.units+n<cLine→Reads X.K H d x→Reads X.K H e y→RelV x u→RelV y v→RcAt A s u v (zV d e)∧EqAt A s u v (zV d e):=by
 have items:=Od I
 have seqs:∀(n:Nat)(A:Around),(∀(d e:DV)(x y:V)(u v:Value)(A:Around),d.depth≤n→A.units+n<cLine→Reads X.K H d x→Reads X.K H e y→RelV x u→RelV y v→RcAt A s u v (zV d e)∧EqAt A s u v (zV d e)) →
   ∀(d e:DV)(x y:V)(u v:Value),d.depth≤n+1→A.units+(n+1)<cLine→Reads X.K H d x→Reads X.K H e y→RelV x u→RelV y v→RcAt A s u v (zV d e)∧EqAt A s u v (zV d e):=by
  intro n A ih d e x y u v hd hu r1 r2 rx ry
  have of_same:∀{a b:Addr} {k:Bool},(a=b→k=true)→RcAt A s (.ref a) (.ref b) k→EqAt A s (.ref a) (.ref b) k:=fun{a b k} hk h=>by
   by_cases hab:a=b
   ·subst hab
    rw[hk rfl]
    ~EqAt.same _
   ·~EqAt.of_refs hab h
  cases d with
  | int i=>
   B4 Reads at r1
   subst r1
   ~aAq I i e y u v A A6 r2 rx ry
  | non=>
   B4 Reads at r1
   subst r1
   ~aAr I e y u v A A6 r2 rx ry
  | lst ds=>
   B4 Reads at r1
   B3⟨a,xs,rfl,hq1,ph⟩:=r1
   cases rx
   B3⟨Oe,v1,Sy,_⟩:=I.list hq1
   have hd':gQ ds≤n:=by B4 DV.depth at hd;omega
   cases e with
   | int j=>
    B4 Reads at r2
    subst r2
    B3⟨t',rfl⟩:=ry
    rw[jZ (by intro z;cases z)]
    ~⟨RcAt.list_int _ _ Sy.isList A6,EqAt.list_int _ _ Sy.isList A6⟩
   | non=>
    B4 Reads at r2
    subst r2
    cases ry
    rw[jZ (by intro z;cases z)]
    ~⟨RcAt.list_none Sy.isList A6,EqAt.list_none Sy.isList A6⟩
   | lst es=>
    B4 Reads at r2
    B3⟨b,ys,rfl,hq2,SX⟩:=r2
    cases ry
    B3⟨its2,v2,GQ,_⟩:=I.list hq2
    have e1:Oe.toArray.size=ds.length:=by rw[C5,←v1.length,ph.length]
    have e2:its2.toArray.size=es.length:=by rw[C5,←v2.length,SX.length]
    have rc:RcAt A s (.ref a) (.ref b) (zV (.lst ds) (.lst es)):=by
     by_cases hl:ds.length=es.length
     ·have q:=RcAt.lists (A:=A) (s:=s) Sy.isList GQ.isList (by rw[e1,e2];~hl) A6 (items n A ih ds es xs ys Oe its2 hd' hu ph SX v1 v2)
      rw[e1,pX hl]at q
      rw[ao]
      ~q
     ·rw[jZ (by intro z;cases z;~hl rfl)]
      ~RcAt.lists_lengths Sy.isList GQ.isList (by rw[e1,e2];simpa using hl) A6
    ~⟨rc,of_same (fun hab=>by
     subst hab
     &vN.mpr (Uu I (n+1) _ _ (.ref a) hd ?_ ?_)
     ·B4 Reads
      ~⟨a,xs,rfl,hq1,ph⟩
     ·B4 Reads
      ~⟨a,ys,rfl,hq2,SX⟩) rc⟩
   | tup es=>
    B4 Reads at r2
    B3⟨b,ys,rfl,hq2,SX⟩:=r2
    cases ry
    B3⟨its2,v2,GQ,_⟩:=I.tuple hq2
    rw[jZ (by intro z;cases z)]
    ~⟨RcAt.list_tuple Sy.isList GQ A6,EqAt.list_tuple Sy.isList GQ A6⟩
  | tup ds=>
   B4 Reads at r1
   B3⟨a,xs,rfl,hq1,ph⟩:=r1
   cases rx
   B3⟨Oe,v1,Sy,_⟩:=I.tuple hq1
   have hd':gQ ds≤n:=by B4 DV.depth at hd;omega
   cases e with
   | int j=>
    B4 Reads at r2
    subst r2
    B3⟨t',rfl⟩:=ry
    rw[jZ (by intro z;cases z)]
    ~⟨RcAt.tuple_int _ _ Sy A6,EqAt.tuple_int _ _ Sy A6⟩
   | non=>
    B4 Reads at r2
    subst r2
    cases ry
    rw[jZ (by intro z;cases z)]
    ~⟨RcAt.tuple_none Sy A6,EqAt.tuple_none Sy A6⟩
   | lst es=>
    B4 Reads at r2
    B3⟨b,ys,rfl,hq2,SX⟩:=r2
    cases ry
    B3⟨its2,v2,GQ,_⟩:=I.list hq2
    rw[jZ (by intro z;cases z)]
    ~⟨RcAt.tuple_list Sy GQ.isList A6,EqAt.tuple_list Sy GQ.isList A6⟩
   | tup es=>
    B4 Reads at r2
    B3⟨b,ys,rfl,hq2,SX⟩:=r2
    cases ry
    B3⟨its2,v2,GQ,_⟩:=I.tuple hq2
    have e1:Oe.toArray.size=ds.length:=by rw[C5,←v1.length,ph.length]
    have e2:its2.toArray.size=es.length:=by rw[C5,←v2.length,SX.length]
    have rc:RcAt A s (.ref a) (.ref b) (zV (.tup ds) (.tup es)):=by
     have q:=RcAt.tuples (A:=A) (s:=s) (l:=a) (b:=b) Sy GQ A6 (items n A ih ds es xs ys Oe its2 hd' hu ph SX v1 v2)
     rw[e1,e2]at q
     by_cases hl:ds.length=es.length
     ·rw[←hl,d9,pX hl]at q
      rw[aq]
      simpa using q
     ·rw[jZ (by intro z;cases z;~hl rfl)]
      have z:(ds.length==es.length)=false:=by simpa using hl
      rw[z,m7]at q
      ~q
    ~⟨rc,of_same (fun hab=>by
     subst hab
     &vN.mpr (Uu I (n+1) _ _ (.ref a) hd ?_ ?_)
     ·B4 Reads
      ~⟨a,xs,rfl,hq1,ph⟩
     ·B4 Reads
      ~⟨a,ys,rfl,hq2,SX⟩) rc⟩
 intro n
 induction n with
 | zero=>
  intro d e x y u v A hd hu r1 r2 rx ry
  cases d with
  | int i=>
   B4 Reads at r1
   subst r1
   ~aAq I i e y u v A A6 r2 rx ry
  | non=>
   B4 Reads at r1
   subst r1
   ~aAr I e y u v A A6 r2 rx ry
  | lst ds=>B4 DV.depth at hd;omega
  | tup ds=>B4 DV.depth at hd;omega
 | succ n ih=>
  intro d e x y u v A hd hu r1 r2 rx ry
  ~seqs n A ih d e x y u v hd hu r1 r2 rx ry
end
section
variable{X:Cx}
def aFD(K:aF)(neg:Bool):R2:=fun x y H Q=>∃d e,Reads K H d x∧Reads K H e y∧d.depth≤32∧Q (.bl (if neg then !zV d e else zV d e)) H
B5 aFE(hu:X.A.units+64<cLine):wM X (compareOp .Eq) (aFD X.K false):=by
 intro pins s σ H x y v u Q I rx ry h
 B3⟨d,e,r1,r2,hd,q⟩:=h
 ~(Xw I 32 d e x y v u X.A hd A6 r1 r2 rx ry).1 X.prog X.w X.xe _ ⟨.bl _,H,I,rfl,q⟩
open SeqAt in
B5 aFF(hu:X.A.units+64<cLine):wM X (compareOp .NotEq) (fun x y H Q=>∃ds es,Reads X.K H (.lst ds) x∧Reads X.K H (.lst es) y∧gQ ds≤32∧Q (.bl (!zV (.lst ds) (.lst es))) H):=by
 intro pins s σ H x y v u Q I rx ry h
 B3⟨ds,es,r1,r2,hd,q⟩:=h
 B4 Reads at r1 r2
 B3⟨a,xs,rfl,hq1,ph⟩:=r1
 B3⟨b,ys,rfl,hq2,SX⟩:=r2
 cases rx
 cases ry
 B3⟨Oe,v1,Sy,_⟩:=I.list hq1
 B3⟨its2,v2,GQ,_⟩:=I.list hq2
 have e1:Oe.toArray.size=ds.length:=by rw[C5,←v1.length,ph.length]
 have e2:its2.toArray.size=es.length:=by rw[C5,←v2.length,SX.length]
 have rc:RcNeAt X.A s (.ref a) (.ref b) (!zV (.lst ds) (.lst es)):=by
  by_cases hl:ds.length=es.length
  ·have z:=RcNeAt.lists (A:=X.A) (s:=s) Sy.isList GQ.isList (by rw[e1,e2];~hl) A6 (Od I 32 X.A (fun d e x y u v A a1 a2 a3 a4 a5 a6=>Xw I 32 d e x y u v A a1 a2 a3 a4 a5 a6) ds es xs ys Oe its2 hd A6 ph SX v1 v2)
   rw[e1,pX hl]at z
   rw[ao]
   ~z
  ·rw[jZ (by intro z;cases z;~hl rfl)]
   ~RcNeAt.lists_lengths Sy.isList GQ.isList (by rw[e1,e2];simpa using hl) A6
 ~rc X.prog X.w X.xe _ ⟨.bl _,H,I,rfl,q⟩
end
end L2


namespace L2
open PySem PySem.Spec PyProof.Rows
structure Raw(K:aF)(mg:Str→Option Value)(x:Str)(st:Stmt):Prop where
 ex:∃f fd,Fun K x x st f fd∧mg x=some (.ref f)
B5 aFG{K:aF}{h:Heap}{mg:Str→Option Value}{x:Str}{st:Stmt}{f:Addr}{oc:Value}{od an:Option Addr}{osl:Array (Option Value)}{kV doc pm cdv ct:Value}(X:K.In h)(G:h.Ns mainGlobals mg)
  (a:R1 K mainGlobals x=some (some (.ref f))) (l:K.lookup f=some ⟨oc,od,.func (F6 x x (fP st) (cH st) (aM st) .none kV doc pm an cdv ct),osl⟩)
  (c:K4 K cdv x=true) (k:J9 K (.ref f)=true):Raw K mg x st:=⟨⟨f,_,aFB l c k,b8 X G a⟩⟩
structure qL(P:Program)(w:World)(K:aF)(mg:Str→Option Value)(base:Heap)(x:Str)(k:Nat)(n:Nat)(sp:Sp):Prop where
 ex:∃f fd ps,ps.length=n∧zF P w K mg base CZ k f fd ps sp∧Binds K fd ps []∧J9 K (.ref f)=true∧mg x=some (.ref f)
B5 Raw.cal{P:Program}{w:World}{K:aF}{mg:Str→Option Value}{base:Heap}{x:Str}{st:Stmt}{N ps:List Str}{k:Nat}{sp:Sp}(R:Raw K mg x st)(S:bB N ps (aM st))(len:∀vs H Q E,sp vs H Q E→vs.length=ps.length)
  (hb:∀(kV doc pm:Value)(an:Option Addr)(cdv ct:Value)(us:List Value),us.length=ps.length→bindArgs (F6 x x (fP st) (cH st) (aM st) .none kV doc pm an cdv ct) ⟨us,[]⟩=pure (ps.zip us))
  (hbody:∀(f:Addr)(cdv:Value)(A:Around)(outer:List Env)(s:Shared)(H:Hp)(vs:List V)(Q:VK)(E:XK),jR k (A.deeper (envOfC x (aM st) s.heap.objs.size f cdv))→sp vs H Q E →
   ∃t,DY (Fv CZ P w K mg base N x (aM st) f cdv A outer s H E).ZK (cH st) t∧t {nx:=fun _ H'=>Q .non H',rt:=Q} (start N vs) H):qL P w K mg base x (k+1) ps.length sp:=by
 B3⟨f,fd,F,m⟩:=R.ex
 ~⟨f,fd,ps,rfl,F.ok S len fun cdv A outer s H vs Q E hr h=>hbody f cdv A outer s H vs Q E hr h,F.binds hb,F.kp,m⟩
B5 aAs{X:Cx}{x:Str}{k n:Nat}{sp:Sp}{e:Expr}{es:List Expr}{p pos:Pos}{t:TA}(C:qL X.prog X.w X.K X.mg X.base x k n sp)(hr:jR k X.A)(hg:Gl X x)
  (ha:PA X (e::es) t) (hdb:(x==("__debug__" : Str))=false:=by decide) (he:starEach (e::es) X.env=(false,eval e X.env)::starEach es X.env:=by rfl) (hpl:(backTo pos (starEach es X.env)).any (·.1)=false:=by rfl) :
  PE X (.Call (.Name x p) (e::es) [] pos) (Uj sp [] E0 t):=by
 B3⟨f,fd,ps,_,F,hb,hk,hm⟩:=C.ex
 ~aCG F hr hg hm hk hb .nil Ut ha hdb he hpl
B5 call_of{sp:Sp}{E:XK}{t:TA}{σ:St}{H:Hp}{Q:VK}(h:t σ H fun vs H1=>sp vs H1 Q E):Uj sp [] E t σ H Q:=by
 B4 Uj
 have e:(fun(vs:List V) (H1:Hp)=>sp (vs++[]) H1 Q E)=fun vs H1=>sp vs H1 Q E:=by funext vs H1;rw[F9]
 rw[e]
 ~h
B5 dO{H:Hp}{p:Addr}(h:H p=none)(o:HO):aU H (upd H p o):=fun b u q=>by rw[bQ (iQ q h)];~q
B5 aU.tup{K:aF}{H H':Hp}{a:Addr}{xs:List V}(e:aU H H')(h:zO K H a xs):zO K H' a xs:=by
 rcases h with (h | ⟨o,h⟩) | h
 ·~.inl (.inl (e _ _ h))
 ·~.inl (.inr ⟨o,e _ _ h⟩)
 ·~.inr h
mutual
B5 aU.reads{K:aF}{H H':Hp}(e:aU H H'):∀(d:DV)(x:V),Reads K H d x→Reads K H' d x
 | .int i,x,h=>by B4 Reads at h ⊢;~h
 | .non,x,h=>by B4 Reads at h ⊢;~h
 | .lst ds,x,h=>by
  B4 Reads at h ⊢
  B3⟨a,xs,r,hq,l⟩:=h
  ~⟨a,xs,r,e.seq hq,aU.TF e ds xs l⟩
 | .tup ds,x,h=>by
  B4 Reads at h ⊢
  B3⟨a,xs,r,hq,l⟩:=h
  ~⟨a,xs,r,e.tup hq,aU.TF e ds xs l⟩
B5 aU.TF{K:aF}{H H':Hp}(e:aU H H'):∀(ds:List DV)(xs:List V),eN K H ds xs→eN K H' ds xs
 | [],xs,h=>by B4 eN at h ⊢;~h
 | d::ds,xs,h=>by
  B4 eN at h ⊢
  B3⟨y,ys,r,h1,h2⟩:=h
  ~⟨y,ys,r,aU.reads e d y h1,aU.TF e ds ys h2⟩
end
B5 wU:∀ns:List Int,gQ (ns.map DV.int)=0
 | []=>by rw[J2];B4 gQ;rfl
 | n::ns=>by rw[D3];B4 gQ DV.depth;rw[wU ns];rfl
B5 GR{ns ms:List Int}:ns.map DV.int=ms.map DV.int↔ns=ms:=by
 constructor
 ·intro h
  have:∀(a b:Int),DV.int a=DV.int b→a=b:=fun a b e=>by cases e;rfl
  ~(List.map_inj_right this).mp h
 ·rintro rfl;rfl
B5 aI7{xs:List V}{k:Int}{v:V}(h0:0≤k)(h:xs[k.toNat]?=some v):QZ xs k=some v:=by
 have ek:k=((k.toNat:Nat):Int):=by omega
 rw[ek]
 ~aCL h
B5 aC4(z:Int)(ns:List Int):inV (.int z) (ns.map V.int)=decide (z∈ns):=by
 B4 inV
 rw[M8,Q6,decide_eq_true_iff]
 constructor
 ·rintro⟨v,hv,e⟩
  B3⟨m,hm,rfl⟩:=G4.mp hv
  have:m=z:=by simpa[eqV]using e
  subst this
  ~hm
 ·intro h
  ~⟨.int z,G4.mpr ⟨z,h,rfl⟩,by simp[eqV]⟩
B5 pq(ns:List Int):(ns.map V.int).all zQ=true:=by
 rw[M3]
 intro v hv
 B3⟨m,_,rfl⟩:=G4.mp hv
 rfl
def mk(ns:List Int):List (Key×V):=ns.foldl (fun kvs n=>putK kvs (F2 n) (V.bl true)) []
B5 aC5(ns:List Int)(n:Int):mk (ns++[n])=putK (mk ns) (F2 n) (V.bl true):=by
 B4 mk
 rw[i4]
 rfl
B5 zW(ns:List Int):(mk ns).length≤ns.length:=by
 have h:∀(l:List Int),(mk l.reverse).length≤l.length:=by
  intro l
  induction l with
  | nil=>~C6 _
  | cons a l ih=>
   rw[List.reverse_cons,aC5,E9]
   ~G2 (zT _ _ _) (W9 ih)
 have q:=h ns.reverse
 rw[List.reverse_reverse,List.length_reverse]at q
 ~q
end L2
namespace L2
B5 kO.at{scope:PySem.Scope}{N:List PySem.Str}{k:Nat}{fr:List Nat}(DG:PySem.Scope)(oN:List PySem.Str)(h:aj DG scope oN N k fr=true):kO DG scope oN N k fr:=kO.of h
end L2
namespace L2
open PySem PySem.Spec PyProof.Rows
def yN(H:Hp)(p:Addr):Prop:=(∀xs,H p≠some (.tup xs))∧∀o xs,H p≠some (.zA o (.tup xs))
B5 sJ{H:Hp}{p:Addr}{xs:List V}(h:H p=some (.lst xs)):yN H p:=⟨fun ys e=>(by rw[h]at e;cases e),fun o ys e=>(by rw[h]at e;cases e)⟩
B5 Og{H:Hp}{p:Addr}{kvs:List (Key×V)}(h:H p=some (.dK kvs)):yN H p:=⟨fun ys e=>(by rw[h]at e;cases e),fun o ys e=>(by rw[h]at e;cases e)⟩
B5 zO.upd{K:aF}{H:Hp}{a p:Addr}{xs:List V}{o:HO}(h:zO K H a xs)(n:yN H p):zO K (upd H p o) a xs:=by
 rcases h with (h | ⟨u,h⟩) | h
 ·~.inl (.inl (by rw[bQ (fun z=>n.1 xs (by rw[←z];~h))];~h))
 ·~.inl (.inr ⟨u,by rw[bQ (fun z=>n.2 u xs (by rw[←z];~h))];~h⟩)
 ·~.inr h
mutual
def jK:DV→Bool
 | .int _=>true
 | .non=>true
 | .lst _=>false
 | .tup ds=>gY ds
def gY:List DV→Bool
 | []=>true
 | d::ds=>jK d&&gY ds
end
mutual
B5 qe{K:aF}{H:Hp}{p:Addr}{o:HO}(n:yN H p):∀(d:DV)(x:V),jK d=true→Reads K H d x→Reads K (upd H p o) d x
 | .int i,x,_,h=>by B4 Reads at h ⊢;~h
 | .non,x,_,h=>by B4 Reads at h ⊢;~h
 | .lst ds,x,hi,h=>by B4 jK at hi;cases hi
 | .tup ds,x,hi,h=>by
  B4 jK at hi
  B4 Reads at h ⊢
  B3⟨a,xs,r,hq,l⟩:=h
  ~⟨a,xs,r,hq.upd n,Oh n ds xs hi l⟩
B5 Oh{K:aF}{H:Hp}{p:Addr}{o:HO}(n:yN H p):∀(ds:List DV)(xs:List V),gY ds=true→eN K H ds xs→eN K (upd H p o) ds xs
 | [],xs,_,h=>by B4 eN at h ⊢;~h
 | d::ds,xs,hi,h=>by
  B4 gY at hi
  rw[J7]at hi
  B4 eN at h ⊢
  B3⟨y,ys,r,h1,h2⟩:=h
  ~⟨y,ys,r,qe n d y hi.1 h1,Oh n ds ys hi.2 h2⟩
end
B5 Oi{n d:Nat}{k:Nat}:HT.Nt n d (some (k:Int))=min k n:=HT.aCI n d k
end L2
namespace L2
open PySem PySem.Spec PyProof.Rows
section
variable{X:Cx}
end
end L2
namespace L2
open PySem PySem.Spec PyProof.Rows
end L2
namespace L2
open PySem PySem.Spec PyProof.Rows
section
variable{X:Cx}
end
B5 uZ:∀{l m:List Int},l.Pairwise (·<·)→m.Pairwise (·<·)→(∀j,j∈l↔j∈m)→l=m
  | [],[],_,_,_=>rfl
  | [],b::m,_,_,h=>absurd ((h b).mpr D4) (by simp)
  | a::l,[],_,_,h=>absurd ((h a).mp D4) (by simp)
  | a::l,b::m,h1,h2,h=>by
    B3⟨h1a,h1b⟩:=J3.mp h1
    B3⟨h2a,h2b⟩:=J3.mp h2
    have e:a=b:=by
      rcases C9.mp ((h a).mp D4)with q | q
      · ~q
      · rcases C9.mp ((h b).mpr D4)with q' | q'
        · ~q'.symm
        · have:=h2a a q
          have:=h1a b q'
          omega
    subst e
    rw[uZ h1b h2b fun j=>?_]
    constructor
    · intro hj
      rcases C9.mp ((h j).mp (C8 _ hj))with q | q
      · have:=h1a j hj
        omega
      · ~q
    · intro hj
      rcases C9.mp ((h j).mpr (C8 _ hj))with q | q
      · have:=h2a j hj
        omega
      · ~q
B5 GX{K:aF}:J4 K (.type "int") (.type "int")=some true:=by B4 J4;rfl
B5 Tc{K:aF}:J4 K (.type "bool") (.type "bool")=some true:=by B4 J4;rfl
B5 Td{K:aF}:J4 K (.type "list") (.type "list")=some true:=by B4 J4;rfl
B5 Lx{K:aF}:J4 K (.type "tuple") (.type "tuple")=some true:=by B4 J4;rfl
B5 Xx{K:aF}:J4 K (.type "int") (.type "bool")=some false:=by
  first | rfl | decide | (B4 J4 m8;rfl) | (B4 J4 m8;simp;decide)
end L2


namespace L2
open PySem PySem.Spec PyProof.Rows
section
variable{X:Cx}
def Ml(ns:List Int)(m:Int):Prop:=m∈ns∧∀a∈ns,m≤a
B5 Dh(ns:List Int):∀k,k<ns.length→argBest (fun i j=>decide (ns.getD i 0<ns.getD j 0)) k≤k∧∀i,i≤k→ns.getD (argBest (fun i j=>decide (ns.getD i 0<ns.getD j 0)) k) 0≤ns.getD i 0
 | 0,_=>⟨C6 _,fun i hi=>by
  have:i=0:=by omega
  subst this
  ~Y7 _⟩
 | k+1,h=>by
  B3⟨h1,h2⟩:=Dh ns k A6
  B4 argBest
  split
  ·rename_i c
   have c':=of_decide_eq_true c
   &⟨C6 _,fun i hi=>?_⟩
   rcases J8 i (k+1)with q | q
   ·have:=h2 i A6
    omega
   ·have:i=k+1:=by omega
    subst this
    ~Y7 _
  ·rename_i c
   have c':=of_decide_eq_false (W0.mpr c)
   &⟨by omega,fun i hi=>?_⟩
   rcases J8 i (k+1)with q | q
   ·~h2 i A6
   ·have:i=k+1:=by omega
    subst this
    omega
B5 qg(hc:X.calm=true):nF X (.builtin "min") (fun xs H Q=>∃(p:Addr)(ns:List Int),xs=[.ref p]∧pK X.K H p (ns.map V.int)∧0<ns.length∧∀m,Ml ns m→Q (.int m) H):=by
 intro pins s σ H xs us Q I r h
 B3⟨p,ns,rfl,hq,hpos,q⟩:=h
 B3⟨u,rfl,rx⟩:=vals1 r
 cases rx
 B3⟨its,rv,pl,hz⟩:=I.list hq
 have hl:=pl.isList
 have hlen:=rv.length
 rw[B7]at hlen
 have hlt:p<s.heap.objs.size:=by B3⟨_,e,_⟩:=hl;~Heap.lt_size e
 have item:∀(i:Nat)(v:Value),its.toArray[i]?=some v→∃t,v=.int (ns.getD i 0) t∧i<ns.length:=fun i v e=>by
  have e':its[i]?=some v:=by simpa using e
  have hi:=(D1.mp e').1
  B3⟨u,eu,ru⟩:=rv.get (i:=i) (x:=.int (ns.getD i 0)) (by rw[B8,B9,B6 A6];rfl)
  rw[e']at eu
  cases eu
  B3⟨t,rfl⟩:=ru
  ~⟨t,rfl,by omega⟩
 &call_min_walk (wpAny_pyIter_list hl ?_)
 &⟨s.heap.objs.size,[s.heap.objs.size,p],[s.heap.objs.size],its.toArray.size,_,_,fun i j=>decide (ns.getD i 0<ns.getD j 0),rfl,Walks.list (A:=X.A.in1) (I.ok.hd hc) _ p (E5 hlt) _,
  ⟨⟨_,Heap.get?_push_size _ rfl,rfl,rfl⟩,hl.push _⟩,fun b hb=>?_,by rw[C5];omega,fun i j vi vj s' Q' E' hi hj hQ=>?_,fun v h' tk hP hk=>?_⟩
 ·show b<(s.heap.push _).objs.size
  rw[Heap.size_push]
  rcases C9.mp hb with e | hb
  ·rw[e];~M0 _
  ·rw[E3.mp hb];~M7 hlt
 ·B3⟨t1,rfl,_⟩:=item i vi hi
  B3⟨t2,rfl,_⟩:=item j vj hj
  ~HT.aAe _ _ _ _ _ _ _ _ _ _ hQ
 ·B3⟨t,rfl,hi⟩:=item _ v hP
  rw[C5,←hlen]at hi ⊢
  B3⟨h1,h2⟩:=Dh ns (ns.length-1) A6
  &⟨.int _,H,I.kept (ak hk),⟨t,rfl⟩,q _ ⟨?_,fun a ha=>?_⟩⟩
  ·rw[B9,B6 hi]
   ~O9 _
  ·B3⟨i,hi',rfl⟩:=J6 ha
   have:=h2 i A6
   rw[show ns.getD i 0=ns[i]from by rw[B9,B6 hi'];rfl]at this
   ~this
open SeqAt in
B5 aFH(hu:X.A.units+64<cLine):wM X (compareOp .NotEq) (fun x y H Q=>∃ds es,Reads X.K H (.tup ds) x∧Reads X.K H (.tup es) y∧gQ ds≤32∧Q (.bl (!zV (.tup ds) (.tup es))) H):=by
 intro pins s σ H x y v u Q I rx ry h
 B3⟨ds,es,r1,r2,hd,q⟩:=h
 B4 Reads at r1 r2
 B3⟨a,xs,rfl,hq1,ph⟩:=r1
 B3⟨b,ys,rfl,hq2,SX⟩:=r2
 cases rx
 cases ry
 B3⟨Oe,v1,Sy,_⟩:=I.tuple hq1
 B3⟨its2,v2,GQ,_⟩:=I.tuple hq2
 have e1:Oe.toArray.size=ds.length:=by rw[C5,←v1.length,ph.length]
 have e2:its2.toArray.size=es.length:=by rw[C5,←v2.length,SX.length]
 have rc:RcNeAt X.A s (.ref a) (.ref b) (!zV (.tup ds) (.tup es)):=by
  have z:=RcNeAt.tuples (A:=X.A) (s:=s) (l:=a) (b:=b) Sy GQ A6 (Od I 32 X.A (fun d e x y u v A a1 a2 a3 a4 a5 a6=>Xw I 32 d e x y u v A a1 a2 a3 a4 a5 a6) ds es xs ys Oe its2 hd A6 ph SX v1 v2)
  rw[e1,e2]at z
  by_cases hl:ds.length=es.length
  ·rw[←hl,d9,pX hl]at z
   rw[aq]
   simpa using z
  ·rw[jZ (by intro z;cases z;~hl rfl)]
   have zz:(ds.length==es.length)=false:=by simpa using hl
   rw[zz,m7]at z
   ~z
 ~rc X.prog X.w X.xe _ ⟨.bl _,H,I,rfl,q⟩
end
end L2


namespace L2
open PySem PySem.Spec PyProof.Rows
inductive D where
  | non | bl (b:Bool) | int (i:Int) | str (x:Str)
  | lst (ds:List D) | tup (ds:List D)
  | dk (ks:List Key) (ds:List D)
  | dt (ks:List (List Key)) (ds:List D)
  | ins (C:Addr) (nm:List Str) (ds:List D)
abbrev Fp:=Addr→Prop
def Apart(A B:Fp):Prop:=∀x,A x→¬B x
def Is(A B:Fp):Prop:=∀x,A x↔B x
def None(A:Fp):Prop:=∀x,¬A x
abbrev fK(A B:Fp):Fp:=fun x=>A x∨B x
mutual
def Rv(K:aF)(H:Hp):D→V→Prop
 | .non,v=>v=.non
 | .bl b,v=>v=.bl b
 | .int i,v=>v=.int i
 | .str x,v=>v=.str x
 | .lst ds,v=>∃a xs,v=.ref a∧pK K H a xs∧eY K H ds xs
 | .tup ds,v=>∃a xs,v=.ref a∧zO K H a xs∧eY K H ds xs
 | .dk ks ds,v=>∃a xs,v=.ref a∧Rd H a (.dK (ks.zip xs))∧ks.length=xs.length∧eY K H ds xs
 | .dt ks ds,v=>∃a xs,v=.ref a∧Rd H a (.dT (ks.zip xs))∧ks.length=xs.length∧eY K H ds xs
 | .ins C nm ds,v=>∃a dx xs,v=.ref a∧H a=some (.ins C dx (nm.zip xs))∧nm.length=xs.length∧eY K H ds xs
def eY(K:aF)(H:Hp):List D→List V→Prop
 | [],xs=>xs=[]
 | d::ds,xs=>∃y ys,xs=y::ys∧Rv K H d y∧eY K H ds ys
end
B5 aU.rd{H H':Hp}(e:aU H H'){a:Addr}{u:HO}(h:Rd H a u):Rd H' a u:=by
 rcases h with h | ⟨o,h⟩
 ·~.inl (e _ _ h)
 ·~.inr ⟨o,e _ _ h⟩
mutual
B5 aU.rv{K:aF}{H H':Hp}(e:aU H H'):∀(d:D)(v:V),Rv K H d v→Rv K H' d v
 | .non,v,h=>by B4 Rv at h ⊢;~h
 | .bl _,v,h=>by B4 Rv at h ⊢;~h
 | .int _,v,h=>by B4 Rv at h ⊢;~h
 | .str _,v,h=>by B4 Rv at h ⊢;~h
 | .lst ds,v,h=>by B4 Rv at h ⊢;B3⟨a,xs,r,hq,l⟩:=h;~⟨a,xs,r,e.seq hq,aU.TJ e ds xs l⟩
 | .tup ds,v,h=>by B4 Rv at h ⊢;B3⟨a,xs,r,hq,l⟩:=h;~⟨a,xs,r,e.tup hq,aU.TJ e ds xs l⟩
 | .dk ks ds,v,h=>by B4 Rv at h ⊢;B3⟨a,xs,r,hq,hl,l⟩:=h;~⟨a,xs,r,e.rd hq,hl,aU.TJ e ds xs l⟩
 | .dt ks ds,v,h=>by B4 Rv at h ⊢;B3⟨a,xs,r,hq,hl,l⟩:=h;~⟨a,xs,r,e.rd hq,hl,aU.TJ e ds xs l⟩
 | .ins C nm ds,v,h=>by B4 Rv at h ⊢;B3⟨a,dx,xs,r,hq,hl,l⟩:=h;~⟨a,dx,xs,r,e _ _ hq,hl,aU.TJ e ds xs l⟩
B5 aU.TJ{K:aF}{H H':Hp}(e:aU H H'):∀(ds:List D)(xs:List V),eY K H ds xs→eY K H' ds xs
 | [],xs,h=>by B4 eY at h ⊢;~h
 | d::ds,xs,h=>by B4 eY at h ⊢;B3⟨y,ys,r,h1,h2⟩:=h;~⟨y,ys,r,aU.rv e d y h1,aU.TJ e ds ys h2⟩
end
B5 eY.length{K:aF}{H:Hp}:∀{ds:List D} {xs:List V},eY K H ds xs→xs.length=ds.length
 | [],xs,h=>by B4 eY at h;subst h;rfl
 | d::ds,xs,h=>by B4 eY at h;B3⟨y,ys,rfl,_,h2⟩:=h;rw[E9,E9,eY.length h2]
B5 eY.get{K:aF}{H:Hp}:∀{ds:List D} {xs:List V} {i:Nat} {d:D},eY K H ds xs→ds[i]?=some d→∃x,xs[i]?=some x∧Rv K H d x
 | [],xs,i,d,h,e=>by simp at e
 | d'::ds,xs,0,d,h,e=>by B4 eY at h;B3⟨y,ys,rfl,h1,_⟩:=h;simp at e;subst e;~⟨y,rfl,h1⟩
 | d'::ds,xs,i+1,d,h,e=>by
  B4 eY at h
  B3⟨y,ys,rfl,_,h2⟩:=h
  B3⟨x,e1,e2⟩:=eY.get (i:=i) (d:=d) h2 (by simpa using e)
  ~⟨x,by simpa using e1,e2⟩
B5 eY.of{K:aF}{H:Hp}:∀{ds:List D} {xs:List V},xs.length=ds.length→(∀(i:Nat)(d:D)(x:V),ds[i]?=some d→xs[i]?=some x→Rv K H d x)→eY K H ds xs
 | [],xs,hl,_=>by B4 eY;~L9 hl
 | d::ds,[],hl,_=>by simp at hl
 | d::ds,x::xs,hl,h=>by
  B4 eY
  ~⟨x,xs,rfl,h 0 d x rfl rfl,eY.of (by simpa using hl) fun i e y h1 h2=>h (i+1) e y (by simpa using h1) (by simpa using h2)⟩
def eU{α β:Type}(R:α→Fp→β→Prop):List α→Fp→List β→Prop
 | [],A,ys=>None A∧ys=[]
 | d::ds,A,ys=>∃y yt A1 A2,ys=y::yt∧Apart A1 A2∧Is A (fK A1 A2)∧R d A1 y∧eU R ds A2 yt
section
variable{α β:Type}{R R':α→Fp→β→Prop}
B5 eU.congr:∀{ds:List α} {A A':Fp} {ys:List β},eU R ds A ys→Is A A'→eU R ds A' ys
 | [],A,A',ys,h,e=>⟨fun x q=>h.1 x ((e x).mpr q),h.2⟩
 | d::ds,A,A',ys,⟨y,yt,A1,A2,h1,h2,h3,h4⟩,e=>⟨y,yt,A1,A2,h1,h2,fun x=>((e x).symm).trans (h3 x),h4⟩
B5 eU.mono:∀{ds:List α} {A:Fp} {ys:List β},eU R ds A ys→(∀e B z,(∀x,B x→A x)→R e B z→R' e B z)→eU R' ds A ys
 | [],A,ys,h,_=>h
 | d::ds,A,ys,⟨y,yt,A1,A2,h1,h2,h3,h4,h5⟩,m=>
  ⟨y,yt,A1,A2,h1,h2,h3,m _ _ _ (fun x q=>(h3 x).mpr (.inl q)) h4,h5.mono fun e B z hb=>m e B z fun x q=>(h3 x).mpr (.inr (hb x q))⟩
B5 eU.len:∀{ds:List α} {A:Fp} {ys:List β},eU R ds A ys→ys.length=ds.length
 | [],A,ys,h=>by rw[h.2];rfl
 | d::ds,A,ys,⟨y,yt,A1,A2,h1,h2,h3,h4,h5⟩=>by rw[h1,E9,E9,h5.len]
B5 eU.focus:∀{ds:List α} {A:Fp} {ys:List β} {i:Nat} {d:α},eU R ds A ys→ds[i]?=some d→∃y A1 C,ys[i]?=some y∧Apart A1 C∧Is A (fK A1 C)∧R d A1 y ∧
    ∀(R':α→Fp→β→Prop),(∀e B z,(∀x,B x→C x)→R e B z→R' e B z)→∀d' y' HD,Apart HD C→R' d' HD y'→eU R' (ds.set i d') (fK HD C) (ys.set i y')
  | [],A,ys,i,d,h,e=>by simp at e
  | d0::ds,A,ys,0,d,⟨y,yt,A1,A2,h1,h2,h3,h4,h5⟩,e=>by
    simp at e
    subst e h1
    ~⟨y,A1,A2,rfl,h2,h3,h4,fun R' m d' y' HD ap r=>⟨y',yt,HD,A2,rfl,ap,fun x=>Iff.rfl,r,h5.mono m⟩⟩
  | d0::ds,A,ys,i+1,d,⟨y,yt,A1,A2,h1,h2,h3,h4,h5⟩,e=>by
    subst h1
    B3⟨z,B1,C,e1,ap,hA,r,k⟩:=eU.focus (i:=i) (d:=d) h5 (by simpa using e)
    &⟨z,B1,fK A1 C,by simpa using e1,?_,?_,r,fun R' m d' y' HD ap' r'=>?_⟩
    · intro x hx hc
      rcases hc with hc | hc
      · ~h2 x hc ((hA x).mpr (.inl hx))
      · ~ap x hx hc
    · intro x
      rw[h3 x]
      constructor
      · rintro(q | q)
        · ~.inr (.inl q)
        · rcases(hA x).mp q with q | q
          · ~.inl q
          · ~.inr (.inr q)
      · rintro(q | q | q)
        · ~.inr ((hA x).mpr (.inl q))
        · ~.inl q
        · ~.inr ((hA x).mpr (.inr q))
    · &⟨y,_,A1,fK HD C,rfl,?_,?_,m _ _ _ (fun x q=>.inl q) h4,k R' (fun e B z hb=>m e B z fun x q=>.inr (hb x q)) d' y' HD (fun x q q'=>ap' x q (.inr q')) r'⟩
      · intro x q q'
        rcases q' with q' | q'
        · ~ap' x q' (.inl q)
        · ~h2 x q ((hA x).mpr (.inr q'))
      · intro x
        show (HD x∨A1 x∨C x)↔(A1 x∨HD x∨C x)
        constructor
        · rintro(q | q | q)
          · ~.inr (.inl q)
          · ~.inl q
          · ~.inr (.inr q)
        · rintro(q | q | q)
          · ~.inr (.inl q)
          · ~.inl q
          · ~.inr (.inr q)
B5 eU.snoc:∀{ds:List α} {A A1:Fp} {ys:List β} {d:α} {y:β},eU R ds A ys→R d A1 y→Apart A A1→eU R (ds++[d]) (fK A A1) (ys++[y])
 | [],A,A1,ys,d,y,h,r,ap=>by
  rw[h.2]
  ~⟨y,[],A1,fun _=>False,rfl,fun _ _ z=>z,fun x=>⟨fun q=>q.elim (fun q=>absurd q (h.1 x)) .inl,fun q=>q.elim .inr False.elim⟩,r,fun _ z=>z,rfl⟩
 | d0::ds,A,A1,ys,d,y,⟨y0,yt,B1,B2,h1,h2,h3,h4,h5⟩,r,ap=>by
  subst h1
  &⟨y0,yt++[y],B1,fK B2 A1,rfl,?_,?_,h4,eU.snoc h5 r fun x q=>ap x ((h3 x).mpr (.inr q))⟩
  ·intro x q q'
   rcases q' with q' | q'
   ·~h2 x q q'
   ·~ap x ((h3 x).mpr (.inl q)) q'
  ·intro x
   show (A x∨A1 x)↔(B1 x∨B2 x∨A1 x)
   rw[h3 x]
   ~or_assoc
end
mutual
def Ow(K:aF)(H:Hp):D→Fp→V→Prop
 | .non,A,v=>None A∧v=.non
 | .bl b,A,v=>None A∧v=.bl b
 | .int i,A,v=>None A∧v=.int i
 | .str x,A,v=>None A∧v=.str x
 | .lst ds,A,v=>∃a xs B,v=.ref a∧H a=some (.lst xs)∧¬B a∧Is A (fK (·=a) B)∧dX K H ds B xs
 | .tup ds,A,v=>∃a xs,v=.ref a∧zO K H a xs∧dX K H ds A xs
 | .dk ks ds,A,v=>∃a xs B,v=.ref a∧H a=some (.dK (ks.zip xs))∧ks.length=xs.length∧¬B a∧Is A (fK (·=a) B)∧dX K H ds B xs
 | .dt ks ds,A,v=>∃a xs B,v=.ref a∧H a=some (.dT (ks.zip xs))∧ks.length=xs.length∧¬B a∧Is A (fK (·=a) B)∧dX K H ds B xs
 | .ins C nm ds,A,v=>∃a dx xs B,v=.ref a∧H a=some (.ins C dx (nm.zip xs))∧H dx=some (.own a)∧nm.length=xs.length∧¬B a∧¬B dx∧Is A (fK (fun x=>x=a∨x=dx) B)∧dX K H ds B xs
def dX(K:aF)(H:Hp):List D→Fp→List V→Prop
 | [],A,ys=>None A∧ys=[]
 | d::ds,A,ys=>∃y yt A1 A2,ys=y::yt∧Apart A1 A2∧Is A (fK A1 A2)∧Ow K H d A1 y∧dX K H ds A2 yt
end
B5 cG{K:aF}{H:Hp}:∀{ds:List D} {A:Fp} {ys:List V},dX K H ds A ys↔eU (Ow K H) ds A ys
 | [],A,ys=>by B4 dX eU;~Iff.rfl
 | d::ds,A,ys=>by
  B4 dX eU
  constructor
  ·rintro⟨y,yt,A1,A2,h1,h2,h3,h4,h5⟩;~⟨y,yt,A1,A2,h1,h2,h3,h4,cG.mp h5⟩
  ·rintro⟨y,yt,A1,A2,h1,h2,h3,h4,h5⟩;~⟨y,yt,A1,A2,h1,h2,h3,h4,cG.mpr h5⟩
def vP(K:aF)(H H':Hp):Prop:=∀a xs,zO K H a xs→zO K H' a xs
B5 aU.tk{K:aF}{H H':Hp}(e:aU H H'):vP K H H':=fun _ _ h=>e.tup h
B5 Ow.congr{K:aF}{H:Hp}{d:D}{A A':Fp}{v:V}(h:Ow K H d A v)(e:Is A A'):Ow K H d A' v:=by
 cases d with
 | non=>B4 Ow at h ⊢;~⟨fun x q=>h.1 x ((e x).mpr q),h.2⟩
 | bl b=>B4 Ow at h ⊢;~⟨fun x q=>h.1 x ((e x).mpr q),h.2⟩
 | int b=>B4 Ow at h ⊢;~⟨fun x q=>h.1 x ((e x).mpr q),h.2⟩
 | str b=>B4 Ow at h ⊢;~⟨fun x q=>h.1 x ((e x).mpr q),h.2⟩
 | lst ds=>B4 Ow at h ⊢;B3⟨a,xs,B,h1,h2,h3,h4,h5⟩:=h;~⟨a,xs,B,h1,h2,h3,fun x=>(e x).symm.trans (h4 x),h5⟩
 | tup ds=>B4 Ow at h ⊢;B3⟨a,xs,h1,h2,h3⟩:=h;~⟨a,xs,h1,h2,cG.mpr ((cG.mp h3).congr e)⟩
 | dk ks ds=>B4 Ow at h ⊢;B3⟨a,xs,B,h1,h2,h2',h3,h4,h5⟩:=h;~⟨a,xs,B,h1,h2,h2',h3,fun x=>(e x).symm.trans (h4 x),h5⟩
 | dt ks ds=>B4 Ow at h ⊢;B3⟨a,xs,B,h1,h2,h2',h3,h4,h5⟩:=h;~⟨a,xs,B,h1,h2,h2',h3,fun x=>(e x).symm.trans (h4 x),h5⟩
 | ins C nm ds=>B4 Ow at h ⊢;B3⟨a,dx,xs,B,h1,h2,h2',h3,h3',h3'',h4,h5⟩:=h;~⟨a,dx,xs,B,h1,h2,h2',h3,h3',h3'',fun x=>(e x).symm.trans (h4 x),h5⟩
mutual
B5 Ow.frame{K:aF}{H H':Hp}(t:vP K H H'):∀(d:D)(A:Fp)(v:V),Ow K H d A v→(∀a,A a→H' a=H a)→Ow K H' d A v
 | .non,A,v,h,f=>by B4 Ow at h ⊢;~h
 | .bl _,A,v,h,f=>by B4 Ow at h ⊢;~h
 | .int _,A,v,h,f=>by B4 Ow at h ⊢;~h
 | .str _,A,v,h,f=>by B4 Ow at h ⊢;~h
 | .lst ds,A,v,h,f=>by
  B4 Ow at h ⊢
  B3⟨a,xs,B,h1,h2,h3,h4,h5⟩:=h
  ~⟨a,xs,B,h1,(f a ((h4 a).mpr (.inl rfl))).trans h2,h3,h4,dX.frame t ds B xs h5 fun b q=>f b ((h4 b).mpr (.inr q))⟩
 | .tup ds,A,v,h,f=>by B4 Ow at h ⊢;B3⟨a,xs,h1,h2,h3⟩:=h;~⟨a,xs,h1,t _ _ h2,dX.frame t ds A xs h3 f⟩
 | .dk ks ds,A,v,h,f=>by
  B4 Ow at h ⊢
  B3⟨a,xs,B,h1,h2,h2',h3,h4,h5⟩:=h
  ~⟨a,xs,B,h1,(f a ((h4 a).mpr (.inl rfl))).trans h2,h2',h3,h4,dX.frame t ds B xs h5 fun b q=>f b ((h4 b).mpr (.inr q))⟩
 | .dt ks ds,A,v,h,f=>by
  B4 Ow at h ⊢
  B3⟨a,xs,B,h1,h2,h2',h3,h4,h5⟩:=h
  ~⟨a,xs,B,h1,(f a ((h4 a).mpr (.inl rfl))).trans h2,h2',h3,h4,dX.frame t ds B xs h5 fun b q=>f b ((h4 b).mpr (.inr q))⟩
 | .ins C nm ds,A,v,h,f=>by
  B4 Ow at h ⊢
  B3⟨a,dx,xs,B,h1,h2,h2',h3,h3',h3'',h4,h5⟩:=h
  ~⟨a,dx,xs,B,h1,(f a ((h4 a).mpr (.inl (.inl rfl)))).trans h2,(f dx ((h4 dx).mpr (.inl (.inr rfl)))).trans h2',h3,h3',h3'',h4,dX.frame t ds B xs h5 fun b q=>f b ((h4 b).mpr (.inr q))⟩
B5 dX.frame{K:aF}{H H':Hp}(t:vP K H H'):∀(ds:List D)(A:Fp)(ys:List V),dX K H ds A ys→(∀a,A a→H' a=H a)→dX K H' ds A ys
 | [],A,ys,h,f=>by B4 dX at h ⊢;~h
 | d::ds,A,ys,h,f=>by
  B4 dX at h ⊢
  B3⟨y,yt,A1,A2,h1,h2,h3,h4,h5⟩:=h
  ~⟨y,yt,A1,A2,h1,h2,h3,Ow.frame t d A1 y h4 fun b q=>f b ((h3 b).mpr (.inl q)),dX.frame t ds A2 yt h5 fun b q=>f b ((h3 b).mpr (.inr q))⟩
end
mutual
B5 Ow.rv{K:aF}{H:Hp}:∀(d:D)(A:Fp)(v:V),Ow K H d A v→Rv K H d v
 | .non,A,v,h=>by B4 Ow at h;B4 Rv;~h.2
 | .bl _,A,v,h=>by B4 Ow at h;B4 Rv;~h.2
 | .int _,A,v,h=>by B4 Ow at h;B4 Rv;~h.2
 | .str _,A,v,h=>by B4 Ow at h;B4 Rv;~h.2
 | .lst ds,A,v,h=>by B4 Ow at h;B4 Rv;B3⟨a,xs,B,h1,h2,h3,h4,h5⟩:=h;~⟨a,xs,h1,pK.of h2,dX.rv ds B xs h5⟩
 | .tup ds,A,v,h=>by B4 Ow at h;B4 Rv;B3⟨a,xs,h1,h2,h3⟩:=h;~⟨a,xs,h1,h2,dX.rv ds A xs h3⟩
 | .dk ks ds,A,v,h=>by B4 Ow at h;B4 Rv;B3⟨a,xs,B,h1,h2,h2',h3,h4,h5⟩:=h;~⟨a,xs,h1,.inl h2,h2',dX.rv ds B xs h5⟩
 | .dt ks ds,A,v,h=>by B4 Ow at h;B4 Rv;B3⟨a,xs,B,h1,h2,h2',h3,h4,h5⟩:=h;~⟨a,xs,h1,.inl h2,h2',dX.rv ds B xs h5⟩
 | .ins C nm ds,A,v,h=>by B4 Ow at h;B4 Rv;B3⟨a,dx,xs,B,h1,h2,h2',h3,h3',h3'',h4,h5⟩:=h;~⟨a,dx,xs,h1,h2,h3,dX.rv ds B xs h5⟩
B5 dX.rv{K:aF}{H:Hp}:∀(ds:List D)(A:Fp)(ys:List V),dX K H ds A ys→eY K H ds ys
 | [],A,ys,h=>by B4 dX at h;B4 eY;~h.2
 | d::ds,A,ys,h=>by B4 dX at h;B4 eY;B3⟨y,yt,A1,A2,h1,h2,h3,h4,h5⟩:=h;~⟨y,yt,h1,Ow.rv d A1 y h4,dX.rv ds A2 yt h5⟩
end
def lO(H:Hp)(a:Addr):Prop:=(∃o,H a=some o)∧yN H a
mutual
B5 Ow.cells{K:aF}{H:Hp}:∀(d:D)(A:Fp)(v:V),Ow K H d A v→∀a,A a→lO H a
 | .non,A,v,h,a,q=>by B4 Ow at h;~absurd q (h.1 a)
 | .bl _,A,v,h,a,q=>by B4 Ow at h;~absurd q (h.1 a)
 | .int _,A,v,h,a,q=>by B4 Ow at h;~absurd q (h.1 a)
 | .str _,A,v,h,a,q=>by B4 Ow at h;~absurd q (h.1 a)
 | .lst ds,A,v,h,a,q=>by
  B4 Ow at h
  B3⟨p,xs,B,h1,h2,h3,h4,h5⟩:=h
  rcases(h4 a).mp q with z | z
  ·cases z;~⟨⟨_,h2⟩,sJ h2⟩
  ·~dX.cells ds B xs h5 a z
 | .tup ds,A,v,h,a,q=>by B4 Ow at h;B3⟨p,xs,h1,h2,h3⟩:=h;~dX.cells ds A xs h3 a q
 | .dk ks ds,A,v,h,a,q=>by
  B4 Ow at h
  B3⟨p,xs,B,h1,h2,h2',h3,h4,h5⟩:=h
  rcases(h4 a).mp q with z | z
  ·cases z;~⟨⟨_,h2⟩,Og h2⟩
  ·~dX.cells ds B xs h5 a z
 | .dt ks ds,A,v,h,a,q=>by
  B4 Ow at h
  B3⟨p,xs,B,h1,h2,h2',h3,h4,h5⟩:=h
  rcases(h4 a).mp q with z | z
  ·cases z;~⟨⟨_,h2⟩,fun ys e=>(by rw[h2]at e;cases e),fun o ys e=>(by rw[h2]at e;cases e)⟩
  ·~dX.cells ds B xs h5 a z
 | .ins C nm ds,A,v,h,a,q=>by
  B4 Ow at h
  B3⟨p,dx,xs,B,h1,h2,h2',h3,h3',h3'',h4,h5⟩:=h
  rcases(h4 a).mp q with (z | z) | z
  ·cases z;~⟨⟨_,h2⟩,fun ys e=>(by rw[h2]at e;cases e),fun o ys e=>(by rw[h2]at e;cases e)⟩
  ·cases z;~⟨⟨_,h2'⟩,fun ys e=>(by rw[h2']at e;cases e),fun o ys e=>(by rw[h2']at e;cases e)⟩
  ·~dX.cells ds B xs h5 a z
B5 dX.cells{K:aF}{H:Hp}:∀(ds:List D)(A:Fp)(ys:List V),dX K H ds A ys→∀a,A a→lO H a
 | [],A,ys,h,a,q=>by B4 dX at h;~absurd q (h.1 a)
 | d::ds,A,ys,h,a,q=>by
  B4 dX at h
  B3⟨y,yt,A1,A2,h1,h2,h3,h4,h5⟩:=h
  rcases(h3 a).mp q with z | z
  ·~Ow.cells d A1 y h4 a z
  ·~dX.cells ds A2 yt h5 a z
end
mutual
def D.jK:D→Bool
  | .non=>true | .bl _=>true | .int _=>true | .str _=>true
  | .tup ds=>D.gY ds
  | _=>false
def D.gY:List D→Bool
  | []=>true
  | d::ds=>D.jK d&&D.gY ds
end
abbrev nil:Fp:=fun _=>False
mutual
B5 zX{K:aF}{H:Hp}:∀(d:D)(v:V),d.jK=true→Rv K H d v→Ow K H d nil v
 | .non,v,_,h=>by B4 Rv at h;B4 Ow;~⟨fun _ z=>z,h⟩
 | .bl _,v,_,h=>by B4 Rv at h;B4 Ow;~⟨fun _ z=>z,h⟩
 | .int _,v,_,h=>by B4 Rv at h;B4 Ow;~⟨fun _ z=>z,h⟩
 | .str _,v,_,h=>by B4 Rv at h;B4 Ow;~⟨fun _ z=>z,h⟩
 | .tup ds,v,i,h=>by B4 D.jK at i;B4 Rv at h;B4 Ow;B3⟨a,xs,h1,h2,h3⟩:=h;~⟨a,xs,h1,h2,Fz ds xs i h3⟩
 | .lst ds,v,i,h=>by B4 D.jK at i;cases i
 | .dk _ ds,v,i,h=>by B4 D.jK at i;cases i
 | .dt _ ds,v,i,h=>by B4 D.jK at i;cases i
 | .ins _ _ ds,v,i,h=>by B4 D.jK at i;cases i
B5 Fz{K:aF}{H:Hp}:∀(ds:List D)(ys:List V),D.gY ds=true→eY K H ds ys→dX K H ds nil ys
 | [],ys,_,h=>by B4 eY at h;B4 dX;~⟨fun _ z=>z,h⟩
 | d::ds,ys,i,h=>by
  B4 D.gY at i
  rw[J7]at i
  B4 eY at h
  B4 dX
  B3⟨y,yt,h1,h2,h3⟩:=h
  ~⟨y,yt,nil,nil,h1,fun _ z _=>z,fun x=>⟨False.elim,fun z=>z.elim id id⟩,zX d y i.1 h2,Fz ds yt i.2 h3⟩
end
open Classical in
noncomputable def out(H:Hp)(A:Fp):Hp:=fun a=>if A a then none else H a
B5 Xy{H:Hp}{A:Fp}{a:Addr}(h:¬A a):out H A a=H a:=by B4 out;rw[if_neg h]
B5 bA{H:Hp}{A:Fp}{a:Addr}{o:HO}:out H A a=some o↔¬A a∧H a=some o:=by
 B4 out
 split
 ·rename_i h;~⟨fun z=>(by cases z),fun z=>absurd h z.1⟩
 ·rename_i h;~⟨fun z=>⟨h,z⟩,fun z=>z.2⟩
B5 kW(H:Hp)(A:Fp):aU (out H A) H:=fun b o h=>(bA.mp h).2
B5 Oj{K:aF}{H:Hp}{A:Fp}(h:∀a,A a→yN H a):vP K H (out H A):=fun a xs q=>by
 rcases q with (q | ⟨o,q⟩) | q
 ·~.inl (.inl (bA.mpr ⟨fun z=>(h a z).1 _ q,q⟩))
 ·~.inl (.inr ⟨o,bA.mpr ⟨fun z=>(h a z).2 _ _ q,q⟩⟩)
 ·~.inr q
B5 Ow.out{K:aF}{H:Hp}{d:D}{A A':Fp}{v:V}(h:Ow K H d A' v)(ap:Apart A' A)(c:∀a,A a→yN H a):Rv K (out H A) d v:=
 Ow.rv d A' v (Ow.frame (Oj c) d A' v h fun a q=>Xy (ap a q))
end L2


namespace L2
open PySem PySem.Spec PyProof.Rows
abbrev DE:=List (Option D)
abbrev FE:=DE→Option D
abbrev FA:=DE→Option (List D)
abbrev FT:=DE→Option Bool
def yO(K:aF)(H:Hp)(e:DE)(σ:St):Prop:=∀(i:Nat)(d:D),e[i]?=some (some d)→∃v,σ[i]?=some (some v)∧Rv K H d v
B5 yO.same{K:aF}{H H':Hp}{e:DE}{σ:St}(h:yO K H e σ)(s:aU H H'):yO K H' e σ:=fun i d q=>let ⟨v,h1,h2⟩:=h i d q;⟨v,h1,s.rv _ _ h2⟩
structure Zn(K:aF)(N:Fp)(Z H:Hp):Prop where
 sm:aU Z H
 tk:vP K H Z
 no:∀a,N a→Z a=none∧¬H a=none
B5 Zn.self(K:aF)(H:Hp):Zn K nil H H:=⟨aU.refl _,fun _ _ h=>h,fun _ z=>z.elim⟩
B5 vP.trans{K:aF}{H H1 H2:Hp}(a:vP K H H1)(b:vP K H1 H2):vP K H H2:=fun p xs h=>b p xs (a p xs h)
B5 Ow.same{K:aF}{H H':Hp}{d:D}{A:Fp}{v:V}(h:Ow K H d A v)(s:aU H H'):Ow K H' d A v:=
 Ow.frame s.tk d A v h fun a q=>by
  B3⟨⟨o,e⟩,_⟩:=Ow.cells d A v h a q
  rw[e];~s a o e
B5 dX.same{K:aF}{H H':Hp}{ds:List D}{A:Fp}{vs:List V}(h:dX K H ds A vs)(s:aU H H'):dX K H' ds A vs:=
 dX.frame s.tk ds A vs h fun a q=>by
  B3⟨⟨o,e⟩,_⟩:=dX.cells ds A vs h a q
  rw[e];~s a o e
def Mm(K:aF)(H H':Hp)(d:D)(v:V):Prop:=∃A,Ow K H' d A v∧∀a,A a→H a=none
def Te(K:aF)(H H':Hp)(ds:List D)(vs:List V):Prop:=∃A,dX K H' ds A vs∧∀a,A a→H a=none
B5 Mm.rv{K:aF}{H H':Hp}{d:D}{v:V}(h:Mm K H H' d v):Rv K H' d v:=let ⟨A,o,_⟩:=h;Ow.rv d A v o
B5 Te.rv{K:aF}{H H':Hp}{ds:List D}{vs:List V}(h:Te K H H' ds vs):eY K H' ds vs:=let ⟨A,o,_⟩:=h;dX.rv ds A vs o
B5 Mm.same{K:aF}{H H' H2:Hp}{d:D}{v:V}(h:Mm K H H' d v)(s:aU H' H2):Mm K H H2 d v:=let ⟨A,o,f⟩:=h;⟨A,o.same s,f⟩
B5 Mm.back{K:aF}{H0 H H':Hp}{d:D}{v:V}(h:Mm K H H' d v)(s:aU H0 H):Mm K H0 H' d v:=let ⟨A,o,f⟩:=h;⟨A,o,fun a q=>s.free (f a q)⟩
B5 Mm.jK{K:aF}{H H':Hp}{d:D}{v:V}(i:d.jK=true)(h:Rv K H' d v):Mm K H H' d v:=⟨nil,zX d v i h,fun _ z=>z.elim⟩
B5 Te.gY{K:aF}{H H':Hp}{ds:List D}{vs:List V}(i:D.gY ds=true)(h:eY K H' ds vs):Te K H H' ds vs:=⟨nil,Fz ds vs i h,fun _ z=>z.elim⟩
open Classical in
noncomputable def Xz(Z H H':Hp):Hp:=fun a=>if H a=none then H' a else Z a
B5 Ga{Z H H':Hp}{a:Addr}(h:H a=none):Xz Z H H' a=H' a:=by B4 Xz;rw[if_pos h]
B5 Ol{Z H H':Hp}{a:Addr}(h:¬H a=none):Xz Z H H' a=Z a:=by B4 Xz;rw[if_neg h]
B5 Iw{K:aF}{N:Fp}{Z H H':Hp}(z:Zn K N Z H):aU Z (Xz Z H H'):=fun b o e=>by
 rw[Ol (by rw[z.sm b o e];intro q;cases q)];~e
B5 Yb{K:aF}{N:Fp}{Z H H':Hp}(z:Zn K N Z H)(s:aU H H'):Zn K N (Xz Z H H') H' where
  sm:=fun b o e=>by
    by_cases c:H b=none
    · rw[Ga c]at e;~e
    · rw[Ol c]at e;~s b o (z.sm b o e)
  tk:=fun a xs h=>by
    by_cases c:H a=none
    · rcases h with (h | ⟨o,h⟩) | h
      · ~.inl (.inl (by rw[Ga c];~h))
      · ~.inl (.inr ⟨o,by rw[Ga c];~h⟩)
      · ~.inr h
    · have q:zO K H a xs:=by
        rcases h with (h | ⟨o,h⟩) | h
        · cases e:H a with
          | none=>~absurd e c
          | some o=>have:=s a o e;rw[h]at this;cases this;~.inl (.inl e)
        · cases e:H a with
          | none=>~absurd e c
          | some o=>have:=s a o e;rw[h]at this;cases this;~.inl (.inr ⟨_,e⟩)
        · ~.inr h
      ~(Iw z).tup (z.tk a xs q)
  no:=fun a q=>⟨by rw[Ol (z.no a q).2];~(z.no a q).1,fun h=>(z.no a q).2 (s.free h)⟩
B5 Mm.zone{K:aF}{N:Fp}{Z H H':Hp}{d:D}{v:V}(h:Mm K H H' d v)(z:Zn K N Z H)(s:aU H H'):Rv K (Xz Z H H') d v:=by
 B3⟨A,o,f⟩:=h
 ~Ow.rv d A v (Ow.frame (Yb z s).tk d A v o fun a q=>Ga (f a q))
def Iz(K:aF)(t:TE)(f:FE):Prop:=∀{N:Fp}(σ:St)(H Z:Hp)(e:DE)(d:D)(Q:VK),Zn K N Z H→yO K Z e σ→f e=some d →
 (∀v H' Z',aU H H'→aU Z Z'→Zn K N Z' H'→Rv K Z' d v→Q v H')→t σ H Q
def Sg(K:aF)(t:TE)(f:FE):Prop:=∀(σ:St)(H:Hp)(e:DE)(d:D)(Q:VK),yO K H e σ→f e=some d →
 (∀v H',aU H H'→Mm K H H' d v→Q v H')→t σ H Q
def TQ(K:aF)(t:TT)(f:FT):Prop:=∀(σ:St)(H:Hp)(e:DE)(b:Bool)(Q:Bool→Hp→Prop),yO K H e σ→f e=some b→(∀H',aU H H'→Q b H')→t σ H Q
def EvA(K:aF)(t:TA)(f:FA):Prop:=∀{N:Fp}(σ:St)(H Z:Hp)(e:DE)(ds:List D)(Q:List V→Hp→Prop),Zn K N Z H→yO K Z e σ→f e=some ds →
 (∀vs H' Z',aU H H'→aU Z Z'→Zn K N Z' H'→eY K Z' ds vs→Q vs H')→t σ H Q
def EvB(K:aF)(t:TA)(f:FA):Prop:=∀(σ:St)(H:Hp)(e:DE)(ds:List D)(Q:List V→Hp→Prop),yO K H e σ→f e=some ds →
 (∀vs H',aU H H'→Te K H H' ds vs→Q vs H')→t σ H Q
B5 Sg.r{K:aF}{t:TE}{f:FE}(h:Sg K t f):Iz K t f:=fun σ H Z e d Q z r q k=>
 h σ H e d Q (r.same z.sm) q fun v H' s n=>k v H' (Xz Z H H') s (Iw z) (Yb z s) (n.zone z s)
def cO(f:FE):FE:=fun e=>(f e).bind fun d=>if d.jK=true then some d else none
B5 Uv{f:FE}{e:DE}{d:D}:cO f e=some d↔f e=some d∧d.jK=true:=by
 B4 cO
 cases q:f e with
 | none=>simp
 | some a=>
  simp only[C4]
  split
  ·rename_i h;constructor
   ·intro z;cases z;~⟨rfl,h⟩
   ·rintro⟨z,_⟩;~z
  ·rename_i h;constructor
   ·intro z;cases z
   ·rintro⟨z,z2⟩;cases z;~absurd z2 h
B5 Iz.n{K:aF}{t:TE}{f:FE}(h:Iz K t f):Sg K t (cO f):=fun σ H e d Q r q k=>by
 B3⟨q1,q2⟩:=Uv.mp q
 ~h σ H H e d Q (Zn.self K H) r q1 fun v H' Z' s1 s2 z' rv=>k v H' s1 (.jK q2 (z'.sm.rv _ _ rv))
def aD(i:Nat):FE:=fun e=>(e[i]?).getD none
B5 aFJ{K:aF}(i:Nat):Iz K (qN i) (aD i):=fun σ H Z e d Q z r q k=>by
 have e1:e[i]?=some (some d):=by
  B4 aD at q
  cases h:e[i]? with
  | none=>rw[h]at q;cases q
  | some o=>rw[h]at q;cases q;rfl
 B3⟨v,h1,h2⟩:=r i d e1
 ~⟨v,h1,k v H Z (aU.refl _) (aU.refl _) z h2⟩
def fC(d:D):FE:=fun _=>some d
B5 aAt{K:aF}(i:Int):Sg K (tC (.int i)) (fC (.int i)):=fun σ H e d Q r q k=>by cases q;~k _ H (aU.refl _) (.jK rfl (by B4 Rv;rfl))
B5 aHB{K:aF}(i:Bool):Sg K (tC (.bl i)) (fC (.bl i)):=fun σ H e d Q r q k=>by cases q;~k _ H (aU.refl _) (.jK rfl (by B4 Rv;rfl))
B5 aFK{K:aF}:Sg K (tC .non) (fC .non):=fun σ H e d Q r q k=>by cases q;~k _ H (aU.refl _) (.jK rfl (by B4 Rv;rfl))
def f2(φ:D→D→Option D)(f g:FE):FE:=fun e=>(f e).bind fun a=>(g e).bind fun b=>φ a b
B5 Mq{φ:D→D→Option D}{f g:FE}{e:DE}{d:D}(h:f2 φ f g e=some d):∃a b,f e=some a∧g e=some b∧φ a b=some d:=by
 B4 f2 at h
 B3⟨a,h1,h2⟩:=aY h
 B3⟨b,h3,h4⟩:=aY h2
 ~⟨a,b,h1,h3,h4⟩
def OpD(K:aF)(r:R2)(φ:D→D→Option D):Prop:=∀{N:Fp}(x y:V)(H Z:Hp)(a b d:D)(Q:VK),Zn K N Z H→Rv K Z a x→Rv K Z b y→φ a b=some d →
 (∀v H' Z',aU H H'→aU Z Z'→Zn K N Z' H'→Rv K Z' d v→Q v H')→r x y H Q
def TV(K:aF)(r:R2)(φ:D→D→Option D):Prop:=∀(x y:V)(H:Hp)(a b d:D)(Q:VK),Rv K H a x→Rv K H b y→φ a b=some d →
 (∀v H',aU H H'→Mm K H H' d v→Q v H')→r x y H Q
B5 aHC{K:aF}{r:R2}{φ:D→D→Option D}{ta tb:TE}{f g:FE}(o:OpD K r φ)(ha:Iz K ta f)(hb:Iz K tb g):Iz K (CW r ta tb) (f2 φ f g):=fun σ H Z e d Q z re q k=>by
 B3⟨a,b,h1,h2,h3⟩:=Mq q
 &ha σ H Z e a _ z re h1 fun x H1 Z1 s1 t1 z1 rx=>hb σ H1 Z1 e b _ z1 (re.same t1) h2 fun y H2 Z2 s2 t2 z2 ry=>?_
 ~o x y H2 Z2 a b d Q z2 (t2.rv _ _ rx) ry h3 fun v H3 Z3 s3 t3 z3 rv=>k v H3 Z3 (s1.trans (s2.trans s3)) (t1.trans (t2.trans t3)) z3 rv
B5 aAu{K:aF}{r:R2}{φ:D→D→Option D}{ta tb:TE}{f g:FE}(o:TV K r φ)(ha:Iz K ta f)(hb:Iz K tb g):Sg K (CW r ta tb) (f2 φ f g):=fun σ H e d Q re q k=>by
 B3⟨a,b,h1,h2,h3⟩:=Mq q
 &ha σ H H e a _ (Zn.self K H) re h1 fun x H1 Z1 s1 t1 z1 rx=>hb σ H1 Z1 e b _ z1 (re.same t1) h2 fun y H2 Z2 s2 t2 z2 ry=>?_
 ~o x y H2 a b d Q (z2.sm.rv _ _ (t2.rv _ _ rx)) (z2.sm.rv _ _ ry) h3 fun v H3 s3 n=>k v H3 (s1.trans (s2.trans s3)) (n.back (s1.trans s2))
def Om(C:Int→Int→Prop) [∀i j,Decidable (C i j)] (g:Int→Int→D):D→D→Option D
 | .int i,.int j=>if C i j then some (g i j)else none
 | _,_=>none
B5 Oo{C:Int→Int→Prop} [∀i j,Decidable (C i j)] {g:Int→Int→D} {a b d:D} (h:Om C g a b=some d):∃i j,a=.int i∧b=.int j∧C i j∧d=g i j:=by
 B4 Om at h
 split at h
 ·split at h
  ·rename_i i j c;cases h;~⟨i,j,rfl,rfl,c,rfl⟩
  ·cases h
 ·cases h
B5 Yc{K:aF}{C:Int→Int→Prop} [∀i j,Decidable (C i j)] {C':Int→Int→Prop} (hC:∀i j,C i j→C' i j) {g:Int→Int→Int}:TV K (rI C' fun i j=>.int (g i j)) (Om C fun i j=>.int (g i j)):=fun x y H a b d Q ra rb q k=>by
 B3⟨i,j,rfl,rfl,c,rfl⟩:=Oo q
 B4 Rv at ra rb
 ~⟨i,j,ra,rb,hC i j c,k _ H (aU.refl _) (.jK rfl (by B4 Rv;rfl))⟩
B5 aC6{K:aF}{g:Int→Int→Int}:TV K (xq fun i j=>.int (g i j)) (Om (fun _ _=>True) fun i j=>.int (g i j)):=fun x y H a b d Q ra rb q k=>by
 B3⟨i,j,rfl,rfl,c,rfl⟩:=Oo q
 B4 Rv at ra rb
 ~⟨i,j,ra,rb,k _ H (aU.refl _) (.jK rfl (by B4 Rv;rfl))⟩
B5 sV{K:aF}{g:Int→Int→Bool}:TV K (xq fun i j=>.bl (g i j)) (Om (fun _ _=>True) fun i j=>.bl (g i j)):=fun x y H a b d Q ra rb q k=>by
 B3⟨i,j,rfl,rfl,c,rfl⟩:=Oo q
 B4 Rv at ra rb
 ~⟨i,j,ra,rb,k _ H (aU.refl _) (.jK rfl (by B4 Rv;rfl))⟩
def aK:FA:=fun _=>some []
def aA(f:FE)(fs:FA):FA:=fun e=>(f e).bind fun a=>(fs e).bind fun r=>some (a::r)
B5 Ld{f:FE}{fs:FA}{e:DE}{ds:List D}(h:aA f fs e=some ds):∃a r,f e=some a∧fs e=some r∧ds=a::r:=by
 B4 aA at h
 B3⟨a,h1,h2⟩:=aY h
 B3⟨b,h3,h4⟩:=aY h2
 cases h4
 ~⟨a,b,h1,h3,rfl⟩
B5 aAv{K:aF}:EvA K nG aK:=fun σ H Z e ds Q z re q k=>by cases q;~k [] H Z (aU.refl _) (aU.refl _) z (by B4 eY;rfl)
B5 aC7{K:aF}{te:TE}{t:TA}{f:FE}{fs:FA}(h:Iz K te f)(hs:EvA K t fs):EvA K (fY te t) (aA f fs):=fun σ H Z e ds Q z re q k=>by
 B3⟨a,r,h1,h2,rfl⟩:=Ld q
 &h σ H Z e a _ z re h1 fun x H1 Z1 s1 t1 z1 rx=>hs σ H1 Z1 e r _ z1 (re.same t1) h2 fun vs H2 Z2 s2 t2 z2 rs=>?_
 ~k _ H2 Z2 (s1.trans s2) (t1.trans t2) z2 (by B4 eY;~⟨x,vs,rfl,t2.rv _ _ rx,rs⟩)
B5 aFL{K:aF}:EvB K nG aK:=fun σ H e ds Q re q k=>by cases q;~k [] H (aU.refl _) (.gY rfl (by B4 eY;rfl))
B5 aC8{K:aF}{te:TE}{t:TA}{f:FE}{fs:FA}(h:Sg K te f)(hs:EvB K t fs):EvB K (fY te t) (aA f fs):=fun σ H e ds Q re q k=>by
 B3⟨a,r,h1,h2,rfl⟩:=Ld q
 &h σ H e a _ re h1 fun x H1 s1 n1=>hs σ H1 e r _ (re.same s1) h2 fun vs H2 s2 n2=>?_
 &k _ H2 (s1.trans s2) ?_
 B3⟨A,oA,fA⟩:=n1
 B3⟨B,oB,fB⟩:=n2
 &⟨fK A B,?_,fun p q=>q.elim (fA p) fun z=>s1.free (fB p z)⟩
 B4 dX
 &⟨x,vs,A,B,rfl,fun p qa qb=>?_,fun _=>Iff.rfl,oA.same s2,oB⟩
 B3⟨⟨o,e1⟩,_⟩:=Ow.cells _ _ _ oA p qa
 rw[fB p qb]at e1;cases e1
def cap(n:Nat)(d:D):Option D:=if n≤100000 then some d else none
B5 Oq{n:Nat}{d d':D}(h:cap n d=some d'):n≤100000∧d'=d:=by
 B4 cap at h
 split at h
 ·rename_i c;cases h;~⟨c,rfl⟩
 ·cases h
B5 Uw{n:Nat}(h:n≤100000):n≤sizeLine:=by rw[sizeLine_eq];omega
B5 Ot{n:Nat}(h:n≤100000):n<sizeLine:=by rw[sizeLine_eq];omega
def kE(fs:FA):FE:=fun e=>(fs e).bind fun ds=>cap ds.length (.lst ds)
def vQ(fs:FA):FE:=fun e=>(fs e).bind fun ds=>cap ds.length (.tup ds)
B5 uH{K:aF}{H H1:Hp}{ds:List D}{xs:List V}{p:Addr}(s:aU H H1)(n:Te K H H1 ds xs)(hp:H1 p=none):Mm K H (upd H1 p (.lst xs)) (.lst ds) (.ref p):=by
 B3⟨A,o,f⟩:=n
 &⟨fK (·=p) A,?_,fun a q=>q.elim (fun z=>by cases z;~s.free hp) (f a)⟩
 B4 Ow
 &⟨p,xs,A,rfl,cJ,fun z=>?_,fun _=>Iff.rfl,o.same (dO hp _)⟩
 B3⟨⟨u,e⟩,_⟩:=dX.cells _ _ _ o p z
 rw[hp]at e;cases e
B5 au{K:aF}{H H1:Hp}{ds:List D}{xs:List V}{p:Addr}(n:Te K H H1 ds xs)(hp:H1 p=none):Mm K H (upd H1 p (.tup xs)) (.tup ds) (.ref p):=by
 B3⟨A,o,f⟩:=n
 &⟨A,?_,f⟩
 B4 Ow
 ~⟨p,xs,rfl,zO.of cJ,o.same (dO hp _)⟩
B5 aFM{K:aF}{t:TA}{fs:FA}(h:EvB K t fs):Sg K (zu t) (kE fs):=fun σ H e d Q re q k=>by
 B4 kE at q
 B3⟨ds,h1,h2⟩:=aY q
 B3⟨hc,rfl⟩:=Oq h2
 &h σ H e ds _ re h1 fun xs H1 s1 n=>⟨Uw (by rw[n.rv.length];~hc),fun p hp=>?_⟩
 ~k _ _ (s1.trans (dO hp _)) (uH s1 n hp)
B5 aFN{K:aF}{t:TA}{fs:FA}(h:EvB K t fs):Sg K (aCF t) (vQ fs):=fun σ H e d Q re q k=>by
 B4 vQ at q
 B3⟨ds,h1,h2⟩:=aY q
 B3⟨hc,rfl⟩:=Oq h2
 &h σ H e ds _ re h1 fun xs H1 s1 n=>⟨Uw (by rw[n.rv.length];~hc),fun p hp=>?_⟩
 ~k _ _ (s1.trans (dO hp _)) (au n hp)
B5 TX{K:aF}{N:Fp}{Z H:Hp}{p:Addr}{o:HO}(z:Zn K N Z H)(hp:H p=none):aU Z (upd Z p o)∧Zn K N (upd Z p o) (upd H p o):=by
 have hz:Z p=none:=z.sm.free hp
 &⟨dO hz o,⟨fun b u e=>?_,fun a xs h=>?_,fun a q=>?_⟩⟩
 ·by_cases c:b=p
  ·subst c;rw[cJ]at e;rw[cJ];~e
  ·rw[bQ c]at e;rw[bQ c];~z.sm b u e
 ·by_cases c:a=p
  ·subst c
   rcases h with (h | ⟨u,h⟩) | h
   ·rw[cJ]at h;~.inl (.inl (by rw[cJ];~h))
   ·rw[cJ]at h;~.inl (.inr ⟨u,by rw[cJ];~h⟩)
   ·~.inr h
  ·have q:zO K H a xs:=by
    rcases h with (h | ⟨u,h⟩) | h
    ·rw[bQ c]at h;~.inl (.inl h)
    ·rw[bQ c]at h;~.inl (.inr ⟨u,h⟩)
    ·~.inr h
   ~(dO hz o).tup (z.tk a xs q)
 ·have c:a≠p:=fun z'=>(z.no a q).2 (by rw[z'];~hp)
  rw[bQ c,bQ c];~z.no a q
B5 aFO{K:aF}{t:TA}{fs:FA}(h:EvA K t fs):Iz K (zu t) (kE fs):=fun σ H Z e d Q z re q k=>by
 B4 kE at q
 B3⟨ds,h1,h2⟩:=aY q
 B3⟨hc,rfl⟩:=Oq h2
 &h σ H Z e ds _ z re h1 fun xs H1 Z1 s1 t1 z1 rs=>⟨Uw (by rw[rs.length];~hc),fun p hp=>?_⟩
 B3⟨a1,a2⟩:=TX (o:=.lst xs) z1 hp
 ~k _ _ _ (s1.trans (dO hp _)) (t1.trans a1) a2 (by B4 Rv;~⟨p,xs,rfl,pK.of cJ,a1.TJ _ _ rs⟩)
end L2


namespace L2
open PySem PySem.Spec PyProof.Rows
structure XR(K:aF)(X:Cx)(e:Expr)(t:TE)(f:FE):Prop where
 hk:X.K=K
 pe:PE X e t
 ev:Iz K t f
structure XN(K:aF)(X:Cx)(e:Expr)(t:TE)(f:FE):Prop where
 hk:X.K=K
 pe:PE X e t
 ev:Sg K t f
structure XT(K:aF)(X:Cx)(e:Expr)(t:TT)(f:FT):Prop where
 hk:X.K=K
 pt:PT X e t
 ev:TQ K t f
structure XW(K:aF)(X:Cx)(e:Expr)(t:TT)(f:FT):Prop where
 hk:X.K=K
 pw:PW X e t
 ev:TQ K t f
structure XA(K:aF)(X:Cx)(es:List Expr)(t:TA)(f:FA):Prop where
 hk:X.K=K
 pa:PA X es t
 ev:EvA K t f
structure XB(K:aF)(X:Cx)(es:List Expr)(t:TA)(f:FA):Prop where
 hk:X.K=K
 pa:PA X es t
 ev:EvB K t f
section
variable{K:aF}{X:Cx}{e a b c:Expr}{es:List Expr}{t ta tb:TE}{f g:FE}{tA:TA}{fs:FA}{pos:Pos}
B5 XN.r(h:XN K X e t f):XR K X e t f:=⟨h.hk,h.pe,h.ev.r⟩
B5 XR.n(h:XR K X e t f):XN K X e t (cO f):=⟨h.hk,h.pe,Iz.n h.ev⟩
B5 aJ{i:Nat}(h:PE X e (qN i))(hk:X.K=K:=by rfl):XR K X e (qN i) (aD i):=⟨hk,h,aFJ i⟩
B5 aN{i:Int}{j:Nat}(hk:X.K=K:=by rfl):XN K X (.Constant (.int i) j pos) (tC (.int i)) (fC (.int i)):=⟨hk,yh,aAt i⟩
B5 zY{i:Bool}{j:Nat}(hk:X.K=K:=by rfl):XN K X (.Constant (.bool i) j pos) (tC (.bl i)) (fC (.bl i)):=⟨hk,aHa,aHB i⟩
B5 zZ{j:Nat}(hk:X.K=K:=by rfl):XN K X (.Constant .none j pos) (tC .non) (fC .non):=⟨hk,aE0,aFK⟩
B5 Ux{op:Operator}{r:R2}{φ:D→D→Option D}(ho:wM X (binaryOp op) r)(hd:TV K r φ)(ha:XR K X a ta f)(hb:XR K X b tb g):XN K X (.BinOp a op b pos) (CW r ta tb) (f2 φ f g):=⟨ha.hk,aEa ho ha.pe hb.pe,aAu hd ha.ev hb.ev⟩
def zG:D→D→Option D:=Om (fun _ _=>True) fun i j=>.int (i-j)
instance (i j:Int):Decidable (Su i j):=by B4 Su;~inferInstance
instance (i j:Int):Decidable (lg i j):=by B4 lg;~inferInstance
instance (i j:Int):Decidable (lq i j):=by B4 lq;~inferInstance
def sW:D→D→Option D:=Om Su fun i j=>.int (i*j)
def sX:D→D→Option D:=Om lg fun i j=>.int (i/j)
def eV:D→D→Option D:=Om (fun _ j=>0<j) fun i j=>.int (i%j)
def zH:D→D→Option D:=Om lq fun i j=>.int (i ^ j.toNat)
B5 qO(ha:XR K X a ta f)(hb:XR K X b tb g):XN K X (.BinOp a .Sub b pos) (CW (xq fun i j=>.int (i-j)) ta tb) (f2 zG f g):=Ux aFi aC6 ha hb
B5 lQ(ha:XR K X a ta f)(hb:XR K X b tb g):XN K X (.BinOp a .Mult b pos) (CW (rI Su fun i j=>.int (i*j)) ta tb) (f2 sW f g):=Ux aFj (Yc fun _ _ h=>h) ha hb
B5 oJ(ha:XR K X a ta f)(hb:XR K X b tb g):XN K X (.BinOp a .FloorDiv b pos) (CW (rI lg fun i j=>.int (i/j)) ta tb) (f2 sX f g):=Ux aCz (Yc fun _ _ h=>h) ha hb
B5 bT(ha:XR K X a ta f)(hb:XR K X b tb g):XN K X (.BinOp a .Mod b pos) (CW (rI (fun _ j=>0<j) fun i j=>.int (i%j)) ta tb) (f2 eV f g):=Ux aFk (Yc fun _ _ h=>h) ha hb
B5 vA(ha:XR K X a ta f)(hb:XR K X b tb g):XN K X (.BinOp a .Pow b pos) (CW (rI lq fun i j=>.int (i ^ j.toNat)) ta tb) (f2 zH f g):=Ux aFl (Yc fun _ _ h=>h) ha hb
B5 Yd{op:CmpOp}{r:R2}{φ:D→D→Option D}(ho:wM X (compareOp op) r)(hd:TV K r φ)(ha:XR K X a ta f)(hb:XR K X b tb g)(hm:behindInMarks op b=false):XN K X (.Compare a [op] [b] pos) (CW r ta tb) (f2 φ f g):=⟨ha.hk,aCB ho ha.pe hb.pe hm,aAu hd ha.ev hb.ev⟩
def fB(f:FE):FT:=fun e=>(f e).bind fun d=>match d with | .bl b=>some b | _=>none
B5 Gb{f:FE}{e:DE}{b:Bool}(h:fB f e=some b):f e=some (.bl b):=by
 B4 fB at h
 B3⟨d,h1,h2⟩:=aY h
 split at h2
 ·cases h2;~h1
 ·cases h2
B5 aC9(h:Iz K t f):TQ K (FQ t) (fB f):=fun σ H e b Q re q k=>h σ H H e _ _ (Zn.self K H) re (Gb q) fun v H' Z' s1 s2 z rv=>by
 B4 Rv at rv
 ~⟨b,rv,k H' s1⟩
B5 aEj(h:Iz K t f):TQ K (tB t) (fB f):=fun σ H e b Q re q k=>h σ H H e _ _ (Zn.self K H) re (Gb q) fun v H' Z' s1 s2 z rv=>by
 B4 Rv at rv
 ~⟨b,rv,k H' s1⟩
B5 cT{op:CmpOp}{r:R2}{φ:D→D→Option D}(ho:wM X (compareOp op) r)(hd:TV K r φ)(ha:XR K X a ta f)(hb:XR K X b tb g)(hm:behindInMarks op b=false):XT K X (.Compare a [op] [b] pos) (FQ (CW r ta tb)) (fB (f2 φ f g)):=⟨ha.hk,aCC ho ha.pe hb.pe hm,aC9 (aAu hd ha.ev hb.ev).r⟩
B5 Ja(h:XR K X e t f)(he:∀whole,isTrue e X.env whole=(do let v ←whole;standAt e.pos;holding [v] (truthy v)):=by intro _;rfl):XT K X e (tB t) (fB f):=⟨h.hk,aE2 h.pe he,aEj h.ev⟩
def xu:D→D→Option D:=Om (fun _ _=>True) fun i j=>.bl (decide (i<j))
def dLe:D→D→Option D:=Om (fun _ _=>True) fun i j=>.bl (decide (i≤j))
def dGt:D→D→Option D:=Om (fun _ _=>True) fun i j=>.bl (decide (j<i))
def dGe:D→D→Option D:=Om (fun _ _=>True) fun i j=>.bl (decide (j≤i))
def toV:D→Option V
  | .non=>some .non | .bl b=>some (.bl b) | .int i=>some (.int i) | .str x=>some (.str x)
  | _=>none
B5 Jb{H:Hp}{d:D}{v x:V}(h:toV d=some v)(r:Rv K H d x):x=v:=by
 cases d<;>B4 toV at h<;>first | (cases h;B4 Rv at r;~r) | cases h
mutual
def jO:D→Option DV
 | .int i=>some (.int i)
 | .non=>some .non
 | .lst ds=>(pL ds).map DV.lst
 | .tup ds=>(pL ds).map DV.tup
 | _=>none
def pL:List D→Option (List DV)
 | []=>some []
 | d::ds=>(jO d).bind fun x=>(pL ds).bind fun xs=>some (x::xs)
end
mutual
B5 wV{H:Hp}:∀(d:D)(x:DV)(v:V),jO d=some x→Rv K H d v→Reads K H x v
 | .int i,x,v,h,r=>by B4 jO at h;cases h;B4 Rv at r;B4 Reads;~r
 | .lst ds,x,v,h,r=>by
  B4 jO at h
  B3⟨xs,h1,rfl⟩:=lN h
  B4 Rv at r;B4 Reads
  B3⟨a,vs,r1,r2,r3⟩:=r
  ~⟨a,vs,r1,r2,Ou ds xs vs h1 r3⟩
 | .tup ds,x,v,h,r=>by
  B4 jO at h
  B3⟨xs,h1,rfl⟩:=lN h
  B4 Rv at r;B4 Reads
  B3⟨a,vs,r1,r2,r3⟩:=r
  ~⟨a,vs,r1,r2,Ou ds xs vs h1 r3⟩
 | .non,x,v,h,r=>by B4 jO at h;cases h;B4 Rv at r;B4 Reads;~r
 | .bl _,x,v,h,r=>by B4 jO at h;cases h
 | .str _,x,v,h,r=>by B4 jO at h;cases h
 | .dk _ _,x,v,h,r=>by B4 jO at h;cases h
 | .dt _ _,x,v,h,r=>by B4 jO at h;cases h
 | .ins _ _ _,x,v,h,r=>by B4 jO at h;cases h
B5 Ou{H:Hp}:∀(ds:List D)(xs:List DV)(vs:List V),pL ds=some xs→eY K H ds vs→eN K H xs vs
 | [],xs,vs,h,r=>by B4 pL at h;cases h;B4 eY at r;B4 eN;~r
 | d::ds,xs,vs,h,r=>by
  B4 pL at h
  B3⟨x,h1,h2⟩:=aY h
  B3⟨xt,h3,h4⟩:=aY h2
  cases h4
  B4 eY at r;B4 eN
  B3⟨y,ys,r1,r2,r3⟩:=r
  ~⟨y,ys,r1,wV d x y h1 r2,Ou ds xt ys h3 r3⟩
end
mutual
B5 aAw:∀(d e:D)(x:DV),jO d=some x→jO e=some x→d=e
 | .int i,e,x,h,h'=>by
  B4 jO at h;cases h
  cases e<;>B4 jO at h'<;>first | (cases h';rfl) | cases h' | (B3⟨xs,q1,q2⟩:=lN h';cases q2)
 | .lst ds,e,x,h,h'=>by
  B4 jO at h
  B3⟨xs,h1,rfl⟩:=lN h
  cases e with
  | lst es=>B4 jO at h';B3⟨ys,q1,q2⟩:=lN h';cases q2;rw[Jc ds es xs h1 q1]
  | tup es=>B4 jO at h';B3⟨ys,q1,q2⟩:=lN h';cases q2
  | _=>B4 jO at h';cases h'
 | .tup ds,e,x,h,h'=>by
  B4 jO at h
  B3⟨xs,h1,rfl⟩:=lN h
  cases e with
  | tup es=>B4 jO at h';B3⟨ys,q1,q2⟩:=lN h';cases q2;rw[Jc ds es xs h1 q1]
  | lst es=>B4 jO at h';B3⟨ys,q1,q2⟩:=lN h';cases q2
  | _=>B4 jO at h';cases h'
 | .non,e,x,h,h'=>by
  B4 jO at h;cases h
  cases e<;>B4 jO at h'<;>first | (cases h';rfl) | cases h' | (B3⟨xs,q1,q2⟩:=lN h';cases q2)
 | .bl _,e,x,h,h'=>by B4 jO at h;cases h
 | .str _,e,x,h,h'=>by B4 jO at h;cases h
 | .dk _ _,e,x,h,h'=>by B4 jO at h;cases h
 | .dt _ _,e,x,h,h'=>by B4 jO at h;cases h
 | .ins _ _ _,e,x,h,h'=>by B4 jO at h;cases h
B5 Jc:∀(ds es:List D)(xs:List DV),pL ds=some xs→pL es=some xs→ds=es
 | [],[],xs,h,h'=>rfl
 | [],e::es,xs,h,h'=>by
  B4 pL at h h'
  cases h
  B3⟨x,h1,h2⟩:=aY h'
  B3⟨xt,h3,h4⟩:=aY h2
  cases h4
 | d::ds,[],xs,h,h'=>by
  B4 pL at h h'
  cases h'
  B3⟨x,h1,h2⟩:=aY h
  B3⟨xt,h3,h4⟩:=aY h2
  cases h4
 | d::ds,e::es,xs,h,h'=>by
  B4 pL at h h'
  B3⟨x,h1,h2⟩:=aY h
  B3⟨xt,h3,h4⟩:=aY h2
  cases h4
  B3⟨y,k1,k2⟩:=aY h'
  B3⟨yt,k3,k4⟩:=aY k2
  cases k4
  rw[aAw d e x h1 k1,Jc ds es xt h3 k3]
end
noncomputable def Il(a b:D):Option D:=match toV a,toV b with
 | some x,some y=>if aCA x y=true then some (.bl (decide (x=y)))else none
 | _,_=>match jO a,jO b with
  | some x,some y=>if x.depth≤32 then some (.bl (zV x y))else none
  | _,_=>none
B5 yP:TV K (fun x y H Q=>rEq x y H Q∨aFD K false x y H Q) Il:=fun x y H a b d Q ra rb q k=>by
 B4 Il at q
 split at q
 ·rename_i u v h1 h2
  split at q
  ·rename_i hs
   cases q
   rw[Jb h1 ra,Jb h2 rb]
   ~.inl ⟨hs,k _ H (aU.refl _) (.jK rfl (by B4 Rv;rfl))⟩
  ·cases q
 ·split at q
  ·rename_i u v h1 h2
   split at q
   ·rename_i hs
    cases q
    ~.inr ⟨u,v,wV a u x h1 ra,wV b v y h2 rb,hs,k _ H (aU.refl _) (.jK rfl (by B4 Rv;rfl))⟩
   ·cases q
  ·cases q
noncomputable def Gd(a b:D):Option D:=match toV a,toV b with
 | some x,some y=>if aCA x y=true then some (.bl (!decide (x=y)))else none
 | _,_=>match jO a,jO b with
  | some (.lst x),some (.lst y)=>if gQ x≤32 then some (.bl (!zV (.lst x) (.lst y)))else none
  | some (.tup x),some (.tup y)=>if gQ x≤32 then some (.bl (!zV (.tup x) (.tup y)))else none
  | _,_=>none
def aHD(K:aF):R2:=fun x y H Q=>rNe x y H Q∨(∃ds es,Reads K H (.lst ds) x∧Reads K H (.lst es) y∧gQ ds≤32∧Q (.bl (!zV (.lst ds) (.lst es))) H)∨(∃ds es,Reads K H (.tup ds) x∧Reads K H (.tup es) y∧gQ ds≤32∧Q (.bl (!zV (.tup ds) (.tup es))) H)
B5 yQ:TV K (aHD K) Gd:=fun x y H a b d Q ra rb q k=>by
 B4 Gd at q
 split at q
 ·rename_i u v h1 h2
  split at q
  ·rename_i hs
   cases q
   rw[Jb h1 ra,Jb h2 rb]
   ~.inl ⟨hs,k _ H (aU.refl _) (.jK rfl (by B4 Rv;rfl))⟩
  ·cases q
 ·split at q
  ·rename_i u v h1 h2
   split at q
   ·rename_i hs
    cases q
    ~.inr (.inl ⟨u,v,wV a _ x h1 ra,wV b _ y h2 rb,hs,k _ H (aU.refl _) (.jK rfl (by B4 Rv;rfl))⟩)
   ·cases q
  ·rename_i u v h1 h2
   split at q
   ·rename_i hs
    cases q
    ~.inr (.inr ⟨u,v,wV a _ x h1 ra,wV b _ y h2 rb,hs,k _ H (aU.refl _) (.jK rfl (by B4 Rv;rfl))⟩)
   ·cases q
  ·cases q
B5 or_eq(hu:X.A.units+64<cLine)(hk:X.K=K):wM X (compareOp .Eq) (fun x y H Q=>rEq x y H Q∨aFD K false x y H Q):=by subst hk;~aHn.or (aFE hu)
B5 yR(hu:X.A.units+64<cLine)(hk:X.K=K):wM X (compareOp .NotEq) (aHD K):=by subst hk;~aHo.or ((aFF hu).or (aFH hu))
def HF:List D→Option (List V)
 | []=>some []
 | d::ds=>(toV d).bind fun x=>(HF ds).bind fun xs=>some (x::xs)
B5 az{H:Hp}:∀{ds:List D} {vs xs:List V},HF ds=some vs→eY K H ds xs→xs=vs
 | [],vs,xs,h,r=>by B4 HF at h;cases h;B4 eY at r;~r
 | d::ds,vs,xs,h,r=>by
  B4 HF at h
  B3⟨x,h1,h2⟩:=aY h
  B3⟨xt,h3,h4⟩:=aY h2
  cases h4
  B4 eY at r
  B3⟨y,ys,rfl,r2,r3⟩:=r
  rw[Jb h1 r2,az h3 r3]
def zJ:D→Option (List D)
 | .lst ds=>some ds
 | .tup ds=>some ds
 | _=>none
B5 Mr{H:Hp}{d:D}{ds:List D}{v:V}(h:zJ d=some ds)(r:Rv K H d v):∃p xs,v=.ref p∧(pK K H p xs∨zO K H p xs)∧eY K H ds xs:=by
 cases d with
 | lst es=>B4 zJ at h;cases h;B4 Rv at r;B3⟨p,xs,r1,r2,r3⟩:=r;~⟨p,xs,r1,.inl r2,r3⟩
 | tup es=>B4 zJ at h;cases h;B4 Rv at r;B3⟨p,xs,r1,r2,r3⟩:=r;~⟨p,xs,r1,.inr r2,r3⟩
 | _=>B4 zJ at h;cases h
def dIn(neg:Bool)(a b:D):Option D:=(toV a).bind fun x=>(zJ b).bind fun ds=>(HF ds).bind fun xs=>if zQ x=true∧xs.all zQ=true then some (.bl (if neg then !inV x xs else inV x xs))else none
B5 bc(neg:Bool):TV K (rIn K neg) (dIn neg):=fun x y H a b d Q ra rb q k=>by
 B4 dIn at q
 B3⟨u,h1,q⟩:=aY q
 B3⟨ds,h2,q⟩:=aY q
 B3⟨us,h3,q⟩:=aY q
 split at q
 ·rename_i c
  cases q
  B3⟨p,xs,rfl,r2,r3⟩:=Mr h2 rb
  have:=az h3 r3
  subst this
  rw[Jb h1 ra]
  ~⟨p,xs,rfl,r2,c.1,c.2,k _ H (aU.refl _) (.jK rfl (by B4 Rv;rfl))⟩
 ·cases q
B5 aHE(hk:X.K=K):wM X (compareOp .In) (rIn K false):=by subst hk;~mz
B5 Ov(hk:X.K=K):wM X (compareOp .NotIn) (rIn K true):=by subst hk;~Xo
end
section
variable{κ:Type} [DecidableEq κ] {K:aF} {H:Hp}
def posK:List κ→κ→Option Nat
 | [],_=>none
 | a::ks,k=>if a=k then some 0 else(posK ks k).map (·+1)
B5 sY:∀{ks:List κ} {xs:List V} {k:κ},ks.length=xs.length→wQ (ks.zip xs) k=(posK ks k).bind fun j=>xs[j]?
 | [],xs,k,h=>by B4 posK;rfl
 | a::ks,[],k,h=>by simp at h
 | a::ks,x::xs,k,h=>by
  have ih:=sY (ks:=ks) (xs:=xs) (k:=k) (by simpa using h)
  B4 posK
  rw[P5]
  B4 wQ at ih ⊢
  rw[N9]
  by_cases c:a=k
  ·rw[if_pos c,decide_eq_true c];rfl
  ·rw[if_neg c,decide_eq_false c]
   show a9 _ (List.find? _ (ks.zip xs))=_
   rw[ih]
   cases posK ks k<;>rfl
B5 rN:∀{ks:List κ} {k:κ} {j:Nat},posK ks k=some j→j<ks.length∧ks[j]?=some k
 | [],k,j,h=>by B4 posK at h;cases h
 | a::ks,k,j,h=>by
  B4 posK at h
  split at h
  ·rename_i c;cases h;~⟨by simp,by simp[c]⟩
  ·B3⟨i,h1,rfl⟩:=lN h
   B3⟨a1,a2⟩:=rN h1
   ~⟨by simpa using a1,by simpa using a2⟩
B5 Bg:∀{ks:List κ} {k:κ},posK ks k=none↔k∉ks
  | [],k=>by B4 posK;simp
  | a::ks,k=>by
    B4 posK
    have ih:=Bg (ks:=ks) (k:=k)
    split
    · rename_i c;simp[c]
    · rename_i c
      rw[Y8,ih,C9]
      constructor
      · rintro h (q | q)
        · ~c q.symm
        · ~h q
      · intro h q;~h (.inr q)
def lF(ks:List κ)(k:κ):List κ:=if(posK ks k).isSome then ks else ks++[k]
def putD{β:Type}(ks:List κ)(ds:List β)(k:κ)(d:β):List β:=if(posK ks k).isSome then Q1 (fun k' d'=>if k'=k then d else d') ks ds else ds++[d]
B5 vR{β:Type}{ks:List κ}{ds:List β}{k:κ}{d:β}(h:ks.length=ds.length):(lF ks k).length=(putD ks ds k d).length:=by
 B4 lF putD
 split
 ·rw[List.length_zipWith,h,d9]
 ·rw[C7,C7,h];rfl
B5 HH{ks:List κ}{xs:List V}{k:κ}{v:V}(h:ks.length=xs.length):putK (ks.zip xs) k v=(lF ks k).zip (putD ks xs k v):=by
 have ha:((ks.zip xs).any fun kv=>decide (kv.1=k))=(posK ks k).isSome:=by
  rw[Ny,sY h]
  cases q:posK ks k with
  | none=>rfl
  | some j=>
   B3⟨h1,h2⟩:=rN q
   rw[C4,B6 A6]
   rfl
 B4 putK lF putD
 rw[ha]
 by_cases c:(posK ks k).isSome=true
 ·rw[if_pos c,if_pos c,if_pos c]
  clear ha c
  induction ks generalizing xs with
  | nil=>rfl
  | cons a ks ih=>
   cases xs with
   | nil=>simp at h
   | cons x xs=>
    rw[P5,D3,J1,P5,ih (by simpa using h)]
    split<;>rfl
 ·rw[if_neg c,if_neg c,if_neg c,List.zip_append h]
  rfl
end
def Tf:D→Option Key
 | .int i=>some (.inl i)
 | .str x=>some (.inr x)
 | _=>none
B5 Ms{K:aF}{H:Hp}{d:D}{k:Key}{v:V}(h:Tf d=some k)(r:Rv K H d v):v=kV k:=by
 cases d<;>B4 Tf at h<;>first | (cases h;B4 Rv at r;~r) | cases h
def kD:Key→D
 | .inl i=>.int i
 | .inr x=>.str x
section
variable{K:aF}{X:Cx}{e a b c:Expr}{es:List Expr}{t ta tb:TE}{f g:FE}{pos:Pos}
def Ge(neg:Bool)(k d:D):Option D:=match d with
 | .dk ks ds=>(Tf k).bind fun k=>some (.bl (if neg then !(posK ks k).isSome else(posK ks k).isSome))
 | _=>none
def aKS(d k:D):Option D:=match d with
 | .dk ks ds=>(Tf k).bind fun k=>(posK ks k).bind fun j=>ds[j]?
 | _=>none
B5 TY{ks:List Key}{xs:List V}{k:Key}(h:ks.length=xs.length):(wQ (ks.zip xs) k).isSome=(posK ks k).isSome:=by
 rw[sY h]
 cases q:posK ks k with
 | none=>rfl
 | some j=>
  B3⟨h1,h2⟩:=rN q
  rw[C4,B6 A6]
  rfl
B5 HJ{H:Hp}{x y:V}{ka d r:D}{neg:Bool}(h:Ge neg ka d=some r)(rk:Rv K H ka y)(rd:Rv K H d x):∃p o,x=.ref p∧Oa H p y o∧r=.bl (if neg then !o.isSome else o.isSome):=by
 B4 Ge at h
 split at h
 ·rename_i ks ds
  B3⟨k,h1,h2⟩:=aY h
  cases h2
  B4 Rv at rd
  B3⟨p,xs,r1,r2,r3,r4⟩:=rd
  &⟨p,wQ (ks.zip xs) k,r1,.inl ⟨_,k,r2,Ms h1 rk,rfl⟩,?_⟩
  rw[TY r3]
 ·cases h
B5 aAx(hu:X.A.units+1<cLine)(ha:XR K X a ta f)(hb:XR K X b tb g)(h1:behindInMarks .In b=false:=by first | ~nobehind _ A8 A8 | rfl):XN K X (.Compare a [.In] [b] pos) (aCT ta tb) (f2 (Ge false) f g):=
 ⟨ha.hk,RB (RW hu ha.pe hb.pe) h1,fun σ H e d Q re q k=>by
  B3⟨da,db,q1,q2,q3⟩:=Mq q
  &ha.ev σ H H e da _ (Zn.self K H) re q1 fun x H1 Z1 s1 t1 z1 rx=>hb.ev σ H1 Z1 e db _ z1 (re.same t1) q2 fun y H2 Z2 s2 t2 z2 ry=>?_
  B3⟨p,o,e1,e2,e3⟩:=HJ q3 (z2.sm.rv _ _ (t2.rv _ _ rx)) (z2.sm.rv _ _ ry)
  subst e3
  ~⟨p,o,e1,e2,k _ H2 (s1.trans s2) (.jK rfl (by B4 Rv;rfl))⟩⟩
B5 ql(hu:X.A.units+1<cLine)(ha:XR K X a ta f)(hb:XR K X b tb g)(h1:behindInMarks .NotIn b=false:=by first | ~nobehind _ A8 A8 | rfl):XN K X (.Compare a [.NotIn] [b] pos) (Xu ta tb) (f2 (Ge true) f g):=
 ⟨ha.hk,RB (Us hu ha.pe hb.pe) h1,fun σ H e d Q re q k=>by
  B3⟨da,db,q1,q2,q3⟩:=Mq q
  &ha.ev σ H H e da _ (Zn.self K H) re q1 fun x H1 Z1 s1 t1 z1 rx=>hb.ev σ H1 Z1 e db _ z1 (re.same t1) q2 fun y H2 Z2 s2 t2 z2 ry=>?_
  B3⟨p,o,e1,e2,e3⟩:=HJ q3 (z2.sm.rv _ _ (t2.rv _ _ rx)) (z2.sm.rv _ _ ry)
  subst e3
  ~⟨p,o,e1,e2,k _ H2 (s1.trans s2) (.jK rfl (by B4 Rv;rfl))⟩⟩
B5 aEk{op:CmpOp}(h:XN K X (.Compare a [op] [b] pos) t f)(pc:PC X op a b t)(h1:behindInMarks op b=false):XT K X (.Compare a [op] [b] pos) (tB t) (fB f):=⟨h.hk,aE1 pc h1,aEj h.ev.r⟩
B5 Uy(hu:X.A.units+1<cLine)(ha:XR K X a ta f)(hb:XR K X b tb g)(h1:behindInMarks .NotIn b=false:=by first | ~nobehind _ A8 A8 | rfl):XT K X (.Compare a [.NotIn] [b] pos) (tB (Xu ta tb)) (fB (f2 (Ge true) f g)):=aEk (ql hu ha hb h1) (Us hu ha.pe hb.pe) h1
def dI(a i:D):Option D:=match i with
 | .int i=>(zJ a).bind fun ds=>QZ ds i
 | _=>none
B5 aEm{H:Hp}{ds:List D}{xs:List V}{i:Int}{d:D}(r:eY K H ds xs)(h:QZ ds i=some d):∃v,QZ xs i=some v∧Rv K H d v:=by
 B4 QZ at h ⊢
 B3⟨j,h1,h2⟩:=aY h
 rw[r.length,h1]
 ~r.get h2
B5 aEn(hk:X.K=K):IxR X (rIx K):=by subst hk;~aFt
B5 bN(ha:XR K X a ta f)(hb:XR K X b tb g)(hs:Xl b):XR K X (.Subscript a b pos) (CW (rIx K) ta tb) (f2 dI f g):=
 ⟨ha.hk,aEe (aEn ha.hk) ha.pe hb.pe hs,aHC (fun x y H Z da db d Q z ra rb q k=>by
  B4 dI at q
  split at q
  ·rename_i i
   B3⟨ds,h1,h2⟩:=aY q
   B4 Rv at rb
   cases da with
   | lst es=>
    B4 zJ at h1;cases h1
    B4 Rv at ra
    B3⟨p,xs,r1,r2,r3⟩:=ra
    B3⟨v,e1,e2⟩:=aEm r3 h2
    ~.inl ⟨p,xs,i,v,r1,rb,z.sm.seq r2,e1,k v H Z (aU.refl _) (aU.refl _) z e2⟩
   | tup es=>
    B4 zJ at h1;cases h1
    B4 Rv at ra
    B3⟨p,xs,r1,r2,r3⟩:=ra
    B3⟨v,e1,e2⟩:=aEm r3 h2
    ~.inr (.inl ⟨p,xs,i,v,r1,rb,z.sm.tup r2,e1,k v H Z (aU.refl _) (aU.refl _) z e2⟩)
   | _=>B4 zJ at h1;cases h1
  ·cases q) ha.ev hb.ev⟩
end
end L2


namespace L2
open PySem PySem.Spec PyProof.Rows
section
variable{K:aF}{X:Cx}{e a b c:Expr}{es rest:List Expr}{t ta tb:TE}{f g:FE}{tA:TA}{fs:FA}{pos:Pos}{tc:TT}{fc fd:FT}{td:TT}
B5 aQ(hk:X.K=K:=by rfl):XA K X [] nG aK:=⟨hk,jY,aAv⟩
B5 aG(h:XR K X e t f)(hs:XA K X es tA fs)(hst:starEach (e::es) X.env=(false,eval e X.env)::starEach es X.env:=by rfl):XA K X (e::es) (fY t tA) (aA f fs):=⟨h.hk,fD h.pe hs.pa hst,aC7 h.ev hs.ev⟩
B5 gZ(hk:X.K=K:=by rfl):XB K X [] nG aK:=⟨hk,jY,aFL⟩
B5 bF(h:XN K X e t f)(hs:XB K X es tA fs)(hst:starEach (e::es) X.env=(false,eval e X.env)::starEach es X.env:=by rfl):XB K X (e::es) (fY t tA) (aA f fs):=⟨h.hk,fD h.pe hs.pa hst,aC8 h.ev hs.ev⟩
B5 qP(h:XB K X es tA fs):XN K X (.List es pos) (zu tA) (kE fs):=⟨h.hk,aAa h.pa,aFM h.ev⟩
B5 oX(h:XA K X es tA fs):XR K X (.List es pos) (zu tA) (kE fs):=⟨h.hk,aAa h.pa,aFO h.ev⟩
B5 qQ{x1:Nat}(h:XB K X es tA fs):XN K X (.Tuple es x1 pos) (aCF tA) (vQ fs):=⟨h.hk,zy h.pa,aFN h.ev⟩
B5 aDa:Sg K RX (fC (.dk [] [])):=fun σ H e d Q re q k=>by
 cases q
 intro p hp
 &k _ _ (dO hp _) ⟨(·=p),?_,fun a q=>by cases q;~hp⟩
 B4 Ow
 ~⟨p,[],nil,rfl,cJ,rfl,fun z=>z,fun x=>⟨.inl,fun z=>z.elim id False.elim⟩,by B4 dX;~⟨fun _ z=>z,rfl⟩⟩
B5 Bh(hk:X.K=K:=by rfl):XN K X (.Dict [] [] pos) RX (fC (.dk [] [])):=⟨hk,aAk,aDa⟩
def Cu(f g:FT):FT:=fun e=>(f e).bind fun c=>if c=true then g e else some false
def UG(f g:FT):FT:=fun e=>(f e).bind fun c=>if c=true then some true else g e
def Cv(f:FT):FT:=fun e=>(f e).map fun c=>!c
B5 aFP(h1:TQ K tc fc)(h2:TQ K td fd):TQ K (aE3 tc td) (Cu fc fd):=fun σ H e b Q re q k=>by
 B4 Cu at q
 B3⟨c,q1,q2⟩:=aY q
 &h1 σ H e c _ re q1 fun H1 s1=>?_
 cases c with
 | true=>rw[if_pos rfl]at q2 ⊢;~h2 σ H1 e b Q (re.same s1) q2 fun H2 s2=>k H2 (s1.trans s2)
 | false=>rw[if_neg A8]at q2 ⊢;cases q2;~k H1 s1
B5 aHF(h1:TQ K tc fc)(h2:TQ K td fd):TQ K (tOr tc td) (UG fc fd):=fun σ H e b Q re q k=>by
 B4 UG at q
 B3⟨c,q1,q2⟩:=aY q
 &h1 σ H e c _ re q1 fun H1 s1=>?_
 cases c with
 | false=>rw[if_neg A8]at q2 ⊢;~h2 σ H1 e b Q (re.same s1) q2 fun H2 s2=>k H2 (s1.trans s2)
 | true=>rw[if_pos rfl]at q2 ⊢;cases q2;~k H1 s1
B5 aFQ(h1:TQ K tc fc):TQ K (aE4 tc) (Cv fc):=fun σ H e b Q re q k=>by
 B4 Cv at q
 B3⟨c,q1,rfl⟩:=lN q
 ~h1 σ H e c _ re q1 k
B5 XW.xt(h:XW K X e tc fc):XT K X e tc fc:=⟨h.hk,h.pw.pt,h.ev⟩
B5 Gf(h:XT K X a tc fc):XW K X (.BoolOp .And [a] pos) tc fc:=⟨h.hk,aCv h.pt,h.ev⟩
B5 Ye(h:XT K X a tc fc):XW K X (.BoolOp .Or [a] pos) tc fc:=⟨h.hk,aE5 h.pt,h.ev⟩
B5 Ox(h:XT K X a tc fc)(h2:XW K X (.BoolOp .And (b::rest) pos) td fd):XW K X (.BoolOp .And (a::b::rest) pos) (aE3 tc td) (Cu fc fd):=⟨h.hk,aE6 h.pt h2.pw,aFP h.ev h2.ev⟩
B5 HN(h:XT K X a tc fc)(h2:XW K X (.BoolOp .Or (b::rest) pos) td fd):XW K X (.BoolOp .Or (a::b::rest) pos) (tOr tc td) (UG fc fd):=⟨h.hk,aHb h.pt h2.pw,aHF h.ev h2.ev⟩
B5 Aa(h:XT K X a tc fc):XT K X (.UnaryOp .Not a pos) (aE4 tc) (Cv fc):=⟨h.hk,aE7 h.pt,aFQ h.ev⟩
def Uz(f g:FE):FE:=fun e=>(fB f e).bind fun c=>if c=true then g e else some (.bl false)
def Tg(f g:FE):FE:=fun e=>(fB f e).bind fun c=>if c=true then some (.bl true)else g e
def HQ(f:FE):FE:=fun e=>(fB f e).map fun c=>.bl (!c)
B5 Mt{op:BoolOp}(h:XN K X a t f):XN K X (.BoolOp op [a] pos) t f:=⟨h.hk,aE8 h.pe,h.ev⟩
B5 aAy(h:XR K X a ta f)(h2:XN K X (.BoolOp .And (b::rest) pos) tb g):XN K X (.BoolOp .And (a::b::rest) pos) (aD4 ta tb) (Uz f g):=⟨h.hk,aE9 h.pe h2.pe,fun σ H e d Q re q k=>by
 B4 Uz at q
 B3⟨c,q1,q2⟩:=aY q
 &h.ev σ H H e _ _ (Zn.self K H) re (Gb q1) fun v H1 Z1 s1 t1 z1 rv=>?_
 B4 Rv at rv
 &⟨c,rv,?_⟩
 cases c with
 | true=>rw[if_pos rfl]at q2 ⊢;~h2.ev σ H1 e d Q (re.same s1) q2 fun v H2 s2 n=>k v H2 (s1.trans s2) (n.back s1)
 | false=>rw[if_neg A8]at q2 ⊢;cases q2;~k _ H1 s1 (.jK rfl (by B4 Rv;rfl))⟩
B5 aEo(h:XR K X a ta f)(h2:XN K X (.BoolOp .Or (b::rest) pos) tb g):XN K X (.BoolOp .Or (a::b::rest) pos) (aHc ta tb) (Tg f g):=⟨h.hk,aHd h.pe h2.pe,fun σ H e d Q re q k=>by
 B4 Tg at q
 B3⟨c,q1,q2⟩:=aY q
 &h.ev σ H H e _ _ (Zn.self K H) re (Gb q1) fun v H1 Z1 s1 t1 z1 rv=>?_
 B4 Rv at rv
 &⟨c,rv,?_⟩
 cases c with
 | false=>rw[if_neg A8]at q2 ⊢;~h2.ev σ H1 e d Q (re.same s1) q2 fun v H2 s2 n=>k v H2 (s1.trans s2) (n.back s1)
 | true=>rw[if_pos rfl]at q2 ⊢;cases q2;~k _ H1 s1 (.jK rfl (by B4 Rv;rfl))⟩
B5 aFR(h:XR K X a ta f):XN K X (.UnaryOp .Not a pos) (aD5 ta) (HQ f):=⟨h.hk,aFa h.pe,fun σ H e d Q re q k=>by
 B4 HQ at q
 B3⟨c,q1,rfl⟩:=lN q
 &h.ev σ H H e _ _ (Zn.self K H) re (Gb q1) fun v H1 Z1 s1 t1 z1 rv=>?_
 B4 Rv at rv
 ~⟨c,rv,k _ H1 s1 (.jK rfl (by B4 Rv;rfl))⟩⟩
def fIf(c:FT)(f g:FE):FE:=fun e=>(c e).bind fun b=>if b=true then f e else g e
B5 aEq(hc:XT K X c tc fc)(ha:XN K X a ta f)(hb:XN K X b tb g):XN K X (.IfExp c a b pos) (tIf tc ta tb) (fIf fc f g):=⟨ha.hk,yj hc.pt ha.pe hb.pe,fun σ H e d Q re q k=>by
 B4 fIf at q
 B3⟨c,q1,q2⟩:=aY q
 &hc.ev σ H e c _ re q1 fun H1 s1=>?_
 cases c with
 | true=>rw[if_pos rfl]at q2 ⊢;~ha.ev σ H1 e d Q (re.same s1) q2 fun v H2 s2 n=>k v H2 (s1.trans s2) (n.back s1)
 | false=>rw[if_neg A8]at q2 ⊢;~hb.ev σ H1 e d Q (re.same s1) q2 fun v H2 s2 n=>k v H2 (s1.trans s2) (n.back s1)⟩
B5 aFS(ha:XR K X a ta f):XN K X (.UnaryOp .USub a pos) (tUn (rU fun i=>.int (-i)) ta) (fun e=>(f e).bind fun d=>match d with | .int i=>some (.int (-i)) | _=>none):=⟨ha.hk,aHl aFm ha.pe,fun σ H e d Q re q k=>by
 B3⟨c,q1,q2⟩:=aY q
 split at q2
 ·rename_i i
  cases q2
  &ha.ev σ H H e _ _ (Zn.self K H) re q1 fun v H1 Z1 s1 t1 z1 rv=>?_
  B4 Rv at rv
  ~⟨i,rv,k _ H1 s1 (.jK rfl (by B4 Rv;rfl))⟩
 ·cases q2⟩
def fL(φ:List D→Option D)(fs:FA):FE:=fun e=>(fs e).bind φ
def yS(K:aF)(r:List V→Hp→VK→Prop)(φ:List D→Option D):Prop:=∀(vs:List V)(H:Hp)(ds:List D)(d:D)(Q:VK),eY K H ds vs→φ ds=some d →
 (∀v H',aU H H'→Mm K H H' d v→Q v H')→r vs H Q
B5 aEr{r:List V→Hp→VK→Prop}{φ:List D→Option D}(o:yS K r φ)(h:EvA K tA fs):Sg K (tCB r tA) (fL φ fs):=fun σ H e d Q re q k=>by
 B3⟨ds,q1,q2⟩:=aY q
 ~h σ H H e ds _ (Zn.self K H) re q1 fun vs H1 Z1 s1 t1 z1 rs=>o vs H1 ds d Q (z1.sm.TJ _ _ rs) q2 fun v H2 s2 n=>k v H2 (s1.trans s2) (n.back s1)
B5 iI{r:List V→Hp→VK→Prop}{φ:List D→Option D}{x:Str}{id:String}{p:Pos}(o:yS K r φ)(hc:nF X (.builtin id) r)(hg:Gl X x)(hm:X.mg x=none)(hv:bootBuiltins x=some (.builtin id))(ha:XA K X (e::es) tA fs)(hn:x ≠ "__name__" := by decide) (hdb:(x==("__debug__" : Str))=false:=by decide)
  (he:starEach (e::es) X.env=(false,eval e X.env)::starEach es X.env:=by rfl) (hpl:(backTo pos (starEach es X.env)).any (·.1)=false:=by rfl):XN K X (.Call (.Name x p) (e::es) [] pos) (tCB r tA) (fL φ fs):=⟨ha.hk,FZ hc hg hm hv ha.pa hn hdb he hpl,aEr o ha.ev⟩
B5 Ab{r:List V→Hp→VK→Prop}{φ:List D→Option D}{x:Str}{id:String}{p:Pos}(o:yS K r φ)(hc:nF X (.type id) r)(hg:Gl X x)(hm:X.mg x=none)(hv:bootBuiltins x=some (.type id))(ha:XA K X (e::es) tA fs)(hn:x ≠ "__name__" := by decide) (hdb:(x==("__debug__" : Str))=false:=by decide)
  (he:starEach (e::es) X.env=(false,eval e X.env)::starEach es X.env:=by rfl) (hpl:(backTo pos (starEach es X.env)).any (·.1)=false:=by rfl):XN K X (.Call (.Name x p) (e::es) [] pos) (tCB r tA) (fL φ fs):=⟨ha.hk,my hc hg hm hv ha.pa hn hdb he hpl,aEr o ha.ev⟩
B5 sZ{H:Hp}{d:D}{vs:List V}(h:eY K H [d] vs):∃v,vs=[v]∧Rv K H d v:=by
 B4 eY at h
 B3⟨y,ys,rfl,h1,h2⟩:=h
 B4 eY at h2
 subst h2
 ~⟨y,rfl,h1⟩
B5 aAz{H:Hp}{d d':D}{vs:List V}(h:eY K H [d,d'] vs):∃v v',vs=[v,v']∧Rv K H d v∧Rv K H d' v':=by
 B4 eY at h
 B3⟨y,ys,rfl,h1,h2⟩:=h
 B3⟨v,rfl,h3⟩:=sZ h2
 ~⟨y,v,rfl,h1,h3⟩
def jP:List D→Option D
 | [d]=>(zJ d).map fun ds=>.int ds.length
 | _=>none
def aHG(K:aF):List V→Hp→VK→Prop:=fun xs H Q=>∃p ys,xs=[.ref p]∧(pK K H p ys∨zO K H p ys)∧Q (.int ys.length) H
B5 iB:yS K (aHG K) jP:=fun vs H ds d Q rs q k=>by
 B4 jP at q
 split at q
 ·rename_i d0
  B3⟨es,q1,rfl⟩:=lN q
  B3⟨v,rfl,r⟩:=sZ rs
  B3⟨p,xs,rfl,r2,r3⟩:=Mr q1 r
  &⟨p,xs,rfl,r2,k _ H (aU.refl _) (.jK rfl ?_)⟩
  rw[r3.length];B4 Rv;rfl
 ·cases q
B5 iC(hk:X.K=K):nF X (.builtin "len") (aHG K):=by subst hk;~Xp
def dList:List D→Option D
 | [d]=>(zJ d).bind fun ds=>if D.gY ds=true then some (.lst ds)else none
 | _=>none
def aEs(K:aF):List V→Hp→VK→Prop:=fun xs H Q=>∃p ys,xs=[.ref p]∧(pK K H p ys∨zO K H p ys)∧∀l,H l=none→Q (.ref l) (upd H l (.lst ys))
B5 uI:yS K (aEs K) dList:=fun vs H ds d Q rs q k=>by
 B4 dList at q
 split at q
 ·rename_i d0
  B3⟨es,q1,q2⟩:=aY q
  split at q2
  ·rename_i hi
   cases q2
   B3⟨v,rfl,r⟩:=sZ rs
   B3⟨p,xs,rfl,r2,r3⟩:=Mr q1 r
   ~⟨p,xs,rfl,r2,fun l hl=>k _ _ (dO hl _) (uH (aU.refl _) (.gY hi r3) hl)⟩
  ·cases q2
 ·cases q
B5 uJ(hk:X.K=K):nF X (.type "list") (aEs K):=by subst hk;~Xq
def Oz:List D→Option D
 | [.dk ks ds]=>some (.lst (ks.map kD))
 | _=>none
B5 Va:∀ks:List Key,D.gY (ks.map kD)=true
 | []=>by rw[J2];B4 D.gY;rfl
 | k::ks=>by rw[D3];B4 D.gY;rw[Va ks];cases k<;>(B4 kD D.jK;rfl)
B5 HR{H:Hp}:∀ks:List Key,eY K H (ks.map kD) (ks.map kV)
 | []=>by rw[J2,J2];B4 eY;rfl
 | k::ks=>by rw[D3,D3];B4 eY;~⟨_,_,rfl,by cases k<;>(B4 kD kV Rv;rfl),HR ks⟩
def aFT:List V→Hp→VK→Prop:=fun xs H Q=>∃p kvs,xs=[.ref p]∧Rd H p (.dK kvs)∧∀l,H l=none→Q (.ref l) (upd H l (.lst (kvs.map fun kv=>kV kv.1)))
B5 aAA{ks:List Key}{xs:List V}(h:ks.length=xs.length):((ks.zip xs).map fun kv=>kV kv.1)=ks.map kV:=by
 have:((ks.zip xs).map fun kv=>kV kv.1)=((ks.zip xs).map Prod.fst).map kV:=by rw[K5];rfl
 rw[this,List.map_fst_zip A6]
B5 HS:yS K aFT Oz:=fun vs H ds d Q rs q k=>by
 B4 Oz at q
 split at q
 ·rename_i ks es
  cases q
  B3⟨v,rfl,r⟩:=sZ rs
  B4 Rv at r
  B3⟨p,xs,rfl,r2,r3,r4⟩:=r
  &⟨p,_,rfl,r2,fun l hl=>?_⟩
  rw[aAA r3]
  ~k _ _ (dO hl _) (uH (aU.refl _) (.gY (Va ks) (HR ks)) hl)
 ·cases q
def Pa:List D→Option D
 | [d]=>(zJ d).bind fun ds=>if D.gY ds=true then some (.tup ds)else none
 | _=>none
def aAB(K:aF):List V→Hp→VK→Prop:=fun xs H Q=>∃p ys,xs=[.ref p]∧((pK K H p ys∧∀l,H l=none→Q (.ref l) (upd H l (.tup ys)))∨(zO K H p ys∧Q (.ref p) H))
B5 aAC:yS K (aAB K) Pa:=fun vs H ds d Q rs q k=>by
 B4 Pa at q
 split at q
 ·rename_i d0
  B3⟨es,q1,q2⟩:=aY q
  split at q2
  ·rename_i hi
   cases q2
   B3⟨v,rfl,r⟩:=sZ rs
   B3⟨p,xs,rfl,r2,r3⟩:=Mr q1 r
   &⟨p,xs,rfl,?_⟩
   rcases r2 with r2 | r2
   ·~.inl ⟨r2,fun l hl=>k _ _ (dO hl _) (au (.gY hi r3) hl)⟩
   ·~.inr ⟨r2,k _ H (aU.refl _) (.jK (by B4 D.jK;~hi) (by B4 Rv;~⟨p,xs,rfl,r2,r3⟩))⟩
  ·cases q2
 ·cases q
B5 aAD(hk:X.K=K):nF X (.type "tuple") (aAB K):=by subst hk;~Sx
def intsOf:List D→Option (List Int)
 | []=>some []
 | .int i::ds=>(intsOf ds).map (i::·)
 | _=>none
B5 kI:∀ns:List Int,intsOf (ns.map D.int)=some ns
 | []=>rfl
 | n::ns=>by rw[D3];B4 intsOf;rw[kI ns];rfl
B5 uK:∀{ds:List D} {ns:List Int},intsOf ds=some ns→ds=ns.map D.int
 | [],ns,h=>by B4 intsOf at h;cases h;rfl
 | d::ds,ns,h=>by
  cases d with
  | int i=>
   B4 intsOf at h
   B3⟨ms,h1,rfl⟩:=lN h
   rw[D3,←uK h1]
  | _=>B4 intsOf at h;cases h
B5 kY{H:Hp}:∀{ns:List Int} {xs:List V},eY K H (ns.map D.int) xs↔xs=ns.map V.int
 | [],xs=>by rw[J2,J2];B4 eY;rfl
 | n::ns,xs=>by
  rw[D3,D3]
  B4 eY
  constructor
  ·rintro⟨y,ys,rfl,h1,h2⟩
   B4 Rv at h1
   rw[h1,kY.mp h2]
  ·rintro rfl
   ~⟨_,_,rfl,by B4 Rv;rfl,kY.mpr rfl⟩
B5 cV:∀ns:List Int,D.gY (ns.map D.int)=true
 | []=>by rw[J2];B4 D.gY;rfl
 | n::ns=>by rw[D3];B4 D.gY D.jK;rw[cV ns];rfl
B5 vU{H:Hp}{ds:List D}{ns:List Int}{v:V}(h:intsOf ds=some ns)(r:Rv K H (.lst ds) v):∃p,v=.ref p∧pK K H p (ns.map V.int):=by
 rw[uK h]at r
 B4 Rv at r
 B3⟨p,xs,r1,r2,r3⟩:=r
 rw[kY.mp r3]at r2
 ~⟨p,r1,r2⟩
def sortI(ns:List Int):List Int:=ns.mergeSort fun a b=>decide (a≤b)
B5 jJ(ns:List Int):rising ns (sortI ns):=⟨List.mergeSort_perm _ _,by
 have h:=List.pairwise_mergeSort (le:=fun a b:Int=>decide (a≤b)) (fun a b c h1 h2=>decide_eq_true (Int.le_trans (of_decide_eq_true h1) (of_decide_eq_true h2))) (fun a b=>by
  rw[l3,decide_eq_true_iff,decide_eq_true_iff];~Int.le_total a b) ns
 ~h.imp fun h=>of_decide_eq_true h⟩
B5 Vb:∀{l m:List Int},l.Pairwise (·≤·)→m.Pairwise (·≤·)→l.Perm m→l=m
  | [],m,_,_,p=>(List.Perm.nil_eq p)
  | a::l,[],_,_,p=>absurd p.symm (by simp)
  | a::l,b::m,h1,h2,p=>by
    B3⟨h1a,h1b⟩:=J3.mp h1
    B3⟨h2a,h2b⟩:=J3.mp h2
    have e:a=b:=by
      have q1:a∈b::m:=p.mem_iff.mp D4
      have q2:b∈a::l:=p.mem_iff.mpr D4
      rcases C9.mp q1 with q1 | q1
      · ~q1
      · rcases C9.mp q2 with q2 | q2
        · ~q2.symm
        · have:=h1a b q2
          have:=h2a a q1
          omega
    subst e
    rw[Vb h1b h2b (List.Perm.cons_inv p)]
B5 rO{ns ms:List Int}(h:rising ns ms):ms=sortI ns:=Vb h.2 (jJ ns).2 (h.1.trans (jJ ns).1.symm)
def uL:List D→Option D
 | [.lst ds]=>(intsOf ds).bind fun ns=>if ns.length<64 then some (.lst ((sortI ns).map D.int))else none
 | _=>none
def bf(K:aF):List V→Hp→VK→Prop:=fun xs H Q=>∃(p:Addr)(ns:List Int),xs=[.ref p]∧pK K H p (ns.map V.int)∧ns.length<64∧∀l ms,H l=none→rising ns ms→Q (.ref l) (upd H l (.lst (ms.map V.int)))
B5 Jd:yS K (bf K) uL:=fun vs H ds d Q rs q k=>by
 B4 uL at q
 split at q
 ·B3⟨ns,q1,q2⟩:=aY q
  split at q2
  ·rename_i hl
   cases q2
   B3⟨v,rfl,r⟩:=sZ rs
   B3⟨p,rfl,r2⟩:=vU q1 r
   &⟨p,ns,rfl,r2,hl,fun l ms hl hr=>?_⟩
   rw[rO hr]
   ~k _ _ (dO hl _) (uH (aU.refl _) (.gY (cV _) (kY.mpr rfl)) hl)
  ·cases q2
 ·cases q
B5 Je(hk:X.K=K):nF X (.builtin "sorted") (bf K):=by subst hk;~GP
def Di:List D→Option (List Bool)
 | []=>some []
 | .bl i::ds=>(Di ds).map (i::·)
 | _=>none
B5 HW{H:Hp}:∀{ds:List D} {bs:List Bool} {xs:List V},Di ds=some bs→eY K H ds xs→xs=bs.map V.bl
 | [],bs,xs,h,r=>by B4 Di at h;cases h;B4 eY at r;~r
 | d::ds,bs,xs,h,r=>by
  cases d with
  | bl i=>
   B4 Di at h
   B3⟨cs,h1,rfl⟩:=lN h
   B4 eY at r
   B3⟨y,ys,rfl,r1,r2⟩:=r
   B4 Rv at r1
   rw[r1,HW h1 r2]
   rfl
  | _=>B4 Di at h;cases h
B5 Vc{α:Type}(p:α→Bool):∀l:List α,Di (l.map fun x=>D.bl (p x))=some (l.map p)
 | []=>rfl
 | a::l=>by rw[D3];B4 Di;rw[Vc p l];rfl
def aAE:List D→Option D
 | [.lst ds]=>(Di ds).map fun bs=>.bl (bs.all id)
 | _=>none
def aHH(K:aF):List V→Hp→VK→Prop:=fun xs H Q=>∃(p:Addr)(bs:List Bool),xs=[.ref p]∧pK K H p (bs.map V.bl)∧Q (.bl (bs.all id)) H
B5 aDb{H:Hp}{ds:List D}{bs:List Bool}{v:V}(h:Di ds=some bs)(r:Rv K H (.lst ds) v):∃p,v=.ref p∧pK K H p (bs.map V.bl):=by
 B4 Rv at r
 B3⟨p,xs,r1,r2,r3⟩:=r
 rw[HW h r3]at r2
 ~⟨p,r1,r2⟩
B5 aAF:yS K (aHH K) aAE:=fun vs H ds d Q rs q k=>by
 B4 aAE at q
 split at q
 ·B3⟨bs,q1,rfl⟩:=lN q
  B3⟨v,rfl,r⟩:=sZ rs
  B3⟨p,rfl,r2⟩:=aDb q1 r
  ~⟨p,bs,rfl,r2,k _ H (aU.refl _) (.jK rfl (by B4 Rv;rfl))⟩
 ·cases q
B5 aAG(hk:X.K=K)(hc:X.calm=true:=by rfl):nF X (.builtin "all") (aHH K):=by subst hk;~aAp hc
def HX:List D→Option D
 | [.int i,.int j]=>some (.int (if j > i then j else i))
 | _=>none
def aJ5:List D→Option D
 | [.int i,.int j]=>some (.int (if j<i then j else i))
 | _=>none
B5 aDc:yS K (fun xs H Q=>∃i j,xs=[.int i,.int j]∧Q (.int (if j > i then j else i)) H) HX:=fun vs H ds d Q rs q k=>by
 B4 HX at q
 split at q
 ·cases q
  B3⟨v,w,rfl,r1,r2⟩:=aAz rs
  B4 Rv at r1 r2
  ~⟨_,_,by rw[r1,r2],k _ H (aU.refl _) (.jK rfl (by B4 Rv;rfl))⟩
 ·cases q
def UJ:List Int→Int
 | []=>0
 | [a]=>a
 | a::b::l=>let m:=UJ (b::l);if m<a then m else a
B5 Dw:∀{ns:List Int},0<ns.length→Ml ns (UJ ns)
 | [],h=>absurd h (by simp)
 | [a],_=>⟨E3.mpr rfl,fun b hb=>by rw[E3.mp hb];~Y7 _⟩
 | a::b::l,_=>by
  B3⟨h1,h2⟩:=Dw (ns:=b::l) (by simp)
  B4 UJ
  dsimp only
  split
  ·rename_i c
   &⟨C8 _ h1,fun x hx=>?_⟩
   rcases C9.mp hx with q | q
   ·omega
   ·~h2 x q
  ·rename_i c
   &⟨D4,fun x hx=>?_⟩
   rcases C9.mp hx with q | q
   ·omega
   ·have:=h2 x q;omega
B5 UL{ns:List Int}{m:Int}(h:Ml ns m):m=UJ ns:=by
 B3⟨h1,h2⟩:=Dw (List.length_pos_of_mem h.1)
 have:=h.2 _ h1
 have:=h2 _ h.1
 omega
def bh:List D→Option D
 | [.lst ds]=>(intsOf ds).bind fun ns=>if 0<ns.length then some (.int (UJ ns))else none
 | _=>none
def aEt(K:aF):List V→Hp→VK→Prop:=fun xs H Q=>∃(p:Addr)(ns:List Int),xs=[.ref p]∧pK K H p (ns.map V.int)∧0<ns.length∧∀m,Ml ns m→Q (.int m) H
B5 aDd:yS K (aEt K) bh:=fun vs H ds d Q rs q k=>by
 B4 bh at q
 split at q
 ·B3⟨ns,q1,q2⟩:=aY q
  split at q2
  ·rename_i hl
   cases q2
   B3⟨v,rfl,r⟩:=sZ rs
   B3⟨p,rfl,r2⟩:=vU q1 r
   &⟨p,ns,rfl,r2,hl,fun m hm=>?_⟩
   rw[UL hm]
   ~k _ H (aU.refl _) (.jK rfl (by B4 Rv;rfl))
  ·cases q2
 ·cases q
B5 aDe(hk:X.K=K)(hc:X.calm=true:=by rfl):nF X (.builtin "min") (aEt K):=by subst hk;~qg hc
end
end L2


namespace L2
open PySem PySem.Spec PyProof.Rows
section
variable{K:aF}{X:Cx}{e a b c:Expr}{es rest:List Expr}{t ta tb:TE}{f g:FE}{tA:TA}{fs:FA}{pos:Pos}{tc:TT}{fc fd:FT}{td:TT}
abbrev FO:=DE→Option (Option Int)
def EvO(K:aF)(t:TO)(f:FO):Prop:=∀(σ:St)(H:Hp)(e:DE)(o:Option Int)(Q:Option Int→Hp→Prop),yO K H e σ→f e=some o→(∀H',aU H H'→Q o H')→t σ H Q
structure XO(K:aF)(X:Cx)(e:Option Expr)(t:TO)(f:FO):Prop where
 po:PO X e t
 ev:EvO K t f
def UT:FO:=fun _=>some none
def qR(f:FE):FO:=fun e=>(f e).bind fun d=>match d with | .int i=>some (some i) | _=>none
B5 aDf:XO K X none ZV UT:=⟨aCJ,fun σ H e o Q re q k=>by cases q;~k H (aU.refl _)⟩
B5 Yg(h:XR K X e t f):XO K X (some e) (aEd t) (qR f):=⟨aCK h.pe,fun σ H e o Q re q k=>by
 B4 qR at q
 B3⟨d,q1,q2⟩:=aY q
 split at q2
 ·rename_i i
  cases q2
  &h.ev σ H H e _ _ (Zn.self K H) re q1 fun v H1 Z1 s1 t1 z1 rv=>?_
  B4 Rv at rv
  ~⟨i,rv,k H1 s1⟩
 ·cases q2⟩
def Cw{α:Type}(xs:List α)(lo hi:Option Int):List α:=(xs.drop (HT.Nt xs.length 0 lo)).take (HT.Nt xs.length xs.length hi-HT.Nt xs.length 0 lo)
B5 eY.drop{H:Hp}:∀{ds:List D} {xs:List V} (n:Nat),eY K H ds xs→eY K H (ds.drop n) (xs.drop n)
 | ds,xs,0,h=>h
 | [],xs,n+1,h=>by B4 eY at h;subst h;simp;B4 eY;rfl
 | d::ds,xs,n+1,h=>by B4 eY at h;B3⟨y,ys,rfl,_,h2⟩:=h;simpa using eY.drop n h2
B5 eY.take{H:Hp}:∀{ds:List D} {xs:List V} (n:Nat),eY K H ds xs→eY K H (ds.take n) (xs.take n)
 | ds,xs,0,h=>by simp;B4 eY;rfl
 | [],xs,n+1,h=>by B4 eY at h;subst h;simp;B4 eY;rfl
 | d::ds,xs,n+1,h=>by B4 eY at h;B3⟨y,ys,rfl,h1,h2⟩:=h;rw[b9,b9];B4 eY;~⟨y,_,rfl,h1,eY.take n h2⟩
B5 bj{H:Hp}{ds:List D}{xs:List V}(lo hi:Option Int)(h:eY K H ds xs):eY K H (Cw ds lo hi) (RT xs lo hi):=by
 B4 Cw RT
 rw[h.length]
 ~(h.drop _).take _
def xx(jK:Bool)(f:FE)(l h:FO):FE:=fun e=>(f e).bind fun d=>(l e).bind fun lo=>(h e).bind fun hi=>match d with
 | .lst ds=>if jK=false∨D.gY (Cw ds lo hi)=true then some (.lst (Cw ds lo hi))else none
 | _=>none
B5 HY{jK:Bool}{f:FE}{l h:FO}{e:DE}{d:D}(q:xx jK f l h e=some d):∃ds lo hi,f e=some (.lst ds)∧l e=some lo∧h e=some hi∧(jK=false∨D.gY (Cw ds lo hi)=true)∧d=.lst (Cw ds lo hi):=by
 B4 xx at q
 B3⟨d0,q1,q⟩:=aY q
 B3⟨lo,q2,q⟩:=aY q
 B3⟨hi,q3,q⟩:=aY q
 split at q
 ·split at q
  ·rename_i c;cases q;~⟨_,lo,hi,q1,q2,q3,c,rfl⟩
  ·cases q
 ·cases q
B5 bu(hk:X.K=K):SlR X (aCN K):=by subst hk;~aCO
variable{lo hi:Option Expr}{tl th:TO}{fl fh:FO}{p2:Pos}
B5 aAH(h:XR K X e t f)(hl:XO K X lo tl fl)(hu:XO K X hi th fh):XR K X (.Subscript e (.Slice lo hi none p2) pos) (tSl (aCN K) t tl th) (xx false f fl fh):=⟨h.hk,GC (bu h.hk) h.pe hl.po hu.po,fun σ H Z e d Q z re q k=>by
 B3⟨ds,lo,hi,q1,q2,q3,_,rfl⟩:=HY q
 &h.ev σ H Z e _ _ z re q1 fun v H1 Z1 s1 t1 z1 rv=>hl.ev σ H1 e lo _ (re.same (z.sm.trans s1)) q2 fun H2 s2=>hu.ev σ H2 e hi _ (re.same (z.sm.trans (s1.trans s2))) q3 fun H3 s3=>?_
 have z3:=Yb z1 (s2.trans s3)
 have t3:aU Z1 (Xz Z1 H1 H3):=Iw z1
 B4 Rv at rv
 B3⟨p,xs,rfl,r2,r3⟩:=rv
 &⟨p,xs,rfl,z3.sm.seq (t3.seq r2),fun l hl=>?_⟩
 B3⟨a1,a2⟩:=TX (o:=.lst (RT xs lo hi)) z3 hl
 ~k _ _ _ (s1.trans (s2.trans (s3.trans (dO hl _)))) (t1.trans (t3.trans a1)) a2 (by B4 Rv;~⟨l,_,rfl,pK.of cJ,a1.TJ _ _ (t3.TJ _ _ (bj lo hi r3))⟩)⟩
B5 aAI(h:XR K X e t f)(hl:XO K X lo tl fl)(hu:XO K X hi th fh):XN K X (.Subscript e (.Slice lo hi none p2) pos) (tSl (aCN K) t tl th) (xx true f fl fh):=⟨h.hk,GC (bu h.hk) h.pe hl.po hu.po,fun σ H e d Q re q k=>by
 B3⟨ds,lo,hi,q1,q2,q3,qi,rfl⟩:=HY q
 &h.ev σ H H e _ _ (Zn.self K H) re q1 fun v H1 Z1 s1 t1 z1 rv=>hl.ev σ H1 e lo _ (re.same s1) q2 fun H2 s2=>hu.ev σ H2 e hi _ (re.same (s1.trans s2)) q3 fun H3 s3=>?_
 have rv3:=(z1.sm.trans (s2.trans s3)).rv _ _ rv
 B4 Rv at rv3
 B3⟨p,xs,rfl,r2,r3⟩:=rv3
 &⟨p,xs,rfl,r2,fun l hl=>?_⟩
 have Pb:=s1.trans (s2.trans s3)
 ~k _ _ (Pb.trans (dO hl _)) (uH Pb (.gY (qi.resolve_left A8) (bj lo hi r3)) hl)⟩
def bw(K:aF):R2:=fun x y H Q=>∃l b xs zs,x=.ref l∧y=.ref b∧pK K H l xs∧pK K H b zs∧xs.length+zs.length≤sizeLine∧∀p,H p=none→Q (.ref p) (upd H p (.lst (xs++zs)))
B5 cg(hk:X.K=K):wM X (binaryOp .Add) (bw K):=by
 subst hk
 intro pins s σ H x y v u Q I rx ry h
 B3⟨l,b,xs,zs,rfl,rfl,h1,h2,hz,q⟩:=h
 cases rx
 cases ry
 B3⟨its,r,pl,_⟩:=I.list h1
 B3⟨its2,r2,GQ,_⟩:=I.list h2
 B3⟨⟨cl,dd,da,sl⟩,ho,hc,n,hd⟩:=pl.isList
 B3⟨⟨cl2,dd2,da2,sl2⟩,ho2,hc2,n2,hd2⟩:=GQ.isList
 dsimp only at hc hd hc2 hd2
 subst hc hd hc2 hd2
 have hlen:its.toArray.size+its2.toArray.size≤sizeLine:=by rw[C5,C5,←r.length,←r2.length];~hz
 have ea:its.toArray++its2.toArray=(its++its2).toArray:=by simp
 &concat_meets ⟨_,ho,rfl⟩ ⟨_,ho2,rfl⟩ noFill_list_add seq_list_add PySem.F.slot_list_add PySem.F.entry_list_add (PySem.F.args_list_add_2 _ _)
  (list_addW l b its.toArray its2.toArray n n2 dd dd2 sl sl2 hlen) ⟨ho,ho2,?_⟩
 rw[ea]
 ~⟨.ref _,_,I.aHw (t':=s.toks) (r.append r2) (by rw[C7];~hz),rfl,q _ I.fresh⟩
def dJ(a b:D):Option D:=match a,b with
 | .int i,.int j=>some (.int (i+j))
 | .lst x,.lst y=>if D.gY (x++y)=true∧x.length+y.length≤100000 then some (.lst (x++y))else none
 | _,_=>none
B5 eY.append{H:Hp}:∀{ds es:List D} {xs ys:List V},eY K H ds xs→eY K H es ys→eY K H (ds++es) (xs++ys)
 | [],es,xs,ys,h,h'=>by B4 eY at h;subst h;~h'
 | d::ds,es,xs,ys,h,h'=>by B4 eY at h;B3⟨y,yt,rfl,h1,h2⟩:=h;rw[P0,P0];B4 eY;~⟨y,_,rfl,h1,eY.append h2 h'⟩
B5 aDg:TV K (fun x y H Q=>xq (fun i j=>.int (i+j)) x y H Q∨bw K x y H Q) dJ:=fun x y H a b d Q ra rb q k=>by
 B4 dJ at q
 split at q
 ·cases q;B4 Rv at ra rb;~.inl ⟨_,_,ra,rb,k _ H (aU.refl _) (.jK rfl (by B4 Rv;rfl))⟩
 ·split at q
  ·rename_i c
   cases q
   B4 Rv at ra rb
   B3⟨p,xs,rfl,r2,r3⟩:=ra
   B3⟨p',xs',rfl,r2',r3'⟩:=rb
   &.inr ⟨p,p',xs,xs',rfl,rfl,r2,r2',Uw (by rw[r3.length,r3'.length];~c.2),fun l hl=>?_⟩
   ~k _ _ (dO hl _) (uH (aU.refl _) (.gY c.1 (r3.append r3')) hl)
  ·cases q
 ·cases q
B5 cL(ha:XR K X a ta f)(hb:XR K X b tb g):XN K X (.BinOp a .Add b pos) (CW (fun x y H Q=>xq (fun i j=>.int (i+j)) x y H Q∨bw K x y H Q) ta tb) (f2 dJ f g):=Ux (aFh.or (cg ha.hk)) aDg ha hb
def EvI(K:aF)(wi:TI)(fi:FA):Prop:=∀{N:Fp}(σ:St)(H Z:Hp)(e:DE)(ds:List D)(R:It→Hp→Prop),Zn K N Z H→yO K Z e σ→fi e=some ds →
 (∀J H' Z' P vs,aU H H'→aU Z Z'→Zn K N Z' H'→JIs J P vs→(∀H2,aU Z' H2→P H2)→eY K Z' ds vs→R J H')→wi σ H R
structure XI(K:aF)(X:Cx)(tg iter:Expr)(wi:TI)(fi:FA):Prop where
 hk:X.K=K
 pi:PI X tg iter wi
 ev:EvI K wi fi
def lM(f:FE):FA:=fun e=>(f e).bind zJ
def aAJ(K:aF)(t:TE):TI:=fun σ H R=>aD9 K t σ H R∨aHk K t σ H R
B5 lR{tg:Expr}(h:XR K X e t f):XI K X tg e (aAJ K t) (lM f):=⟨h.hk,by
 have hk:=h.hk
 subst hk
 ~fun pins s σ H R I q=>q.elim (ZM h.pe pins s σ H R I) (yw h.pe pins s σ H R I),fun σ H Z e ds R z re q k=>by
 B4 lM at q
 B3⟨d,q1,q2⟩:=aY q
 cases d with
 | lst es=>
  B4 zJ at q2;cases q2
  &.inl (h.ev σ H Z e _ _ z re q1 fun v H1 Z1 s1 t1 z1 rv=>?_)
  B4 Rv at rv
  B3⟨p,xs,rfl,r2,r3⟩:=rv
  ~⟨p,rfl,⟨xs,z1.sm.seq r2⟩,k _ H1 Z1 _ xs s1 t1 z1 Ob (fun H2 s=>s.seq r2) r3⟩
 | tup es=>
  B4 zJ at q2;cases q2
  &.inr (h.ev σ H Z e _ _ z re q1 fun v H1 Z1 s1 t1 z1 rv=>?_)
  B4 Rv at rv
  B3⟨p,xs,rfl,r2,r3⟩:=rv
  ~⟨p,rfl,⟨xs,z1.sm.tup r2⟩,k _ H1 Z1 _ xs s1 t1 z1 aC1 (fun H2 s=>s.tup r2) r3⟩
 | _=>B4 zJ at q2;cases q2⟩
def iY(lo:Int)(n:Nat):List D:=(D2 n).map fun i:Nat=>D.int (lo+(i:Int))
B5 Jf{H:Hp}(lo:Int)(n:Nat):eY K H (iY lo n) ((D2 n).map fun i:Nat=>V.int (lo+(i:Int))):=by
 B4 iY
 &eY.of (by simp) fun i d x h1 h2=>?_
 rw[B8]at h1 h2
 cases q:(D2 n)[i]? with
 | none=>rw[q]at h1;cases h1
 | some j=>rw[q]at h1 h2;cases h1;cases h2;B4 Rv;rfl
def lim(i:Int):Bool:=decide (-100000≤i∧i≤100000)
def tD(fs:FA):FA:=fun e=>(fs e).bind fun ds=>match ds with
 | [.int n]=>if lim n=true then some (iY 0 n.toNat)else none
 | _=>none
def Pg(fs:FA):FA:=fun e=>(fs e).bind fun ds=>match ds with
 | [.int i,.int j]=>if lim i=true∧lim j=true then some (iY i (j-i).toNat)else none
 | _=>none
B5 Yh{i:Int}(h:lim i=true):-100000≤i∧i≤100000:=of_decide_eq_true h
B5 Jg{tg:Expr}{p:Pos}(hg:Gl X "range") (hm:X.mg "range" = none) (ha:XA K X [a] tA fs) (hs:starEach [a] X.env=[(false,eval a X.env)]:=by rfl):XI K X tg (.Call (.Name "range" p) [a] [] pos) (yx tA) (tD fs):=⟨ha.hk,Ug hg hm ha.pa hs,fun σ H Z e ds R z re q k=>by
 B4 tD at q
 B3⟨es,q1,q2⟩:=aY q
 split at q2
 ·rename_i n
  split at q2
  ·rename_i hl
   cases q2
   have hl:=Yh hl
   &ha.ev σ H Z e _ _ z re q1 fun vs H1 Z1 s1 t1 z1 rs=>?_
   B3⟨v,rfl,r⟩:=sZ rs
   B4 Rv at r
   subst r
   ~⟨n,rfl,by omega,by omega,k _ H1 Z1 _ _ s1 t1 z1 Iv (fun _ _=>True.intro) (Jf 0 n.toNat)⟩
  ·cases q2
 ·cases q2⟩
def rH(e:DE)(fr:List Nat):DE:=fr.map fun i=>(e[i]?).getD none
B5 aDh{H:Hp}{e:DE}{σ:St}{fr:List Nat}{d:D}{x:V}(re:yO K H e σ)(r:Rv K H d x):yO K H (some d::rH e fr) (some x::SJ σ fr):=fun i d' h=>by
 cases i with
 | zero=>simp at h;subst h;~⟨x,rfl,r⟩
 | succ i=>
  rw[List.getElem?_cons_succ]at h ⊢
  B4 rH at h
  B4 SJ
  rw[B8]at h ⊢
  cases q:fr[i]? with
  | none=>rw[q]at h;cases h
  | some j=>
   rw[q]at h
   have h:(e[j]?).getD none=some d':=F4 h
   have h2:e[j]?=some (some d'):=by
    cases q2:e[j]? with
    | none=>rw[q2]at h;cases h
    | some o=>rw[q2]at h;rw[show o=some d' from h]
   B3⟨v,h3,h4⟩:=re j d' h2
   &⟨v,?_,h4⟩
   show some (σ.getD j none)=_
   rw[B9,h3]
   rfl
def oY(c:D→Option Bool)(el:D→Option D):List D→Option (List D)
 | []=>some []
 | x::xs=>(c x).bind fun b=>if b=true then(el x).bind fun y=>(oY c el xs).map (y::·)else oY c el xs
def gF(fi:FA)(fr:List Nat)(fc:FT)(fe:FE):FE:=fun e=>(fi e).bind fun xs=>if xs.length≤100000 then(oY (fun x=>fc (some x::rH e fr)) (fun x=>fe (some x::rH e fr)) xs).map D.lst else none
B5 tE{H:Hp}{p:Addr}{o:HO}(n:yN H p):vP K H (upd H p o):=fun a xs h=>h.upd n
B5 cj{wi:TI}{fi:FA}{fr:List Nat}{te:TE}{fe:FE}(hi:EvI K wi fi)(hc:TQ K tc fc)(he:Sg K te fe):Sg K (GJ wi 1 fr (iR 0) tc te) (gF fi fr fc fe):=by
 intro σ H e d Q re q k
 B4 gF at q
 B3⟨xs,q1,q⟩:=aY q
 split at q
 ·rename_i hlen
  B3⟨ds,q2,rfl⟩:=lN q
  &hi σ H H e xs _ (Zn.self K H) re q1 fun J H1 Z1 P vs s1 t1 z1 hJ hP rvs=>?_
  intro D0 hD
  have hl:=rvs.length
  have hHD:H D0=none:=s1.free hD
  generalize hcc:(fun x=>fc (some x::rH e fr))=cc at q2
  generalize hel:(fun x=>fe (some x::rH e fr))=el at q2
  &⟨fun i m ys H2=>∃ds1 cu A,m=vs.length-i∧i≤vs.length∧ds=ds1++cu∧oY cc el (xs.drop i)=some cu∧aU H1 H2∧H2 D0=some (.lst ys)∧dX K H2 ds1 A ys∧(∀a,A a→H1 a=none∧a≠D0)∧ys.length≤i,
   ⟨vs.length,[],ds,nil,by simp,N4 _,rfl,by simpa using q2,dO hD _,cJ,by B4 dX;~⟨fun _ z=>z,rfl⟩,fun _ z=>z.elim,C6 _⟩,?_⟩
  rintro i m ys H2 ⟨ds1,cu,A,rfl,hi',hds,hcl,s2,hD2,ow,fr2,hyl⟩
  B3⟨j1,j2,j3⟩:=hJ i H2 (hP H2 (z1.sm.trans s2))
  &⟨hD2,?_⟩
  by_cases hlt:i<vs.length
  ·&.inr ⟨j1 hlt,fun x H' y=>?_⟩
   B3⟨e1,ex⟩:=j2 x H' y
   subst e1
   have hx:=ex hlt
   have hxi:i<xs.length:=by omega
   have hxs:xs.drop i=xs[i]::xs.drop (i+1):=L6 hxi
   B3⟨x',hx',rx⟩:=rvs.get (B6 hxi)
   rw[hx]at hx'
   cases hx'
   rw[hxs]at hcl
   B4 oY at hcl
   B3⟨bb,c1,c2⟩:=aY hcl
   show Kp 1 σ fr (some x::SJ σ fr)∧_
   &⟨⟨by simp[blk],fun j v hv=>?_⟩,?_⟩
   ·cases j with
    | zero=>simp[blk]at hv
    | succ j=>simpa[blk]using hv
   have re2:yO K H' (some xs[i]::rH e fr) (some x::SJ σ fr):=aDh (re.same (s1.trans s2)) ((z1.sm.trans s2).rv _ _ rx)
   &hc _ H' _ bb _ re2 (by rw[←hcc]at c1;~c1) fun H3 s3=>?_
   have hD3:=s3 _ _ hD2
   cases bb with
   | false=>
    rw[if_neg A8]at c2 ⊢
    ~⟨vs.length-(i+1),by omega,ds1,cu,A,rfl,by omega,hds,c2,s2.trans s3,hD3,ow.same s3,fr2,by omega⟩
   | true=>
    rw[if_pos rfl]at c2 ⊢
    B3⟨dy,c3,c4⟩:=aY c2
    B3⟨ds3,c5,rfl⟩:=lN c4
    &he _ H3 _ dy _ (re2.same s3) (by rw[←hel]at c3;~c3) fun yv H4 s4 n4=>?_
    have hD4:=s4 _ _ hD3
    &⟨hD4,Ot A6,vs.length-(i+1),by omega,ds1++[dy],ds3,?_⟩
    B3⟨B,oB,fB⟩:=n4
    have hB:∀a,B a→H1 a=none∧a≠D0:=fun a qa=>⟨(s2.trans s3).free (fB a qa),fun z=>by have q0:=fB a qa;rw[z,hD3]at q0;cases q0⟩
    &⟨fK A B,rfl,by omega,by rw[hds];simp,c5,fun b o eb=>?_,cJ,?_,fun a qa=>qa.elim (fr2 a) (hB a),by rw[C7];simp;~hyl⟩
    ·rw[bQ (iQ eb hD)]
     ~(s2.trans (s3.trans s4)) b o eb
    ·have o4:=(ow.same s3).same s4
     have ap:Apart A B:=fun a qa qb=>by
      B3⟨⟨u,eu⟩,_⟩:=dX.cells _ _ _ (ow.same s3) a qa
      rw[fB a qb]at eu;cases eu
     have all:dX K H4 (ds1++[dy]) (fK A B) (ys++[yv]):=cG.mpr ((cG.mp o4).snoc oB ap)
     ~dX.frame (tE (sJ hD4)) _ _ _ all fun a qa=>bQ (qa.elim (fun z=>(fr2 a z).2) fun z=>(hB a z).2)
  ·have ei:i=vs.length:=by omega
   subst ei
   have:xs.drop vs.length=[]:=List.drop_eq_nil_of_le A6
   rw[this]at hcl
   B4 oY at hcl
   cases hcl
   rw[F9]at hds
   subst hds
   &.inl ⟨j3 (C6 _),k _ H2 (s1.trans s2) ⟨fK (·=D0) A,?_,fun a qa=>qa.elim (fun z=>by cases z;~hHD) fun z=>s1.free (fr2 a z).1⟩⟩
   B4 Ow
   ~⟨D0,ys,A,rfl,hD2,fun z=>(fr2 D0 z).2 rfl,fun _=>Iff.rfl,ow⟩
 ·cases q
def jN:FT:=fun _=>some true
structure XTs(K:aF)(X:Cx)(ifs:List Expr)(t:TT)(f:FT):Prop where
 pts:PTs X ifs t
 ev:TQ K t f
B5 nU:XTs K X [] aHA jN:=⟨aCV,fun σ H e b Q re q k=>by cases q;~k H (aU.refl _)⟩
B5 Gg(h:XT K X c tc fc):XTs K X [c] tc fc:=⟨aCW h.pt,h.ev⟩
B5 kJ{tg elt iter:Expr}{ifs:List Expr}{scope:Scope}{wi:TI}{fi:FA}{te:TE}{fe:FE}(N:List Str)(fr:List Nat)(hcalm:X.calm=true)(B:kO X.env.scope scope X.N N 1 fr)(hi:XI K X tg iter wi fi)
  (hg:∀cl fp s H C,PG (lE X scope N cl fp s H C) tg (iR 0)) (hc:∀cl fp s H C,XTs K (lE X scope N cl fp s H C) ifs tc fc) (he:∀cl fp s H C,XN K (lE X scope N cl fp s H C) elt te fe)
  (hs:∀x,foldedSetIterable iter X.env x=pure x:=by intro _;rfl):XN K X (.ListComp elt [⟨tg,iter,ifs,0⟩] scope pos) (GJ wi 1 fr (iR 0) tc te) (gF fi fr fc fe):=
 ⟨hi.hk,aCZ N 1 fr hcalm B hi.pi hg (fun cl fp s H C=>(hc cl fp s H C).pts) (fun cl fp s H C=>(he cl fp s H C).pe) hs,
  cj hi.ev (hc [] [] X.s₀ X.H₀ 0).ev (he [] [] X.s₀ X.H₀ 0).ev⟩
def iD(K:aF)(n:Nat)(F:List D→Option D):Sp:=fun vs H Q _=>∃ds d,ds.length=n∧eY K H ds vs∧F ds=some d∧∀v H',aU H H'→Mm K H H' d v→Q v H'
def dD(n:Nat)(F:List D→Option D)(fs:FA):FE:=fun e=>(fs e).bind fun ds=>if ds.length=n then F ds else none
B5 cZ{x:Str}{k n:Nat}{F:List D→Option D}{p:Pos}(C:qL X.prog X.w X.K X.mg X.base x k n (iD K n F))(hr:jR k X.A)(hg:Gl X x)(ha:XA K X (e::es) tA fs)(hdb:(x==("__debug__" : Str))=false:=by decide)
  (he:starEach (e::es) X.env=(false,eval e X.env)::starEach es X.env:=by rfl) (hpl:(backTo pos (starEach es X.env)).any (·.1)=false:=by rfl):XN K X (.Call (.Name x p) (e::es) [] pos) (Uj (iD K n F) [] E0 tA) (dD n F fs):=
 ⟨ha.hk,aAs C hr hg ha.pa hdb he hpl,fun σ H e d Q re q k=>by
  B4 dD at q
  B3⟨ds,q1,q2⟩:=aY q
  split at q2
  ·rename_i hl
   &call_of (ha.ev σ H H e ds _ (Zn.self K H) re q1 fun vs H1 Z1 s1 t1 z1 rs=>?_)
   ~⟨ds,d,hl,z1.sm.TJ _ _ rs,q2,fun v H2 s2 n=>k v H2 (s1.trans s2) (n.back s1)⟩
  ·cases q2⟩
end
end L2


namespace L2
open PySem PySem.Spec PyProof.Rows
inductive SD where
  | no | fro (d:D) | own (d:D) | inn (v:V) (d:D)
def SD.z:SD→Option D
 | .fro d=>some d
 | .own d=>if d.jK=true then some d else none
 | .inn _ d=>if d.jK=true then some d else none
 | .no=>none
def SD.r:SD→Option D
 | .fro d=>some d
 | .own d=>some d
 | .inn _ d=>some d
 | .no=>none
abbrev EN:=List SD
def zE(env:EN):DE:=env.map SD.z
def rE(env:EN):DE:=env.map SD.r
def fZ(K:aF)(H Z:Hp):SD→Fp→Option V→Prop
 | .no,A,_=>None A
 | .fro d,A,y=>None A∧∃v,y=some v∧Rv K Z d v
 | .own d,A,y=>∃v,y=some v∧Ow K H d A v
 | .inn v d,A,y=>y=some v∧Ow K H d A v
def Rel(K:aF)(B:Hp)(env:EN)(σ:St)(H:Hp):Prop:=∃A,eU (fZ K H (out H A)) env A σ∧aU B (out H A)
section
variable{K:aF}{B B' H H' Z Z':Hp}{env:EN}{σ:St}{A:Fp}
B5 eU.all{α β:Type}{R:α→Fp→β→Prop}{Pr:Addr→Prop}:∀{ds:List α} {A:Fp} {ys:List β},eU R ds A ys→(∀d B y,R d B y→∀a,B a→Pr a)→∀a,A a→Pr a
 | [],A,ys,h,_,a,q=>absurd q (h.1 a)
 | d::ds,A,ys,⟨y,yt,A1,A2,h1,h2,h3,h4,h5⟩,m,a,q=>((h3 a).mp q).elim (m _ _ _ h4 a) (eU.all h5 m a)
B5 fZ.cells{s:SD}{y:Option V}(h:fZ K H Z s A y):∀a,A a→lO H a:=by
 cases s with
 | no=>~fun a q=>absurd q (h a)
 | fro d=>~fun a q=>absurd q (h.1 a)
 | own d=>B3⟨v,_,o⟩:=h;~Ow.cells d A v o
 | inn v d=>~Ow.cells d A v h.2
B5 jB(h:eU (fZ K H Z) env A σ):∀a,A a→lO H a:=eU.all h fun _ _ _ q=>q.cells
B5 Rel.len(h:Rel K B env σ H):σ.length=env.length:=let ⟨_,s,_⟩:=h;s.len
B5 Rel.mono(h:Rel K B' env σ H)(s:aU B B'):Rel K B env σ H:=let ⟨A,a,b⟩:=h;⟨A,a,s.trans b⟩
B5 bU{A A':Fp}(s:aU H H')(h:∀a,A' a→A a∨H a=none):aU (out H A) (out H' A'):=fun b o e=>by
 B3⟨e1,e2⟩:=bA.mp e
 &bA.mpr ⟨fun q=>?_,s b o e2⟩
 rcases h b q with q | q
 ·~e1 q
 ·rw[q]at e2;cases e2
B5 fZ.same{s:SD}{y:Option V}(h:fZ K H Z s A y)(e:aU H H')(z:aU Z Z'):fZ K H' Z' s A y:=by
 cases s with
 | no=>~h
 | fro d=>B3⟨h1,v,h2,h3⟩:=h;~⟨h1,v,h2,z.rv _ _ h3⟩
 | own d=>B3⟨v,h1,h2⟩:=h;~⟨v,h1,h2.same e⟩
 | inn v d=>~⟨h.1,h.2.same e⟩
B5 Rel.same(h:Rel K B env σ H)(s:aU H H'):Rel K B env σ H':=by
 B3⟨A,a,b⟩:=h
 have g:aU (out H A) (out H' A):=bU s fun a q=>.inl q
 ~⟨A,a.mono fun e C z _ q=>q.same s g,b.trans g⟩
B5 Ph(h:eU (fZ K H (out H A)) env A σ):Zn K A (out H A) H:=⟨kW H A,Oj fun a q=>(jB h a q).2,fun a q=>⟨by
 B4 out;rw[if_pos q],fun z=>by B3⟨⟨o,e⟩,_⟩:=jB h a q;rw[z]at e;cases e⟩⟩
B5 Rel.r(h:Rel K B env σ H):yO K H (rE env) σ:=fun i d q=>by
 B3⟨A,a,b⟩:=h
 B4 rE at q
 rw[B8]at q
 cases e:env[i]? with
 | none=>rw[e]at q;cases q
 | some s=>
  rw[e]at q
  B3⟨y,A1,C,h1,h2,h3,h4,_⟩:=a.focus e
  cases s with
  | no=>cases q
  | fro d0=>cases q;B3⟨_,v,rfl,h5⟩:=h4;~⟨v,h1,(kW H A).rv _ _ h5⟩
  | own d0=>cases q;B3⟨v,rfl,h5⟩:=h4;~⟨v,h1,Ow.rv _ _ _ h5⟩
  | inn v d0=>cases q;B3⟨rfl,h5⟩:=h4;~⟨v,h1,Ow.rv _ _ _ h5⟩
B5 aEu(a:eU (fZ K H (out H A)) env A σ):yO K (out H A) (zE env) σ:=fun i d q=>by
 B4 zE at q
 rw[B8]at q
 cases e:env[i]? with
 | none=>rw[e]at q;cases q
 | some s=>
  rw[e]at q
  B3⟨y,A1,C,h1,h2,h3,h4,_⟩:=a.focus e
  cases s with
  | no=>cases q
  | fro d0=>cases q;B3⟨_,v,rfl,h5⟩:=h4;~⟨v,h1,h5⟩
  | own d0=>
   B3⟨v,rfl,h5⟩:=h4
   have q:(if d0.jK=true then some d0 else none)=some d:=F4 q
   split at q
   ·rename_i im
    cases q
    ~⟨v,h1,(zX _ v im (Ow.rv _ _ _ h5)).out (fun _ z=>z.elim) fun x hx=>(jB a x hx).2⟩
   ·cases q
  | inn v d0=>
   B3⟨rfl,h5⟩:=h4
   have q:(if d0.jK=true then some d0 else none)=some d:=F4 q
   split at q
   ·rename_i im
    cases q
    ~⟨v,h1,(zX _ v im (Ow.rv _ _ _ h5)).out (fun _ z=>z.elim) fun x hx=>(jB a x hx).2⟩
   ·cases q
B5 Rel.own{i:Nat}{d:D}{v:V}(h:Rel K B env σ H)(hi:i<env.length)(s:aU H H')(n:Mm K H H' d v):Rel K B (env.set i (.own d)) (σ.set i (some v)) H':=by
 B3⟨A,a,b⟩:=h
 B3⟨N,o,f⟩:=n
 have cl:=jB a
 B3⟨y,A1,C,h1,h2,h3,h4,k⟩:=a.focus (B6 hi)
 have g:aU (out H A) (out H' (fK N C)):=bU s fun x q=>q.elim (fun q=>.inr (f x q)) fun q=>.inl ((h3 x).mpr (.inr q))
 &⟨fK N C,k (fZ K H' (out H' (fK N C))) (fun e D z _ q=>q.same s g) (.own d) (some v) N (fun x q c=>?_) ⟨v,rfl,o⟩,b.trans g⟩
 B3⟨⟨u,e⟩,_⟩:=cl x ((h3 x).mpr (.inr c))
 rw[f x q]at e;cases e
B5 Mu{i:Nat}{d:D}{v:V}(a:eU (fZ K H (out H A)) env A σ)(b:aU B (out H A))(hi:i<env.length)(s:aU H H')(t:aU (out H A) Z')(z:Zn K A Z' H')(r:Rv K Z' d v):Rel K B (env.set i (.fro d)) (σ.set i (some v)) H':=by
 B3⟨y,A1,C,h1,h2,h3,h4,k⟩:=a.focus (B6 hi)
 have hC:∀x,fK nil C x→A x:=fun x q=>q.elim False.elim fun q=>(h3 x).mpr (.inr q)
 have g:aU (out H A) (out H' (fK nil C)):=bU s fun x q=>.inl (hC x q)
 have g2:aU Z' (out H' (fK nil C)):=fun x o e=>bA.mpr ⟨fun q=>(by rw[(z.no x (hC x q)).1]at e;cases e),z.sm x o e⟩
 ~⟨fK nil C,k (fZ K H' (out H' (fK nil C))) (fun e D z _ q=>q.same s g) (.fro d) (some v) nil (fun x q c=>q) ⟨fun _ z=>z,v,rfl,g2.rv _ _ r⟩,b.trans g⟩
def aAK(env:EN)(j:Nat):EN:=match env[j]? with
 | some (.own d)=>env.set j (.fro d)
 | _=>env
def zA(js:List Nat)(env:EN):EN:=js.foldl aAK env
B5 set_same{α:Type}{l:List α}{i:Nat}{x:α}(h:l[i]?=some x):l.set i x=l:=by
 apply K6
 intro j
 rw[F8]
 by_cases c:i=j
 ·subst c
  rw[if_pos rfl,h]
  split
  ·rfl
  ·rename_i q;rw[E8 A6]at h;cases h
 ·rw[if_neg c]
B5 Rel.aAK{j:Nat}(h:Rel K B env σ H):Rel K B (aAK env j) σ H:=by
 B4 L2.aAK
 cases e:env[j]? with
 | none=>~h
 | some s=>
  cases s with
  | no=>~h
  | fro d=>~h
  | inn v d=>~h
  | own d=>
   B3⟨A,a,b⟩:=h
   have cl:=jB a
   B3⟨y,A1,C,h1,h2,h3,h4,k⟩:=a.focus e
   B3⟨v,rfl,o⟩:=h4
   have g:aU (out H A) (out H (fK nil C)):=bU (aU.refl _) fun x q=>q.elim False.elim fun q=>.inl ((h3 x).mpr (.inr q))
   have:=k (fZ K H (out H (fK nil C))) (fun e D z _ q=>q.same (aU.refl _) g) (.fro d) (some v) nil (fun x q c=>q)
    ⟨fun _ z=>z,v,rfl,o.out (fun x q c=>h2 x q (c.elim False.elim id)) fun x q=>(cl x ((h3 x).mpr (.inr (q.elim False.elim id)))).2⟩
   rw[set_same h1]at this
   ~⟨fK nil C,this,b.trans g⟩
B5 Rel.zA{js:List Nat}(h:Rel K B env σ H):Rel K B (zA js env) σ H:=by
 B4 L2.zA
 induction js generalizing env with
 | nil=>~h
 | cons j js ih=>~ih h.aAK
end
inductive SR where
  | next (env:EN) | ret (d:D) | brk (env:EN) | cont (env:EN) | bad | rete (d:D) (env:EN)
def Pj(K:aF)(B:Hp)(E:Ends):SR→Prop
 | .next env=>∀σ H,Rel K B env σ H→E.nx σ H
 | .ret d=>∀v H A,aU B (out H A)→Ow K H d A v→E.rt v H
 | .brk env=>∀σ H,Rel K B env σ H→E.bk σ H
 | .cont env=>∀σ H,Rel K B env σ H→E.ct σ H
 | .bad=>False
 | .rete d env=>∀v σ H,Rel K B (env++[.own d]) (σ++[some v]) H→E.rt v H
B5 Pj.mono{K:aF}{B B':Hp}{E:Ends}{r:SR}(h:Pj K B E r)(s:aU B B'):Pj K B' E r:=by
 cases r with
 | next env=>~fun σ H q=>h σ H (q.mono s)
 | ret d=>~fun v H A q=>h v H A (s.trans q)
 | brk env=>~fun σ H q=>h σ H (q.mono s)
 | cont env=>~fun σ H q=>h σ H (q.mono s)
 | bad=>~h
 | rete d env=>~fun v σ H q=>h v σ H (q.mono s)
abbrev GS:=EN→SR
def DS(K:aF)(t:TS)(g:GS):Prop:=∀(B:Hp)(E:Ends)(σ:St)(H:Hp)(env:EN),Rel K B env σ H→Pj K B E (g env)→t E σ H
def aHI(K:aF)(B:Hp)(E:Ends)(σ:St):SR→Prop
 | .next env=>∀H,Rel K B env σ H→E.nx σ H
 | r=>Pj K B E r
def qm(K:aF)(t:TS)(g:GS):Prop:=∀(B:Hp)(E:Ends)(σ:St)(H:Hp)(env:EN),Rel K B env σ H→aHI K B E σ (g env)→t E σ H
B5 qm.ds{K:aF}{t:TS}{g:GS}(h:qm K t g):DS K t g:=fun B E σ H env r p=>h B E σ H env r (by
 cases q:g env with
 | next e=>rw[q]at p;~fun H' r'=>p σ H' r'
 | ret d=>rw[q]at p;~p
 | brk e=>rw[q]at p;~p
 | cont e=>rw[q]at p;~p
 | bad=>rw[q]at p;~p
 | rete d e=>rw[q]at p;~p)
structure YS(K:aF)(X:Cx)(st:Stmt)(t:TS)(g:GS):Prop where
 ps:PS X st t
 ev:DS K t g
structure YB(K:aF)(X:Cx)(st:List Stmt)(t:TS)(g:GS):Prop where
 ps:DY X st t
 ev:DS K t g
section
variable{K:aF}{X:Cx}{st:Stmt}{sts:List Stmt}{t u:TS}{g g1 g2:GS}{e a b c:Expr}{te ta tb:TE}{f fa fb:FE}{tc:TT}{fc:FT}{pos:Pos}
def aX(g1 g2:GS):GS:=fun env=>match g1 env with
 | .next env'=>g2 env'
 | r=>r
B5 aFU(h1:DS K t g1)(h2:DS K u g2):DS K (aFb t u) (aX g1 g2):=fun B E σ H env r p=>by
 B4 aX at p
 &h1 B {E with nx:=u E} σ H env r ?_
 cases q:g1 env with
 | next env'=>rw[q]at p;~fun σ' H' r'=>h2 B E σ' H' env' r' p
 | ret d=>rw[q]at p;~p
 | brk d=>rw[q]at p;~p
 | cont d=>rw[q]at p;~p
 | bad=>rw[q]at p;~p
 | rete d e=>rw[q]at p;~p
def fG:GS:=fun env=>.next env
B5 fM:YB K X [] aD6 fG:=⟨aCw,fun B E σ H env r p=>p σ H r⟩
B5 aV(h:YS K X st t g):YB K X [st] t g:=⟨ZL h.ps,h.ev⟩
B5 aO(h:YS K X st t g1)(h2:YB K X sts u g2):YB K X (st::sts) (aFb t u) (aX g1 g2):=⟨yl h.ps h2.ps,aFU h.ev h2.ev⟩
def dG(i:Nat)(f:FE):GS:=fun env=>match f (rE env)with
 | some d=>if i<env.length then .next (env.set i (.own d))else .bad
 | none=>.bad
B5 aAL{i:Nat}(h:Sg K te f):DS K (uD te (iR i)) (dG i f):=fun B E σ H env r p=>by
 B4 dG at p
 split at p
 ·rename_i d q
  split at p
  ·rename_i hi
   ~h σ H (rE env) d _ r.r q fun v H' s n=>p _ _ (r.own hi s n)
  ·~p.elim
 ·~p.elim
B5 bM{i:Nat}{x:Str}{pos':Pos}(h:XN K X e te f)(hp:PE X e te→PS X (.Assign [.Name x pos'] e pos) (uD te (iR i))):YS K X (.Assign [.Name x pos'] e pos) (uD te (iR i)) (dG i f):=⟨hp h.pe,aAL h.ev⟩
def fO(f:FE):GS:=fun env=>match f (rE env)with
 | some d=>.ret d
 | none=>.bad
B5 bV(h:XN K X e te f):YS K X (.Return (some e) pos) (yo te) (fO f):=⟨Xc h.pe,fun B E σ H env r p=>by
 B4 fO at p
 split at p
 ·rename_i d q
  &h.ev σ H (rE env) d _ r.r q fun v H' s ⟨N,o,fr⟩=>p v H' N (fun x u ex=>?_) o
  B3⟨A,a,b⟩:=r
  have h1:=(bA.mp (b x u ex)).2
  ~bA.mpr ⟨fun z=>(by rw[fr x z]at h1;cases h1),s x u h1⟩
 ·~p.elim⟩
def Dj(i:Nat):GS:=fun env=>match env[i]? with
 | some (.own d)=>.ret d
 | some (.fro d)=>if d.jK=true then .ret d else .bad
 | _=>.bad
B5 Yi{i:Nat}(h:PE X e (qN i)):YS K X (.Return (some e) pos) (yo (qN i)) (Dj i):=⟨Xc h,fun B E σ H env r p=>by
 B4 Dj at p
 B3⟨A,a,b⟩:=r
 split at p
 ·rename_i d q
  B3⟨y,A1,C,h1,h2,h3,h4,_⟩:=a.focus q
  B3⟨v,rfl,o⟩:=h4
  ~⟨v,h1,p v H A1 (b.trans (bU (aU.refl _) fun x z=>.inl ((h3 x).mpr (.inl z)))) o⟩
 ·rename_i d q
  split at p
  ·rename_i im
   B3⟨y,A1,C,h1,h2,h3,h4,_⟩:=a.focus q
   B3⟨_,v,rfl,rv⟩:=h4
   ~⟨v,h1,p v H nil (b.trans (bU (aU.refl _) fun x z=>z.elim)) (zX d v im ((kW H A).rv _ _ rv))⟩
  ·~p.elim
 ·~p.elim⟩
def yU(f:FE):GS:=fun env=>match f (rE env)with
 | some _=>.next env
 | none=>.bad
B5 aDi(h:Iz K te f):DS K (nD te) (yU f):=fun B E σ H env r p=>by
 B4 yU at p
 split at p
 ·rename_i d q
  ~h σ H H (rE env) d _ (Zn.self K H) r.r q fun v H' Z' s t z rv=>p _ _ (r.same s)
 ·~p.elim
def qM(f:FT)(g1 g2:GS):GS:=fun env=>match f (rE env)with
 | some true=>g1 env
 | some false=>g2 env
 | none=>.bad
B5 iT{s1 s2:List Stmt}(hc:XT K X c tc fc)(h1:YB K X s1 t g1)(h2:YB K X s2 u g2):YS K X (.If c s1 s2 pos) (aHe tc t u) (qM fc g1 g2):=⟨aHf hc.pt h1.ps h2.ps,fun B E σ H env r p=>by
 B4 qM at p
 split at p
 ·rename_i q
  &hc.ev σ H (rE env) true _ r.r q fun H' s=>?_
  rw[if_pos rfl]
  ~h1.ev B E σ H' env (r.same s) p
 ·rename_i q
  &hc.ev σ H (rE env) false _ r.r q fun H' s=>?_
  rw[if_neg A8]
  ~h2.ev B E σ H' env (r.same s) p
 ·~p.elim⟩
def Dy(i:Nat)(g:GS):List D→EN→SR
 | [],env=>.next env
 | x::xs,env=>if i<env.length then match g (env.set i (.fro x))with
   | .next env'=>Dy i g xs env'
   | .cont env'=>Dy i g xs env'
   | .brk env'=>.next env'
   | r=>r
  else .bad
def Th(js:List Nat)(i:Nat)(fi:FA)(g:GS):GS:=fun env=>match fi (zE (zA js env))with
 | some xs=>Dy i g xs (zA js env)
 | none=>.bad
B5 aFV{js:List Nat}{i:Nat}{wi:TI}{fi:FA}{tb:TS}(hi:EvI K wi fi)(h:DS K tb g):DS K (Xf wi (iR i) tb) (Th js i fi g):=fun B E σ H env r p=>by
 B4 Th at p
 have r':Rel K B (zA js env) σ H:=r.zA
 generalize zA js env=Dz at r' p
 split at p
 ·rename_i xs q
  B3⟨A,a,b⟩:=r'
  &hi σ H (out H A) (zE Dz) xs _ (Ph a) (aEu a) q fun J H1 Z1 P vs s t z hJ hP rvs=>?_
  have hl:=rvs.length
  have g0:aU Z1 (out H1 A):=fun x o e=>bA.mpr ⟨fun qa=>(by rw[(z.no x qa).1]at e;cases e),z.sm x o e⟩
  have aJd:Rel K Z1 Dz σ H1:=⟨A,a.mono fun e D y _ qq=>qq.same s (bU s fun x q=>.inl q),g0⟩
  have bz:aU B Z1:=b.trans t
  have p':=p.mono bz
  &Mj hJ (fun k σ2 H2=>∃fH,Rel K Z1 fH σ2 H2∧Pj K Z1 E (Dy i g (xs.drop k) fH)) ⟨Dz,aJd,by simpa using p'⟩ (fun k σ2 H2 _ ⟨fH,⟨A2,a2,b2⟩,_⟩=>hP H2 (b2.trans (kW H2 A2))) ?_ ?_
  ·rintro k x σ2 H2 hx ⟨fH,r2,p2⟩
   have hk:k<xs.length:=by
    have:=D1.mp hx
    B3⟨h1,_⟩:=this
    omega
   rw[L6 hk]at p2
   B4 Dy at p2
   B3⟨x',hx',rx⟩:=rvs.get (B6 hk)
   rw[hx]at hx'
   cases hx'
   split at p2
   ·rename_i hlen
    B3⟨A2,a2,b2⟩:=r2
    have r3:Rel K Z1 (fH.set i (.fro xs[k])) (σ2.set i (some x)) H2:=Mu a2 b2 hlen (aU.refl _) (aU.refl _) (Ph a2) (b2.rv _ _ rx)
    &h Z1 _ _ H2 _ r3 ?_
    split at p2
    ·rename_i env' q2;rw[q2];~fun σ' H' r'=>⟨env',r',p2⟩
    ·rename_i env' q2;rw[q2];~fun σ' H' r'=>⟨env',r',p2⟩
    ·rename_i env' q2;rw[q2];~p2
    ·rename_i n1 n2 n3
     cases q2:g (fH.set i (.fro xs[k]))with
     | next e=>~absurd q2 (n1 e)
     | cont e=>~absurd q2 (n2 e)
     | brk e=>~absurd q2 (n3 e)
     | ret d=>rw[q2]at p2;~p2
     | bad=>rw[q2]at p2;~p2
     | rete d e=>rw[q2]at p2;~p2
   ·~p2.elim
  ·rintro σ2 H2 ⟨fH,r2,p2⟩
   rw[hl,X1]at p2
   ~p2 σ2 H2 r2
 ·~p.elim
def qT(c:FT)(g:GS):Nat→EN→SR
 | 0,_=>.bad
 | n+1,env=>match c (rE env)with
  | some true=>(match g env with
   | .next env'=>qT c g n env'
   | .cont env'=>qT c g n env'
   | .brk env'=>.next env'
   | r=>r)
  | some false=>.next env
  | none=>.bad
B5 aAM{n:Nat}{tb:TS}(hc:TQ K tc fc)(h:DS K tb g):DS K (RC tc tb) (qT fc g n):=fun B E σ H env r p=>by
 &⟨fun m σ2 H2=>∃fH,Rel K B fH σ2 H2∧Pj K B E (qT fc g m fH),⟨n,env,r,p⟩,?_⟩
 rintro m σ2 H2 ⟨fH,r2,p2⟩
 cases m with
 | zero=>~p2.elim
 | succ m=>
  B4 qT at p2
  split at p2
  ·rename_i q
   &hc σ2 H2 (rE fH) true _ r2.r q fun H3 s=>?_
   rw[if_pos rfl]
   &⟨fun σ' H'=>∃env',Rel K B env' σ' H'∧Pj K B E (qT fc g m env'),fun σ' H' ⟨env',a1,a2⟩=>⟨m,M0 m,env',a1,a2⟩,?_⟩
   &h B _ σ2 H3 fH (r2.same s) ?_
   split at p2
   ·rename_i env' q2;rw[q2];~fun σ' H' r'=>⟨env',r',p2⟩
   ·rename_i env' q2;rw[q2];~fun σ' H' r'=>⟨env',r',p2⟩
   ·rename_i env' q2;rw[q2];~p2
   ·rename_i n1 n2 n3
    cases q2:g fH with
    | next e=>~absurd q2 (n1 e)
    | cont e=>~absurd q2 (n2 e)
    | brk e=>~absurd q2 (n3 e)
    | ret d=>rw[q2]at p2;~p2
    | bad=>rw[q2]at p2;~p2
    | rete d e=>rw[q2]at p2;~p2
  ·rename_i q
   &hc σ2 H2 (rE fH) false _ r2.r q fun H3 s=>?_
   rw[if_neg A8]
   ~p2 σ2 H3 (r2.same s)
  ·~p2.elim
B5 Yj{tg iter:Expr}{body:List Stmt}{wi:TI}{fi:FA}{tb:TS}{i:Nat}(js:List Nat)(hp:PassesOwn (model X.prog X.w) X.A X.env X.xe)(UW:X.calm=true)(hi:XI K X tg iter wi fi)(hg:PG X tg (iR i))(hb:YB K X body tb g)
  (hs:∀x,foldedSetIterable iter X.env x=pure x:=by intro _;rfl):YS K X (.For tg iter body [] pos) (Xf wi (iR i) tb) (Th js i fi g):=⟨Xg hp UW hi.pi hg hb.ps hs,aFV hi.ev hb.ev⟩
B5 aAN{body:List Stmt}{tb:TS}(n:Nat)(hp:PassesOwn (model X.prog X.w) X.A X.env X.xe)(hc:XT K X c tc fc)(hb:YB K X body tb g):YS K X (.While c body [] pos) (RC tc tb) (qT fc g n):=⟨yr hp hc.pt hb.ps,aAM hc.ev hb.ev⟩
end
end L2


namespace L2
open PySem PySem.Spec PyProof.Rows
inductive Step where
  | ix (k:Nat) | key (k:Key) | fld (C:Addr) (f:Str)
def kids:D→List D
 | .lst ds=>ds
 | .dk _ ds=>ds
 | .ins _ _ ds=>ds
 | _=>[]
def Gh:D→List D→D
 | .lst _,ds=>.lst ds
 | .dk ks _,ds=>.dk ks ds
 | .ins C nm _,ds=>.ins C nm ds
 | d,_=>d
def Cy:Step→D→Option Nat
 | .ix k,.lst ds=>some k
 | .key k,.dk ks _=>posK ks k
 | .fld C f,.ins C' nm _=>if C'=C then posK nm f else none
 | _,_=>none
def eO:List Step→D→Option D
 | [],d=>some d
 | s::p,d=>(Cy s d).bind fun j=>((kids d)[j]?).bind (eO p)
def dR:List Step→D→D→D
 | [],_,d'=>d'
 | s::p,d,d'=>match Cy s d with
  | some j=>(match (kids d)[j]? with
   | some c=>Gh d ((kids d).set j (dR p c d'))
   | none=>d)
  | none=>d
def stepV(H:Hp)(s:Step)(v:V):Option V:=match v with
 | .ref a=>(match s,H a with
  | .ix k,some (.lst xs)=>xs[k]?
  | .key k,some (.dK kvs)=>wQ kvs k
  | .fld C f,some (.ins C' _ fs)=>if C'=C then fs.lookup f else none
  | _,_=>none)
 | _=>none
def Le(H:Hp):List Step→V→Option V
 | [],v=>some v
 | s::p,v=>(stepV H s v).bind (Le H p)
B5 VB{H H':Hp}(e:aU H H'){s:Step}{v w:V}(h:stepV H s v=some w):stepV H' s v=some w:=by
 cases v with
 | ref a=>
  B4 stepV at h ⊢
  dsimp only at h ⊢
  cases q:H a with
  | none=>rw[q]at h;cases s<;>cases h
  | some o=>rw[e a o q];rw[q]at h;~h
 | _=>B4 stepV at h;cases h
B5 tG{H H':Hp}(e:aU H H'):∀{p:List Step} {v w:V},Le H p v=some w→Le H' p v=some w
 | [],v,w,h=>h
 | s::p,v,w,h=>by
  B4 Le at h ⊢
  B3⟨u,h1,h2⟩:=aY h
  rw[VB e h1]
  ~tG e h2
B5 Ea{nm:List Str}{xs:List V}{f:Str}(h:nm.length=xs.length):(nm.zip xs).lookup f=(posK nm f).bind fun j=>xs[j]?:=by
 induction nm generalizing xs with
 | nil=>B4 posK;rfl
 | cons a nm ih=>
  cases xs with
  | nil=>simp at h
  | cons x xs=>
   have ih:=ih (xs:=xs) (by simpa using h)
   B4 posK
   rw[P5,S8]
   by_cases c:a=f
   ·subst c;simp
   ·have c2:(f==a)=false:=by
     rw[beq_eq_false_iff_ne];~fun z=>c z.symm
    rw[c2,if_neg c,ih]
    cases posK nm f<;>rfl
B5 Ow.kids{K:aF}{H:Hp}{d:D}{A:Fp}{v:V}{s:Step}{j:Nat}(h:Ow K H d A v)(q:Cy s d=some j):∃xs T Bt,(∀x,xs[j]?=some x→stepV H s v=some x)∧dX K H (kids d) Bt xs∧Is A (fK T Bt)∧Apart T Bt ∧
  ∀H' ds' B',ds'.length=(kids d).length→dX K H' ds' B' xs→(∀a,T a→H' a=H a)→Apart T B'→Ow K H' (Gh d ds') (fK T B') v:=by
 cases d with
 | lst ds=>
  B4 Ow at h
  B3⟨a,xs,B,rfl,h2,h3,h4,h5⟩:=h
  cases s with
  | ix k=>
   B4 Cy at q
   cases q
   &⟨xs,(·=a),B,fun x hx=>?_,h5,h4,fun x qx qb=>h3 (qx▸qb),fun H' ds' B' hl o f ap=>?_⟩
   ·B4 stepV;dsimp only;rw[h2];~hx
   ·show Ow K H' (.lst ds') _ _
    B4 Ow
    ~⟨a,xs,B',rfl,(f a rfl).trans h2,ap a rfl,fun _=>Iff.rfl,o⟩
  | _=>B4 Cy at q;cases q
 | dk ks ds=>
  B4 Ow at h
  B3⟨a,xs,B,rfl,h2,h2',h3,h4,h5⟩:=h
  cases s with
  | key k=>
   have q:posK ks k=some j:=q
   &⟨xs,(·=a),B,fun x hx=>?_,h5,h4,fun x qx qb=>h3 (qx▸qb),fun H' ds' B' hl o f ap=>?_⟩
   ·B4 stepV;dsimp only;rw[h2];show wQ (ks.zip xs) k=_;rw[sY h2',q];~hx
   ·show Ow K H' (.dk ks ds') _ _
    B4 Ow
    ~⟨a,xs,B',rfl,(f a rfl).trans h2,h2',ap a rfl,fun _=>Iff.rfl,o⟩
  | _=>B4 Cy at q;cases q
 | ins C nm ds=>
  B4 Ow at h
  B3⟨a,dx,xs,B,rfl,h2,h2',h3,h3',h3'',h4,h5⟩:=h
  cases s with
  | fld C0 k=>
   have q:(if C=C0 then posK nm k else none)=some j:=q
   by_cases hc:C=C0
   rotate_left
   ·rw[if_neg hc]at q;cases q
   rw[if_pos hc]at q
   &⟨xs,(fun x=>x=a∨x=dx),B,fun x hx=>?_,h5,h4,fun x qx qb=>qx.elim (fun z=>h3' (z▸qb)) fun z=>h3'' (z▸qb),fun H' ds' B' hl o f ap=>?_⟩
   ·B4 stepV;dsimp only;rw[h2];show (if C=C0 then(nm.zip xs).lookup k else none)=_;rw[if_pos hc,Ea h3,q];~hx
   ·show Ow K H' (.ins C nm ds') _ _
    B4 Ow
    ~⟨a,dx,xs,B',rfl,(f a (.inl rfl)).trans h2,(f dx (.inr rfl)).trans h2',h3,ap a (.inl rfl),ap dx (.inr rfl),fun _=>Iff.rfl,o⟩
  | _=>B4 Cy at q;cases q
 | _=>cases s<;>(B4 Cy at q;cases q)
B5 Ow.at{K:aF}{H:Hp}:∀{p:List Step} {d d1:D} {A:Fp} {v:V},Ow K H d A v→eO p d=some d1→∃w A1 C,Le H p v=some w∧Apart A1 C∧Is A (fK A1 C)∧Ow K H d1 A1 w ∧
    ∀H' d' A',Apart A' C→(∀a,C a→H' a=H a)→vP K H H'→Ow K H' d' A' w→Ow K H' (dR p d d') (fK A' C) v
  | [],d,d1,A,v,h,q=>by
    B4 eO at q
    cases q
    ~⟨v,A,nil,rfl,fun _ _ z=>z,fun x=>⟨.inl,fun z=>z.elim id False.elim⟩,h,fun H' d' A' _ _ _ o=>o.congr fun x=>⟨.inl,fun z=>z.elim id False.elim⟩⟩
  | s::p,d,d1,A,v,h,q=>by
    B4 eO at q
    B3⟨j,q1,q2⟩:=aY q
    B3⟨c,q3,q4⟩:=aY q2
    B3⟨xs,T,Bt,k1,k2,k3,k4,k5⟩:=h.kids q1
    B3⟨y,B1,C1,f1,f2,f3,f4,f5⟩:=(cG.mp k2).focus q3
    B3⟨w,A1,C2,g1,g2,g3,g4,g5⟩:=Ow.at f4 q4
    &⟨w,A1,fK T (fK C1 C2),?_,?_,?_,g4,fun H' d' A' ap fr tk o=>?_⟩
    · B4 Le
      rw[k1 y f1]
      ~g1
    · intro x qx qc
      have b1:B1 x:=(g3 x).mpr (.inl qx)
      rcases qc with qc | qc | qc
      · ~k4 x qc ((f3 x).mpr (.inl b1))
      · ~f2 x b1 qc
      · ~g2 x qx qc
    · intro x
      rw[k3 x]
      constructor
      · rintro(z | z)
        · ~.inr (.inl z)
        · rcases(f3 x).mp z with z | z
          · rcases(g3 x).mp z with z | z
            · ~.inl z
            · ~.inr (.inr (.inr z))
          · ~.inr (.inr (.inl z))
      · rintro(z | z | z | z)
        · ~.inr ((f3 x).mpr (.inl ((g3 x).mpr (.inl z))))
        · ~.inl z
        · ~.inr ((f3 x).mpr (.inr z))
        · ~.inr ((f3 x).mpr (.inl ((g3 x).mpr (.inr z))))
    · have o1:Ow K H' (dR p c d') (fK A' C2) y:=g5 H' d' A' (fun x a b=>ap x a (.inr (.inr b))) (fun a z=>fr a (.inr (.inr z))) tk o
      have ap1:Apart (fK A' C2) C1:=fun x a b=>a.elim (fun z=>ap x z (.inr (.inl b))) fun z=>f2 x ((g3 x).mpr (.inr z)) b
      have o2:=f5 (Ow K H') (fun e B z hb qq=>Ow.frame tk e B z qq fun a za=>fr a (.inr (.inl (hb a za)))) (dR p c d') y (fK A' C2) ap1 o1
      rw[set_same f1]at o2
      have o3:=k5 H' ((L2.kids d).set j (dR p c d')) _ (by rw[J5]) (cG.mpr o2) (fun a z=>fr a (.inl z)) (fun x a b=>by
        rcases b with (b | b) | b
        · ~ap x b (.inl a)
        · ~k4 x a ((f3 x).mpr (.inl ((g3 x).mpr (.inr b))))
        · ~k4 x a ((f3 x).mpr (.inr b)))
      have e:dR (s::p) d d'=Gh d ((L2.kids d).set j (dR p c d')):=by
        show (match Cy s d with | some j=>_ | none=>_)=_
        rw[q1]
        show (match (L2.kids d)[j]? with | some c=>_ | none=>_)=_
        rw[q3]
      rw[e]
      &o3.congr fun x=>?_
      show (T x∨(A' x∨C2 x)∨C1 x)↔(A' x∨T x∨C1 x∨C2 x)
      constructor
      · rintro(z | (z | z) | z)
        · ~.inr (.inl z)
        · ~.inl z
        · ~.inr (.inr (.inr z))
        · ~.inr (.inr (.inl z))
      · rintro(z | z | z | z)
        · ~.inr (.inl (.inl z))
        · ~.inl z
        · ~.inr (.inr z)
        · ~.inr (.inl (.inr z))
section
variable{K:aF}{B H:Hp}{env:EN}{σ:St}
B5 Rel.at{i:Nat}{p:List Step}{d0 d:D}(h:Rel K B env σ H)(e:env[i]?=some (.own d0))(q:eO p d0=some d):∃v0 w A1 C,σ[i]?=some (some v0)∧Le H p v0=some w∧Ow K H d A1 w∧Apart A1 C∧(∀a,C a→lO H a) ∧
    ∀H' d' A',Apart A' C→(∀a,C a→H' a=H a)→vP K H H'→Ow K H' d' A' w→aU (out H (fK A1 C)) (out H' (fK A' C))→Rel K B (env.set i (.own (dR p d0 d'))) σ H':=by
  B3⟨A,a,b⟩:=h
  have cl:=jB a
  B3⟨y,A1,C,h1,h2,h3,h4,k⟩:=a.focus e
  B3⟨v0,rfl,o⟩:=h4
  B3⟨w,B1,C1,g1,g2,g3,g4,g5⟩:=o.at q
  &⟨v0,w,B1,fK C1 C,h1,g1,g4,fun x z1 z2=>?_,fun x z=>?_,fun H' d' A' ap fr tk o' sm=>?_⟩
  · ~z2.elim (g2 x z1) (h2 x ((g3 x).mpr (.inl z1)))
  · ~cl x ((h3 x).mpr (z.elim (fun z=>.inl ((g3 x).mpr (.inr z))) .inr))
  · have o2:=g5 H' d' A' (fun x z1 z2=>ap x z1 (.inl z2)) (fun x z=>fr x (.inl z)) tk o'
    have ap2:Apart (fK A' C1) C:=fun x z1 z2=>z1.elim (fun z=>ap x z (.inr z2)) fun z=>h2 x ((g3 x).mpr (.inr z)) z2
    have hA:Is A (fK B1 (fK C1 C)):=fun x=>by
      rw[h3 x]
      constructor
      · rintro(z | z)
        · ~((g3 x).mp z).elim .inl fun z=>.inr (.inl z)
        · ~.inr (.inr z)
      · rintro(z | z | z)
        · ~.inl ((g3 x).mpr (.inl z))
        · ~.inl ((g3 x).mpr (.inr z))
        · ~.inr z
    have g:aU (out H A) (out H' (fK (fK A' C1) C)):=fun x u ex=>by
      B3⟨e1,e2⟩:=bA.mp ex
      have:=sm x u (bA.mpr ⟨fun z=>e1 ((hA x).mpr z),e2⟩)
      B3⟨e3,e4⟩:=bA.mp this
      ~bA.mpr ⟨fun z=>e3 (z.elim (fun z=>z.elim .inl fun z=>.inr (.inl z)) fun z=>.inr (.inr z)),e4⟩
    have s:=k (fZ K H' (out H' (fK (fK A' C1) C))) (fun s D z hb qq=>by
      cases s with
      | no=>~qq
      | fro d=>B3⟨q1,v,q2,q3⟩:=qq;~⟨q1,v,q2,g.rv _ _ q3⟩
      | inn v d=>~⟨qq.1,Ow.frame tk _ _ _ qq.2 fun x zx=>fr x (.inr (hb x zx))⟩
      | own d=>B3⟨v,q1,q2⟩:=qq;~⟨v,q1,Ow.frame tk _ _ _ q2 fun x zx=>fr x (.inr (hb x zx))⟩) (.own (dR p d0 d')) (some v0) (fK A' C1) ap2 ⟨v0,rfl,o2⟩
    rw[set_same h1]at s
    ~⟨_,s,b.trans g⟩
B5 Rel.IK{i:Nat}{p:List Step}{d0:D}{ds:List D}(h:Rel K B env σ H)(e:env[i]?=some (.own d0))(q:eO p d0=some (.lst ds)):∃v0 a xs Bs,σ[i]?=some (some v0)∧Le H p v0=some (.ref a)∧H a=some (.lst xs)∧¬Bs a∧dX K H ds Bs xs ∧
    ∀H2 ds' xs' Bn,aU H H2→dX K H2 ds' Bn xs'→(∀b,Bn b→Bs b∨H b=none)→Rel K B (env.set i (.own (dR p d0 (.lst ds')))) σ (upd H2 a (.lst xs')):=by
  B3⟨v0,w,A1,C,h1,h2,h3,h4,h5,h6⟩:=h.at e q
  B4 Ow at h3
  B3⟨a,xs,Bs,rfl,o2,o3,o4,o5⟩:=h3
  &⟨v0,a,xs,Bs,h1,h2,o2,o3,o5,fun H2 ds' xs' Bn s o hb=>?_⟩
  have nBa:¬Bn a:=fun z=>(hb a z).elim o3 fun z=>by rw[o2]at z;cases z
  have hC:∀x,C x→¬x=a:=fun x z y=>h4 x ((o4 x).mpr (.inl y)) z
  have Ti:H2 a=some (.lst xs):=s a _ o2
  &h6 _ (.lst ds') (fK (·=a) Bn) (fun x z1 z2=>?_) (fun x z=>?_) (s.tk.trans (tE (sJ Ti))) ?_ (fun x u ex=>?_)
  · rcases z1 with z1 | z1
    · ~hC x z2 z1
    · rcases hb x z1 with z | z
      · ~h4 x ((o4 x).mpr (.inr z)) z2
      · B3⟨⟨u,eu⟩,_⟩:=h5 x z2
        rw[z]at eu;cases eu
  · B3⟨⟨u,eu⟩,_⟩:=h5 x z
    rw[bQ (hC x z),eu,s x u eu]
  · B4 Ow
    &⟨a,xs',Bn,rfl,cJ,nBa,fun _=>Iff.rfl,dX.frame (tE (sJ Ti)) _ _ _ o fun x zx=>bQ fun y=>nBa (y▸zx)⟩
  · B3⟨e1,e2⟩:=bA.mp ex
    have na:x≠a:=fun y=>e1 (.inl ((o4 x).mpr (.inl y)))
    &bA.mpr ⟨fun z=>?_,by rw[bQ na];~s x u e2⟩
    rcases z with (z | z) | z
    · ~na z
    · rcases hb x z with z | z
      · ~e1 (.inl ((o4 x).mpr (.inr z)))
      · rw[z]at e2;cases e2
    · ~e1 (.inr z)
B5 Rel.aJf{i:Nat}{p:List Step}{d0:D}{ks:List Key}{ds:List D}(h:Rel K B env σ H)(e:env[i]?=some (.own d0))(q:eO p d0=some (.dk ks ds)):∃v0 a xs Bs,σ[i]?=some (some v0)∧Le H p v0=some (.ref a)∧H a=some (.dK (ks.zip xs))∧ks.length=xs.length∧¬Bs a∧dX K H ds Bs xs ∧
    ∀H2 ks' ds' xs' Bn,aU H H2→ks'.length=xs'.length→dX K H2 ds' Bn xs'→(∀b,Bn b→Bs b∨H b=none)→Rel K B (env.set i (.own (dR p d0 (.dk ks' ds')))) σ (upd H2 a (.dK (ks'.zip xs'))):=by
  B3⟨v0,w,A1,C,h1,h2,h3,h4,h5,h6⟩:=h.at e q
  B4 Ow at h3
  B3⟨a,xs,Bs,rfl,o2,o2',o3,o4,o5⟩:=h3
  &⟨v0,a,xs,Bs,h1,h2,o2,o2',o3,o5,fun H2 ks' ds' xs' Bn s hl o hb=>?_⟩
  have nBa:¬Bn a:=fun z=>(hb a z).elim o3 fun z=>by rw[o2]at z;cases z
  have hC:∀x,C x→¬x=a:=fun x z y=>h4 x ((o4 x).mpr (.inl y)) z
  have Ti:H2 a=some (.dK (ks.zip xs)):=s a _ o2
  &h6 _ (.dk ks' ds') (fK (·=a) Bn) (fun x z1 z2=>?_) (fun x z=>?_) (s.tk.trans (tE (Og Ti))) ?_ (fun x u ex=>?_)
  · rcases z1 with z1 | z1
    · ~hC x z2 z1
    · rcases hb x z1 with z | z
      · ~h4 x ((o4 x).mpr (.inr z)) z2
      · B3⟨⟨u,eu⟩,_⟩:=h5 x z2
        rw[z]at eu;cases eu
  · B3⟨⟨u,eu⟩,_⟩:=h5 x z
    rw[bQ (hC x z),eu,s x u eu]
  · B4 Ow
    &⟨a,xs',Bn,rfl,cJ,hl,nBa,fun _=>Iff.rfl,dX.frame (tE (Og Ti)) _ _ _ o fun x zx=>bQ fun y=>nBa (y▸zx)⟩
  · B3⟨e1,e2⟩:=bA.mp ex
    have na:x≠a:=fun y=>e1 (.inl ((o4 x).mpr (.inl y)))
    &bA.mpr ⟨fun z=>?_,by rw[bQ na];~s x u e2⟩
    rcases z with (z | z) | z
    · ~na z
    · rcases hb x z with z | z
      · ~e1 (.inl ((o4 x).mpr (.inr z)))
      · rw[z]at e2;cases e2
    · ~e1 (.inr z)
end
end L2


namespace L2
open PySem PySem.Spec PyProof.Rows
abbrev FP:=DE→Option (List Step)
def EvP(K:aF)(t:TE)(i:Nat)(π:FP):Prop:=∀(σ:St)(H:Hp)(e:DE)(v0:V)(p:List Step)(v:V)(Q:VK),yO K H e σ→σ[i]?=some (some v0)→π e=some p→Le H p v0=some v→(∀H',aU H H'→Q v H')→t σ H Q
structure XP(K:aF)(X:Cx)(e:Expr)(t:TE)(i:Nat)(π:FP):Prop where
 hk:X.K=K
 pe:PE X e t
 ev:EvP K t i π
B5 Pk{H:Hp}{s:Step}:∀{p:List Step} {v0 v:V},Le H (p++[s]) v0=some v→∃w,Le H p v0=some w∧stepV H s w=some v
 | [],v0,v,h=>by
  rw[Y1]at h
  B4 Le at h
  B3⟨w,h1,h2⟩:=aY h
  B4 Le at h2
  cases h2
  ~⟨v0,rfl,h1⟩
 | s'::p,v0,v,h=>by
  rw[P0]at h
  B4 Le at h
  B3⟨u,h1,h2⟩:=aY h
  B3⟨w,h3,h4⟩:=Pk h2
  &⟨w,?_,h4⟩
  B4 Le
  rw[h1]
  ~h3
B5 aAP{H:Hp}{k:Nat}{w v:V}(h:stepV H (.ix k) w=some v):∃a xs,w=.ref a∧H a=some (.lst xs)∧xs[k]?=some v:=by
 cases w with
 | ref a=>
  B4 stepV at h
  dsimp only at h
  cases q:H a with
  | none=>rw[q]at h;cases h
  | some o=>
   rw[q]at h
   cases o with
   | lst xs=>~⟨a,xs,rfl,q,h⟩
   | _=>cases h
 | _=>B4 stepV at h;cases h
def cW:FP:=fun _=>some []
def Tj(π:FP)(g:FE):FP:=fun e=>(π e).bind fun p=>(g e).bind fun d=>match d with
 | .int k=>if 0≤k then some (p++[.ix k.toNat])else none
 | _=>none
section
variable{K:aF}{X:Cx}{e a b c:Expr}{es:List Expr}{t ta tb te:TE}{f g:FE}{tA:TA}{fs:FA}{pos:Pos}{i j:Nat}{π:FP}{st:Stmt}
B5 iG(h:PE X e (qN i))(hk:X.K=K:=by rfl):XP K X e (qN i) i cW:=⟨hk,h,fun σ H e v0 p v Q re h1 h2 h3 k=>by
 cases h2
 B4 Le at h3
 cases h3
 ~⟨v0,h1,k H (aU.refl _)⟩⟩
B5 Lf(h:XP K X a ta i π)(hb:XR K X b tb g)(hs:Xl b):XP K X (.Subscript a b pos) (CW (rIx K) ta tb) i (Tj π g):=⟨h.hk,aEe (aEn h.hk) h.pe hb.pe hs,fun σ H e v0 p v Q re h1 h2 h3 k=>by
 B4 Tj at h2
 B3⟨p0,q1,q2⟩:=aY h2
 B3⟨d,q3,q4⟩:=aY q2
 split at q4
 ·rename_i n
  split at q4
  ·rename_i hn
   cases q4
   B3⟨w,w1,w2⟩:=Pk h3
   B3⟨ad,xs,rfl,w3,w4⟩:=aAP w2
   &h.ev σ H e v0 p0 _ _ re h1 q1 w1 fun H1 s1=>hb.ev σ H1 H1 e _ _ (Zn.self K H1) (re.same s1) q3 fun y H2 Z2 s2 t2 z2 ry=>?_
   B4 Rv at ry
   ~.inl ⟨ad,xs,n,v,rfl,ry,pK.of (s2 _ _ (s1 _ _ w3)),aI7 hn w4,k H2 (s1.trans s2)⟩
  ·cases q4
 ·cases q4⟩
def Eb(i:Nat)(π:FP)(f:FE):GS:=fun env=>match env[i]?,π (rE env),f (rE env)with
 | some (.own d0),some p,some d=>(match eO p d0 with
  | some (.lst ds)=>if ds.length<100000 then .next (env.set i (.own (dR p d0 (.lst (ds++[d])))))else .bad
  | _=>.bad)
 | _,_,_=>.bad
B5 Pn{H H1:Hp}{A:Fp}{ds:List D}{xs:List V}{N:Fp}(o:dX K H ds A xs)(fr:∀a,N a→H a=none):Apart A N:=fun x q1 q2=>by
 B3⟨⟨u,eu⟩,_⟩:=dX.cells _ _ _ o x q1
 rw[fr x q2]at eu;cases eu
B5 aAQ(h:EvP K ta i π)(he:Sg K te f):qm K (nD (Nu K "list" nT ta (fY te nG))) (Eb i π f):=fun B E σ H env r p=>by
 B4 Eb at p
 split at p
 ·rename_i d0 pp d q1 q2 q3
  split at p
  ·rename_i ds q4
   split at p
   ·rename_i hl
    B3⟨v0,a,xs,Bs,k1,k2,k3,k4,k5,k6⟩:=r.IK q1 q4
    &h σ H (rE env) v0 pp _ _ r.r k1 q2 k2 fun H1 s1=>⟨.inl ⟨rfl,xs,pK.of (s1 _ _ k3)⟩,?_⟩
    &he σ H1 (rE env) d _ (r.r.same s1) q3 fun y H2 s2 n=>?_
    B3⟨N,o,fr⟩:=n.back s1
    have s12:=s1.trans s2
    &⟨a,xs,y,rfl,rfl,s12 _ _ k3,Ot (by rw[(dX.rv _ _ _ k5).length];omega),p _ ?_⟩
    ~k6 H2 (ds++[d]) (xs++[y]) (fK Bs N) s12 (cG.mpr ((cG.mp (k5.same s12)).snoc o (Pn (H1:=H) k5 fr))) fun b z=>z.imp id (fr b)
   ·~p.elim
  ·~p.elim
 ·~p.elim
B5 aAR{m:Str}{apos cpos:Pos}(h:XP K X a ta i π)(he:XN K X e te f)(hp:PE X a ta→PE X e te→PS X (.Expr (.Call (.Attribute a m apos) [e] [] cpos) pos) (nD (Nu K "list" nT ta (fY te nG)))):YS K X (.Expr (.Call (.Attribute a m apos) [e] [] cpos) pos) (nD (Nu K "list" nT ta (fY te nG))) (Eb i π f):=⟨hp h.pe he.pe,(aAQ h.ev he.ev).ds⟩
def uM(i:Nat)(π:FP)(g f:FE):GS:=fun env=>match env[i]?,π (rE env),g (rE env),f (rE env)with
 | some (.own d0),some p,some (.int k),some d=>(match eO p d0 with
  | some (.lst ds)=>(match Up ds.length k with
   | some j=>.next (env.set i (.own (dR p d0 (.lst (ds.set j d)))))
   | none=>.bad)
  | _=>.bad)
 | _,_,_,_=>.bad
B5 aAS{n:Nat}{k:Int}{j:Nat}(h:Up n k=some j):j<n:=by
 B4 Up at h
 split at h
 ·split at h
  ·cases h;omega
  ·cases h
 ·split at h
  ·cases h;omega
  ·cases h
B5 cz(h:EvP K ta i π)(hx:Iz K tb g)(he:Sg K te f):qm K (uD te (Xd ta tb Fw)) (uM i π g f):=fun B E σ H env r p=>by
 B4 uM at p
 split at p
 ·rename_i d0 pp k d q1 q2 q3 q3'
  split at p
  ·rename_i ds q4
   split at p
   ·rename_i j q5
    B3⟨v0,a,xs,Bs,k1,k2,k3,k4,k5,k6⟩:=r.IK q1 q4
    &he σ H (rE env) d _ r.r q3' fun y H1 s1 n=>?_
    &h σ H1 (rE env) v0 pp _ _ (r.r.same s1) k1 q2 (tG s1 k2) fun H2 s2=>hx σ H2 H2 (rE env) _ _ (Zn.self K H2) (r.r.same (s1.trans s2)) q3 fun y' H3 Z3 s3 t3 z3 ry=>?_
    B4 Rv at ry
    have Pb:=s1.trans (s2.trans s3)
    B3⟨N,o,fr⟩:=n.same (s2.trans s3)
    have hlen:=(dX.rv _ _ _ k5).length
    &⟨a,xs,k,j,rfl,ry,Pb _ _ k3,by rw[hlen];~q5,p _ ?_⟩
    B3⟨y0,A1,C,f1,f2,f3,f4,f5⟩:=(cG.mp (k5.same Pb)).focus (B6 (aAS q5))
    have ap:Apart N C:=fun x q1 q2=>Pn (H1:=H) k5 fr x ((f3 x).mpr (.inr q2)) q1
    ~k6 H3 (ds.set j d) (xs.set j y) (fK N C) Pb (cG.mpr (f5 (Ow K H3) (fun _ _ _ _ qq=>qq) d y N ap o)) fun b z=>z.elim (fun z=>.inr (fr b z)) fun z=>.inl ((f3 b).mpr (.inr z))
   ·~p.elim
  ·~p.elim
 ·~p.elim
B5 Yk{pos':Pos}(h:XP K X a ta i π)(hx:XR K X b tb g)(he:XN K X e te f)(hp:PE X a ta→PE X b tb→PE X e te→PS X (.Assign [.Subscript a b pos'] e pos) (uD te (Xd ta tb Fw))):YS K X (.Assign [.Subscript a b pos'] e pos) (uD te (Xd ta tb Fw)) (uM i π g f):=⟨hp h.pe hx.pe he.pe,(cz h.ev hx.ev he.ev).ds⟩
def rJ(i:Nat)(π:FP)(g f:FE):GS:=fun env=>match env[i]?,π (rE env),g (rE env),f (rE env)with
 | some (.own d0),some p,some k,some d=>(match eO p d0,Tf k with
  | some (.dk ks ds),some k=>if d.jK=true∧ks.length<100000 then .next (env.set i (.own (dR p d0 (.dk (lF ks k) (putD ks ds k d)))))else .bad
  | _,_=>.bad)
 | _,_,_,_=>.bad
B5 IV{H:Hp}{d:D}{v:V}(o:Ow K H d nil v)(k:Key):∀{ks:List Key} {ds:List D} {A:Fp} {xs:List V},ks.length=xs.length→dX K H ds A xs→∃A',(∀x,A' x→A x)∧dX K H (Q1 (fun k' d'=>if k'=k then d else d') ks ds) A' (Q1 (fun k' d'=>if k'=k then v else d') ks xs)
 | [],ds,A,xs,hl,h=>by
  cases xs with
  | nil=>~⟨nil,fun _ z=>z.elim,by rw[Q2,Q2];B4 dX;~⟨fun _ z=>z,rfl⟩⟩
  | cons x xs=>simp at hl
 | k0::ks,[],A,xs,hl,h=>by B4 dX at h;rw[h.2]at hl;simp at hl
 | k0::ks,d0::ds,A,xs,hl,h=>by
  B4 dX at h
  B3⟨y,yt,A1,A2,rfl,h2,h3,h4,h5⟩:=h
  B3⟨A',a1,a2⟩:=IV o k (by simpa using hl) h5
  by_cases c:k0=k
  ·&⟨A',fun x q=>(h3 x).mpr (.inr (a1 x q)),?_⟩
   rw[J1,J1,if_pos c,if_pos c]
   B4 dX
   ~⟨v,_,nil,A',rfl,fun _ z=>z.elim,fun x=>⟨.inr,fun z=>z.elim False.elim id⟩,o,a2⟩
  ·&⟨fK A1 A',fun x q=>(h3 x).mpr (q.imp id (a1 x)),?_⟩
   rw[J1,J1,if_neg c,if_neg c]
   B4 dX
   ~⟨y,_,A1,A',rfl,fun x z1 z2=>h2 x z1 (a1 x z2),fun _=>Iff.rfl,h4,a2⟩
B5 dg(h:EvP K ta i π)(hx:Iz K tb g)(he:Iz K te f):qm K (Fy ta tb te) (rJ i π g f):=fun B E σ H env r p=>by
 B4 rJ at p
 split at p
 ·rename_i d0 pp kd d q1 q2 q3 q3'
  split at p
  ·rename_i ks ds k q4 q5
   split at p
   ·rename_i hc
    B3⟨v0,a,xs,Bs,k1,k2,k3,k3',k4,k5,k6⟩:=r.aJf q1 q4
    &he σ H H (rE env) d _ (Zn.self K H) r.r q3' fun y H1 Z1 s1 t1 z1 ry=>?_
    &h σ H1 (rE env) v0 pp _ _ (r.r.same s1) k1 q2 (tG s1 k2) fun H2 s2=>hx σ H2 H2 (rE env) _ _ (Zn.self K H2) (r.r.same (s1.trans s2)) q3 fun y' H3 Z3 s3 t3 z3 ry'=>?_
    have Pb:=s1.trans (s2.trans s3)
    have o:Ow K H3 d nil y:=zX d y hc.1 ((z1.sm.trans (s2.trans s3)).rv _ _ ry)
    have ek:=Ms q5 (z3.sm.rv _ _ ry')
    &⟨a,_,rfl,.inl ⟨ks.zip xs,k,Pb _ _ k3,ek,Ot (by rw[Y2];omega),rfl⟩,p _ ?_⟩
    rw[HH k3']
    have ow3:=k5.same Pb
    have hl3:=(dX.rv _ _ _ k5).length
    by_cases c:(posK ks k).isSome=true
    ·B3⟨A',a1,a2⟩:=IV o k k3' ow3
     &k6 H3 (lF ks k) (putD ks ds k d) (putD ks xs k y) A' Pb (vR k3') ?_ fun b z=>.inl (a1 b z)
     B4 putD
     rw[if_pos c,if_pos c]
     ~a2
    ·&k6 H3 (lF ks k) (putD ks ds k d) (putD ks xs k y) (fK Bs nil) Pb (vR k3') ?_ fun b z=>z.elim .inl False.elim
     B4 putD
     rw[if_neg c,if_neg c]
     ~cG.mpr ((cG.mp ow3).snoc o fun _ _ z=>z)
   ·~p.elim
  ·~p.elim
 ·~p.elim
B5 dh{pos':Pos}(h:XP K X a ta i π)(hx:XR K X b tb g)(he:XR K X e te f)(hp:PE X a ta→PE X b tb→PE X e te→PS X (.Assign [.Subscript a b pos'] e pos) (Fy ta tb te)):YS K X (.Assign [.Subscript a b pos'] e pos) (Fy ta tb te) (rJ i π g f):=⟨hp h.pe hx.pe he.pe,(dg h.ev hx.ev he.ev).ds⟩
B5 Vd{α β:Type}{R:α→Fp→β→Prop}:∀{ds:List α} {A:Fp} {ys:List β} (k:Nat),eU R ds A ys→∃A',(∀x,A' x→A x)∧eU R (ds.eraseIdx k) A' (ys.eraseIdx k)
 | [],A,ys,k,h=>⟨A,fun _ z=>z,by rw[h.2];~⟨h.1,rfl⟩⟩
 | d::ds,A,ys,0,⟨y,yt,A1,A2,h1,h2,h3,h4,h5⟩=>⟨A2,fun x z=>(h3 x).mpr (.inr z),by rw[h1];~h5⟩
 | d::ds,A,ys,k+1,⟨y,yt,A1,A2,h1,h2,h3,h4,h5⟩=>by
  B3⟨A',a1,a2⟩:=Vd k h5
  &⟨fK A1 A',fun x z=>(h3 x).mpr (z.imp id (a1 x)),?_⟩
  rw[h1,M6,M6]
  ~⟨y,_,A1,A',rfl,fun x z1 z2=>h2 x z1 (a1 x z2),fun _=>Iff.rfl,h4,a2⟩
def Bj(i j:Nat)(f:FE):GS:=fun env=>match env[i]?,env[j]?,f (rE env)with
 | some (.own (.lst ds)),some (.own (.lst es)),some (.int k)=>if i≠j∧ds.length<100000∧0≤k∧k<es.length∧es.length≤100000 then(match es[k.toNat]? with
   | some d=>if d.jK=true then .next ((env.set j (.own (.lst (es.eraseIdx k.toNat)))).set i (.own (.lst (ds++[d]))))else .bad
   | none=>.bad)else .bad
 | _,_,_=>.bad
B5 qp(he:Iz K te f):DS K (nD (Nu K "list" nT (qN i) (fY (Nu K "list" Xr (qN j) (fY te nG)) nG))) (Bj i j f):=fun B E σ H env r p=>by
 B4 Bj at p
 split at p
 ·rename_i ds es k q1 q2 q3
  split at p
  ·rename_i hc
   B3⟨c1,c2,c3,c4,c5⟩:=hc
   split at p
   ·rename_i d q4
    split at p
    ·rename_i im
     B3⟨w0,b,ys,Cs,m1,m2,m3,m4,m5,m6⟩:=r.IK (p:=[]) q2 rfl
     B3⟨v0,a,xs,Bs,k1,k2,k3,k4,k5,k6⟩:=r.IK (p:=[]) q1 rfl
     have e1:v0=.ref a:=by B4 Le at k2;~F4 k2
     have e2:w0=.ref b:=by B4 Le at m2;~F4 m2
     subst e1 e2
     &⟨_,k1,.inl ⟨rfl,xs,pK.of k3⟩,⟨_,m1,.inl ⟨rfl,ys,pK.of m3⟩,?_⟩⟩
     &he σ H H (rE env) _ _ (Zn.self K H) r.r q3 fun y H1 Z1 s1 t1 z1 ry=>?_
     B4 Rv at ry
     have hly:=(dX.rv _ _ _ m5).length
     have hlx:=(dX.rv _ _ _ k5).length
     B3⟨x',hx',rx'⟩:=(dX.rv _ _ _ m5).get q4
     &⟨b,ys,k,k.toNat,x',rfl,by rw[ry],s1 _ _ m3,by omega,by omega,seqIndex_of c3 (by rw[hly];~c4),hx',?_⟩
     have o1:=m5.same s1
     B3⟨A',a1,a2⟩:=Vd k.toNat (cG.mp o1)
     have r1:=m6 H1 (es.eraseIdx k.toNat) (ys.eraseIdx k.toNat) A' s1 (cG.mpr a2) fun x z=>.inl (a1 x z)
     have r1':Rel K B (env.set j (.own (.lst (es.eraseIdx k.toNat)))) σ (upd H1 b (.lst (ys.eraseIdx k.toNat))):=r1
     have q1':(env.set j (.own (.lst (es.eraseIdx k.toNat))))[i]?=some (.own (.lst ds)):=by rw[F8,if_neg (Ne.symm c1)];~q1
     B3⟨v0',a',xs',Bs',n1,n2,n3,n4,n5,n6⟩:=r1'.IK (p:=[]) q1' rfl
     rw[k1]at n1
     cases n1
     have e3:a'=a:=by B4 Le at n2;cases n2;rfl
     subst e3
     have ne:a'≠b:=by
      intro z
      subst z
      B3⟨A0,sA,_⟩:=r
      B3⟨y1,A1,C,f1,f2,f3,f4,f5⟩:=sA.focus q1
      B3⟨v1,ev1,o1⟩:=f4
      have g1:=f5 (fZ K H (out H A0)) (fun _ _ _ _ qq=>qq) (.own (.lst ds)) (some v1) A1 f2 ⟨v1,rfl,o1⟩
      rw[k1]at f1
      cases f1
      cases ev1
      B4 Ow at o1
      B3⟨p1,_,_,ep1,_,_,ip1,_⟩:=o1
      cases ep1
      have other:∀{l:EN} {A:Fp} {ys:St} (i j:Nat),eU (fZ K H (out H A0)) l A ys→i≠j→∀s s',l[i]?=some s→l[j]?=some s'→∃y y' A1 A2,ys[i]?=some y∧ys[j]?=some y'∧fZ K H (out H A0) s A1 y∧fZ K H (out H A0) s' A2 y'∧Apart A1 A2:=by
       intro l
       induction l with
       | nil=>intro A ys i j _ _ s s' h1 _;simp at h1
       | cons d l ih=>
        rintro A ys i j ⟨y,yt,B1,B2,rfl,h2,h3,h4,h5⟩ hij s s' h6 h7
        cases i with
        | zero=>
         cases j with
         | zero=>~absurd rfl hij
         | succ j=>
          simp at h6
          subst h6
          B3⟨y2,A3,C3,w1,w2,w3,w4,_⟩:=h5.focus (i:=j) (d:=s') (by simpa using h7)
          ~⟨y,y2,B1,A3,rfl,by simpa using w1,h4,w4,fun x z1 z2=>h2 x z1 ((w3 x).mpr (.inl z2))⟩
        | succ i=>
         cases j with
         | zero=>
          simp at h7
          subst h7
          B3⟨y2,A3,C3,w1,w2,w3,w4,_⟩:=h5.focus (i:=i) (d:=s) (by simpa using h6)
          ~⟨y2,y,A3,B1,by simpa using w1,rfl,w4,h4,fun x z1 z2=>h2 x z2 ((w3 x).mpr (.inl z1))⟩
         | succ j=>
          B3⟨y2,y3,A3,A4,w1,w2,w3,w4,w5⟩:=ih i j h5 (fun z=>hij (by rw[z])) s s' (by simpa using h6) (by simpa using h7)
          ~⟨y2,y3,A3,A4,by simpa using w1,by simpa using w2,w3,w4,w5⟩
      B3⟨y2,y3,A3,A4,w1,w2,w3,w4,w5⟩:=other i j sA c1 _ _ q1 q2
      rw[k1]at w1;cases w1
      rw[m1]at w2;cases w2
      B3⟨_,ea,oa⟩:=w3
      B3⟨_,eb,ob⟩:=w4
      cases ea
      cases eb
      B4 Ow at oa ob
      B3⟨p1,_,_,e1,_,_,i1,_⟩:=oa
      B3⟨p2,_,_,e2,_,_,i2,_⟩:=ob
      cases e1
      cases e2
      ~w5 _ ((i1 _).mpr (.inl rfl)) ((i2 _).mpr (.inl rfl))
     have n3':H1 a'=some (.lst xs'):=by rw[bQ ne]at n3;~n3
     have exx:xs'=xs:=by have:=s1 _ _ k3;rw[n3']at this;cases this;rfl
     subst exx
     have imo:Ow K (upd H1 b (.lst (ys.eraseIdx k.toNat))) d nil x':=Ow.frame (tE (sJ (s1 _ _ m3))) _ _ _ (zX d x' im (s1.rv _ _ rx')) fun _ z=>z.elim
     &⟨a',xs',x',rfl,rfl,n3,Ot A6,p _ _ ?_⟩
     ~n6 _ (ds++[d]) (xs'++[x']) (fK Bs' nil) (aU.refl _) (cG.mpr ((cG.mp n5).snoc imo fun _ _ z=>z)) fun x z=>z.elim .inl False.elim
    ·~p.elim
   ·~p.elim
  ·~p.elim
 ·~p.elim
end
end L2


namespace L2
open PySem PySem.Spec PyProof.Rows
def VD(K:aF)(B:Hp)(R:Fp)(env:EN)(σ:St)(H:Hp):Prop:=∃A,eU (fZ K H (out H (fK A R))) env A σ∧Apart A R∧aU B (out H (fK A R))
section
variable{K:aF}{B H H':Hp}{env:EN}{σ:St}{R R' A1:Fp}
B5 Rel.x(h:Rel K B env σ H)(s:aU H H')(f:∀a,R a→H a=none):VD K B R env σ H':=by
 B3⟨A,a,b⟩:=h
 have cl:=jB a
 have g:aU (out H A) (out H' (fK A R)):=bU s fun x q=>q.imp id (f x)
 &⟨A,a.mono fun e C z _ q=>q.same s g,fun x q1 q2=>?_,b.trans g⟩
 B3⟨⟨u,eu⟩,_⟩:=cl x q1
 rw[f x q2]at eu;cases eu
B5 VD.own{i:Nat}{d:D}{v:V}(h:VD K B R env σ H)(e:Is R (fK A1 R'))(ap:Apart A1 R')(o:Ow K H d A1 v)(hi:i<env.length):VD K B R' (env.set i (.own d)) (σ.set i (some v)) H:=by
 B3⟨A,a,aR,b⟩:=h
 B3⟨y,A0,C,h1,h2,h3,h4,k⟩:=a.focus (B6 hi)
 have g:aU (out H (fK A R)) (out H (fK (fK A1 C) R')):=bU (aU.refl _) fun x q=>by
  rcases q with (q | q) | q
  ·~.inl (.inr ((e x).mpr (.inl q)))
  ·~.inl (.inl ((h3 x).mpr (.inr q)))
  ·~.inl (.inr ((e x).mpr (.inr q)))
 &⟨fK A1 C,k _ (fun s D z _ q=>q.same (aU.refl _) g) (.own d) (some v) A1 (fun x q1 q2=>aR x ((h3 x).mpr (.inr q2)) ((e x).mpr (.inl q1))) ⟨v,rfl,o⟩,fun x q1 q2=>?_,b.trans g⟩
 rcases q1 with q1 | q1
 ·~ap x q1 q2
 ·~aR x ((h3 x).mpr (.inr q1)) ((e x).mpr (.inr q2))
B5 VD.done(h:VD K B R env σ H)(e:None R):Rel K B env σ H:=by
 B3⟨A,a,aR,b⟩:=h
 have g:aU (out H (fK A R)) (out H A):=bU (aU.refl _) fun x q=>.inl (.inl q)
 ~⟨A,a.mono fun s D z _ q=>q.same (aU.refl _) g,b.trans g⟩
end
def Ec:List Nat→TGs
 | []=>aHh
 | i::is=>aD8 (iR i) (Ec is)
def uN:EN→List Nat→List D→EN
 | env,i::is,d::ds=>uN (env.set i (.own d)) is ds
 | env,_,_=>env
B5 IW{K:aF}{B H:Hp}{Q:St→Hp→Prop}:∀{is:List Nat} {ds:List D} {xs:List V} {R:Fp} {env:EN} {σ:St},VD K B R env σ H→dX K H ds R xs→is.length=ds.length→(∀i∈is,i<env.length) →
  (∀σ',Rel K B (uN env is ds) σ' H→Q σ' H)→Ec is xs σ H Q
 | [],ds,xs,R,env,σ,r,o,hl,hi,k=>by
  cases ds with
  | cons d ds=>simp at hl
  | nil=>
   B4 dX at o
   B4 Ec
   ~⟨o.2,k σ (by B4 uN;~r.done o.1)⟩
 | i::is,ds,xs,R,env,σ,r,o,hl,hi,k=>by
  cases ds with
  | nil=>simp at hl
  | cons d ds=>
   B4 dX at o
   B3⟨y,yt,A1,A2,rfl,h2,h3,h4,h5⟩:=o
   B4 Ec
   &⟨y,yt,rfl,?_⟩
   have hi0:=hi i D4
   ~IW (r.own h3 h2 h4 hi0) h5 (by simpa using hl) (fun j hj=>by rw[J5];~hi j (C8 _ hj)) fun σ' r'=>k σ' (by B4 uN;~r')
def wW(is:List Nat)(f:FE):GS:=fun env=>match f (rE env)with
 | some (.tup ds)=>if is.length=ds.length∧is.all (fun i=>decide (i<env.length))=true then .next (uN env is ds)else .bad
 | _=>.bad
section
variable{K:aF}{X:Cx}{e a b c:Expr}{es:List Expr}{t ta tb te:TE}{f g:FE}{tA:TA}{fs:FA}{pos:Pos}{i j:Nat}{π:FP}{st:Stmt}
B5 qt{is:List Nat}{n:Nat}(h:Sg K te f)(hn:n=is.length):DS K (uD te (aCy K n (Ec is))) (wW is f):=fun B E σ H env r p=>by
 B4 wW at p
 split at p
 ·rename_i ds q
  split at p
  ·rename_i hc
   &h σ H (rE env) _ _ r.r q fun v H' s ⟨N,o,fr⟩=>?_
   B4 Ow at o
   B3⟨ad,xs,rfl,o1,o2⟩:=o
   &⟨ad,xs,rfl,o1,by rw[(dX.rv _ _ _ o2).length,hn,hc.1],?_⟩
   ~IW (r.x s fr) o2 hc.1 (fun i hi=>of_decide_eq_true (M3.mp hc.2 i hi)) fun σ' r'=>p σ' H' r'
  ·~p.elim
 ·~p.elim
B5 qu{is:List Nat}{n:Nat}{tg:Expr}(h:XN K X e te f)(hp:PE X e te→PS X (.Assign [tg] e pos) (uD te (aCy K n (Ec is))))(hn:n=is.length:=by rfl):YS K X (.Assign [tg] e pos) (uD te (aCy K n (Ec is))) (wW is f):=⟨hp h.pe,qt h.ev hn⟩
def aAT:EN→List Nat→Option (List D)
 | _,[]=>some []
 | env,i::is=>(match env[i]? with
  | some (.own d)=>(aAT env is).map (d::·)
  | _=>none)
inductive TyS(K:aF)(H:Hp):V→Value→Prop where
 | bl (x:Bool):TyS K H (.bl x) (.type "bool")
 | int (i:Int):TyS K H (.int i) (.type "int")
 | lst {a:Addr} {xs:List V} (e:pK K H a xs):TyS K H (.ref a) (.type "list")
 | tup {a:Addr} {xs:List V} (e:zO K H a xs):TyS K H (.ref a) (.type "tuple")
B5 Yl:nF X (.builtin "isinstance") (fun xs H Q=>∃x T t b,xs=[x,.ty T]∧TyS X.K H x t∧J4 X.K t (.type T)=some b∧Q (.bl b) H):=by
 intro pins s σ H xs us Q I r h
 B3⟨x,T,t,b,rfl,ty,hk,q⟩:=h
 B3⟨u,w',rfl,rx,rt⟩:=vals2 r
 cases rt
 cases ty with
 | bl y=>~Ui I rx (.bl y) hk fun tk=>⟨.bl b,H,I.tok _,rfl,q⟩
 | int i=>~Ui I rx (.int i) hk fun tk=>⟨.bl b,H,I.tok _,rfl,q⟩
 | @lst a xs e=>
  cases(show u=Value.ref a from rx)
  B3⟨its,_,pl,_⟩:=I.list e
  B3⟨o,n,h1,h2,_⟩:=pl
  ~K0 V8 I.Im ⟨o,h1,h2⟩ hk (fun z=>nomatch z) fun tk=>⟨.bl b,H,I.tok _,rfl,q⟩
 | @tup a xs e=>
  cases(show u=Value.ref a from rx)
  B3⟨its,_,pl,_⟩:=I.tuple e
  B3⟨o,h1,h2,_⟩:=pl
  ~K0 d7 I.Im ⟨o,h1,h2⟩ hk (fun z=>nomatch z) fun tk=>⟨.bl b,H,I.tok _,rfl,q⟩
def JB(T:String)(d:D):Option D:=match d with
 | .int _=>if T = "int" then some (.bl true)else if T = "bool" then some (.bl false)else none
 | .bl _=>if T = "bool" then some (.bl true)else none
 | .lst _=>if T = "list" then some (.bl true)else none
 | .tup _=>if T = "tuple" then some (.bl true)else none
 | _=>none
def VF(T:String)(f:FE):FE:=fun e=>(f e).bind (JB T)
def aHL(K:aF):List V→Hp→VK→Prop:=fun xs H Q=>∃x T t b,xs=[x,.ty T]∧TyS K H x t∧J4 K t (.type T)=some b∧Q (.bl b) H
B5 aFY{H:Hp}{T:String}{d r:D}{v:V}(h:JB T d=some r)(rv:Rv K H d v):∃t b,TyS K H v t∧J4 K t (.type T)=some b∧r=.bl b:=by
 cases d with
 | int i=>
  B4 JB at h
  dsimp only at h
  B4 Rv at rv
  subst rv
  split at h
  ·rename_i c;cases h;subst c;~⟨_,_,.int i,GX,rfl⟩
  ·split at h
   ·rename_i c;cases h;subst c;~⟨_,_,.int i,Xx,rfl⟩
   ·cases h
 | bl b=>
  B4 JB at h
  dsimp only at h
  B4 Rv at rv
  subst rv
  split at h
  ·rename_i c;cases h;subst c;~⟨_,_,.bl b,Tc,rfl⟩
  ·cases h
 | lst ds=>
  B4 JB at h
  dsimp only at h
  B4 Rv at rv
  B3⟨a,xs,rfl,r2,_⟩:=rv
  split at h
  ·rename_i c;cases h;subst c;~⟨_,_,.lst r2,Td,rfl⟩
  ·cases h
 | tup ds=>
  B4 JB at h
  dsimp only at h
  B4 Rv at rv
  B3⟨a,xs,rfl,r2,_⟩:=rv
  split at h
  ·rename_i c;cases h;subst c;~⟨_,_,.tup r2,Lx,rfl⟩
  ·cases h
 | _=>B4 JB at h;cases h
B5 aFZ(hk:X.K=K):nF X (.builtin "isinstance") (aHL K):=by subst hk;~Yl
B5 VG{T:String}{p:Pos}{eT:Expr}(h:XR K X e t f)(hT:PE X eT (tC (.ty T)))(hg:Gl X "isinstance") (hm:X.mg "isinstance" = none) (hst:starEach (e::[eT]) X.env=(false,eval e X.env)::starEach [eT] X.env:=by rfl) (hst2:starEach [eT] X.env=(false,eval eT X.env)::starEach [] X.env:=by rfl)
  (hpl:(backTo pos (starEach [eT] X.env)).any (·.1)=false:=by rfl):XN K X (.Call (.Name "isinstance" p) [e,eT] [] pos) (tCB (aHL K) (fY t (fY (tC (.ty T)) nG))) (VF T f):=
 ⟨h.hk,FZ (aFZ h.hk) hg hm PyProof.Rows.boot_isinstance (fD h.pe (fD hT jY hst2) hst) A8 A8 hst hpl,fun σ H e d Q re q k=>by
  B4 VF at q
  B3⟨d0,q1,q2⟩:=aY q
  &h.ev σ H H e d0 _ (Zn.self K H) re q1 fun v H1 Z1 s1 t1 z1 rv=>?_
  B3⟨ty,b,b1,b2,rfl⟩:=aFY q2 (z1.sm.rv _ _ rv)
  ~⟨v,T,ty,b,rfl,b1,b2,k _ H1 s1 (.jK rfl (by B4 Rv;rfl))⟩⟩
structure iU(mg:Str→Option Value)(x:Str)(i:Int):Prop where
 ex:∃t,mg x=some (.int i t)
structure aKb(K:aF)(mg:Str→Option Value)(x:Str)(ns:List Int):Prop where
 ex:∃a,mg x=some (.ref a)∧∀H:Hp,zO K H a (ns.map V.int)
B5 nH{x:Str}{i:Int}(G:iU X.mg x i)(hg:Gl X x)(hd:(x==("__debug__" : Str))=false:=by decide) (hk:X.K=K:=by rfl):XN K X (.Name x pos) (tC (.int i)) (fC (.int i)):=by
 B3⟨t,h⟩:=G.ex
 ~⟨hk,aCu hg h ⟨t,rfl⟩ hd,aAt i⟩
def dTup(ns:List Int):D:=.tup (ns.map D.int)
end
def pN(n m:Nat)(g:GS):List D→Option D:=fun ds=>if ds.length=m then(match g (ds.map SD.fro++E4 (n-m) SD.no)with
  | .ret d=>some d
  | .next _=>some .non
  | _=>none)else none
B5 Pq{K:aF}{H Z:Hp}{k:Nat}:∀{ds:List D} {vs:List V},eY K Z ds vs→eU (fZ K H Z) (ds.map SD.fro++E4 k SD.no) nil (vs.map some++E4 k none)
 | [],vs,h=>by
  B4 eY at h
  subst h
  simp only[J2,Y1]
  induction k with
  | zero=>~⟨fun _ z=>z,rfl⟩
  | succ k ih=>
   rw[c6,c6]
   ~⟨none,_,nil,nil,rfl,fun _ z=>z.elim,fun x=>⟨.inl,fun z=>z.elim id id⟩,fun _ z=>z,ih⟩
 | d::ds,vs,h=>by
  B4 eY at h
  B3⟨y,ys,rfl,h1,h2⟩:=h
  rw[D3,D3,P0,P0]
  ~⟨some y,_,nil,nil,rfl,fun _ z=>z.elim,fun x=>⟨.inl,fun z=>z.elim id id⟩,⟨fun _ z=>z,y,rfl,h1⟩,Pq h2⟩
B5 Jh{K:aF}{H:Hp}{k:Nat}{ds:List D}{vs:List V}(h:eY K H ds vs):Rel K H (ds.map SD.fro++E4 k SD.no) (vs.map some++E4 k none) H:=by
 have g:aU H (out H nil):=fun x u e=>bA.mpr ⟨fun z=>z,e⟩
 ~⟨nil,Pq (g.TJ _ _ h),g⟩
B5 Raw.wX{P:Program}{w:World}{K:aF}{mg:Str→Option Value}{base:Heap}{x:Str}{st:Stmt}{N ps:List Str}{k:Nat}{g:GS}(R:Raw K mg x st)(S:bB N ps (aM st))
  (hb:∀(kV doc pm:Value)(an:Option Addr)(cdv ct:Value)(us:List Value),us.length=ps.length→bindArgs (F6 x x (fP st) (cH st) (aM st) .none kV doc pm an cdv ct) ⟨us,[]⟩=pure (ps.zip us))
  (hbody:∀(f:Addr)(cdv:Value)(A:Around)(outer:List Env)(s:Shared)(H:Hp)(E:XK),jR k (A.deeper (envOfC x (aM st) s.heap.objs.size f cdv)) →
   ∃t,YB K (Fv CZ P w K mg base N x (aM st) f cdv A outer s H E).ZK (cH st) t g):qL P w K mg base x (k+1) ps.length (iD K ps.length (pN N.length ps.length g)):=by
 &R.cal S (fun vs H Q E h=>?_) hb (fun f cdv A outer s H vs Q E hr h=>?_)
 ·B3⟨ds,d,h1,h2,_⟩:=h
  rw[h2.length];~h1
 B3⟨ds,d,h1,h2,h3,kk⟩:=h
 B3⟨t,yb⟩:=hbody f cdv A outer s H E hr
 &⟨t,yb.ps,yb.ev H _ _ H (ds.map SD.fro++E4 (N.length-ps.length) SD.no) ?_ ?_⟩
 ·have hl:vs.length=ps.length:=by rw[h2.length];~h1
  have:=Jh (k:=N.length-ps.length) h2
  B4 start
  rw[hl]
  ~this
 ·B4 pN at h3
  rw[if_pos h1]at h3
  cases q:g (ds.map SD.fro++E4 (N.length-ps.length) SD.no)with
  | ret d'=>
   rw[q]at h3
   cases h3
   &fun v H' A' s' o=>kk v H' (s'.trans (kW _ _)) ⟨A',o,fun a qa=>?_⟩
   cases e:H a with
   | none=>rfl
   | some u=>~absurd qa (bA.mp (s' a u e)).1
  | next env'=>
   rw[q]at h3
   cases h3
   &fun σ' H' ⟨A',_,s'⟩=>kk .non H' (s'.trans (kW _ _)) (.jK rfl (by B4 Rv;rfl))
  | brk env'=>rw[q]at h3;cases h3
  | cont env'=>rw[q]at h3;cases h3
  | bad=>rw[q]at h3;cases h3
  | rete d e=>rw[q]at h3;cases h3
end L2


namespace L2
open PySem PySem.Spec PyProof.Rows
section
variable{K:aF}{X:Cx}{e a b c:Expr}{es:List Expr}{t ta tb te:TE}{f g:FE}{tA:TA}{fs:FA}{pos:Pos}{i j:Nat}{π:FP}{st:Stmt}{gb:GS}{tc:TT}{fc:FT}
def zK(f:FE):FE:=fun e=>(f e).bind fun d=>match d with | .int i=>some (.int (-i)) | _=>none
B5 rP(ha:XR K X a ta f):XN K X (.UnaryOp .USub a pos) (tUn (rU fun i=>.int (-i)) ta) (zK f):=aFS ha
B5 di{tg elt iter:Expr}{ifs:List Expr}{scope:Scope}{spos py:Pos}{y:Str}{wi:TI}{fi:FA}{fe:FE}(N:List Str)(fr:List Nat)(hcalm:X.calm=true)(B:kO X.env.scope scope X.N N 1 fr)(hN:X.N.Nodup)(hy:X.N[i]?=some y)(hx:Loc X.env.scope y)(hi:XI K X tg iter wi fi)
  (hg:∀cl fp s H C,PG (lE X scope N cl fp s H C) tg (iR 0)) (hc:∀cl fp s H C,XTs K (lE X scope N cl fp s H C) ifs tc fc) (he:∀cl fp s H C,XN K (lE X scope N cl fp s H C) elt te fe)
  (hsw:swapsWith (.ListComp elt [⟨tg,iter,ifs,0⟩] scope pos) (some (.Name y py)) spos.line X.env=pure true:=by rfl)
  (hs:∀x,foldedSetIterable iter X.env x=pure x:=by intro _;rfl) (hf:X.fn y=true∨X.env.scope.names.lookup y=some .local:=by first | ~.inl rfl | ~.inr rfl | assumption) :
  YS K X (.Assign [.Name y py] (.ListComp elt [⟨tg,iter,ifs,0⟩] scope pos) spos) (uD (GJ wi 1 fr (iR 0) tc te) (iR i)) (dG i (gF fi fr fc fe)):=
 ⟨aC0 N 1 fr hcalm B hN hy hx hi.pi hg (fun cl fp s H C=>(hc cl fp s H C).pts) (fun cl fp s H C=>(he cl fp s H C).pe) hsw hs hf,aAL (cj hi.ev (hc [] [] X.s₀ X.H₀ 0).ev (he [] [] X.s₀ X.H₀ 0).ev)⟩
def EvJ(K:aF)(wi:TI)(fi:FA):Prop:=∀(σ:St)(H:Hp)(e:DE)(ds:List D)(R:It→Hp→Prop),yO K H e σ→fi e=some ds →
 (∀J H' P vs,aU H H'→JIs J P vs→(∀H2,P H2)→(∀Z,eY K Z ds vs)→R J H')→wi σ H R
structure XJ(K:aF)(X:Cx)(tg iter:Expr)(wi:TI)(fi:FA):Prop where
 pi:PI X tg iter wi
 ev:EvJ K wi fi
B5 Ji{tg:Expr}{p:Pos}(hg:Gl X "range") (hm:X.mg "range" = none) (ha:XA K X [a] tA fs) (hs:starEach [a] X.env=[(false,eval a X.env)]:=by rfl):XJ K X tg (.Call (.Name "range" p) [a] [] pos) (yx tA) (tD fs):=⟨Ug hg hm ha.pa hs,fun σ H e ds R re q k=>by
 B4 tD at q
 B3⟨es,q1,q2⟩:=aY q
 split at q2
 ·rename_i n
  split at q2
  ·rename_i hl
   cases q2
   have hl:=Yh hl
   &ha.ev σ H H e _ _ (Zn.self K H) re q1 fun vs H1 Z1 s1 t1 z1 rs=>?_
   B3⟨v,rfl,r⟩:=sZ rs
   B4 Rv at r
   subst r
   ~⟨n,rfl,by omega,by omega,k _ H1 _ _ s1 Iv (fun _=>True.intro) fun Z=>Jf 0 n.toNat⟩
  ·cases q2
 ·cases q2⟩
B5 aEv{tg:Expr}{p:Pos}(hp:PA X [a,b] tA→PI X tg (.Call (.Name "range" p) [a,b] [] pos) (yz tA)) (ha:XA K X [a,b] tA fs):XI K X tg (.Call (.Name "range" p) [a,b] [] pos) (yz tA) (Pg fs):=⟨ha.hk,hp ha.pa,fun σ H Z e ds R z re q k=>by
 B4 Pg at q
 B3⟨es,q1,q2⟩:=aY q
 split at q2
 ·rename_i i j
  split at q2
  ·rename_i hl
   cases q2
   have hl1:=Yh hl.1
   have hl2:=Yh hl.2
   &ha.ev σ H Z e _ _ z re q1 fun vs H1 Z1 s1 t1 z1 rs=>?_
   B3⟨v,w,rfl,r,r'⟩:=aAz rs
   B4 Rv at r r'
   subst r r'
   ~⟨i,j,rfl,⟨by omega,by omega,by omega,by omega⟩,k _ H1 Z1 _ _ s1 t1 z1 Iv (fun _ _=>True.intro) (Jf i (j-i).toNat)⟩
  ·cases q2
 ·cases q2⟩
def Dk(i:Nat)(fi:FA)(g:GS):GS:=fun env=>match fi (rE env)with
 | some xs=>Dy i g xs env
 | none=>.bad
B5 aDj{wi:TI}{fi:FA}{tb:TS}(hi:EvJ K wi fi)(h:DS K tb gb):DS K (Xf wi (iR i) tb) (Dk i fi gb):=fun B E σ H env r p=>by
 B4 Dk at p
 split at p
 ·rename_i xs q
  &hi σ H (rE env) xs _ r.r q fun J H1 P vs s hJ hP rvs=>?_
  have hl:=(rvs H).length
  &Mj hJ (fun k σ2 H2=>∃fH,Rel K B fH σ2 H2∧Pj K B E (Dy i gb (xs.drop k) fH)) ⟨env,r.same s,by simpa using p⟩ (fun k σ2 H2 _ _=>hP H2) ?_ ?_
  ·rintro k x σ2 H2 hx ⟨fH,r2,p2⟩
   have hk:k<xs.length:=by
    B3⟨h1,_⟩:=D1.mp hx
    omega
   rw[L6 hk]at p2
   B4 Dy at p2
   split at p2
   ·rename_i hlen
    B3⟨A2,a2,b2⟩:=r2
    B3⟨x',hx',rx⟩:=(rvs (out H2 A2)).get (B6 hk)
    rw[hx]at hx'
    cases hx'
    have r3:Rel K B (fH.set i (.fro xs[k])) (σ2.set i (some x)) H2:=Mu a2 b2 hlen (aU.refl _) (aU.refl _) (Ph a2) rx
    &h B _ _ H2 _ r3 ?_
    split at p2
    ·rename_i env' q2;rw[q2];~fun σ' H' r'=>⟨env',r',p2⟩
    ·rename_i env' q2;rw[q2];~fun σ' H' r'=>⟨env',r',p2⟩
    ·rename_i env' q2;rw[q2];~p2
    ·rename_i n1 n2 n3
     cases q2:gb (fH.set i (.fro xs[k]))with
     | next e=>~absurd q2 (n1 e)
     | cont e=>~absurd q2 (n2 e)
     | brk e=>~absurd q2 (n3 e)
     | ret d=>rw[q2]at p2;~p2
     | bad=>rw[q2]at p2;~p2
     | rete d e=>rw[q2]at p2;~p2
   ·~p2.elim
  ·rintro σ2 H2 ⟨fH,r2,p2⟩
   rw[hl,X1]at p2
   ~p2 σ2 H2 r2
 ·~p.elim
B5 Ym{tg iter:Expr}{body:List Stmt}{wi:TI}{fi:FA}{tb:TS}(hp:PassesOwn (model X.prog X.w) X.A X.env X.xe)(UW:X.calm=true)(hi:XJ K X tg iter wi fi)(hg:PG X tg (iR i))(hb:YB K X body tb gb)
  (hs:∀x,foldedSetIterable iter X.env x=pure x:=by intro _;rfl):YS K X (.For tg iter body [] pos) (Xf wi (iR i) tb) (Dk i fi gb):=⟨Xg hp UW hi.pi hg hb.ps hs,aDj hi.ev hb.ev⟩
B5 qw{m m':Str}{apos cpos aEw aEx:Pos}(he:XR K X e te f)(hp:PE X e te→PS X (.Expr (.Call (.Attribute a m apos) [.Call (.Attribute b m' aEw) [e] [] aEx] [] cpos) pos) (nD (Nu K "list" nT (qN i) (fY (Nu K "list" Xr (qN j) (fY te nG)) nG)))):YS K X (.Expr (.Call (.Attribute a m apos) [.Call (.Attribute b m' aEw) [e] [] aEx] [] cpos) pos) (nD (Nu K "list" nT (qN i) (fY (Nu K "list" Xr (qN j) (fY te nG)) nG))) (Bj i j f):=⟨hp he.pe,qp he.ev⟩
end
B5 VH{K:aF}{st:Stmt}{f:Addr}{fd:FuncData}(F:Fun K "law" "law" st f fd) (hb:∀(kV doc pm:Value)(an:Option Addr)(cdv ct:Value)(u:Value),bindArgs (F6 "law" "law" (fP st) (cH st) (aM st) .none kV doc pm an cdv ct) ⟨[u],[]⟩=pure [(("script" : Str),u)]):∀(s:Shared)(u:Value),BindsTo s fd ⟨[u],[]⟩ [("script", u)]:=by
 B3⟨oc,od,kV,doc,pm,an,cdv,ct,osl,rfl,lk,hcd⟩:=F.ex
 ~fun s u=>.of_eq (hb kV doc pm an cdv ct u)
B5 nJ{K:aF}{h:Heap}{mg:Str→Option Value}{x:Str}{i:Int}{t:Tok}(X:K.In h)(G:h.Ns mainGlobals mg)(a:R1 K mainGlobals x=some (some (.int i t))):iU mg x i:=⟨t,b8 X G a⟩
end L2


namespace L2
open PySem PySem.Spec PyProof.Rows
section
variable{K:aF}{X:Cx}{e a b c:Expr}{es:List Expr}{t ta tb te:TE}{f g:FE}{tA:TA}{fs:FA}{pos:Pos}{i j:Nat}{π:FP}{st:Stmt}
variable{lo hi:Option Expr}{tl th:TO}{fl fh:FO}{p2:Pos}
def aKd(a b:D):Option D:=match a,b with
 | .tup x,.tup y=>if D.gY x=true∧D.gY y=true∧x.length+y.length≤100000 then some (.tup (x++y))else none
 | _,_=>none
end
end L2


namespace L2
open PySem PySem.Spec PyProof.Rows
B5 bgo(xs:Array Nat)(j:Nat):∀(fuel lo hi:Nat),hi-lo≤fuel→lo≤hi→hi≤xs.size→xs.toList.Pairwise (·<·) →
  (∀i,i<lo→xs.getD i 0<j)→(∀i,hi≤i→i<xs.size→j≤xs.getD i 0) →
  SetTable.below.go xs j fuel lo hi≤xs.size∧(∀i,i<SetTable.below.go xs j fuel lo hi→xs.getD i 0<j)∧(∀i,SetTable.below.go xs j fuel lo hi≤i→i<xs.size→j≤xs.getD i 0)
 | 0,lo,hi,h1,h2,h3,up,h4,h5=>by
  B4 SetTable.below.go
  have e:lo=hi:=by omega
  subst e
  ~⟨h3,h4,h5⟩
 | fuel+1,lo,hi,h1,h2,h3,up,h4,h5=>by
  B4 SetTable.below.go
  have mono:∀a b,a<b→b<xs.size→xs.getD a 0<xs.getD b 0:=fun a b q q'=>by
   have:=I0.mp up a b (by simp;omega) (by simpa using q') q
   simp only[T8]at this
   simpa[O4,q',show a<xs.size by omega]using this
  split
  ·rename_i c
   have hm:(lo+hi)/2<xs.size:=by omega
   have e:xs.getD ((lo+hi)/2) j=xs.getD ((lo+hi)/2) 0:=by simp[O4,hm]
   dsimp only
   rw[e]
   by_cases c2:xs.getD ((lo+hi)/2) 0<j
   ·rw[if_pos c2]
    &bgo xs j fuel ((lo+hi)/2+1) hi A6 A6 h3 up (fun i hi'=>?_) h5
    rcases J8 i ((lo+hi)/2)with z | z
    ·have:=mono i _ z hm
     omega
    ·have z':i=(lo+hi)/2:=by omega
     subst z'
     ~c2
   ·rw[if_neg c2]
    &bgo xs j fuel lo ((lo+hi)/2) A6 A6 A6 up h4 fun i hi' hs=>?_
    rcases J8 ((lo+hi)/2) i with z | z
    ·have:=mono _ i z hs
     omega
    ·have z':i=(lo+hi)/2:=by omega
     subst z'
     omega
  ·have e:lo=hi:=by omega
   subst e
   ~⟨h3,h4,h5⟩
B5 below_at{xs:Array Nat}(up:xs.toList.Pairwise (·<·))(j:Nat) :
  SetTable.below xs j≤xs.size∧(∀i,i<SetTable.below xs j→xs.getD i 0<j)∧(∀i,SetTable.below xs j≤i→i<xs.size→j≤xs.getD i 0):=by
 B4 SetTable.below
 ~bgo xs j xs.size 0 xs.size A6 (N4 _) (C6 _) up (fun i h=>absurd h (L7 _)) fun i h h'=>by omega
def Led(b:Bool)(t:SetTable):Prop:=t.led=b∧(t.plain=true→t.place.toList.Pairwise (·<·)∧t.dummies=#[])
B5 Led.fresh(b:Bool):Led b (.fresh 0 0 b):=⟨rfl,fun _=>⟨by simp[SetTable.fresh],rfl⟩⟩
B5 Led.standIn{b:Bool}{t:SetTable}(h:Led b t)(n:Nat):Led b (t.standIn n):=⟨h.1,fun q=>by simp[SetTable.standIn]at q⟩
B5 Led.off{b:Bool}{t:SetTable}(h:Led b t):Led b {t with plain:=false}:=⟨h.1,fun q=>by simp at q⟩
B5 pgo{t:SetTable}(hd:t.dummies=#[]){g:Nat→Int}{h:Int}:∀(fuel:Nat)(p:SetTable.Probe)(j:Nat)(d:Option Nat),p.dummy=none→SetTable.probe.go t g h fuel p=some (.empty j d)→d=none∧t.slot j=.empty
 | 0,p,j,d,_,q=>by simp[SetTable.probe.go]at q
 | fuel+1,p,j,d,e,q=>by
  B4 SetTable.probe.go at q
  have adv:(t.advance p).dummy=none:=by
   B4 SetTable.advance
   split
   ·~e
   ·~e
  split at q
  ·rename_i c
   injection q with q
   injection q with q1 q2
   rw[←q1,←q2]
   ~⟨e,c⟩
  ·rename_i c
   exfalso
   B4 SetTable.slot at c
   dsimp only at c
   split at c
   ·cases c
   ·split at c
    ·rename_i z
     rw[hd]at z
     simp[SetTable.has]at z
    ·cases c
  ·split at q
   ·cases q
   ·~pgo hd fuel _ j d adv q
B5 Ve{t:SetTable}(hd:t.dummies=#[]){h:Int}{j:Nat}{w:Bool}(q:t.freeSlot h=some (j,w)):t.slot j=.empty∧w=false:=by
 B4 SetTable.freeSlot at q
 split at q
 ·rename_i j' d e
  B3⟨rfl,e2⟩:=pgo hd _ _ _ _ (by rfl) e
  simp at q
  B3⟨rfl,rfl⟩:=q
  ~⟨e2,rfl⟩
 ·cases q
B5 aAU{t:SetTable}(hd:t.dummies=#[])(up:t.place.toList.Pairwise (·<·)){j:Nat}(q:t.slot j=.empty):(t.put j).1.place.toList.Pairwise (·<·)∧(t.put j).1.dummies=#[]:=by
 B3⟨b1,b2,b3⟩:=below_at up j
 &⟨?_,?_⟩
 ·show (SetTable.insertAt t.place (SetTable.below t.place j) j).toList.Pairwise (·<·)
  rw[SetTable.toList_insertAt]
  have ne:t.place[SetTable.below t.place j]?≠some j:=fun z=>by
   B4 SetTable.slot at q
   dsimp only at q
   rw[z]at q
   simp at q
  have lo:∀x∈t.place.toList.take (SetTable.below t.place j),x<j:=fun x hx=>by
   B3⟨i,hi,rfl⟩:=J6 hx
   rw[J0]at hi
   have hs:i<t.place.size:=by simp at hi;omega
   have:=b2 i A6
   simpa[O4,hs]using this
  have hi:∀x∈t.place.toList.drop (SetTable.below t.place j),j<x:=fun x hx=>by
   B3⟨i,hi,rfl⟩:=J6 hx
   rw[O8,K3]at hi
   have hs:SetTable.below t.place j+i<t.place.size:=by omega
   have h1:=b3 (SetTable.below t.place j+i) A6 hs
   have e:(t.place.toList.drop (SetTable.below t.place j))[i]=t.place.getD (SetTable.below t.place j+i) 0:=by simp[O4,hs]
   rw[e]
   rcases V1 i with z | z
   ·subst z
    rcases J8 j (t.place.getD (SetTable.below t.place j+0) 0)with y | y
    ·~y
    ·&absurd ?_ ne
     have e2:t.place.getD (SetTable.below t.place j) 0=j:=by simp only[Nat.add_zero]at y h1;omega
     rw[N3 A6]
     simpa[O4,show SetTable.below t.place j<t.place.size by omega]using e2
   ·have h0:=b3 (SetTable.below t.place j) (C6 _) A6
    have:=I0.mp up (SetTable.below t.place j) (SetTable.below t.place j+i) (by simp;omega) (by simpa using hs) A6
    simp only[T8]at this
    have e3:t.place.getD (SetTable.below t.place j) 0<t.place.getD (SetTable.below t.place j+i) 0:=by simpa[O4,hs,show SetTable.below t.place j<t.place.size by omega]using this
    omega
  &K9.mpr ⟨up.sublist (O0 _ _),J3.mpr ⟨hi,up.sublist (i6 _ _)⟩,fun x hx y hy=>?_⟩
  have h1:=lo x hx
  rcases C9.mp hy with z | z
  ·omega
  ·have:=hi y z
   omega
 ·show (if SetTable.has t.dummies j then _ else t.dummies)=#[]
  rw[hd]
  simp[SetTable.has]
B5 Led.lay{b:Bool}{t:SetTable}(h:Led b t)(es:Array (Int×Value))(k:Int)(x:Value):Led b (layNew t es k x).2.1:=by
 B4 layNew
 split
 ·rename_i j w e
  dsimp only
  B4 SetTable.orStandIn
  split
  ·&⟨h.1,fun q=>?_⟩
   B3⟨u,d⟩:=h.2 q
   ~aAU d u (Ve d e).1
  ·~Led.standIn (t:=(t.put j).1) ⟨h.1,fun q=>by
    B3⟨u,d⟩:=h.2 q
    ~aAU d u (Ve d e).1⟩ _
 ·~h.standIn _
B5 aEy{β:Type}(f:Nat→Option β):∀l:List Nat,l.Pairwise (·<·)→((l.filterMap fun j=>(f j).map fun y=>(j,y)).map (·.1)).Pairwise (·<·)∧∀x∈((l.filterMap fun j=>(f j).map fun y=>(j,y)).map (·.1)),x∈l
 | [],_=>⟨.nil,fun x h=>by simp at h⟩
 | a::l,h=>by
  B3⟨h1,h2⟩:=J3.mp h
  B3⟨i1,i2⟩:=aEy f l h2
  rw[Q9]
  cases e:f a with
  | none=>~⟨i1,fun x hx=>C8 _ (i2 x hx)⟩
  | some y=>
   &⟨J3.mpr ⟨fun x hx=>h1 x (i2 x hx),i1⟩,fun x hx=>?_⟩
   rcases C9.mp hx with z | z
   ·~z▸D4
   ·~C8 _ (i2 x z)
B5 Led.aHM{b:Bool}{t:SetTable}(h:Led b t)(es:Array (Int×Value))(n:Nat):Led b (relayAll t es n).2.1:=by
 B4 relayAll
 split
 ·rename_i t' order e
  dsimp only
  split
  ·dsimp only
   B4 SetTable.relaid SetTable.laid at e
   B3⟨ow,e1,e2⟩:=aY e
   injection e2 with e2
   injection e2 with e3 e4
   rw[←e3]
   ~⟨h.1,fun _=>⟨by simpa using (aEy (fun j=>ow.getD j none) _ R9).1,rfl⟩⟩
  ·~h.standIn _
 ·~h.standIn _
B5 Ed{α:Type}:∀(l:List α)(i:Nat)(h:i<l.length),(l[i]::l.eraseIdx i).Perm l
 | [],i,h=>absurd h (by simp)
 | a::l,0,h=>Q3 _
 | a::l,i+1,h=>by
  have:=Ed l i (by simpa using h)
  simp only[List.getElem_cons_succ,M6]
  ~(m9 a _ _).trans (this.cons a)
B5 dm{α:Type}(next:Nat→Nat):∀(n:Nat)(left:List α)(k:Nat)(out:Array α),left.length=n→((pickOrder.go next n k left out).toList).Perm (out.toList++left)
 | 0,left,k,out,hn=>by
  have:left=[]:=L9 hn
  subst this
  simp[pickOrder.go]
 | n+1,left,k,out,hn=>by
  B4 pickOrder.go
  have hl:next k%left.length<left.length:=T9 _ A6
  rw[B6 hl]
  dsimp only
  &(dm next n (left.eraseIdx (next k%left.length)) (k+1) _ (by rw[V4 hl];omega)).trans ?_
  rw[i7,P8]
  ~Z7 _ (Ed _ _ hl)
B5 qy{α:Type}(next:Nat→Nat)(xs:Array α):(pickOrder next xs).toList.Perm xs.toList:=by
 have:=dm next xs.size xs.toList 0 #[] (by simp)
 simpa[pickOrder]using this
end L2


namespace L2
open PySem PySem.Spec PyProof.Rows
section
variable{prog:Program}{w:World}{A:Around}{E:Value→Shared→Prop}{s:Shared}{b:Bool}
def Ef(prog:Program)(w:World)(b:Bool)(h:Heap)(a:Addr)(S:Int→Bool)(n:Nat):Prop:=
 ∃o es ep t,h.get? a=some o∧o.ExactSet∧o.data=.set es ep t∧ElemsOf (intKind prog w) es.toList∧(∀k,S k=true↔∃e∈es.toList,(intKind prog w).is k e.2=true)∧es.size<scanBound∧t.fits es.size=true∧es.size=n∧Led b t
B5 Ef.at_{h h':Heap}{a:Addr}{S:Int→Bool}{n:Nat}(x:Ef prog w b h a S n)(e:∀o,h.get? a=some o→h'.get? a=some o):Ef prog w b h' a S n:=
 let ⟨o,es,ep,t,ho,r⟩:=x;⟨o,es,ep,t,e o ho,r⟩
B5 Ef.to{h:Heap}{a:Addr}{S S':Int→Bool}{n n':Nat}(x:Ef prog w b h a S n)(e:∀k,S k=S' k)(en:n=n'):Ef prog w b h a S' n':=by
 subst en
 have:S=S':=funext e
 rw[←this]
 ~x
B5 aEz{h:Heap}{a:Addr}{o:Obj}{es es':Array (Int×Value)}{ep:Nat}{t t':SetTable}{S':Int→Bool}(ho:h.get? a=some o)(hex:o.ExactSet)(hd:o.data=.set es ep t)(hel:ElemsOf (intKind prog w) es'.toList)
  (hm:∀k,S' k=true↔∃e∈es'.toList,(intKind prog w).is k e.2=true) (hz:es'.size<scanBound) (hf:t'.fits es'.size=true) (hl:Led b t') :
  (h.update a (Obj.putSet es' t')).get? a=some {o with data:=.set es' (ep+1) t'}∧Ef prog w b (h.update a (Obj.putSet es' t')) a S' es'.size:=
 have g:=(SetOf_store (knd:=intKind prog w) ho hex hd hel hm hz hf).1
 ⟨g,_,es',ep+1,t',g,hex,rfl,hel,hm,hz,hf,rfl,hl⟩
B5 aAV{g:Bool→Sem Unit}(hg:∀(c:Bool)(s₁:Shared)(Q':Unit→Shared→Prop),Q' () s₁→wpAny (model prog w) A (g c) Q' E s₁){a:Addr}{o:Obj}{es e1:Array (Int×Value)}{ep:Nat}{t t2:SetTable}{S':Int→Bool}
  (ho:s.heap.get? a=some o) (hex:o.ExactSet) (hd:o.data=.set es ep t) (hel:ElemsOf (intKind prog w) e1.toList) (hm:∀k,S' k=true↔∃e∈e1.toList,(intKind prog w).is k e.2=true) (hz:e1.size<scanBound) (hf:t2.fits e1.size=true) (hl:Led b t2)
  {wd:Bool} {R:Option Bool→Shared→Prop} (h:∀h',Heap.SameBut a s.heap h'→Ef prog w b h' a S' e1.size→R (some true) {s with heap:=h'}) :
  wpAny (model prog w) A (do
    storeSet a e1 t2
    if(!wd&&t2.tooFull)=true then do
      g (relayAll t2 e1 (SetTable.grown e1.size)).2.2
      storeSet a (relayAll t2 e1 (SetTable.grown e1.size)).1 (relayAll t2 e1 (SetTable.grown e1.size)).2.1
      pure (some true)
     else pure (some true)) R E s:=by
 B3⟨g1,s1⟩:=aEz (prog:=prog) (w:=w) ho hex hd hel hm hz hf hl
 &wpAny_bind (wpAny_storeSet_of ho hd ?_ (fits_of_scanBound hz))
 have sb:=Heap.SameBut.update s.heap a (Obj.putSet e1 t2)
 split
 ·have pm:=relayAll_perm t2 e1 (SetTable.grown e1.size)
  have ff:=relayAll_fits t2 e1 (SetTable.grown e1.size)
  have ll:=hl.aHM e1 (SetTable.grown e1.size)
  have sz:(relayAll t2 e1 (SetTable.grown e1.size)).1.size=e1.size:=by rw[←K3,pm.length_eq,K3]
  have zz:(relayAll t2 e1 (SetTable.grown e1.size)).1.size<scanBound:=by rw[sz];~hz
  &wpAny_bind (hg _ _ _ (wpAny_bind (wpAny_storeSet_of g1 rfl ?_ (fits_of_scanBound zz))))
  B3⟨_,s2⟩:=aEz (prog:=prog) (w:=w) (S':=S') g1 hex rfl (hel.perm pm) (fun k=>(hm k).trans ⟨fun⟨e,he,q⟩=>⟨e,pm.mem_iff.mpr he,q⟩,fun⟨e,he,q⟩=>⟨e,pm.mem_iff.mp he,q⟩⟩) zz ff ll
  rw[sz]at s2
  ~wpAny_pure (h _ (sb.trans (Heap.SameBut.update _ a _)) s2)
 ·~wpAny_pure (h _ sb s1)
B5 aHN{a:Addr}{S:Int→Bool}{n:Nat}{k:Int}{tk:Tok}{Q:Bool→Shared→Prop}(hS:Ef prog w b s.heap a S n)(room:n+1<scanBound)
  (h:∀h',Heap.SameBut a s.heap h'→Ef prog w b h' a (fun j=>S j||decide (j=k)) (if S k then n else n+1)→Q (!S k) {s with heap:=h'}) :
  wpAny (model prog w) A (setAddHashed a (.int k tk) ((intKind prog w).hash k)) Q E s:=by
 B3⟨o,es,ep,t,ho,hex,hd,hel,hm,hb,hf,hn,hl⟩:=hS
 have key:(intKind prog w).is k (.int k tk)=true:=intKind_is _ _ _ _
 have sc:(Value.int k tk).scannable=true:=rfl
 B4 setAddHashed setAddHashedIn
 &wpAny_holding (wpAny_bind (wpAny_setState_of ho hd hf ?_))
 dsimp only
 rw[byScan_of sc hb hel]
 simp only[↓reduceIte]
 B4 setAddByScan
 &wpAny_bind (wpAny_bind (wpAny_rule (wpAny_bind (wpAny_setScan_of key ho hd hf hel ?_))))
 cases hr:List.findIdx? (fun e=>(intKind prog w).is k e.2) es.toList with
 | some j=>
  dsimp only
  B3⟨hj,pj,_⟩:=List.findIdx?_eq_some_iff_getElem.mp hr
  have hk:S k=true:=(hm k).mpr ⟨es.toList[j],O9 hj,pj⟩
  have z:=h s.heap (Heap.SameBut.refl a s.heap) ⟨o,es,ep,t,ho,hex,hd,hel,fun j=>by
   rw[l3,decide_eq_true_eq,←hm j]
   ~⟨fun q=>q.elim id fun e=>by rw[e];~hk,.inl⟩,hb,hf,by rw[hk];~hn,hl⟩
  rw[hk]at z
  ~wpAny_pure (wpAny_pure z)
 | none=>
  dsimp only
  have hk:S k=false:=by
   cases e:S k with
   | false=>rfl
   | true=>
    B3⟨x,hx,px⟩:=(hm k).mp e
    have:=List.findIdx?_eq_none_iff.mp hr x hx
    rw[px]at this
    cases this
  have hgw:∀(c:Bool) {s₁:Shared} {Q':Unit→Shared→Prop},Q' () s₁→wpAny (model prog w) A (match c with | true=>rule "set.scan.the-table-gave-way" | false=>pure ()) Q' E s₁:=fun c s₁ Q' q=>by
   cases c
   ·~wpAny_pure q
   ·~wpAny_rule q
  have pm:=layNew_perm t es ((intKind prog w).hash k) (.int k tk)
  have ff:=layNew_fits t es ((intKind prog w).hash k) (.int k tk)
  have ll:=hl.lay es ((intKind prog w).hash k) (.int k tk)
  generalize layNew t es ((intKind prog w).hash k) (.int k tk)=Y at pm ff ll ⊢
  B3⟨e1,t1,wd,gave⟩:=Y
  dsimp only at pm ff ll ⊢
  rw[i7]at pm
  have sz:e1.size=n+1:=by rw[←K3,pm.length_eq,C7,K3,hn];rfl
  have zz:e1.size<scanBound:=by omega
  have el1:=(hel.push key sc).perm pm
  have m1:=mem_push_iff (k:=k) key hm pm
  &wpAny_bind (hgw _ ?_)
  have fin:∀h',Heap.SameBut a s.heap h'→Ef prog w b h' a (fun j=>S j||decide (j=k)) e1.size→Q true {s with heap:=h'}:=fun h' q1 q2=>by
   have z:=h h' q1
   rw[hk]at z
   rw[sz]at q2
   ~z q2
  split
  ·rw[hashByValue_scannable 8 sc]
   &wpAny_bind (wpAny_pure ?_)
   &aAV (b:=b) (fun c s₁ Q' q=>hgw c q) ho hex hd el1 m1 zz ?_ ?_ fun h' q1 q2=>?_
   ·split
    ·~ff
    ·~SetTable.fits_plain_off ff
   ·split
    ·~ll
    ·~ll.off
   ·dsimp only
    ~wpAny_pure (fin h' q1 q2)
  ·&wpAny_bind (wpAny_pure ?_)
   simp only[↓reduceIte]
   &aAV (b:=b) (fun c s₁ Q' q=>hgw c q) ho hex hd el1 m1 zz ff ll fun h' q1 q2=>?_
   dsimp only
   ~wpAny_pure (fin h' q1 q2)
end
section
variable{prog:Program}{w:World}{A:Around}{R:Result→Shared→Prop}{I:Addr}{fp wr:List Addr}{G:Array GenState→Array GenState→Prop}{n:Nat}{P:Nat→Value→Prop}{St:Nat→Shared→Prop}{b:Bool}
abbrev VJ(prog:Program)(w:World)(b:Bool)(h:Heap)(a:Addr)(val:Nat→Int)(i:Nat):Prop:=Ef prog w b h a (fun k=>(firstMet val i).any (·==k)) (firstMet val i).length
B5 aF0(W:WalksS prog w A.in1 I fp wr G n P St)(a:Addr)(hf:a∉fp)(val:Nat→Int)(hval:∀i v,P i v→∃t,v=.int (val i) t)(hz:n+1<scanBound) :
  ∀(m i:Nat)(s:Shared),n-i=m→i≤n→St i s→VJ prog w b s.heap a val i→(∀s',Moved (a::wr) G s s'→VJ prog w b s'.heap a val n→R (.ok (.ret .none)) s') →
   codeAny (model prog w) A (.builtin "set.update.loop" ⟨[.ref a,.ref I],[]⟩) R s:=by
 have hw:a∉wr:=fun z=>hf (W.sub _ z)
 have sub:∀c∈wr,c∈a::wr:=fun c hc=>C8 _ hc
 intro m
 induction m with
 | zero=>
  intro i s hk hi hst hS hR
  have e:i=n:=by omega
  subst e
  &codeAny_builtin R3 ?_
  rw[Around.under_plainId O2 _]
  show wpAny _ A.in1 (pyNext (.ref I) >>= _) _ _ s
  &wpAny_bind (W.done s _ _ hst fun s' mv=>?_)
  show wpAny _ A.in1 (ret Value.none) _ _ s'
  ~wpAny_pure (hR s' (mv.mono sub) (hS.at_ fun o e=>mv.heap a o hw e))
 | succ m ih=>
  intro i s hk hi hst hS hR
  have lt:i<n:=by omega
  &codeAny_builtin R3 ?_
  rw[Around.under_plainId O2 _]
  show wpAny _ A.in1 (pyNext (.ref I) >>= _) _ _ s
  &wpAny_bind (W.item i s _ _ lt hst fun v s1 hP st1 mv=>?_)
  B3⟨tk,rfl⟩:=hval i v hP
  have S1:VJ prog w b s1.heap a val i:=hS.at_ fun o e=>mv.heap a o hw e
  show wpAny _ A.in1 (holding [Value.int (val i) tk] (setAdd a (.int (val i) tk)) >>= _) _ _ s1
  B4 setAdd
  &wpAny_bind (wpAny_holding (wpAny_holding (wpAny_bind ((intKind prog w).pyHash (k:=val i) (intKind_is _ _ _ _) ?_))))
  have room:(firstMet val i).length+1<scanBound:=by have:=firstMet_length_le val i;omega
  &aHN (s:={s1 with toks:=s1.toks+1}) S1 room fun h' sb S2=>?_
  have S3:VJ prog w b h' a val (i+1):=S2.to (fun j=>by rw[firstMet_succ,step_any]) (by rw[firstMet_succ,step_length])
  &wpAny_pure ⟨plainId_quiet O2 _,ih (i+1) _ A6 lt (W.frame _ s1 _ _ st1 (N5 _) fun c hc o e=>?_) S3 fun s2 mv2 S4=>?_⟩
  ·rw[sb.2 c fun z=>hf (by rw[←z];~hc)]
   ~e
  ·&hR s2 (Moved.trans W.gtrans ((mv.mono sub).then_heap (N5 _) fun c o hc e=>?_) mv2) S4
   rw[sb.2 c fun z=>hc (by rw[z];~D4)]
   ~e
end
end L2


namespace L2
open PySem PySem.Spec PyProof.Rows
section
variable{prog:Program}{w:World}{A:Around}{E:Value→Shared→Prop}{s:Shared}
abbrev vB(b:Bool):Obj:={cls:=.type "set", dict:=none,data:=.set #[] 0 (.fresh 0 0 b)}
abbrev vC(w:World):Bool:=!w.params.followText "set-order"
B5 aHO(a:Value){Q:Value→Shared→Prop}(h:Q (.ref s.heap.objs.size) {s with heap:=s.heap.push (vB (vC w))}) :
  codeAny (model prog w) A (.call (.builtin "set.__new__") ⟨[.type "set", a],[]⟩) (wants Q E) s:=by
 &codeAny_of_tree ?_
 show wpAny _ A.in1 (checkBuiltinCall "set.__new__" ⟨[.type "set", a],[]⟩ >>= fun _=>again (.builtin "set.__new__" ⟨[.type "set", a],[]⟩)) _ _ s
 &wpAny_bind (wpAny_of_eq (PySem.F.newCall_set_1 a) (wpAny_pure ⟨plainId_quiet Z8 _,codeAny_builtin PySem.F.entry_set_new ?_⟩))
 rw[Around.under_plainId Z8 _]
 B4 Builtin.«set.__new__» Builtin.Frozenset.newClass
 have sub:=sub_set_self
 B3⟨hp,g,d,tk,os⟩:=s
 dsimp only
 wp_walk
 &wpAny_askSetting (wpAny_pure ?_)
 dsimp only
 simp only[newObj]
 ~wpAny_bind (wpAny_alloc (wpAny_pure (wpAny_pure h)))
B5 aDk(b:Bool){h:Heap}{a:Addr}{val:Nat→Int}(e:h.get? a=some (vB b)):VJ prog w b h a val 0:=
 ⟨_,#[],0,_,e,⟨rfl,rfl,rfl⟩,rfl,fun x hx=>by simp at hx,fun k=>by simp[firstMet_zero],by decide,by rfl,rfl,Led.fresh b⟩
B5 aEA{l:Addr}{its:Array Value}{ns:List Int}{Q:Value→Shared→Prop}(hh:A.handled=none)(hl:s.heap.IsList l its)(hi:IntsAre its.toList ns)(hz:its.size+1<scanBound)
  (h:∀(h':Heap)(tk:Nat),VJ prog w (vC w) h' s.heap.objs.size (fun i=>ns.getD i 0) its.size→(∀b o,s.heap.get? b=some o→h'.get? b=some o)→Q (.ref s.heap.objs.size) {s with heap:=h',toks:=tk}) :
  wpAny (model prog w) A (call (.type "set") [.ref l]) Q E s:=by
 B3⟨c,tl,hmro⟩:=M4.mro
 have hmade:=M4.made
 have hsub:=M4.sub
 &wpAny_call (codeAny_of_tree ?_)
 show wpAny _ _ (callAny (.type "set") _) _ _ _
 &wpAny_pure ⟨Code.quiet_builtin _ A7,codeAny_builtin PySem.F.entry_type_call ?_⟩
 rw[Around.under_plain (weight_type_call_type "set" [.ref l] []) rfl]
 have h1:=M4.notType
 have h2:=M4.canCreate
 have hct:=PySem.F.typeCall_set_1 (.ref l)
 repeat (any_goals (first | assumption | wp_step))
 &codeAny_mono (aHO (.ref l) (E:=E) (Q:=fun v s1=>v=.ref s.heap.objs.size∧s1={s with heap:=s.heap.push (vB (vC w))}) ⟨rfl,rfl⟩) fun r s1 hr=>?_
 cases r with
 | error e=>~hr
 | ok fl=>
  cases fl with
  | ret obj=>
   B3⟨rfl,rfl⟩:=hr
   have g0:(s.heap.push (vB (vC w))).get? s.heap.objs.size=some (vB (vC w)):=Heap.get?_push_size _ rfl
   have hT:Shared.TypeIs {s with heap:=s.heap.push (vB (vC w))} (.ref s.heap.objs.size) "set" := ⟨_,g0,rfl⟩
   have hli:=M4.init.lookup
   have hbi:=M4.init.bind (.ref s.heap.objs.size)
   repeat (any_goals (first | assumption | wp_step))
   &codeAny_mono (codeAny_call_builtin (R:=wants (fun r s2=>r=.none∧∃h' tk,s2={s with heap:=h',toks:=tk}∧VJ prog w (vC w) h' s.heap.objs.size (fun i=>ns.getD i 0) its.size∧(∀b o,s.heap.get? b=some o→h'.get? b=some o)) E) M4.init.plain PySem.F.entry_set_init (check_set_init_1 hT ?_)) fun r2 s2 hr2=>?_
   ·B3⟨ol,hol,hcl,nl,hdl⟩:=hl
    B3⟨ocls,odict,odata,oslots⟩:=ol
    simp only at hcl hdl
    subst hcl hdl
    have hol':(s.heap.push (vB (vC w))).get? l=some {cls:=.type "list", dict:=odict,data:=.seq its nl,slots:=oslots}:=Heap.get?_push_of_some _ hol
    have q1:=PySem.F.sub_list_set
    have q2:=PySem.F.sub_list_frozenset
    have q3:(Value.type "list" == Value.type "dict")=false:=by decide
    have L1:(s.heap.push (vB (vC w))).IsList l its:=⟨_,hol',rfl,nl,rfl⟩
    B4 Builtin.«set.__init__» noKeywords Builtin.Frozenset.updateFrom
    generalize hPI:pyIter=PI
    wp_walk
    subst hPI
    &wpAny_pyIter_list L1 (wpAny_bind (wpAny_runValue ?_))
    have lt:=Heap.lt_size hol
    have hh3:A.in1.in1.in1.handled=none:=by simp[hh]
    have ne:l≠(s.heap.push (vB (vC w))).objs.size:=by rw[Heap.size_push];~E5 (M7 lt)
    have nf:s.heap.objs.size∉[(s.heap.push (vB (vC w))).objs.size,l]:=by
     rw[Heap.size_push]
     intro z
     rcases C9.mp z with z | z
     ·~absurd z (E5 (M0 _))
     ·~absurd (E3.mp z) (O6 lt)
    have hval:∀(i:Nat)(v:Value),its[i]?=some v→∃t,v=.int ((fun i=>ns.getD i 0) i) t:=fun i v hv=>hi.int_at i v (by rw[L8];~hv)
    &aF0 ((Walks.list hh3 _ l ne its).toS) s.heap.objs.size nf (fun i=>ns.getD i 0) hval hz (its.size-0) 0 _ A6 (N4 _) ⟨⟨_,Heap.get?_push_size _ rfl,rfl,rfl⟩,(L1.push _)⟩ (aDk (vC w) (Heap.get?_push_of_some _ g0)) fun s' mv S'=>?_
    B3⟨h',g',d',tk',os'⟩:=s'
    have eg:g'=s.gens:=mv.gens
    have ed:d'=s.drawn:=mv.drawn
    have eo:os'=s.os:=mv.os
    subst eg ed eo
    show wpAny _ _ _ _ _ _
    &wpAny_pure ?_
    show wpAny _ _ (ret Value.none) _ _ _
    &wpAny_pure ⟨rfl,h',tk',rfl,S',fun b o e=>?_⟩
    have lb:=Heap.lt_size e
    &mv.heap b o (fun z=>?_) (Heap.get?_push_of_some _ (Heap.get?_push_of_some _ e))
    rcases C9.mp z with z | z
    ·~absurd z (E5 lb)
    ·have:=E3.mp z
     rw[Heap.size_push]at this
     ~absurd this (E5 (M7 lb))
   ·cases r2 with
    | error e=>~hr2
    | ok f2=>
     cases f2 with
     | ret r=>
      B3⟨rfl,h',tk,rfl,S',kp⟩:=hr2
      repeat (any_goals (first | assumption | wp_step))
      ~h _ _ S' kp
     | _=>~hr2.elim
  | _=>~hr.elim
end
end L2


namespace L2
open PySem PySem.Spec PyProof.Rows
B5 aAW:Manifest.owners.lookup (String.ofList ['r','o','t','a','r','e','t','i','_','t','e','s'].reverse)=some Manifest.sig_set_iterator:=by kernel_rfl
B5 oZ:Slot "set_iterator" "__next__" "set_iterator.__next__" := Slot.of (owner := "set_iterator") (n := "__next__") (by rw[typeLookup_type,builtinLookup_eq_fast];kernel_rfl) A7 A7 A7 (by first | ~.inl A7 | ~.inr A7) (by rw[isSubtype_type];kernel_rfl)
B5 Bk:entryFor table "set_iterator.__next__" = some Builtin.«set_iterator.__next__»:=entryFor_of_tree (by kernel_rfl)
B5 Bl(a:Value):argsOk "set_iterator.__next__" ⟨[a],[]⟩:=by
 B4 argsOk;rw[signature?_of (id := "set_iterator.__next__") (n:=['_','_','t','x','e','n','_','_']) (o:=['r','o','t','a','r','e','t','i','_','t','e','s']) (by kernel_rfl) aAW];kernel_rfl
B5 dq:Slot "set_iterator" "__iter__" "set_iterator.__iter__" := Slot.of (owner := "set_iterator") (n := "__iter__") (by rw[typeLookup_type,builtinLookup_eq_fast];kernel_rfl) A7 A7 A7 (by first | ~.inl A7 | ~.inr A7) (by rw[isSubtype_type];kernel_rfl)
B5 qz(a:Value):argsOk "set_iterator.__iter__" ⟨[a],[]⟩:=by
 B4 argsOk;rw[signature?_of (id := "set_iterator.__iter__") (n:=['_','_','r','e','t','i','_','_']) (o:=['r','o','t','a','r','e','t','i','_','t','e','s']) (by kernel_rfl) aAW];kernel_rfl
B5 rm:entryFor table "set_iterator.__iter__" = some Builtin.«dict_keyiterator.__iter__»:=entryFor_alias (id' := "dict_keyiterator.__iter__") (by kernel_rfl) (by first | rfl | decide +kernel | (B4 String.splitOn;simp +decide [String.splitOnAux])) A7 (by kernel_rfl)
B5 rn:entryFor table "set.__iter__" = some Builtin.«frozenset.__iter__»:=entryFor_alias (id' := "frozenset.__iter__") (by kernel_rfl) rfl A7 (by kernel_rfl)
def du(h:Heap)(I:Addr)(f:Value)(i:Nat)(a:Addr)(n ep:Nat):Prop:=∃o,h.get? I=some o∧o.cls=.type "set_iterator" ∧ o.data=.fields #[f,.int (i:Int) 0,.ref a,.int (n:Int) 0,.int (ep:Int) 0]
def VL(h:Heap)(a:Addr)(es:Array (Int×Value))(ep:Nat)(t:SetTable):Prop:=∃o,h.get? a=some o∧o.cls=.type "set" ∧ o.data=.set es ep t∧t.fits es.size=true
B5 du.at_{h h':Heap}{I a:Addr}{f:Value}{i n ep:Nat}(x:du h I f i a n ep)(e:∀o,h.get? I=some o→h'.get? I=some o):du h' I f i a n ep:=let ⟨o,ho,r⟩:=x;⟨o,e o ho,r⟩
B5 VL.at_{h h':Heap}{a:Addr}{es:Array (Int×Value)}{ep:Nat}{t:SetTable}(x:VL h a es ep t)(e:∀o,h.get? a=some o→h'.get? a=some o):VL h' a es ep t:=let ⟨o,ho,r⟩:=x;⟨o,e o ho,r⟩
section
variable{prog:Program}{w:World}{A:Around}{E:Value→Shared→Prop}{s:Shared}{I a T:Addr}{f:Value}{i n ep:Nat}{es:Array (Int×Value)}{t:SetTable}
B5 du.ty(x:du s.heap I f i a n ep):s.TypeIs (.ref I) "set_iterator" := let ⟨o,ho,hc,_⟩:=x;⟨o,ho,hc⟩
B5 VL.ty(x:VL s.heap a es ep t):s.TypeIs (.ref a) "set" := let ⟨o,ho,hc,_⟩:=x;⟨o,ho,hc⟩
B5 dw{Q:Value→Shared→Prop}(x:du s.heap I f i a n ep)(h:Q (.ref I) s):wpAny (model prog w) A (pyIter (.ref I)) Q E s:=by
 &wpAny_pyIter_slot x.ty dq (wpAny_call_entry dq x.ty rm ?_ (qz _))
 show wpAny _ _ (ret (.ref I)) _ _ s
 ~wpAny_pure ⟨_,rfl, "set_iterator", _,x.ty,oZ.lookup,h⟩
B5 JC{α:Type}{h1:Heap}{Q0:α→Shared→Prop}{E':Value→Shared→Prop}(hh:A.handled=none)(hQ:∀(v:Value) h',Shared.TypeIs {s with heap:=h'} v "StopIteration" → (∀b o,h1.get? b=some o→h'.get? b=some o)→E' v {s with heap:=h'}) :
  wpAny (model prog w) A.in1 (newExc (.type "StopIteration") [] >>= fun e=>(raiseNew e:Sem α)) Q0 E' {s with heap:=h1}:=by
 &wpAny_bind ?_
 simp only[newExc,newTuple]
 &wpAny_bind (wpAny_newObj_type (wpAny_bind (m:=firstArgMember _ _) (wpAny_of_eq (a:=Value.none) (by first | rfl | (simp only[firstArgMember];rfl)) (wpAny_newObj_type ?_ (by size_fits)))) (by size_fits))
 simp only[raiseNew]
 &wpAny_bind (wpAny_handled ?_)
 rw[show A.in1.handled=none from hh]
 &wpAny_bind (wpAny_pure (wpAny_throw ?_))
 &hQ (.ref _) _ ?_ fun b o e=>Heap.get?_push_of_some _ (Heap.get?_push_of_some _ e)
 ~⟨_,Heap.get?_push_size _ rfl,rfl⟩
B5 aDl{slot nxt:Nat}{x:Value}{Q:Option Value→Shared→Prop}(hit:du s.heap I (.int (slot:Int) 0) i a es.size ep)(hs:VL s.heap a es ep t)
  (hN:∀(Q':Option (Value×Nat)→Shared→Prop) E',Q' (some (x,nxt)) s→wpAny (model prog w) A.in1 (setNext a slot i ep) Q' E' s)
  (hQ:∀h',du h' I (.int (nxt:Int) 0) (i+1) a es.size ep→Heap.SameBut I s.heap h'→Q (some x) {s with heap:=h'}):wpAny (model prog w) A (pyNext (.ref I)) Q E s:=by
 B3⟨o,ho,hc,hd⟩:=id hit
 B3⟨oa,ha,_,hda,hf⟩:=id hs
 B4 pyNext
 &wpAny_bind (wpAny_attempt (wpAny_callSpecial?_slot (name:=Str.ofString "__next__") hit.ty oZ (wpAny_call_entry oZ hit.ty Bk ?_ (Bl _))))
 B4 Builtin.«set_iterator.__next__»
 &wpAny_bind (wpAny_of_eq (a:=(Value.ref I,[])) rfl ?_)
 dsimp only
 &wpAny_bind (wpAny_fieldsOf ho hd ?_)
 dsimp only
 &wpAny_bind (wpAny_setEntries_of ha hda hf ?_)
 rw[if_neg (by simp)]
 dsimp only[D7]
 &wpAny_bind (hN _ _ ?_)
 dsimp only
 &wpAny_bind (wpAny_setField ho hd (by simp) ?_)
 have g1:=Heap.get?_update_self (Obj.mapFields (·.setIfInBounds 0 (rawInt (nxt:Int)))) ho (Obj.isFreed_of_fields (Obj.data_mapFields hd _))
 have d1:=Obj.data_mapFields hd (·.setIfInBounds 0 (rawInt (nxt:Int)))
 &wpAny_bind (wpAny_setField g1 d1 (by simp) (wpAny_pure ⟨x,rfl,wpAny_pure (hQ _ ?_ ((Heap.SameBut.update ..).trans (Heap.SameBut.update ..)))⟩))
 &⟨_,Heap.get?_update_self _ g1 (Obj.isFreed_of_fields (Obj.data_mapFields d1 _)),(Obj.cls_mapFields ..).trans ((Obj.cls_mapFields ..).trans hc),?_⟩
 rw[Obj.data_mapFields d1]
 simp[rawInt]
B5 aF1{slot:Nat}{Q:Option Value→Shared→Prop}(hh:A.handled=none)(hit:du s.heap I (.int (slot:Int) 0) i a es.size ep)(hs:VL s.heap a es ep t)
  (hN:∀(Q':Option (Value×Nat)→Shared→Prop) E',Q' none s→wpAny (model prog w) A.in1 (setNext a slot i ep) Q' E' s)
  (hQ:∀h',(∀b o,b≠I→s.heap.get? b=some o→h'.get? b=some o)→Q none {s with heap:=h'}):wpAny (model prog w) A (pyNext (.ref I)) Q E s:=by
 B3⟨o,ho,hc,hd⟩:=id hit
 B3⟨oa,ha,_,hda,hf⟩:=id hs
 B4 pyNext
 &wpAny_bind (wpAny_attempt (wpAny_callSpecial?_slot (name:=Str.ofString "__next__") hit.ty oZ (wpAny_call_entry oZ hit.ty Bk ?_ (Bl _))))
 B4 Builtin.«set_iterator.__next__»
 &wpAny_bind (wpAny_of_eq (a:=(Value.ref I,[])) rfl ?_)
 dsimp only
 &wpAny_bind (wpAny_fieldsOf ho hd ?_)
 dsimp only
 &wpAny_bind (wpAny_setEntries_of ha hda hf ?_)
 rw[if_neg (by simp)]
 dsimp only[D7]
 &wpAny_bind (hN _ _ ?_)
 dsimp only
 &wpAny_bind (wpAny_setField ho hd (by simp) ?_)
 &JC hh fun v h' ty kp=>wpAny_bind (wpAny_isInstance ty isSubtype_stop ?_)
 ~wpAny_pure (hQ h' fun b o nb e=>kp b o ((Heap.SameBut.update s.heap I _).extBut b o nb e))
B5 aDm{ps:Array Value}{c p:Nat}{tk:Tok}{hx:Int}{x:Value}{oT:Obj}{Q:Option Value→Shared→Prop}(hit:du s.heap I (.ref T) i a es.size ep)(hs:VL s.heap a es ep t)(hT:s.heap.get? T=some oT)(hTd:oT.data=.seq ps c)(hp:ps[i]?=some (.int (p:Int) tk))(he:es[p]?=some (hx,x))
  (hQ:∀h',du h' I (.ref T) (i+1) a es.size ep→Heap.SameBut I s.heap h'→Q (some x) {s with heap:=h'}):wpAny (model prog w) A (pyNext (.ref I)) Q E s:=by
 B3⟨o,ho,hc,hd⟩:=id hit
 B3⟨oa,ha,_,hda,hf⟩:=id hs
 B4 pyNext
 &wpAny_bind (wpAny_attempt (wpAny_callSpecial?_slot (name:=Str.ofString "__next__") hit.ty oZ (wpAny_call_entry oZ hit.ty Bk ?_ (Bl _))))
 B4 Builtin.«set_iterator.__next__»
 &wpAny_bind (wpAny_of_eq (a:=(Value.ref I,[])) rfl ?_)
 dsimp only
 &wpAny_bind (wpAny_fieldsOf ho hd ?_)
 dsimp only
 &wpAny_bind (wpAny_setEntries_of ha hda hf ?_)
 rw[if_neg (by simp)]
 dsimp only[D7]
 &wpAny_bind (wpAny_seqItems hT hTd ?_)
 dsimp only
 rw[hp]
 dsimp only[D7]
 B4 setNextDrawn
 &wpAny_bind (wpAny_bind (wpAny_setState_of ha hda hf ?_))
 dsimp only
 rw[if_neg (by simp),he]
 dsimp only
 &wpAny_pure (wpAny_bind (wpAny_setField ho hd (by simp) (wpAny_pure ⟨x,rfl,wpAny_pure (hQ _ ?_ (Heap.SameBut.update ..))⟩)))
 &⟨_,Heap.get?_update_self _ ho (Obj.isFreed_of_fields (Obj.data_mapFields hd _)),(Obj.cls_mapFields ..).trans hc,?_⟩
 rw[Obj.data_mapFields hd]
 simp[rawInt]
B5 aF2{ps:Array Value}{c:Nat}{oT:Obj}{Q:Option Value→Shared→Prop}(hh:A.handled=none)(hit:du s.heap I (.ref T) i a es.size ep)(hs:VL s.heap a es ep t)(hT:s.heap.get? T=some oT)(hTd:oT.data=.seq ps c)(hp:ps[i]?=none)
  (hQ:∀h',(∀b o,b≠I→s.heap.get? b=some o→h'.get? b=some o)→Q none {s with heap:=h'}):wpAny (model prog w) A (pyNext (.ref I)) Q E s:=by
 B3⟨o,ho,hc,hd⟩:=id hit
 B3⟨oa,ha,_,hda,hf⟩:=id hs
 B4 pyNext
 &wpAny_bind (wpAny_attempt (wpAny_callSpecial?_slot (name:=Str.ofString "__next__") hit.ty oZ (wpAny_call_entry oZ hit.ty Bk ?_ (Bl _))))
 B4 Builtin.«set_iterator.__next__»
 &wpAny_bind (wpAny_of_eq (a:=(Value.ref I,[])) rfl ?_)
 dsimp only
 &wpAny_bind (wpAny_fieldsOf ho hd ?_)
 dsimp only
 &wpAny_bind (wpAny_setEntries_of ha hda hf ?_)
 rw[if_neg (by simp)]
 dsimp only[D7]
 &wpAny_bind (wpAny_seqItems hT hTd ?_)
 dsimp only
 rw[hp]
 dsimp only
 &wpAny_bind (wpAny_setField ho hd (by simp) ?_)
 have g1:=Heap.get?_update_self (Obj.mapFields (·.setIfInBounds 0 (rawInt 0))) ho (Obj.isFreed_of_fields (Obj.data_mapFields hd _))
 have d1:=Obj.data_mapFields hd (·.setIfInBounds 0 (rawInt 0))
 &wpAny_bind (wpAny_setField g1 d1 (by simp) ?_)
 &JC hh fun v h' ty kp=>wpAny_bind (wpAny_isInstance ty isSubtype_stop ?_)
 ~wpAny_pure (hQ h' fun b o nb e=>kp b o (((Heap.SameBut.update s.heap I _).trans (Heap.SameBut.update _ I _)).extBut b o nb e))
B5 aF3{slot:Nat}{Q:Option (Value×Nat)→Shared→Prop}(hb:vC w=false)(hs:VL s.heap a es ep t)(h:Q (((pickOrder (w.params.setOrder a ep) es)[i]?).map fun e=>(e.2,slot)) s):wpAny (model prog w) A (setNext a slot i ep) Q E s:=by
 B3⟨oa,ha,_,hda,hf⟩:=id hs
 have ft:w.params.followText "set-order" = true:=by simpa using hb
 B4 setNext
 &wpAny_bind (wpAny_setState_of ha hda hf ?_)
 dsimp only
 B4 setsByText
 &wpAny_bind (wpAny_bind (wpAny_askSetting (wpAny_pure ?_)))
 dsimp only
 rw[show (model prog w).w.params.followText "set-order" = true from ft,if_pos rfl,if_neg (by simp)]
 B4 setWalk setsByText
 &wpAny_bind (wpAny_bind (wpAny_setState_of ha hda hf ?_))
 dsimp only
 &wpAny_bind (wpAny_bind (wpAny_askSetting (wpAny_pure ?_)))
 dsimp only
 rw[show (model prog w).w.params.followText "set-order" = true from ft,if_pos rfl]
 &wpAny_bind (wpAny_askSetting (wpAny_pure (wpAny_pure ?_)))
 ~h
def Gi(t:SetTable):Nat→Nat
 | 0=>0
 | i+1=>t.place.getD i 0+1
B5 VM(up:t.place.toList.Pairwise (·<·))(hi:i≤t.place.size):SetTable.below t.place (Gi t i)=i:=by
 B3⟨b1,b2,b3⟩:=below_at up (Gi t i)
 have mono:∀a b,a<b→b<t.place.size→t.place.getD a 0<t.place.getD b 0:=fun a b q q'=>by
  have:=I0.mp up a b (by simp;omega) (by simpa using q') q
  simp only[T8]at this
  simpa[O4,q',show a<t.place.size by omega]using this
 rcases i8 (SetTable.below t.place (Gi t i)) i with z | z | z
 ·cases i with
  | zero=>omega
  | succ i=>
   have h1:=b3 i A6 A6
   rw[show Gi t (i+1)=t.place.getD i 0+1 from rfl]at h1
   omega
 ·~z
 ·have h1:=b2 i z
  cases i with
  | zero=>~absurd h1 (L7 _)
  | succ i=>
   rw[show Gi t (i+1)=t.place.getD i 0+1 from rfl]at h1
   have:=mono i (i+1) A6 A6
   omega
B5 aF4{Q:Option (Value×Nat)→Shared→Prop}(hb:vC w=true)(hs:VL s.heap a es ep t)(hl:Led (vC w) t)(hdr:(!t.plain&&decide (es.size > 1))=false)(hi:i≤es.size)(h:Q ((es[i]?).map fun e=>(e.2,Gi t (i+1))) s):wpAny (model prog w) A (setNext a (Gi t i) i ep) Q E s:=by
 B3⟨oa,ha,_,hda,hf⟩:=id hs
 have ft:w.params.followText "set-order" = false:=by simpa using hb
 have hz:t.place.size=es.size:=by
  simp only[SetTable.fits,J7,beq_iff_eq]at hf
  ~hf.1
 have up:t.place.toList.Pairwise (·<·):=by
  cases e:t.plain with
  | true=>~(hl.2 e).1
  | false=>
   rw[e]at hdr
   have:es.size≤1:=by simpa using hdr
   match h:t.place.toList with
   | []=>~.nil
   | [x]=>simp
   | x::y::r=>
    have:=congrArg j4 h
    simp at this
    omega
 B4 setNext
 &wpAny_bind (wpAny_setState_of ha hda hf ?_)
 dsimp only
 B4 setsByText
 &wpAny_bind (wpAny_bind (wpAny_askSetting (wpAny_pure ?_)))
 dsimp only
 rw[show (model prog w).w.params.followText "set-order" = false from ft,if_neg (by simp)]
 &wpAny_ite_split (fun q=>?_) fun _=>?_
 ·exfalso
  have q':(!t.plain&&decide (es.size > 1))=true:=q
  rw[hdr]at q'
  cases q'
 ·&wpAny_bind ?_
  &wpAny_ite_split (fun q=>?_) fun _=>wpAny_pure ?_
  ·exfalso
   have:t.led=true:=by rw[hl.1,hb]
   rw[this]at q
   simp at q
  ·rw[VM up A6]
   &wpAny_pure ?_
   rcases J8 i es.size with z | z
   ·rw[N3 z]at h ⊢
    rw[N3 A6]
    have e:t.place[i]'(by omega)=t.place.getD i 0:=by simp[O4,show i<t.place.size by omega]
    simpa[Gi,e]using h
   ·rw[Array.getElem?_eq_none z]at h ⊢
    ~h
end
end L2


namespace L2
open PySem PySem.Spec PyProof.Rows
section
variable{prog:Program}{w:World}{A:Around}{E:Value→Shared→Prop}{s:Shared}{I a T:Addr}{f:Value}{i n ep:Nat}{es:Array (Int×Value)}{t:SetTable}
B5 aDn{M:Model}{src:Source}{m:Nat}{Q:Nat→Shared→Prop}(hm:m≠0)(h:∀i dr,i<m→Q i {s with drawn:=dr}):wpAny M A (choose src m) Q E s:=fun _ _ _=>⟨hm,h _ _ (T9 _ (Nat.pos_of_ne_zero hm))⟩
B5 Vf{M:Model}{α:Type}:∀(m:Nat)(xs:List α)(s:Shared)(Q:List α→Shared→Prop),xs.length=m→(∀ys dr,ys.Perm xs→Q ys {s with drawn:=dr})→wpAny M A (drawOrder m xs) Q E s
 | 0,xs,s,Q,hn,h=>by
  have:xs=[]:=L9 hn
  subst this
  B4 drawOrder
  ~wpAny_pure (h [] s.drawn (Q3 _))
 | m+1,[],s,Q,hn,h=>absurd hn (by simp)
 | m+1,x::xs,s,Q,hn,h=>by
  B4 drawOrder
  &wpAny_bind (aDn (by simp) fun i dr hi=>?_)
  rw[B6 hi]
  dsimp only
  &wpAny_bind (Vf m ((x::xs).eraseIdx i) _ _ (by rw[V4 hi];omega) fun ys dr' pm=>wpAny_pure ?_)
  ~h _ dr' ((pm.cons _).trans (Ed _ _ hi))
def Ord(S:Int→Bool)(n:Nat)(ord:List Value):Prop:=ord.length=n∧∃ns,IntsAre ord ns∧∀k,S k=true↔k∈ns
B5 VN{S:Int→Bool}{l:List (Int×Value)}{ord:List Value}(hel:ElemsOf (intKind prog w) l)(hm:∀k,S k=true↔∃e∈l,(intKind prog w).is k e.2=true)(hn:l.length=n)(pm:ord.Perm (l.map (·.2))):Ord S n ord:=by
  &⟨by rw[pm.length_eq,B7,hn],?_⟩
  have allI:∀v∈ord,∃k t,v=Value.int k t:=fun v hv=>by
    B3⟨e,he,rfl⟩:=G4.mp (pm.mem_iff.mp hv)
    B3⟨⟨k,hk,_⟩,_⟩:=hel e he
    B3⟨t,ht⟩:=Value.isInt_shape hk
    ~⟨k,t,ht⟩
  have mk:∀vs:List Value,(∀v∈vs,∃k t,v=Value.int k t)→∃ns,IntsAre vs ns∧∀k,k∈ns↔∃t,Value.int k t∈vs:=by
    intro vs
    induction vs with
    | nil=>~fun _=>⟨[],.nil,fun k=>by simp⟩
    | cons v vs ih=>
      intro hv
      B3⟨ns,h1,h2⟩:=ih fun v q=>hv v (C8 _ q)
      B3⟨k,t,rfl⟩:=hv v D4
      &⟨k::ns,.cons k t h1,fun j=>?_⟩
      rw[C9,h2]
      constructor
      · rintro(rfl | ⟨t',q⟩)
        · ~⟨t,D4⟩
        · ~⟨t',C8 _ q⟩
      · rintro⟨t',q⟩
        rcases C9.mp q with q | q
        · injection q with q
          ~.inl q
        · ~.inr ⟨t',q⟩
  B3⟨ns,h1,h2⟩:=mk ord allI
  &⟨ns,h1,fun k=>?_⟩
  rw[hm,h2]
  constructor
  · rintro⟨e,he,hk⟩
    B3⟨t,ht⟩:=Value.isInt_shape hk
    ~⟨t,pm.mem_iff.mpr (G4.mpr ⟨e,he,ht⟩)⟩
  · rintro⟨t,q⟩
    B3⟨e,he,q⟩:=G4.mp (pm.mem_iff.mp q)
    ~⟨e,he,by rw[q];~intKind_is _ _ _ _⟩
B5 Pu(hh:A.handled=none)(ne:a≠I){slot:Nat→Nat}{ord:List Value}(hz:ord.length=es.size)
  (hN:∀(s:Shared)(i:Nat)(Q':Option (Value×Nat)→Shared→Prop) E',i≤es.size→VL s.heap a es ep t→Q' ((ord[i]?).map fun v=>(v,slot (i+1))) s→wpAny (model prog w) A.in1 (setNext a (slot i) i ep) Q' E' s) :
  Walks prog w A I [I,a] [I] es.size (fun i v=>ord[i]?=some v) (fun i h=>du h I (.int (slot i:Int) 0) i a es.size ep∧VL h a es ep t) where
 sub:=fun b hb=>by simp at hb;simp[hb]
 frame:=fun _ _ _ x kp=>⟨x.1.at_ fun o e=>kp I (by simp) o e,x.2.at_ fun o e=>kp a (by simp) o e⟩
 item:=fun i s Q E hi x hQ=>by
  have e:ord[i]?=some (ord[i]'(by omega)):=B6 A6
  &aDl (x:=ord[i]'(by omega)) (nxt:=slot (i+1)) x.1 x.2 (fun Q' E' q=>hN s i Q' E' A6 x.2 (by rw[e];~q)) fun h' st sb=>?_
  ~hQ _ h' s.toks e ⟨st,x.2.at_ fun o eo=>sb.extBut a o ne eo⟩ fun b o hb eo=>sb.extBut b o (fun z=>hb (by simp[z])) eo
 done:=fun s Q E x hQ=>aF1 hh x.1 x.2 (fun Q' E' q=>hN s es.size Q' E' (C6 _) x.2 (by rw[E8 A6];~q)) fun h' kp=>hQ h' s.toks fun b o hb e=>kp b o (fun z=>hb (by simp[z])) e
 self:=fun _ _ _ _ x hQ=>dw x.1 hQ
B5 VP(hh:A.handled=none)(ne:a≠I)(neT:T≠I){ps:List Nat}(hz:ps.length=es.size)(hp:∀p∈ps,p<es.size) :
  Walks prog w A I [I,a,T] [I] es.size (fun i v=>(ps.map fun p=>(es.getD p (0,.none)).2)[i]?=some v) (fun i h=>du h I (.ref T) i a es.size ep∧VL h a es ep t∧∃o c,h.get? T=some o∧o.data=.seq (ps.map fun(p:Nat)=>rawInt p).toArray c) where
 sub:=fun b hb=>by simp at hb;simp[hb]
 frame:=fun _ _ _ x kp=>⟨x.1.at_ fun o e=>kp I (by simp) o e,x.2.1.at_ fun o e=>kp a (by simp) o e,let ⟨o,c,ho,hd⟩:=x.2.2;⟨o,c,kp T (by simp) o ho,hd⟩⟩
 item:=fun i s Q E hi x hQ=>by
  B3⟨h1,h2,oT,c,hT,hTd⟩:=x
  have lt:i<ps.length:=by omega
  have lp:=hp ps[i] (O9 lt)
  &aDm (p:=ps[i]) (tk:=0) (hx:=es[ps[i]].1) (x:=es[ps[i]].2) h1 h2 hT hTd (by simp[lt,rawInt]) (by rw[N3 lp]) fun h' st sb=>?_
  ~hQ _ h' s.toks (by simp[lt,O4,lp]) ⟨st,h2.at_ fun o eo=>sb.extBut a o ne eo,oT,c,sb.extBut T oT neT hT,hTd⟩ fun b o hb eo=>sb.extBut b o (fun z=>hb (by simp[z])) eo
 done:=fun s Q E x hQ=>by
  B3⟨h1,h2,oT,c,hT,hTd⟩:=x
  ~aF2 hh h1 h2 hT hTd (by simp[hz]) fun h' kp=>hQ h' s.toks fun b o hb e=>kp b o (fun z=>hb (by simp[z])) e
 self:=fun _ _ _ _ x hQ=>dw x.1 hQ
B5 aAX{S:Int→Bool}{Q:Value→Shared→Prop}(hh:A.handled=none)(hs:Ef prog w (vC w) s.heap a S n)
    (h:∀(h1:Heap)(dr:Drawn)(I:Addr)(fp:List Addr)(ord:List Value)(St:Nat→Heap→Prop),(∀b o,s.heap.get? b=some o→h1.get? b=some o)→Walks prog w A I fp [I] n (fun i v=>ord[i]?=some v) St→St 0 h1→(∀x∈fp,x=a∨s.heap.objs.size≤x)→s.heap.objs.size≤I→Ord S n ord→Q (.ref I) {s with heap:=h1,drawn:=dr}) :
    wpAny (model prog w) A (pyIter (.ref a)) Q E s:=by
  B3⟨o,es,ep,t,ho,hex,hd,hel,hm,hz,hf,hn,hl⟩:=hs
  have sat:VL s.heap a es ep t:=⟨o,ho,hex.1,hd,hf⟩
  have lt:=Heap.lt_size ho
  subst hn
  &wpAny_pyIter_slot sat.ty Z9 (wpAny_call_entry Z9 sat.ty rn ?_ (PySem.F.args_set_iter_1 _))
  B4 Builtin.«frozenset.__iter__» Builtin.Frozenset.slot0
  &wpAny_bind (wpAny_bind (wpAny_of_eq (a:=(Value.ref a,[])) rfl ?_))
  B4 Builtin.Frozenset.addrOf Builtin.Frozenset.sizeOf
  &wpAny_pure (wpAny_bind (wpAny_bind (wpAny_setEntries_of ho hd hf (wpAny_pure ?_))))
  B4 setDrawn setsByText
  &wpAny_bind (wpAny_bind (wpAny_setState_of ho hd hf ?_))
  dsimp only
  &wpAny_bind (wpAny_bind (wpAny_askSetting (wpAny_pure ?_)))
  &wpAny_pure ?_
  &wpAny_ite_split (fun c=>?_) fun c=>?_
  · have c':(vC w&&(!t.plain&&decide (es.size > 1)))=true:=c
    rw[J7]at c'
    &wpAny_bind (Vf es.size (D2 es.size) s _ (by simp) fun ps dr pm=>?_)
    have lps:ps.length=es.size:=by rw[pm.length_eq,D8]
    have hp:∀p∈ps,p<es.size:=fun p hp=>F5.mp (pm.mem_iff.mp hp)
    &wpAny_bind (wpAny_newTuple ?_ (by rw[B7,lps];~fits_of_scanBound hz))
    have g1:(s.heap.push {cls:=.type "tuple", data:=.seq (ps.map fun(i:Nat)=>rawInt i).toArray}).get? a=some o:=Heap.get?_push_of_some _ ho
    &wpAny_bind (wpAny_setEpoch_of g1 hd hf ?_)
    &wpAny_bind (wpAny_newObj_type (wpAny_pure ⟨_,rfl, "set_iterator", _,⟨_,Heap.get?_push_size _ rfl,rfl⟩,oZ.lookup,?_⟩))
    &h _ dr _ _ (ps.map fun p=>(es.getD p (0,.none)).2) _ (fun b o e=>Heap.get?_push_of_some _ (Heap.get?_push_of_some _ e)) (VP (T:=s.heap.objs.size) (t:=t) (ep:=ep) hh ?_ ?_ lps hp) ⟨⟨_,Heap.get?_push_size _ rfl,rfl,rfl⟩,sat.at_ fun o e=>Heap.get?_push_of_some _ (Heap.get?_push_of_some _ e),_,_,Heap.get?_push_of_some _ (Heap.get?_push_size _ rfl),rfl⟩ ?_ ?_ ?_
    · show a≠(s.heap.push _).objs.size
      rw[Heap.size_push]
      ~E5 (M7 lt)
    · show s.heap.objs.size≠(s.heap.push _).objs.size
      rw[Heap.size_push]
      ~E5 (M0 _)
    · intro x hx
      rcases C9.mp hx with z | z
      · rw[z]
        show _∨s.heap.objs.size≤(s.heap.push _).objs.size
        rw[Heap.size_push]
        ~.inr (N5 _)
      · rcases C9.mp z with z | z
        · ~.inl z
        · rw[E3.mp z]
          ~.inr (C6 _)
    · show s.heap.objs.size≤(s.heap.push _).objs.size
      rw[Heap.size_push]
      ~N5 _
    · &VN (prog:=prog) (w:=w) hel hm (by simp) ?_
      have e:es.toList.map (·.2)=(D2 es.size).map fun p=>(es.getD p (0,.none)).2:=by
        &X0 (by simp) fun k k1 k2=>?_
        simp at k1
        simp[O4,k1]
      rw[e]
      ~pm.map _
  · &wpAny_bind (wpAny_pure ?_)
    &wpAny_bind (wpAny_setEpoch_of ho hd hf ?_)
    &wpAny_bind (wpAny_newObj_type (wpAny_pure ⟨_,rfl, "set_iterator", _,⟨_,Heap.get?_push_size _ rfl,rfl⟩,oZ.lookup,?_⟩))
    have ne:a≠s.heap.objs.size:=E5 lt
    have fp':∀x∈[s.heap.objs.size,a],x=a∨s.heap.objs.size≤x:=fun x hx=>by
      rcases C9.mp hx with z | z
      · ~.inr (d6 z.symm)
      · ~.inl (E3.mp z)
    cases hb:vC w with
    | false=>
      have pm:=qy (w.params.setOrder a ep) es
      &h _ s.drawn _ _ ((pickOrder (w.params.setOrder a ep) es).toList.map (·.2)) _ (fun b o e=>Heap.get?_push_of_some _ e) (Pu (t:=t) (ep:=ep) (slot:=fun _=>0) hh ne (by rw[B7,pm.length_eq,K3]) fun s i Q' E' hi x q=>?_) ⟨⟨_,Heap.get?_push_size _ rfl,rfl,rfl⟩,sat.at_ fun o e=>Heap.get?_push_of_some _ e⟩ fp' (C6 _) (VN (prog:=prog) (w:=w) hel hm (by simp) (pm.map _))
      &aF3 hb x ?_
      rw[B8,L8,n8]at q
      ~q
    | true=>
      have c':(!t.plain&&decide (es.size > 1))=false:=by
        have c2:¬(vC w&&(!t.plain&&decide (es.size > 1)))=true:=c
        rw[hb,Bool.true_and]at c2
        simpa using c2
      &h _ s.drawn _ _ (es.toList.map (·.2)) _ (fun b o e=>Heap.get?_push_of_some _ e) (Pu (t:=t) (ep:=ep) (slot:=Gi t) hh ne (by simp) fun s i Q' E' hi x q=>?_) ⟨⟨_,Heap.get?_push_size _ rfl,rfl,rfl⟩,sat.at_ fun o e=>Heap.get?_push_of_some _ e⟩ fp' (C6 _) (VN (prog:=prog) (w:=w) hel hm (by simp) (Q3 _))
      &aF4 hb x hl c' hi ?_
      rw[B8,L8,n8]at q
      ~q
end
end L2


namespace L2
open PySem PySem.Spec PySem.Calls PyProof.Rows PyProof.V
section
variable{prog:Program}{w:World}{A:Around}{E:Value→Shared→Prop}{s:Shared}{I a T:Addr}{n:Nat}{S:Int→Bool}
B5 aAY{Q:Bool→Shared→Prop}(hT:s.TypeIs (.ref a) "set") (h:Q false s):wpAny (model prog w) A (Builtin.List.listLengthHint (.ref a)) Q E s:=by
 B4 Builtin.List.listLengthHint
 &wpAny_bind (wpAny_specialOf hT PySem.F.slot_set_len.lookup ?_)
 generalize hid:("set.__len__" : String)=id0
 wp_delta
 rw[show splitId id0=some ("set", "__len__")from by subst hid;decide +kernel]
 subst hid
 &wpAny_bind (wpAny_isInstance (T := "set") (b:=true) hT (by rw[isSubtype_type];kernel_rfl) (wpAny_ite_split (fun z=>absurd z A8) fun _=>wpAny_ite_split (fun _=>?_) fun z=>absurd A7 z))
 ~wpAny_bind (wpAny_typeOf hT (wpAny_pure h))
B5 aDo{R:Result→Shared→Prop}(hh:A.handled=none)(hs:Ef prog w (vC w) s.heap a S n)(hz:n≤sizeLine)(L:Addr)(ne:L≠a)(hL:s.heap.get? L=some {cls:=.type "list", data:=.seq #[] 0})
    (hR:∀h' dr tk acc c,(∀b o,b≠L→s.heap.get? b=some o→h'.get? b=some o)→h'.get? L=some {cls:=.type "list", dict:=none,data:=.seq acc c,slots:=#[]}→Ord S n acc.toList→R (.ok (.ret (.ref L))) {s with heap:=h',drawn:=dr,toks:=tk}) :
    wpAny (model prog w) A.in1 (Builtin.List.listExtendWith (.ref L) (.ref a) (.ref L)) (fun fin s'=>match fin with | .done f=>R (.ok f) s' | .again c'=>c'.quiet=true∧codeAny (model prog w) A c' R s') (fun e s'=>R (.error e) s') s:=by
  have lt:L<s.heap.objs.size:=Heap.lt_size hL
  have ty:s.TypeIs (.ref a) "set" := let ⟨o,_,_,_,ho,hex,_⟩:=hs;⟨o,ho,hex.1⟩
  B4 Builtin.List.listExtendWith
  &wpAny_bind (wpAny_typeOf (T := "set") ty ?_)
  have h1:Builtin.List.listSameRef (.ref L) (.ref a)=false:=by simp[Builtin.List.listSameRef,ne]
  have h2:(Value.type "set" == Value.type "list")=false:=by decide
  have h3:(Value.type "set" == Value.type "tuple")=false:=by decide
  simp only[h1,h2,h3,o7,U9,if_false]
  &wpAny_bind (aAX (A:=A.in1) hh hs fun h0 dr I fp ord St kp W st fpo lI od=>?_)
  have hL1:=kp _ _ hL
  have nf:L∉fp:=fun z=>by
    rcases fpo L z with z | z
    · ~ne z
    · ~absurd lt (Nat.not_lt.mpr z)
  have nI:∀b o,s.heap.get? b=some o→b≠I:=fun b o e=>E5 (E1 (Heap.lt_size e) lI)
  have key:∀(h:Heap)(c1 tk:Nat),St 0 h→(∀b o,b≠L→s.heap.get? b=some o→h.get? b=some o)→h.get? L=some {cls:=.type "list", data:=.seq #[] c1}→codeAny (model prog w) A (.builtin "list.extend.loop" ⟨[.ref L,.ref I,.ref L],[]⟩) R {s with heap:=h,drawn:=dr,toks:=tk}:=by
    intro h c1 tk st0 k0 g0
    &codeAny_extend_loopS W.toS hz L nf (.ref L) n 0 _ #[] c1 rfl (N4 _) st0 g0 (ItemsOf.nil _) fun s' acc c mv g' it=>?_
    rw[Moved.eq_with mv]
    &hR s'.heap dr s'.toks acc c (fun b o nb e=>mv.heap b o (fun z=>?_) (k0 b o nb e)) g' ?_
    · rcases C9.mp z with z | z
      · ~nb z
      · ~nI b o e (E3.mp z)
    · have e:acc.toList=ord:=by
        &K6 fun j=>?_
        rcases J8 j acc.size with z | z
        · have e1:acc[j]?=some acc[j]:=N3 z
          rw[L8,e1,it.2 j _ e1]
        · rw[E8 (by simpa using z),E8 (by have:=it.1;have:=od.1;omega)]
      rw[e]
      ~od
  &wpAny_bind (wpAny_holding (aAY (hT:=let ⟨o,ho,hc⟩:=ty;⟨o,kp _ _ ho,hc⟩) ?_))
  &wpAny_ite_split (fun _=>?_) fun _=>wpAny_pure ⟨plainId_quiet W5 _,key _ 0 _ st (fun b o _ e=>kp b o e) hL1⟩
  &wpAny_bind (wpAny_rule (wpAny_bind ?_))
  show wpAny _ _ (updateSeq L (·.push .none) >>= fun _=>updateSeq L (·.pop)) _ _ _
  &wpAny_bind (wpAny_updateSeq hL1 rfl ?_)
  have g2:=Heap.get?_update_self (Obj.mapSeq (·.push Value.none)) hL1 rfl
  &wpAny_updateSeq (hz:=by seq_fits) g2 rfl ?_
  have g3:=Heap.get?_update_self (Obj.mapSeq (·.pop)) g2 rfl
  &wpAny_pure ⟨plainId_quiet W5 _,key _ _ _ (W.frame 0 _ _ st fun b hb o e=>?_) (fun b o hb e=>?_) g3⟩
  · have nb:b≠L:=fun z=>nf (z▸hb)
    ~(Heap.get?_update_other _ _ (Ne.symm nb)).trans ((Heap.get?_update_other _ _ (Ne.symm nb)).trans e)
  · ~(Heap.get?_update_other _ _ (Ne.symm hb)).trans ((Heap.get?_update_other _ _ (Ne.symm hb)).trans (kp b o e))
B5 JD{R:List Value→Shared→Prop}(hh:A.handled=none)(hs:Ef prog w (vC w) s.heap a S n)(hz:n≤sizeLine)
  (h:∀(h':Heap)(dr:Drawn)(tk:Nat)(acc:List Value),(∀b o,s.heap.get? b=some o→h'.get? b=some o)→Ord S n acc→R acc {s with heap:=h',drawn:=dr,toks:=tk}):wpAny (model prog w) A (collect (.ref a)) R E s:=by
 have lt:a<s.heap.objs.size:=let ⟨o,_,_,_,ho,_⟩:=hs;Heap.lt_size ho
 B4 collect
 &wpAny_bind (wpAny_runValue (codeAny_builtin entry_proto_collect' ?_))
 rw[Around.under_plainId PySem.F.plain_proto_collect _]
 show wpAny _ A.in1 (newList [] >>= fun l=>again (.builtin "list.__iadd__" ⟨[l,.ref a],[]⟩)) _ _ s
 &wpAny_bind (wpAny_newObj_type (wpAny_pure ⟨plainId_quiet X5 _,codeAny_builtin entry_list_iadd' ?_⟩))
 rw[Around.under_plainId X5 _]
 have g1:(s.heap.push {cls:=.type "list", data:=.seq ([]:List Value).toArray}).get? s.heap.objs.size=some {cls:=.type "list", data:=.seq #[]}:=Heap.get?_push_size _ rfl
 show wpAny _ A.in1 (Builtin.List.listExtendWith (.ref s.heap.objs.size) (.ref a) (.ref s.heap.objs.size)) _ _ _
 have key:=aDo (A:=A) (s:={s with heap:=s.heap.push {cls:=.type "list", data:=.seq ([]:List Value).toArray}})
  (R:=fun(q:Result) (s':Shared)=>∃(h':Heap)(dr:Drawn)(tk:Nat)(acc:Array Value)(c:Nat),q=.ok (.ret (.ref s.heap.objs.size))∧s'={s with heap:=h',drawn:=dr,toks:=tk}∧(∀b o,s.heap.get? b=some o→h'.get? b=some o)∧h'.get? s.heap.objs.size=some {cls:=.type "list", dict:=none,data:=.seq acc c,slots:=#[]}∧Ord S n acc.toList)
  hh (hs.at_ fun o e=>Heap.get?_push_of_some _ e) hz s.heap.objs.size (O6 lt) g1 fun h' dr tk acc c kp g od=>⟨h',dr,tk,acc,c,rfl,rfl,fun b o e=>kp b o (E5 (Heap.lt_size e)) (Heap.get?_push_of_some _ e),g,od⟩
 &wpAny_mono key (fun fin s' x=>?_) fun e s' x=>?_
 ·cases fin with
  | done f=>
   B3⟨h',dr,tk,acc,c,e,rfl,kp,g,od⟩:=x
   cases e
   show wpAny _ A (load s.heap.objs.size >>= _) _ _ _
   ~wpAny_bind (wpAny_load g (wpAny_pure (h h' dr tk acc.toList kp od)))
  | again c1=>
   &⟨x.1,codeAny_mono x.2 fun q s2 y=>?_⟩
   B3⟨h',dr,tk,acc,c,rfl,rfl,kp,g,od⟩:=y
   show wpAny _ A (load s.heap.objs.size >>= _) _ _ _
   ~wpAny_bind (wpAny_load g (wpAny_pure (h h' dr tk acc.toList kp od)))
 ·B3⟨_,_,_,_,_,e',_⟩:=x
  cases e'
end
end L2


namespace L2
open PySem PySem.Spec PySem.Calls PyProof.Rows PyProof.V
def Px(k:Int):List Int→List Int
 | []=>[k]
 | a::l=>if k<a then k::a::l else if k=a then a::l else a::Px k l
B5 Py(k j:Int):∀l:List Int,j∈Px k l↔j=k∨j∈l
  | []=>by simp[Px]
  | a::l=>by
    B4 Px
    split
    · simp
    · split
      · rename_i e
        subst e
        simp
      · rw[C9,Py k j l,C9]
        constructor
        · rintro(h | h | h)
          · ~.inr (.inl h)
          · ~.inl h
          · ~.inr (.inr h)
        · rintro(h | h | h)
          · ~.inr (.inl h)
          · ~.inl h
          · ~.inr (.inr h)
B5 dz(k:Int):∀l:List Int,l.Pairwise (·<·)→(Px k l).Pairwise (·<·)
 | [],_=>by simp[Px]
 | a::l,h=>by
  B3⟨h1,h2⟩:=J3.mp h
  B4 Px
  split
  ·rename_i c
   &J3.mpr ⟨fun x hx=>?_,h⟩
   rcases C9.mp hx with z | z
   ·omega
   ·have:=h1 x z
    omega
  ·split
   ·~h
   ·&J3.mpr ⟨fun x hx=>?_,dz k l h2⟩
    rcases(Py k x l).mp hx with z | z
    ·omega
    ·~h1 x z
def fj:List Int→List Int
 | []=>[]
 | a::l=>Px a (fj l)
B5 Yn(j:Int):∀ns:List Int,j∈fj ns↔j∈ns
 | []=>Iff.rfl
 | a::l=>by
  rw[fj,Py,Yn j l,C9]
B5 VR:∀ns:List Int,(fj ns).Pairwise (·<·)
 | []=>.nil
 | a::l=>dz a _ (VR l)
B5 aF5{ns ms:List Int}(h:ms.Pairwise (·<·))(m:∀k,k∈ms↔k∈ns):ms=fj ns:=uZ h (VR ns) fun j=>(m j).trans (Yn j ns).symm
B5 JF(k:Int):∀l:List Int,(Px k l).length≤l.length+1
 | []=>by simp[Px]
 | a::l=>by
  B4 Px
  split
  ·simp
  ·split
   ·simp
   ·have:=JF k l
    simp only[E9]
    omega
B5 gf:∀ns:List Int,(fj ns).length≤ns.length
 | []=>C6 _
 | a::l=>by
  have:=JF a (fj l)
  have:=gf l
  simp only[fj,E9]
  omega
B5 Pz{α:Type} [DecidableEq α]:∀{l m:List α},l.Nodup→(∀x∈l,x∈m)→m.length≤l.length→l.Perm m
 | [],m,_,_,h=>by
  have:m=[]:=L9 (by simpa using h)
  subst this
  ~Q3 _
 | a::l,m,hn,hs,hl=>by
  B3⟨h1,h2⟩:=L5.mp hn
  have ha:=hs a D4
  have e:=List.perm_cons_erase ha
  &List.Perm.trans (List.Perm.cons a (Pz h2 (fun x hx=>?_) ?_)) e.symm
  ·have ne:x≠a:=fun z=>by
    rw[z]at hx
    ~h1 hx
   ~(List.mem_erase_of_ne ne).mpr (hs x (C8 _ hx))
  ·rw[X2 ha]
   simp only[E9]at hl
   omega
B5 tH(val:Nat→Int):∀i,(firstMet val i).Nodup
 | 0=>by rw[firstMet_zero];~Z6
 | i+1=>by
  rw[firstMet_succ]
  B4 step_dedup
  have ih:=tH val i
  split
  ·~ih
  ·rename_i c
   &O1.mpr ⟨ih,by simp,fun x hx y hy=>?_⟩
   rw[E3.mp hy]
   intro z
   subst z
   ~c (Q6.mpr ⟨_,hx,by simp⟩)
B5 sr{ns ks ms:List Int}(hk:∀k,(firstMet (fun i=>ns.getD i 0) ns.length).any (·==k)=true↔k∈ks)(hl:ks.length=(firstMet (fun i=>ns.getD i 0) ns.length).length)(hm:ms.Perm ks)(hs:ms.Pairwise (·≤·)):ms=fj ns:=by
 have hmem:∀k,k∈ks↔k∈ns:=fun k=>by
  rw[←hk,firstMet_any]
  have e:(D2 ns.length).map (fun i=>ns.getD i 0)=ns:=by
   &X0 (by simp) fun i h1 h2=>?_
   simp[B9,h2]
  rw[e,Q6]
  ~⟨fun⟨x,hx,q⟩=>by rw[←(beq_iff_eq.mp q)];~hx,fun h=>⟨k,h,by simp⟩⟩
 have nd:ks.Nodup:=by
  have p:=Pz (tH (fun i=>ns.getD i 0) ns.length) (m:=ks) (fun x hx=>(hk x).mp (Q6.mpr ⟨x,hx,by simp⟩)) A6
  ~p.nodup_iff.mp (tH _ _)
 &aF5 ?_ fun k=>(hm.mem_iff).trans (hmem k)
 have ndm:=hm.nodup_iff.mpr nd
 ~(hs.and ndm).imp fun q=>by have:=q.1;have:=q.2;omega
section
variable{X:Cx}{e:Expr}{t:TE}{x y:Str}{p p2 pos pos2:Pos}
B5 gj{T id:String}{r:V→Hp→VK→Prop}(hc:∀(pins:List (Addr×Obj))(s:Shared)(σ:St)(H:Hp)(v:V)(u:Value)(Q:VK),Inv X pins σ H s→RelV v u→r v H Q→wpAny (model X.prog X.w) X.A (call (.type T) [u]) (fun u' s'=>wpAny (model X.prog X.w) X.A (call (.builtin id) [u']) (EP X pins σ Q) X.xe s') X.xe s)
  (ha:PE X e t) (hg:Gl X x) (hm:X.mg x=none) (hv:bootBuiltins x=some (.builtin id)) (hg2:Gl X y) (hm2:X.mg y=none) (hv2:bootBuiltins y=some (.type T)) (hn:x ≠ "__name__" := by decide) (hdb:(x==("__debug__" : Str))=false:=by decide) (hn2:y ≠ "__name__" := by decide) (Yo:(y==("__debug__" : Str))=false:=by decide)
  (he:starEach [e] X.env=[(false,eval e X.env)]:=by rfl) (he2:starEach [.Call (.Name y p2) [e] [] pos2] X.env=[(false,eval (.Call (.Name y p2) [e] [] pos2) X.env)]:=by rfl) :
  PE X (.Call (.Name x p) [.Call (.Name y p2) [e] [] pos2] [] pos) (tUn r t):=by
 intro pins s σ H Q I h
 &wpAny_Call_Name_kw (wN I hg hm hv ?_ hn hdb)
 &T7 ?_ he2 rfl
 rw[he2]
 &Calls.spliced_cons (wpAny_Call_Name_kw (wN I hg2 hm2 hv2 ?_ hn2 Yo))
 &K8 ?_ he rfl
 rw[he]
 ~Calls.spliced_cons (jA (ha pins s σ H _ I h) fun u s1 ⟨v,H1,I1,r1,q1⟩=>Calls.spliced_nil (jA (hc pins s1 σ H1 v u Q I1 r1 q1) fun u' s' z=>Calls.spliced_nil z))
B5 Inv.drew{pins:List (Addr×Obj)}{σ:St}{H:Hp}{s:Shared}(J:Inv X pins σ H s)(dr:Drawn):Inv X pins σ H {s with drawn:=dr}:=⟨J.ok,J.os,J.bare,J.base,J.loc,J.cell,J.free,J.yM,J.pin,J.hok,J.len⟩
def aEB(K:aF):V→Hp→VK→Prop:=fun v H Q=>∃(p:Addr)(ns:List Int),v=.ref p∧pK K H p (ns.map V.int)∧ns.length<64∧∀l,H l=none→Q (.ref l) (upd H l (.lst ((fj ns).map V.int)))
B5 aF6(hc:X.calm=true)(pins:List (Addr×Obj))(s:Shared)(σ:St)(H:Hp)(v:V)(u:Value)(Q:VK)(I:Inv X pins σ H s)(rv:RelV v u)(h:aEB X.K v H Q) :
  wpAny (model X.prog X.w) X.A (call (.type "set") [u]) (fun u' s'=>wpAny (model X.prog X.w) X.A (call (.builtin "sorted") [u']) (EP X pins σ Q) X.xe s') X.xe s:=by
 B3⟨p,ns,rfl,hq,h64,q⟩:=h
 cases rv
 B3⟨its,r,pl,hz⟩:=I.list hq
 have hlen:=r.length
 rw[B7]at hlen
 &aEA (its:=its.toArray) (ns:=ns) (I.ok.hd hc) pl.isList (by simpa using intsAre_of r) (by rw[C5];B4 scanBound;omega) fun h1 tk1 S1 kp1=>?_
 have I1:Inv X pins σ H {s with heap:=h1,toks:=tk1}:=I.kept (t':=tk1) kp1
 have ez:its.toArray.size=ns.length:=by simp[hlen]
 rw[ez]at S1
 have hfl:=firstMet_length_le (fun i=>ns.getD i 0) ns.length
 &Calls.call_function_entry kind_sorted plain_sorted entry_sorted (args_sorted1 _) ?_
 B4 Builtin.«sorted»
 &wpAny_bind (m:=checkCount "sorted" 1 1 _) (wpAny_pure (wpAny_bind (JD (A:=X.A.in1) (I.ok.hd hc) S1 (O5 (vL A6)) fun h2 dr tk2 acc kp2 od=>?_)))
 B3⟨al,ks,ik,mk⟩:=od
 have hla:ks.length=acc.length:=(IntsAre.length ik).symm
 &wpAny_bind (wpAny_newList ?_ (by rw[al];~O5 (vL A6)))
 have hoL:(h2.push (seqObj "list" acc.toArray 0)).get? h2.objs.size=some (seqObj "list" acc.toArray 0):=Heap.get?_push_size _ rfl
 &wpAny_bind (wpAny_holding (wpAny_call_entry slot_list_sort ⟨_,hoL,rfl⟩ entry_list_sort (list_sort_tree hoL ik A6 fun out ns' a1 a2 a3=>⟨_,rfl,?_⟩) (args_list_sort _)))
 &wpAny_pure ⟨_,rfl,?_⟩
 B3⟨e,he⟩:=sortedHeap_at (out:=out) hoL
 have I2:Inv X pins σ H {s with heap:=h2,drawn:=dr,toks:=tk2}:=(I1.kept (t':=tk2) kp2).drew dr
 have hs:H h2.objs.size=none:=I2.hok.fresh (C6 _)
 have hl2:ns'.length=ks.length:=a2.length_eq
 have I3:=I2.laid (t':=tk2) (a:=h2.objs.size) (o:=.lst (ns'.map V.int)) (h':=sortedHeap (h2.push (seqObj "list" acc.toArray 0)) h2.objs.size acc out)
  (fun b o eb=>by
   have hlt:=Heap.lt_size eb
   rw[sortedHeap_old (E5 hlt) (by rw[Heap.size_push];~M7 hlt)]
   ~Heap.get?_push_of_some _ eb) (C6 _)
  ⟨by rw[B7];~O5 (vL A6),out.toList,e,Bf a1,by simpa[seqObj]using he⟩
 rw[sr mk A6 a2 a3]at I3
 ~⟨.ref _,_,I3,rfl,q _ hs⟩
end
end L2


namespace L2
open PySem PySem.Spec PySem.Calls PyProof.Rows PyProof.V
section
variable{prog:Program}{w:World}{A:Around}{E:Value→Shared→Prop}{s:Shared}{I l:Addr}
end
section
variable{K:aF}{X:Cx}{e:Expr}{t:TE}{f:FE}{x y:Str}{p p2 pos pos2:Pos}
def pY(φ:D→Option D)(f:FE):FE:=fun e=>(f e).bind φ
def gq:D→Option D
 | .lst ds=>(intsOf ds).bind fun ns=>if ns.length<64 then some (.lst ((fj ns).map D.int))else none
 | _=>none
B5 aDp(h:XR K X e t f)(hg:Gl X x)(hm:X.mg x=none)(hv:bootBuiltins x=some (.builtin "sorted")) (hg2:Gl X y) (hm2:X.mg y=none) (hv2:bootBuiltins y=some (.type "set")) (hc:X.calm=true:=by rfl) (hn:x ≠ "__name__" := by decide) (hdb:(x==("__debug__" : Str))=false:=by decide) (hn2:y ≠ "__name__" := by decide) (Yo:(y==("__debug__" : Str))=false:=by decide)
  (he:starEach [e] X.env=[(false,eval e X.env)]:=by rfl) (he2:starEach [.Call (.Name y p2) [e] [] pos2] X.env=[(false,eval (.Call (.Name y p2) [e] [] pos2) X.env)]:=by rfl) :
  XN K X (.Call (.Name x p) [.Call (.Name y p2) [e] [] pos2] [] pos) (tUn (aEB K) t) (pY gq f):=⟨h.hk,gj (by have:=h.hk;subst this;~aF6 hc) h.pe hg hm hv hg2 hm2 hv2 hn hdb hn2 Yo he he2,fun σ H e d Q re q k=>by
 B3⟨d0,q1,q2⟩:=aY q
 B4 gq at q2
 split at q2
 ·B3⟨ns,q3,q4⟩:=aY q2
  split at q4
  ·rename_i hl
   cases q4
   &h.ev σ H H e _ _ (Zn.self K H) re q1 fun v H1 Z1 s1 t1 z1 rv=>?_
   B3⟨p,rfl,r2⟩:=vU q3 (z1.sm.rv _ _ rv)
   ~⟨p,ns,rfl,r2,hl,fun l hl=>k _ _ (s1.trans (dO hl _)) ((uH (aU.refl _) (.gY (cV _) (kY.mpr rfl)) hl).back s1)⟩
  ·cases q4
 ·cases q2⟩
end
end L2


namespace L2
open PySem PySem.Spec PySem.Calls PyProof.Rows PyProof.V PySem.W Att
abbrev Small(k:Int):Prop:=Builtin.Int.intBits k≤1048576
B5 aAZ{ns:List Int}(h:WData.layableAll [WData.list (ns.map WData.int)]=true):∀k∈ns,Small k:=fun k hk=>by
 have h1:(WData.list (ns.map WData.int)).layable=true:=by simpa[WData.layableAll]using h
 B3⟨c,_,w⟩:=layableW_iff.mp h1
 have c':WData.canLayAll (ns.map WData.int)=true:=by simpa[WData.canLay]using c
 have w':WData.weightAll (ns.map WData.int)≤2 ^ 20:=by simpa[WData.weight]using w
 have:=(items_part (G4.mpr ⟨k,hk,rfl⟩) c').2.2
 have e:(WData.int k).weight=Builtin.Int.intBits k:=by simp only[WData.weight,Builtin.Int.intBits]
 rw[e]at this
 ~G2 this w'
B5 JG{l:OpenLaw}{n:Nat}{q:Program}{loose:List Str}{XP:(Str→Option Value)→Heap→Prop}{YP:World→Heap→Prop}{d:DefRec}(hn:l.most=some n)(hdf:d.params.defaults=[])
  (call:∀(w:World)(s₀ s₁:Shared)(mg mb:Str→Option Value)(fa:Addr)(o:Obj)(pm cd doc:Value)(a:Addr)(vs:List Value)(ns:List Int),Ground q loose [] XP w s₀ mg mb s₁.heap→YP w s₁.heap →
   s₁.heap.get? fa=some o→o.data=.func (docDef d.name d.params d.body d.scope pm cd doc)→s₁.heap.CodeRec cd d.name→mg d.name=some (.ref fa) →
   s₁.heap.get? a=some {cls:=.type "list", data:=.seq vs.toArray}→IntsAre vs ns→ns.length≤n→(∀k∈ns,Small k)→s₁.gens=#[] →
   codeAny (model l.prog w) callerA (.call (.ref fa) ⟨[.ref a],[]⟩) (fun r s'=>r=.ok (.ret (.bool true))∧OldK s₁.heap s'.heap∧s'.os=s₁.os∧AllBare s'.gens) s₁) :
  WalkO q loose XP YP l.row.toRowW d [] (fun f vs=>l4 f vs):=by
 intro w s₀ s₁ mg mb G Y fa o pm cd doc dV kV ho hd hcd hD hmg hg args vals as hpre hlay hrd hwl hlo
 B3 rfl:dV=.none:=Dflts.none hD hdf
 B3 rfl:kV=.none:=Dflts.noKw hD
 B3⟨a,vs,ns,rfl,rfl,hobj,hints,hlen⟩:=nu hn hpre hwl
 &enter_call (codeAny_mono (call w s₀ s₁ mg mb fa o pm cd doc a vs ns G Y ho (fd_plain hd) hcd hmg hobj hints hlen (aAZ hlay) hg) fun r s' hq=>?_)
 B3⟨rfl,h2,h3,h4⟩:=hq
 ~⟨.inl ⟨.bool true,.bool true,[],rfl,fun _=>rfl,.bool true,oh l _,fun _=>⟨List.Pairwise.nil,fun _ hm=>(nomatch hm)⟩⟩,h2,h3,h4⟩
B5 su{l:l5}{n k:Nat}{q:Program}{loose:List Str}{XP:(Str→Option Value)→Heap→Prop}{YP:World→Heap→Prop}{d:DefRec}{K:Params→aF}{CX:World→mj}{sp:World→Sp}{x:Str}(hn:l.most=some n)(hn2:n≤sizeLine)(hdf:d.params.defaults=[])(hr:jR k callerA)
  (hY:∀(w:World)(h:Heap),YP w h→(K w.params).In h)
  (F:∀(w:World)(mg:Str→Option Value)(fa:Addr)(h:Heap),(K w.params).In h→h.Ns mainGlobals mg→mg d.name=some (.ref fa)→∃fd:FuncData,(∀(s:Shared)(u:Value),BindsTo s fd ⟨[u],[]⟩ [(x,u)])∧∀base:Heap,(K w.params).In base→base.Ns mainGlobals mg→zF l.prog w (K w.params) mg base (CX w) k fa fd [x] (sp w))
  (hsp:∀(w:World)(H:Hp)(a:Addr)(ns:List Int),ns.length≤n→(∀k∈ns,Small k)→Only H→pK (K w.params) H a (ns.map V.int)→sp w [.ref a] H (fun v _=>v=.bl true) fun _ _ _=>False)
  (hCX:∀(w:World)(H:Hp)(s:Shared)(e:Value)(s':Shared),CX w [] H s (fun _ _ _=>False) e s'→False) :
  o9 q loose XP YP l.row.toRowW d [] (fun f vs=>l4 f vs):=by
 &JG hn hdf fun w s₀ s₁ mg mb fa o pm cd doc a vs ns G Y ho hd hcd hmg hobj hints hlen hsm hg=>?_
 have KX:=hY w _ Y
 B3⟨fd,hb,hF⟩:=F w mg fa _ KX G.T.g hmg
 ~aAo KX G.T.g G.T.b G.T.builtins G.T.nolimit hg hobj hints (G2 hlen hn2) hr hF hb (fun H hO hS=>hsp w H a ns hlen hsm hO hS) fun H e s'=>hCX w H s₁ e s'
def spB(K:aF):Sp:=fun vs H Q _=>∃(a:Addr)(ns:List Int),vs=[.ref a]∧pK K H a (ns.map V.int)∧ns.length≤63∧(∀k∈ns,Small k)∧∀H',Q (.bl true) H'
B5 Fun.okB{P:Program}{w:World}{K:aF}{mg:Str→Option Value}{base:Heap}{x:Str}{st:Stmt}{N:List Str}{k:Nat}{g:GS}{f:Addr}{fd:FuncData}(F:Fun K x x st f fd)(S:bB N ["script"] (aM st))
  (hbody:∀(cdv:Value)(A:Around)(outer:List Env)(s:Shared)(H:Hp)(E:XK),jR k (A.deeper (envOfC x (aM st) s.heap.objs.size f cdv))→∃t,YB K (Fv CZ P w K mg base N x (aM st) f cdv A outer s H E).ZK (cH st) t g)
  (aF7:∀ns:List Int,ns.length≤63→(∀k∈ns,Small k)→pN N.length 1 g [.lst (ns.map D.int)]=some (.bl true)):zF P w K mg base CZ (k+1) f fd ["script"] (spB K):=by
 &F.ok S (fun vs H Q E h=>?_) (fun cdv A outer s H vs Q E hr h=>?_)
 ·B3⟨a,ns,rfl,_⟩:=h
  rfl
 B3⟨a,ns,rfl,hS,hl,hb,q⟩:=h
 B3⟨t,yb⟩:=hbody cdv A outer s H E hr
 have h3:=aF7 ns hl hb
 have rv:eY K H [.lst (ns.map D.int)] [.ref a]:=by
  B4 eY
  ~⟨_,_,rfl,by B4 Rv;~⟨a,_,rfl,hS,kY.mpr rfl⟩,by B4 eY;rfl⟩
 &⟨t,yb.ps,yb.ev H _ _ H ([D.lst (ns.map D.int)].map SD.fro++E4 (N.length-1) SD.no) (Jh rv) ?_⟩
 B4 pN at h3
 rw[if_pos (show [D.lst (ns.map D.int)].length=1 from rfl)]at h3
 cases qq:g ([D.lst (ns.map D.int)].map SD.fro++E4 (N.length-1) SD.no)with
 | ret d'=>
  rw[qq]at h3
  cases h3
  &fun v H' A' s' o=>?_
  have:=Ow.rv _ _ _ o
  B4 Rv at this
  subst this
  ~q _
 | _=>
  rw[qq]at h3
  cases h3
section
variable{K:aF}{X:Cx}{e a b c:Expr}{es:List Expr}{t ta tb te:TE}{f g:FE}{pos:Pos}
def aA0(i j:Int):Prop:=Builtin.Int.intBits i≤4000000∧Builtin.Int.intBits j≤4000000
instance (i j:Int):Decidable (aA0 i j):=by B4 aA0;~inferInstance
def aKg:D→D→Option D:=Om aA0 fun i j=>.int (i*j)
variable{lo hi:Option Expr}{tl th:TO}{fl fh:FO}{p2:Pos}
end
end L2


namespace L2
open PySem PySem.Spec PySem.Calls PyProof.Rows PyProof.V
section
variable{K:aF}{X:Cx}
def aKh:List D→Option D
 | [.bl c]=>some (.int (if c then 1 else 0))
 | _=>none
end
end L2


namespace L2
open PySem PySem.Spec PySem.Calls PyProof.Rows PyProof.V
section
variable{X:Cx}{pins:List (Addr×Obj)}{σ:St}{H:Hp}{s:Shared}{h':Heap}
end
section
variable{K:aF}{X:Cx}{e a b c:Expr}{es:List Expr}{t ta tb te:TE}{f g fe:FE}{tc:TT}{fc:FT}{pos p p2:Pos}{x:Str}
end
end L2


namespace L2
open PySem PySem.Spec PySem.Calls PyProof.Rows PyProof.V
section
variable{K:aF}{B H:Hp}{env:EN}{σ:St}{i:Nat}{v:V}{d:D}
B5 Rel.aA1(h:Rel K B env σ H)(e:env[i]?=some (.inn v d)):Rel K B (env.set i (.own d)) σ H∧σ[i]?=some (some v):=by
 B3⟨A,a,b⟩:=h
 B3⟨y,A1,C,h1,h2,h3,h4,k⟩:=a.focus e
 B3⟨rfl,o⟩:=h4
 have eA:A=fK A1 C:=funext fun x=>propext (h3 x)
 subst eA
 have s:=k _ (fun _ _ _ _ q=>q) (.own d) (some v) A1 h2 ⟨v,rfl,o⟩
 rw[set_same h1]at s
 ~⟨⟨_,s,b⟩,h1⟩
B5 Rel.aA2(h:Rel K B env σ H)(e:env[i]?=some (.own d))(hv:σ[i]?=some (some v)):Rel K B (env.set i (.inn v d)) σ H:=by
 B3⟨A,a,b⟩:=h
 B3⟨y,A1,C,h1,h2,h3,h4,k⟩:=a.focus e
 B3⟨v',rfl,o⟩:=h4
 rw[hv]at h1
 cases h1
 have eA:A=fK A1 C:=funext fun x=>propext (h3 x)
 subst eA
 have s:=k _ (fun _ _ _ _ q=>q) (.inn v d) (some v) A1 h2 ⟨rfl,o⟩
 rw[set_same hv]at s
 ~⟨_,s,b⟩
end
section
variable{K:aF}{X:Cx}{st:Stmt}{sts:List Stmt}{t u tb:TS}{g g1 g2:GS}{e a b c:Expr}{es:List Expr}{te ta t0:TE}{f f0 fa fb:FE}{gk:FE}{tA:TA}{fs:FA}{tc:TT}{fc:FT}{pos:Pos}{i:Nat}{π:FP}
end
end L2


namespace L2
open PySem PySem.Spec PySem.Calls PyProof.Rows PyProof.V
section
variable{α β:Type}{R:α→Fp→β→Prop}
B5 eU.Jj:∀{ds:List α} {A:Fp} {ys:List β} {d:α} {y:β},eU R (ds++[d]) A (ys++[y])→∃A0 A1,eU R ds A0 ys∧R d A1 y∧Apart A0 A1∧Is A (fK A0 A1)
  | [],A,ys,d,y,h=>by
    B3⟨y0,yt,A1,A2,h1,h2,h3,h4,h5,h6⟩:=h
    subst h6
    cases ys with
    | nil=>
      cases h1
      ~⟨nil,A1,⟨fun _ z=>z,rfl⟩,h4,fun _ z=>z.elim,fun x=>⟨fun q=>((h3 x).mp q).elim .inr fun z=>absurd z (h5 x),fun q=>q.elim False.elim fun z=>(h3 x).mpr (.inl z)⟩⟩
    | cons z zs=>
      injection h1 with _ h1
      cases zs<;>cases h1
  | d0::ds,A,ys,d,y,h=>by
    B3⟨y0,yt,A1,A2,h1,h2,h3,h4,h5⟩:=h
    have hl:=h5.len
    cases ys with
    | nil=>
      injection h1 with _ h1
      subst h1
      have hl:0=(ds++[d]).length:=hl
      rw[C7]at hl
      simp at hl
    | cons z zs=>
      injection h1 with e1 e2
      subst e1 e2
      B3⟨B0,B1,k1,k2,k3,k4⟩:=eU.Jj h5
      &⟨fK A1 B0,B1,⟨z,zs,A1,B0,rfl,fun x q q'=>h2 x q ((k4 x).mpr (.inl q')),fun x=>Iff.rfl,h4,k1⟩,k2,fun x q q'=>?_,fun x=>?_⟩
      · rcases q with q | q
        · ~h2 x q ((k4 x).mpr (.inr q'))
        · ~k3 x q q'
      · rw[h3 x]
        constructor
        · rintro(q | q)
          · ~.inl (.inl q)
          · ~((k4 x).mp q).elim (fun z=>.inl (.inr z)) .inr
        · rintro((q | q) | q)
          · ~.inl q
          · ~.inr ((k4 x).mpr (.inl q))
          · ~.inr ((k4 x).mpr (.inr q))
end
section
variable{K:aF}{B H H':Hp}{env:EN}{σ:St}{i:Nat}{v:V}{d:D}
B5 Rel.snoc(h:Rel K B env σ H)(s:aU H H')(n:Mm K H H' d v):Rel K B (env++[.own d]) (σ++[some v]) H':=by
 B3⟨A,a,b⟩:=h
 B3⟨N,o,f⟩:=n
 have cl:=jB a
 have g:aU (out H A) (out H' (fK A N)):=bU s fun x q=>q.elim .inl fun q=>.inr (f x q)
 &⟨fK A N,eU.snoc (a.mono fun e D z _ q=>q.same s g) ⟨v,rfl,o⟩ fun x q1 q2=>?_,b.trans g⟩
 B3⟨⟨u,e⟩,_⟩:=cl x q1
 rw[f x q2]at e;cases e
B5 Rel.pop{s:SD}{y:Option V}(h:Rel K B (env++[s]) (σ++[y]) H):Rel K B env σ H:=by
 B3⟨A,a,b⟩:=h
 B3⟨A0,A1,k1,k2,k3,k4⟩:=a.Jj
 have g:aU (out H A) (out H A0):=bU (aU.refl _) fun x q=>.inl ((k4 x).mpr (.inl q))
 ~⟨A0,k1.mono fun e D z _ q=>q.same (aU.refl _) g,b.trans g⟩
B5 Rel.move(h:Rel K B (env++[.own d]) (σ++[some v]) H)(hi:i<env.length):Rel K B (env.set i (.own d)) (σ.set i (some v)) H:=by
 B3⟨A,a,b⟩:=h
 B3⟨A0,A1,k1,⟨v',e,o⟩,k3,k4⟩:=a.Jj
 cases e
 B3⟨y,B1,C,f1,f2,f3,f4,f5⟩:=k1.focus (B6 hi)
 have g:aU (out H A) (out H (fK A1 C)):=bU (aU.refl _) fun x q=>.inl ((k4 x).mpr (q.elim .inr fun q=>.inl ((f3 x).mpr (.inr q))))
 ~⟨fK A1 C,f5 (fZ K H (out H (fK A1 C))) (fun e D z _ q=>q.same (aU.refl _) g) (.own d) (some v) A1 (fun x q q'=>k3 x ((f3 x).mpr (.inr q')) q) ⟨v,rfl,o⟩,b.trans g⟩
B5 Rel.give(h:Rel K B env σ H)(e:env[i]?=some (.own d)):∃v,σ[i]?=some (some v)∧Rel K B (env.set i .no++[.own d]) (σ++[some v]) H:=by
 B3⟨A,a,b⟩:=h
 B3⟨y,A1,C,h1,h2,h3,h4,k⟩:=a.focus e
 B3⟨v,rfl,o⟩:=h4
 have eA:A=fK A1 C:=funext fun x=>propext (h3 x)
 subst eA
 have s:=k _ (fun _ _ _ _ q=>q) .no (some v) nil (fun _ z=>z.elim) (fun _ z=>z)
 rw[set_same h1]at s
 have s2:=eU.snoc (d:=SD.own d) (y:=some v) (A1:=A1) s ⟨v,rfl,o⟩ (fun x q q'=>q.elim False.elim (h2 x q'))
 have eA2:(fK (fK nil C) A1)=fK A1 C:=funext fun x=>propext ⟨fun q=>q.elim (fun q=>q.elim False.elim .inr) .inl,fun q=>q.elim .inr fun q=>.inl (.inr q)⟩
 rw[eA2]at s2
 ~⟨v,h1,_,s2,b⟩
end
def jL(i:Nat)(g:GS):GS:=fun env=>match env[i]? with
 | some (.inn v d)=>(match g (env.set i (.own d))with
  | .next env'=>(match env'[i]? with
   | some (.own d')=>.next (env'.set i (.inn v d'))
   | _=>.bad)
  | _=>.bad)
 | _=>.bad
B5 aA3{K:aF}{t:TS}{g:GS}{i:Nat}(h:qm K t g):qm K t (jL i g):=fun B E σ H env r p=>by
 B4 jL at p
 split at p
 ·rename_i v d q1
  B3⟨r',hσ⟩:=r.aA1 q1
  &h B E σ H _ r' ?_
  split at p
  ·rename_i env' q2
   rw[q2]
   split at p
   ·rename_i d' q3
    ~fun H' r2=>p H' (r2.aA2 q3 hσ)
   ·~p.elim
  ·~p.elim
 ·~p.elim
B5 Jk{K:aF}{X:Cx}{st:Stmt}{t:TS}{g:GS}(i:Nat)(hp:PS X st t)(h:qm K t g):YS K X st t (jL i g):=⟨hp,(aA3 h).ds⟩
def aA4:GS:=fun _=>.bad
B5 Yp{K:aF}{X:Cx}{st:Stmt}:YS K X st yp aA4:=⟨yq,fun _ _ _ _ _ _ p=>p.elim⟩
section
variable{K:aF}{X:Cx}{st:Stmt}{sts:List Stmt}{t u tb:TS}{g g1 g2:GS}{e a b c o:Expr}{es:List Expr}{te ta t0 tv:TE}{f f0 fa fb:FE}{gk:FE}{tA:TA}{fs:FA}{tc:TT}{fc:FT}{pos apos:Pos}{i:Nat}{π:FP}
structure iZ(K:aF)(C:Addr)(nm:List Str):Prop where
 cl:zp K C
 no:∀f∈nm,Du K C f
def eQ(C:Addr)(x:Str)(d:D):Option D:=match d with
 | .ins C' nm ds=>if C'=C then(posK nm x).bind fun j=>ds[j]? else none
 | _=>none
B5 aDq{H:Hp}{C:Addr}{x:Str}{d r:D}{v:V}(q:eQ C x d=some r)(rv:Rv K H d v):∃a dx fs y,v=.ref a∧H a=some (.ins C dx fs)∧fs.lookup x=some y∧Rv K H r y:=by
 B4 eQ at q
 split at q
 ·rename_i C' nm ds
  split at q
  ·rename_i hc
   subst hc
   B3⟨j,q1,q2⟩:=aY q
   B4 Rv at rv
   B3⟨a,dx,xs,rfl,h1,h2,h3⟩:=rv
   B3⟨y,h4,h5⟩:=h3.get q2
   ~⟨a,dx,_,y,rfl,h1,by rw[Ea h2,q1];~h4,h5⟩
  ·cases q
 ·cases q
B5 dH{C:Addr}{nm:List Str}{x:Str}(F:iZ K C nm)(h:XR K X e ta f)(hx:x∈nm)(hb:attributeBase e x X.env (eval e X.env)=eval e X.env):XR K X (.Attribute e x pos) (aFn K ta x) (pY (eQ C x) f):=⟨h.hk,by have:=h.hk;subst this;~zq h.pe hb,fun σ H Z e d Q z re q k=>by
 B3⟨d0,q1,q2⟩:=aY q
 &h.ev σ H Z e d0 _ z re q1 fun v H1 Z1 s1 t1 z1 rv=>?_
 B3⟨a,dx,fs,y,rfl,h1,h2,h3⟩:=aDq q2 rv
 ~⟨a,C,dx,fs,y,rfl,z1.sm _ _ h1,F.cl,F.no x hx,h2,k y H1 Z1 s1 t1 z1 h3⟩⟩
B5 sy{H:Hp}{C:Addr}{x:Str}{w v:V}(h:stepV H (.fld C x) w=some v):∃a dx fs,w=.ref a∧H a=some (.ins C dx fs)∧fs.lookup x=some v:=by
 cases w with
 | ref a=>
  cases q:H a with
  | none=>B4 stepV at h;dsimp only at h;rw[q]at h;cases h
  | some u=>
   B4 stepV at h
   dsimp only at h
   rw[q]at h
   cases u with
   | ins C' dx fs=>
    have h2:(if C'=C then fs.lookup x else none)=some v:=h
    by_cases hc:C'=C
    ·rw[if_pos hc]at h2
     rw[←hc]
     ~⟨a,dx,fs,rfl,q,h2⟩
    ·rw[if_neg hc]at h2
     cases h2
   | _=>cases h
 | _=>B4 stepV at h;cases h
def Ac(C:Addr)(x:Str)(π:FP):FP:=fun e=>(π e).bind fun p=>some (p++[.fld C x])
B5 oK{C:Addr}{nm:List Str}{x:Str}(F:iZ K C nm)(h:XP K X a ta i π)(hx:x∈nm)(hb:attributeBase a x X.env (eval a X.env)=eval a X.env):XP K X (.Attribute a x pos) (aFn K ta x) i (Ac C x π):=⟨h.hk,by have:=h.hk;subst this;~zq h.pe hb,fun σ H e v0 p v Q re h1 h2 h3 k=>by
 B4 Ac at h2
 B3⟨p0,q1,q2⟩:=aY h2
 cases q2
 B3⟨w,w1,w2⟩:=Pk h3
 B3⟨ad,dx,fs,rfl,w3,w4⟩:=sy w2
 ~h.ev σ H e v0 p0 _ _ re h1 q1 w1 fun H1 s1=>⟨ad,C,dx,fs,v,rfl,s1 _ _ w3,F.cl,F.no x hx,w4,k H1 s1⟩⟩
end
B5 JH{x:Str}{y:V}:∀{nm:List Str} {xs:List V},nm.length=xs.length→zB x y (nm.zip xs)=(match posK nm x with | some j=>nm.zip (xs.set j y) | none=>(nm++[x]).zip (xs++[y]))
 | [],xs,h=>by
  cases xs with
  | nil=>rfl
  | cons=>simp at h
 | a::nm,[],h=>by simp at h
 | a::nm,z::xs,h=>by
  have ih:=JH (x:=x) (y:=y) (nm:=nm) (xs:=xs) (by simpa using h)
  rw[P5]
  B4 zB posK
  by_cases c:a=x
  ·rw[if_pos c,if_pos c]
   rfl
  ·rw[if_neg c,if_neg c,ih]
   cases q:posK nm x with
   | none=>rfl
   | some j=>rfl
section
variable{K:aF}{B H:Hp}{env:EN}{σ:St}
B5 tu{H:Hp}{a C dx:Addr}{fs:List (Str×V)}(h:H a=some (.ins C dx fs)):yN H a:=⟨fun ys e=>(by rw[h]at e;cases e),fun o ys e=>(by rw[h]at e;cases e)⟩
B5 Rel.aJl{i:Nat}{p:List Step}{d0:D}{C:Addr}{nm:List Str}{ds:List D}(h:Rel K B env σ H)(e:env[i]?=some (.own d0))(q:eO p d0=some (.ins C nm ds)):∃v0 a dx xs Bs,σ[i]?=some (some v0)∧Le H p v0=some (.ref a)∧H a=some (.ins C dx (nm.zip xs))∧nm.length=xs.length∧dX K H ds Bs xs ∧
    ∀H2 nm' ds' xs' Bn,aU H H2→nm'.length=xs'.length→dX K H2 ds' Bn xs'→(∀b,Bn b→Bs b∨H b=none)→Rel K B (env.set i (.own (dR p d0 (.ins C nm' ds')))) σ (upd H2 a (.ins C dx (nm'.zip xs'))):=by
  B3⟨v0,w,A1,Cc,h1,h2,h3,h4,h5,h6⟩:=h.at e q
  have hc:=Ow.cells _ _ _ h3
  B4 Ow at h3
  B3⟨a,dx,xs,Bs,rfl,o2,o2',o3,o3',aJm,o4,o5⟩:=h3
  &⟨v0,a,dx,xs,Bs,h1,h2,o2,o3,o5,fun H2 nm' ds' xs' Bn s hl o hb=>?_⟩
  have nad:dx≠a:=fun z=>by rw[z,o2]at o2';cases o2'
  have nBa:¬Bn a:=fun z=>(hb a z).elim o3' fun z=>by rw[o2]at z;cases z
  have nBd:¬Bn dx:=fun z=>(hb dx z).elim aJm fun z=>by rw[o2']at z;cases z
  have hC:∀x,Cc x→¬(x=a∨x=dx):=fun x z y=>h4 x ((o4 x).mpr (.inl y)) z
  have Ti:H2 a=some (.ins C dx (nm.zip xs)):=s a _ o2
  have nt:yN H2 a:=tu Ti
  &h6 _ (.ins C nm' ds') (fK (fun x=>x=a∨x=dx) Bn) (fun x z1 z2=>?_) (fun x z=>?_) (s.tk.trans (tE nt)) ?_ (fun x u ex=>?_)
  · rcases z1 with z1 | z1
    · ~hC x z2 z1
    · rcases hb x z1 with z | z
      · ~h4 x ((o4 x).mpr (.inr z)) z2
      · B3⟨⟨u,eu⟩,_⟩:=h5 x z2
        rw[z]at eu;cases eu
  · B3⟨⟨u,eu⟩,_⟩:=h5 x z
    rw[bQ (fun y=>hC x z (.inl y)),eu,s x u eu]
  · B4 Ow
    &⟨a,dx,xs',Bn,rfl,cJ,by rw[bQ nad];~s dx _ o2',hl,nBa,nBd,fun _=>Iff.rfl,dX.frame (tE nt) _ _ _ o fun x zx=>bQ fun y=>nBa (y▸zx)⟩
  · B3⟨e1,e2⟩:=bA.mp ex
    have na:x≠a:=fun y=>e1 (.inl ((o4 x).mpr (.inl (.inl y))))
    &bA.mpr ⟨fun z=>?_,by rw[bQ na];~s x u e2⟩
    rcases z with (z | z) | z
    · ~e1 (.inl ((o4 x).mpr (.inl z)))
    · rcases hb x z with z | z
      · ~e1 (.inl ((o4 x).mpr (.inr z)))
      · rw[z]at e2;cases e2
    · ~e1 (.inr z)
end
section
variable{K:aF}{X:Cx}{st:Stmt}{sts:List Stmt}{t u tb:TS}{g g1 g2:GS}{e a b c o:Expr}{es:List Expr}{te ta t0 tv:TE}{f f0 fa fb:FE}{gk:FE}{tA:TA}{fs:FA}{tc:TT}{fc:FT}{pos apos:Pos}{i:Nat}{π:FP}
def Vg(nm:List Str)(ds:List D)(x:Str)(d:D):List Str×List D:=match posK nm x with
 | some j=>(nm,ds.set j d)
 | none=>(nm++[x],ds++[d])
def vV(C:Addr)(i:Nat)(π:FP)(x:Str)(f:FE):GS:=fun env=>match env[i]?,π (rE env),f (rE env)with
 | some (.own d0),some p,some d=>(match eO p d0 with
  | some (.ins C' nm ds)=>if C'=C∧nm.length<900 then .next (env.set i (.own (dR p d0 (.ins C' (Vg nm ds x d).1 (Vg nm ds x d).2))))else .bad
  | _=>.bad)
 | _,_,_=>.bad
B5 aF8{C:Addr}{uc:List Str}{x:Str}(F:iZ K C uc)(hx:x∈uc)(h:EvP K ta i π)(he:Sg K te f):qm K (aFo K ta te x) (vV C i π x f):=fun B E σ H env r p=>by
 B4 vV at p
 split at p
 ·rename_i d0 pp d q1 q2 q3
  split at p
  ·rename_i C' nm ds q4
   split at p
   ·rename_i hc
    B3⟨rfl,hl⟩:=hc
    B3⟨v0,a,dx,xs,Bs,k1,k2,k3,k4,k5,k6⟩:=r.aJl q1 q4
    &he σ H (rE env) d _ r.r q3 fun y H1 s1 n=>?_
    &h σ H1 (rE env) v0 pp _ _ (r.r.same s1) k1 q2 (tG s1 k2) fun H2 s2=>?_
    have s12:=s1.trans s2
    B3⟨N,o,fr⟩:=n.same s2
    &⟨a,C',dx,_,rfl,s12 _ _ k3,F.cl,F.no x hx,by rw[Y2];omega,p _ ?_⟩
    rw[JH k4]
    B4 Vg
    cases qj:posK nm x with
    | none=>~k6 H2 (nm++[x]) (ds++[d]) (xs++[y]) (fK Bs N) s12 (by simp[k4]) (cG.mpr ((cG.mp (k5.same s12)).snoc o (Pn (H1:=H) k5 fr))) fun b z=>z.imp id (fr b)
    | some j=>
     have hj:=(rN qj).1
     have hlen:=(dX.rv _ _ _ k5).length
     B3⟨y0,A1,Cc,f1,f2,f3,f4,f5⟩:=(cG.mp (k5.same s12)).focus (B6 (show j<ds.length by omega))
     have ap:Apart N Cc:=fun x q1 q2=>Pn (H1:=H) k5 fr x ((f3 x).mpr (.inr q2)) q1
     ~k6 H2 nm (ds.set j d) (xs.set j y) (fK N Cc) s12 (by rw[J5];~k4) (cG.mpr (f5 (Ow K H2) (fun _ _ _ _ qq=>qq) d y N ap o)) fun b z=>z.elim (fun z=>.inr (fr b z)) fun z=>.inl ((f3 b).mpr (.inr z))
   ·~p.elim
  ·~p.elim
 ·~p.elim
end
end L2


namespace L2
open PySem PySem.Spec PySem.Calls PyProof.Rows PyProof.V
section
variable{K:aF}{B H H':Hp}{env:EN}{σ:St}{i:Nat}{p:List Step}{d0 d:D}
B5 lO.same{a:Addr}(h:lO H a)(s:aU H H'):lO H' a:=by
 B3⟨⟨o,e⟩,n⟩:=h
 have e':=s _ _ e
 ~⟨⟨o,e'⟩,fun xs z=>n.1 xs (by rw[e,←e'];~z),fun u xs z=>n.2 u xs (by rw[e,←e'];~z)⟩
B5 aA5{A:Fp}(c:∀x,A x→lO H x):Zn K A (out H A) H:=⟨kW H A,Oj fun x q=>(c x q).2,fun x q=>⟨by B4 out;rw[if_pos q],fun z=>by B3⟨⟨o,e⟩,_⟩:=c x q;rw[z]at e;cases e⟩⟩
B5 aEC{A:Fp}{Z:Hp}(z:Zn K A Z H):aU Z (out H A):=fun x o e=>bA.mpr ⟨fun q=>(by rw[(z.no x q).1]at e;cases e),z.sm x o e⟩
B5 Rel.atR(h:Rel K B env σ H)(e:env[i]?=some (.own d0))(q:eO p d0=some d):∃v0 w A1 C,σ[i]?=some (some v0)∧Le H p v0=some w∧Ow K H d A1 w∧Apart A1 C∧(∀a,C a→lO H a)∧yO K (out H A1) (rE (env.set i .no)) σ ∧
    ∀H' d' r x A' A2,Apart A' C→Apart A2 C→Apart A' A2→(∀a,C a→H' a=H a)→vP K H H'→Ow K H' d' A' w→Ow K H' r A2 x→aU (out H (fK A1 C)) (out H' (fK (fK A' A2) C))→Rel K B (env.set i (.own (dR p d0 d'))++[.own r]) (σ++[some x]) H':=by
  B3⟨A,a,b⟩:=h
  have cl:=jB a
  B3⟨y,A1,C,h1,h2,h3,h4,k⟩:=a.focus e
  B3⟨v0,rfl,o⟩:=h4
  B3⟨w,B1,C1,g1,g2,g3,g4,g5⟩:=o.at q
  &⟨v0,w,B1,fK C1 C,h1,g1,g4,fun x z1 z2=>?_,fun x z=>?_,?_,fun H' d' r x A' A2 ap apr apx fr tk o' o'' sm=>?_⟩
  · ~z2.elim (g2 x z1) (h2 x ((g3 x).mpr (.inl z1)))
  · ~cl x ((h3 x).mpr (z.elim (fun z=>.inl ((g3 x).mpr (.inr z))) .inr))
  · intro j dj qj
    B4 rE at qj
    rw[B8]at qj
    cases ej:(env.set i .no)[j]? with
    | none=>rw[ej]at qj;cases qj
    | some sd=>
      rw[ej]at qj
      have ne:i≠j:=fun z=>by
        subst z
        rw[G6 (D1.mp e).1]at ej
        cases ej
        cases qj
      have S':=k (fZ K H (out H A)) (fun _ _ _ _ q=>q) .no none nil (fun _ z=>z.elim) fun _ z=>z
      B3⟨y,Ak,Ck,f1,f2,f3,f4,_⟩:=S'.focus ej
      rw[F8,if_neg ne]at f1
      have hB:∀x,B1 x→A x:=fun x z=>(h3 x).mpr (.inl ((g3 x).mpr (.inl z)))
      have apk:Apart Ak B1:=fun x z1 z2=>h2 x ((g3 x).mpr (.inl z2)) (((f3 x).mpr (.inl z1)).elim False.elim id)
      cases sd with
      | no=>cases qj
      | fro d1=>
        cases qj
        B3⟨_,v1,rfl,f5⟩:=f4
        ~⟨v1,f1,(bU (aU.refl _) fun x q=>.inl (hB x q):aU (out H A) (out H B1)).rv _ _ f5⟩
      | own d1=>
        cases qj
        B3⟨v1,rfl,f5⟩:=f4
        ~⟨v1,f1,f5.out apk fun x q=>(cl x (hB x q)).2⟩
      | inn v1 d1=>
        cases qj
        B3⟨rfl,f5⟩:=f4
        ~⟨v1,f1,f5.out apk fun x q=>(cl x (hB x q)).2⟩
  · have o2:=g5 H' d' A' (fun x z1 z2=>ap x z1 (.inl z2)) (fun x z=>fr x (.inl z)) tk o'
    have ap2:Apart (fK A' C1) C:=fun x z1 z2=>z1.elim (fun z=>ap x z (.inr z2)) fun z=>h2 x ((g3 x).mpr (.inr z)) z2
    have hA:Is A (fK B1 (fK C1 C)):=fun x=>by
      rw[h3 x]
      constructor
      · rintro(z | z)
        · ~((g3 x).mp z).elim .inl fun z=>.inr (.inl z)
        · ~.inr (.inr z)
      · rintro(z | z | z)
        · ~.inl ((g3 x).mpr (.inl z))
        · ~.inl ((g3 x).mpr (.inr z))
        · ~.inr z
    have g:aU (out H A) (out H' (fK (fK (fK A' C1) C) A2)):=fun x u ex=>by
      B3⟨e1,e2⟩:=bA.mp ex
      have:=sm x u (bA.mpr ⟨fun z=>e1 ((hA x).mpr z),e2⟩)
      B3⟨e3,e4⟩:=bA.mp this
      &bA.mpr ⟨fun z=>e3 ?_,e4⟩
      rcases z with ((z | z) | z) | z
      · ~.inl (.inl z)
      · ~.inr (.inl z)
      · ~.inr (.inr z)
      · ~.inl (.inr z)
    have s:=k (fZ K H' (out H' (fK (fK (fK A' C1) C) A2))) (fun s D z hb qq=>by
      cases s with
      | no=>~qq
      | fro d=>B3⟨q1,v,q2,q3⟩:=qq;~⟨q1,v,q2,g.rv _ _ q3⟩
      | inn v d=>~⟨qq.1,Ow.frame tk _ _ _ qq.2 fun x zx=>fr x (.inr (hb x zx))⟩
      | own d=>B3⟨v,q1,q2⟩:=qq;~⟨v,q1,Ow.frame tk _ _ _ q2 fun x zx=>fr x (.inr (hb x zx))⟩) (.own (dR p d0 d')) (some v0) (fK A' C1) ap2 ⟨v0,rfl,o2⟩
    rw[set_same h1]at s
    &⟨_,eU.snoc s ⟨x,rfl,o''⟩ fun y z1 z2=>?_,b.trans g⟩
    rcases z1 with (z | z) | z
    · ~apx y z z2
    · ~apr y z2 (.inl z)
    · ~apr y z2 (.inr z)
def spS(K:aF)(m:Nat)(F:List D→Option (D×D)):Sp:=fun vs H Q _=>∃d es v ws A r d',vs=v::ws∧es.length+1=m∧Ow K H d A v∧eY K (out H A) es ws∧F (d::es)=some (r,d')∧∀w H' A' A2,Ow K H' d' A' v→Ow K H' r A2 w→Apart A' A2→aU (out H A) (out H' (fK A' A2))→Q w H'
B5 JK{m:Nat}{F:List D→Option (D×D)}{E:XK}{Q:VK}{es:List D}{r d':D}(h:Rel K B env σ H)(e:env[i]?=some (.own d0))(q:eO p d0=some d)(hl:es.length+1=m)(hF:F (d::es)=some (r,d'))(k:∀w H',Rel K B (env.set i (.own (dR p d0 d'))++[.own r]) (σ++[some w]) H'→Q w H') :
  ∃v0 w0 A1,σ[i]?=some (some v0)∧Le H p v0=some w0∧Ow K H d A1 w0∧yO K (out H A1) (rE (env.set i .no)) σ∧∀H2 vs,aU H H2→eY K (out H2 A1) es vs→spS K m F (w0::vs) H2 Q E:=by
 B3⟨v0,w,A1,C,h1,h2,h3,h4,h5,h6,h7⟩:=h.atR e q
 have c1:=Ow.cells _ _ _ h3
 &⟨v0,w,A1,h1,h2,h3,h6,fun H2 vs s rvs=>⟨d,es,w,vs,A1,r,d',rfl,hl,h3.same s,rvs,hF,fun x H3 A' A2 o1 o2 ap sm=>k x H3 ?_⟩⟩
 have hC:∀y,C y→¬A' y∧¬A2 y∧H3 y=H y:=fun y hy=>by
  B3⟨⟨u,eu⟩,_⟩:=h5 y hy
  B3⟨n1,n2⟩:=bA.mp (sm y u (bA.mpr ⟨fun z=>h4 y z hy,s y u eu⟩))
  ~⟨fun z=>n1 (.inl z),fun z=>n1 (.inr z),n2.trans eu.symm⟩
 have tk:vP K H H3:=(Oj fun x q=>(c1 x q).2).trans ((bU s fun x q=>.inl q:aU (out H A1) (out H2 A1)).trans (sm.trans (kW _ _))).tk
 &h7 H3 d' r x A' A2 (fun y z1 z2=>(hC y z2).1 z1) (fun y z1 z2=>(hC y z2).2.1 z1) ap (fun y hy=>(hC y hy).2.2) tk o1 o2 fun y u ey=>?_
 B3⟨e1,e2⟩:=bA.mp ey
 B3⟨n1,n2⟩:=bA.mp (sm y u (bA.mpr ⟨fun z=>e1 (.inl z),s y u e2⟩))
 ~bA.mpr ⟨fun z=>z.elim n1 fun z=>e1 (.inr z),n2⟩
def SD.hold:SD→Option (D×(D→SD))
 | .own d=>some (d,.own)
 | .inn v d=>some (d,.inn v)
 | _=>none
B5 aA6{m:Nat}{F:List D→Option (D×D)}{E:XK}{Q:VK}{es:List D}{r d':D}{back:D→SD}(h:Rel K B env σ H)(e:env[i]?.bind SD.hold=some (d0,back))(q:eO p d0=some d)(hl:es.length+1=m)(hF:F (d::es)=some (r,d'))(k:∀w H',Rel K B (env.set i (back (dR p d0 d'))++[.own r]) (σ++[some w]) H'→Q w H') :
  ∃v0 w0 A1,σ[i]?=some (some v0)∧Le H p v0=some w0∧Ow K H d A1 w0∧yO K (out H A1) (rE (env.set i .no)) σ∧∀H2 vs,aU H H2→eY K (out H2 A1) es vs→spS K m F (w0::vs) H2 Q E:=by
 B3⟨s,e1,e2⟩:=aY e
 cases s with
 | no=>cases e2
 | fro d=>cases e2
 | own d=>cases e2;~JK h e1 q hl hF k
 | inn v d=>
  cases e2
  B3⟨r',hσ⟩:=h.aA1 e1
  have hi:i<env.length:=(D1.mp e1).1
  have:=JK (E:=E) (Q:=Q) r' (G6 hi) q hl hF fun w H' rr=>by
   rw[R4]at rr
   have r2:=rr.aA2 (i:=i) (v:=v) (d:=dR p d0 d') (by rw[G9 (by rw[J5];~hi)];~G6 hi) (by
    have hl:=h.len
    rw[G9 A6]
    ~hσ)
   rw[List.set_append_left _ _ (by rw[J5];~hi),R4]at r2
   ~k w H' r2
  rw[R4]at this
  ~this
end
abbrev GM:=EN→Option (D×EN)
def EvM(K:aF)(t:TE)(g:GM):Prop:=∀(B:Hp)(σ:St)(H:Hp)(env:EN)(d:D)(env':EN)(Q:VK),Rel K B env σ H→g env=some (d,env')→(∀v H',Rel K B (env'++[.own d]) (σ++[some v]) H'→Q v H')→t σ H Q
structure XM(K:aF)(X:Cx)(e:Expr)(t:TE)(g:GM):Prop where
 hk:X.K=K
 pe:PE X e t
 ev:EvM K t g
abbrev GB:=EN→Option (Bool×EN)
def aHR(K:aF)(t:TT)(g:GB):Prop:=∀(B:Hp)(σ:St)(H:Hp)(env:EN)(b:Bool)(env':EN)(Q:Bool→Hp→Prop),Rel K B env σ H→g env=some (b,env')→(∀H',Rel K B env' σ H'→Q b H')→t σ H Q
structure XTM(K:aF)(X:Cx)(e:Expr)(t:TT)(g:GB):Prop where
 hk:X.K=K
 pt:PT X e t
 ev:aHR K t g
structure XWM(K:aF)(X:Cx)(e:Expr)(t:TT)(g:GB):Prop where
 hk:X.K=K
 pw:PW X e t
 ev:aHR K t g
abbrev FA2:=DE→DE→Option (List D)
def aHS(K:aF)(t:TA)(fs:FA2):Prop:=∀(A1:Fp)(σ:St)(H:Hp)(eF eZ:DE)(ds:List D)(Q:List V→Hp→Prop),(∀x,A1 x→lO H x)→yO K H eF σ→yO K (out H A1) eZ σ→fs eF eZ=some ds →
 (∀vs H',aU H H'→eY K (out H' A1) ds vs→Q vs H')→t σ H Q
structure XAB(K:aF)(X:Cx)(es:List Expr)(t:TA)(fs:FA2):Prop where
 hk:X.K=K
 pa:PA X es t
 ev:aHS K t fs
section
variable{K:aF}{X:Cx}{st:Stmt}{sts:List Stmt}{t u tb:TS}{g:GM}{g1 g2:GS}{e a b c o:Expr}{es rest:List Expr}{te ta t0 tv:TE}{f f0 fa fb:FE}{tA:TA}{fs:FA2}{tc td:TT}{fc:FT}{gb gc:GB}{pos apos:Pos}{i:Nat}{π:FP}
def mX:FA2:=fun _ _=>some []
def Cz(f:FE)(fs:FA2):FA2:=fun eF eZ=>(f eZ).bind fun d=>(fs eF eZ).map fun r=>d::r
def gr(f:FE)(fs:FA2):FA2:=fun eF eZ=>(f eF).bind fun d=>(fs eF eZ).map fun r=>d::r
B5 nW(hk:X.K=K:=by rfl):XAB K X [] nG mX:=⟨hk,jY,fun A1 σ H eF eZ ds Q c re rz q k=>by
 cases q
 ~k [] H (aU.refl _) (by B4 eY;rfl)⟩
B5 jW(h:XR K X e te f)(hs:XAB K X es tA fs)(hst:starEach (e::es) X.env=(false,eval e X.env)::starEach es X.env:=by rfl):XAB K X (e::es) (fY te tA) (Cz f fs):=⟨h.hk,fD h.pe hs.pa hst,fun A1 σ H eF eZ ds Q c re rz q k=>by
 B3⟨d,q1,q2⟩:=aY q
 B3⟨ds',q3,rfl⟩:=lN q2
 &h.ev σ H (out H A1) eZ d _ (aA5 c) rz q1 fun v H1 Z1 s1 t1 z1 rv=>?_
 &hs.ev A1 σ H1 eF eZ ds' _ (fun x q=>(c x q).same s1) (re.same s1) (rz.same (bU s1 fun x q=>.inl q)) q3 fun vs H2 s2 rvs=>?_
 &k (v::vs) H2 (s1.trans s2) ?_
 B4 eY
 ~⟨v,vs,rfl,((aEC z1).trans (bU s2 fun x q=>.inl q)).rv _ _ rv,rvs⟩⟩
B5 Lg(h:XN K X e te f)(hs:XAB K X es tA fs)(hst:starEach (e::es) X.env=(false,eval e X.env)::starEach es X.env:=by rfl):XAB K X (e::es) (fY te tA) (gr f fs):=⟨h.hk,fD h.pe hs.pa hst,fun A1 σ H eF eZ ds Q c re rz q k=>by
 B3⟨d,q1,q2⟩:=aY q
 B3⟨ds',q3,rfl⟩:=lN q2
 &h.ev σ H eF d _ re q1 fun v H1 s1 n=>?_
 have c1:∀x,A1 x→lO H1 x:=fun x q=>(c x q).same s1
 &hs.ev A1 σ H1 eF eZ ds' _ c1 (re.same s1) (rz.same (bU s1 fun x q=>.inl q)) q3 fun vs H2 s2 rvs=>?_
 &k (v::vs) H2 (s1.trans s2) ?_
 B3⟨N,o,fr⟩:=n
 B4 eY
 &⟨v,vs,rfl,(bU s2 fun x q=>.inl q:aU (out H1 A1) (out H2 A1)).rv _ _ (o.out (fun x z1 z2=>?_) fun x q=>(c1 x q).2),rvs⟩
 B3⟨⟨u,eu⟩,_⟩:=c x z2
 rw[fr x z1]at eu;cases eu⟩
structure cU(P:Program)(w:World)(K:aF)(mg:Str→Option Value)(base:Heap)(C:Addr)(m:Str)(k n:Nat)(df:Bool)(sp:Sp):Prop where
 ex:∃f fd ps,ps.length=n∧zF P w K mg base CZ k f fd ps sp∧Binds K fd ps []∧(df=true→Binds K fd ps [Value.none])∧Meth K C m f
B5 Vh{nm:List Str}{xs:List V}{m:Str}(h:nm.length=xs.length)(n:m∉nm):(nm.zip xs).lookup m=none:=by
 rw[Ea h,Bg.mpr n]
 rfl
def pM(C:Addr)(m:Str)(i:Nat)(π:FP)(F:List D→Option (D×D))(fs:FA2):GM:=fun env=>match env[i]?.bind SD.hold,π (rE env),fs (rE env) (rE (env.set i .no))with
 | some (d0,back),some p,some es=>(match eO p d0 with
  | some (.ins C' nm ds)=>if C'=C∧m∉nm then(F (.ins C' nm ds::es)).map fun rd=>(rd.1,env.set i (back (dR p d0 rd.2)))else none
  | _=>none)
 | _,_,_=>none
B5 gw{C:Addr}{m:Str}{n:Nat}{F:List D→Option (D×D)}{Ik:List V}{ud:List D}(hF:∀d es p,F (d::es)=some p→es.length+1=n)(hd:∀H,eY K H ud Ik)(ho:EvP K ta i π)(ha:aHS K tA fs):EvM K (Kz C m (spS K n F) Ik E0 ta tA) (pM C m i π F (fun eF eZ=>(fs eF eZ).map (·++ud))):=fun B σ H env d env' Q r q k=>by
 B4 pM at q
 split at q
 ·rename_i d0 back p es' q1 q2 q3
  B3⟨es,q3a,rfl⟩:=lN q3
  split at q
  ·rename_i C' nm ds q4
   split at q
   ·rename_i hc
    B3⟨rfl,hm⟩:=hc
    B3⟨⟨r1,d1⟩,q5,q6⟩:=lN q
    cases q6
    B3⟨v0,w0,A1,k1,k2,k3,k4,k5⟩:=aA6 (E:=E0) (Q:=Q) r q1 q4 (hF _ _ _ q5) q5 k
    have c1:=Ow.cells _ _ _ k3
    have k3':=k3
    B4 Ow at k3
    B3⟨a,dx,xs,Bs,rfl,o2,o2',o3,_⟩:=k3
    &ho σ H (rE env) v0 p _ _ r.r k1 q2 k2 fun H1 s1=>⟨a,dx,_,rfl,s1 _ _ o2,Vh o3 hm,?_⟩
    &ha A1 σ H1 (rE env) (rE (env.set i .no)) es _ (fun x q=>(c1 x q).same s1) (r.r.same s1) (k4.same (bU s1 fun x q=>.inl q)) q3a fun vs H2 s2 rvs=>?_
    ~k5 H2 (vs++Ik) (s1.trans s2) (rvs.append (hd _))
   ·cases q
  ·cases q
 ·cases q
B5 rQ{C:Addr}{m:Str}{k n:Nat}{df:Bool}{F:List D→Option (D×D)}{uc:List Str}{pl:Sem Bool}(Cm:cU X.prog X.w X.K X.mg X.base C m k n df (spS K n F))(Fc:iZ K C uc)(hF:∀d es p,F (d::es)=some p→es.length+1=n)(hr:jR k X.A)(ho:XP K X o ta i π)(ha:XAB K X (e::es) tA fs)
  (hst:starEach (e::es) X.env=(false,eval e X.env)::starEach es X.env:=by rfl) (hpl:(backTo pos (starEach es X.env)).any (·.1)=false:=by rfl)
  (ht:eval (.Call (.Attribute o m apos) (e::es) [] pos) X.env=(do
   let ov ←eval o X.env
   standAt apos.atName
   let (f,first) ←holding [ov] (getMethod ov m pl)
   callWith pos f first (backTo pos (starEach (e::es) X.env)) (backToKw pos (keywordEach [] X.env))):=by rfl):XM K X (.Call (.Attribute o m apos) (e::es) [] pos) (Kz C m (spS K n F) [] E0 ta tA) (pM C m i π F (fun eF eZ=>(fs eF eZ).map (·++[]))):=by
 have hk:=ho.hk
 subst hk
 B3⟨f,fd,ps,_,Fo,hb,_,hm⟩:=Cm.ex
 ~⟨rfl,Xj (pl:=pl) ho.pe Fc.cl hm Fo hr hb .nil Ut ha.pa hst hpl ht,gw hF (fun H=>by B4 eY;rfl) ho.ev ha.ev⟩
B5 Qa{C:Addr}{m:Str}{k n:Nat}{F:List D→Option (D×D)}{uc:List Str}{pl:Sem Bool}(Cm:cU X.prog X.w X.K X.mg X.base C m k n true (spS K n F))(Fc:iZ K C uc)(hF:∀d es p,F (d::es)=some p→es.length+1=n)(hr:jR k X.A)(ho:XP K X o ta i π)(ha:XAB K X (e::es) tA fs)
  (hst:starEach (e::es) X.env=(false,eval e X.env)::starEach es X.env:=by rfl) (hpl:(backTo pos (starEach es X.env)).any (·.1)=false:=by rfl)
  (ht:eval (.Call (.Attribute o m apos) (e::es) [] pos) X.env=(do
   let ov ←eval o X.env
   standAt apos.atName
   let (f,first) ←holding [ov] (getMethod ov m pl)
   callWith pos f first (backTo pos (starEach (e::es) X.env)) (backToKw pos (keywordEach [] X.env))):=by rfl):XM K X (.Call (.Attribute o m apos) (e::es) [] pos) (Kz C m (spS K n F) [.non] E0 ta tA) (pM C m i π F (fun eF eZ=>(fs eF eZ).map (·++[.non]))):=by
 have hk:=ho.hk
 subst hk
 B3⟨f,fd,ps,_,Fo,_,hb,hm⟩:=Cm.ex
 ~⟨rfl,Xj (pl:=pl) ho.pe Fc.cl hm Fo hr (hb rfl) (.cons rfl .nil) Ut ha.pa hst hpl ht,gw hF (fun H=>by B4 eY;~⟨_,_,rfl,by B4 Rv;rfl,by B4 eY;rfl⟩) ho.ev ha.ev⟩
def bK(C:Addr)(m:Str)(n:Nat)(F:List D→Option D)(fo:FE)(fs:FA)(ud:List D):FE:=fun e=>(fo e).bind fun d0=>match d0 with
 | .ins C' nm ds=>if C'=C∧m∉nm then(fs e).bind fun es=>if es.length+ud.length+1=n then F (.ins C' nm ds::(es++ud))else none else none
 | _=>none
B5 ie{fsA:FA}{C:Addr}{m:Str}{n:Nat}{F:List D→Option D}{Ik:List V}{ud:List D}(hd:∀H,eY K H ud Ik)(ho:Iz K ta f)(ha:EvA K tA fsA):Sg K (Kz C m (iD K n F) Ik E0 ta tA) (bK C m n F f fsA ud):=fun σ H e d Q re q k=>by
 B3⟨d0,q1,q2⟩:=aY q
 split at q2
 ·rename_i C' nm ds
  split at q2
  ·rename_i hc
   B3⟨rfl,hm⟩:=hc
   B3⟨es,q3,q4⟩:=aY q2
   split at q4
   ·rename_i hl
    &ho σ H H e _ _ (Zn.self K H) re q1 fun v H1 Z1 s1 t1 z1 rv=>?_
    have rv1:=z1.sm.rv _ _ rv
    have aJp:=rv1
    B4 Rv at rv1
    B3⟨a,dx,xs,rfl,h1,h2,h3⟩:=rv1
    &⟨a,dx,_,rfl,h1,Vh h2 hm,?_⟩
    &ha σ H1 H1 e es _ (Zn.self K H1) (re.same s1) q3 fun vs H2 Z2 s2 t2 z2 rvs=>?_
    &⟨_::(es++ud),d,by rw[E9,C7];omega,?_,q4,fun w H3 s3 nw=>k w H3 (s1.trans (s2.trans s3)) (nw.back (s1.trans s2))⟩
    B4 eY
    ~⟨_,_,rfl,s2.rv _ _ aJp,(z2.sm.TJ _ _ rvs).append (hd _)⟩
   ·cases q4
  ·cases q2
 ·cases q2
B5 cM{fsA:FA}{C:Addr}{m:Str}{k n:Nat}{df:Bool}{F:List D→Option D}{uc:List Str}{pl:Sem Bool}(Cm:cU X.prog X.w X.K X.mg X.base C m k n df (iD K n F))(Fc:iZ K C uc)(hr:jR k X.A)(ho:XR K X o ta f)(ha:XA K X (e::es) tA fsA)
  (hst:starEach (e::es) X.env=(false,eval e X.env)::starEach es X.env:=by rfl) (hpl:(backTo pos (starEach es X.env)).any (·.1)=false:=by rfl)
  (ht:eval (.Call (.Attribute o m apos) (e::es) [] pos) X.env=(do
   let ov ←eval o X.env
   standAt apos.atName
   let (f,first) ←holding [ov] (getMethod ov m pl)
   callWith pos f first (backTo pos (starEach (e::es) X.env)) (backToKw pos (keywordEach [] X.env))):=by rfl):XN K X (.Call (.Attribute o m apos) (e::es) [] pos) (Kz C m (iD K n F) [] E0 ta tA) (bK C m n F f fsA []):=by
 have hk:=ho.hk
 subst hk
 B3⟨f,fd,ps,_,Fo,hb,_,hm⟩:=Cm.ex
 ~⟨rfl,Xj (pl:=pl) ho.pe Fc.cl hm Fo hr hb .nil Ut ha.pa hst hpl ht,ie (fun H=>by B4 eY;rfl) ho.ev ha.ev⟩
B5 kZ{C:Addr}{m:Str}{k n:Nat}{df:Bool}{F:List D→Option D}{uc:List Str}{pl:Sem Bool}(Cm:cU X.prog X.w X.K X.mg X.base C m k n df (iD K n F))(Fc:iZ K C uc)(hr:jR k X.A)(ho:XR K X o ta f)
  (ht:eval (.Call (.Attribute o m apos) [] [] pos) X.env=(do
   let ov ←eval o X.env
   standAt apos.atName
   let (f,first) ←holding [ov] (getMethod ov m pl)
   callWith pos f first (backTo pos (starEach [] X.env)) (backToKw pos (keywordEach [] X.env))):=by rfl):XN K X (.Call (.Attribute o m apos) [] [] pos) (Kz C m (iD K n F) [] E0 ta nG) (bK C m n F f aK []):=by
 have hk:=ho.hk
 subst hk
 B3⟨f,fd,ps,_,Fo,hb,_,hm⟩:=Cm.ex
 ~⟨rfl,aAb (pl:=pl) ho.pe Fc.cl hm Fo hr hb .nil Ut ht,ie (fun H=>by B4 eY;rfl) ho.ev aAv⟩
structure ue(P:Program)(w:World)(K:aF)(mg:Str→Option Value)(base:Heap)(x:Str)(C:Addr)(k n:Nat)(sp:Sp):Prop where
 ex:∃f fd ps,ps.length=n∧zF P w K mg base CZ k f fd ps sp∧Binds K fd ps []∧Mk K C f∧mg x=some (.ref C)
def Vi(C:Addr)(F:List D→Option (D×D))(fs:FA):FE:=fun e=>(fs e).bind fun es=>match F (.ins C [] []::es)with
 | some (.non,d')=>some d'
 | _=>none
B5 Yq{fsA:FA}{x:Str}{C:Addr}{k n:Nat}{F:List D→Option (D×D)}{p:Pos}(Ci:ue X.prog X.w X.K X.mg X.base x C k n (spS K n F))(hF:∀d es p,F (d::es)=some p→es.length+1=n)(hr:jR (k+1) X.A)(hg:Gl X x)(ha:XA K X (e::es) tA fsA)(hdb:(x==("__debug__" : Str))=false:=by decide)
  (he:starEach (e::es) X.env=(false,eval e X.env)::starEach es X.env:=by rfl) (hpl:(backTo pos (starEach es X.env)).any (·.1)=false:=by rfl):XN K X (.Call (.Name x p) (e::es) [] pos) (aEb C (spS K n F) [] E0 tA) (Vi C F fsA):=by
 have hk:=ha.hk
 subst hk
 B3⟨f,fd,ps,_,Fo,hb,M,hm⟩:=Ci.ex
 &⟨rfl,aCH M Fo hr hg hm hb .nil Ut ha.pa hdb he hpl,fun σ H e d Q re q k=>?_⟩
 B3⟨es,q1,q2⟩:=aY q
 split at q2
 ·rename_i d' q3
  cases q2
  &ha.ev σ H H e es _ (Zn.self _ H) re q1 fun vs H1 Z1 s1 t1 z1 rvs=>fun x dx nx ndx ne=>?_
  have s0:aU H1 (upd (upd H1 dx (.own x)) x (.ins C dx [])):=fun b o eb=>by
   rw[bQ (iQ eb nx),bQ (iQ eb ndx)]
   ~eb
  have so:aU H1 (out (upd (upd H1 dx (.own x)) x (.ins C dx [])) (fun y=>y=x∨y=dx)):=fun b o eb=>bA.mpr ⟨fun z=>z.elim (iQ eb nx) (iQ eb ndx),s0 b o eb⟩
  &⟨.ins C [] [],es,.ref x,vs++[],(fun y=>y=x∨y=dx),.non,_,rfl,hF _ _ _ q3,?_,?_,q3,fun w H2 A' A2 o1 o2 ap sm=>⟨?_,k (.ref x) H2 (fun b o eb=>?_) ⟨A',o1,fun b hb=>?_⟩⟩⟩
  ·B4 Ow
   &⟨x,dx,[],nil,rfl,cJ,by rw[bQ ne,cJ],rfl,fun z=>z,fun z=>z,fun y=>⟨.inl,fun z=>z.elim id False.elim⟩,?_⟩
   B4 dX
   ~⟨fun _ z=>z,rfl⟩
  ·rw[F9]
   ~(z1.sm.trans so).TJ _ _ rvs
  ·have:=Ow.rv _ _ _ o2
   B4 Rv at this
   ~this
  ·~(bA.mp (sm b o ((s1.trans so) b o eb))).2
  ·cases eb:H b with
   | none=>rfl
   | some o=>~absurd (.inl hb) (bA.mp (sm b o ((s1.trans so) b o eb))).1
 ·cases q2
B5 aJq(h:XN K X e te f):XM K X e te (fun env=>(f (rE env)).map fun d=>(d,env)):=⟨h.hk,h.pe,fun B σ H env d env' Q r q k=>by
 B3⟨d0,q1,q2⟩:=lN q
 cases q2
 ~h.ev σ H (rE env) d Q r.r q1 fun v H' s n=>k v H' (r.snoc s n)⟩
def gbV(g:GM):GB:=fun env=>(g env).bind fun de=>match de.1 with
 | .bl b=>some (b,de.2)
 | _=>none
def gbT(f:FT):GB:=fun env=>(f (rE env)).map fun b=>(b,env)
def aKj(g:GB):GB:=fun env=>(g env).map fun be=>(!be.1,be.2)
def aKk(g h:GB):GB:=fun env=>(g env).bind fun be=>if be.1=true then h be.2 else some (false,be.2)
def aLe(g h:GB):GB:=fun env=>(g env).bind fun be=>if be.1=true then some (true,be.2)else h be.2
def aLf(φ:D→D→Option D)(g:GM)(f:FE):GM:=fun env=>(g env).bind fun de=>(f (rE de.2)).bind fun d2=>(φ de.1 d2).bind fun r=>if r.jK=true then some (r,de.2)else none
def Gj(i:Nat)(g:GM):GS:=fun env=>match g env with
 | some (d,env')=>if i<env'.length then .next (env'.set i (.own d))else .bad
 | none=>.bad
B5 Mv{x:Str}{pos':Pos}(h:XM K X e te g)(hp:PE X e te→PS X (.Assign [.Name x pos'] e pos) (uD te (iR i))):YS K X (.Assign [.Name x pos'] e pos) (uD te (iR i)) (Gj i g):=⟨hp h.pe,fun B E σ H env r p=>by
 B4 Gj at p
 split at p
 ·rename_i d env' q
  split at p
  ·rename_i hi
   ~h.ev B σ H env d env' _ r q fun v H' r'=>p _ _ (r'.move hi)
  ·~p.elim
 ·~p.elim⟩
def vD(g:GM):GS:=fun env=>match g env with
 | some (_,env')=>.next env'
 | none=>.bad
B5 Ad(h:XM K X e te g)(hs:swapsWith e none pos.line X.env=pure false:=by rfl):YS K X (.Expr e pos) (nD te) (vD g):=⟨lH h.pe hs,fun B E σ H env r p=>by
 B4 vD at p
 split at p
 ·rename_i d env' q
  ~h.ev B σ H env d env' _ r q fun v H' r'=>p _ _ r'.pop
 ·~p.elim⟩
def Ae(g:GM):GS:=fun env=>match g env with
 | some (d,env')=>.rete d env'
 | none=>.bad
B5 Gk(h:XM K X e te g):YS K X (.Return (some e) pos) (yo te) (Ae g):=⟨Xc h.pe,fun B E σ H env r p=>by
 B4 Ae at p
 split at p
 ·rename_i d env' q
  ~h.ev B σ H env d env' _ r q fun v H' r'=>p v σ H' r'
 ·~p.elim⟩
def wY(i:Nat):GS:=fun env=>match env[i]? with
 | some (.own d)=>.rete d (env.set i .no)
 | some (.fro d)=>if d.jK=true then .rete d env else .bad
 | _=>.bad
B5 Gm(h:PE X e (qN i)):YS K X (.Return (some e) pos) (yo (qN i)) (wY i):=⟨Xc h,fun B E σ H env r p=>by
 B4 wY at p
 split at p
 ·rename_i d q
  B3⟨v,hv,r'⟩:=r.give q
  ~⟨v,hv,p v σ H r'⟩
 ·rename_i d q
  split at p
  ·rename_i im
   B3⟨v,hv,rv⟩:=r.r i d (by B4 rE;rw[B8,q];rfl)
   ~⟨v,hv,p v σ H (r.snoc (aU.refl _) (.jK im rv))⟩
  ·~p.elim
 ·~p.elim⟩
def aLg(g:GB)(g1 g2:GS):GS:=fun env=>match g env with
 | some (true,env')=>g1 env'
 | some (false,env')=>g2 env'
 | none=>.bad
end
end L2


namespace L2
open PySem PySem.Spec PySem.Calls PyProof.Rows PyProof.V
def aHT(K:aF)(dN:Bool)(dV:Value):Prop:=match dN with
 | false=>dV=.none
 | true=>∃T o n,dV=.ref T∧K.lookup T=some o∧o.data=.seq #[.none] n
structure JL(K:aF)(f:Addr)(m q:Str)(st:Stmt)(dN:Bool):Prop where
 ex:∃(oc:Value)(od:Option Addr)(dV kV doc pm:Value)(an:Option Addr)(cdv ct:Value)(osl:Array (Option Value)),
  K.lookup f=some ⟨oc,od,.func (F6 m q (fP st) (cH st) (aM st) dV kV doc pm an cdv ct),osl⟩∧K4 K cdv q=true∧aHT K dN dV
structure gB(K:aF)(C:Addr)(m q:Str)(st:Stmt)(dN:Bool):Prop where
 ex:∃f,JL K f m q st dN∧Meth K C m f
structure JM(K:aF)(mg:Str→Option Value)(x:Str)(C:Addr)(q:Str)(st:Stmt):Prop where
 ex:∃f,JL K f "__init__" q st false∧Mk K C f∧mg x=some (.ref C)
def HB(x q:Str)(st:Stmt)(ps:List Str):Prop:=∀(kV doc pm:Value)(an:Option Addr)(cdv ct:Value)(us:List Value),us.length=ps.length→bindArgs (F6 x q (fP st) (cH st) (aM st) .none kV doc pm an cdv ct) ⟨us,[]⟩=pure (ps.zip us)
def HBD(x q:Str)(st:Stmt)(ps:List Str):Prop:=∀(T:Addr)(kV doc pm:Value)(an:Option Addr)(cdv ct:Value)(us:List Value),(us.length=ps.length→∃k,bindArgs (F6 x q (fP st) (cH st) (aM st) (.ref T) kV doc pm an cdv ct) ⟨us,[]⟩=seqItems? (Value.ref T) >>= k∧k (some #[Value.none])=pure (ps.zip us)) ∧
 (us.length+1=ps.length→∃k,bindArgs (F6 x q (fP st) (cH st) (aM st) (.ref T) kV doc pm an cdv ct) ⟨us,[]⟩=seqItems? (Value.ref T) >>= k∧k (some #[Value.none])=pure (ps.zip (us++[Value.none])))
def HBs(dN:Bool)(x q:Str)(st:Stmt)(ps:List Str):Prop:=match dN with
 | false=>HB x q st ps
 | true=>HBD x q st ps
section
variable{P:Program}{w:World}{K:aF}{mg:Str→Option Value}{base:Heap}
B5 JL.binds{f:Addr}{m q:Str}{st:Stmt}{dN:Bool}{ps:List Str}{oc:Value}{od:Option Addr}{dV kV doc pm:Value}{an:Option Addr}{cdv ct:Value}(hd:aHT K dN dV)(h:HBs dN m q st ps) :
  Binds K (F6 m q (fP st) (cH st) (aM st) dV kV doc pm an cdv ct) ps []∧(dN=true→Binds K (F6 m q (fP st) (cH st) (aM st) dV kV doc pm an cdv ct) ps [Value.none]):=by
 cases dN with
 | false=>
  cases hd
  ~⟨.all (h kV doc pm an cdv ct),fun z=>by cases z⟩
 | true=>
  B3⟨T,o,n,rfl,h1,h2⟩:=hd
  &⟨fun s us kin hl=>?_,fun _ s us kin hl=>?_⟩
  ·rw[F9]at hl ⊢
   B3⟨k,e1,e2⟩:=(h T kV doc pm an cdv ct us).1 hl
   ~.of_defaults rfl (kin _ _ h1) h2 e1 e2
  ·rw[C7]at hl
   B3⟨k,e1,e2⟩:=(h T kV doc pm an cdv ct us).2 hl
   ~.of_defaults rfl (kin _ _ h1) h2 e1 e2
abbrev uf(n m:Nat)(d:D)(es:List D)(v:V):EN:=.inn v d::(es.map SD.fro++E4 (n-m) SD.no)
def JN(r d':D)(v:V)(o:SR):Prop:=∃env',(o=.rete r env'∨(o=.next env'∧r=.non))∧env'[0]?=some (.inn v d')
open Classical in
noncomputable def nM(n m:Nat)(g:GS):List D→Option (D×D)
 | d::es=>if h:∃p:D×D,es.length+1=m∧∀v,JN p.1 p.2 v (g (uf n m d es v))then some h.choose else none
 | _=>none
B5 aA7{r d' r2 d2:D}{v:V}{o:SR}(h1:JN r d' v o)(h2:JN r2 d2 v o):r=r2∧d'=d2:=by
  B3⟨e1,a1,a2⟩:=h1
  B3⟨e2,b1,b2⟩:=h2
  rcases a1 with a1 | ⟨a1,rfl⟩
  · rcases b1 with b1 | ⟨b1,rfl⟩
    · rw[a1]at b1
      injection b1 with c1 c2
      subst c2
      rw[a2]at b2
      injection b2 with b2
      injection b2 with _ b2
      ~⟨c1,b2⟩
    · rw[a1]at b1;cases b1
  · rcases b1 with b1 | ⟨b1,rfl⟩
    · rw[a1]at b1;cases b1
    · rw[a1]at b1
      injection b1 with c2
      subst c2
      rw[a2]at b2
      injection b2 with b2
      injection b2 with _ b2
      ~⟨rfl,b2⟩
B5 aA8{n m:Nat}{g:GS}{d r d':D}{es:List D}(hl:es.length+1=m)(h:∀v,JN r d' v (g (uf n m d es v))):nM n m g (d::es)=some (r,d'):=by
 have ex:∃p:D×D,es.length+1=m∧∀v,JN p.1 p.2 v (g (uf n m d es v)):=⟨(r,d'),hl,h⟩
 B4 nM
 dsimp only
 rw[dif_pos ex]
 B3⟨e1,e2⟩:=aA7 (ex.choose_spec.2 .non) (h .non)
 ~congrArg some (j7 e1 e2)
B5 JP{n m:Nat}{g:GS}{d r d':D}{es:List D}(h:nM n m g (d::es)=some (r,d'))(v:V):es.length+1=m∧JN r d' v (g (uf n m d es v)):=by
 B4 nM at h
 dsimp only at h
 split at h
 ·rename_i ex
  have:=ex.choose_spec
  rw[F4 h]at this
  ~⟨this.1,this.2 v⟩
 ·cases h
B5 fV{n m:Nat}{g:GS}(d:D)(es:List D)(p:D×D)(h:nM n m g (d::es)=some p):es.length+1=m:=(JP (r:=p.1) (d':=p.2) h .non).1
B5 aHU{X:Cx}{N ps:List Str}{g:GS}{body:List Stmt}{t:TS}{vs:List V}{H:Hp}{Q:VK}{E:XK}(yb:YB K X body t g)(h:spS K ps.length (nM N.length ps.length g) vs H Q E):t {nx:=fun _ H'=>Q .non H',rt:=Q} (start N vs) H:=by
  B3⟨d,es,v,ws,A1,r,d',rfl,hl,ho,hrs,hF,kk⟩:=h
  B3⟨_,env',q1,q2⟩:=JP hF v
  have hw:=hrs.length
  &yb.ev (out H A1) _ _ H (uf N.length ps.length d es v) ?_ ?_
  · have sa:=Pq (K:=K) (H:=H) (k:=N.length-ps.length) hrs
    have e:start N (v::ws)=some v::(ws.map some++E4 (N.length-ps.length) none):=by
      B4 start
      rw[D3,E9,show N.length-(ws.length+1)=N.length-ps.length by omega]
      rfl
    rw[e]
    ~⟨A1,⟨_,_,A1,nil,rfl,fun _ _ z=>z,fun x=>⟨.inl,fun z=>z.elim id False.elim⟩,⟨rfl,ho⟩,sa⟩,aU.refl _⟩
  · rcases q1 with q1 | ⟨q1,rfl⟩
    · rw[q1]
      intro w σ' H' ⟨A2,a2,b2⟩
      B3⟨A3,A4,k1,⟨w',ew,o⟩,k3,k4⟩:=a2.Jj
      cases ew
      B3⟨y,A5,C,h1,h2,h3,h4,_⟩:=k1.focus q2
      ~kk w H' A5 A4 h4.2 o (fun x z1 z2=>k3 x ((h3 x).mpr (.inl z1)) z2) (b2.trans (bU (aU.refl _) fun x z=>.inl ((k4 x).mpr (z.elim (fun z=>.inl ((h3 x).mpr (.inl z))) .inr))))
    · rw[q1]
      intro σ' H' ⟨A2,a2,b2⟩
      B3⟨y,A5,C,h1,h2,h3,h4,_⟩:=a2.focus q2
      ~kk .non H' A5 nil h4.2 (by B4 Ow;~⟨fun _ z=>z,rfl⟩) (fun x z1 z2=>z2) (b2.trans (bU (aU.refl _) fun x z=>.inl ((h3 x).mpr (.inl (z.elim id False.elim)))))
B5 aJr{ps:List Str}{F:List D→Option (D×D)}(vs:List V)(H:Hp)(Q:VK)(E:XK)(h:spS K ps.length F vs H Q E):vs.length=ps.length:=by
 B3⟨d,es,v,ws,A,r,d',rfl,hl,_,rs,_⟩:=h
 have:=rs.length
 rw[E9]
 omega
B5 JL.okS{f:Addr}{m q:Str}{st:Stmt}{dN:Bool}{N ps:List Str}{k:Nat}{g:GS}(R:JL K f m q st dN)(S:bB N ps (aM st))(hb:HBs dN m q st ps)
  (hbody:∀(f:Addr)(cdv:Value)(A:Around)(outer:List Env)(s:Shared)(H:Hp)(E:XK),jR k (A.deeper (envOfC q (aM st) s.heap.objs.size f cdv))→∃t,YB K (Fv CZ P w K mg base N q (aM st) f cdv A outer s H E).ZK (cH st) t g) :
  ∃fd,zF P w K mg base CZ (k+1) f fd ps (spS K ps.length (nM N.length ps.length g))∧Binds K fd ps []∧(dN=true→Binds K fd ps [Value.none]):=by
 B3⟨oc,od,dV,kV,doc,pm,an,cdv,ct,osl,lk,hcd,hd⟩:=R.ex
 &⟨_,aAd lk hcd S aJr fun A outer s H vs Q E hr hsp=>?_,JL.binds (f:=f) (oc:=oc) (od:=od) hd hb⟩
 B3⟨t,yb⟩:=hbody f cdv A outer s H E hr
 ~⟨t,yb.ps.ZK,aHU yb hsp⟩
B5 gB.Yr{C:Addr}{m q:Str}{st:Stmt}{dN:Bool}{N ps:List Str}{k:Nat}{g:GS}(R:gB K C m q st dN)(S:bB N ps (aM st))(hb:HBs dN m q st ps)
  (hbody:∀(f:Addr)(cdv:Value)(A:Around)(outer:List Env)(s:Shared)(H:Hp)(E:XK),jR k (A.deeper (envOfC q (aM st) s.heap.objs.size f cdv))→∃t,YB K (Fv CZ P w K mg base N q (aM st) f cdv A outer s H E).ZK (cH st) t g):cU P w K mg base C m (k+1) ps.length dN (spS K ps.length (nM N.length ps.length g)):=by
 B3⟨f,Rf,M⟩:=R.ex
 B3⟨fd,F,b1,b2⟩:=Rf.okS (P:=P) (w:=w) (mg:=mg) (base:=base) S hb hbody
 ~⟨f,fd,ps,rfl,F,b1,b2,M⟩
B5 JM.aHV{C:Addr}{x q:Str}{st:Stmt}{N ps:List Str}{k:Nat}{g:GS}(R:JM K mg x C q st)(S:bB N ps (aM st))(hb:HB "__init__" q st ps)
  (hbody:∀(f:Addr)(cdv:Value)(A:Around)(outer:List Env)(s:Shared)(H:Hp)(E:XK),jR k (A.deeper (envOfC q (aM st) s.heap.objs.size f cdv))→∃t,YB K (Fv CZ P w K mg base N q (aM st) f cdv A outer s H E).ZK (cH st) t g):ue P w K mg base x C (k+1) ps.length (spS K ps.length (nM N.length ps.length g)):=by
 B3⟨f,Rf,M,hm⟩:=R.ex
 B3⟨fd,F,b1,b2⟩:=Rf.okS (P:=P) (w:=w) (mg:=mg) (base:=base) S hb hbody
 ~⟨f,fd,ps,rfl,F,b1,M,hm⟩
def mV(n m:Nat)(g:GS):List D→Option D:=fun ds=>if ds.length=m then(match g (ds.map SD.fro++E4 (n-m) SD.no)with
 | .ret d=>some d
 | .next _=>some .non
 | _=>none)else none
B5 aHW{X:Cx}{N ps:List Str}{g:GS}{body:List Stmt}{t:TS}{vs:List V}{H:Hp}{Q:VK}{E:XK}(yb:YB K X body t g)(h:iD K ps.length (mV N.length ps.length g) vs H Q E):t {nx:=fun _ H'=>Q .non H',rt:=Q} (start N vs) H:=by
 B3⟨ds,d,h1,h2,h3,kk⟩:=h
 &yb.ev H _ _ H (ds.map SD.fro++E4 (N.length-ps.length) SD.no) ?_ ?_
 ·have hl:vs.length=ps.length:=by rw[h2.length];~h1
  have:=Jh (k:=N.length-ps.length) h2
  B4 start
  rw[hl]
  ~this
 ·B4 mV at h3
  rw[if_pos h1]at h3
  cases q:g (ds.map SD.fro++E4 (N.length-ps.length) SD.no)with
  | ret d'=>
   rw[q]at h3
   cases h3
   &fun v H' A' s' o=>kk v H' (s'.trans (kW _ _)) ⟨A',o,fun a qa=>?_⟩
   cases e:H a with
   | none=>rfl
   | some u=>~absurd qa (bA.mp (s' a u e)).1
  | next env'=>
   rw[q]at h3
   cases h3
   intro σ' H' ⟨A,a,b⟩
   ~kk .non H' (b.trans (kW _ _)) (.jK rfl (by B4 Rv;rfl))
  | bad=>rw[q]at h3;cases h3
  | brk e=>rw[q]at h3;cases h3
  | cont e=>rw[q]at h3;cases h3
  | rete d e=>rw[q]at h3;cases h3
B5 gB.Gn{C:Addr}{m q:Str}{st:Stmt}{dN:Bool}{N ps:List Str}{k:Nat}{g:GS}(R:gB K C m q st dN)(S:bB N ps (aM st))(hb:HBs dN m q st ps)
  (hbody:∀(f:Addr)(cdv:Value)(A:Around)(outer:List Env)(s:Shared)(H:Hp)(E:XK),jR k (A.deeper (envOfC q (aM st) s.heap.objs.size f cdv))→∃t,YB K (Fv CZ P w K mg base N q (aM st) f cdv A outer s H E).ZK (cH st) t g):cU P w K mg base C m (k+1) ps.length dN (iD K ps.length (mV N.length ps.length g)):=by
 B3⟨f,Rf,M⟩:=R.ex
 B3⟨oc,od,dV,kV,doc,pm,an,cdv,ct,osl,lk,hcd,hd⟩:=Rf.ex
 B3⟨b1,b2⟩:=JL.binds (f:=f) (oc:=oc) (od:=od) (kV:=kV) (doc:=doc) (pm:=pm) (an:=an) (cdv:=cdv) (ct:=ct) hd hb
 &⟨f,_,ps,rfl,aAd lk hcd S (fun vs H Q E h=>?_) fun A outer s H vs Q E hr hsp=>?_,b1,b2,M⟩
 ·B3⟨ds,d,h1,h2,_⟩:=h
  rw[h2.length];~h1
 B3⟨t,yb⟩:=hbody f cdv A outer s H E hr
 ~⟨t,yb.ps.ZK,aHW yb hsp⟩
B5 ig{f:Addr}{m q:Str}{st:Stmt}{oc:Value}{od an:Option Addr}{osl:Array (Option Value)}{kV doc pm cdv ct:Value}(l:K.lookup f=some ⟨oc,od,.func (F6 m q (fP st) (cH st) (aM st) .none kV doc pm an cdv ct),osl⟩)(c:K4 K cdv q=true):JL K f m q st false:=⟨⟨oc,od,.none,kV,doc,pm,an,cdv,ct,osl,l,c,rfl⟩⟩
B5 aDr{C f:Addr}{m q:Str}{st:Stmt}{oc:Value}{od an:Option Addr}{osl:Array (Option Value)}{kV doc pm cdv ct:Value}(a:F3 K (.ref C) m=some (some (.ref f)))(i:O7 K (.ref f)=true)(l:K.lookup f=some ⟨oc,od,.func (F6 m q (fP st) (cH st) (aM st) .none kV doc pm an cdv ct),osl⟩)(c:K4 K cdv q=true)(k:J9 K (.ref f)=true):gB K C m q st false:=⟨⟨f,ig l c,⟨a,i,k⟩⟩⟩
B5 aA9{C f T:Addr}{m q:Str}{st:Stmt}{oc oc2:Value}{od an od2:Option Addr}{osl aJs:Array (Option Value)}{kV doc pm cdv ct:Value}{n:Nat}(a:F3 K (.ref C) m=some (some (.ref f)))(i:O7 K (.ref f)=true)(l:K.lookup f=some ⟨oc,od,.func (F6 m q (fP st) (cH st) (aM st) (.ref T) kV doc pm an cdv ct),osl⟩)(c:K4 K cdv q=true)(k:J9 K (.ref f)=true)(t:K.lookup T=some ⟨oc2,od2,.seq #[.none] n,aJs⟩):gB K C m q st true:=⟨⟨f,⟨⟨oc,od,.ref T,kV,doc,pm,an,cdv,ct,osl,l,c,T,_,n,rfl,t,rfl⟩⟩,⟨a,i,k⟩⟩⟩
B5 aDs{h:Heap}{x q:Str}{C f:Addr}{st:Stmt}{oc:Value}{od an:Option Addr}{osl:Array (Option Value)}{kV doc pm cdv ct:Value}(X:K.In h)(G:h.Ns mainGlobals mg)(aC:R1 K mainGlobals x=some (some (.ref C)))(a:F3 K (.ref C) "__init__" = some (some (.ref f))) (i:O7 K (.ref f)=true) (l:K.lookup f=some ⟨oc,od,.func (F6 "__init__" q (fP st) (cH st) (aM st) .none kV doc pm an cdv ct),osl⟩) (c:K4 K cdv q=true) (mk:T6 K C=true) (kc:J9 K (.ref C)=true):JM K mg x C q st:=⟨⟨f,ig l c,⟨mk,a,i,kc⟩,b8 X G aC⟩⟩
end
section
variable{K:aF}{X:Cx}{st:Stmt}{g g1 g2 gb:GS}{e a b c o:Expr}{es rest:List Expr}{te ta tb tc t0 tv:TE}{f f0 fa fb fc:FE}{tA:TA}{fs:FA}{pos apos:Pos}{i j:Nat}{π:FP}{tbs:TS}
def ug(φ φ':D→D→Option D)(f g h:FE):FT:=fun e=>(f e).bind fun a=>(g e).bind fun b=>(φ a b).bind fun r=>match r with
  | .bl true=>(h e).bind fun c=>(φ' b c).bind fun r2=>match r2 with | .bl k=>some k | _=>none
  | .bl false=>some false
  | _=>none
B5 Qc{op op':CmpOp}{r r':R2}{φ φ':D→D→Option D}(ho:wM X (compareOp op) r)(ho':wM X (compareOp op') r')(hd:TV K r φ)(hd':TV K r' φ')(ha:XR K X a ta fa)(hb:XR K X b tb fb)(hc:XR K X c tc fc)(hm:lastMarks [op,op'] [b,c]=false:=by with_unfolding_all rfl):XT K X (.Compare a [op,op'] [b,c] pos) (FQ (zf r r' ta tb tc)) (ug φ φ' fa fb fc):=⟨ha.hk,zg ho ho' ha.pe hb.pe hc.pe hm,fun σ H e k Q re q kk=>by
 B3⟨d1,q1,q⟩:=aY q
 B3⟨d2,q2,q⟩:=aY q
 B3⟨d3,q3,q⟩:=aY q
 &ha.ev σ H H e d1 _ (Zn.self K H) re q1 fun x H1 Z1 s1 t1 z1 rx=>hb.ev σ H1 H1 e d2 _ (Zn.self K H1) (re.same s1) q2 fun y H2 Z2 s2 t2 z2 ry=>?_
 &hd x y H2 d1 d2 d3 _ (s2.rv _ _ (z1.sm.rv _ _ rx)) (z2.sm.rv _ _ ry) q3 fun z H3 s3 n=>?_
 have rz:=n.rv
 split at q
 ·B3⟨d4,q4,q⟩:=aY q
  B3⟨d5,q5,q⟩:=aY q
  B4 Rv at rz
  &⟨true,rz,?_⟩
  rw[if_pos rfl]
  &hc.ev σ H3 H3 e d4 _ (Zn.self K H3) (re.same (s1.trans (s2.trans s3))) q4 fun w H4 Z4 s4 t4 z4 Sv=>?_
  &hd' y w H4 d2 d4 d5 _ ((s3.trans s4).rv _ _ (z2.sm.rv _ _ ry)) (z4.sm.rv _ _ Sv) q5 fun v H5 s5 n5=>?_
  have r5:=n5.rv
  split at q
  ·cases q
   B4 Rv at r5
   ~⟨_,r5,kk H5 (s1.trans (s2.trans (s3.trans (s4.trans s5))))⟩
  ·cases q
 ·cases q
  B4 Rv at rz
  &⟨false,rz,?_⟩
  rw[if_neg A8]
  ~⟨_,rfl,kk H3 (s1.trans (s2.trans s3))⟩
 ·cases q⟩
open Classical in
noncomputable def zL(j i:Nat)(g:GS)(v:V)(all:List D):List D→EN→SR
 | [],env=>if env[j]?=some (.inn v (.lst all))then .next env else .bad
 | x::xs,env=>if i<env.length∧env[j]?=some (.inn v (.lst all))then(match g (env.set i (.fro x))with
  | .next e=>zL j i g v all xs e
  | .cont e=>zL j i g v all xs e
  | _=>.bad)else .bad
open Classical in
noncomputable def Dl(j i:Nat)(g:GS):GS:=fun env=>match env[j]? with
 | some (.own (.lst xs))=>if h:(intsOf xs).isSome=true∧∃env':EN,env'[j]?=some (.own (.lst xs))∧∀v,zL j i g v xs xs (env.set j (.inn v (.lst xs)))=.next (env'.set j (.inn v (.lst xs)))then .next h.2.choose else .bad
 | _=>.bad
B5 aDt{α:Type}{l m:List α}{j:Nat}{s:α}(h1:l.set j s=m.set j s)(h2:l[j]?=m[j]?):l=m:=by
 apply K6
 intro k
 by_cases c:j=k
 ·subst c;~h2
 ·have:=congrArg (fun x=>x[k]?) h1
  simp only[F8,if_neg c]at this
  ~this
B5 aBa{env env':EN}{ns:List Int}(h:env[j]?=some (.own (.lst (ns.map D.int))))(h1:env'[j]?=some (.own (.lst (ns.map D.int))))(h2:∀v,zL j i g v (ns.map D.int) (ns.map D.int) (env.set j (.inn v (.lst (ns.map D.int))))=.next (env'.set j (.inn v (.lst (ns.map D.int))))):Dl j i g env=.next env':=by
 have ex:(intsOf (ns.map D.int)).isSome=true∧∃env':EN,env'[j]?=some (.own (.lst (ns.map D.int)))∧∀v,zL j i g v (ns.map D.int) (ns.map D.int) (env.set j (.inn v (.lst (ns.map D.int))))=.next (env'.set j (.inn v (.lst (ns.map D.int)))):=⟨by rw[kI];rfl,env',h1,h2⟩
 B4 Dl
 rw[h]
 dsimp only
 rw[dif_pos ex]
 have c:=ex.2.choose_spec
 have e:=(c.2 .non).symm.trans (h2 .non)
 injection e with e
 rw[aDt e (c.1.trans h1.symm)]
B5 uh{xs:List D}{ns:List Int}(h:intsOf xs=some ns):xs=ns.map D.int:=by
 induction xs generalizing ns with
 | nil=>B4 intsOf at h;cases h;rfl
 | cons x xs ih=>
  B4 intsOf at h
  cases x with
  | int i=>
   B3⟨ms,h1,h2⟩:=lN h
   subst h2
   rw[D3,ih h1]
  | _=>cases h
B5 aDu(hb:DS K tbs g):DS K (Xf (aAJ K (qN j)) (iR i) tbs) (Dl j i g):=fun B E σ H env r p=>by
 B4 Dl at p
 split at p
 ·rename_i xs q
  split at p
  ·rename_i ex
   B3⟨ns,hns⟩:=W8.mp ex.1
   have exx:=uh hns
   B3⟨c1,c2⟩:=ex.2.choose_spec
   generalize ex.2.choose=env' at *
   subst exx
   have hj:j<env'.length:=(D1.mp c1).1
   B3⟨v,hσ,rv⟩:=r.r j _ (by B4 rE;rw[B8,q];rfl)
   have c2:=c2 v
   have r1:=r.aA2 q hσ
   have lst:∀{fH:EN} {σ2:St} {H2:Hp},Rel K B fH σ2 H2→fH[j]?=some (.inn v (.lst (ns.map D.int)))→∃a,v=.ref a∧pK K H2 a (ns.map V.int):=by
    rintro fH σ2 H2 ⟨A,aa,bb⟩ e2
    B3⟨y,A1,C,h1,h2,h3,h4,_⟩:=aa.focus e2
    have:=Ow.rv _ _ _ h4.2
    B4 Rv at this
    B3⟨a,ys,e,sq,l⟩:=this
    rw[kY.mp l]at sq
    ~⟨a,e,sq⟩
   B3⟨a,rfl,sq0⟩:=lst r1 (G6 (D1.mp q).1)
   &.inl ⟨.ref a,hσ,a,rfl,⟨_,sq0⟩,?_⟩
   &Mj Ob (fun k σ2 H2=>∃fH,Rel K B fH σ2 H2∧fH[j]?=some (.inn (.ref a) (.lst (ns.map D.int)))∧zL j i g (.ref a) (ns.map D.int) ((ns.map D.int).drop k) fH=.next (env'.set j (.inn (.ref a) (.lst (ns.map D.int))))) ⟨_,r1,G6 (D1.mp q).1,by rw[n9];~c2⟩ (fun k σ2 H2 _ ⟨fH,r2,e2,_⟩=>by
    B3⟨a',e,sq⟩:=lst r2 e2
    cases e
    ~sq) ?_ ?_
   ·rintro k x σ2 H2 hx ⟨fH,r2,e2,f2⟩
    have hk:k<ns.length:=by
     have:=(D1.mp hx).1
     rwa [B7]at this
    rw[L6 (by rw[B7];~hk)]at f2
    rw[B8,B6 hk]at hx
    cases hx
    rw[List.getElem_map]at f2
    B4 zL at f2
    split at f2
    ·rename_i hlen
     have r3:Rel K B (fH.set i (.fro (.int ns[k]))) (σ2.set i (some (.int ns[k]))) H2:=by
      B3⟨A2,a2,b2⟩:=r2
      ~Mu a2 b2 hlen.1 (aU.refl _) (aU.refl _) (Ph a2) (by B4 Rv;rfl)
     &hb B _ _ H2 _ r3 ?_
     have fin:∀{o:SR},o=g (fH.set i (.fro (.int ns[k])))→(match o with | .next e=>zL j i g (.ref a) (ns.map D.int) ((ns.map D.int).drop (k+1)) e | .cont e=>zL j i g (.ref a) (ns.map D.int) ((ns.map D.int).drop (k+1)) e | _=>.bad)=.next (env'.set j (.inn (.ref a) (.lst (ns.map D.int))))→Pj K B {E with nx:=fun σ3 H3=>∃fH,Rel K B fH σ3 H3∧fH[j]?=some (.inn (.ref a) (.lst (ns.map D.int)))∧zL j i g (.ref a) (ns.map D.int) ((ns.map D.int).drop (k+1)) fH=.next (env'.set j (.inn (.ref a) (.lst (ns.map D.int)))),ct:=fun σ3 H3=>∃fH,Rel K B fH σ3 H3∧fH[j]?=some (.inn (.ref a) (.lst (ns.map D.int)))∧zL j i g (.ref a) (ns.map D.int) ((ns.map D.int).drop (k+1)) fH=.next (env'.set j (.inn (.ref a) (.lst (ns.map D.int)))),bk:=E.nx} o:=by
      intro o _ ho
      have there:∀{e3:EN} {xs:List D},zL j i g (.ref a) (ns.map D.int) xs e3=.next (env'.set j (.inn (.ref a) (.lst (ns.map D.int))))→e3[j]?=some (.inn (.ref a) (.lst (ns.map D.int))):=by
       intro e3 xs h3
       cases xs with
       | nil=>
        B4 zL at h3
        split at h3
        ·rename_i z;~z
        ·cases h3
       | cons y ys=>
        B4 zL at h3
        split at h3
        ·rename_i z;~z.2
        ·cases h3
      cases o with
      | next e3=>~fun σ3 H3 r4=>⟨e3,r4,there ho,ho⟩
      | cont e3=>~fun σ3 H3 r4=>⟨e3,r4,there ho,ho⟩
      | ret d=>cases ho
      | brk d=>cases ho
      | bad=>cases ho
      | rete d e=>cases ho
     ~fin rfl f2
    ·cases f2
   ·rintro σ2 H2 ⟨fH,r2,e2,f2⟩
    rw[B7]at f2
    rw[show ns.length=(ns.map D.int).length by rw[B7],X1]at f2
    B4 zL at f2
    rw[if_pos e2]at f2
    injection f2 with f2
    rw[f2]at r2
    B3⟨r3,_⟩:=r2.aA1 (G6 hj)
    rw[R4,set_same c1]at r3
    ~p σ2 H2 r3
  ·~p.elim
 ·~p.elim
B5 Ys{tg:Expr}{body:List Stmt}(hp:PassesOwn (model X.prog X.w) X.A X.env X.xe)(UW:X.calm=true)(hv:PE X e (qN j))(hg:PG X tg (iR i))(hb:YB K X body tbs g)(hs:∀x,foldedSetIterable e X.env x=pure x:=by intro _;rfl)(hk:X.K=K:=by rfl):YS K X (.For tg e body [] pos) (Xf (aAJ K (qN j)) (iR i) tbs) (Dl j i g):=by
 subst hk
 &⟨Xg hp UW (fun pins s σ H R I h=>?_) hg hb.ps hs,aDu hb.ev⟩
 rcases h with h | h
 ·~ZM hv pins s σ H R I h
 ·~yw hv pins s σ H R I h
end
end L2


namespace L2
open PySem PySem.Spec PySem.Calls PyProof.Rows PyProof.V
B5 JQ{H:Hp}{p:Addr}{kvs:List (List Key×V)}(h:H p=some (.dT kvs)):yN H p:=⟨fun ys e=>(by rw[h]at e;cases e),fun o ys e=>(by rw[h]at e;cases e)⟩
section
variable{K:aF}{B H:Hp}{env:EN}{σ:St}
B5 Rel.aJt{i:Nat}{p:List Step}{d0:D}{ks:List (List Key)}{ds:List D}(h:Rel K B env σ H)(e:env[i]?=some (.own d0))(q:eO p d0=some (.dt ks ds)):∃v0 a xs Bs,σ[i]?=some (some v0)∧Le H p v0=some (.ref a)∧H a=some (.dT (ks.zip xs))∧ks.length=xs.length∧¬Bs a∧dX K H ds Bs xs ∧
    ∀H2 ks' ds' xs' Bn,aU H H2→ks'.length=xs'.length→dX K H2 ds' Bn xs'→(∀b,Bn b→Bs b∨H b=none)→Rel K B (env.set i (.own (dR p d0 (.dt ks' ds')))) σ (upd H2 a (.dT (ks'.zip xs'))):=by
  B3⟨v0,w,A1,C,h1,h2,h3,h4,h5,h6⟩:=h.at e q
  B4 Ow at h3
  B3⟨a,xs,Bs,rfl,o2,o2',o3,o4,o5⟩:=h3
  &⟨v0,a,xs,Bs,h1,h2,o2,o2',o3,o5,fun H2 ks' ds' xs' Bn s hl o hb=>?_⟩
  have nBa:¬Bn a:=fun z=>(hb a z).elim o3 fun z=>by rw[o2]at z;cases z
  have hC:∀x,C x→¬x=a:=fun x z y=>h4 x ((o4 x).mpr (.inl y)) z
  have Ti:H2 a=some (.dT (ks.zip xs)):=s a _ o2
  &h6 _ (.dt ks' ds') (fK (·=a) Bn) (fun x z1 z2=>?_) (fun x z=>?_) (s.tk.trans (tE (JQ Ti))) ?_ (fun x u ex=>?_)
  · rcases z1 with z1 | z1
    · ~hC x z2 z1
    · rcases hb x z1 with z | z
      · ~h4 x ((o4 x).mpr (.inr z)) z2
      · B3⟨⟨u,eu⟩,_⟩:=h5 x z2
        rw[z]at eu;cases eu
  · B3⟨⟨u,eu⟩,_⟩:=h5 x z
    rw[bQ (hC x z),eu,s x u eu]
  · B4 Ow
    &⟨a,xs',Bn,rfl,cJ,hl,nBa,fun _=>Iff.rfl,dX.frame (tE (JQ Ti)) _ _ _ o fun x zx=>bQ fun y=>nBa (y▸zx)⟩
  · B3⟨e1,e2⟩:=bA.mp ex
    have na:x≠a:=fun y=>e1 (.inl ((o4 x).mpr (.inl y)))
    &bA.mpr ⟨fun z=>?_,by rw[bQ na];~s x u e2⟩
    rcases z with (z | z) | z
    · ~na z
    · rcases hb x z with z | z
      · ~e1 (.inl ((o4 x).mpr (.inr z)))
      · rw[z]at e2;cases e2
    · ~e1 (.inr z)
end
def JR:List D→Option (List Key)
 | []=>some []
 | d::ds=>(Tf d).bind fun k=>(JR ds).map fun r=>k::r
B5 JS{K:aF}{H:Hp}:∀{ds:List D} {ks:List Key} {vs:List V},JR ds=some ks→eY K H ds vs→vs=ks.map kV
 | [],ks,vs,h,r=>by
  B4 JR at h
  cases h
  B4 eY at r
  ~r
 | d::ds,ks,vs,h,r=>by
  B4 JR at h
  B3⟨k,h1,h2⟩:=aY h
  B3⟨ks',h3,rfl⟩:=lN h2
  B4 eY at r
  B3⟨y,ys,rfl,r1,r2⟩:=r
  rw[Ms h1 r1,JS h3 r2]
  rfl
abbrev FK:=DE→Option (List Key)
def EvK(K:aF)(t:TE)(fk:FK):Prop:=∀(σ:St)(H:Hp)(e:DE)(k:List Key)(Q:VK),yO K H e σ→fk e=some k→(∀b H',aU H H'→H' b=some (.tup (k.map kV))→Q (.ref b) H')→t σ H Q
structure XKt(K:aF)(X:Cx)(e:Expr)(t:TE)(fk:FK):Prop where
 hk:X.K=K
 pe:PE X e t
 ev:EvK K t fk
section
variable{K:aF}{X:Cx}{st:Stmt}{e a b c o:Expr}{es rest:List Expr}{te ta tb tc t0 tv:TE}{f fa fb:FE}{g:FK}{gd:FE}{tA:TA}{fs:FA}{pos apos:Pos}{i j:Nat}{π:FP}{tbs:TS}
def Jl(fs:FA):FK:=fun e=>(fs e).bind fun ds=>if ds.length≤100 then JR ds else none
B5 Qd{x1:Nat}(h:XA K X es tA fs):XKt K X (.Tuple es x1 pos) (aCF tA) (Jl fs):=⟨h.hk,zy h.pa,fun σ H e k Q re q kk=>by
 B3⟨ds,q1,q2⟩:=aY q
 split at q2
 ·rename_i hl
  &h.ev σ H H e ds _ (Zn.self K H) re q1 fun vs H1 Z1 s1 t1 z1 rvs=>⟨Uw (by rw[rvs.length];omega),fun p hp=>kk p _ (s1.trans (dO hp _)) ?_⟩
  rw[cJ,JS q2 rvs]
 ·cases q2⟩
def Tn(neg:Bool)(fk:FK)(f:FE):FE:=fun e=>(fk e).bind fun k=>(f e).bind fun d=>match d with
 | .dt ks _=>some (.bl (if neg then !(posK ks k).isSome else(posK ks k).isSome))
 | _=>none
B5 WD{ks:List (List Key)}{xs:List V}{k:List Key}(h:ks.length=xs.length):(wQ (ks.zip xs) k).isSome=(posK ks k).isSome:=by
 rw[sY h]
 cases q:posK ks k with
 | none=>rfl
 | some j=>
  B3⟨h1,h2⟩:=rN q
  rw[C4,B6 A6]
  rfl
B5 aGa{neg:Bool}{d:D}{σ:St}{H:Hp}{e:DE}{Q:VK}(ha:EvK K ta g)(hb:Iz K tb f)(re:yO K H e σ)(q:Tn neg g f e=some d)(k:∀v H',aU H H'→Mm K H H' d v→Q v H') :
  ta σ H fun y H1=>tb σ H1 fun x H2=>∃a o,x=.ref a∧Oa H2 a y o∧Q (.bl (if neg then !o.isSome else o.isSome)) H2:=by
 B3⟨kk,q1,q⟩:=aY q
 B3⟨d1,q2,q⟩:=aY q
 split at q
 ·rename_i ks ds
  cases q
  &ha σ H e kk _ re q1 fun bb H1 s1 hb1=>hb σ H1 H1 e _ _ (Zn.self K H1) (re.same s1) q2 fun x H2 Z2 s2 t2 z2 rx=>?_
  have rx:=z2.sm.rv _ _ rx
  B4 Rv at rx
  B3⟨p,xs,r1,r2,r3,r4⟩:=rx
  &⟨p,wQ (ks.zip xs) kk,r1,.inr ⟨_,kk,bb,r2,rfl,s2 _ _ hb1,rfl⟩,?_⟩
  rw[WD r3]
  ~k _ H2 (s1.trans s2) (.jK rfl (by B4 Rv;rfl))
 ·cases q
B5 aDv(hu:X.A.units+1<cLine)(ha:XKt K X a ta g)(hb:XR K X b tb f)(h1:behindInMarks .In b=false:=by first | ~nobehind _ A8 A8 | rfl):XN K X (.Compare a [.In] [b] pos) (aCT ta tb) (Tn false g f):=
 ⟨ha.hk,RB (RW hu ha.pe hb.pe) h1,fun σ H e d Q re q k=>aGa (neg:=false) ha.ev hb.ev re q k⟩
B5 il(hu:X.A.units+1<cLine)(ha:XKt K X a ta g)(hb:XR K X b tb f)(h1:behindInMarks .In b=false:=by first | ~nobehind _ A8 A8 | rfl):XT K X (.Compare a [.In] [b] pos) (tB (aCT ta tb)) (fB (Tn false g f)):=aEk (aDv hu ha hb h1) (RW hu ha.pe hb.pe) h1
def Qe(f:FE)(fk:FK):FE:=fun e=>(f e).bind fun d=>(fk e).bind fun k=>match d with
 | .dt ks ds=>(posK ks k).bind fun j=>(ds[j]?).bind fun r=>if r.jK=true then some r else none
 | _=>none
B5 JT(hu:X.A.units+1<cLine)(ha:XR K X a ta f)(hb:XKt K X b tb g)(hs:aFy b):XN K X (.Subscript a b pos) (aEg ta tb) (Qe f g):=
 ⟨ha.hk,aCU hu ha.pe hb.pe hs,fun σ H e d Q re q k=>by
  B3⟨d1,q1,q⟩:=aY q
  B3⟨kk,q2,q⟩:=aY q
  split at q
  ·rename_i ks ds
   B3⟨j,q3,q⟩:=aY q
   B3⟨r,q4,q⟩:=aY q
   split at q
   ·rename_i im
    cases q
    &ha.ev σ H H e _ _ (Zn.self K H) re q1 fun x H1 Z1 s1 t1 z1 rx=>hb.ev σ H1 e kk _ (re.same s1) q2 fun bb H2 s2 hb2=>?_
    have rx:=s2.rv _ _ (z1.sm.rv _ _ rx)
    B4 Rv at rx
    B3⟨p,xs,r1,r2,r3,r4⟩:=rx
    B3⟨v,e1,e2⟩:=r4.get q4
    &⟨p,v,r1,.inr ⟨_,kk,bb,r2,rfl,hb2,?_⟩,k v H2 (s1.trans s2) (.jK im e2)⟩
    rw[sY r3,q3,C4,e1]
   ·cases q
  ·cases q⟩
B5 aBb(hk:X.K=K:=by rfl):XN K X (.Dict [] [] pos) aAj (fC (.dt [] [])):=⟨hk,aAl,fun σ H e d Q re q k=>by
 cases q
 intro p hp
 &k _ _ (dO hp _) ⟨(·=p),?_,fun a q=>by cases q;~hp⟩
 B4 Ow
 ~⟨p,[],nil,rfl,cJ,rfl,fun z=>z,fun x=>⟨.inl,fun z=>z.elim id False.elim⟩,by B4 dX;~⟨fun _ z=>z,rfl⟩⟩⟩
def Vj(i:Nat)(π:FP)(g:FK)(f:FE):GS:=fun env=>match env[i]?,π (rE env),g (rE env),f (rE env)with
 | some (.own d0),some p,some k,some d=>(match eO p d0 with
  | some (.dt ks ds)=>if d.jK=true∧ks.length<100000 then .next (env.set i (.own (dR p d0 (.dt (lF ks k) (putD ks ds k d)))))else .bad
  | _=>.bad)
 | _,_,_,_=>.bad
B5 JV{H:Hp}{d:D}{v:V}(o:Ow K H d nil v)(k:List Key):∀{ks:List (List Key)} {ds:List D} {A:Fp} {xs:List V},ks.length=xs.length→dX K H ds A xs→∃A',(∀x,A' x→A x)∧dX K H (Q1 (fun k' d'=>if k'=k then d else d') ks ds) A' (Q1 (fun k' d'=>if k'=k then v else d') ks xs)
 | [],ds,A,xs,hl,h=>by
  cases xs with
  | nil=>~⟨nil,fun _ z=>z.elim,by rw[Q2,Q2];B4 dX;~⟨fun _ z=>z,rfl⟩⟩
  | cons x xs=>simp at hl
 | k0::ks,[],A,xs,hl,h=>by B4 dX at h;rw[h.2]at hl;simp at hl
 | k0::ks,d0::ds,A,xs,hl,h=>by
  B4 dX at h
  B3⟨y,yt,A1,A2,rfl,h2,h3,h4,h5⟩:=h
  B3⟨A',a1,a2⟩:=JV o k (by simpa using hl) h5
  by_cases c:k0=k
  ·&⟨A',fun x q=>(h3 x).mpr (.inr (a1 x q)),?_⟩
   rw[J1,J1,if_pos c,if_pos c]
   B4 dX
   ~⟨v,_,nil,A',rfl,fun _ z=>z.elim,fun x=>⟨.inr,fun z=>z.elim False.elim id⟩,o,a2⟩
  ·&⟨fK A1 A',fun x q=>(h3 x).mpr (q.imp id (a1 x)),?_⟩
   rw[J1,J1,if_neg c,if_neg c]
   B4 dX
   ~⟨y,_,A1,A',rfl,fun x z1 z2=>h2 x z1 (a1 x z2),fun _=>Iff.rfl,h4,a2⟩
B5 aDw(h:EvP K ta i π)(hx:EvK K tb g)(he:Iz K te f):qm K (Fy ta tb te) (Vj i π g f):=fun B E σ H env r p=>by
 B4 Vj at p
 split at p
 ·rename_i d0 pp k d q1 q2 q3 q3'
  split at p
  ·rename_i ks ds q4
   split at p
   ·rename_i hc
    B3⟨v0,a,xs,Bs,k1,k2,k3,k3',k4,k5,k6⟩:=r.aJt q1 q4
    &he σ H H (rE env) d _ (Zn.self K H) r.r q3' fun y H1 Z1 s1 t1 z1 ry=>?_
    &h σ H1 (rE env) v0 pp _ _ (r.r.same s1) k1 q2 (tG s1 k2) fun H2 s2=>hx σ H2 (rE env) _ _ (r.r.same (s1.trans s2)) q3 fun bb H3 s3 hb3=>?_
    have Pb:=s1.trans (s2.trans s3)
    have o:Ow K H3 d nil y:=zX d y hc.1 ((z1.sm.trans (s2.trans s3)).rv _ _ ry)
    &⟨a,_,rfl,.inr ⟨ks.zip xs,k,bb,Pb _ _ k3,rfl,hb3,Ot (by rw[Y2];omega),rfl⟩,p _ ?_⟩
    rw[HH k3']
    have ow3:=k5.same Pb
    by_cases c:(posK ks k).isSome=true
    ·B3⟨A',a1,a2⟩:=JV o k k3' ow3
     &k6 H3 (lF ks k) (putD ks ds k d) (putD ks xs k y) A' Pb (vR k3') ?_ fun b z=>.inl (a1 b z)
     B4 putD
     rw[if_pos c,if_pos c]
     ~a2
    ·&k6 H3 (lF ks k) (putD ks ds k d) (putD ks xs k y) (fK Bs nil) Pb (vR k3') ?_ fun b z=>z.elim .inl False.elim
     B4 putD
     rw[if_neg c,if_neg c]
     ~cG.mpr ((cG.mp ow3).snoc o fun _ _ z=>z)
   ·~p.elim
  ·~p.elim
 ·~p.elim
def aJv(K:aF)(t:TA)(fs:FA)(i:Nat):Prop:=∀(σ:St)(H:Hp)(e:DE)(ds:List D)(v:V)(Q:List V→Hp→Prop),yO K H e σ→fs e=some ds→σ[i]?=some (some v)→(∀vs H',aU H H'→Te K H H' ds vs→Q (vs++[v]) H')→t σ H Q
structure XBm(K:aF)(X:Cx)(es:List Expr)(t:TA)(fs:FA)(i:Nat):Prop where
 hk:X.K=K
 pa:PA X es t
 ev:aJv K t fs i
end
end L2


namespace L2
open PySem PySem.Spec PySem.Calls PyProof.Rows PyProof.V
section
variable{K:aF}{X:Cx}{st:Stmt}{e a b c o:Expr}{es rest:List Expr}{te ta tb tc t0 tv:TE}{f fa fb g:FE}{gk:FK}{gd:FE}{tA:TA}{fs:FA}{pos apos:Pos}{i j:Nat}{π:FP}{tbs:TS}{gm:GM}
def gmN(f:FE):GM:=fun env=>(f (rE env)).map fun d=>(d,env)
B5 ir(h:XN K X e te f):XM K X e te (gmN f):=aJq h
B5 Bm(h:XR K X e te f)(hs:swapsWith e none pos.line X.env=pure false:=by rfl):YS K X (.Expr e pos) (nD te) (yU f):=⟨lH h.pe hs,aDi h.ev⟩
B5 nY{C:Addr}{uc:List Str}{x:Str}{pos':Pos}(F:iZ K C uc)(hx:x∈uc)(h:XP K X a ta i π)(he:XN K X e te f)(hs:swapsWith e (some (.Attribute a x pos')) pos.line X.env=pure false:=by rfl):YS K X (.Assign [.Attribute a x pos'] e pos) (aFo K ta te x) (jL i (vV C i π x f)):=⟨by have:=h.hk;subst this;~aFp h.pe he.pe hs,(aA3 (aF8 F hx h.ev he.ev)).ds⟩
B5 Mw{m:Str}{apos cpos:Pos}(h:XP K X a ta i π)(he:XN K X e te f)(hp:PE X a ta→PE X e te→PS X (.Expr (.Call (.Attribute a m apos) [e] [] cpos) pos) (nD (Nu K "list" nT ta (fY te nG)))):YS K X (.Expr (.Call (.Attribute a m apos) [e] [] cpos) pos) (nD (Nu K "list" nT ta (fY te nG))) (jL i (Eb i π f)):=Jk i (hp h.pe he.pe) (aAQ h.ev he.ev)
B5 JW{pos':Pos}(h:XP K X a ta i π)(hx:XR K X b tb g)(he:XN K X e te f)(hp:PE X a ta→PE X b tb→PE X e te→PS X (.Assign [.Subscript a b pos'] e pos) (uD te (Xd ta tb Fw))):YS K X (.Assign [.Subscript a b pos'] e pos) (uD te (Xd ta tb Fw)) (jL i (uM i π g f)):=Jk i (hp h.pe hx.pe he.pe) (cz h.ev hx.ev he.ev)
B5 Gp{pos':Pos}(h:XP K X a ta i π)(hx:XR K X b tb g)(he:XR K X e te f)(hp:PE X a ta→PE X b tb→PE X e te→PS X (.Assign [.Subscript a b pos'] e pos) (Fy ta tb te)):YS K X (.Assign [.Subscript a b pos'] e pos) (Fy ta tb te) (jL i (rJ i π g f)):=Jk i (hp h.pe hx.pe he.pe) (dg h.ev hx.ev he.ev)
B5 aBc{pos':Pos}(h:XP K X a ta i π)(hx:XKt K X b tb gk)(he:XR K X e te f)(hp:PE X a ta→PE X b tb→PE X e te→PS X (.Assign [.Subscript a b pos'] e pos) (Fy ta tb te)):YS K X (.Assign [.Subscript a b pos'] e pos) (Fy ta tb te) (jL i (Vj i π gk f)):=Jk i (hp h.pe hx.pe he.pe) (aDw h.ev hx.ev he.ev)
end
end L2
namespace L2
open PySem PySem.Spec PySem.Calls PyProof.Rows PyProof.V
def D.JX:D→Bool
 | .non=>true
 | _=>false
B5 JZ{K:aF}{H:Hp}{d:D}{v:V}(r:Rv K H d v):decide (v=.non)=d.JX:=by
 cases d with
 | non=>B4 Rv at r;subst r;rfl
 | bl b=>B4 Rv at r;subst r;rfl
 | int b=>B4 Rv at r;subst r;rfl
 | str b=>B4 Rv at r;subst r;rfl
 | lst ds=>B4 Rv at r;B3⟨a,xs,rfl,_⟩:=r;rfl
 | tup ds=>B4 Rv at r;B3⟨a,xs,rfl,_⟩:=r;rfl
 | dk ks ds=>B4 Rv at r;B3⟨a,xs,rfl,_⟩:=r;rfl
 | dt ks ds=>B4 Rv at r;B3⟨a,xs,rfl,_⟩:=r;rfl
 | ins C nm ds=>B4 Rv at r;B3⟨a,dx,xs,rfl,_⟩:=r;rfl
def zM(neg:Bool)(a b:D):Option D:=match b with
 | .non=>some (.bl (if neg then !a.JX else a.JX))
 | _=>none
B5 Yt{K:aF}:TV K (fun x y H Q=>y=.non∧Q (.bl (decide (x=.non))) H) (zM false):=fun x y H a b d Q ra rb q k=>by
 B4 zM at q
 split at q
 ·cases q
  B4 Rv at rb
  &⟨rb,?_⟩
  rw[JZ ra]
  ~k _ H (aU.refl _) (.jK rfl (by B4 Rv;rfl))
 ·cases q
B5 Jm{K:aF}:TV K (fun x y H Q=>y=.non∧Q (.bl (!decide (x=.non))) H) (zM true):=fun x y H a b d Q ra rb q k=>by
 B4 zM at q
 split at q
 ·cases q
  B4 Rv at rb
  &⟨rb,?_⟩
  rw[JZ ra]
  ~k _ H (aU.refl _) (.jK rfl (by B4 Rv;rfl))
 ·cases q
end L2


namespace L2
open PySem PySem.Spec PySem.Calls PyProof.Rows PyProof.V
section
variable{K:aF}{X:Cx}{e stx:Expr}{te ts:TE}{f g:FE}{pos p2:Pos}
end
end L2


namespace L2
open PySem PySem.Spec PySem.Calls PyProof.Rows PyProof.V
abbrev FE2:=DE→DE→Option D
def EvZ(K:aF)(t:TE)(f:FE2):Prop:=∀{N:Fp}(σ:St)(H Z:Hp)(eF eZ:DE)(d:D)(Q:VK),Zn K N Z H→yO K H eF σ→yO K Z eZ σ→f eF eZ=some d →
 (∀v H' Z',aU H H'→aU Z Z'→Zn K N Z' H'→Rv K Z' d v→Q v H')→t σ H Q
def aJw(K:aF)(t:TA)(f:FA2):Prop:=∀{N:Fp}(σ:St)(H Z:Hp)(eF eZ:DE)(ds:List D)(Q:List V→Hp→Prop),Zn K N Z H→yO K H eF σ→yO K Z eZ σ→f eF eZ=some ds →
 (∀vs H' Z',aU H H'→aU Z Z'→Zn K N Z' H'→eY K Z' ds vs→Q vs H')→t σ H Q
structure XZ(K:aF)(X:Cx)(e:Expr)(t:TE)(f:FE2):Prop where
 hk:X.K=K
 pe:PE X e t
 ev:EvZ K t f
structure XZA(K:aF)(X:Cx)(es:List Expr)(t:TA)(f:FA2):Prop where
 hk:X.K=K
 pa:PA X es t
 ev:aJw K t f
section
variable{K:aF}{X:Cx}{e a b:Expr}{es:List Expr}{te ta tb:TE}{f:FE}{g h:FE2}{tA:TA}{fs:FA2}{pos:Pos}{i:Nat}
B5 aDx(h:XR K X e te f):XZ K X e te (fun _ eZ=>f eZ):=⟨h.hk,h.pe,fun σ H Z eF eZ d Q z rF rZ q k=>h.ev σ H Z eZ d Q z rZ q k⟩
def faZ(g:FE2)(fs:FA2):FA2:=fun eF eZ=>(g eF eZ).bind fun d=>(fs eF eZ).map fun r=>d::r
def aKm(fs:FA2):FE2:=fun eF eZ=>(fs eF eZ).bind fun ds=>cap ds.length (.lst ds)
def aEE(a b:D):Option D:=match a,b with
 | .lst x,.lst y=>if x.length+y.length≤100000 then some (.lst (x++y))else none
 | _,_=>none
def KC(g h:FE2):FE2:=fun eF eZ=>(g eF eZ).bind fun a=>(h eF eZ).bind fun b=>aEE a b
B5 aBd(ha:XZ K X a ta g)(hb:XZ K X b tb h):XZ K X (.BinOp a .Add b pos) (CW (bw K) ta tb) (KC g h):=⟨ha.hk,aEa (cg ha.hk) ha.pe hb.pe,fun σ H Z eF eZ d Q z rF rZ q k=>by
 B3⟨d1,q1,q⟩:=aY q
 B3⟨d2,q2,q⟩:=aY q
 B4 aEE at q
 split at q
 ·rename_i x y
  split at q
  ·rename_i hl
   cases q
   &ha.ev σ H Z eF eZ _ _ z rF rZ q1 fun u H1 Z1 s1 t1 z1 ru=>hb.ev σ H1 Z1 eF eZ _ _ z1 (rF.same s1) (rZ.same t1) q2 fun v H2 Z2 s2 t2 z2 rv=>?_
   have ru:=t2.rv _ _ ru
   B4 Rv at ru rv
   B3⟨p,xs,rfl,r2,r3⟩:=ru
   B3⟨p',xs',rfl,r2',r3'⟩:=rv
   &⟨p,p',xs,xs',rfl,rfl,z2.sm.seq r2,z2.sm.seq r2',Uw (by rw[r3.length,r3'.length];~hl),fun l hl=>?_⟩
   B3⟨a1,a2⟩:=TX (o:=.lst (xs++xs')) z2 hl
   ~k _ _ _ (s1.trans (s2.trans (dO hl _))) (t1.trans (t2.trans a1)) a2 (by B4 Rv;~⟨l,_,rfl,pK.of cJ,a1.TJ _ _ (r3.append r3')⟩)
  ·cases q
 ·cases q⟩
def Jo(js:List Nat)(i:Nat)(g:FE2):GS:=fun env=>match g (rE (zA js env)) (zE (zA js env))with
 | some d=>if i<(zA js env).length then .next ((zA js env).set i (.fro d))else .bad
 | none=>.bad
B5 KD{js:List Nat}{x:Str}{pos':Pos}(h:XZ K X e te g)(hp:PE X e te→PS X (.Assign [.Name x pos'] e pos) (uD te (iR i))):YS K X (.Assign [.Name x pos'] e pos) (uD te (iR i)) (Jo js i g):=⟨hp h.pe,fun B E σ H env r p=>by
 have r:=r.zA (js:=js)
 B4 Jo at p
 generalize zA js env=Dz at *
 split at p
 ·rename_i d q
  split at p
  ·rename_i hi
   have rr:=r.r
   B3⟨A,a,b⟩:=r
   ~h.ev σ H (out H A) (rE Dz) (zE Dz) d _ (Ph a) rr (aEu a) q fun v H' Z' s t z rv=>p _ _ (Mu a b hi s t z rv)
  ·~p.elim
 ·~p.elim⟩
end
end L2


namespace L2
open PySem PySem.Spec PySem.Calls PyProof.Rows PyProof.V
inductive Ar where
  | ch (i:Nat) | rd (f:FE) | nw (f:FE)
def chA:List Ar→List Nat
 | []=>[]
 | .ch i::as=>i::chA as
 | .rd _::as=>chA as
 | .nw _::as=>chA as
def iu:List Ar→List Bool
 | []=>[]
 | .ch _::as=>true::iu as
 | .rd _::as=>false::iu as
 | .nw _::as=>false::iu as
def rdA:List Ar→DE→DE→Option (List D)
 | [],_,_=>some []
 | .ch _::as,eF,eZ=>rdA as eF eZ
 | .rd f::as,eF,eZ=>(f eZ).bind fun d=>(rdA as eF eZ).map fun r=>d::r
 | .nw f::as,eF,eZ=>(f eF).bind fun d=>(rdA as eF eZ).map fun r=>d::r
def tK:List Bool→List D→List D→List D
 | true::m,c::cs,rs=>c::tK m cs rs
 | false::m,cs,r::rs=>r::tK m cs rs
 | _,_,_=>[]
def um:List Bool→List V→List V
 | true::m,v::vs=>v::um m vs
 | false::m,_::vs=>um m vs
 | _,_=>[]
def aBe:List Bool→List D→List V→EN
 | true::m,d::ds,v::vs=>.inn v d::aBe m ds vs
 | false::m,d::ds,_::vs=>.fro d::aBe m ds vs
 | _,_,_=>[]
def iw(K:aF)(Z:Hp)(σ:St):List Ar→List D→List V→Prop
 | [],ds,vs=>ds=[]∧vs=[]
 | .ch i::as,ds,vs=>∃v r,vs=v::r∧σ[i]?=some (some v)∧iw K Z σ as ds r
 | .rd _::as,ds,vs=>∃d dr v r,ds=d::dr∧vs=v::r∧Rv K Z d v∧iw K Z σ as dr r
 | .nw _::as,ds,vs=>∃d dr v r,ds=d::dr∧vs=v::r∧Rv K Z d v∧iw K Z σ as dr r
def VsA(σ:St):List Nat→List V→Prop
 | [],vs=>vs=[]
 | j::js,vs=>∃v r,vs=v::r∧σ[j]?=some (some v)∧VsA σ js r
def takes:List Nat→EN→Option (List D×EN)
 | [],env=>some ([],env)
 | j::js,env=>(env[j]?.bind SD.hold).bind fun db=>(takes js (env.set j .no)).map fun de=>(db.1::de.1,de.2)
def aHZ:List Nat→List D→EN→EN
 | j::js,d::ds,env=>(match env[j]?.bind SD.hold with
  | some db=>(aHZ js ds (env.set j .no)).set j (db.2 d)
  | none=>env)
 | _,_,env=>env
section
variable{K:aF}{X:Cx}{e:Expr}{es:List Expr}{te:TE}{f:FE}{tA:TA}{as:List Ar}{pos:Pos}{i:Nat}
def aJx(K:aF)(t:TA)(as:List Ar):Prop:=∀(A1:Fp)(σ:St)(H:Hp)(eF eZ:DE)(ds:List D)(cv:List V)(Q:List V→Hp→Prop),(∀x,A1 x→lO H x)→yO K H eF σ→yO K (out H A1) eZ σ→VsA σ (chA as) cv→rdA as eF eZ=some ds →
 (∀vs H',aU H H'→iw K (out H' A1) σ as ds vs→Q vs H')→t σ H Q
structure XAC(K:aF)(X:Cx)(es:List Expr)(t:TA)(as:List Ar):Prop where
 hk:X.K=K
 pa:PA X es t
 ev:aJx K t as
end
section
variable{K:aF}{H H' Z Z' B:Hp}{σ:St}
B5 eU.fp{α β:Type}{R:α→Fp→β→Prop}{ds:List α}{A A':Fp}{ys:List β}(h:eU R ds A ys)(e:Is A A'):eU R ds A' ys:=by
 have:A=A':=funext fun x=>propext (e x)
 rw[←this]
 ~h
B5 aH0{A A0 A1:Fp}{e0:EN}(h:eU (fZ K H (out H A)) e0 A0 σ)(h0:Apart A0 A1)(hA:∀x,A1 x→A x)(c:∀x,A1 x→lO H x):yO K (out H A1) (rE e0) σ:=fun j d q=>by
 B4 rE at q
 rw[B8]at q
 cases ej:e0[j]? with
 | none=>rw[ej]at q;cases q
 | some sd=>
  rw[ej]at q
  B3⟨y,Ak,Ck,f1,f2,f3,f4,_⟩:=h.focus ej
  have apk:Apart Ak A1:=fun x z1 z2=>h0 x ((f3 x).mpr (.inl z1)) z2
  cases sd with
  | no=>cases q
  | fro d1=>
   cases q
   B3⟨_,v1,rfl,f5⟩:=f4
   ~⟨v1,f1,(bU (aU.refl _) fun x q=>.inl (hA x q):aU (out H A) (out H A1)).rv _ _ f5⟩
  | own d1=>
   cases q
   B3⟨v1,rfl,f5⟩:=f4
   ~⟨v1,f1,f5.out apk fun x q=>(c x q).2⟩
  | inn v1 d1=>
   cases q
   B3⟨rfl,f5⟩:=f4
   ~⟨v1,f1,f5.out apk fun x q=>(c x q).2⟩
end
def spG(K:aF)(mask:List Bool)(F:List D→Option (D×List D)):Sp:=fun vs H Q _=>∃A ds r ds',ds.length=mask.length∧vs.length=mask.length∧eU (fZ K H (out H A)) (aBe mask ds vs) A (vs.map some)∧F ds=some (r,ds')∧∀w H' A' A2,dX K H' ds' A' (um mask vs)→Ow K H' r A2 w→Apart A' A2→aU (out H A) (out H' (fK A' A2))→Q w H'
def aKo(as:List Ar)(F:List D→Option (D×List D)):GM:=fun env=>(takes (chA as) env).bind fun ce=>(rdA as (rE env) (rE ce.2)).bind fun Vk=>(F (tK (iu as) ce.1 Vk)).map fun rd=>(rd.1,aHZ (chA as) rd.2 env)
section
variable{K:aF}{X:Cx}{e:Expr}{es:List Expr}{tA:TA}{as:List Ar}{pos pf:Pos}
end
def Vl:List Bool→List V→EN→List D→Prop
 | true::m,v::vs,s::e,ds=>∃d r,s=.inn v d∧ds=d::r∧Vl m vs e r
 | false::m,_::vs,_::e,ds=>Vl m vs e ds
 | [],_,_,ds=>ds=[]
 | _,_,_,_=>False
def Ly(mask:List Bool)(r:D)(ds':List D)(vs:List V)(o:SR):Prop:=∃env',(o=.rete r env'∨(o=.next env'∧r=.non))∧Vl mask vs env' ds'
B5 Bo:∀{m:List Bool} {vs:List V} {e:EN} {a b:List D},Vl m vs e a→Vl m vs e b→a=b
 | true::m,v::vs,s::e,a,b,⟨d,r,h1,h2,h3⟩,⟨d',r',g1,g2,g3⟩=>by
  rw[h1]at g1
  injection g1 with _ g1
  rw[h2,g2,Bo h3 g3,g1]
 | false::m,v::vs,s::e,a,b,h,g=>Bo (m:=m) (vs:=vs) (e:=e) h g
 | [],vs,e,a,b,h,g=>by
  have h:a=[]:=h
  have g:b=[]:=g
  rw[h,g]
 | true::m,[],e,a,b,h,g=>h.elim
 | false::m,[],e,a,b,h,g=>h.elim
 | true::m,v::vs,[],a,b,h,g=>h.elim
 | false::m,v::vs,[],a,b,h,g=>h.elim
B5 aBf{mask:List Bool}{r r2:D}{a b:List D}{vs:List V}{o:SR}(h1:Ly mask r a vs o)(h2:Ly mask r2 b vs o):r=r2∧a=b:=by
  B3⟨e1,a1,a2⟩:=h1
  B3⟨e2,b1,b2⟩:=h2
  rcases a1 with a1 | ⟨a1,rfl⟩
  · rcases b1 with b1 | ⟨b1,rfl⟩
    · rw[a1]at b1
      injection b1 with c1 c2
      subst c2
      ~⟨c1,Bo a2 b2⟩
    · rw[a1]at b1;cases b1
  · rcases b1 with b1 | ⟨b1,rfl⟩
    · rw[a1]at b1;cases b1
    · rw[a1]at b1
      injection b1 with c2
      subst c2
      ~⟨rfl,Bo a2 b2⟩
abbrev KH(n:Nat)(mask:List Bool)(ds:List D)(vs:List V):EN:=aBe mask ds vs++E4 (n-mask.length) SD.no
open Classical in
noncomputable def Qf(n:Nat)(mask:List Bool)(g:GS):List D→Option (D×List D):=fun ds=>if h:∃p:D×List D,ds.length=mask.length∧∀vs:List V,vs.length=mask.length→Ly mask p.1 p.2 vs (g (KH n mask ds vs))then some h.choose else none
B5 Af{n:Nat}{mask:List Bool}{g:GS}{ds ds':List D}{r:D}(hl:ds.length=mask.length)(h:∀vs:List V,vs.length=mask.length→Ly mask r ds' vs (g (KH n mask ds vs))):Qf n mask g ds=some (r,ds'):=by
 have ex:∃p:D×List D,ds.length=mask.length∧∀vs:List V,vs.length=mask.length→Ly mask p.1 p.2 vs (g (KH n mask ds vs)):=⟨(r,ds'),hl,h⟩
 B4 Qf
 rw[dif_pos ex]
 have hz:(E4 mask.length V.non).length=mask.length:=P9
 B3⟨e1,e2⟩:=aBf (ex.choose_spec.2 _ hz) (h _ hz)
 ~congrArg some (j7 e1 e2)
B5 aBg{n:Nat}{mask:List Bool}{g:GS}{ds ds':List D}{r:D}(h:Qf n mask g ds=some (r,ds'))(vs:List V)(hv:vs.length=mask.length):Ly mask r ds' vs (g (KH n mask ds vs)):=by
 B4 Qf at h
 split at h
 ·rename_i ex
  have:=ex.choose_spec
  rw[F4 h]at this
  ~this.2 vs hv
 ·cases h
section
variable{P:Program}{w:World}{K:aF}{mg:Str→Option Value}{base:Heap}
B5 Mx{H Z:Hp}:∀(m:List Bool)(vs:List V)(env:EN)(ds:List D)(A:Fp)(σ:St),eU (fZ K H Z) env A σ→Vl m vs env ds→vs.length=m.length→∃A',(∀x,A' x→A x)∧dX K H ds A' (um m vs)
 | true::m,v::vs,s::e,ds,A,σ,h,⟨d,r,h1,h2,h3⟩,hl=>by
  B3⟨y,yt,A1,A2,k1,k2,k3,k4,k5⟩:=h
  subst h1 h2
  B3⟨A',g1,g2⟩:=Mx m vs e r A2 yt k5 h3 (p6 hl)
  &⟨fK A1 A',fun x z=>(k3 x).mpr (z.elim .inl fun z=>.inr (g1 x z)),?_⟩
  B4 dX
  ~⟨v,um m vs,A1,A',rfl,fun x z1 z2=>k2 x z1 (g1 x z2),fun x=>Iff.rfl,k4.2,g2⟩
 | false::m,v::vs,s::e,ds,A,σ,h,h3,hl=>by
  B3⟨y,yt,A1,A2,k1,k2,k3,k4,k5⟩:=h
  B3⟨A',g1,g2⟩:=Mx m vs e ds A2 yt k5 h3 (p6 hl)
  ~⟨A',fun x z=>(k3 x).mpr (.inr (g1 x z)),g2⟩
 | [],vs,e,ds,A,σ,h,g,hl=>by
  have g:ds=[]:=g
  subst g
  &⟨nil,fun _ z=>z.elim,?_⟩
  B4 dX
  &⟨fun _ z=>z,?_⟩
  cases vs<;>rfl
 | true::m,[],e,ds,A,σ,h,g,hl=>g.elim
 | false::m,[],e,ds,A,σ,h,g,hl=>g.elim
 | true::m,v::vs,[],ds,A,σ,h,g,hl=>g.elim
 | false::m,v::vs,[],ds,A,σ,h,g,hl=>g.elim
B5 iy{H Z:Hp}:∀(n:Nat) {env:EN} {A:Fp} {σ:St},eU (fZ K H Z) env A σ→eU (fZ K H Z) (env++E4 n SD.no) A (σ++E4 n none)
 | 0,env,A,σ,h=>by
  show eU _ (env++[]) A (σ++[])
  rw[F9,F9]
  ~h
 | n+1,env,A,σ,h=>by
  have s:=iy n (eU.snoc (d:=SD.no) (y:=none) (A1:=nil) h (fun _ z=>z) fun _ _ z=>z)
  rw[P8,P8]at s
  ~s.fp fun x=>⟨fun z=>z.elim id False.elim,.inl⟩
B5 aH1{X:Cx}{N:List Str}{mask:List Bool}{g:GS}{body:List Stmt}{t:TS}{vs:List V}{H:Hp}{Q:VK}{E:XK}(yb:YB K X body t g)(h:spG K mask (Qf N.length mask g) vs H Q E):t {nx:=fun _ H'=>Q .non H',rt:=Q} (start N vs) H:=by
  B3⟨A,ds,r,ds',hl,hv,hs,hF,kk⟩:=h
  B3⟨env',q1,q2⟩:=aBg hF vs hv
  &yb.ev (out H A) _ _ H (KH N.length mask ds vs) ?_ ?_
  · have s:=iy (N.length-mask.length) hs
    have e:start N vs=vs.map some++E4 (N.length-mask.length) none:=by
      B4 start
      rw[hv]
    rw[e]
    ~⟨A,s,aU.refl _⟩
  · rcases q1 with q1 | ⟨q1,rfl⟩
    · rw[q1]
      intro w σ' H' ⟨A2,a2,b2⟩
      B3⟨A3,A4,k1,⟨w',ew,o⟩,k3,k4⟩:=a2.Jj
      cases ew
      B3⟨A5,g1,g2⟩:=Mx mask vs env' ds' A3 σ' k1 q2 hv
      ~kk w H' A5 A4 g2 o (fun x z1 z2=>k3 x (g1 x z1) z2) (b2.trans (bU (aU.refl _) fun x z=>.inl ((k4 x).mpr (z.elim (fun z=>.inl (g1 x z)) .inr))))
    · rw[q1]
      intro σ' H' ⟨A2,a2,b2⟩
      B3⟨A5,g1,g2⟩:=Mx mask vs env' ds' A2 σ' a2 q2 hv
      ~kk .non H' A5 nil g2 (by B4 Ow;~⟨fun _ z=>z,rfl⟩) (fun x z1 z2=>z2) (b2.trans (bU (aU.refl _) fun x z=>.inl (z.elim (g1 x) False.elim)))
B5 Raw.aJy{x:Str}{st:Stmt}{N ps:List Str}{k:Nat}{g:GS}{mask:List Bool}(R:Raw K mg x st)(S:bB N ps (aM st))(hb:HB x x st ps)(hm:mask.length=ps.length)
  (hbody:∀(f:Addr)(cdv:Value)(A:Around)(outer:List Env)(s:Shared)(H:Hp)(E:XK),jR k (A.deeper (envOfC x (aM st) s.heap.objs.size f cdv))→∃t,YB K (Fv CZ P w K mg base N x (aM st) f cdv A outer s H E).ZK (cH st) t g):qL P w K mg base x (k+1) mask.length (spG K mask (Qf N.length mask g)):=by
 rw[hm]
 &R.cal S (fun vs H Q E h=>by B3⟨A,ds,r,ds',hl,hv,_⟩:=h;~hv.trans hm) hb (fun f cdv A outer s H vs Q E hr h=>?_)
 B3⟨t,yb⟩:=hbody f cdv A outer s H E hr
 ~⟨t,yb.ps,aH1 yb h⟩
end
section
variable{K:aF}{X:Cx}{a b:Expr}{rest:List Expr}{ta tb:TE}{g h:GM}{f:FE}{pos:Pos}
def aKp(g h:GM):GM:=fun env=>(g env).bind fun de=>match de.1 with
 | .bl true=>h de.2
 | .bl false=>some (.bl false,de.2)
 | _=>none
def aIM(f:FE):GS:=fun env=>match f (rE env)with
 | some (.lst _)=>.next env
 | _=>.bad
end
end L2


namespace L2
open PySem PySem.Spec PySem.Calls PyProof.Rows PyProof.V
section
variable{prog:Program}{w:World}{A:Around}{R:Result→Shared→Prop}{I:Addr}{fp wr:List Addr}{n:Nat}{P:Nat→Value→Prop}{St:Nat→Heap→Prop}{kw:List (Str×Value)}
end
section
variable{prog:Program}{w:World}{A:Around}{E:Value→Shared→Prop}{s:Shared}
end
section
variable{K:aF}{X:Cx}{e e2:Expr}{te t2:TE}{f g:FE}{x:Str}{p pos kp:Pos}
end
end L2


namespace L2
open PySem PySem.Spec PySem.Calls PyProof.Rows PyProof.V
section
variable{X:Cx}
def My:V→List V→Hp→VK→Prop:=fun x vs H Q=>∃l xs i y,x=.ref l∧vs=[.int i,y]∧H l=some (.lst xs)∧0≤i∧i.toNat≤xs.length∧xs.length<sizeLine∧Q .non (upd H l (.lst (xs.take i.toNat++y::xs.drop i.toNat)))
B5 uo:MtM X "list.insert" My:=by
 intro pins s σ H x vs v us Q I rx rv h
 B3⟨l,xs,i,y,rfl,rfl,hH,h0,h1,hz,q⟩:=h
 cases rx
 B3⟨u1,u2,rfl,ru1,ru2⟩:=rv.two
 B3⟨t,rfl⟩:=ru1
 B3⟨z,its,n,r,hl,e⟩:=I.aCQ hH
 have hsl:sizeLine<2 ^ 62:=by decide
 &call_meets F.slot_list_insert ⟨_,e,rfl⟩ F.entry_list_insert (F.args_list_insert_3 _ _ _) (AutoSeq1.list_insert_list_int_val_1 l its.toArray n i t u2 (by rw[fitsIndex_both A6 A6];decide) (by rw[C5];omega)) ⟨e,?_⟩
 &⟨.non,_,I.aCP (its':=its.take i.toNat++u2::its.drop i.toNat) hH e ?_ ((r.take _).append (.cons ru2 (r.drop _))) ?_,rfl,q⟩
 ·show (its.toArray.extract 0 (if i<0 then(i+(its.toArray.size:Int)).toNat else min i.toNat its.toArray.size)).push u2++its.toArray.extract (if i<0 then(i+(its.toArray.size:Int)).toNat else min i.toNat its.toArray.size)=_
  rw[if_neg A6,C5,show min i.toNat its.length=i.toNat by omega]
  apply Array.ext'
  simp
  ~S0 (by rw[O8];omega)
 ·rw[C7,E9,J0,O8]
  omega
B5 Yu{i:Int}{t:Tok}:∀{ns:List Int} {us:List Value},Vals (ns.map V.int) us→∀y∈us,MeetsSeq.EqGives y (.int i t) (Xn (.int i) y)
 | [],_,.nil=>fun y hy=>by cases hy
 | n::ns,u::us,.cons r rs=>fun y hy=>by
  rcases C9.mp hy with rfl | hy
  ·B3⟨t',rfl⟩:=r
   ~MeetsSeq.EqGives.int n i t' t
  ·~Yu rs y hy
B5 Eg{i:Int}:∀{ns:List Int} {m:Nat} (h:m<ns.length),m<ns.idxOf i→ns[m]≠i
 | [],m,h,_=>absurd h (L7 _)
 | a::ns,0,h,hl=>fun e=>by
  have e:a=i:=e
  rw[Y3,e,beq_self_eq_true]at hl
  ~absurd hl (K7 _)
 | a::ns,m+1,h,hl=>by
  rw[Y3]at hl
  cases q:a==i with
  | true=>rw[q]at hl;~absurd hl (L7 _)
  | false=>
   rw[q]at hl
   have hl:m+1<ns.idxOf i+1:=hl
   ~Eg (ns:=ns) (m:=m) (by simpa using h) A6
B5 aBh{α β:Type}(φ:α→β):∀(l:List α)(k:Nat),(l.map φ).eraseIdx k=(l.eraseIdx k).map φ
 | [],_=>rfl
 | _::_,0=>rfl
 | a::l,k+1=>congrArg (φ a::·) (aBh φ l k)
B5 int_at{ns:List Int}{us:List Value}(h:Vals (ns.map V.int) us)(i:Int){m:Nat}(hm:m<us.toArray.size):∃hn:m<ns.length,Xn (.int i) us.toArray[m]=(ns[m]==i):=by
 have hl:=h.length
 rw[B7]at hl
 have hm':m<us.length:=by simpa using hm
 B3⟨u,eu,ru⟩:=h.get (i:=m) (x:=.int (ns[m]'(by omega))) (by rw[B8,B6 A6];rfl)
 B3⟨t,rfl⟩:=ru
 have e:us.toArray[m]=.int (ns[m]'(by omega)) t:=by
  have:=B6 hm'
  rw[eu]at this
  simpa using (F4 this).symm
 &⟨by omega,?_⟩
 rw[e]
 rfl
def Mz:V→List V→Hp→VK→Prop:=fun x vs H Q=>∃(l:Addr)(ns:List Int)(i:Int),x=.ref l∧vs=[.int i]∧H l=some (.lst (ns.map V.int))∧i∈ns∧Q .non (upd H l (.lst ((ns.eraseIdx (ns.idxOf i)).map V.int)))
B5 Jp:MtM X "list.remove" Mz:=by
 intro pins s σ H x vs v us Q I rx rv h
 B3⟨l,ns,i,rfl,rfl,hH,hi,q⟩:=h
 cases rx
 B3⟨u,rfl,ru⟩:=rv.one
 B3⟨t,rfl⟩:=ru
 B3⟨z,its,n,r,hl,e⟩:=I.aCQ hH
 rw[B7]at hl
 have hj:ns.idxOf i<ns.length:=V2 hi
 have hz:its.length≤sizeLine:=by rw[B7]at z;omega
 &call_meets F.slot_list_remove ⟨_,e,rfl⟩ F.entry_list_remove (F.args_list_remove_2 _ _) (MeetsSeq.list_remove l its.toArray n (.int i t) (Xn (.int i)) (fun y hy=>Yu r y (by simpa using hy)) (ns.idxOf i) (by rw[C5];omega) ?_ ?_ (by rw[C5];~hz)) ⟨e,?_⟩
 ·B3⟨h1,h2⟩:=int_at r i (m:=ns.idxOf i) (by rw[C5];omega)
  rw[h2,f6]
  ~beq_self_eq_true i
 ·intro m hm hlt
  B3⟨h1,h2⟩:=int_at r i hm
  rw[h2]
  ~beq_eq_false_iff_ne.mpr (Eg h1 hlt)
 ·&⟨.non,_,I.aCP (its':=its.eraseIdx (ns.idxOf i)) hH e ?_ ?_ ?_,rfl,q⟩
  ·rw[T3]
  ·have:=r.eraseIdx (ns.idxOf i)
   rw[aBh]at this
   ~this
  ·rw[B7]
   have:=Ir ns (ns.idxOf i)
   omega
def WK(K:aF):V→List V→Hp→VK→Prop:=fun x vs H Q=>∃(l:Addr)(ns:List Int)(i:Int),x=.ref l∧vs=[.int i]∧pK K H l (ns.map V.int)∧i∈ns∧Q (.int (ns.idxOf i)) H
B5 aBi:MtM X "list.index" (WK X.K):=by
 intro pins s σ H x vs v us Q I rx rv h
 B3⟨l,ns,i,rfl,rfl,hq,hi,q⟩:=h
 cases rx
 B3⟨u,rfl,ru⟩:=rv.one
 B3⟨t,rfl⟩:=ru
 B3⟨its,r,pl,z⟩:=I.list hq
 have hl:=r.length
 rw[B7]at hl z
 have hj:ns.idxOf i<ns.length:=V2 hi
 have hsl:sizeLine<2 ^ 62:=by decide
 B3⟨⟨cls,dd,data,sl⟩,ho,hc,n,hd⟩:=pl.isList
 dsimp only at hc hd
 subst hc hd
 &call_meets F.slot_list_index ⟨_,ho,rfl⟩ F.entry_list_index (F.args_list_index_2 _ _) (SeqAt.list_indexAt l its.toArray n dd sl (.int i t) (Xn (.int i)) (ns.idxOf i) (by rw[C5];omega) A6 ?_ ?_) ⟨ho,fun y hy=>MeetsSeq.EqGives.at (Yu r y (by simpa using hy)) _ _,?_⟩
 ·B3⟨h1,h2⟩:=int_at r i (m:=ns.idxOf i) (by rw[C5];omega)
  rw[h2,f6]
  ~beq_self_eq_true i
 ·intro m hm hlt
  B3⟨h1,h2⟩:=int_at r i hm
  rw[h2]
  ~beq_eq_false_iff_ne.mpr (Eg h1 hlt)
 ·~⟨.int (ns.idxOf i),H,I.tok _,⟨_,rfl⟩,q⟩
end
section
variable{K:aF}{X:Cx}{a b e:Expr}{ta tb te:TE}{f g:FE}{i:Nat}{π:FP}{pos apos cpos:Pos}{m:Str}
def uq(i:Nat)(π:FP)(g f:FE):GS:=fun env=>match env[i]?,π (rE env),g (rE env),f (rE env)with
 | some (.own d0),some p,some (.int k),some (.int y)=>(match eO p d0 with
  | some (.lst ds)=>(match intsOf ds with
   | some ns=>if 0≤k∧k.toNat≤ns.length∧ns.length<1000 then .next (env.set i (.own (dR p d0 (.lst ((ns.take k.toNat++y::ns.drop k.toNat).map D.int)))))else .bad
   | none=>.bad)
  | _=>.bad)
 | _,_,_,_=>.bad
B5 aGc(h:EvP K ta i π)(hx:Iz K tb g)(he:Iz K te f):qm K (nD (Nu K "list" My ta (fY tb (fY te nG)))) (uq i π g f):=fun B E σ H env r p=>by
 B4 uq at p
 split at p
 ·rename_i d0 pp k y q1 q2 q3 q3'
  split at p
  ·rename_i ds q4
   split at p
   ·rename_i ns q5
    split at p
    ·rename_i hc
     B3⟨c0,c1,c2⟩:=hc
     B3⟨v0,a,xs,Bs,k1,k2,k3,k4,k5,k6⟩:=r.IK q1 q4
     have ed:=uK q5
     subst ed
     have ex:=kY.mp (dX.rv _ _ _ k5)
     subst ex
     &h σ H (rE env) v0 pp _ _ r.r k1 q2 k2 fun H1 s1=>⟨.inl ⟨rfl,_,pK.of (s1 _ _ k3)⟩,?_⟩
     &hx σ H1 H1 (rE env) _ _ (Zn.self K H1) (r.r.same s1) q3 fun u H2 Z2 s2 t2 z2 ru=>he σ H2 H2 (rE env) _ _ (Zn.self K H2) (r.r.same (s1.trans s2)) q3' fun w H3 Z3 s3 t3 z3 Sv=>?_
     B4 Rv at ru Sv
     subst ru Sv
     have Pb:=s1.trans (s2.trans s3)
     &⟨a,_,k,.int y,rfl,rfl,Pb _ _ k3,c0,by rw[B7];~c1,Ot (by rw[B7];omega),p _ ?_⟩
     have e:(ns.map V.int).take k.toNat++V.int y::(ns.map V.int).drop k.toNat=(ns.take k.toNat++y::ns.drop k.toNat).map V.int:=by rw[G0,D3,S6,S7]
     rw[e]
     ~k6 H3 _ _ nil Pb (Fz _ _ (cV _) (kY.mpr rfl)) fun b z=>z.elim
    ·~p.elim
   ·~p.elim
  ·~p.elim
 ·~p.elim
def KJ(i:Nat)(π:FP)(f:FE):GS:=fun env=>match env[i]?,π (rE env),f (rE env)with
 | some (.own d0),some p,some (.int y)=>(match eO p d0 with
  | some (.lst ds)=>(match intsOf ds with
   | some ns=>if y∈ns then .next (env.set i (.own (dR p d0 (.lst ((ns.eraseIdx (ns.idxOf y)).map D.int)))))else .bad
   | none=>.bad)
  | _=>.bad)
 | _,_,_=>.bad
B5 aGd(h:EvP K ta i π)(he:Iz K te f):qm K (nD (Nu K "list" Mz ta (fY te nG))) (KJ i π f):=fun B E σ H env r p=>by
 B4 KJ at p
 split at p
 ·rename_i d0 pp y q1 q2 q3
  split at p
  ·rename_i ds q4
   split at p
   ·rename_i ns q5
    split at p
    ·rename_i hc
     B3⟨v0,a,xs,Bs,k1,k2,k3,k4,k5,k6⟩:=r.IK q1 q4
     have ed:=uK q5
     subst ed
     have ex:=kY.mp (dX.rv _ _ _ k5)
     subst ex
     &h σ H (rE env) v0 pp _ _ r.r k1 q2 k2 fun H1 s1=>⟨.inl ⟨rfl,_,pK.of (s1 _ _ k3)⟩,?_⟩
     &he σ H1 H1 (rE env) _ _ (Zn.self K H1) (r.r.same s1) q3 fun w H2 Z2 s2 t2 z2 Sv=>?_
     B4 Rv at Sv
     subst Sv
     have s12:=s1.trans s2
     &⟨a,ns,y,rfl,rfl,s12 _ _ k3,hc,p _ ?_⟩
     ~k6 H2 _ _ nil s12 (Fz _ _ (cV _) (kY.mpr rfl)) fun b z=>z.elim
    ·~p.elim
   ·~p.elim
  ·~p.elim
 ·~p.elim
B5 aDy(h:XP K X a ta i π)(hx:XR K X b tb g)(he:XR K X e te f)(hp:PE X a ta→PE X b tb→PE X e te→PS X (.Expr (.Call (.Attribute a m apos) [b,e] [] cpos) pos) (nD (Nu K "list" My ta (fY tb (fY te nG))))):YS K X (.Expr (.Call (.Attribute a m apos) [b,e] [] cpos) pos) (nD (Nu K "list" My ta (fY tb (fY te nG)))) (jL i (uq i π g f)):=Jk i (hp h.pe hx.pe he.pe) (aGc h.ev hx.ev he.ev)
B5 Yv(h:XP K X a ta i π)(he:XR K X e te f)(hp:PE X a ta→PE X e te→PS X (.Expr (.Call (.Attribute a m apos) [e] [] cpos) pos) (nD (Nu K "list" Mz ta (fY te nG)))):YS K X (.Expr (.Call (.Attribute a m apos) [e] [] cpos) pos) (nD (Nu K "list" Mz ta (fY te nG))) (jL i (KJ i π f)):=Jk i (hp h.pe he.pe) (aGd h.ev he.ev)
def Qg(a b:D):Option D:=match a,b with
 | .lst ds,.int i=>(intsOf ds).bind fun ns=>if i∈ns then some (.int (ns.idxOf i))else none
 | _,_=>none
B5 aBj(ha:XR K X a ta f)(he:XR K X e te g)(hp:PE X a ta→PE X e te→PE X (.Call (.Attribute a m apos) [e] [] pos) (Nu X.K "list" (WK X.K) ta (fY te nG))):XN K X (.Call (.Attribute a m apos) [e] [] pos) (Nu K "list" (WK K) ta (fY te nG)) (f2 Qg f g):=⟨ha.hk,by have:=ha.hk;subst this;~hp ha.pe he.pe,fun σ H e d Q re q k=>by
 B3⟨d1,q1,q⟩:=aY q
 B3⟨d2,q2,q⟩:=aY q
 B4 Qg at q
 split at q
 ·B3⟨ns,q3,q⟩:=aY q
  split at q
  ·rename_i hi
   cases q
   &ha.ev σ H H e _ _ (Zn.self K H) re q1 fun v H1 Z1 s1 t1 z1 rv=>?_
   have rv:=z1.sm.rv _ _ rv
   B3⟨p,rfl,r2⟩:=vU q3 rv
   &⟨.inl ⟨rfl,_,r2⟩,he.ev σ H1 H1 e _ _ (Zn.self K H1) (re.same s1) q2 fun u H2 Z2 s2 t2 z2 ru=>?_⟩
   B4 Rv at ru
   subst ru
   B3⟨p',e',r3⟩:=vU q3 (s2.rv _ _ rv)
   cases e'
   ~⟨p,ns,_,rfl,rfl,r3,hi,k _ H2 (s1.trans s2) (.jK rfl (by B4 Rv;rfl))⟩
  ·cases q
 ·cases q⟩
def Qh(a b:D):Option D:=match a with
 | .dk ks ds=>(Tf b).bind fun k=>match posK ks k with
  | none=>some .non
  | some j=>(ds[j]?).bind fun r=>if r.jK=true then some r else none
 | _=>none
B5 Qi(hu:X.A.units+1<cLine)(ha:XR K X a ta f)(he:XR K X e te g)(mm:M1 X a "get" apos e cpos):XN K X (.Call (.Attribute a "get" apos) [e] [] cpos) (aAm ta te) (f2 Qh f g):=⟨ha.hk,aAn hu ha.pe he.pe mm,fun σ H e d Q re q k=>by
 B3⟨d1,q1,q⟩:=aY q
 B3⟨d2,q2,q⟩:=aY q
 B4 Qh at q
 split at q
 ·rename_i ks ds _
  B3⟨kk,h1,q⟩:=aY q
  &ha.ev σ H H e _ _ (Zn.self K H) re q1 fun x H1 Z1 s1 t1 z1 rx=>?_
  have rx:=z1.sm.rv _ _ rx
  have rx':=rx
  B4 Rv at rx
  B3⟨p,xs,r1,r2,r3,r4⟩:=rx
  &⟨p,r1,.inl ⟨_,r2⟩,he.ev σ H1 H1 e _ _ (Zn.self K H1) (re.same s1) q2 fun u H2 Z2 s2 t2 z2 ru=>?_⟩
  have ru:=z2.sm.rv _ _ ru
  have rx2:=s2.rv _ _ rx'
  B4 Rv at rx2
  B3⟨p',xs',e1,r2',r3',r4'⟩:=rx2
  rw[r1]at e1
  cases e1
  &⟨wQ (ks.zip xs') kk,.inl ⟨_,kk,r2',Ms h1 ru,rfl⟩,?_⟩
  rw[sY r3']
  split at q
  ·rename_i hn
   cases q
   rw[hn]
   ~k _ H2 (s1.trans s2) (.jK rfl (by B4 Rv;rfl))
  ·rename_i j hj
   B3⟨r,q4,q⟩:=aY q
   split at q
   ·rename_i im
    cases q
    B3⟨v,e1,e2⟩:=r4'.get q4
    rw[hj,C4,e1]
    ~k v H2 (s1.trans s2) (.jK im e2)
   ·cases q
 ·cases q⟩
def aDz:List D→Option D
 | [.int a]=>some (.int (if a<0 then -a else a))
 | _=>none
def aH2:List V→Hp→VK→Prop:=fun xs H Q=>∃a:Int,xs=[.int a]∧Q (.int (if a<0 then -a else a)) H
B5 aGe:yS K aH2 aDz:=fun vs H ds d Q rs q k=>by
 B4 aDz at q
 split at q
 ·cases q
  B3⟨v,rfl,r⟩:=sZ rs
  B4 Rv at r
  subst r
  ~⟨_,rfl,k _ H (aU.refl _) (.jK rfl (by B4 Rv;rfl))⟩
 ·cases q
B5 aGf:nF X (.builtin "abs") aH2:=by
 intro pins s σ H xs us Q I r h
 B3⟨a,rfl,q⟩:=h
 B3⟨u,rfl,rx⟩:=vals1 r
 B3⟨t,rfl⟩:=rx
 ~call_abs_int fun u tk=>⟨.int _,H,I.tok _,⟨u,rfl⟩,q⟩
end
end L2


namespace L2
open PySem PySem.Spec PySem.Calls PyProof.Rows PyProof.V
def aGg(ks:List Key)(vs:List V):List (V×V):=(ks.zip vs).map fun kv=>(kV kv.1,kv.2)
def aJz(K:aF)(t:List (TE×TE))(ks:List Key)(is:List Nat)(fs:FA):Prop:=∀(σ:St)(H:Hp)(e:DE)(ds:List D)(xs:List V)(Q:List (V×V)→Hp→Prop),yO K H e σ→fs e=some ds→xs.length=is.length →
 (∀(k i:Nat),is[k]?=some i→∃x,xs[k]?=some x∧σ[i]?=some (some x))→(∀vs H',aU H H'→Te K H H' ds vs→Q (aGg ks (xs++vs)) H')→RZ t σ H Q
structure XDm(K:aF)(X:Cx)(p:Pos)(keys:List (Option Expr))(vals:List Expr)(t:List (TE×TE))(ks:List Key)(is:List Nat)(fs:FA):Prop where
 hk:X.K=K
 pps:PPs X p keys vals t
 ev:aJz K t ks is fs
section
variable{K:aF}{X:Cx}{st:Stmt}{e:Expr}{vals:List Expr}{keys:List (Option Expr)}{te:TE}{f:FE}{fs:FA}{pos p p1:Pos}{i j:Nat}{t:List (TE×TE)}{ks:List Key}{is:List Nat}{x:Str}
def aKr(ks:List Key)(is:List Nat)(fs:FA):GS:=fun env=>match fs (rE env),aAT env is with
 | some ds,some os=>if decide is.Nodup=true∧decide ks.Nodup=true∧ks.length=os.length+ds.length∧ks.length≤15 then .ret (.dk ks (os++ds))else .bad
 | _,_=>.bad
end
section
variable{X:Cx}{K:aF}{x y:Str}{p p2 pos pos2:Pos}{a b:Expr}{t:TA}{fs:FA}
B5 KN(lo:Int):∀(m:Nat)(us:List Value)(s:Nat),us.length=m→(∀(j:Nat)(w:Value),us[j]?=some w→∃t,w=.int (lo+((s+j:Nat):Int)) t)→Vals ((List.range' s m).map fun k=>V.int (lo+((k:Nat):Int))) us
 | 0,us,s,hl,_=>by
  have:us=[]:=L9 hl
  subst this
  ~.nil
 | m+1,us,s,hl,hw=>by
  cases us with
  | nil=>cases hl
  | cons w us=>
   rw[List.range'_succ,D3]
   B3⟨t0,e0⟩:=hw 0 w rfl
   &.cons ⟨t0,by rw[e0];rfl⟩ (KN lo m us (s+1) (by simpa using hl) fun j w' hj=>?_)
   B3⟨t1,e1⟩:=hw (j+1) w' (by simpa using hj)
   ~⟨t1,by rw[e1,show s+(j+1)=s+1+j by omega]⟩
def Yw:List V→Hp→VK→Prop:=fun vs H Q=>∃lo hi:Int,vs=[.int lo,.int hi]∧0≤lo∧lo≤1000∧0≤hi∧hi≤1000∧∀l,H l=none→Q (.ref l) (upd H l (.lst ((D2 (hi-lo).toNat).map fun k=>V.int (lo+((k:Nat):Int)))))
B5 aBk(hc:X.calm=true)(pins:List (Addr×Obj))(s:Shared)(σ:St)(H:Hp)(vs:List V)(us:List Value)(Q:VK)(I:Inv X pins σ H s)(rv:Vals vs us)(h:Yw vs H Q) :
  wpAny (model X.prog X.w) X.A (call (.type "range") us) (fun u' s'=>wpAny (model X.prog X.w) X.A (call (.type "list") [u']) (EP X pins σ Q) X.xe s') X.xe s:=by
 B3⟨lo,hi,rfl,h0,h1,h2,h3,q⟩:=h
 cases rv with
 | cons r rr=>
  cases rr with
  | cons r' rr=>
   cases rr
   B3⟨t,rfl⟩:=r
   B3⟨t',rfl⟩:=r'
   &call_range_2 ?_
   &call_list_range (n:=(hi-lo).toNat) (I.ok.hd hc) (IsRange.new _ _ _ _ _ _ _) (small_one A6 A6 A6 A6) (by rw[rangeSize_one];split<;>omega) A6 fun h' tk acc c kp g it=>?_
   have I1:Inv X pins σ H {s with heap:=s.heap.push {cls:=.type "range", data:=.fields #[.int lo t,.int hi t',.int 1 s.toks]},toks:=s.toks+1}:=I.kept (t':=s.toks+1) fun b o e=>Heap.get?_push_of_some _ e
   generalize hg':s.heap.push {cls:=.type "range", data:=.fields #[.int lo t,.int hi t',.int 1 s.toks]}=hp at *
   have hs:H hp.objs.size=none:=I1.hok.fresh (C6 _)
   have rr:Vals ((D2 (hi-lo).toNat).map fun k=>V.int (lo+((k:Nat):Int))) acc.toList:=by
    rw[List.range_eq_range']
    &KN lo _ acc.toList 0 (by rw[K3];~it.1) fun j w hj=>?_
    B3⟨t1,e1⟩:=it.2 j w (by rw[←L8];~hj)
    ~⟨t1,by rw[e1,show lo+(j:Int)*1=lo+((0+j:Nat):Int) by omega]⟩
   ~⟨.ref _,_,I1.laid (t':=tk) (a:=hp.objs.size) (o:=.lst ((D2 (hi-lo).toNat).map fun k=>V.int (lo+((k:Nat):Int)))) kp (C6 _) ⟨by rw[B7,D8];~O5 (vL A6),acc.toList,c,rr,by simpa[seqObj]using g⟩,rfl,q _ hs⟩
B5 ur(hc:X.calm=true)(ha:PA X [a,b] t)(hg:Gl X x)(hm:X.mg x=none)(hv:bootBuiltins x=some (.type "list")) (hg2:Gl X y) (hm2:X.mg y=none) (hv2:bootBuiltins y=some (.type "range")) (hn:x ≠ "__name__" := by decide) (hdb:(x==("__debug__" : Str))=false:=by decide) (hn2:y ≠ "__name__" := by decide) (Yo:(y==("__debug__" : Str))=false:=by decide)
  (he:starEach [a,b] X.env=[(false,eval a X.env),(false,eval b X.env)]:=by rfl) (he1:starEach [b] X.env=[(false,eval b X.env)]:=by rfl) (he2:starEach [.Call (.Name y p2) [a,b] [] pos2] X.env=[(false,eval (.Call (.Name y p2) [a,b] [] pos2) X.env)]:=by rfl) :
  PE X (.Call (.Name x p) [.Call (.Name y p2) [a,b] [] pos2] [] pos) (tCB Yw t):=by
 intro pins s σ H Q I h
 &wpAny_Call_Name_kw (wN I hg hm hv ?_ hn hdb)
 &K8 ?_ he2 rfl
 rw[he2]
 &Calls.spliced_cons (wpAny_Call_Name_kw (wN I hg2 hm2 hv2 ?_ hn2 Yo))
 ~K8 (jA (ha pos2 pins s σ H _ I h) fun us s1 ⟨vs,H1,I1,r1,q1⟩=>jA (aBk hc pins s1 σ H1 vs us Q I1 r1 q1) fun u' s' z=>Calls.spliced_nil z) (by rw[he,he1]) (by rw[he1];rfl)
def rR:List D→Option D
 | [.int lo,.int hi]=>if 0≤lo∧lo≤1000∧0≤hi∧hi≤1000 then some (.lst ((D2 (hi-lo).toNat).map fun k=>D.int (lo+((k:Nat):Int))))else none
 | _=>none
B5 Vm(h:XA K X [a,b] t fs)(hg:Gl X x)(hm:X.mg x=none)(hv:bootBuiltins x=some (.type "list")) (hg2:Gl X y) (hm2:X.mg y=none) (hv2:bootBuiltins y=some (.type "range")) (hc:X.calm=true:=by rfl) (hn:x ≠ "__name__" := by decide) (hdb:(x==("__debug__" : Str))=false:=by decide) (hn2:y ≠ "__name__" := by decide) (Yo:(y==("__debug__" : Str))=false:=by decide)
  (he:starEach [a,b] X.env=[(false,eval a X.env),(false,eval b X.env)]:=by rfl) (he1:starEach [b] X.env=[(false,eval b X.env)]:=by rfl) (he2:starEach [.Call (.Name y p2) [a,b] [] pos2] X.env=[(false,eval (.Call (.Name y p2) [a,b] [] pos2) X.env)]:=by rfl) :
  XN K X (.Call (.Name x p) [.Call (.Name y p2) [a,b] [] pos2] [] pos) (tCB Yw t) (fL rR fs):=⟨h.hk,ur hc h.pa hg hm hv hg2 hm2 hv2 hn hdb hn2 Yo he he1 he2,fun σ H e d Q re q k=>by
 B3⟨ds,q1,q2⟩:=aY q
 B4 rR at q2
 split at q2
 ·rename_i lo hi
  split at q2
  ·rename_i hl
   cases q2
   &h.ev σ H H e _ _ (Zn.self K H) re q1 fun vs H1 Z1 s1 t1 z1 rvs=>?_
   B4 eY at rvs
   B3⟨v1,r1,rfl,e1,rvs⟩:=rvs
   B4 eY at rvs
   B3⟨v2,r2,rfl,e2,rvs⟩:=rvs
   B4 eY at rvs
   subst rvs
   B4 Rv at e1 e2
   subst e1 e2
   &⟨lo,hi,rfl,hl.1,hl.2.1,hl.2.2.1,hl.2.2.2,fun l hl=>k _ _ (s1.trans (dO hl _)) ((uH (aU.refl _) (.gY ?_ ?_) hl).back s1)⟩
   ·have:=cV ((D2 (hi-lo).toNat).map fun k=>lo+((k:Nat):Int))
    rw[K5]at this
    ~this
   ·have:=kY (K:=K) (H:=H1) (ns:=(D2 (hi-lo).toNat).map fun k=>lo+((k:Nat):Int)) |>.mpr rfl
    rw[K5]at this
    rw[show (fun k:Nat=>V.int (lo+(k:Int)))=V.int∘fun k:Nat=>lo+(k:Int)from rfl,←K5]
    ~this
  ·cases q2
 ·cases q2⟩
end
end L2


namespace L2
open PySem PySem.Spec PySem.Calls PyProof.Rows PyProof.V
section
variable{K:aF}{X:Cx}{a e:Expr}{ta te:TE}{f:FE}{π:FP}{i:Nat}{m:Str}{apos cpos pos:Pos}
def aKs(i:Nat)(π:FP)(f:FE):GS:=fun env=>match env[i]?,π (rE env),f (rE env)with
 | some (.own d0),some p,some (.int k)=>(match eO p d0 with
  | some (.lst ds)=>(match intsOf ds with
   | some ns=>if 0≤k∧k.toNat<ns.length∧ns.length<1000 then .next (env.set i (.own (dR p d0 (.lst ((ns.eraseIdx k.toNat).map D.int)))))else .bad
   | none=>.bad)
  | _=>.bad)
 | _,_,_=>.bad
end
end L2


namespace L2
open PySem PySem.Spec PySem.Calls PyProof.Rows PyProof.V
section
variable{K:aF}{X:Cx}{a b e:Expr}{es:List Expr}{ta tb te t:TE}{f g:FE}{tA:TA}{fs:FA}{pos apos cpos p2:Pos}{m:Str}
structure aKt(mg:Str→Option Value)(x:Str)(i:Str):Prop where
 ex:∃t,mg x=some (.str i t)
def aEF(i j:Int):Prop:=0<j∧j.natAbs.log2<9000
instance:∀i j,Decidable (aEF i j):=fun i j=>by B4 aEF;~inferInstance
end
section
variable{P:Program}{w:World}{K:aF}{tg:Expr}
end
section
variable{K:aF}{X:Cx}{tg e l:Expr}{t tl:TE}{f:FE}
end
end L2


namespace L2
open PySem PySem.Spec PySem.Calls PyProof.Rows PyProof.V
section
variable{K:aF}{X:Cx}{a b c e:Expr}{ta tb tc te t:TE}{f g fa fb fc:FE}{pos apos cpos:Pos}{m:Str}
end
end L2


namespace L2
open PySem PySem.Spec PySem.Calls PyProof.Rows PyProof.V
section
variable{K:aF}{B H H':Hp}{env:EN}{σ:St}{i j:Nat}{v:V}{d:D}
B5 Rel.aGh(h:Rel K B (env++[.own d]) (σ++[some v]) H):∃H0,Rel K B env σ H0∧aU H0 H∧Mm K H0 H d v:=by
 B3⟨A,a,b⟩:=h
 B3⟨A0,A1,k1,⟨v',e,o⟩,k3,k4⟩:=a.Jj
 cases e
 have cl:=Ow.cells _ _ _ o
 have tk:vP K H (out H A1):=fun p xs q=>by
  have np:(∃u,H p=some (.tup xs)∨H p=some (.zA u (.tup xs)))→¬A1 p:=fun z z2=>by
   B3⟨u,z⟩:=z
   rcases z with z | z
   ·~(cl p z2).2.1 _ z
   ·~(cl p z2).2.2 _ _ z
  rcases q with (q | ⟨u,q⟩) | q
  ·~.inl (.inl (by rw[Xy (np ⟨default,.inl q⟩)];~q))
  ·~.inl (.inr ⟨u,by rw[Xy (np ⟨u,.inr q⟩)];~q⟩)
  ·~.inr q
 have g:aU (out H A) (out (out H A1) A0):=fun x u ex=>by
  B3⟨e1,e2⟩:=bA.mp ex
  ~bA.mpr ⟨fun z=>e1 ((k4 x).mpr (.inl z)),bA.mpr ⟨fun z=>e1 ((k4 x).mpr (.inr z)),e2⟩⟩
 &⟨out H A1,⟨A0,k1.mono fun s D z hb qq=>?_,b.trans g⟩,kW _ _,A1,o,fun x z=>?_⟩
 ·have fr:∀x,D x→out H A1 x=H x:=fun x zx=>Xy fun z=>k3 x (hb x zx) z
  cases s with
  | no=>~qq
  | fro d=>B3⟨q1,v,q2,q3⟩:=qq;~⟨q1,v,q2,g.rv _ _ q3⟩
  | inn v d=>~⟨qq.1,Ow.frame tk _ _ _ qq.2 fr⟩
  | own d=>B3⟨v,q1,q2⟩:=qq;~⟨v,q1,Ow.frame tk _ _ _ q2 fr⟩
 ·B4 out
  rw[if_pos z]
end
end L2


namespace L2
open PySem PySem.Spec PySem.Calls PyProof.Rows PyProof.V
abbrev aJA(h:Heap)(l:List Env):Heap:=k9 h (frs l)
structure Fl(l:List Env)(s1:Shared)(e:Addr)(cls:Value)(s':Shared):Prop where
 fly:∃a0,Heap.FlyingW (aJA s1.heap l) l e cls a0 s'.heap
 up:s1.heap.UpToSlots s'.heap
 os:s'.os=s1.os
 bare:AllBare s'.gens
def CX1(P:Program)(w:World):mj:=fun outer H s E ev s'=>∃e cls H' s1,ev=.ref e∧s1.os=s.os∧AllBare s1.gens∧Un (frs outer) [] H H' s.heap s1.heap∧Df P w H' s1.heap∧Fl outer s1 e cls s'∧E cls none H'
section
variable{P:Program}{w:World}{l:List Env}{s1 s':Shared}{e:Addr}{cls:Value}{H:Hp}{base:Heap}
end
section
variable{X:Cx}{pins:List (Addr×Obj)}{σ:St}{H:Hp}{s s1 s':Shared}{e:Addr}{cls ev:Value}{E:XK}
end
section
variable{P:Program}{w:World}{env:Env}{outer:List Env}{L e:Addr}{cls a0:Value}{s0 s1:Shared}{H0 H:Hp}{E:XK}{base h':Heap}{s2:Shared}
end
section
variable{P:Program}{w:World}{K:aF}{mg:Str→Option Value}{base:Heap}{N:List Str}{qual:Str}{scope:Scope}{f:Addr}{cd:Value}{A:Around}{outer:List Env}{s0:Shared}{H0:Hp}{E:XK}
end
end L2


namespace L2
open PySem PySem.Spec PySem.Calls PyProof.Rows PyProof.V
abbrev GZ:=EN→Option Nat
def DZ(K:aF)(κ:Nat→Addr)(E:XK)(t:TS)(z:GZ):Prop:=∀(B:Hp)(D:Ends)(σ:St)(H:Hp)(env:EN)(i:Nat),Rel K B env σ H→z env=some i→(∀H',aU B H'→E (.ref (κ i)) none H')→t D σ H
structure YZ(K:aF)(κ:Nat→Addr)(X:Cx)(E:XK)(st:Stmt)(t:TS)(z:GZ):Prop where
 ps:PS X st t
 ev:DZ K κ E t z
structure YZB(K:aF)(κ:Nat→Addr)(X:Cx)(E:XK)(st:List Stmt)(t:TS)(z:GZ):Prop where
 ps:DY X st t
 ev:DZ K κ E t z
structure aLp(P:Program)(w:World)(K:aF)(mg:Str→Option Value)(base:Heap)(x:Str)(k:Nat)(n:Nat)(sp:Sp):Prop where
 ex:∃f fd ps,ps.length=n∧zF P w K mg base (CX1 P w) k f fd ps sp∧Binds K fd ps []∧J9 K (.ref f)=true∧mg x=some (.ref f)
structure aKu(P:Program)(w:World)(K:aF)(mg:Str→Option Value)(base:Heap)(C:Addr)(m:Str)(k n:Nat)(df:Bool)(sp:Sp):Prop where
 ex:∃f fd ps,ps.length=n∧zF P w K mg base (CX1 P w) k f fd ps sp∧Binds K fd ps []∧(df=true→Binds K fd ps [Value.none])∧Meth K C m f
section
variable{K:aF}{κ:Nat→Addr}{X:Cx}{E:XK}{st:Stmt}{sts rest:List Stmt}{t u:TS}{z z1 z2:GZ}{g:GS}{c e o:Expr}{es:List Expr}{te ta:TE}{tA:TA}{tc:TT}{fc:FT}{f:FE}{fs:FA}{pos apos:Pos}{m:Str}
def PE1(X:Cx)(pins:List (Addr×Obj))(σ:St)(e:Expr)(t:TE):Prop:=∀(s:Shared)(H:Hp)(Q:VK),Inv X pins σ H s→t σ H Q→wpAny (model X.prog X.w) X.A (eval e X.env) (EP X pins σ Q) X.xe s
def PS1(X:Cx)(pins:List (Addr×Obj))(σ:St)(st:Stmt)(t:TS):Prop:=∀(s:Shared)(H:Hp)(D:Ends),Inv X pins σ H s→t D σ H→wpAny (model X.prog X.w) X.A (exec st X.env) (SP X pins D) X.xe s
def aEG(CX:mj)(X:Cx)(pins:List (Addr×Obj))(σ:St)(E:XK):Prop:=∀(H:Hp)(s:Shared)(e:Value)(s':Shared),Inv X pins σ H s→CX X.stack H s E e s'→X.xe e s'
structure XRz(K:aF)(κ:Nat→Addr)(X:Cx)(E:XK)(e:Expr)(t:TE)(z:DE→Option Nat):Prop where
 pe:∀(pins:List (Addr×Obj))(σ:St),aEG (CX1 X.prog X.w) X pins σ E→PE1 X pins σ e t
 ev:∀(σ:St)(H:Hp)(de:DE)(i:Nat)(Q:VK),yO K H de σ→z de=some i→(∀H',aU H H'→E (.ref (κ i)) none H')→t σ H Q
end
section
variable{P:Program}{w:World}{K:aF}{mg:Str→Option Value}{base:Heap}{κ:Nat→Addr}
end
section
variable{K:aF}{κ:Nat→Addr}{X:Cx}{E:XK}{z:GZ}{g:GS}{pos:Pos}
end
end L2


namespace L2
open PySem PySem.Spec PySem.Calls PyProof.Rows PyProof.V
abbrev aH3:List Value:=[.type "ValueError", .type "Exception", .type "BaseException", .type "object"]
structure ExF(K:aF)(mg:Str→Option Value)(x:Str)(C:Addr):Prop where
 mg:mg x=some (.ref C)
 ok:PySem.W.excIn K C aH3 "ValueError.__new__" = true
section
variable{P:Program}{w:World}{K:aF}{mg:Str→Option Value}{base:Heap}{N:List Str}{qual:Str}{scope:Scope}{f:Addr}{cd:Value}{A:Around}{outer:List Env}{s0:Shared}{H0:Hp}{E:XK}{κ:Nat→Addr}
 {x:Str} {C:Addr} {np cpos pos:Pos} {e:Expr} {es:List Expr} {tA:TA}
end
abbrev Cx.tr(X:Cx)(pn:List (Addr×Obj))(Ex:Value→Shared→Prop):Cx:={X with pn:=pn,xe:=Ex}
abbrev Cx.hand(X:Cx)(pn:List (Addr×Obj))(e:Addr):Cx:={X with pn:=pn,A:=X.A.mark (some (.ref e)),calm:=false,xe:=fun _ _=>False}
section
variable{X:Cx}{pins yg pn:List (Addr×Obj)}{σ:St}{H:Hp}{s s':Shared}{Ex:Value→Shared→Prop}{e:Addr}{D:Ends}{fl:Flow}
end
abbrev aH4:=Nat→Nat→Bool
section
variable{K:aF}{κ:Nat→Addr}{X:Cx}{sub:aH4}{n nj:Nat}{z:GZ}{g:GS}{st:Stmt}{pos:Pos}
def gAs(k:Nat)(g:GS):GS:=fun env=>if k<env.length then(match g (env.set k .no)with
 | .next env'=>if k<env'.length then .next (env'.set k .no)else .bad
 | _=>.bad)else .bad
structure YE(K:aF)(X:Cx)(k:Nat)(e:Addr)(sts:List Stmt)(t:TS)(g:GS):Prop where
 ps:DY X sts t
 ev:∀(B:Hp)(D:Ends)(σ:St)(H:Hp)(env:EN),Rel K B env σ H→σ[k]?=some (some (.ref e))→Pj K B D (g env)→t D σ H
inductive HK(K:aF)(κ:Nat→Addr)(X:Cx)(n i:Nat):List ExceptHandler→List (Nat×GS)→Prop
 | nil:HK K κ X n i [] []
 | cons {x:Str} {np hp:Pos} {b₀:Stmt} {suite:List Stmt} {rest:List ExceptHandler} {j:Nat} {gh:GS} {r:List (Nat×GS)} (hm:X.mg x=some (.ref (κ j))) (hg:Gl X x) (hd:(x==("__debug__" : Str))=false)
   (hs:∀(pn:List (Addr×Obj))(e:Addr),∃t,YB K (X.hand pn e) (b₀::suite) t gh) (hr:HK K κ X n i rest r):HK K κ X n i (.ExceptHandler (some (.Name x np)) none (b₀::suite) hp::rest) ((j,gh)::r)
 | as {x nm:Str} {np hp:Pos} {b₀:Stmt} {suite:List Stmt} {rest:List ExceptHandler} {j k:Nat} {gh:GS} {r:List (Nat×GS)} (hm:X.mg x=some (.ref (κ j))) (hg:Gl X x) (hd:(x==("__debug__" : Str))=false) (hN:X.N.Nodup) (hk:X.N[k]?=some nm) (hl:X.env.scope.names.lookup nm=some .local)
   (hs:∀(pn:List (Addr×Obj))(e:Addr)(oe:Obj),i<n→oe.cls=.ref (κ i)→(e,oe)∈pn→∃t,YE K (X.hand pn e) k e (b₀::suite) t gh) (hr:HK K κ X n i rest r):HK K κ X n i (.ExceptHandler (some (.Name x np)) (some nm) (b₀::suite) hp::rest) ((j,gAs k gh)::r)
structure ZS(K:aF)(κ:Nat→Addr)(X:Cx)(E:XK)(st:Stmt)(t:TS)(z:GZ):Prop where
 ps:∀(pins:List (Addr×Obj))(σ:St),aEG (CX1 X.prog X.w) X pins σ E→PS1 X pins σ st t
 ev:∀(B:Hp)(D:Ends)(σ:St)(H:Hp)(env:EN)(i:Nat),Rel K B env σ H→z env=some i→(∀H',aU H H'→E (.ref (κ i)) none H')→t D σ H
end
end L2


namespace L2
open PySem PySem.Spec PySem.Calls PyProof.Rows PyProof.V
section
variable{K:aF}{X:Cx}{κ:Nat→Addr}{pos p:Pos}
structure XE(K:aF)(X:Cx)(k:Nat)(ea:Addr)(e:Expr)(t:TE)(d:D):Prop where
 pe:PE X e t
 ev:∀(σ:St)(H:Hp)(Q:VK),σ[k]?=some (some (.ref ea))→(∀v H',aU H H'→Mm K H H' d v→Q v H')→t σ H Q
end
section
variable{K:aF}{X:Cx}{g:GS}{pos:Pos}
end
end L2


namespace L2
open PySem PySem.Spec PySem.Calls PyProof.Rows PyProof.V
section
variable{K:aF}{X:Cx}{pos p0:Pos}
end
end L2


namespace L2
open PySem PySem.Spec PySem.Calls PyProof.Rows PyProof.V Builtin Builtin.ObjectAttr Builtin.Getset_descriptor
section
variable{P:Program}{w:World}{A:Around}{E:Value→Shared→Prop}{s:Shared}{K:aF}{x D:Addr}{ox:Obj}{od:Option Obj}
structure aLt(K:aF)(D:Addr):Prop where
 ga:F3 K (.ref D) "__getattribute__" = some (some (.builtin "BaseException.__getattribute__"))
 gt:F3 K (.ref D) "__getattr__" = some none
 cl:F3 K (.ref D) "__class__" = some (some (.builtin "object.__class__"))
 sp:V7 K (.builtin "object.__class__") "__get__" = some (some (.builtin "getset_descriptor.__get__"))
 tk:l0 K (.builtin "object.__class__")=some true
 mr:o6 K D (.type "object")=some true
 bx:PySem.W.subIn K (.ref D) (.type "BaseException")=some true
 ct:(PySem.W.clsIn K D).isSome=true
end
section
variable{K:aF}{X:Cx}{κ:Nat→Addr}{pos p:Pos}
structure XEn(K:aF)(X:Cx)(k:Nat)(ea:Addr)(e:Expr)(t:TE)(f:FE):Prop where
 hk:X.K=K
 pe:PE X e t
 ev:∀(σ:St)(H:Hp)(de:DE)(d:D)(Q:VK),yO K H de σ→σ[k]?=some (some (.ref ea))→f de=some d→(∀v H',aU H H'→Mm K H H' d v→Q v H')→t σ H Q
structure XEB(K:aF)(X:Cx)(k:Nat)(ea:Addr)(es:List Expr)(t:TA)(fs:FA):Prop where
 hk:X.K=K
 pa:PA X es t
 ev:∀(σ:St)(H:Hp)(de:DE)(ds:List D)(Q:List V→Hp→Prop),yO K H de σ→σ[k]?=some (some (.ref ea))→fs de=some ds→(∀vs H',aU H H'→Te K H H' ds vs→Q vs H')→t σ H Q
end
end L2


namespace L2
open PySem PySem.Spec PySem.Calls PyProof.Rows PyProof.V
section
variable{P:Program}{w:World}{K:aF}{mg:Str→Option Value}{base:Heap}{κ:Nat→Addr}
end
section
variable{K:aF}{κ:Nat→Addr}{X:Cx}{E:XK}{pos:Pos}
end
end L2


namespace L2
open PySem PySem.Spec PySem.Calls PyProof.Rows PyProof.V
section
variable{K:aF}{X:Cx}{e:Expr}{t:TE}{f:FE}{pos:Pos}
end
end L2


set_option maxHeartbeats 1000000
namespace L2
open PySem PySem.Spec PySem.Calls PyProof.Rows PyProof.V
section
variable{K:aF}{X:Cx}{e:Expr}{t:TE}{f:FE}{pos p2:Pos}
def aH5(z:Str)(lo hi:Option Int):Prop:=(∀i∈lo.toList,0≤i)∧(∀j∈hi.toList,0≤j)∧HT.Nt z.length 0 lo≤HT.Nt z.length z.length hi∧z.length≤100000
instance:∀z lo hi,Decidable (aH5 z lo hi):=fun z lo hi=>by B4 aH5;~inferInstance
end
end L2


namespace L2
open PySem PySem.Spec PySem.Calls PyProof.Rows PyProof.V
section
variable{K:aF}{X:Cx}{pos:Pos}
variable{κ:Nat→Addr}{sub:aH4}{n nj:Nat}
end
end L2


namespace L2
open PySem PySem.Spec PySem.Calls PyProof.Rows PyProof.V
section
variable{K:aF}{X:Cx}
end
end L2


namespace L2
open PySem PySem.Spec PySem.Calls PyProof.Rows PyProof.V
section
variable{K:aF}{X:Cx}{a e0 eM:Expr}{es:List Expr}{t0 tM:TE}{f0:FE}{gM:GM}{tA:TA}{fs:FA}{pos:Pos}{i:Nat}
end
end L2


namespace L2
open PySem PySem.Spec PySem.Calls PyProof.Rows PyProof.V
section
variable{K:aF}{X:Cx}{e1 e2:Expr}{t1 t2 te:TE}{f g fe:FE}{tc:TT}{fc:FT}{pos p p2:Pos}{x:Str}
end
end L2


namespace L2
open PySem PySem.Spec PySem.Calls PyProof.Rows PyProof.V
inductive Ap where
  | ch (i:Nat) (π:FP) | rd (f:FE) | nw (f:FE)
def chP:List Ap→DE→Option (List (Nat×List Step))
 | [],_=>some []
 | .ch i π::as,e=>(π e).bind fun p=>(chP as e).map fun r=>(i,p)::r
 | .rd _::as,e=>chP as e
 | .nw _::as,e=>chP as e
def qD:List Ap→List Bool
 | []=>[]
 | .ch _ _::as=>true::qD as
 | .rd _::as=>false::qD as
 | .nw _::as=>false::qD as
def rdP:List Ap→DE→DE→Option (List D)
 | [],_,_=>some []
 | .ch _ _::as,eF,eZ=>rdP as eF eZ
 | .rd f::as,eF,eZ=>(f eZ).bind fun d=>(rdP as eF eZ).map fun r=>d::r
 | .nw f::as,eF,eZ=>(f eF).bind fun d=>(rdP as eF eZ).map fun r=>d::r
def KQ(K:aF)(Z:Hp):List Ap→List V→List D→List V→Prop
 | [],cv,ds,vs=>cv=[]∧ds=[]∧vs=[]
 | .ch _ _::as,cv,ds,vs=>∃v cr r,cv=v::cr∧vs=v::r∧KQ K Z as cr ds r
 | .rd _::as,cv,ds,vs=>∃d dr v r,ds=d::dr∧vs=v::r∧Rv K Z d v∧KQ K Z as cv dr r
 | .nw _::as,cv,ds,vs=>∃d dr v r,ds=d::dr∧vs=v::r∧Rv K Z d v∧KQ K Z as cv dr r
def VsP(σ:St)(H:Hp):List (Nat×List Step)→List V→Prop
 | [],vs=>vs=[]
 | (j,p)::js,vs=>∃v0 v r,vs=v::r∧σ[j]?=some (some v0)∧Le H p v0=some v∧VsP σ H js r
B5 VsP.same{σ:St}{H H':Hp}(s:aU H H'):∀{js:List (Nat×List Step)} {vs:List V},VsP σ H js vs→VsP σ H' js vs
 | [],_,h=>h
 | (_,_)::_,_,⟨v0,v,r,h1,h2,h3,h4⟩=>⟨v0,v,r,h1,h2,tG s h3,VsP.same s h4⟩
def wZ:List (Nat×List Step)→EN→Option (List D×EN)
 | [],env=>some ([],env)
 | (j,p)::js,env=>(env[j]?.bind SD.hold).bind fun db=>(eO p db.1).bind fun d=>(wZ js (env.set j .no)).map fun de=>(d::de.1,de.2)
def Dm:List (Nat×List Step)→List D→EN→EN
 | (j,p)::js,d::ds,env=>(match env[j]?.bind SD.hold with
  | some db=>(Dm js ds (env.set j .no)).set j (db.2 (dR p db.1 d))
  | none=>env)
 | _,_,env=>env
section
variable{K:aF}{X:Cx}{e:Expr}{es:List Expr}{te:TE}{f:FE}{tA:TA}{as:List Ap}{pos:Pos}{i:Nat}{π:FP}
def aJB(K:aF)(t:TA)(as:List Ap):Prop:=∀(A1:Fp)(σ:St)(H:Hp)(eF eZ:DE)(ds:List D)(ps:List (Nat×List Step))(cv:List V)(Q:List V→Hp→Prop),(∀x,A1 x→lO H x)→yO K H eF σ→yO K (out H A1) eZ σ→chP as eF=some ps→VsP σ H ps cv→rdP as eF eZ=some ds →
 (∀vs H',aU H H'→KQ K (out H' A1) as cv ds vs→Q vs H')→t σ H Q
structure XAP(K:aF)(X:Cx)(es:List Expr)(t:TA)(as:List Ap):Prop where
 hk:X.K=K
 pa:PA X es t
 ev:aJB K t as
B5 aDA(hk:X.K=K:=by rfl):XAP K X [] nG []:=⟨hk,jY,fun A1 σ H eF eZ ds ps cv Q c re rz cp va q k=>by
 cases q
 cases cp
 ~k [] H (aU.refl _) ⟨va,rfl,rfl⟩⟩
B5 aBl(h:XP K X e te i π)(hs:XAP K X es tA as)(hst:starEach (e::es) X.env=(false,eval e X.env)::starEach es X.env:=by rfl):XAP K X (e::es) (fY te tA) (.ch i π::as):=⟨hs.hk,fD h.pe hs.pa hst,fun A1 σ H eF eZ ds ps cv Q c re rz cp va q k=>by
 B3⟨p,c1,c2⟩:=aY cp
 B3⟨pr,c3,rfl⟩:=lN c2
 B3⟨v0,v,r,rfl,h1,h2,h3⟩:=va
 &h.ev σ H eF v0 p v _ re h1 c1 h2 fun H1 s1=>?_
 &hs.ev A1 σ H1 eF eZ ds pr r _ (fun x q=>(c x q).same s1) (re.same s1) (rz.same (bU s1 fun x q=>.inl q)) c3 (h3.same s1) q fun vs H' s a=>k (v::vs) H' (s1.trans s) ⟨v,r,vs,rfl,rfl,a⟩⟩
B5 aH6(h:XR K X e te f)(hs:XAP K X es tA as)(hst:starEach (e::es) X.env=(false,eval e X.env)::starEach es X.env:=by rfl):XAP K X (e::es) (fY te tA) (.rd f::as):=⟨h.hk,fD h.pe hs.pa hst,fun A1 σ H eF eZ ds ps cv Q c re rz cp va q k=>by
 B3⟨d,q1,q2⟩:=aY q
 B3⟨ds',q3,rfl⟩:=lN q2
 &h.ev σ H (out H A1) eZ d _ (aA5 c) rz q1 fun v H1 Z1 s1 t1 z1 rv=>?_
 &hs.ev A1 σ H1 eF eZ ds' ps cv _ (fun x q=>(c x q).same s1) (re.same s1) (rz.same (bU s1 fun x q=>.inl q)) cp (va.same s1) q3 fun vs H2 s2 rvs=>?_
 ~k (v::vs) H2 (s1.trans s2) ⟨d,ds',v,vs,rfl,rfl,((aEC z1).trans (bU s2 fun x q=>.inl q)).rv _ _ rv,rvs⟩⟩
end
section
variable{K:aF}{H H' Z Z' B:Hp}{σ:St}
B5 KR:∀(js:List (Nat×List Step))(ds:List D)(env:EN)(p:List D×EN)(j:Nat),wZ js env=some p→env[j]?=some .no→(Dm js ds env)[j]?=some .no
 | [],ds,env,p,j,_,h=>by B4 Dm;~h
 | i::js,[],env,p,j,_,h=>by B4 Dm;~h
 | (i,w)::js,d::ds,env,p,j,q,h=>by
  B4 wZ at q
  B3⟨db,q1,q2⟩:=aY q
  B3⟨d1,_,q2⟩:=aY q2
  B3⟨de,q3,_⟩:=lN q2
  have ne:i≠j:=fun z=>by
   subst z
   rw[h]at q1
   cases q1
  B4 Dm
  rw[q1]
  dsimp only
  rw[F8,if_neg ne]
  ~KR js ds _ _ j q3 (by rw[F8,if_neg ne];~h)
B5 Vn:∀(js:List (Nat×List Step))(env:EN)(A:Fp)(ds:List D)(e0:EN),eU (fZ K H Z) env A σ→wZ js env=some (ds,e0)→∃A0 A1 C vs,Apart A0 A1∧Apart A0 C∧Apart A1 C∧Is A (fK (fK A0 A1) C)∧eU (fZ K H Z) e0 A0 σ∧dX K H ds A1 vs∧VsP σ H js vs ∧
    ∀(H' Z':Hp)(ds':List D)(A0' HD:Fp),vP K H H'→(∀a,C a→H' a=H a)→eU (fZ K H' Z') e0 A0' σ→dX K H' ds' HD vs→Apart A0' HD→Apart A0' C→Apart HD C→eU (fZ K H' Z') (Dm js ds' env) (fK (fK A0' HD) C) σ
  | [],env,A,ds,e0,h,q=>by
    cases q
    &⟨A,nil,nil,[],fun _ _ z=>z,fun _ _ z=>z,fun _ _ z=>z,fun x=>⟨fun z=>.inl (.inl z),fun z=>z.elim (fun z=>z.elim id False.elim) False.elim⟩,h,by B4 dX;~⟨fun _ z=>z,rfl⟩,rfl,fun H' Z' ds' A0' HD _ _ s o ap _ _=>?_⟩
    cases ds' with
    | nil=>
      B4 dX at o
      B4 Dm
      ~s.fp fun x=>⟨fun z=>.inl (.inl z),fun z=>z.elim (fun z=>z.elim id fun z=>absurd z (o.1 x)) False.elim⟩
    | cons d dr=>
      B4 dX at o
      B3⟨y,yt,_,_,z,_⟩:=o
      cases z
  | (j,p)::js,env,A,ds,e0,h,q=>by
    B4 wZ at q
    B3⟨db,q1,q2⟩:=aY q
    B3⟨d,qd,q2⟩:=aY q2
    B3⟨⟨dr,e1⟩,q3,q4⟩:=lN q2
    cases q4
    B3⟨s,e,hs⟩:=aY q1
    B3⟨y,A1,Cs,h1,h2,h3,h4,k⟩:=h.focus e
    have key:∃v,y=some v∧Ow K H db.1 A1 v∧∀(H' Z':Hp)(d':D)(A':Fp),Ow K H' d' A' v→fZ K H' Z' (db.2 d') A' (some v):=by
      cases s with
      | no=>cases hs
      | fro d=>cases hs
      | own d=>cases hs;B3⟨v,rfl,o⟩:=h4;~⟨v,rfl,o,fun H' Z' d' A' o'=>⟨v,rfl,o'⟩⟩
      | inn v d=>cases hs;B3⟨rfl,o⟩:=h4;~⟨v,rfl,o,fun H' Z' d' A' o'=>⟨rfl,o'⟩⟩
    B3⟨v,rfl,o,bk⟩:=key
    B3⟨w,B1,C1,g1,g2,g3,g4,g5⟩:=o.at qd
    have s0:=k _ (fun _ _ _ _ q=>q) .no (some v) nil (fun _ z=>z.elim) (fun _ z=>z)
    rw[set_same h1]at s0
    B3⟨A0,A1r,Cr,vs,k1,k1b,k1c,k2,k3,k4,k5,k6⟩:=Vn js (env.set j .no) _ dr e1 s0 q3
    have hC:∀x,Cs x↔(A0 x∨A1r x)∨Cr x:=fun x=>⟨fun z=>(k2 x).mp (.inr z),fun z=>((k2 x).mpr z).elim False.elim id⟩
    have b1:∀x,B1 x→¬Cs x:=fun x z=>h2 x ((g3 x).mpr (.inl z))
    have c1:∀x,C1 x→¬Cs x:=fun x z=>h2 x ((g3 x).mpr (.inr z))
    &⟨A0,fK B1 A1r,fK C1 Cr,w::vs,fun x z1 z2=>z2.elim (fun z=>b1 x z ((hC x).mpr (.inl (.inl z1)))) (k1 x z1),fun x z1 z2=>z2.elim (fun z=>c1 x z ((hC x).mpr (.inl (.inl z1)))) (k1b x z1),fun x z1 z2=>?_,fun x=>?_,k3,?_,⟨v,w,vs,rfl,h1,g1,k5⟩,fun H' Z' ds' A0' HD tk fr s' o' ap ap0 ap1=>?_⟩
    · rcases z1 with z1 | z1
      · ~z2.elim (g2 x z1) fun z=>b1 x z1 ((hC x).mpr (.inr z))
      · ~z2.elim (fun z=>c1 x z ((hC x).mpr (.inl (.inr z1)))) (k1c x z1)
    · rw[h3 x]
      constructor
      · rintro(z | z)
        · ~((g3 x).mp z).elim (fun z=>.inl (.inr (.inl z))) fun z=>.inr (.inl z)
        · rcases(hC x).mp z with (z | z) | z
          · ~.inl (.inl z)
          · ~.inl (.inr (.inr z))
          · ~.inr (.inr z)
      · rintro((z | z | z) | z | z)
        · ~.inr ((hC x).mpr (.inl (.inl z)))
        · ~.inl ((g3 x).mpr (.inl z))
        · ~.inr ((hC x).mpr (.inl (.inr z)))
        · ~.inl ((g3 x).mpr (.inr z))
        · ~.inr ((hC x).mpr (.inr z))
    · B4 dX
      ~⟨w,vs,B1,A1r,rfl,fun x z1 z2=>b1 x z1 ((hC x).mpr (.inl (.inr z2))),fun x=>Iff.rfl,g4,k4⟩
    · cases ds' with
      | nil=>
        B4 dX at o'
        cases o'.2
      | cons d' dr'=>
        B4 dX at o'
        B3⟨y',yt,Aj,Ar',z1,a1,a2,o1,o2⟩:=o'
        cases z1
        have s1:=k6 H' Z' dr' A0' Ar' tk (fun a z=>fr a (.inr z)) s' o2 (fun x w1 w2=>ap x w1 ((a2 x).mpr (.inr w2))) (fun x w1 w2=>ap0 x w1 (.inr w2)) fun x w1 w2=>ap1 x ((a2 x).mpr (.inr w1)) (.inr w2)
        have n1:=KR js dr' (env.set j .no) _ j q3 (G6 (D1.mp e).1)
        B3⟨y2,Bx,C2,f1,f2,f3,f4,f5⟩:=s1.focus n1
        have f4:∀x,¬Bx x:=f4
        have hC2:∀x,C2 x↔(A0' x∨Ar' x)∨Cr x:=fun x=>⟨fun z=>(f3 x).mpr (.inr z),fun z=>((f3 x).mp z).elim (fun w=>absurd w (f4 x)) id⟩
        have oj:=g5 H' d' Aj (fun x w1 w2=>ap1 x ((a2 x).mpr (.inl w1)) (.inl w2)) (fun a z=>fr a (.inl z)) tk o1
        have s2:=f5 _ (fun _ _ _ _ q=>q) (db.2 (dR p db.1 d')) (some v) (fK Aj C1) (fun x w1 w2=>by
          rcases(hC2 x).mp w2 with (z | z) | z
          · rcases w1 with w1 | w1
            · ~ap x z ((a2 x).mpr (.inl w1))
            · ~ap0 x z (.inl w1)
          · rcases w1 with w1 | w1
            · ~a1 x w1 z
            · ~ap1 x ((a2 x).mpr (.inr z)) (.inl w1)
          · rcases w1 with w1 | w1
            · ~ap1 x ((a2 x).mpr (.inl w1)) (.inr z)
            · ~c1 x w1 ((hC x).mpr (.inr z))) (bk H' Z' _ _ oj)
        rw[set_same h1]at s2
        B4 Dm
        rw[q1]
        dsimp only
        &s2.fp fun x=>?_
        constructor
        · rintro((z | z) | z)
          · ~.inl (.inr ((a2 x).mpr (.inl z)))
          · ~.inr (.inl z)
          · rcases(hC2 x).mp z with (z | z) | z
            · ~.inl (.inl z)
            · ~.inl (.inr ((a2 x).mpr (.inr z)))
            · ~.inr (.inr z)
        · rintro((z | z) | z | z)
          · ~.inr ((hC2 x).mpr (.inl (.inl z)))
          · ~((a2 x).mp z).elim (fun z=>.inl (.inl z)) fun z=>.inr ((hC2 x).mpr (.inl (.inr z)))
          · ~.inl (.inr z)
          · ~.inr ((hC2 x).mpr (.inr z))
B5 xF:∀(as:List Ap)(Lz Vk:List D)(A:Fp)(uv vs:List V),dX K H Lz A uv→KQ K Z as uv Vk vs→eU (fZ K H Z) (aBe (qD as) (tK (qD as) Lz Vk) vs) A (vs.map some)∧um (qD as) vs=uv∧(tK (qD as) Lz Vk).length=(qD as).length∧vs.length=(qD as).length
 | [],Lz,Vk,A,uv,vs,o,ar=>by
  B3⟨rfl,rfl,rfl⟩:=ar
  cases Lz with
  | nil=>B4 dX at o;~⟨⟨o.1,rfl⟩,rfl,rfl,rfl⟩
  | cons d dr=>B4 dX at o;B3⟨_,_,_,_,z,_⟩:=o;cases z
 | .ch i π::as,Lz,Vk,A,uv,vs,o,ar=>by
  B3⟨v,r,r',rfl,rfl,g2⟩:=ar
  cases Lz with
  | nil=>B4 dX at o;cases o.2
  | cons d dr=>
   B4 dX at o
   B3⟨y,yt,A1,A2,z,a1,a2,o1,o2⟩:=o
   cases z
   B3⟨m1,m2,m3,m4⟩:=xF as dr Vk A2 r r' o2 g2
   ~⟨⟨some v,r'.map some,A1,A2,rfl,a1,a2,⟨rfl,o1⟩,m1⟩,congrArg (v::·) m2,congrArg (·+1) m3,congrArg (·+1) m4⟩
 | .rd f::as,Lz,Vk,A,uv,vs,o,ar=>by
  B3⟨d,dr,v,r,rfl,rfl,g1,g2⟩:=ar
  B3⟨m1,m2,m3,m4⟩:=xF as Lz dr A uv r o g2
  have e:tK (qD (.rd f::as)) Lz (d::dr)=d::tK (qD as) Lz dr:=by
   cases Lz<;>rfl
  rw[e]
  ~⟨⟨some v,r.map some,nil,A,rfl,fun _ z=>z.elim,fun x=>⟨.inr,fun z=>z.elim False.elim id⟩,⟨fun _ z=>z,v,rfl,g1⟩,m1⟩,m2,congrArg (·+1) m3,congrArg (·+1) m4⟩
 | .nw f::as,Lz,Vk,A,uv,vs,o,ar=>by
  B3⟨d,dr,v,r,rfl,rfl,g1,g2⟩:=ar
  B3⟨m1,m2,m3,m4⟩:=xF as Lz dr A uv r o g2
  have e:tK (qD (.nw f::as)) Lz (d::dr)=d::tK (qD as) Lz dr:=by
   cases Lz<;>rfl
  rw[e]
  ~⟨⟨some v,r.map some,nil,A,rfl,fun _ z=>z.elim,fun x=>⟨.inr,fun z=>z.elim False.elim id⟩,⟨fun _ z=>z,v,rfl,g1⟩,m1⟩,m2,congrArg (·+1) m3,congrArg (·+1) m4⟩
end
def Vo(as:List Ap)(F:List D→Option (D×List D)):GM:=fun env=>(chP as (rE env)).bind fun ps=>(wZ ps env).bind fun ce=>(rdP as (rE env) (rE ce.2)).bind fun Vk=>(F (tK (qD as) ce.1 Vk)).map fun rd=>(rd.1,Dm ps rd.2 env)
section
variable{K:aF}{X:Cx}{e:Expr}{es:List Expr}{tA:TA}{as:List Ap}{pos pf:Pos}
B5 aDB{x:Str}{k n:Nat}{mask:List Bool}{F:List D→Option (D×List D)}(C:qL X.prog X.w X.K X.mg X.base x k n (spG K mask F))(hm:qD as=mask)(hr:jR k X.A)(hg:Gl X x)(ha:XAP K X (e::es) tA as)(hdb:(x==("__debug__" : Str))=false:=by decide)
  (he:starEach (e::es) X.env=(false,eval e X.env)::starEach es X.env:=by rfl) (hpl:(backTo pos (starEach es X.env)).any (·.1)=false:=by rfl):XM K X (.Call (.Name x pf) (e::es) [] pos) (Uj (spG K mask F) [] E0 tA) (Vo as F):=⟨ha.hk,aAs C hr hg ha.pa hdb he hpl,fun B σ H env d env' Q r q k=>by
 subst hm
 B3⟨ps,q0,q⟩:=aY q
 B3⟨⟨Lz,e0⟩,q1,q⟩:=aY q
 B3⟨Vk,q2,q⟩:=aY q
 B3⟨⟨r1,ds'⟩,q3,q4⟩:=lN q
 cases q4
 have rr:=r.r
 B3⟨A,a,b⟩:=r
 B3⟨A0,A1,CC,uv,t1,t1b,t1c,t2,t3,t4,t5,t6⟩:=Vn _ _ _ _ _ a q1
 have cl:=jB a
 have c1:∀x,A1 x→lO H x:=fun x z=>cl x ((t2 x).mpr (.inl (.inr z)))
 have c0:∀x,A0 x∨CC x→lO H x:=fun x z=>cl x ((t2 x).mpr (z.elim (fun z=>.inl (.inl z)) .inr))
 &ha.ev A1 σ H (rE env) (rE e0) Vk ps uv _ c1 rr (aH0 t3 t1 (fun x z=>(t2 x).mpr (.inl (.inr z))) c1) q0 t5 q2 fun vs H2 s2 ar=>?_
 show spG K (qD as) F (vs++[]) H2 Q E0
 rw[F9]
 have o2:dX K H2 Lz A1 uv:=cG.mpr ((cG.mp t4).mono fun _ _ _ _ z=>z.same s2)
 B3⟨m1,m2,m3,m4⟩:=xF as Lz Vk A1 uv vs o2 ar
 &⟨A1,_,r1,ds',m3,m4,m1,q3,fun w H3 A' A2 p1 p2 ap sm=>k w H3 ?_⟩
 rw[m2]at p1
 have hC:∀y,A0 y∨CC y→¬A' y∧¬A2 y∧H3 y=H y:=fun y hy=>by
  B3⟨⟨u,eu⟩,_⟩:=c0 y hy
  B3⟨n1,n2⟩:=bA.mp (sm y u (bA.mpr ⟨fun z=>hy.elim (fun w=>t1 y w z) (t1c y z),s2 y u eu⟩))
  ~⟨fun z=>n1 (.inl z),fun z=>n1 (.inr z),n2.trans eu.symm⟩
 have tk:vP K H H3:=(Oj fun x q=>(c1 x q).2).trans ((bU s2 fun x q=>.inl q:aU (out H A1) (out H2 A1)).trans (sm.trans (kW _ _))).tk
 have g:aU (out H A) (out H3 (fK (fK (fK A0 A') CC) A2)):=fun y u ey=>by
  B3⟨e1,e2⟩:=bA.mp ey
  B3⟨n1,n2⟩:=bA.mp (sm y u (bA.mpr ⟨fun z=>e1 ((t2 y).mpr (.inl (.inr z))),s2 y u e2⟩))
  &bA.mpr ⟨fun z=>?_,n2⟩
  rcases z with ((z | z) | z) | z
  ·~e1 ((t2 y).mpr (.inl (.inl z)))
  ·~n1 (.inl z)
  ·~e1 ((t2 y).mpr (.inr z))
  ·~n1 (.inr z)
 have f0:eU (fZ K H3 (out H3 (fK (fK (fK A0 A') CC) A2))) e0 A0 σ:=t3.mono fun s D z hb qq=>by
  cases s with
  | no=>~qq
  | fro d=>B3⟨q1,v,q2,q3⟩:=qq;~⟨q1,v,q2,g.rv _ _ q3⟩
  | inn v d=>~⟨qq.1,Ow.frame tk _ _ _ qq.2 fun x zx=>(hC x (.inl (hb x zx))).2.2⟩
  | own d=>B3⟨v,q1,q2⟩:=qq;~⟨v,q1,Ow.frame tk _ _ _ q2 fun x zx=>(hC x (.inl (hb x zx))).2.2⟩
 have s3:=t6 H3 _ ds' A0 A' tk (fun a z=>(hC a (.inr z)).2.2) f0 p1 (fun y z1 z2=>(hC y (.inl z1)).1 z2) t1b fun y z1 z2=>(hC y (.inr z2)).1 z1
 ~⟨_,eU.snoc s3 ⟨w,rfl,p2⟩ fun y z1 z2=>z1.elim (fun z=>z.elim (fun z=>(hC y (.inl z)).2.1 z2) fun z=>ap y z z2) fun z=>(hC y (.inr z)).2.1 z2,b.trans g⟩⟩
end
def Eh(i:Nat)(π:FP)(g:FE)(gm:GM):GS:=fun env=>match gm env with
 | some (d,env')=>(match env'[i]?,π (rE env'),g (rE env')with
  | some (.own d0),some p,some (.int k)=>(match eO p d0 with
   | some (.lst ds)=>(match Up ds.length k with
    | some j=>.next (env'.set i (.own (dR p d0 (.lst (ds.set j d)))))
    | none=>.bad)
   | _=>.bad)
  | _,_,_=>.bad)
 | none=>.bad
section
variable{K:aF}{X:Cx}{a b e:Expr}{ta tb te:TE}{g:FE}{gm:GM}{i:Nat}{π:FP}{pos pos':Pos}
B5 aBm(h:EvP K ta i π)(hx:Iz K tb g)(he:EvM K te gm):qm K (uD te (Xd ta tb Fw)) (Eh i π g gm):=fun B E σ H env r p=>by
 B4 Eh at p
 split at p
 ·rename_i d env' q0
  &he B σ H env d env' _ r q0 fun y H1 r1=>?_
  B3⟨H0,r0,s0,n⟩:=r1.aGh
  split at p
  ·rename_i d0 pp k q1 q2 q3
   split at p
   ·rename_i ds q4
    split at p
    ·rename_i j q5
     B3⟨v0,a,xs,Bs,k1,k2,k3,k4,k5,k6⟩:=r0.IK q1 q4
     &h σ H1 (rE env') v0 pp _ _ (r0.r.same s0) k1 q2 (tG s0 k2) fun H2 s2=>hx σ H2 H2 (rE env') _ _ (Zn.self K H2) (r0.r.same (s0.trans s2)) q3 fun y' H3 Z3 s3 t3 z3 ry=>?_
     B4 Rv at ry
     have Pb:=s0.trans (s2.trans s3)
     B3⟨N,o,fr⟩:=n.same (s2.trans s3)
     have hlen:=(dX.rv _ _ _ k5).length
     &⟨a,xs,k,j,rfl,ry,Pb _ _ k3,by rw[hlen];~q5,p _ ?_⟩
     B3⟨y0,A1,C,f1,f2,f3,f4,f5⟩:=(cG.mp (k5.same Pb)).focus (B6 (aAS q5))
     have ap:Apart N C:=fun x q1 q2=>Pn (H1:=H0) k5 fr x ((f3 x).mpr (.inr q2)) q1
     ~k6 H3 (ds.set j d) (xs.set j y) (fK N C) Pb (cG.mpr (f5 (Ow K H3) (fun _ _ _ _ qq=>qq) d y N ap o)) fun b z=>z.elim (fun z=>.inr (fr b z)) fun z=>.inl ((f3 b).mpr (.inr z))
    ·~p.elim
   ·~p.elim
  ·~p.elim
 ·~p.elim
B5 aBn(h:XP K X a ta i π)(hx:XR K X b tb g)(he:XM K X e te gm)(hp:PE X a ta→PE X b tb→PE X e te→PS X (.Assign [.Subscript a b pos'] e pos) (uD te (Xd ta tb Fw))):YS K X (.Assign [.Subscript a b pos'] e pos) (uD te (Xd ta tb Fw)) (Eh i π g gm):=⟨hp h.pe hx.pe he.pe,(aBm h.ev hx.ev he.ev).ds⟩
end
end L2


namespace L2
open PySem PySem.Spec PySem.Calls PyProof.Rows PyProof.V
def WL:D→Bool
 | .lst ds=>decide (ds.length<100000)
 | _=>false
def Bp(i:Nat)(f:FE):GS:=fun env=>match f (rE env)with
 | some (.lst xs)=>if xs.all WL=true∧i<env.length then .next (env.set i .no)else .bad
 | _=>.bad
section
variable{K:aF}{te:TE}{f:FE}{i:Nat}{c:Int}
B5 uw(h:Sg K te f):DS K (Xf (aAJ K te) (iR i) (nD (Nu K "list" nT (qN i) (fY (tC (.int c)) nG)))) (Bp i f):=fun B E σ H env r p=>by
  B4 Bp at p
  split at p
  · rename_i xs q
    split at p
    · rename_i hc
      &.inl (h σ H (rE env) _ _ r.r q fun v H1 s n=>?_)
      have hlen:=r.len
      B3⟨A,a,bb⟩:=r
      B3⟨N,o,fr⟩:=n
      have cl:=jB a
      B4 Ow at o
      B3⟨pa,vs,Bs,rfl,o2,o3,o4,o5⟩:=o
      have hl:=(dX.rv _ _ _ o5).length
      &⟨pa,rfl,⟨vs,pK.of o2⟩,?_⟩
      &Mj Ob (fun k σ2 H2=>∃cu,dX K H2 cu Bs vs∧(∀d∈cu.drop k,WL d=true)∧(∀y,¬Bs y→H2 y=H1 y)∧vP K H1 H2∧(σ2=σ∨∃w,σ2=σ.set i (some w))) ⟨xs,o5,fun d hd=>M3.mp hc.1 d (by simpa using hd),fun _ _=>rfl,fun p xs q=>q,.inl rfl⟩ (fun k σ2 H2 _ ⟨cu,_,_,e,_⟩=>pK.of ((e pa o3).trans o2)) ?_ ?_
      · rintro k x σ2 H2 hx ⟨cu,ow,sh,e,tk,hσ⟩
        have hl2:=(dX.rv _ _ _ ow).length
        have hk:k<cu.length:=by
          B3⟨h1,_⟩:=D1.mp hx
          omega
        B3⟨y0,A1,C,f1,f2,f3,f4,f5⟩:=(cG.mp ow).focus (B6 hk)
        rw[hx]at f1
        cases f1
        have shk:=sh cu[k] (by rw[L6 hk];~D4)
        generalize hd:cu[k]=dk at *
        cases dk with
        | lst es=>
          have f4':=f4
          B4 Ow at f4'
          B3⟨a',ys,Bs2,rfl,g2,g3,g4,g5⟩:=f4'
          have hly:=(dX.rv _ _ _ g5).length
          have shk:es.length<100000:=of_decide_eq_true shk
          have hi:i<σ2.length:=by
            rcases hσ with rfl | ⟨w,rfl⟩
            · omega
            · rw[J5];omega
          have ha1:A1 a':=(g4 a').mpr (.inl rfl)
          have tk2:vP K H2 (upd H2 a' (.lst (ys++[.int c]))):=tE (sJ g2)
          have ne:∀y,y≠a'→upd H2 a' (.lst (ys++[.int c])) y=H2 y:=fun y hy=>by
            B4 upd
            rw[if_neg hy]
          &⟨_,G6 hi,.inl ⟨rfl,ys,pK.of g2⟩,⟨a',ys,.int c,rfl,rfl,g2,Ot A6,?_⟩⟩
          &⟨cu.set k (.lst (es++[.int c])),?_,fun d hd=>?_,fun y hy=>(ne y fun z=>hy ((f3 y).mpr (.inl (z▸ha1)))).trans (e y hy),tk.trans tk2,?_⟩
          · have oe:dX K (upd H2 a' (.lst (ys++[.int c]))) (es++[.int c]) Bs2 (ys++[.int c]):=by
              have o1:eU (Ow K (upd H2 a' (.lst (ys++[.int c])))) es Bs2 ys:=(cG.mp g5).mono fun d' D' z hb qq=>Ow.frame tk2 _ _ _ qq fun y hy=>ne y fun z=>g3 (z▸hb y hy)
              have o2:Ow K (upd H2 a' (.lst (ys++[.int c]))) (.int c) nil (.int c):=by B4 Ow;~⟨fun _ z=>z,rfl⟩
              ~cG.mpr ((eU.snoc o1 o2 fun _ _ z=>z).fp fun x=>⟨fun z=>z.elim id False.elim,.inl⟩)
            have on:Ow K (upd H2 a' (.lst (ys++[.int c]))) (.lst (es++[.int c])) A1 (.ref a'):=by
              B4 Ow
              ~⟨a',ys++[.int c],Bs2,rfl,by B4 upd;rw[if_pos rfl],g3,g4,oe⟩
            have s2:=f5 (Ow K (upd H2 a' (.lst (ys++[.int c])))) (fun d' D' z hb qq=>Ow.frame tk2 _ _ _ qq fun y hy=>ne y fun z=>f2 a' ha1 (z▸hb y hy)) (.lst (es++[.int c])) (.ref a') A1 f2 on
            rw[set_same hx]at s2
            ~cG.mpr (s2.fp fun x=>(f3 x).symm)
          · rw[List.drop_set_of_lt (M0 k)]at hd
            ~sh d (by rw[L6 hk];~C8 _ hd)
          · rcases hσ with rfl | ⟨w,rfl⟩
            · ~.inr ⟨_,rfl⟩
            · ~.inr ⟨_,by rw[R4]⟩
        | _=>cases shk
      · rintro σ2 H2 ⟨cu,ow,sh,e,tk,hσ⟩
        have old:∀y u,H y=some u→H2 y=some u:=fun y u hy=>by
          have nb:¬Bs y:=fun z=>by
            have:=fr y ((o4 y).mpr (.inr z))
            rw[hy]at this
            cases this
          rw[e y nb]
          ~s y u hy
        B3⟨y,A1,C,h1,h2,h3,h4,k⟩:=a.focus (B6 hc.2)
        have g:aU (out H A) (out H2 (fK nil C)):=fun x u ex=>by
          B3⟨e1,e2⟩:=bA.mp ex
          ~bA.mpr ⟨fun z=>e1 ((h3 x).mpr (.inr (z.elim False.elim id))),old x u e2⟩
        have key:∀y',Rel K B (env.set i .no) (σ.set i y') H2:=fun y'=>⟨fK nil C,k (fZ K H2 (out H2 (fK nil C))) (fun sd D z hb qq=>by
          have fm:∀x,D x→H2 x=H x:=fun x zx=>by
            B3⟨⟨u,eu⟩,_⟩:=cl x ((h3 x).mpr (.inr (hb x zx)))
            rw[old x u eu,eu]
          have tk':vP K H H2:=s.tk.trans tk
          cases sd with
          | no=>~qq
          | fro d=>B3⟨q1,v,q2,q3⟩:=qq;~⟨q1,v,q2,g.rv _ _ q3⟩
          | inn v d=>~⟨qq.1,Ow.frame tk' _ _ _ qq.2 fm⟩
          | own d=>B3⟨v,q1,q2⟩:=qq;~⟨v,q1,Ow.frame tk' _ _ _ q2 fm⟩) .no y' nil (fun _ z=>z.elim) (fun _ z=>z),bb.trans g⟩
        &p σ2 H2 ?_
        rcases hσ with rfl | ⟨w,rfl⟩
        · have:=key y
          rw[set_same h1]at this
          ~this
        · ~key _
    · ~p.elim
  · ~p.elim
B5 ux{X:Cx}{tg e o ce:Expr}{st:Stmt}{pos:Pos}(hp:PassesOwn (model X.prog X.w) X.A X.env X.xe)(UW:X.calm=true)(h:XN K X e te f)(hg:PG X tg (iR i))(ho:PE X o (qN i))(hc:PE X ce (tC (.int c)))
  (hb:PE X o (qN i)→PE X ce (tC (.int c))→PS X st (nD (Nu K "list" nT (qN i) (fY (tC (.int c)) nG)))) (hs:∀x,foldedSetIterable e X.env x=pure x:=by intro _;rfl):YS K X (.For tg e [st] [] pos) (Xf (aAJ K te) (iR i) (nD (Nu K "list" nT (qN i) (fY (tC (.int c)) nG)))) (Bp i f):=
 ⟨Xg hp UW (lR (tg:=tg) h.r).pi hg (ZL (hb ho hc)) hs,uw h.ev⟩
end
end L2


namespace L2
open PySem PySem.Spec PySem.Calls PyProof.Rows PyProof.V HT
def Bq(ns:List Int):Nat:=(firstMet (fun i=>ns.getD i 0) ns.length).length
def aEJ(K:aF):V→Hp→VK→Prop:=fun v H Q=>∃(p:Addr)(ns:List Int),v=.ref p∧pK K H p (ns.map V.int)∧ns.length<64∧Q (.int (Bq ns)) H
def Vp(d:D):Option D:=match d with
 | .lst ds=>(intsOf ds).bind fun ns=>if ns.length<64 then some (.int (Bq ns))else none
 | _=>none
section
variable{X:Cx}{K:aF}{e:Expr}{t:TE}{f:FE}{x y:Str}{p p2 pos pos2:Pos}
B5 aGj(hc:X.calm=true)(pins:List (Addr×Obj))(s:Shared)(σ:St)(H:Hp)(v:V)(u:Value)(Q:VK)(I:Inv X pins σ H s)(rv:RelV v u)(h:aEJ X.K v H Q) :
  wpAny (model X.prog X.w) X.A (call (.type "set") [u]) (fun u' s'=>wpAny (model X.prog X.w) X.A (call (.builtin "len") [u']) (EP X pins σ Q) X.xe s') X.xe s:=by
 B3⟨p,ns,rfl,hq,h64,q⟩:=h
 cases rv
 B3⟨its,r,pl,hz⟩:=I.list hq
 have hlen:=r.length
 rw[B7]at hlen
 &aEA (its:=its.toArray) (ns:=ns) (I.ok.hd hc) pl.isList (by simpa using intsAre_of r) (by rw[C5];B4 scanBound;omega) fun h1 tk1 S1 kp1=>?_
 have I1:Inv X pins σ H {s with heap:=h1,toks:=tk1}:=I.kept (t':=tk1) kp1
 have ez:its.toArray.size=ns.length:=by simp[hlen]
 rw[ez]at S1
 have hfl:=firstMet_length_le (fun i=>ns.getD i 0) ns.length
 B3⟨o,es,ep,t,ho,hex,hd,hel,hm,hz',hf,hn,hl⟩:=S1
 &call_len_set ho hex hd hf A6 ⟨.int (Bq ns),H,I1.tok _,⟨_,by rw[hn];rfl⟩,q⟩
B5 aDC(h:XR K X e t f)(hg:Gl X x)(hm:X.mg x=none)(hv:bootBuiltins x=some (.builtin "len")) (hg2:Gl X y) (hm2:X.mg y=none) (hv2:bootBuiltins y=some (.type "set")) (hc:X.calm=true:=by rfl) (hn:x ≠ "__name__" := by decide) (hdb:(x==("__debug__" : Str))=false:=by decide) (hn2:y ≠ "__name__" := by decide) (Yo:(y==("__debug__" : Str))=false:=by decide)
  (he:starEach [e] X.env=[(false,eval e X.env)]:=by rfl) (he2:starEach [.Call (.Name y p2) [e] [] pos2] X.env=[(false,eval (.Call (.Name y p2) [e] [] pos2) X.env)]:=by rfl) :
  XN K X (.Call (.Name x p) [.Call (.Name y p2) [e] [] pos2] [] pos) (tUn (aEJ K) t) (pY Vp f):=⟨h.hk,gj (by have:=h.hk;subst this;~aGj hc) h.pe hg hm hv hg2 hm2 hv2 hn hdb hn2 Yo he he2,fun σ H e d Q re q k=>by
 B3⟨d0,q1,q2⟩:=aY q
 B4 Vp at q2
 split at q2
 ·B3⟨ns,q3,q4⟩:=aY q2
  split at q4
  ·rename_i hl
   cases q4
   &h.ev σ H H e _ _ (Zn.self K H) re q1 fun v H1 Z1 s1 t1 z1 rv=>?_
   B3⟨p,rfl,r2⟩:=vU q3 (z1.sm.rv _ _ rv)
   ~⟨p,ns,rfl,r2,hl,k _ _ s1 (.jK rfl (by B4 Rv;rfl))⟩
  ·cases q4
 ·cases q2⟩
end
B5 Dn{ns:List Int}(h:ns.Nodup):∀i,i≤ns.length→(firstMet (fun i=>ns.getD i 0) i).length=i
 | 0,_=>rfl
 | i+1,hi=>by
  have ih:=Dn h i A6
  rw[firstMet_succ]
  B4 step_dedup
  split
  ·rename_i c
   rw[firstMet_any,Q6]at c
   B3⟨x,hx,q⟩:=c
   B3⟨j,hj,rfl⟩:=G4.mp hx
   have hj:=F5.mp hj
   have q:=beq_iff_eq.mp q
   rw[B9,B9,B6 (show j<ns.length by omega),B6 (show i<ns.length by omega)]at q
   ~absurd q (I0.mp h j i A6 A6 hj)
  ·rw[C7,ih]
   rfl
B5 Qj{ns:List Int}(h:ns.Nodup):Bq ns=ns.length:=Dn h _ (C6 _)
end L2


namespace L2
open PySem PySem.Spec PyProof.Rows
abbrev aH(ns:List Int):D:=.lst (ns.map D.int)
B5 Jq{i:Nat}{g:GS}(I:Nat→EN→Prop):∀(xs:List D)(env:EN)(n:Nat),I n env→(∀k x env,xs[k]?=some x→I (n+k) env→i<env.length∧∃env',g (env.set i (.fro x))=.next env'∧I (n+k+1) env')→∃env',Dy i g xs env=.next env'∧I (n+xs.length) env'
 | [],env,n,h,_=>⟨env,by B4 Dy;rfl,h⟩
 | x::xs,env,n,h,st=>by
  B3⟨h1,env',h2,h3⟩:=st 0 x env rfl h
  B3⟨fH,a1,a2⟩:=Jq I xs env' (n+1) h3 fun k y e hk hi=>by
   have:=st (k+1) y e (by simpa using hk) (by rw[show n+(k+1)=n+1+k by omega];~hi)
   rw[show n+(k+1)+1=n+1+k+1 by omega]at this
   ~this
  &⟨fH,?_,?_⟩
  ·B4 Dy
   rw[if_pos h1,h2]
   ~a1
  ·rw[E9,show n+(xs.length+1)=n+1+xs.length by omega]
   ~a2
B5 fW{g1 g2:GS}{env env':EN}(h:g1 env=.next env'):aX g1 g2 env=g2 env':=by B4 aX;rw[h]
B5 Qk{g1 g2:GS}{env:EN}{d:D}(h:g1 env=.ret d):aX g1 g2 env=.ret d:=by B4 aX;rw[h]
B5 vW{f:FT}{g1 g2:GS}{env:EN}(h:f (rE env)=some true):qM f g1 g2 env=g1 env:=by B4 qM;rw[h]
B5 mK{f:FT}{g1 g2:GS}{env:EN}(h:f (rE env)=some false):qM f g1 g2 env=g2 env:=by B4 qM;rw[h]
B5 xG{i:Nat}{f:FE}{env:EN}{d:D}(h:f (rE env)=some d)(hi:i<env.length):dG i f env=.next (env.set i (.own d)):=by B4 dG;rw[h];dsimp only;rw[if_pos hi]
B5 gC{f:FE}{env:EN}{d:D}(h:f (rE env)=some d):fO f env=.ret d:=by B4 fO;rw[h]
B5 aBo{i:Nat}{fi:FA}{g:GS}{env:EN}{xs:List D}(h:fi (rE env)=some xs):Dk i fi g env=Dy i g xs env:=by B4 Dk;rw[h]
B5 iz{js:List Nat}{i:Nat}{fi:FA}{g:GS}{env Dz:EN}{xs:List D}(h0:zA js env=Dz)(h:fi (zE Dz)=some xs):Th js i fi g env=Dy i g xs Dz:=by B4 Th;rw[h0,h]
B5 nO{n m:Nat}{g:GS}{ds:List D}{d:D}(hl:ds.length=m)(h:g (ds.map SD.fro++E4 (n-m) SD.no)=.ret d):pN n m g ds=some d:=by B4 pN;rw[if_pos hl,h]
B5 aL{φ:D→D→Option D}{f g:FE}{e:DE}{a b d:D}(h1:f e=some a)(h2:g e=some b)(h:φ a b=some d):f2 φ f g e=some d:=by B4 f2;rw[h1,h2];~h
B5 dU{φ:List D→Option D}{fs:FA}{e:DE}{ds:List D}{d:D}(h1:fs e=some ds)(h:φ ds=some d):fL φ fs e=some d:=by B4 fL;rw[h1];~h
B5 aB{f:FE}{fs:FA}{e:DE}{a:D}{r:List D}(h1:f e=some a)(h2:fs e=some r):aA f fs e=some (a::r):=by B4 aA;rw[h1,h2];rfl
B5 bR{n:Nat}{F:List D→Option D}{fs:FA}{e:DE}{ds:List D}{d:D}(h1:fs e=some ds)(hl:ds.length=n)(h:F ds=some d):dD n F fs e=some d:=by B4 dD;rw[h1];dsimp only[C4];rw[if_pos hl];~h
B5 bZ{f:FE}{e:DE}{b:Bool}(h:f e=some (.bl b)):fB f e=some b:=by B4 fB;rw[h];rfl
B5 rT{f:FT}{e:DE}{b:Bool}(h:f e=some b):Cv f e=some (!b):=by B4 Cv;rw[h];rfl
B5 KY{f g:FT}{e:DE}(h:f e=some false):UG f g e=g e:=by B4 UG;rw[h];rfl
B5 aBp{f g:FT}{e:DE}(h:f e=some true):Cu f g e=g e:=by B4 Cu;rw[h];rfl
B5 WM{f g:FT}{e:DE}(h:f e=some false):Cu f g e=some false:=by B4 Cu;rw[h];rfl
B5 bH{f:FE}{e:DE}{d:D}(h:f e=some d)(i:d.jK=true):cO f e=some d:=Uv.mpr ⟨h,i⟩
B5 bY(i j:Int):dJ (.int i) (.int j)=some (.int (i+j)):=rfl
B5 jT(i j:Int):zG (.int i) (.int j)=some (.int (i-j)):=by B4 zG Om;~if_pos True.intro
B5 gG{i j:Int}(h:Su i j):sW (.int i) (.int j)=some (.int (i*j)):=by B4 sW Om;~if_pos h
B5 eE{i j:Int}(h:0<j)(h2:j<1073741824):sX (.int i) (.int j)=some (.int (i/j)):=by B4 sX Om;~if_pos (show lg i j from⟨h,h2⟩)
B5 bG{i j:Int}(h:0<j):eV (.int i) (.int j)=some (.int (i%j)):=by B4 eV Om;~if_pos h
B5 nP{i j:Int}(h:lq i j):zH (.int i) (.int j)=some (.int (i ^ j.toNat)):=by B4 zH Om;~if_pos h
B5 xH(i j:Int):xu (.int i) (.int j)=some (.bl (decide (i<j))):=by B4 xu Om;~if_pos True.intro
B5 Yx(i j:Int):dGt (.int i) (.int j)=some (.bl (decide (j<i))):=by B4 dGt Om;~if_pos True.intro
B5 Yy(i j:Int):dLe (.int i) (.int j)=some (.bl (decide (i≤j))):=by B4 dLe Om;~if_pos True.intro
B5 jb(i j:Int):decide (V.int i=V.int j)=decide (i=j):=by
 by_cases c:i=j
 ·subst c;simp
 ·rw[decide_eq_false c,decide_eq_false (fun z=>c (by cases z;rfl))]
B5 pA(i j:Int):Il (.int i) (.int j)=some (.bl (decide (i=j))):=by
 B4 Il toV
 dsimp only
 rw[if_pos (by rfl),jb]
B5 xJ(i j:Int):Gd (.int i) (.int j)=some (.bl (!decide (i=j))):=by
 B4 Gd toV
 dsimp only
 rw[if_pos (by rfl),jb]
B5 WN{α:Type}{xs:List α}{i:Int}{x:α}(h0:0≤i)(h:xs[i.toNat]?=some x):QZ xs i=some x:=by
 have h1:i.toNat<xs.length:=by
  B3⟨h1,_⟩:=D1.mp h
  ~h1
 B4 QZ Up
 rw[if_pos h0,if_pos A6]
 ~h
B5 aDD{α:Type}{xs:List α}{x:α}(h:xs.getLast?=some x):QZ xs (-1)=some x:=by
 have hl:0<xs.length:=by
  cases xs with
  | nil=>simp at h
  | cons=>simp
 B4 QZ Up
 rw[if_neg A6,if_pos A6]
 show xs[((-1:Int)+(xs.length:Int)).toNat]?=some x
 rw[W6]at h
 rw[show ((-1:Int)+(xs.length:Int)).toNat=xs.length-1 by omega]
 ~h
B5 nZ{ds:List D}{i:Int}{d:D}(h0:0≤i)(h:ds[i.toNat]?=some d):dI (.lst ds) (.int i)=some d:=WN h0 h
B5 uO{ds:List D}{i:Int}{d:D}(h0:0≤i)(h:ds[i.toNat]?=some d):dI (.tup ds) (.int i)=some d:=WN h0 h
B5 gW{ns:List Int}{i:Int}(h0:0≤i)(h:i<ns.length):dI (aH ns) (.int i)=some (.int (ns.getD i.toNat 0)):=WN h0 (by
 rw[B8,B9,B6 (show i.toNat<ns.length by omega)];rfl)
B5 Gq(ds:List D):jP [.lst ds]=some (.int ds.length):=rfl
B5 lB(ns:List Int):jP [aH ns]=some (.int ns.length):=by show some (D.int ((ns.map D.int).length:Nat))=_;rw[B7]
B5 Vq{c:D→Option Bool}{el:D→Option D}{φ:D→D}:∀{xs:List D},(∀x∈xs,c x=some true)→(∀x∈xs,el x=some (φ x))→oY c el xs=some (xs.map φ)
 | [],_,_=>by B4 oY;rfl
 | x::xs,hc,he=>by
  B4 oY
  rw[hc x D4,he x D4,Vq (xs:=xs) (fun y hy=>hc y (C8 _ hy)) fun y hy=>he y (C8 _ hy)]
  rfl
B5 Gr{c:D→Option Bool}{el:D→Option D}{p:D→Bool}{φ:D→D}:∀{xs:List D},(∀x∈xs,c x=some (p x))→(∀x∈xs,p x=true→el x=some (φ x))→oY c el xs=some ((xs.filter p).map φ)
 | [],_,_=>by B4 oY;rfl
 | x::xs,hc,he=>by
  have ih:=Gr (xs:=xs) (p:=p) (φ:=φ) (fun y hy=>hc y (C8 _ hy)) fun y hy=>he y (C8 _ hy)
  B4 oY
  rw[hc x D4,C4,j8]
  cases q:p x with
  | true=>rw[if_pos rfl,if_pos rfl,he x D4 q,ih];rfl
  | false=>rw[if_neg A8,if_neg A8];~ih
B5 Ag{fi:FA}{fr:List Nat}{fc:FT}{fe:FE}{e:DE}{xs ys:List D}(h1:fi e=some xs)(hl:xs.length≤100000)(h:oY (fun x=>fc (some x::rH e fr)) (fun x=>fe (some x::rH e fr)) xs=some ys):gF fi fr fc fe e=some (.lst ys):=by
 B4 gF
 rw[h1,C4,if_pos hl,h]
 rfl
B5 Ei(lo:Int)(n:Nat):(iY lo n).length=n:=by B4 iY;rw[B7,D8]
B5 Ql{lo:Int}{n k:Nat}{x:D}(h:(iY lo n)[k]?=some x):k<n∧x=.int (lo+k):=by
 B4 iY at h
 rw[B8]at h
 cases q:(D2 n)[k]? with
 | none=>rw[q]at h;cases h
 | some j=>
  rw[q]at h
  B3⟨h1,h2⟩:=D1.mp q
  rw[D8]at h1
  rw[List.getElem_range]at h2
  subst h2
  ~⟨h1,(F4 h).symm⟩
B5 Ej{lo:Int}{n:Nat}{x:D}(h:x∈iY lo n):∃k:Nat,k<n∧x=.int (lo+k):=by
 B3⟨k,hk,e⟩:=J6 h
 B3⟨a1,a2⟩:=Ql (k:=k) (x:=x) (by rw[B6 hk,e])
 ~⟨k,a1,a2⟩
B5 KZ{fs:FA}{e:DE}{n:Int}(h:fs e=some [.int n])(h1:-100000≤n)(h2:n≤100000):tD fs e=some (iY 0 n.toNat):=by
 B4 tD
 rw[h]
 dsimp only[C4]
 rw[if_pos (show lim n=true from decide_eq_true ⟨h1,h2⟩)]
B5 LC{fs:FA}{e:DE}{i j:Int}(h:fs e=some [.int i,.int j])(h1:-100000≤i)(h2:i≤100000)(h3:-100000≤j)(h4:j≤100000):Pg fs e=some (iY i (j-i).toNat):=by
 B4 Pg
 rw[h]
 dsimp only[C4]
 rw[if_pos ⟨show lim i=true from decide_eq_true ⟨h1,h2⟩,show lim j=true from decide_eq_true ⟨h3,h4⟩⟩]
B5 Ek{i j:Int}(h1:-18446744073709551616<i)(h2:i<18446744073709551616):Su i j:=.inl ⟨h1,h2⟩
B5 aH8{i j:Int}(h1:-18446744073709551616<j)(h2:j<18446744073709551616):Su i j:=.inr ⟨h1,h2⟩
B5 aGk{i:Nat}{f:FE}{env:EN}{ds:List D}{d:D}(h1:env[i]?=some (.own (.lst ds)))(h2:f (rE env)=some d)(hl:ds.length<100000):Eb i cW f env=.next (env.set i (.own (.lst (ds++[d])))):=by
 B4 Eb cW
 rw[h1,h2]
 dsimp only[eO]
 rw[if_pos hl]
 rfl
end L2


namespace L2
open PySem PySem.Spec PyProof.Rows
section
variable{i j:Nat}{f:FE}{c:FT}{g1 g2 g:GS}{env env':EN}{d:D}{r:SR}{ds:List D}
B5 aBq(h:f (rE env)=some d)(hi:i<env.length)(k:g (env.set i (.own d))=r):aX (dG i f) g env=r:=(fW (xG h hi)).trans k
B5 aEK{b:Bool}(h:c (rE env)=some b)(k1:b=true→aX g1 g env=r)(k2:b=false→aX g2 g env=r):aX (qM c g1 g2) g env=r:=by
 cases b with
 | true=>have k:=k1 rfl;B4 aX at k ⊢;rw[vW h];~k
 | false=>have k:=k2 rfl;B4 aX at k ⊢;rw[mK h];~k
B5 aGl{b:Bool}(h:c (rE env)=some b)(hb:b=false)(k:aX g2 g env=r):aX (qM c g1 g2) g env=r:=aEK h (fun z=>by rw[hb]at z;cases z) fun _=>k
B5 aGm{b:Bool}(h:c (rE env)=some b)(hb:b=true)(k:aX g1 g env=r):aX (qM c g1 g2) g env=r:=aEK h (fun _=>k) (fun z=>by rw[hb]at z;cases z)
B5 aH9(k:g env=r):aX fG g env=r:=k
B5 aIa(h:f (rE env)=some d)(k:SR.ret d=r):aX (fO f) g env=r:=(Qk (gC h)).trans k
B5 aIb(h:g1 env=.next env')(k:g env'=r):aX g1 g env=r:=(fW h).trans k
B5 uy(h:env[i]?=some (.own d)):Dj i env=.ret d:=by B4 Dj;rw[h]
B5 oE{fs:FA}{e:DE}(h:fs e=some ds)(hl:ds.length≤100000):vQ fs e=some (.tup ds):=by B4 vQ cap;rw[h];dsimp only[C4];rw[if_pos hl]
B5 fQ{fs:FA}{e:DE}(h:fs e=some ds)(hl:ds.length≤100000):kE fs e=some (.lst ds):=by B4 kE cap;rw[h];dsimp only[C4];rw[if_pos hl]
B5 pZ{e:DE}{z:Int}(h:f e=some (.int z)):zK f e=some (.int (-z)):=by B4 zK;rw[h];rfl
B5 Yz{e:DE}{T:String}{d':D}(h:f e=some d)(k:JB T d=some d'):VF T f e=some d':=by B4 VF;rw[h];~k
B5 aBr{e:DE}{b:Bool}(h:f e=some (.bl b)):HQ f e=some (.bl (!b)):=by B4 HQ;rw[bZ h];rfl
B5 jc{e:DE}{f':FE}(h:f e=some (.bl true))(k:f' e=some d):Uz f f' e=some d:=by B4 Uz;rw[bZ h];~k
B5 Nb{e:DE}{c':FT}{a b:Bool}(h:c e=some a)(k:c' e=some b):Cu c c' e=some (a&&b):=by
 B4 Cu;rw[h]
 cases a with
 | true=>~k
 | false=>rfl
B5 iV{e:DE}(h:f e=some (.lst ds)):lM f e=some ds:=by B4 lM;rw[h];rfl
B5 aBs{e:DE}(h:f e=some (.tup ds)):lM f e=some ds:=by B4 lM;rw[h];rfl
B5 Vr{a b:List D}(h:D.gY (a++b)=true)(hl:a.length+b.length≤100000):dJ (.lst a) (.lst b)=some (.lst (a++b)):=by
 show (if D.gY (a++b)=true∧a.length+b.length≤100000 then some (D.lst (a++b))else none)=_
 rw[if_pos ⟨h,hl⟩]
B5 sO(d:D)(ds:List D):D.gY (d::ds)=(d.jK&&D.gY ds):=by rw[D.gY]
B5 LK{a b:List D}:D.gY (a++b)=(D.gY a&&D.gY b):=by
 induction a with
 | nil=>rw[Y1,D.gY];rfl
 | cons x a ih=>rw[P0,sO,sO,ih,Bool.and_assoc]
B5 Qm{ds:List D}(h:∀d∈ds,d.jK=true):D.gY ds=true:=by
 induction ds with
 | nil=>B4 D.gY;rfl
 | cons d ds ih=>B4 D.gY;rw[h d D4,ih fun e he=>h e (C8 _ he)];rfl
B5 lU(ns:List Int):(dTup ns).jK=true:=by B4 dTup D.jK;~cV ns
B5 oR(h:D.gY ds=true):dList [.lst ds]=some (.lst ds):=by
 show (if D.gY ds=true then some (D.lst ds)else none)=_
 rw[if_pos h]
B5 xK(ns:List Int):pL (ns.map D.int)=some (ns.map DV.int):=by
 induction ns with
 | nil=>B4 pL;rfl
 | cons n ns ih=>rw[D3];B4 pL jO;rw[C4,ih];rfl
B5 LQ(ns ms:List Int):Il (aH ns) (aH ms)=some (.bl (decide (ns=ms))):=by
 B4 Il toV
 dsimp only
 B4 jO
 rw[xK,xK]
 dsimp only[G1]
 rw[if_pos (by B4 DV.depth;rw[wU];decide)]
 congr 2
 rw[M8,vN,decide_eq_true_iff]
 constructor
 ·intro z;injection z with z;~GR.mp z
 ·intro z;rw[z]
end
end L2
namespace L2
B5 cI{i:Nat}{e:DE}{d:D}(h:e[i]?=some (some d)):aD i e=some d:=by B4 aD;rw[h];rfl
B5 aIc{e:DE}{d:D}:fC d e=some d:=rfl
B5 aBt{e:DE}:aK e=some []:=rfl
end L2
namespace L2
B5 aBu{i:Nat}{fi:FA}{gb:GS}{env:EN}{n:Nat}(I:Nat→EN→Prop)(h:fi (rE env)=some (iY 0 n))(h0:I 0 env)
  (st:∀(k:Nat) env,k<n→I k env→i<env.length∧∃env',gb (env.set i (.fro (.int k)))=.next env'∧I (k+1) env'):∃env',Dk i fi gb env=.next env'∧I n env':=by
 B3⟨env',h1,h2⟩:=Jq (i:=i) (g:=gb) I (iY 0 n) env 0 h0 fun k x e hx hi=>by
  rw[Q4]at hi ⊢
  B3⟨hk,rfl⟩:=Ql hx
  rw[f7]
  ~st k e hk hi
 rw[Q4,Ei]at h2
 ~⟨env',(aBo h).trans h1,h2⟩
B5 Vs{α β:Type}(φ:α→β):∀(l:List α)(k:Nat),(l.map φ).eraseIdx k=(l.eraseIdx k).map φ
 | [],k=>by simp
 | a::l,0=>by simp
 | a::l,k+1=>by rw[D3,M6,M6,D3,Vs φ l k]
B5 Za{i j:Nat}{f:FE}{env:EN}{ns ms:List Int}{k:Int}(h1:env[i]?=some (.own (aH ns)))(h2:env[j]?=some (.own (aH ms)))(h3:f (rE env)=some (.int k))(hij:i≠j)(hn:ns.length<1000)(hm:ms.length<1000)(k0:0≤k)(k1:k<ms.length) :
  Bj i j f env=.next ((env.set j (.own (aH (ms.eraseIdx k.toNat)))).set i (.own (aH (ns++[ms.getD k.toNat 0])))):=by
 have hk:k.toNat<ms.length:=by omega
 B4 Bj
 rw[h1,h2,h3]
 dsimp only
 rw[if_pos ⟨hij,by rw[B7];omega,k0,by rw[B7];~k1,by rw[B7];omega⟩]
 have e:(ms.map D.int)[k.toNat]?=some (.int (ms.getD k.toNat 0)):=by
  rw[B8,B9,B6 hk];rfl
 rw[e]
 dsimp only
 rw[if_pos (show D.jK (.int (ms.getD k.toNat 0))=true from rfl)]
 have e1:(ms.map D.int).eraseIdx k.toNat=(ms.eraseIdx k.toNat).map D.int:=by
  rw[Vs]
 have e2:ns.map D.int++[D.int (ms.getD k.toNat 0)]=(ns++[ms.getD k.toNat 0]).map D.int:=by rw[G0];rfl
 rw[e1,e2]
B5 El(ns:List Int)(n:Int):D.lst (ns.map D.int++[.int n])=aH (ns++[n]):=by B4 aH;rw[G0];rfl
end L2


namespace L2
open PySem PySem.Spec PyProof.Rows
def Qs(Pr:SR→Prop)(r:SR):Prop:=Pr r
section
variable{i j:Nat}{f:FE}{c:FT}{g1 g2 g gb:GS}{env env':EN}{d:D}{ds:List D}{Pr:SR→Prop}
B5 cN(h:f (rE env)=some d)(hi:i<env.length)(k:Qs Pr (g (env.set i (.own d)))):Qs Pr (aX (dG i f) g env):=by rw[fW (xG h hi)];~k
B5 aGn(h:f (rE env)=some d)(hi:i<env.length)(k:Pr (.next (env.set i (.own d)))):Qs Pr (dG i f env):=by rw[xG h hi];~k
B5 Tp(h:g1 env=.next env')(k:Qs Pr (g env')):Qs Pr (aX g1 g env):=by rw[fW h];~k
B5 vG(k:Qs Pr (g env)):Qs Pr (aX fG g env):=k
B5 aBv(k:Pr (.next env)):Qs Pr (fG env):=k
B5 Gs{b:Bool}(h:c (rE env)=some b)(k1:b=true→Qs Pr (aX g1 g env))(k2:b=false→Qs Pr (aX g2 g env)):Qs Pr (aX (qM c g1 g2) g env):=by
 cases b with
 | true=>have k:=k1 rfl;B4 aX at k ⊢;rw[vW h];~k
 | false=>have k:=k2 rfl;B4 aX at k ⊢;rw[mK h];~k
B5 aBw{b:Bool}(h:c (rE env)=some b)(k1:b=true→Qs Pr (g1 env))(k2:b=false→Qs Pr (g2 env)):Qs Pr (qM c g1 g2 env):=by
 cases b with
 | true=>rw[vW h];~k1 rfl
 | false=>rw[mK h];~k2 rfl
B5 pB{b:Bool}(h:c (rE env)=some b)(hb:b=false)(k:Qs Pr (aX g2 g env)):Qs Pr (aX (qM c g1 g2) g env):=Gs h (fun z=>by rw[hb]at z;cases z) fun _=>k
B5 aIe{b:Bool}(h:c (rE env)=some b)(hb:b=true)(k:Qs Pr (aX g1 g env)):Qs Pr (aX (qM c g1 g2) g env):=Gs h (fun _=>k) (fun z=>by rw[hb]at z;cases z)
B5 Vt(h:f (rE env)=some d)(k:Pr (.ret d)):Qs Pr (aX (fO f) g env):=by rw[Qk (gC h)];~k
B5 pC(h:f (rE env)=some d)(k:Pr (.ret d)):Qs Pr (fO f env):=by rw[gC h];~k
B5 aBx(h:env[i]?=some (.own d))(k:Pr (.ret d)):Qs Pr (Dj i env):=by rw[uy h];~k
B5 Zb{fi:FA}{n:Nat}(I:Nat→EN→Prop)(h:fi (rE env)=some (iY 0 n))(h0:I 0 env)
  (st:∀(k:Nat) env,k<n→I k env→i<env.length∧Qs (fun r=>∃env',r=.next env'∧I (k+1) env') (gb (env.set i (.fro (.int k))))) (k:∀env',I n env'→Qs Pr (g env')):Qs Pr (aX (Dk i fi gb) g env):=by
 B3⟨env',h1,h2⟩:=aBu (gb:=gb) I h h0 fun k env hk hi=>⟨(st k env hk hi).1,let ⟨e,a,b⟩:=(st k env hk hi).2;⟨e,a,b⟩⟩
 rw[fW h1]
 ~k env' h2
B5 aBy{js:List Nat}{fi:FA}{Dz:EN}{xs:List D}(I:Nat→EN→Prop)(hf:zA js env=Dz)(h:fi (zE Dz)=some xs)(h0:I 0 Dz)
  (st:∀(k:Nat) x env,xs[k]?=some x→I k env→i<env.length∧Qs (fun r=>∃env',r=.next env'∧I (k+1) env') (gb (env.set i (.fro x)))) (k:∀env',I xs.length env'→Qs Pr (g env')):Qs Pr (aX (Th js i fi gb) g env):=by
 B3⟨env',h1,h2⟩:=Jq (i:=i) (g:=gb) I xs Dz 0 h0 fun k x e hx hi=>by
  rw[Q4]at hi ⊢
  ~⟨(st k x e hx hi).1,let ⟨e,a,b⟩:=(st k x e hx hi).2;⟨e,a,b⟩⟩
 rw[Q4]at h2
 rw[fW ((iz hf h).trans h1)]
 ~k env' h2
B5 aIf{is:List Nat}(h:f (rE env)=some (.tup ds))(hl:is.length=ds.length)(hi:is.all (fun i=>decide (i<env.length))=true)(k:Qs Pr (g (uN env is ds))):Qs Pr (aX (wW is f) g env):=by
 have:wW is f env=.next (uN env is ds):=by B4 wW;rw[h];dsimp only;rw[if_pos ⟨hl,hi⟩]
 rw[fW this]
 ~k
B5 qU{n m:Nat}{Pd:D→Prop}(hl:ds.length=m)(h:Qs (fun r=>∃d,r=.ret d∧Pd d) (g (ds.map SD.fro++E4 (n-m) SD.no))):∃d,pN n m g ds=some d∧Pd d:=by
 B3⟨d,h1,h2⟩:=h
 ~⟨d,nO hl h1,h2⟩
B5 Gu{fs:FA}{e:DE}{n:Nat}(h:fs e=some [.int (n:Int)])(hn:n≤100000):tD fs e=some (iY 0 n):=by
 rw[KZ h A6 A6,D7]
end
end L2
namespace L2
B5 Em{fi:FA}{fr:List Nat}{fe:FE}{e:DE}{n:Nat}{φ:Nat→D}(h1:fi e=some (iY 0 n))(hn:n≤1000)(he:∀k:Nat,k<n→fe (some (.int k)::rH e fr)=some (φ k)):gF fi fr jN fe e=some (.lst ((D2 n).map φ)):=by
 &Ag h1 (by rw[Ei];omega) ?_
 &(Vq (c:=fun x=>jN (some x::rH e fr)) (φ:=fun x=>match x with | .int i=>φ i.toNat | d=>d) (fun _ _=>rfl) ?_).trans ?_
 rotate_left
 ·congr 1
  B4 iY
  rw[K5]
  apply L4
  intro k _
  show φ ((0:Int)+(k:Int)).toNat=φ k
  rw[f7,D7]
 ·intro x hx
  B3⟨k,hk,rfl⟩:=Ej hx
  rw[f7]
  show _=some (φ ((k:Int)).toNat)
  rw[D7]
  ~he k hk
B5 Br{fi:FA}{fr:List Nat}{fe:FE}{e:DE}{α:Type}{xs:List α}{ψ φ:α→D}(h1:fi e=some (xs.map ψ))(hn:xs.length≤1000)(he:∀x∈xs,fe (some (ψ x)::rH e fr)=some (φ x)):gF fi fr jN fe e=some (.lst (xs.map φ)):=by
 &Ag h1 (by rw[B7];omega) ?_
 clear h1 hn
 induction xs with
 | nil=>rw[J2,J2];B4 oY;rfl
 | cons x xs ih=>
  rw[D3]
  B4 oY
  show (some true).bind _=_
  rw[C4,if_pos rfl,he x D4,C4,ih fun y hy=>he y (C8 _ hy)]
  rfl
B5 Qn{α:Type} [Inhabited α]:∀(l:List α)(k:Nat)(d:α),k<l.length→(l.getD k d::l.eraseIdx k).Perm l
 | [],k,d,h=>absurd h (by simp)
 | a::l,0,d,_=>by simp
 | a::l,k+1,d,h=>by
  rw[M6,U3]
  ~(m9 _ _ _).trans ((Qn l k d (by simpa using h)).cons a)
B5 mL{α:Type}{l:List α}{k:Nat}{x d:α}(h:l[k]?=some x):l.getD k d=x:=by rw[B9,h];rfl
B5 tL{α:Type}{l:List α}{k:Nat}{d:α}(h:k<l.length):l[k]?=some (l.getD k d):=by rw[B9,B6 h];rfl
B5 aGo{b:Bool}{f:FE}{l h:FO}{e:DE}{ds:List D}{lo hi:Option Int}(h1:f e=some (.lst ds))(h2:l e=some lo)(h3:h e=some hi)(h4:b=false∨D.gY (Cw ds lo hi)=true):xx b f l h e=some (.lst (Cw ds lo hi)):=by
 B4 xx
 rw[h1,h2,h3]
 dsimp only[C4]
 rw[if_pos h4]
B5 xM(ns ms:List Int)(h:ns.length+ms.length≤100000):dJ (aH ns) (aH ms)=some (aH (ns++ms)):=by
 have:=Vr (a:=ns.map D.int) (b:=ms.map D.int) (by rw[LK,cV,cV];rfl) (by rw[B7,B7];~h)
 rw[←G0]at this
 ~this
end L2


namespace L2
open PySem PySem.Spec PyProof.Rows
section
variable{i j:Nat}{f:FE}{c:FT}{g1 g2 g gb:GS}{env env':EN}{d:D}{ds:List D}{Pr:SR→Prop}
B5 aDE{x:D}(h:ds.getLast?=some x):dI (.lst ds) (.int (-1))=some x:=aDD h
B5 Vu{fc:FT}(I:Nat→EN→Prop)(hs:∀n env,I n env→(fc (rE env)=some false)∨(fc (rE env)=some true∧0<n∧∃env',gb env=.next env'∧I (n-1) env')):∀(fuel n:Nat)(env:EN),n<fuel→I n env→∃env' n',qT fc gb fuel env=.next env'∧I n' env'∧fc (rE env')=some false
 | 0,n,env,h,_=>absurd h A6
 | fuel+1,n,env,h,hi=>by
  rcases hs n env hi with q | ⟨q,hn,env',h1,h2⟩
  ·~⟨env,n,by B4 qT;rw[q],hi,q⟩
  ·B3⟨e2,n2,a1,a2,a3⟩:=Vu I hs fuel (n-1) env' A6 h2
   &⟨e2,n2,?_,a2,a3⟩
   B4 qT
   rw[q,h1]
   ~a1
end
end L2
namespace L2
B5 jd{l:List Int}{b:Int}:(F2 b:Key)∈l.map (F2:Int→Key)↔b∈l:=by
 rw[G4]
 constructor
 ·rintro⟨a,h1,h2⟩;cases h2;~h1
 ·intro h;~⟨b,h,rfl⟩
B5 Ah{l:List Int}{b:Int}(h:b∉l):posK (l.map (F2:Int→Key)) (F2 b)=none:=Bg.mpr fun z=>h (jd.mp z)
B5 aDF{i:Nat}{f f':FE}{env:EN}{ks:List Key}{ds:List D}{kd d:D}{k:Key}(h1:env[i]?=some (.own (.dk ks ds)))(h2:f (rE env)=some kd)(h3:f' (rE env)=some d)(h4:Tf kd=some k)(h5:posK ks k=none)(im:d.jK=true)(hl:ks.length<100000):rJ i cW f f' env=.next (env.set i (.own (.dk (ks++[k]) (ds++[d])))):=by
 have e1:lF ks k=ks++[k]:=by B4 lF;rw[h5];rfl
 have e2:putD ks ds k d=ds++[d]:=by B4 putD;rw[h5];rfl
 B4 rJ cW
 rw[h1,h2,h3]
 dsimp only[eO]
 rw[h4]
 dsimp only
 rw[if_pos ⟨im,hl⟩,e1,e2]
 rfl
B5 Vv(l:List Int):D.lst ((l.map (F2:Int→Key)).map kD)=aH l:=by
 B4 aH
 rw[K5]
 rfl
B5 aDG{fc:FT}{gb g:GS}{env:EN}{Pr:SR→Prop}{fuel n:Nat}(I:Nat→EN→Prop)(h0:I n env)(hn:n<fuel)(hs:∀n env,I n env→(fc (rE env)=some false)∨(fc (rE env)=some true∧0<n∧∃env',gb env=.next env'∧I (n-1) env'))
  (k:∀env' n',I n' env'→fc (rE env')=some false→Qs Pr (g env')):Qs Pr (aX (qT fc gb fuel) g env):=by
 B3⟨env',n',a1,a2,a3⟩:=Vu I hs fuel n env hn h0
 rw[fW a1]
 ~k env' n' a2 a3
end L2
namespace L2
B5 uz(ns:List Int):HF (ns.map D.int)=some (ns.map V.int):=by
 induction ns with
 | nil=>B4 HF;rfl
 | cons n ns ih=>rw[D3];B4 HF toV;rw[C4,ih];rfl
B5 Gv(neg:Bool)(i:Int)(ns:List Int):dIn neg (.int i) (aH ns)=some (.bl (if neg then !decide (i∈ns)else decide (i∈ns))):=by
 B4 dIn
 show (some (V.int i)).bind _=_
 rw[C4]
 show (some (ns.map D.int)).bind _=_
 rw[C4,uz,C4,if_pos ⟨rfl,pq ns⟩,aC4]
B5 xN{ns:List Int}(h:ns.length<64):uL [aH ns]=some (aH (sortI ns)):=by
 show (intsOf (ns.map D.int)).bind _=_
 rw[kI,C4,if_pos h]
end L2


namespace L2
open PySem PySem.Spec PyProof.Rows
def Sh(ks:List Int):D:=.dk (ks.map F2) (ks.map fun _=>.bl true)
B5 aBz(i:Int)(ks:List Int):(posK (ks.map (F2:Int→Key)) (F2 i)).isSome=decide (i∈ks):=by
 by_cases c:i∈ks
 ·rw[decide_eq_true c]
  cases q:posK (ks.map (F2:Int→Key)) (F2 i)with
  | some j=>rfl
  | none=>~absurd (jd.mpr c) (Bg.mp q)
 ·rw[decide_eq_false c,Ah c]
  rfl
B5 Zc(neg:Bool)(i:Int)(ks:List Int):Ge neg (.int i) (Sh ks)=some (.bl (if neg then !decide (i∈ks)else decide (i∈ks))):=by
 show some (D.bl (if neg then !(posK (ks.map (F2:Int→Key)) (F2 i)).isSome else(posK (ks.map (F2:Int→Key)) (F2 i)).isSome))=_
 rw[aBz]
def WQ(ks:List Int)(k:Int):List Int:=if k∈ks then ks else ks++[k]
B5 Vw(k:Key):∀ks:List Int,Q1 (fun(k':Key) (d':D)=>if k'=k then D.bl true else d') (ks.map F2) (ks.map fun _=>D.bl true)=ks.map fun _=>D.bl true
 | []=>rfl
 | a::ks=>by
  rw[D3,D3,J1,Vw k ks]
  split<;>rfl
B5 aIg{i:Nat}{f f':FE}{env:EN}{ks:List Int}{k:Int}(h1:env[i]?=some (.own (Sh ks)))(h2:f (rE env)=some (.int k))(h3:f' (rE env)=some (.bl true))(hl:ks.length<1000):rJ i cW f f' env=.next (env.set i (.own (Sh (WQ ks k)))):=by
 B4 rJ cW
 rw[h1,h2,h3]
 dsimp only[eO,Sh]
 show (if D.jK (.bl true)=true∧(ks.map (F2:Int→Key)).length<100000 then _ else _)=_
 rw[if_pos ⟨rfl,by rw[B7];omega⟩]
 have e1:lF (ks.map (F2:Int→Key)) (F2 k)=(WQ ks k).map F2:=by
  B4 lF WQ
  rw[aBz]
  by_cases c:k∈ks
  ·simp[c]
  ·simp[c]
 have e2:putD (ks.map (F2:Int→Key)) (ks.map fun _=>D.bl true) (F2 k) (.bl true)=(WQ ks k).map fun _=>D.bl true:=by
  B4 putD WQ
  rw[aBz]
  by_cases c:k∈ks
  ·rw[decide_eq_true c,if_pos rfl,if_pos c,Vw]
  ·rw[decide_eq_false c,if_neg A8,if_neg c,G0]
   rfl
 rw[e1,e2]
 rfl
B5 Bu{fi:FA}{fr:List Nat}{fc:FT}{fe:FE}{e:DE}{ms:List Int}(p:Int→Bool)(φ:Int→D)(h1:fi e=some (ms.map D.int))(hn:ms.length≤1000)(hc:∀m∈ms,fc (some (.int m)::rH e fr)=some (p m))(he:∀m∈ms,p m=true→fe (some (.int m)::rH e fr)=some (φ m)) :
  gF fi fr fc fe e=some (.lst ((ms.filter p).map φ)):=by
 &Ag h1 (by rw[B7];omega) ?_
 clear h1 hn
 induction ms with
 | nil=>rw[J2];B4 oY;rfl
 | cons m ms ih=>
  have ih:=ih (fun y hy=>hc y (C8 _ hy)) fun y hy=>he y (C8 _ hy)
  rw[D3]
  B4 oY
  rw[hc m D4,C4,j8]
  cases q:p m with
  | true=>rw[if_pos rfl,if_pos rfl,he m D4 q,C4,ih];rfl
  | false=>rw[if_neg A8,if_neg A8];~ih
B5 tO{fi:FA}{fr:List Nat}{fc:FT}{fe:FE}{e:DE}{ms:List Int}(p:Int→Bool)(φ:Int→Int)(h1:fi e=some (ms.map D.int))(hn:ms.length≤1000)(hc:∀m∈ms,fc (some (.int m)::rH e fr)=some (p m))(he:∀m∈ms,p m=true→fe (some (.int m)::rH e fr)=some (.int (φ m))) :
  gF fi fr fc fe e=some (aH ((ms.filter p).map φ)):=by
 rw[Bu p (fun m=>.int (φ m)) h1 hn hc he]
 B4 aH
 rw[K5]
 rfl
B5 dB{φ:D→Option D}{f:FE}{e:DE}{a d:D}(h1:f e=some a)(h:φ a=some d):pY φ f e=some d:=by B4 pY;rw[h1];~h
B5 WR{ns:List Int}(h:ns.length<64):gq (aH ns)=some (aH (fj ns)):=by
 show (intsOf (ns.map D.int)).bind _=_
 rw[kI,C4,if_pos h]
B5 LR(ns:List Int):Pa [aH ns]=some (dTup ns):=by
 B4 Pa
 dsimp only
 rw[show zJ (aH ns)=some (ns.map D.int)from by B4 aH zJ;rfl,C4,if_pos (cV _)]
 rfl
B5 WT{ns:List Int}(h:0<ns.length):bh [aH ns]=some (.int (UJ ns)):=by
 show (intsOf (ns.map D.int)).bind _=_
 rw[kI,C4,if_pos h]
B5 MF{α β:Type}(φ:α→β)(l:List α)(lo hi:Option Int):Cw (l.map φ) lo hi=(Cw l lo hi).map φ:=by
 B4 Cw
 rw[B7,←S7,←S6]
B5 MJ{b:Bool}{f:FE}{l h:FO}{e:DE}{ns:List Int}{lo hi:Option Int}(h1:f e=some (aH ns))(h2:l e=some lo)(h3:h e=some hi):xx b f l h e=some (aH (Cw ns lo hi)):=by
 rw[aGo h1 h2 h3 (.inr (by rw[MF];~cV _)),MF]
B5 aGp{α:Type}(l:List α)(c:Nat):Cw l none (some (c:Int))=l.take c:=by
 B4 Cw
 show (l.drop 0).take (HT.Nt l.length l.length (some (c:Int))-0)=_
 rw[Oi,n9,f9]
 rcases J8 c l.length with z | z
 ·rw[show min c l.length=c by omega]
 ·rw[show min c l.length=l.length by omega,S0 (C6 _),S0 z]
B5 aBA{α:Type}(l:List α)(a b:Nat):Cw l (some (a:Int)) (some (b:Int))=(l.drop a).take (b-a):=by
 B4 Cw
 rw[Oi,Oi]
 &K6 fun k=>?_
 rw[g6,V0,g6,V0]
 rcases J8 a l.length with z | z
 ·rw[show min a l.length=a by omega]
  by_cases c:k<min b l.length-a
  ·rw[if_pos c,if_pos A6]
  ·rw[if_neg c]
   by_cases c2:k<b-a
   ·rw[if_pos c2,E8 A6]
   ·rw[if_neg c2]
 ·rw[show min a l.length=l.length by omega,E8 (show l.length≤l.length+k by omega),E8 (show l.length≤a+k by omega)]
  split<;>split<;>rfl
structure vX where
 eX:Int
 place:Int
 thing:List Int
 needs:List Int
 deriving Inhabited
def DK(c:vX):D:=.tup [.int c.eX,.int c.place,dTup c.thing,dTup c.needs]
def xO(cs:List vX):D:=.lst (cs.map DK)
B5 aGq(c:vX):(DK c).jK=true:=by
 B4 DK D.jK
 rw[sO,sO,sO,sO,lU,lU]
 rfl
abbrev at_(cs:List vX)(k:Nat):vX:=cs.getD k default
B5 Zd{cs:List vX}{k:Nat}(h:k<cs.length):dI (xO cs) (.int k)=some (DK (at_ cs k)):=nZ A6 (by
 rw[D7,B8,tL (d:=default) h]
 rfl)
B5 je(c:vX):dI (DK c) (.int 0)=some (.int c.eX):=uO A8 rfl
B5 MK(c:vX):dI (DK c) (.int 1)=some (.int c.place):=uO A8 rfl
B5 Qo(c:vX):dI (DK c) (.int 2)=some (dTup c.thing):=uO A8 rfl
B5 MN(c:vX):dI (DK c) (.int 3)=some (dTup c.needs):=uO A8 rfl
B5 Ze(cs:List vX):jP [xO cs]=some (.int cs.length):=by show some (D.int ((cs.map DK).length:Nat))=_;rw[B7]
def Good(cs:List vX):Prop:=cs.length≤124∧∀k,k<cs.length→(∀m∈(at_ cs k).needs,0≤m∧m<k)∧(at_ cs k).needs.Pairwise (·<·)∧(at_ cs k).needs.length≤9
def chV(c:vX):DV:=.tup [.int c.eX,.int c.place,.tup (c.thing.map DV.int),.tup (c.needs.map DV.int)]
B5 MP(ns ms:List Int):Gd (aH ns) (aH ms)=some (.bl (!decide (ns=ms))):=by
 have e:∀l:List Int,jO (aH l)=some (.lst (l.map DV.int)):=fun l=>by B4 aH jO;rw[xK];rfl
 B4 Gd
 rw[e,e]
 B4 toV
 dsimp only
 rw[if_pos (by rw[wU];decide)]
 congr 3
 rw[M8,vN,decide_eq_true_iff]
 constructor
 ·intro z;injection z with z;~GR.mp z
 ·intro z;rw[z]
end L2
namespace L2
B5 Jr{f:FE}{e:DE}{i:Int}(h:f e=some (.int i)):qR f e=some (some i):=by B4 qR;rw[h];rfl
B5 aBB(ks:List Int):Oz [Sh ks]=some (aH ks):=by
 show some (D.lst ((ks.map (F2:Int→Key)).map kD))=_
 rw[Vv]
B5 tQ{cs:List vX}{c:vX}{k:Nat}(h:k<cs.length):at_ (cs++[c]) k=at_ cs k:=by
 B4 at_
 rw[B9,B9,G9 h]
B5 xP(cs:List vX)(c:vX):at_ (cs++[c]) cs.length=c:=by
 B4 at_
 rw[B9,N1 (C6 _)]
 simp
B5 vd(cs:List vX)(c:vX):D.lst (cs.map DK++[DK c])=xO (cs++[c]):=by B4 xO;rw[G0];rfl
B5 vf{f:FE}{e:DE}{ns:List Int}(h:f e=some (dTup ns)):lM f e=some (ns.map D.int):=aBs h
end L2
namespace L2
B5 Vx(i j:Int):HX [.int i,.int j]=some (.int (if j > i then j else i)):=rfl
end L2


namespace L2
open PySem PySem.Spec PyProof.Rows
B5 jf{e:DE}{f f':FE}{a b:Bool}(h:f e=some (.bl a))(k:f' e=some (.bl b)):Tg f f' e=some (.bl (a||b)):=by
 B4 Tg;rw[bZ h]
 cases a with
 | true=>rfl
 | false=>~k
B5 MT{α:Type}(p:α→Bool)(l:List α):aAE [.lst (l.map fun x=>D.bl (p x))]=some (.bl (l.all p)):=by
 show (Di (l.map fun x=>D.bl (p x))).map _=_
 rw[Vc]
 show some (D.bl ((l.map p).all id))=_
 rw[List.all_map]
 rfl
end L2


namespace L2
open PySem PySem.Spec PyProof.Rows
B5 pO:∀(n:Nat)(l:List Int),l.Nodup→(∀x∈l,0≤x∧x<(n:Int))→l.length≤n
 | 0,l,_,h=>by
  cases l with
  | nil=>~C6 _
  | cons a l=>
   have:=h a D4
   omega
 | n+1,l,hn,h=>by
  by_cases c:(n:Int)∈l
  ·have e:=X2 c
   have:=pO n (l.erase (n:Int)) (hn.erase _) fun x hx=>by
    B3⟨h1,h2⟩:=(hn.mem_erase_iff).mp hx
    have:=h x h2
    omega
   omega
  ·have:=pO n l hn fun x hx=>by
    have:=h x hx
    have ne:x≠(n:Int):=fun z=>c (by rw[←z];~hx)
    omega
   omega
section
variable{i j:Nat}{f f':FE}{c:FT}{g1 g2 g gb:GS}{env env':EN}{d d0 d' r:D}{ds:List D}{Pr:SR→Prop}{v:V}{π:FP}{p:List Step}
B5 lC{n m:Nat}(hl:ds.length=m)(h:g (ds.map SD.fro++E4 (n-m) SD.no)=.ret d):mV n m g ds=some d:=by B4 mV;rw[if_pos hl,h]
B5 En{n m:Nat}(hl:ds.length=m)(h:g (ds.map SD.fro++E4 (n-m) SD.no)=.next env'):mV n m g ds=some .non:=by B4 mV;rw[if_pos hl,h]
B5 jg{n m:Nat}{Pd:D→Prop}(hl:ds.length=m)(h:Qs (fun r=>∃d,r=.ret d∧Pd d) (g (ds.map SD.fro++E4 (n-m) SD.no))):∃d,mV n m g ds=some d∧Pd d:=by
 B3⟨d,h1,h2⟩:=h
 ~⟨d,lC hl h1,h2⟩
B5 pD{n m:Nat}{es:List D}(hl:es.length+1=m)(h:∀v,Qs (JN r d' v) (g (uf n m d es v))):nM n m g (d::es)=some (r,d'):=aA8 hl h
B5 jh(h1:env[i]?=some (.inn v d))(h2:g1 (env.set i (.own d))=.next env')(h3:env'[i]?=some (.own d')):jL i g1 env=.next (env'.set i (.inn v d')):=by
 B4 jL
 rw[h1]
 dsimp only
 rw[h2]
 dsimp only
 rw[h3]
B5 pF(h1:env[i]?=some (.inn v d))(h2:g1 (env.set i (.own d))=.next env')(h3:env'[i]?=some (.own d'))(k:Qs Pr (g (env'.set i (.inn v d')))):Qs Pr (aX (jL i g1) g env):=by rw[fW (jh h1 h2 h3)];~k
B5 WW(h1:env[i]?=some (.inn v d))(h2:g1 (env.set i (.own d))=.next env')(h3:env'[i]?=some (.own d'))(k:Pr (.next (env'.set i (.inn v d')))):Qs Pr (jL i g1 env):=by rw[jh h1 h2 h3];~k
B5 Gw(h:f (rE env)=some d):yU f env=.next env:=by B4 yU;rw[h]
B5 WX(h:f (rE env)=some d)(k:Qs Pr (g env)):Qs Pr (aX (yU f) g env):=by rw[fW (Gw h)];~k
B5 Qp(h1:env[i]?=some (.own d0))(h2:π (rE env)=some p)(h3:eO p d0=some (.lst ds))(h4:f (rE env)=some d)(hl:ds.length<100000):Eb i π f env=.next (env.set i (.own (dR p d0 (.lst (ds++[d]))))):=by
 B4 Eb
 rw[h1,h2,h4]
 dsimp only
 rw[h3]
 dsimp only
 rw[if_pos hl]
B5 Zf{k:Int}(h1:env[i]?=some (.own d0))(h2:π (rE env)=some p)(h3:eO p d0=some (.lst ds))(h4:f (rE env)=some (.int k))(h5:f' (rE env)=some d)(k0:0≤k)(k1:k<ds.length):uM i π f f' env=.next (env.set i (.own (dR p d0 (.lst (ds.set k.toNat d))))):=by
 B4 uM
 rw[h1,h2,h4,h5]
 dsimp only
 rw[h3]
 dsimp only
 have:Up ds.length k=some k.toNat:=by B4 Up;rw[if_pos k0,if_pos k1]
 rw[this]
B5 Nf{ks:List Key}{k:Key}{kd:D}(h1:env[i]?=some (.own d0))(h2:π (rE env)=some p)(h3:eO p d0=some (.dk ks ds))(h4:f (rE env)=some kd)(h5:Tf kd=some k)(h6:f' (rE env)=some d)(im:d.jK=true)(hl:ks.length<100000):rJ i π f f' env=.next (env.set i (.own (dR p d0 (.dk (lF ks k) (putD ks ds k d))))):=by
 B4 rJ
 rw[h1,h2,h4,h6]
 dsimp only
 rw[h3,h5]
 dsimp only
 rw[if_pos ⟨im,hl⟩]
B5 aDH{ks:List (List Key)}{k:List Key}{fk:FK}(h1:env[i]?=some (.own d0))(h2:π (rE env)=some p)(h3:eO p d0=some (.dt ks ds))(h4:fk (rE env)=some k)(h6:f' (rE env)=some d)(im:d.jK=true)(hl:ks.length<100000):Vj i π fk f' env=.next (env.set i (.own (dR p d0 (.dt (lF ks k) (putD ks ds k d))))):=by
 B4 Vj
 rw[h1,h2,h4,h6]
 dsimp only
 rw[h3]
 dsimp only
 rw[if_pos ⟨im,hl⟩]
B5 aGr{C:Addr}{nm:List Str}{x:Str}(h1:env[i]?=some (.own d0))(h2:π (rE env)=some p)(h3:eO p d0=some (.ins C nm ds))(h4:f (rE env)=some d)(hl:nm.length<900):vV C i π x f env=.next (env.set i (.own (dR p d0 (.ins C (Vg nm ds x d).1 (Vg nm ds x d).2)))):=by
 B4 vV
 rw[h1,h2,h4]
 dsimp only
 rw[h3]
 dsimp only
 rw[if_pos ⟨rfl,hl⟩]
B5 bL{C:Addr}{m:Str}{n:Nat}{F:List D→Option D}{fo:FE}{fs:FA}{ud es:List D}{e:DE}{nm:List Str}(h1:fo e=some (.ins C nm ds))(hm:m∉nm)(h2:fs e=some es)(hl:es.length+ud.length+1=n)(h3:F (.ins C nm ds::(es++ud))=some r):bK C m n F fo fs ud e=some r:=by
 B4 bK
 rw[h1]
 dsimp only[C4]
 rw[if_pos ⟨rfl,hm⟩,h2]
 dsimp only[C4]
 rw[if_pos hl]
 ~h3
B5 lA{C:Addr}{m:Str}{F:List D→Option (D×D)}{fs:FA2}{es:List D}{nm:List Str}{back:D→SD}(h1:env[i]?.bind SD.hold=some (d0,back))(h2:π (rE env)=some p)(h3:eO p d0=some (.ins C nm ds))(hm:m∉nm)(h4:fs (rE env) (rE (env.set i .no))=some es)(h5:F (.ins C nm ds::es)=some (r,d')):pM C m i π F fs env=some (r,env.set i (back (dR p d0 d'))):=by
 B4 pM
 rw[h1,h2,h4]
 dsimp only
 rw[h3]
 dsimp only
 rw[if_pos ⟨rfl,hm⟩,h5]
 rfl
B5 Qq{C:Addr}{F:List D→Option (D×D)}{fs:FA}{e:DE}{es:List D}(h1:fs e=some es)(h2:F (.ins C [] []::es)=some (.non,d')):Vi C F fs e=some d':=by
 B4 Vi
 rw[h1]
 dsimp only[C4]
 rw[h2]
B5 gR{fs:FA2}{eF eZ:DE}{es:List D}(h1:f eZ=some d)(h2:fs eF eZ=some es):Cz f fs eF eZ=some (d::es):=by B4 Cz;rw[h1,h2];rfl
B5 Ai{fs:FA2}{eF eZ:DE}{es:List D}(h1:f eF=some d)(h2:fs eF eZ=some es):gr f fs eF eZ=some (d::es):=by B4 gr;rw[h1,h2];rfl
B5 Zg{gm:GM}(h:gm env=some (d,env'))(hi:i<env'.length)(k:Qs Pr (g (env'.set i (.own d)))):Qs Pr (aX (Gj i gm) g env):=by
 have:Gj i gm env=.next (env'.set i (.own d)):=by B4 Gj;rw[h];dsimp only;rw[if_pos hi]
 rw[fW this];~k
B5 Vy{gm:GM}(h:gm env=some (d,env')):vD gm env=.next env':=by B4 vD;rw[h]
B5 Ng{gm:GM}(h:gm env=some (d,env'))(k:Qs Pr (g env')):Qs Pr (aX (vD gm) g env):=by rw[fW (Vy h)];~k
B5 Gx{gm:GM}(h:gm env=some (d,env'))(k:Pr (.rete d env')):Qs Pr (Ae gm env):=by
 have:Ae gm env=.rete d env':=by B4 Ae;rw[h]
 rw[this];~k
B5 Nh(h:env[i]?=some (.own d))(k:Pr (.rete d (env.set i .no))):Qs Pr (wY i env):=by
 have:wY i env=.rete d (env.set i .no):=by B4 wY;rw[h]
 rw[this];~k
B5 aBC(h:f (rE env)=some d):gmN f env=some (d,env):=by B4 gmN;rw[h];rfl
B5 Zh{f1 f2 f3:FE}{e:DE}{a b c:Int}(h1:f1 e=some (.int a))(h2:f2 e=some (.int b))(h3:f3 e=some (.int c)):ug dLe xu f1 f2 f3 e=some (decide (a≤b)&&decide (b<c)):=by
 B4 ug
 rw[h1,h2,h3]
 dsimp only[C4]
 rw[Yy,C4]
 by_cases q:a≤b
 ·rw[decide_eq_true q]
  dsimp only
  rw[xH,C4]
  simp
 ·rw[decide_eq_false q]
  simp
B5 Vz{all:List D}(I:Nat→EN→Prop)(hI:∀k env,I k env→env[j]?=some (.inn v (.lst all))):∀(xs:List D)(n:Nat)(env:EN),I n env→(∀k x env,xs[k]?=some x→I (n+k) env→i<env.length∧∃fH,g (env.set i (.fro x))=.next fH∧I (n+k+1) fH)→∃fH,zL j i g v all xs env=.next fH∧I (n+xs.length) fH
 | [],n,env,h,_=>⟨env,by B4 zL;rw[if_pos (hI _ _ h)],h⟩
 | x::xs,n,env,h,st=>by
  B3⟨h1,fH,h2,h3⟩:=st 0 x env rfl h
  B3⟨e3,a1,a2⟩:=Vz I hI xs (n+1) fH h3 fun k y e hk hi=>by
   have:=st (k+1) y e (by simpa using hk) (by rw[show n+(k+1)=n+1+k by omega];~hi)
   rw[show n+(k+1)+1=n+1+k+1 by omega]at this
   ~this
  &⟨e3,?_,?_⟩
  ·B4 zL
   rw[if_pos ⟨h1,hI _ _ h⟩,h2]
   ~a1
  ·rw[E9,show n+(xs.length+1)=n+1+xs.length by omega]
   ~a2
def lv(ns:List Int)(o:SD):Nat→SD
 | 0=>o
 | k+1=>.fro (.int (ns.getD k 0))
B5 WY{ns:List Int}(env':EN)(h:env[j]?=some (.own (aH ns)))(h1:env'[j]?=some (.own (aH ns)))(I:V→Nat→EN→Prop)(h0:∀v,I v 0 (env.set j (.inn v (aH ns))))(hI:∀v k env,I v k env→env[j]?=some (.inn v (aH ns)))(st:∀v k x env,ns[k]?=some x→I v k env→i<env.length∧∃fH,gb (env.set i (.fro (.int x)))=.next fH∧I v (k+1) fH)(fin:∀v fH,I v ns.length fH→fH=env'.set j (.inn v (aH ns)))(k:Qs Pr (g env')):Qs Pr (aX (Dl j i gb) g env):=by
 have:Dl j i gb env=.next env':=aBa h h1 fun v=>by
  B3⟨e2,a1,a2⟩:=Vz (i:=i) (g:=gb) (I v) (hI v) (ns.map D.int) 0 _ (h0 v) fun k x e hx hi=>by
   rw[Q4]at hi ⊢
   rw[B8]at hx
   cases q:ns[k]? with
   | none=>rw[q]at hx;cases hx
   | some y=>
    rw[q]at hx
    cases hx
    ~st v k y e q hi
  rw[Q4,B7]at a2
  rw[a1,fin v e2 a2]
 rw[fW this]
 ~k
B5 Bv(neg:Bool)(a:D):zM neg a .non=some (.bl (if neg then !a.JX else a.JX)):=rfl
B5 aEL{f g:FE}{e:DE}(h:c e=some true)(h2:f e=some d):fIf c f g e=some d:=by B4 fIf;rw[h];~h2
B5 aEM{f g:FE}{e:DE}(h:c e=some false)(h2:g e=some d):fIf c f g e=some d:=by B4 fIf;rw[h];~h2
end
end L2


local macro_rules | `(tactic| walk_at "fs")=>`(tactic| ~⟨rfl,rfl,rfl,by decide +kernel,rfl,by decide +kernel,by decide +kernel⟩)
namespace Rs
open PySem L2
def top(i:Nat):Stmt:=PySem.Challenge.pw_ripestone_k30_order_and_free.main.body.getD i (.Pass ⟨0,0,0,0⟩)
def jQ:List Str:=["panes", "asked", "newest", "held", "unsettled"]
def dF:List Str:=["bench", "spots", "string", "loose", "lasts", "comings", "goings"]
abbrev Qt:Stmt:=top 33
noncomputable def NB:GS:=aX (qM (fB (f2 xu (aD 1) (fL jP (aA (aD 0) aK)))) (fO (cO (f2 dI (aD 0) (aD 1)))) fG)
 (fO (fC (.int 0)))
noncomputable def lV:List D→Option D:=pN 2 2 (NB)
abbrev Js:Stmt:=top 37
noncomputable def Wa:GS:=aX (dG 1 (dD 2 lV (aA (aD 0) (aA (fC (.int 0)) aK))))
 (aX (qM (fB (f2 Il (f2 eV (f2 sX (aD 1) (fC (.int 30))) (fC (.int 8))) (fC (.int 1)))) (fO (vQ (aA (f2 dJ (fC (.int 1)) (f2 eV (aD 1) (fC (.int 8)))) (aA (f2 dJ (fC (.int 1)) (f2 eV (f2 sX (aD 1) (fC (.int 240))) (fC (.int 8)))) aK)))) fG)
 (fO (vQ (aA (f2 dJ (fC (.int 1)) (f2 eV (aD 1) (fC (.int 5)))) (aA (f2 dJ (fC (.int 1)) (f2 eV (f2 sX (aD 1) (fC (.int 5))) (fC (.int 6)))) aK)))))
noncomputable def vY:List D→Option D:=pN 2 1 (Wa)
abbrev Jt:Stmt:=top 36
noncomputable def Wc:GS:=aX (dG 2 (f2 eV (f2 sW (f2 dJ (f2 eV (aD 0) (fC (.int 2147483629))) (fC (.int 1))) (f2 dJ (fC (.int 48271)) (f2 sW (f2 sW (fC (.int 2)) (aD 1)) (aD 1)))) (fC (.int 2147483629))))
 (fO (f2 eV (f2 sW (aD 2) (aD 2)) (fC (.int 2147483587))))
noncomputable def lD:List D→Option D:=pN 3 2 (Wc)
abbrev Eo:Stmt:=top 38
noncomputable def Qu:GS:=aX (dG 4 (dD 2 lD (aA (aD 0) (aA (f2 sW (fC (.int 5)) (aD 1)) aK))))
 (aX (dG 5 (cO (f2 dI (kE (aA (fC (.int 0)) (aA (fC (.int 1)) (aA (fC (.int 2)) (aA (f2 sW (dD 2 lD (aA (aD 0) (aA (f2 dJ (f2 sW (fC (.int 5)) (aD 1)) (fC (.int 1))) aK))) (f2 zH (fC (.int 10)) (fC (.int 40)))) (aA (zK (fC (.int 1))) aK)))))) (f2 eV (aD 4) (fC (.int 5))))))
 (aX (dG 6 (fC (.int 0)))
 (aX (qM (fB (f2 Il (f2 eV (f2 sX (aD 4) (fC (.int 5))) (fC (.int 2))) (fC (.int 1)))) (dG 6 (f2 dJ (fC (.int 1)) (f2 eV (f2 sX (aD 4) (fC (.int 10))) (fC (.int 9))))) fG)
 (aX (qM (fB (f2 Il (aD 6) (fC (.int 0)))) (dG 5 (fL aDz (aA (aD 5) aK))) fG)
 (fO (vQ (aA (cO (aD 2)) (aA (cO (aD 3)) (aA (cO (f2 dI (kE (aA (zK (fC (.int 1))) (aA (fC (.int 0)) (aA (fC (.int 5)) (aA (aD 4) aK))))) (f2 eV (f2 sX (aD 4) (fC (.int 90))) (fC (.int 4))))) (aA (cO (aD 5)) (aA (cO (aD 6)) aK)))))))))))
noncomputable def pP:List D→Option D:=pN 7 4 (Qu)
abbrev vZ:Stmt:=top 39
noncomputable def Wd:GS:=aX (wW [1,2] (dD 1 vY (aA (aD 0) aK)))
 (aX (dG 3 (fL rR (aA (fC (.int 1)) (aA (f2 sW (aD 1) (aD 2)) aK))))
 (aX (dG 4 (kE (aA (fC (.int 0)) aK)))
 (aX (Dk 5 (tD (aA (f2 eV (dD 2 lV (aA (aD 0) (aA (fC (.int 1)) aK))) (f2 sW (aD 1) (aD 2))) aK)) (Bj 4 3 (f2 eV (dD 2 lD (aA (dD 2 lV (aA (aD 0) (aA (fC (.int 1)) aK))) (aA (aD 5) aK))) (fL jP (aA (aD 3) aK)))))
 (aX (dG 6 (gF (tD (aA (aD 1) aK)) [2] jN (gF (tD (aA (aD 1) aK)) [] jN (vQ (aA (fC (.int 0)) (aA (fC (.int 0)) (aA (zK (fC (.int 1))) (aA (zK (fC (.int 1))) (aA (fC (.int 0)) aK)))))))))
 (aX (dG 7 (dD 2 lV (aA (aD 0) (aA (fC (.int 2)) aK))))
 (aX (Th [3] 8 (lM (aD 3)) (uM 6 (Tj cW (f2 eV (aD 8) (aD 1))) (f2 sX (aD 8) (aD 1)) (dD 4 pP (aA (aD 7) (aA (aD 8) (aA (f2 eV (aD 7) (f2 zH (fC (.int 10)) (fC (.int 9)))) (aA (f2 eV (f2 sW (aD 8) (aD 8)) (f2 sW (aD 1) (aD 2))) aK)))))))
 (aX (dG 9 (f2 eV (aD 7) (f2 zH (fC (.int 10)) (fC (.int 58)))))
 (aX (Dk 5 (tD (aA (fL jP (aA (aD 4) aK)) aK)) (aX (dG 8 (cO (f2 dI (aD 4) (aD 5))))
 (aX (uM 6 (Tj cW (f2 eV (aD 8) (aD 1))) (f2 sX (aD 8) (aD 1)) (dD 4 pP (aA (aD 7) (aA (f2 dJ (aD 5) (fC (.int 100))) (aA (aD 9) (aA (f2 dI (f2 dJ (aD 4) (kE (aA (fC (.int 0)) aK))) (f2 dJ (aD 5) (fC (.int 1)))) aK))))))
 (dG 9 (f2 dJ (f2 dJ (aD 9) (fC (.int 1))) (f2 sW (f2 eV (dD 2 lD (aA (aD 7) (aA (f2 dJ (aD 5) (fC (.int 7))) aK))) (fC (.int 3))) (f2 dI (kE (aA (fC (.int 1)) (aA (f2 zH (fC (.int 10)) (fC (.int 40))) aK))) (f2 eV (aD 7) (fC (.int 2))))))))))
 (aX (Dk 10 (tD (aA (aD 1) aK)) (Eb 6 (Tj cW (aD 10)) (vQ (aA (f2 eV (dD 2 lD (aA (aD 7) (aA (f2 dJ (aD 10) (fC (.int 70))) aK))) (fC (.int 10))) aK))))
 (Dj 6))))))))))
noncomputable def wA:List D→Option D:=pN 11 1 (Wd)
abbrev tR:Stmt:=inClass (top 13) 0
noncomputable def Qv(κ:Nat→Addr):GS:=aX (jL 0 (vV (κ 0) 0 cW "panes" (gF (lM (aD 1)) [] jN (fL dList (aA (aD 0) aK)))))
 (aX (jL 0 (vV (κ 0) 0 cW "asked" (kE aK)))
 (aX (jL 0 (vV (κ 0) 0 cW "newest" (fC (.dt [] []))))
 (aX (jL 0 (vV (κ 0) 0 cW "held" (fC (.dk [] []))))
 (jL 0 (vV (κ 0) 0 cW "unsettled" (gF (lM (aD 1)) [] jN (kE aK)))))))
noncomputable def tU(κ:Nat→Addr):List D→Option (D×D):=nM 2 2 (Qv κ)
abbrev Qw:Stmt:=top 21
noncomputable def NK:GS:=fO (cO (f2 dI (f2 dI (aD 0) (f2 dI (aD 1) (fC (.int 0)))) (f2 dI (aD 1) (fC (.int 1)))))
noncomputable def Al:List D→Option D:=pN 2 2 (NK)
abbrev Zi:Stmt:=top 20
noncomputable def ji:GS:=fO (vQ (aA (f2 eV (aD 1) (fL jP (aA (aD 0) aK))) (aA (f2 sX (aD 1) (fL jP (aA (aD 0) aK))) aK)))
noncomputable def xQ:List D→Option D:=pN 2 2 (ji)
abbrev Ju:Stmt:=top 22
noncomputable def We:GS:=fO (dD 2 Al (aA (aD 0) (aA (dD 2 xQ (aA (aD 0) (aA (aD 1) aK))) aK)))
noncomputable def mO:List D→Option D:=pN 2 2 (We)
abbrev Jv:Stmt:=top 26
noncomputable def Wf:GS:=aX (dG 1 (fC (.dk [] [])))
 (aX (dG 2 (cO (f2 dI (dD 2 mO (aA (aD 0) (aA (fC (.int (0))) aK))) (fC (.int (1))))))
 (aX (qT (Cu (fB (f2 Gd (aD 2) (fC (.int (0))))) (fB (f2 (Ge true) (aD 2) (aD 1)))) (aX (rJ 1 cW (aD 2) (fC (.bl true)))
 (dG 2 (cO (f2 dI (dD 2 mO (aA (aD 0) (aA (aD 2) aK))) (fC (.int (1))))))) 400)
 (fO (fL Oz (aA (aD 1) aK)))))
noncomputable def pQ:List D→Option D:=pN 3 1 (Wf)
abbrev Ep:Stmt:=top 25
noncomputable def Er:GS:=fO (f2 sW (fL jP (aA (aD 0) aK)) (f2 zG (fL jP (aA (f2 dI (aD 0) (fC (.int 0))) aK)) (fC (.int 1))))
noncomputable def oM:List D→Option D:=pN 1 1 (Er)
abbrev uP:Stmt:=top 27
noncomputable def Lh:GS:=aX (dG 1 (dD 1 pQ (aA (aD 0) aK)))
 (fO (gF (Pg (aA (f2 dJ (fC (.int (0))) (fC (.int 1))) (aA (dD 1 oM (aA (aD 0) aK)) aK))) [1] (fB (f2 (dIn true) (aD 0) (aD 1))) (cO (aD 0))))
noncomputable def qF:List D→Option D:=pN 2 1 (Lh)
abbrev uQ:Stmt:=inClass (top 30) 0
noncomputable def Am(κ:Nat→Addr):GS:=aX (jL 0 (vV (κ 1) 0 cW "bench" (Vi (κ 0) (tU κ) (aA (aD 1) aK))))
 (aX (jL 0 (vV (κ 1) 0 cW "spots" (gF (tD (aA (dD 1 oM (aA (aD 1) aK)) aK)) [1] jN (dD 2 xQ (aA (aD 1) (aA (aD 0) aK))))))
 (aX (jL 0 (vV (κ 1) 0 cW "string" (dD 1 pQ (aA (aD 1) aK))))
 (aX (jL 0 (vV (κ 1) 0 cW "loose" (dD 1 qF (aA (aD 1) aK))))
 (aX (jL 0 (vV (κ 1) 0 cW "lasts" (fC (.dk [] []))))
 (aX (jL 0 (vV (κ 1) 0 cW "comings" (fC (.dk [] []))))
 (jL 0 (vV (κ 1) 0 cW "goings" (fC (.dk [] [])))))))))
noncomputable def qG(κ:Nat→Addr):List D→Option (D×D):=nM 2 2 (Am κ)
abbrev Es:Stmt:=top 32
noncomputable def Qx:GS:=aX (dG 1 (f2 eV (f2 sW (f2 dJ (f2 eV (aD 0) (fC (.int 2147483629))) (fC (.int 1))) (fC (.int 48271))) (fC (.int 2147483629))))
 (fO (f2 dJ (f2 eV (f2 sW (aD 1) (aD 1)) (fC (.int 2147483587))) (f2 sW (f2 eV (aD 0) (f2 zH (fC (.int 10)) (fC (.int 50)))) (fC (.int 2147483587)))))
noncomputable def lW:List D→Option D:=pN 2 1 (Qx)
abbrev qW:Stmt:=inClass (top 13) 1
noncomputable def yV(κ:Nat→Addr):GS:=qM (Cv (ug dLe xu (fC (.int 0)) (aD 1) (fL jP (aA (pY (eQ (κ 0) "panes") (aD 0)) aK)))) aA4 fG
noncomputable def jC(κ:Nat→Addr):List D→Option D:=mV 2 2 (yV κ)
abbrev xR:Stmt:=top 6
noncomputable def Qy:GS:=aX (dG 3 (fC (.dk [] [])))
 (aX (Th [] 4 (lM (aD 2)) (qM (fB (fL aAE (aA (gF (lM (f2 dI (f2 dI (aD 0) (aD 4)) (fC (.int (3))))) [1,3] jN (Tg (f2 (Ge false) (aD 0) (aD 1)) (f2 (Ge false) (aD 0) (aD 2)))) aK))) (rJ 3 cW (aD 4) (fC (.bl true))) fG))
 (fO (fL Oz (aA (aD 3) aK))))
noncomputable def tV:List D→Option D:=pN 5 3 (Qy)
abbrev xT:Stmt:=inClass (top 13) 6
noncomputable def Gy(κ:Nat→Addr):GS:=aX (dG 2 (cO (f2 dI (pY (eQ (κ 0) "asked") (aD 0)) (aD 1))))
 (aX (jL 0 (uM 0 (Tj (Ac (κ 0) "panes" cW) (f2 dI (aD 2) (fC (.int (0))))) (f2 dI (aD 2) (fC (.int (1)))) (cO (f2 dI (aD 2) (fC (.int (2)))))))
 (jL 0 (rJ 0 (Ac (κ 0) "held" cW) (aD 1) (fC (.bl true)))))
noncomputable def rW(κ:Nat→Addr):List D→Option (D×D):=nM 3 2 (Gy κ)
abbrev uR:Stmt:=inClass (top 13) 7
noncomputable def Li(κ:Nat→Addr):GS:=aX (yU (bK (κ 0) "check_pane" 2 (jC κ) (aD 0) (aA (aD 1) aK) []))
 (aX (dG 3 (dD 3 tV (aA (pY (eQ (κ 0) "asked") (aD 0)) (aA (pY (eQ (κ 0) "held") (aD 0)) (aA (f2 dI (pY (eQ (κ 0) "unsettled") (aD 0)) (aD 1)) aK)))))
 (aX (qM (fB (f2 (zM true) (aD 2) (fC .non))) (dG 3 (xx true (aD 3) (UT) (qR (fL HX (aA (aD 2) (aA (fC (.int 0)) aK)))))) fG)
 (aX (Dl 3 4 (vD (pM (κ 0) "strike" 0 cW (rW κ) (fun eF eZ=>((Cz (aD 4) mX) eF eZ).map (·++[])))))
 (aX (jL 0 (uM 0 (Ac (κ 0) "unsettled" cW) (aD 1) (gF (lM (f2 dI (pY (eQ (κ 0) "unsettled") (aD 0)) (aD 1))) [0] (fB (f2 (Ge true) (aD 0) (pY (eQ (κ 0) "held") (aD 1)))) (cO (aD 0)))))
 (wY 3)))))
noncomputable def uT(κ:Nat→Addr):List D→Option (D×D):=nM 5 3 (Li κ)
abbrev qX:Stmt:=inClass (top 30) 9
noncomputable def Ma(κ:Nat→Addr):GS:=fO (cO (f2 dI (f2 dJ (kE (aA (fC (.int (0))) aK)) (pY (eQ (κ 1) "string") (aD 0))) (aD 1)))
noncomputable def jD(κ:Nat→Addr):List D→Option D:=mV 2 2 (Ma κ)
abbrev pR:Stmt:=inClass (top 13) 2
noncomputable def wB(κ:Nat→Addr):GS:=aX (yU (bK (κ 0) "check_pane" 2 (jC κ) (aD 0) (aA (aD 1) aK) []))
 (qM (Cv (ug dLe xu (fC (.int 0)) (aD 2) (fL jP (aA (f2 dI (pY (eQ (κ 0) "panes") (aD 0)) (aD 1)) aK)))) aA4 fG)
noncomputable def iJ(κ:Nat→Addr):List D→Option D:=mV 3 3 (wB κ)
abbrev Et:Stmt:=inClass (top 13) 5
noncomputable def Qz(κ:Nat→Addr):GS:=aX (yU (bK (κ 0) "check_place" 3 (iJ κ) (aD 0) (aA (aD 1) (aA (aD 2) aK)) []))
 (aX (qM (fB (Tn false (Jl (aA (aD 1) (aA (aD 2) aK))) (pY (eQ (κ 0) "newest") (aD 0)))) (fO (cO (f2 dI (f2 dI (pY (eQ (κ 0) "asked") (aD 0)) (Qe (pY (eQ (κ 0) "newest") (aD 0)) (Jl (aA (aD 1) (aA (aD 2) aK))))) (fC (.int (2)))))) fG)
 (fO (cO (f2 dI (f2 dI (pY (eQ (κ 0) "panes") (aD 0)) (aD 1)) (aD 2)))))
noncomputable def tW(κ:Nat→Addr):List D→Option D:=mV 3 3 (Qz κ)
abbrev qY:Stmt:=inClass (top 30) 1
noncomputable def yW(κ:Nat→Addr):GS:=aX (dG 2 (cO (f2 dI (pY (eQ (κ 1) "spots") (aD 0)) (aD 1))))
 (fO (bK (κ 0) "seen" 3 (tW κ) (pY (eQ (κ 1) "bench") (aD 0)) (aA (f2 dI (aD 2) (fC (.int 0))) (aA (f2 dI (aD 2) (fC (.int 1))) aK)) []))
noncomputable def aW(κ:Nat→Addr):List D→Option D:=mV 3 2 (yW κ)
abbrev pG:Stmt:=inClass (top 13) 3
noncomputable def uU(κ:Nat→Addr):GS:=qM (Cv (ug dLe xu (fC (.int 0)) (aD 1) (fL jP (aA (pY (eQ (κ 0) "asked") (aD 0)) aK)))) aA4 fG
noncomputable def gO(κ:Nat→Addr):List D→Option D:=mV 2 2 (uU κ)
abbrev Jw:Stmt:=inClass (top 13) 4
noncomputable def Wg(κ:Nat→Addr):GS:=aX (yU (bK (κ 0) "check_place" 3 (iJ κ) (aD 0) (aA (aD 1) (aA (aD 2) aK)) []))
 (aX (dG 5 (fIf (fB (f2 (zM false) (aD 4) (fC .non))) (kE aK) (fL dList (aA (aD 4) aK))))
 (aX (Dl 5 6 (yU (bK (κ 0) "check_change" 2 (gO κ) (aD 0) (aA (aD 6) aK) [])))
 (aX (qM (fB (Tn false (Jl (aA (aD 1) (aA (aD 2) aK))) (pY (eQ (κ 0) "newest") (aD 0)))) (Eb 5 cW (Qe (pY (eQ (κ 0) "newest") (aD 0)) (Jl (aA (aD 1) (aA (aD 2) aK))))) fG)
 (aX (dG 7 (fL jP (aA (pY (eQ (κ 0) "asked") (aD 0)) aK)))
 (aX (jL 0 (Eb 0 (Ac (κ 0) "asked" cW) (vQ (aA (cO (aD 1)) (aA (cO (aD 2)) (aA (cO (aD 3)) (aA (fL Pa (aA (pY gq (aD 5)) aK)) aK)))))))
 (aX (jL 0 (Vj 0 (Ac (κ 0) "newest" cW) (Jl (aA (aD 1) (aA (aD 2) aK))) (aD 7)))
 (aX (jL 0 (Eb 0 (Tj (Ac (κ 0) "unsettled" cW) (aD 1)) (cO (aD 7))))
 (wY 7))))))))
noncomputable def Bw(κ:Nat→Addr):List D→Option (D×D):=nM 8 5 (Wg κ)
abbrev Zj:Stmt:=top 29
noncomputable def aGs:GS:=fO (gF (lM (aD 0)) [] (fB (f2 (zM true) (aD 0) (fC .non))) (cO (aD 0)))
noncomputable def Zk:List D→Option D:=pN 1 1 (aGs)
abbrev xU:Stmt:=inClass (top 30) 10
noncomputable def Gz(κ:Nat→Addr):GS:=aX (dG 4 (cO (f2 dI (pY (eQ (κ 1) "spots") (aD 0)) (aD 1))))
 (aX (Gj 5 (pM (κ 0) "put" 0 (Ac (κ 1) "bench" cW) (Bw κ) (fun eF eZ=>((Cz (f2 dI (aD 4) (fC (.int 0))) (Cz (f2 dI (aD 4) (fC (.int 1))) (Cz (aD 2) (Cz (dD 1 Zk (aA (aD 3) aK)) mX)))) eF eZ).map (·++[]))))
 (aX (jL 0 (rJ 0 (Ac (κ 1) "lasts" cW) (aD 1) (aD 5)))
 (wY 5)))
noncomputable def mQ(κ:Nat→Addr):List D→Option (D×D):=nM 6 4 (Gz κ)
abbrev qZ:Stmt:=inClass (top 30) 5
noncomputable def Mf(κ:Nat→Addr):GS:=fO (f2 Qh (pY (eQ (κ 1) "comings") (aD 0)) (aD 1))
noncomputable def oF(κ:Nat→Addr):List D→Option D:=mV 2 2 (Mf κ)
abbrev pU:Stmt:=inClass (top 30) 11
noncomputable def wC(κ:Nat→Addr):GS:=Ae (pM (κ 1) "write" 0 cW (mQ κ) (fun eF eZ=>((Cz (aD 1) (Cz (aD 2) (gr (f2 dJ (kE (aA (bK (κ 1) "coming_in" 2 (oF κ) (aD 0) (aA (aD 1) aK) []) aK)) (aD 3)) mX))) eF eZ).map (·++[])))
noncomputable def fX(κ:Nat→Addr):List D→Option (D×D):=nM 4 4 (wC κ)
abbrev An:Stmt:=inClass (top 30) 12
noncomputable def Lj(κ:Nat→Addr):GS:=aX (dG 4 (bK (κ 1) "record_of" 2 (aW κ) (aD 0) (aA (aD 1) aK) []))
 (Ae (pM (κ 1) "write_tied" 0 cW (fX κ) (fun eF eZ=>((Cz (aD 1) (Cz (vQ (aA (cO (f2 dI (aD 4) (fC (.int (0))))) (aA (cO (aD 2)) (aA (cO (f2 dI (aD 4) (fC (.int (2))))) (aA (cO (f2 dI (aD 4) (fC (.int (3))))) (aA (cO (f2 dI (aD 4) (fC (.int (4))))) aK)))))) (Cz (aD 3) mX))) eF eZ).map (·++[]))))
noncomputable def lX(κ:Nat→Addr):List D→Option (D×D):=nM 5 4 (Lj κ)
abbrev mY:Stmt:=inClass (top 30) 8
noncomputable def rK(κ:Nat→Addr):GS:=aX (dG 2 (fIf (fB (f2 (zM false) (aD 1) (fC .non))) (kE aK) (fL dList (aA (aD 1) aK))))
 (aX (Dl 2 3 (yU (bK (κ 0) "check_change" 2 (gO κ) (pY (eQ (κ 1) "bench") (aD 0)) (aA (aD 3) aK) [])))
 (Dj 2))
noncomputable def cA(κ:Nat→Addr):List D→Option D:=mV 4 2 (rK κ)
abbrev pH:Stmt:=inClass (top 30) 7
noncomputable def Hf(κ:Nat→Addr):GS:=fO (f2 Qh (pY (eQ (κ 1) "lasts") (aD 0)) (aD 1))
noncomputable def lK(κ:Nat→Addr):List D→Option D:=mV 2 2 (Hf κ)
abbrev xV:Stmt:=inClass (top 30) 15
noncomputable def Hg(κ:Nat→Addr):GS:=aX (dG 3 (bK (κ 1) "box_ahead" 2 (jD κ) (aD 0) (aA (f2 Qg (pY (eQ (κ 1) "string") (aD 0)) (aD 1)) aK) []))
 (aX (dG 4 (f2 dJ (kE (aA (bK (κ 1) "last_change" 2 (lK κ) (aD 0) (aA (aD 1) aK) []) aK)) (bK (κ 1) "further_needs" 2 (cA κ) (aD 0) (aA (aD 2) aK) [])))
 (aX (Gj 5 (pM (κ 1) "link" 0 cW (lX κ) (fun eF eZ=>((Cz (aD 3) (gr (cO (f2 dI (bK (κ 1) "record_of" 2 (aW κ) (aD 0) (aA (aD 1) aK) []) (fC (.int (1))))) (Cz (aD 4) mX))) eF eZ).map (·++[]))))
 (aX (jL 0 (KJ 0 (Ac (κ 1) "string" cW) (aD 1)))
 (aX (jL 0 (Eb 0 (Ac (κ 1) "loose" cW) (cO (aD 1))))
 (aX (jL 0 (rJ 0 (Ac (κ 1) "goings" cW) (aD 1) (aD 5)))
 (wY 5))))))
noncomputable def rY(κ:Nat→Addr):List D→Option (D×D):=nM 6 3 (Hg κ)
abbrev xW:Stmt:=inClass (top 30) 4
noncomputable def Hh(κ:Nat→Addr):GS:=aX (Th [] 2 (lM (pY (eQ (κ 1) "string") (aD 0))) (qM (fB (f2 Il (f2 dI (bK (κ 1) "record_of" 2 (aW κ) (aD 0) (aA (aD 2) aK) []) (fC (.int (0)))) (aD 1))) (Dj 2) fG))
 (fO (fC .non))
noncomputable def cB(κ:Nat→Addr):List D→Option D:=mV 3 2 (Hh κ)
abbrev tX:Stmt:=inClass (top 30) 14
noncomputable def Ao(κ:Nat→Addr):GS:=aX (dG 6 (bK (κ 1) "record_of" 2 (aW κ) (aD 0) (aA (aD 1) aK) []))
 (Ae (pM (κ 1) "write_tied" 0 cW (fX κ) (fun eF eZ=>((Cz (aD 1) (Cz (vQ (aA (cO (f2 dI (aD 6) (fC (.int (0))))) (aA (cO (f2 dI (aD 6) (fC (.int (1))))) (aA (cO (aD 2)) (aA (cO (aD 3)) (aA (cO (aD 4)) aK)))))) (gr (bK (κ 1) "further_needs" 2 (cA κ) (aD 0) (aA (aD 5) aK) []) mX))) eF eZ).map (·++[]))))
noncomputable def pI(κ:Nat→Addr):List D→Option (D×D):=nM 7 6 (Ao κ)
abbrev uV:Stmt:=inClass (top 13) 8
noncomputable def NP(κ:Nat→Addr):GS:=fO (gF (lM (pY (eQ (κ 0) "panes") (aD 0))) [] jN (fL dList (aA (aD 0) aK)))
noncomputable def qH(κ:Nat→Addr):List D→Option D:=mV 1 1 (NP κ)
abbrev Aq:Stmt:=inClass (top 30) 3
noncomputable def NQ(κ:Nat→Addr):GS:=fO (fL uL (aA (pY (eQ (κ 1) "loose") (aD 0)) aK))
noncomputable def eG(κ:Nat→Addr):List D→Option D:=mV 1 1 (NQ κ)
abbrev Zm:Stmt:=top 41
noncomputable def jj:GS:=aX (qM (fB (f2 Il (aD 0) (kE aK))) (fO (f2 eV (aD 2) (f2 zH (fC (.int 10)) (fC (.int 58))))) fG)
 (aX (qM (fB (f2 Il (aD 1) (fC (.int 0)))) (fO (f2 zG (f2 zG (f2 dI (aD 0) (fC (.int 0))) (fC (.int 1))) (f2 eV (aD 2) (f2 zH (fC (.int 10)) (fC (.int 50)))))) fG)
 (aX (qM (Cu (fB (f2 xu (aD 1) (fL jP (aA (aD 0) aK)))) (fB (f2 dGt (f2 zG (f2 dI (aD 0) (aD 1)) (f2 dI (aD 0) (f2 zG (aD 1) (fC (.int 1))))) (fC (.int 1))))) (fO (f2 dJ (f2 dJ (f2 dI (aD 0) (f2 zG (aD 1) (fC (.int 1)))) (fC (.int 1))) (f2 eV (aD 2) (f2 zG (f2 zG (f2 dI (aD 0) (aD 1)) (f2 dI (aD 0) (f2 zG (aD 1) (fC (.int 1))))) (fC (.int 1)))))) fG)
 (fO (f2 dJ (f2 dJ (f2 dI (aD 0) (zK (fC (.int 1)))) (fC (.int 1))) (f2 eV (aD 2) (f2 zH (fC (.int 10)) (fC (.int 50))))))))
noncomputable def Hi:List D→Option D:=pN 3 3 (jj)
abbrev rA:Stmt:=inClass (top 30) 6
noncomputable def Mg(κ:Nat→Addr):GS:=fO (f2 Qh (pY (eQ (κ 1) "goings") (aD 0)) (aD 1))
noncomputable def oG(κ:Nat→Addr):List D→Option D:=mV 2 2 (Mg κ)
abbrev sE:Stmt:=inClass (top 30) 13
noncomputable def Hj(κ:Nat→Addr):GS:=aX (qM (fB (f2 Il (fL jP (aA (pY (eQ (κ 1) "loose") (aD 0)) aK)) (fC (.int 0)))) aA4 fG)
 (aX (dG 6 (bK (κ 1) "further_needs" 2 (cA κ) (aD 0) (aA (aD 5) aK) []))
 (aX (dG 7 (fL jP (aA (gF (lM (pY (eQ (κ 1) "string") (aD 0))) [0,1] (fB (f2 xu (f2 dI (bK (κ 1) "record_of" 2 (aW κ) (aD 1) (aA (aD 0) aK) []) (fC (.int (0)))) (aD 2))) (cO (aD 0))) aK)))
 (aX (dG 8 (bK (κ 1) "box_ahead" 2 (jD κ) (aD 0) (aA (aD 7) aK) []))
 (aX (dG 9 (fL bh (aA (pY (eQ (κ 1) "loose") (aD 0)) aK)))
 (aX (Gj 10 (pM (κ 1) "write" 0 cW (mQ κ) (fun eF eZ=>((Cz (aD 9) (gr (vQ (aA (cO (aD 1)) (aA (cO (f2 dI (bK (κ 1) "record_of" 2 (aW κ) (aD 0) (aA (aD 8) aK) []) (fC (.int (1))))) (aA (cO (aD 2)) (aA (cO (aD 3)) (aA (cO (aD 4)) aK)))))) (gr (kE (aA (bK (κ 1) "going_out" 2 (oG κ) (aD 0) (aA (aD 9) aK) []) aK)) mX))) eF eZ).map (·++[]))))
 (aX (Gj 11 (pM (κ 1) "link" 0 cW (lX κ) (fun eF eZ=>((Cz (aD 8) (Cz (aD 9) (Cz (f2 dJ (kE (aA (aD 10) aK)) (aD 6)) mX))) eF eZ).map (·++[]))))
 (aX (jL 0 (uq 0 (Ac (κ 1) "string" cW) (aD 7) (aD 9)))
 (aX (jL 0 (KJ 0 (Ac (κ 1) "loose" cW) (aD 9)))
 (aX (jL 0 (rJ 0 (Ac (κ 1) "comings" cW) (aD 9) (aD 11)))
 (Ae (gmN (vQ (aA (cO (aD 9)) (aA (cO (aD 11)) aK))))))))))))))
noncomputable def sG(κ:Nat→Addr):List D→Option (D×D):=nM 12 6 (Hj κ)
abbrev Ra:Stmt:=top 42
noncomputable def lY(κ:Nat→Addr):GS:=aX (dG 3 (f2 sX (aD 2) (fC (.int 4))))
 (aX (qM (fB (f2 Il (f2 eV (aD 2) (fC (.int 4))) (fC (.int 0)))) (vD (pM (κ 0) "carve" 0 (Ac (κ 1) "bench" cW) (uT κ) (fun eF eZ=>((gr (f2 eV (aD 3) (fL jP (aA (bK (κ 0) "stone" 1 (qH κ) (pY (eQ (κ 1) "bench") (aD 0)) aK []) aK))) (Cz (f2 eV (f2 sX (aD 3) (fC (.int 8))) (fC (.int 5))) mX)) eF eZ).map (·++[])))) (qM (Cu (fB (f2 Il (f2 eV (aD 2) (fC (.int 4))) (fC (.int 1)))) (fB (f2 Gd (aD 1) (kE aK)))) (aX (dG 4 (cO (f2 dI (aD 1) (f2 eV (aD 3) (fL jP (aA (aD 1) aK))))))
 (aX (vD (pM (κ 1) "leave" 0 cW (rY κ) (fun eF eZ=>((gr (bK (κ 1) "box_of" 2 (cB κ) (aD 0) (aA (aD 4) aK) []) mX) eF eZ).map (·++[.non]))))
 (jL 1 (KJ 1 cW (aD 4))))) (qM (Cu (fB (f2 Il (f2 eV (aD 2) (fC (.int 4))) (fC (.int 2)))) (fB (f2 Gd (aD 1) (kE aK)))) (vD (pM (κ 1) "rewrite" 0 cW (pI κ) (fun eF eZ=>((gr (bK (κ 1) "box_of" 2 (cB κ) (aD 0) (aA (f2 dI (aD 1) (f2 eV (aD 3) (fL jP (aA (aD 1) aK)))) aK) []) (Cz (zK (fC (.int 1))) (Cz (f2 eV (aD 3) (fC (.int 9))) (Cz (fC (.int 0)) mX)))) eF eZ).map (·++[.non])))) (qM (fB (f2 Gd (bK (κ 1) "free" 1 (eG κ) (aD 0) aK []) (kE aK))) (aX (dG 4 (dD 3 Hi (aA (aD 1) (aA (f2 eV (aD 3) (f2 dJ (fL jP (aA (aD 1) aK)) (fC (.int 1)))) (aA (f2 sX (aD 3) (fC (.int 5))) aK)))))
 (aX (vD (pM (κ 1) "enter" 0 cW (sG κ) (fun eF eZ=>((Cz (aD 4) (Cz (zK (fC (.int 1))) (Cz (f2 eV (aD 3) (f2 zH (fC (.int 10)) (fC (.int 50)))) (Cz (fC (.int 0)) mX)))) eF eZ).map (·++[.non]))))
 (jL 1 (Eb 1 cW (cO (aD 4)))))) fG))))
 (Ae (gmN (fL uL (aA (aD 1) aK)))))
noncomputable def wD(κ:Nat→Addr):List D→Option (D×List D):=Qf 5 [true,true,false] (lY κ)
abbrev xX:Stmt:=inClass (top 30) 2
noncomputable def Zo(κ:Nat→Addr):GS:=fO (fL dList (aA (pY (eQ (κ 1) "string") (aD 0)) aK))
noncomputable def cC(κ:Nat→Addr):List D→Option D:=mV 1 1 (Zo κ)
abbrev Jx:Stmt:=top 34
noncomputable def vg:GS:=fO (Uz (VF "int" (aD 0)) (HQ (VF "bool" (aD 0))))
noncomputable def oU:List D→Option D:=pN 1 1 (vg)
abbrev uW:Stmt:=top 35
noncomputable def NT:GS:=fO (Uz (VF "list" (aD 0)) (fL aAE (aA (gF (lM (aD 0)) [] jN (dD 1 oU (aA (aD 0) aK))) aK)))
noncomputable def lZ:List D→Option D:=pN 1 1 (NT)
abbrev Hl:Stmt:=top 40
noncomputable def NZ(κ:Nat→Addr):GS:=aX (dG 2 (bK (κ 1) "order" 1 (cC κ) (aD 0) aK []))
 (fO (gF (Pg (aA (fC (.int 1)) (aA (aD 1) aK))) [2] (fB (f2 (dIn true) (aD 0) (aD 1))) (cO (aD 0))))
noncomputable def wF(κ:Nat→Addr):List D→Option D:=pN 3 2 (NZ κ)
abbrev xY:Stmt:=top 43
noncomputable def Rb(κ:Nat→Addr):GS:=aX (dG 4 (bK (κ 1) "order" 1 (cC κ) (aD 0) aK []))
 (aX (dG 5 (bK (κ 1) "free" 1 (eG κ) (aD 0) aK []))
 (aX (Bp 6 (kE (aA (bK (κ 1) "order" 1 (cC κ) (aD 0) aK []) (aA (bK (κ 1) "free" 1 (eG κ) (aD 0) aK []) aK))))
 (aX (qM (UG (fB (f2 Gd (bK (κ 1) "order" 1 (cC κ) (aD 0) aK []) (aD 4))) (fB (f2 Gd (bK (κ 1) "free" 1 (eG κ) (aD 0) aK []) (aD 5)))) (fO (fC (.bl false))) fG)
 (aX (qM (UG (Cv (fB (dD 1 lZ (aA (aD 4) aK)))) (UG (Cv (fB (dD 1 lZ (aA (aD 5) aK)))) (fB (f2 Gd (pY Vp (aD 4)) (fL jP (aA (aD 4) aK)))))) (fO (fC (.bl false))) fG)
 (aX (qM (UG (fB (f2 Gd (aD 5) (dD 2 (wF κ) (aA (aD 0) (aA (aD 2) aK))))) (fB (f2 Gd (fL uL (aA (f2 dJ (aD 4) (aD 5)) aK)) (fL rR (aA (fC (.int 1)) (aA (aD 2) aK)))))) (fO (fC (.bl false))) fG)
 (aX (qM (fB (f2 Gd (gF (lM (aD 4)) [0] jN (cO (f2 dI (bK (κ 1) "record_of" 2 (aW κ) (aD 1) (aA (aD 0) aK) []) (fC (.int 0))))) (aD 1))) (fO (fC (.bl false))) fG)
 (aX (qM (fB (f2 Gd (aD 5) (kE aK))) (aX (dG 7 (cO (f2 dI (bK (κ 1) "record_of" 2 (aW κ) (aD 0) (aA (f2 dI (aD 5) (f2 eV (aD 3) (fL jP (aA (aD 5) aK)))) aK) []) (fC (.int 0)))))
 (qM (Cu (fB (f2 (dIn true) (aD 7) (aD 1))) (fB (f2 (zM true) (bK (κ 1) "box_of" 2 (cB κ) (aD 0) (aA (aD 7) aK) []) (fC .non)))) (fO (fC (.bl false))) fG)) fG)
 (aX (qM (fB (f2 Il (aD 1) (kE aK))) (fO (f2 (zM false) (bK (κ 1) "box_of" 2 (cB κ) (aD 0) (aA (f2 eV (aD 3) (f2 zH (fC (.int 10)) (fC (.int 58)))) aK) []) (fC .non))) fG)
 (aX (dG 8 (f2 eV (aD 3) (fL jP (aA (aD 1) aK))))
 (aX (dG 9 (bK (κ 1) "box_of" 2 (cB κ) (aD 0) (aA (f2 dI (aD 1) (aD 8)) aK) []))
 (aX (qM (UG (Cv (fB (dD 1 oU (aA (aD 9) aK)))) (fB (f2 Gd (aD 9) (f2 dI (aD 4) (aD 8))))) (fO (fC (.bl false))) fG)
 (fO (Tg (f2 (dIn false) (f2 dJ (f2 dI (aD 1) (aD 8)) (fC (.int 1))) (aD 1)) (f2 (zM false) (bK (κ 1) "box_of" 2 (cB κ) (aD 0) (aA (f2 dJ (f2 dI (aD 1) (aD 8)) (fC (.int 1))) aK) []) (fC .non)))))))))))))))
noncomputable def oO(κ:Nat→Addr):List D→Option D:=pN 10 4 (Rb κ)
abbrev vh:Stmt:=top 44
noncomputable def aIh(κ:Nat→Addr):GS:=aX (dG 1 (dD 1 wA (aA (aD 0) aK)))
 (aX (dG 2 (f2 sW (fL jP (aA (aD 1) aK)) (f2 zG (fL jP (aA (f2 dI (aD 1) (fC (.int 0))) aK)) (fC (.int 1)))))
 (aX (dG 3 (kE (aA (Vi (κ 1) (qG κ) (aA (aD 1) aK)) (aA (Vi (κ 1) (qG κ) (aA (aD 1) aK)) aK))))
 (aX (dG 4 (gF (lM (bK (κ 1) "order" 1 (cC κ) (f2 dI (aD 3) (fC (.int 0))) aK [])) [3] jN (cO (f2 dI (bK (κ 1) "record_of" 2 (aW κ) (f2 dI (aD 1) (fC (.int 0))) (aA (aD 0) aK) []) (fC (.int 0))))))
 (aX (dG 5 (kE (aA (fL dList (aA (aD 4) aK)) (aA (fL dList (aA (aD 4) aK)) aK))))
 (aX (uM 1 (Tj cW (fC (.int 0))) (fC (.int 0)) (vQ (aA (fC (.int 0)) (aA (fC (.int 0)) (aA (zK (fC (.int 1))) (aA (zK (fC (.int 1))) (aA (fC (.int 0)) aK)))))))
 (aX (dG 6 (kE aK))
 (aX (dG 7 (kE aK))
 (aX (Th [] 8 (lM (gF (lM (xx false (aD 0) (qR (fC (.int 3))) (qR (fC (.int 63))))) [] jN (dD 1 lW (aA (aD 0) aK)))) (aX (dG 9 (f2 eV (aD 8) (fC (.int 2))))
 (aX (Eh 5 cW (aD 9) (Vo (.ch 3 (Tj cW (aD 9))::.ch 5 (Tj cW (aD 9))::.rd (f2 sX (aD 8) (fC (.int 2)))::[]) (wD κ)))
 (aX (qM (Cv (fB (dD 4 (oO κ) (aA (f2 dI (aD 3) (aD 9)) (aA (f2 dI (aD 5) (aD 9)) (aA (aD 2) (aA (f2 sX (aD 8) (fC (.int 3))) aK))))))) (fO (fC (.bl false))) fG)
 (aX (qM (Cv (fB (dD 4 (oO κ) (aA (f2 dI (aD 3) (f2 zG (fC (.int 1)) (aD 9))) (aA (f2 dI (aD 5) (f2 zG (fC (.int 1)) (aD 9))) (aA (aD 2) (aA (f2 sX (aD 8) (fC (.int 5))) aK))))))) (fO (fC (.bl false))) fG)
 (qM (fB (f2 xu (fL jP (aA (aD 6) aK)) (fC (.int 6)))) (aX (dG 10 (kE (aA (bK (κ 1) "order" 1 (cC κ) (f2 dI (aD 3) (aD 9)) aK []) (aA (bK (κ 1) "free" 1 (eG κ) (f2 dI (aD 3) (aD 9)) aK []) aK))))
 (aX (Jo [6,10] 6 (KC (fun _ eZ=>(aD 6) eZ) (fun _ eZ=>(aD 10) eZ)))
 (Jo [7] 7 (KC (fun _ eZ=>(aD 7) eZ) (fun _ eZ=>(gF (lM (aD 10)) [] jN (fL dList (aA (aD 0) aK))) eZ))))) fG))))))
 (fO (f2 Il (aD 6) (aD 7)))))))))))
noncomputable def aGt(κ:Nat→Addr):List D→Option D:=pN 11 1 (aIh κ)
section
variable{P:Program}{w:World}{K:aF}{mg:Str→Option Value}{base:Heap}
B5 vm:bB ["script", "k"] ["script", "k"] (aM Qt):=by walk_at "fs"
B5 XC(R:Raw K mg "_law_cell" Qt) (gU:mg "len" = none):qL P w K mg base "_law_cell" 1 2 (iD K 2 lV):=by
 &R.wX vm (fun _ _ _ _ _ _ us hl=>match us,hl with | [_,_],_=>rfl) (fun _ _ _ _ _ _ _ hr=>?_)
 have dC:=hr.units
 have hu:=cY hr
 ~⟨_,aO (iT (cT Np sV (aJ (pv 1)) (XN.r (iI iB (iC rfl) rfl gU F0 (aG (aJ (pv 0)) aQ))) (cR _)) (aV (bV (XR.n (bN (aJ (pv 0)) (aJ (pv 1)) (fun _ _=>rfl))))) fM)
  (aV (bV aN))⟩
B5 Rc:bB ["script", "head"] ["script"] (aM Js):=by walk_at "fs"
B5 OD(R:Raw K mg "_law_sizes" Js) (qI:qL P w K mg base "_law_cell" 1 2 (iD K 2 lV)):qL P w K mg base "_law_sizes" 2 1 (iD K 1 vY):=by
 &R.wX Rc (fun _ _ _ _ _ _ us hl=>match us,hl with | [_],_=>rfl) (fun _ _ _ _ _ _ _ hr=>?_)
 have dC:=hr.units
 have hu:=cY hr
 ~⟨_,aO (bM (i:=1) (cZ qI (hr.mono A8) rfl (aG (aJ (pv 0)) (aG (XN.r (aN)) aQ))) (fun h=>bI Rc.nd rfl (by first | ~D6 rfl | ~D5 rfl) h))
  (aO (iT (cT (or_eq dC rfl) yP (XN.r (bT (XN.r (oJ (aJ (pv 1)) (XN.r (aN)))) (XN.r (aN)))) (XN.r (aN)) (cR _)) (aV (bV (qQ (bF (cL (XN.r (aN)) (XN.r (bT (aJ (pv 1)) (XN.r (aN))))) (bF (cL (XN.r (aN)) (XN.r (bT (XN.r (oJ (aJ (pv 1)) (XN.r (aN)))) (XN.r (aN))))) gZ))))) fM)
  (aV (bV (qQ (bF (cL (XN.r (aN)) (XN.r (bT (aJ (pv 1)) (XN.r (aN))))) (bF (cL (XN.r (aN)) (XN.r (bT (XN.r (oJ (aJ (pv 1)) (XN.r (aN)))) (XN.r (aN))))) gZ))))))⟩
B5 Rg:bB ["cell", "k", "number"] ["cell", "k"] (aM Jt):=by walk_at "fs"
B5 OJ(R:Raw K mg "_law_mixed" Jt):qL P w K mg base "_law_mixed" 1 2 (iD K 2 lD):=by
 &R.wX Rg (fun _ _ _ _ _ _ us hl=>match us,hl with | [_,_],_=>rfl) (fun _ _ _ _ _ _ _ hr=>?_)
 have dC:=hr.units
 have hu:=cY hr
 ~⟨_,aO (bM (i:=2) (bT (XN.r (lQ (XN.r (cL (XN.r (bT (aJ (pv 0)) (XN.r (aN)))) (XN.r (aN)))) (XN.r (cL (XN.r (aN)) (XN.r (lQ (XN.r (lQ (XN.r (aN)) (aJ (pv 1)))) (aJ (pv 1)))))))) (XN.r (aN))) (fun h=>bI Rg.nd rfl (by first | ~D6 rfl | ~D5 rfl) h))
  (aV (bV (bT (XN.r (lQ (aJ (pv 2)) (aJ (pv 2)))) (XN.r (aN)))))⟩
B5 oV:bB ["cell", "k", "key", "following", "pick", "now", "age"] ["cell", "k", "key", "following"] (aM Eo):=by walk_at "fs"
B5 Zq(R:Raw K mg "_law_record" Eo) (mR:qL P w K mg base "_law_mixed" 1 2 (iD K 2 lD)) (aGu:mg "abs" = none):qL P w K mg base "_law_record" 2 4 (iD K 4 pP):=by
 &R.wX oV (fun _ _ _ _ _ _ us hl=>match us,hl with | [_,_,_,_],_=>rfl) (fun _ _ _ _ _ _ _ hr=>?_)
 have dC:=hr.units
 have hu:=cY hr
 ~⟨_,aO (bM (i:=4) (cZ mR (hr.mono A8) rfl (aG (aJ (pv 0)) (aG (XN.r (lQ (XN.r (aN)) (aJ (pv 1)))) aQ))) (fun h=>bI oV.nd rfl (by first | ~D6 rfl | ~D5 rfl) h))
  (aO (bM (i:=5) (XR.n (bN (oX (aG (XN.r (aN)) (aG (XN.r (aN)) (aG (XN.r (aN)) (aG (XN.r (lQ (XN.r (cZ mR (hr.mono A8) rfl (aG (aJ (pv 0)) (aG (XN.r (cL (XN.r (lQ (XN.r (aN)) (aJ (pv 1)))) (XN.r (aN)))) aQ)))) (XN.r (vA (XN.r (aN)) (XN.r (aN)))))) (aG (XN.r (rP (XN.r (aN)))) aQ)))))) (XN.r (bT (aJ (pv 4)) (XN.r (aN)))) (fun _ _=>rfl))) (fun h=>bI oV.nd rfl (by first | ~D6 rfl | ~D5 rfl) h))
  (aO (bM (i:=6) aN (fun h=>bI oV.nd rfl (by first | ~D6 rfl | ~D5 rfl) h))
  (aO (iT (cT (or_eq dC rfl) yP (XN.r (bT (XN.r (oJ (aJ (pv 4)) (XN.r (aN)))) (XN.r (aN)))) (XN.r (aN)) (cR _)) (aV (bM (i:=6) (cL (XN.r (aN)) (XN.r (bT (XN.r (oJ (aJ (pv 4)) (XN.r (aN)))) (XN.r (aN))))) (fun h=>bI oV.nd rfl (by first | ~D6 rfl | ~D5 rfl) h))) fM)
  (aO (iT (cT (or_eq dC rfl) yP (aJ (pv 6)) (XN.r (aN)) (cR _)) (aV (bM (i:=5) (iI aGe aGf rfl aGu PyProof.Rows.boot_abs (aG (aJ (pv 5)) aQ)) (fun h=>bI oV.nd rfl (by first | ~D6 rfl | ~D5 rfl) h))) fM)
  (aV (bV (qQ (bF (XR.n (aJ (pv 2))) (bF (XR.n (aJ (pv 3))) (bF (XR.n (bN (oX (aG (XN.r (rP (XN.r (aN)))) (aG (XN.r (aN)) (aG (XN.r (aN)) (aG (aJ (pv 4)) aQ))))) (XN.r (bT (XN.r (oJ (aJ (pv 4)) (XN.r (aN)))) (XN.r (aN)))) (fun _ _=>rfl))) (bF (XR.n (aJ (pv 5))) (bF (XR.n (aJ (pv 6))) gZ))))))))))))⟩
B5 fJ:bB ["script", "panes", "rows", "spare", "boxes", "k", "stone", "cell", "box", "key", "pane"] ["script"] (aM vZ):=by walk_at "fs"
B5 PB(R:Raw K mg "_law_built" vZ) (Jy:qL P w K mg base "_law_sizes" 2 1 (iD K 1 vY)) (qI:qL P w K mg base "_law_cell" 1 2 (iD K 2 lV)) (mR:qL P w K mg base "_law_mixed" 1 2 (iD K 2 lD)) (xZ:qL P w K mg base "_law_record" 2 4 (iD K 4 pP)) (gH:mg "list" = none) (jU:mg "range" = none) (gU:mg "len" = none):qL P w K mg base "_law_built" 3 1 (iD K 1 wA):=by
 &R.wX fJ (fun _ _ _ _ _ _ us hl=>match us,hl with | [_],_=>rfl) (fun _ _ _ _ _ _ _ hr=>?_)
 have dC:=hr.units
 have hu:=cY hr
 ~⟨_,aO (qu (is:=[1,2]) (n:=2) (cZ Jy (hr.mono A8) rfl (aG (aJ (pv 0)) aQ)) (fun h=>Dt h (aFd rfl (FJ (lJ (i:=1) fJ.nd rfl (by first | ~D6 rfl | ~D5 rfl)) (FJ (lJ (i:=2) fJ.nd rfl (by first | ~D6 rfl | ~D5 rfl)) (aCx))))))
  (aO (bM (i:=3) (Vm (aG (XN.r (aN)) (aG (XN.r (lQ (aJ (pv 1)) (aJ (pv 2)))) aQ)) rfl gH F7 rfl jU X6) (fun h=>bI fJ.nd rfl (by first | ~D6 rfl | ~D5 rfl) h))
  (aO (bM (i:=4) (qP (bF aN gZ)) (fun h=>bI fJ.nd rfl (by first | ~D6 rfl | ~D5 rfl) h))
  (aO (Ym PassesOwn.never rfl (Ji rfl jU (aG (XN.r (bT (XN.r (cZ qI (hr.mono A8) rfl (aG (aJ (pv 0)) (aG (XN.r (aN)) aQ)))) (XN.r (lQ (aJ (pv 1)) (aJ (pv 2)))))) aQ)) (lJ (i:=5) fJ.nd rfl (by first | ~D6 rfl | ~D5 rfl)) (aV (qw (i:=4) (j:=3) (XN.r (bT (XN.r (cZ mR (hr.mono A8) rfl (aG (XN.r (cZ qI (hr.mono A8) rfl (aG (aJ (pv 0)) (aG (XN.r (aN)) aQ)))) (aG (aJ (pv 5)) aQ)))) (XN.r (iI iB (iC rfl) rfl gU F0 (aG (aJ (pv 3)) aQ))))) (fun h=>lH (uG F1 K1 K2 mJ (pv 4) (fD (uG F1 PySem.F.slot_list_pop PySem.F.type_list_pop aAg (pv 3) (fD h jY)) jY))))))
  (aO (di (i:=6) ["pane", "rows"] [2] rfl (.at (aM vZ) ["script", "panes", "rows", "spare", "boxes", "k", "stone", "cell", "box", "key", "pane"] A7) fJ.nd rfl (by first | ~D6 rfl | ~D5 rfl) (Jg rfl jU (aG (aJ (pv 1)) aQ)) (jH A7 rfl rfl) (fun _ _ _ _ _=>nU) (fun _ _ _ _ _=>kJ ["place"] [] rfl (kO.of (by show aj (vM _ (aM vZ)) _ ["pane", "rows"] _ _ _=true;decide +kernel)) (Jg rfl jU (aG (aJ (pv 1)) aQ)) (jH A7 rfl rfl) (fun _ _ _ _ _=>nU) (fun _ _ _ _ _=>qQ (bF aN (bF aN (bF (rP (XN.r (aN))) (bF (rP (XN.r (aN))) (bF aN gZ))))))))
  (aO (bM (i:=7) (cZ qI (hr.mono A8) rfl (aG (aJ (pv 0)) (aG (XN.r (aN)) aQ))) (fun h=>bI fJ.nd rfl (by first | ~D6 rfl | ~D5 rfl) h))
  (aO (Yj [3] PassesOwn.never rfl (lR (aJ (pv 3))) (lJ (i:=8) fJ.nd rfl (by first | ~D6 rfl | ~D5 rfl)) (aV (Yk (Lf (iG (pv 6)) (XN.r (bT (aJ (pv 8)) (aJ (pv 1)))) (fun _ _=>rfl)) (XN.r (oJ (aJ (pv 8)) (aJ (pv 1)))) (cZ xZ (hr.mono A8) rfl (aG (aJ (pv 7)) (aG (aJ (pv 8)) (aG (XN.r (bT (aJ (pv 7)) (XN.r (vA (XN.r (aN)) (XN.r (aN)))))) (aG (XN.r (bT (XN.r (lQ (aJ (pv 8)) (aJ (pv 8)))) (XN.r (lQ (aJ (pv 1)) (aJ (pv 2)))))) aQ))))) (fun a b c=>Dt c (Io a b set_list)))))
  (aO (bM (i:=9) (bT (aJ (pv 7)) (XN.r (vA (XN.r (aN)) (XN.r (aN))))) (fun h=>bI fJ.nd rfl (by first | ~D6 rfl | ~D5 rfl) h))
  (aO (Ym PassesOwn.never rfl (Ji rfl jU (aG (XN.r (iI iB (iC rfl) rfl gU F0 (aG (aJ (pv 4)) aQ))) aQ)) (lJ (i:=5) fJ.nd rfl (by first | ~D6 rfl | ~D5 rfl)) (aO (bM (i:=8) (XR.n (bN (aJ (pv 4)) (aJ (pv 5)) (fun _ _=>rfl))) (fun h=>bI fJ.nd rfl (by first | ~D6 rfl | ~D5 rfl) h))
  (aO (Yk (Lf (iG (pv 6)) (XN.r (bT (aJ (pv 8)) (aJ (pv 1)))) (fun _ _=>rfl)) (XN.r (oJ (aJ (pv 8)) (aJ (pv 1)))) (cZ xZ (hr.mono A8) rfl (aG (aJ (pv 7)) (aG (XN.r (cL (aJ (pv 5)) (XN.r (aN)))) (aG (aJ (pv 9)) (aG (bN (XN.r (cL (aJ (pv 4)) (oX (aG (XN.r (aN)) aQ)))) (XN.r (cL (aJ (pv 5)) (XN.r (aN)))) (fun _ _=>rfl)) aQ))))) (fun a b c=>Dt c (Io a b set_list)))
  (aV (bM (i:=9) (cL (XN.r (cL (aJ (pv 9)) (XN.r (aN)))) (XN.r (lQ (XN.r (bT (XN.r (cZ mR (hr.mono A8) rfl (aG (aJ (pv 7)) (aG (XN.r (cL (aJ (pv 5)) (XN.r (aN)))) aQ)))) (XN.r (aN)))) (bN (oX (aG (XN.r (aN)) (aG (XN.r (vA (XN.r (aN)) (XN.r (aN)))) aQ))) (XN.r (bT (aJ (pv 7)) (XN.r (aN)))) (fun _ _=>rfl))))) (fun h=>bI fJ.nd rfl (by first | ~D6 rfl | ~D5 rfl) h))))))
  (aO (Ym PassesOwn.never rfl (Ji rfl jU (aG (aJ (pv 1)) aQ)) (lJ (i:=10) fJ.nd rfl (by first | ~D6 rfl | ~D5 rfl)) (aV (aAR (Lf (iG (pv 6)) (aJ (pv 10)) (fun _ _=>rfl)) (qQ (bF (bT (XN.r (cZ mR (hr.mono A8) rfl (aG (aJ (pv 7)) (aG (XN.r (cL (aJ (pv 10)) (XN.r (aN)))) aQ)))) (XN.r (aN))) gZ)) (fun a b=>lH (uG F1 K1 K2 mJ a (fD b jY))))))
  (aV (Yi (pv 6))))))))))))⟩
B5 PJ:bB ["self", "stone"] ["self", "stone"] (aM tR):=by walk_at "fs"
B5 Zr{κ:Nat→Addr}(R:JM K mg "Bench" (κ 0) "Bench.__init__" tR) (bD:iZ K (κ 0) jQ) (gH:mg "list" = none):ue P w K mg base "Bench" (κ 0) 1 2 (spS K 2 (tU κ)):=by
 &R.aHV PJ (fun _ _ _ _ _ _ us hl=>match us,hl with | [_,_],_=>rfl) (fun _ _ _ _ _ _ _ hr=>?_)
 have dC:=hr.units
 have hu:=cY hr
 ~⟨_,aO (nY bD A7 (iG (pv 0)) (kJ ["pane"] [] rfl (.at (aM tR) ["self", "stone"] A7) (lR (aJ (pv 1))) (jH A7 rfl rfl) (fun _ _ _ _ _=>nU) (fun _ _ _ _ _=>Ab uI (uJ rfl) rfl gH F7 (aG (aJ (pv 0)) aQ))))
  (aO (nY bD A7 (iG (pv 0)) (qP gZ))
  (aO (nY bD A7 (iG (pv 0)) (aBb))
  (aO (nY bD A7 (iG (pv 0)) (Bh))
  (aV (nY bD A7 (iG (pv 0)) (kJ ["pane"] [] rfl (.at (aM tR) ["self", "stone"] A7) (lR (aJ (pv 1))) (jH A7 rfl rfl) (fun _ _ _ _ _=>nU) (fun _ _ _ _ _=>qP gZ)))))))⟩
B5 vo:bB ["stone", "spot"] ["stone", "spot"] (aM Qw):=by walk_at "fs"
B5 XD(R:Raw K mg "thing_at" Qw):qL P w K mg base "thing_at" 1 2 (iD K 2 Al):=by
 &R.wX vo (fun _ _ _ _ _ _ us hl=>match us,hl with | [_,_],_=>rfl) (fun _ _ _ _ _ _ _ hr=>?_)
 have dC:=hr.units
 have hu:=cY hr
 ~⟨_,aV (bV (XR.n (bN (bN (aJ (pv 0)) (bN (aJ (pv 1)) (XN.r (aN)) (fun _ _=>rfl)) (fun _ _=>rfl)) (bN (aJ (pv 1)) (XN.r (aN)) (fun _ _=>rfl)) (fun _ _=>rfl))))⟩
B5 aBD:bB ["stone", "box"] ["stone", "box"] (aM Zi):=by walk_at "fs"
B5 vp(R:Raw K mg "spot_of" Zi) (gU:mg "len" = none):qL P w K mg base "spot_of" 1 2 (iD K 2 xQ):=by
 &R.wX aBD (fun _ _ _ _ _ _ us hl=>match us,hl with | [_,_],_=>rfl) (fun _ _ _ _ _ _ _ hr=>?_)
 have dC:=hr.units
 have hu:=cY hr
 ~⟨_,aV (bV (qQ (bF (bT (aJ (pv 1)) (XN.r (iI iB (iC rfl) rfl gU F0 (aG (aJ (pv 0)) aQ)))) (bF (oJ (aJ (pv 1)) (XN.r (iI iB (iC rfl) rfl gU F0 (aG (aJ (pv 0)) aQ)))) gZ))))⟩
B5 XF:bB ["stone", "box"] ["stone", "box"] (aM Ju):=by walk_at "fs"
B5 PK(R:Raw K mg "record_at" Ju) (By:qL P w K mg base "spot_of" 1 2 (iD K 2 xQ)) (Rh:qL P w K mg base "thing_at" 1 2 (iD K 2 Al)):qL P w K mg base "record_at" 2 2 (iD K 2 mO):=by
 &R.wX XF (fun _ _ _ _ _ _ us hl=>match us,hl with | [_,_],_=>rfl) (fun _ _ _ _ _ _ _ hr=>?_)
 have dC:=hr.units
 have hu:=cY hr
 ~⟨_,aV (bV (cZ Rh (hr.mono A8) rfl (aG (aJ (pv 0)) (aG (XN.r (cZ By (hr.mono A8) rfl (aG (aJ (pv 0)) (aG (aJ (pv 1)) aQ)))) aQ))))⟩
B5 yC:bB ["stone", "found", "box"] ["stone"] (aM Jv):=by walk_at "fs"
B5 PL(R:Raw K mg "string_of" Jv) (Ca:qL P w K mg base "record_at" 2 2 (iD K 2 mO)) (gH:mg "list" = none) (Dp:iU mg "HEAD" (0)) (wG:iU mg "NEXT" (1)):qL P w K mg base "string_of" 3 1 (iD K 1 pQ):=by
 &R.wX yC (fun _ _ _ _ _ _ us hl=>match us,hl with | [_],_=>rfl) (fun _ _ _ _ _ _ _ hr=>?_)
 have dC:=hr.units
 have hu:=cY hr
 ~⟨_,aO (bM (i:=1) (Bh) (fun h=>bI yC.nd rfl (by first | ~D6 rfl | ~D5 rfl) h))
  (aO (bM (i:=2) (XR.n (bN (XN.r (cZ Ca (hr.mono A8) rfl (aG (aJ (pv 0)) (aG (XN.r (nH Dp rfl)) aQ)))) (XN.r (nH wG rfl)) (fun _ _=>rfl))) (fun h=>bI yC.nd rfl (by first | ~D6 rfl | ~D5 rfl) h))
  (aO (aAN 400 PassesOwn.never (XW.xt (Ox (cT (yR dC rfl) yQ (aJ (pv 2)) (XN.r (nH Dp rfl)) (cR _)) (Gf (Uy hu (aJ (pv 2)) (aJ (pv 1)))))) (aO (dh (iG (pv 1)) (aJ (pv 2)) (XN.r (zY)) (fun a b c=>wR hu a b c rfl))
  (aV (bM (i:=2) (XR.n (bN (XN.r (cZ Ca (hr.mono A8) rfl (aG (aJ (pv 0)) (aG (aJ (pv 2)) aQ)))) (XN.r (nH wG rfl)) (fun _ _=>rfl))) (fun h=>bI yC.nd rfl (by first | ~D6 rfl | ~D5 rfl) h)))))
  (aV (bV (Ab HS (zU rfl) rfl gH F7 (aG (aJ (pv 1)) aQ))))))⟩
B5 PN:bB ["stone"] ["stone"] (aM Ep):=by walk_at "fs"
B5 Zt(R:Raw K mg "many_boxes" Ep) (gU:mg "len" = none):qL P w K mg base "many_boxes" 1 1 (iD K 1 oM):=by
 &R.wX PN (fun _ _ _ _ _ _ us hl=>match us,hl with | [_],_=>rfl) (fun _ _ _ _ _ _ _ hr=>?_)
 have dC:=hr.units
 have hu:=cY hr
 ~⟨_,aV (bV (lQ (XN.r (iI iB (iC rfl) rfl gU F0 (aG (aJ (pv 0)) aQ))) (XN.r (qO (XN.r (iI iB (iC rfl) rfl gU F0 (aG (bN (aJ (pv 0)) (XN.r (aN)) (fun _ _=>rfl)) aQ))) (XN.r (aN))))))⟩
B5 Ho:bB ["stone", "tied"] ["stone"] (aM uP):=by walk_at "fs"
B5 Tq(R:Raw K mg "loose_boxes" uP) (sS:qL P w K mg base "string_of" 3 1 (iD K 1 pQ)) (pW:qL P w K mg base "many_boxes" 1 1 (iD K 1 oM)) (jU:mg "range" = none) (Dp:iU mg "HEAD" (0)):qL P w K mg base "loose_boxes" 4 1 (iD K 1 qF):=by
 &R.wX Ho (fun _ _ _ _ _ _ us hl=>match us,hl with | [_],_=>rfl) (fun _ _ _ _ _ _ _ hr=>?_)
 have dC:=hr.units
 have hu:=cY hr
 ~⟨_,aO (bM (i:=1) (cZ sS (hr.mono A8) rfl (aG (aJ (pv 0)) aQ)) (fun h=>bI Ho.nd rfl (by first | ~D6 rfl | ~D5 rfl) h))
  (aV (bV (kJ ["box", "tied"] [1] rfl (.at (aM uP) ["stone", "tied"] A7) (aEv (fun h=>Uh rfl jU h) (aG (XN.r (cL (XN.r (nH Dp rfl)) (XN.r (aN)))) (aG (XN.r (cZ pW (hr.mono A8) rfl (aG (aJ (pv 0)) aQ))) aQ))) (jH A7 rfl rfl) (fun _ _ _ _ _=>Gg (cT (Ov rfl) (bc true) (aJ (pv 0)) (aJ (pv 1)) (by with_unfolding_all rfl))) (fun _ _ _ _ _=>XR.n (aJ (pv 0))))))⟩
B5 Zu:bB ["self", "stone"] ["self", "stone"] (aM uQ):=by walk_at "fs"
B5 Tr{κ:Nat→Addr}(R:JM K mg "Weaver" (κ 1) "Weaver.__init__" uQ) (bD:iZ K (κ 0) jQ) (aP:iZ K (κ 1) dF) (Eu:ue P w K mg base "Bench" (κ 0) 1 2 (spS K 2 (tU κ))) (pW:qL P w K mg base "many_boxes" 1 1 (iD K 1 oM)) (By:qL P w K mg base "spot_of" 1 2 (iD K 2 xQ)) (sS:qL P w K mg base "string_of" 3 1 (iD K 1 pQ)) (Av:qL P w K mg base "loose_boxes" 4 1 (iD K 1 qF)) (jU:mg "range" = none):ue P w K mg base "Weaver" (κ 1) 5 2 (spS K 2 (qG κ)):=by
 &R.aHV Zu (fun _ _ _ _ _ _ us hl=>match us,hl with | [_,_],_=>rfl) (fun _ _ _ _ _ _ _ hr=>?_)
 have dC:=hr.units
 have hu:=cY hr
 ~⟨_,aO (nY aP A7 (iG (pv 0)) (Yq Eu fV (hr.mono A8) rfl (aG (aJ (pv 1)) aQ)))
  (aO (nY aP A7 (iG (pv 0)) (kJ ["box", "stone"] [1] rfl (.at (aM uQ) ["self", "stone"] A7) (Jg rfl jU (aG (XN.r (cZ pW (hr.mono A8) rfl (aG (aJ (pv 1)) aQ))) aQ)) (jH A7 rfl rfl) (fun _ _ _ _ _=>nU) (fun _ _ _ _ _=>cZ By (hr.mono A8) rfl (aG (aJ (pv 1)) (aG (aJ (pv 0)) aQ)))))
  (aO (nY aP A7 (iG (pv 0)) (cZ sS (hr.mono A8) rfl (aG (aJ (pv 1)) aQ)))
  (aO (nY aP A7 (iG (pv 0)) (cZ Av (hr.mono A8) rfl (aG (aJ (pv 1)) aQ)))
  (aO (nY aP A7 (iG (pv 0)) (Bh))
  (aO (nY aP A7 (iG (pv 0)) (Bh))
  (aV (nY aP A7 (iG (pv 0)) (Bh))))))))⟩
B5 Lk:bB ["cell", "number"] ["cell"] (aM Es):=by walk_at "fs"
B5 Zv(R:Raw K mg "_law_spread" Es):qL P w K mg base "_law_spread" 1 1 (iD K 1 lW):=by
 &R.wX Lk (fun _ _ _ _ _ _ us hl=>match us,hl with | [_],_=>rfl) (fun _ _ _ _ _ _ _ hr=>?_)
 have dC:=hr.units
 have hu:=cY hr
 ~⟨_,aO (bM (i:=1) (bT (XN.r (lQ (XN.r (cL (XN.r (bT (aJ (pv 0)) (XN.r (aN)))) (XN.r (aN)))) (XN.r (aN)))) (XN.r (aN))) (fun h=>bI Lk.nd rfl (by first | ~D6 rfl | ~D5 rfl) h))
  (aV (bV (cL (XN.r (bT (XN.r (lQ (aJ (pv 1)) (aJ (pv 1)))) (XN.r (aN)))) (XN.r (lQ (XN.r (bT (aJ (pv 0)) (XN.r (vA (XN.r (aN)) (XN.r (aN)))))) (XN.r (aN)))))))⟩
B5 Jz:bB ["self", "pane"] ["self", "pane"] (aM qW):=by walk_at "fs"
B5 Hq{κ:Nat→Addr}(R:gB K (κ 0) "check_pane" "Bench.check_pane" qW false) (bD:iZ K (κ 0) jQ) (gU:mg "len" = none):cU P w K mg base (κ 0) "check_pane" 1 2 false (iD K 2 (jC κ)):=by
 &R.Gn Jz (fun _ _ _ _ _ _ us hl=>match us,hl with | [_,_],_=>rfl) (fun _ _ _ _ _ _ _ hr=>?_)
 have dC:=hr.units
 have hu:=cY hr
 ~⟨_,aV (iT (Aa (Qc zc Np sV sV (XN.r (aN)) (aJ (pv 1)) (XN.r (iI iB (iC rfl) rfl gU F0 (aG (dH bD (aJ (pv 0)) A7 rfl) aQ))))) (aV (Yp)) fM)⟩
B5 Aw:bB ["changes", "held", "numbers", "found", "number"] ["changes", "held", "numbers"] (aM xR):=by walk_at "fs"
B5 Zw(R:Raw K mg "ripe_among" xR) (vq:mg "all" = none) (gH:mg "list" = none) (XH:iU mg "NEEDS" (3)):qL P w K mg base "ripe_among" 1 3 (iD K 3 tV):=by
 &R.wX Aw (fun _ _ _ _ _ _ us hl=>match us,hl with | [_,_,_],_=>rfl) (fun _ _ _ _ _ _ _ hr=>?_)
 have dC:=hr.units
 have hu:=cY hr
 ~⟨_,aO (bM (i:=3) (Bh) (fun h=>bI Aw.nd rfl (by first | ~D6 rfl | ~D5 rfl) h))
  (aO (Yj [] PassesOwn.never rfl (lR (aJ (pv 2))) (lJ (i:=4) Aw.nd rfl (by first | ~D6 rfl | ~D5 rfl)) (aV (iT (Ja (XN.r (iI aAF (aAG rfl) rfl vq a7 (aG (XN.r (kJ ["need", "held", "found"] [1,3] rfl (.at (aM xR) ["changes", "held", "numbers", "found", "number"] A7) (lR (bN (bN (aJ (pv 0)) (aJ (pv 4)) (fun _ _=>rfl)) (XN.r (nH XH rfl)) (fun _ _=>rfl))) (jH A7 rfl rfl) (fun _ _ _ _ _=>nU) (fun _ _ _ _ _=>aEo (XN.r (aAx hu (aJ (pv 0)) (aJ (pv 1)))) (Mt (aAx hu (aJ (pv 0)) (aJ (pv 2))))))) aQ)))) (aV (dh (iG (pv 3)) (aJ (pv 4)) (XN.r (zY)) (fun a b c=>wR hu a b c rfl))) fM)))
  (aV (bV (Ab HS (zU rfl) rfl gH F7 (aG (aJ (pv 3)) aQ)))))⟩
B5 Dq:bB ["self", "number", "change"] ["self", "number"] (aM xT):=by walk_at "fs"
B5 Ri{κ:Nat→Addr}(R:gB K (κ 0) "strike" "Bench.strike" xT false) (bD:iZ K (κ 0) jQ) (aBE:iU mg "PANE" (0)) (XQ:iU mg "PLACE" (1)) (Ka:iU mg "THING" (2)):cU P w K mg base (κ 0) "strike" 1 2 false (spS K 2 (rW κ)):=by
 &R.Yr Dq (fun _ _ _ _ _ _ us hl=>match us,hl with | [_,_],_=>rfl) (fun _ _ _ _ _ _ _ hr=>?_)
 have dC:=hr.units
 have hu:=cY hr
 ~⟨_,aO (bM (i:=2) (XR.n (bN (dH bD (aJ (pv 0)) A7 rfl) (aJ (pv 1)) (fun _ _=>rfl))) (fun h=>bI Dq.nd rfl (by first | ~D6 rfl | ~D5 rfl) h))
  (aO (JW (Lf (oK bD (iG (pv 0)) A7 rfl) (bN (aJ (pv 2)) (XN.r (nH aBE rfl)) (fun _ _=>rfl)) (fun _ _=>rfl)) (bN (aJ (pv 2)) (XN.r (nH XQ rfl)) (fun _ _=>rfl)) (XR.n (bN (aJ (pv 2)) (XN.r (nH Ka rfl)) (fun _ _=>rfl))) (fun a b c=>Dt c (Io a b set_list)))
  (aV (Gp (oK bD (iG (pv 0)) A7 rfl) (aJ (pv 1)) (XN.r (zY)) (fun a b c=>wR hu a b c rfl))))⟩
B5 sH:bB ["self", "pane", "most", "taken", "number"] ["self", "pane", "most"] (aM uR):=by walk_at "fs"
B5 Tt{κ:Nat→Addr}(R:gB K (κ 0) "carve" "Bench.carve" uR true) (bD:iZ K (κ 0) jQ) (jE:cU P w K mg base (κ 0) "check_pane" 1 2 false (iD K 2 (jC κ))) (Ew:qL P w K mg base "ripe_among" 1 3 (iD K 3 tV)) (yD:cU P w K mg base (κ 0) "strike" 1 2 false (spS K 2 (rW κ))) (aGv:mg "max" = none):cU P w K mg base (κ 0) "carve" 2 3 true (spS K 3 (uT κ)):=by
 &R.Yr sH (fun T _ _ _ _ _ _ us=>⟨fun hl=>match us,hl with | [_,_,_],_=>⟨_,rfl,rfl⟩,fun hl=>match us,hl with | [_,_],_=>⟨_,rfl,rfl⟩⟩) (fun _ _ _ _ _ _ _ hr=>?_)
 have dC:=hr.units
 have hu:=cY hr
 ~⟨_,aO (Bm (XN.r (cM jE bD (hr.mono A8) (aJ (pv 0)) (aG (aJ (pv 1)) aQ))))
  (aO (bM (i:=3) (cZ Ew (hr.mono A8) rfl (aG (dH bD (aJ (pv 0)) A7 rfl) (aG (dH bD (aJ (pv 0)) A7 rfl) (aG (bN (dH bD (aJ (pv 0)) A7 rfl) (aJ (pv 1)) (fun _ _=>rfl)) aQ)))) (fun h=>bI sH.nd rfl (by first | ~D6 rfl | ~D5 rfl) h))
  (aO (iT (cT Xi Jm (aJ (pv 2)) (XN.r (zZ)) (cR _)) (aV (bM (i:=3) (aAI (aJ (pv 3)) (aDf) (Yg (XN.r (iI aDc (lr rfl) rfl aGv PyProof.Rows.boot_max (aG (aJ (pv 2)) (aG (XN.r (aN)) aQ)))))) (fun h=>bI sH.nd rfl (by first | ~D6 rfl | ~D5 rfl) h))) fM)
  (aO (Ys PassesOwn.never rfl (pv 3) (lJ (i:=4) sH.nd rfl (by first | ~D6 rfl | ~D5 rfl)) (aV (Ad (rQ yD bD fV (hr.mono A8) (iG (pv 0)) (jW (aJ (pv 4)) nW)))))
  (aO (JW (oK bD (iG (pv 0)) A7 rfl) (aJ (pv 1)) (kJ ["number", "self"] [0] rfl (.at (aM uR) ["self", "pane", "most", "taken", "number"] A7) (lR (bN (dH bD (aJ (pv 0)) A7 rfl) (aJ (pv 1)) (fun _ _=>rfl))) (jH A7 rfl rfl) (fun _ _ _ _ _=>Gg (Uy hu (aJ (pv 0)) (dH bD (aJ (pv 1)) A7 rfl))) (fun _ _ _ _ _=>XR.n (aJ (pv 0)))) (fun a b c=>Dt c (Io a b set_list)))
  (aV (Gm (pv 3)))))))⟩
B5 Kc:bB ["self", "place"] ["self", "place"] (aM qX):=by walk_at "fs"
B5 Hr{κ:Nat→Addr}(R:gB K (κ 1) "box_ahead" "Weaver.box_ahead" qX false) (aP:iZ K (κ 1) dF) (Dp:iU mg "HEAD" (0)):cU P w K mg base (κ 1) "box_ahead" 1 2 false (iD K 2 (jD κ)):=by
 &R.Gn Kc (fun _ _ _ _ _ _ us hl=>match us,hl with | [_,_],_=>rfl) (fun _ _ _ _ _ _ _ hr=>?_)
 have dC:=hr.units
 have hu:=cY hr
 ~⟨_,aV (bV (XR.n (bN (XN.r (cL (oX (aG (XN.r (nH Dp rfl)) aQ)) (dH aP (aJ (pv 0)) A7 rfl))) (aJ (pv 1)) (fun _ _=>rfl))))⟩
B5 Hs:bB ["self", "pane", "place"] ["self", "pane", "place"] (aM pR):=by walk_at "fs"
B5 Ey{κ:Nat→Addr}(R:gB K (κ 0) "check_place" "Bench.check_place" pR false) (bD:iZ K (κ 0) jQ) (jE:cU P w K mg base (κ 0) "check_pane" 1 2 false (iD K 2 (jC κ))) (gU:mg "len" = none):cU P w K mg base (κ 0) "check_place" 2 3 false (iD K 3 (iJ κ)):=by
 &R.Gn Hs (fun _ _ _ _ _ _ us hl=>match us,hl with | [_,_,_],_=>rfl) (fun _ _ _ _ _ _ _ hr=>?_)
 have dC:=hr.units
 have hu:=cY hr
 ~⟨_,aO (Bm (XN.r (cM jE bD (hr.mono A8) (aJ (pv 0)) (aG (aJ (pv 1)) aQ))))
  (aV (iT (Aa (Qc zc Np sV sV (XN.r (aN)) (aJ (pv 2)) (XN.r (iI iB (iC rfl) rfl gU F0 (aG (bN (dH bD (aJ (pv 0)) A7 rfl) (aJ (pv 1)) (fun _ _=>rfl)) aQ))))) (aV (Yp)) fM))⟩
B5 PQ:bB ["self", "pane", "place"] ["self", "pane", "place"] (aM Et):=by walk_at "fs"
B5 Zx{κ:Nat→Addr}(R:gB K (κ 0) "seen" "Bench.seen" Et false) (bD:iZ K (κ 0) jQ) (iK:cU P w K mg base (κ 0) "check_place" 2 3 false (iD K 3 (iJ κ))) (Ka:iU mg "THING" (2)):cU P w K mg base (κ 0) "seen" 3 3 false (iD K 3 (tW κ)):=by
 &R.Gn PQ (fun _ _ _ _ _ _ us hl=>match us,hl with | [_,_,_],_=>rfl) (fun _ _ _ _ _ _ _ hr=>?_)
 have dC:=hr.units
 have hu:=cY hr
 ~⟨_,aO (Bm (XN.r (cM iK bD (hr.mono A8) (aJ (pv 0)) (aG (aJ (pv 1)) (aG (aJ (pv 2)) aQ)))))
  (aO (iT (il hu (Qd (aG (aJ (pv 1)) (aG (aJ (pv 2)) aQ))) (dH bD (aJ (pv 0)) A7 rfl)) (aV (bV (XR.n (bN (bN (dH bD (aJ (pv 0)) A7 rfl) (XN.r (JT hu (dH bD (aJ (pv 0)) A7 rfl) (Qd (aG (aJ (pv 1)) (aG (aJ (pv 2)) aQ))) (fun _ _=>rfl))) (fun _ _=>rfl)) (XN.r (nH Ka rfl)) (fun _ _=>rfl))))) fM)
  (aV (bV (XR.n (bN (bN (dH bD (aJ (pv 0)) A7 rfl) (aJ (pv 1)) (fun _ _=>rfl)) (aJ (pv 2)) (fun _ _=>rfl))))))⟩
B5 wH:bB ["self", "box", "spot"] ["self", "box"] (aM qY):=by walk_at "fs"
B5 Ht{κ:Nat→Addr}(R:gB K (κ 1) "record_of" "Weaver.record_of" qY false) (aP:iZ K (κ 1) dF) (bD:iZ K (κ 0) jQ) (Ez:cU P w K mg base (κ 0) "seen" 3 3 false (iD K 3 (tW κ))):cU P w K mg base (κ 1) "record_of" 4 2 false (iD K 2 (aW κ)):=by
 &R.Gn wH (fun _ _ _ _ _ _ us hl=>match us,hl with | [_,_],_=>rfl) (fun _ _ _ _ _ _ _ hr=>?_)
 have dC:=hr.units
 have hu:=cY hr
 ~⟨_,aO (bM (i:=2) (XR.n (bN (dH aP (aJ (pv 0)) A7 rfl) (aJ (pv 1)) (fun _ _=>rfl))) (fun h=>bI wH.nd rfl (by first | ~D6 rfl | ~D5 rfl) h))
  (aV (bV (cM Ez bD (hr.mono A8) (dH aP (aJ (pv 0)) A7 rfl) (aG (bN (aJ (pv 2)) (XN.r (aN)) (fun _ _=>rfl)) (aG (bN (aJ (pv 2)) (XN.r (aN)) (fun _ _=>rfl)) aQ)))))⟩
B5 Fb:bB ["self", "number"] ["self", "number"] (aM pG):=by walk_at "fs"
B5 Dc{κ:Nat→Addr}(R:gB K (κ 0) "check_change" "Bench.check_change" pG false) (bD:iZ K (κ 0) jQ) (gU:mg "len" = none):cU P w K mg base (κ 0) "check_change" 1 2 false (iD K 2 (gO κ)):=by
 &R.Gn Fb (fun _ _ _ _ _ _ us hl=>match us,hl with | [_,_],_=>rfl) (fun _ _ _ _ _ _ _ hr=>?_)
 have dC:=hr.units
 have hu:=cY hr
 ~⟨_,aV (iT (Aa (Qc zc Np sV sV (XN.r (aN)) (aJ (pv 1)) (XN.r (iI iB (iC rfl) rfl gU F0 (aG (dH bD (aJ (pv 0)) A7 rfl) aQ))))) (aV (Yp)) fM)⟩
B5 yE:bB ["self", "pane", "place", "thing", "needs", "needed", "need", "number"] ["self", "pane", "place", "thing", "needs"] (aM Jw):=by walk_at "fs"
B5 PX{κ:Nat→Addr}(R:gB K (κ 0) "put" "Bench.put" Jw true) (bD:iZ K (κ 0) jQ) (iK:cU P w K mg base (κ 0) "check_place" 2 3 false (iD K 3 (iJ κ))) (gP:cU P w K mg base (κ 0) "check_change" 1 2 false (iD K 2 (gO κ))) (gH:mg "list" = none) (gU:mg "len" = none) (oH:mg "sorted" = none) (vy:mg "set" = none) (XS:mg "tuple" = none):cU P w K mg base (κ 0) "put" 3 5 true (spS K 5 (Bw κ)):=by
 &R.Yr yE (fun T _ _ _ _ _ _ us=>⟨fun hl=>match us,hl with | [_,_,_,_,_],_=>⟨_,rfl,rfl⟩,fun hl=>match us,hl with | [_,_,_,_],_=>⟨_,rfl,rfl⟩⟩) (fun _ _ _ _ _ _ _ hr=>?_)
 have dC:=hr.units
 have hu:=cY hr
 ~⟨_,aO (Bm (XN.r (cM iK bD (hr.mono A8) (aJ (pv 0)) (aG (aJ (pv 1)) (aG (aJ (pv 2)) aQ)))))
  (aO (bM (i:=5) (aEq (cT Xh Yt (aJ (pv 4)) (XN.r (zZ)) (cR _)) (qP gZ) (Ab uI (uJ rfl) rfl gH F7 (aG (aJ (pv 4)) aQ))) (fun h=>bI yE.nd rfl (by first | ~D6 rfl | ~D5 rfl) h))
  (aO (Ys PassesOwn.never rfl (pv 5) (lJ (i:=6) yE.nd rfl (by first | ~D6 rfl | ~D5 rfl)) (aV (Bm (XN.r (cM gP bD (hr.mono A8) (aJ (pv 0)) (aG (aJ (pv 6)) aQ))))))
  (aO (iT (il hu (Qd (aG (aJ (pv 1)) (aG (aJ (pv 2)) aQ))) (dH bD (aJ (pv 0)) A7 rfl)) (aV (aAR (iG (pv 5)) (JT hu (dH bD (aJ (pv 0)) A7 rfl) (Qd (aG (aJ (pv 1)) (aG (aJ (pv 2)) aQ))) (fun _ _=>rfl)) (fun a b=>lH (uG F1 K1 K2 mJ a (fD b jY))))) fM)
  (aO (bM (i:=7) (iI iB (iC rfl) rfl gU F0 (aG (dH bD (aJ (pv 0)) A7 rfl) aQ)) (fun h=>bI yE.nd rfl (by first | ~D6 rfl | ~D5 rfl) h))
  (aO (Mw (oK bD (iG (pv 0)) A7 rfl) (qQ (bF (XR.n (aJ (pv 1))) (bF (XR.n (aJ (pv 2))) (bF (XR.n (aJ (pv 3))) (bF (Ab aAC (aAD rfl) rfl XS PyProof.Rows.boot_tuple (aG (XN.r (aDp (aJ (pv 5)) rfl oH P1 rfl vy a8)) aQ)) gZ))))) (fun a b=>lH (uG F1 K1 K2 mJ a (fD b jY))))
  (aO (aBc (oK bD (iG (pv 0)) A7 rfl) (Qd (aG (aJ (pv 1)) (aG (aJ (pv 2)) aQ))) (aJ (pv 7)) (fun a b c=>wR hu a b c rfl))
  (aO (Mw (Lf (oK bD (iG (pv 0)) A7 rfl) (aJ (pv 1)) (fun _ _=>rfl)) (XR.n (aJ (pv 7))) (fun a b=>lH (uG F1 K1 K2 mJ a (fD b jY))))
  (aV (Gm (pv 7))))))))))⟩
B5 aDI:bB ["numbers"] ["numbers"] (aM Zj):=by walk_at "fs"
B5 aBF(R:Raw K mg "known" Zj):qL P w K mg base "known" 1 1 (iD K 1 Zk):=by
 &R.wX aDI (fun _ _ _ _ _ _ us hl=>match us,hl with | [_],_=>rfl) (fun _ _ _ _ _ _ _ hr=>?_)
 have dC:=hr.units
 have hu:=cY hr
 ~⟨_,aV (bV (kJ ["number"] [] rfl (.at (aM Zj) ["numbers"] A7) (lR (aJ (pv 0))) (jH A7 rfl rfl) (fun _ _ _ _ _=>Gg (cT Xi Jm (aJ (pv 0)) (XN.r (zZ)) (cR _))) (fun _ _ _ _ _=>XR.n (aJ (pv 0)))))⟩
B5 vH:bB ["self", "box", "record", "needed", "spot", "number"] ["self", "box", "record", "needed"] (aM xU):=by walk_at "fs"
B5 Rj{κ:Nat→Addr}(R:gB K (κ 1) "write" "Weaver.write" xU false) (aP:iZ K (κ 1) dF) (bD:iZ K (κ 0) jQ) (Kd:cU P w K mg base (κ 0) "put" 3 5 true (spS K 5 (Bw κ))) (XX:qL P w K mg base "known" 1 1 (iD K 1 Zk)):cU P w K mg base (κ 1) "write" 4 4 false (spS K 4 (mQ κ)):=by
 &R.Yr vH (fun _ _ _ _ _ _ us hl=>match us,hl with | [_,_,_,_],_=>rfl) (fun _ _ _ _ _ _ _ hr=>?_)
 have dC:=hr.units
 have hu:=cY hr
 ~⟨_,aO (bM (i:=4) (XR.n (bN (dH aP (aJ (pv 0)) A7 rfl) (aJ (pv 1)) (fun _ _=>rfl))) (fun h=>bI vH.nd rfl (by first | ~D6 rfl | ~D5 rfl) h))
  (aO (Mv (i:=5) (rQ Kd bD fV (hr.mono A8) (oK aP (iG (pv 0)) A7 rfl) (jW (bN (aJ (pv 4)) (XN.r (aN)) (fun _ _=>rfl)) (jW (bN (aJ (pv 4)) (XN.r (aN)) (fun _ _=>rfl)) (jW (aJ (pv 2)) (jW (XN.r (cZ XX (hr.mono A8) rfl (aG (aJ (pv 3)) aQ))) nW))))) (fun h=>bI vH.nd rfl (by first | ~D6 rfl | ~D5 rfl) h))
  (aO (Gp (oK aP (iG (pv 0)) A7 rfl) (aJ (pv 1)) (aJ (pv 5)) (fun a b c=>wR hu a b c rfl))
  (aV (Gm (pv 5)))))⟩
B5 Ke:bB ["self", "box"] ["self", "box"] (aM qZ):=by walk_at "fs"
B5 Hu{κ:Nat→Addr}(R:gB K (κ 1) "coming_in" "Weaver.coming_in" qZ false) (aP:iZ K (κ 1) dF):cU P w K mg base (κ 1) "coming_in" 1 2 false (iD K 2 (oF κ)):=by
 &R.Gn Ke (fun _ _ _ _ _ _ us hl=>match us,hl with | [_,_],_=>rfl) (fun _ _ _ _ _ _ _ hr=>?_)
 have dC:=hr.units
 have hu:=cY hr
 ~⟨_,aV (bV (Qi hu (dH aP (aJ (pv 0)) A7 rfl) (aJ (pv 1)) ⟨rfl,rfl,rfl,rfl⟩))⟩
B5 Hv:bB ["self", "box", "record", "needed"] ["self", "box", "record", "needed"] (aM pU):=by walk_at "fs"
B5 Fd{κ:Nat→Addr}(R:gB K (κ 1) "write_tied" "Weaver.write_tied" pU false) (aP:iZ K (κ 1) dF) (mU:cU P w K mg base (κ 1) "write" 4 4 false (spS K 4 (mQ κ))) (rB:cU P w K mg base (κ 1) "coming_in" 1 2 false (iD K 2 (oF κ))):cU P w K mg base (κ 1) "write_tied" 5 4 false (spS K 4 (fX κ)):=by
 &R.Yr Hv (fun _ _ _ _ _ _ us hl=>match us,hl with | [_,_,_,_],_=>rfl) (fun _ _ _ _ _ _ _ hr=>?_)
 have dC:=hr.units
 have hu:=cY hr
 ~⟨_,aV (Gk (rQ mU aP fV (hr.mono A8) (iG (pv 0)) (jW (aJ (pv 1)) (jW (aJ (pv 2)) (Lg (cL (oX (aG (XN.r (cM rB aP (hr.mono A8) (aJ (pv 0)) (aG (aJ (pv 1)) aQ))) aQ)) (aJ (pv 3))) nW)))))⟩
B5 Hw:bB ["self", "box", "following", "needed", "record"] ["self", "box", "following", "needed"] (aM An):=by walk_at "fs"
B5 Tu{κ:Nat→Addr}(R:gB K (κ 1) "link" "Weaver.link" An false) (aP:iZ K (κ 1) dF) (aZ:cU P w K mg base (κ 1) "record_of" 4 2 false (iD K 2 (aW κ))) (iM:cU P w K mg base (κ 1) "write_tied" 5 4 false (spS K 4 (fX κ))) (Mh:iU mg "KEY" (0)) (aGw:iU mg "WAS" (2)) (aGx:iU mg "NOW" (3)) (aGy:iU mg "AGE" (4)):cU P w K mg base (κ 1) "link" 6 4 false (spS K 4 (lX κ)):=by
 &R.Yr Hw (fun _ _ _ _ _ _ us hl=>match us,hl with | [_,_,_,_],_=>rfl) (fun _ _ _ _ _ _ _ hr=>?_)
 have dC:=hr.units
 have hu:=cY hr
 ~⟨_,aO (bM (i:=4) (cM aZ aP (hr.mono A8) (aJ (pv 0)) (aG (aJ (pv 1)) aQ)) (fun h=>bI Hw.nd rfl (by first | ~D6 rfl | ~D5 rfl) h))
  (aV (Gk (rQ iM aP fV (hr.mono A8) (iG (pv 0)) (jW (aJ (pv 1)) (jW (XN.r (qQ (bF (XR.n (bN (aJ (pv 4)) (XN.r (nH Mh rfl)) (fun _ _=>rfl))) (bF (XR.n (aJ (pv 2))) (bF (XR.n (bN (aJ (pv 4)) (XN.r (nH aGw rfl)) (fun _ _=>rfl))) (bF (XR.n (bN (aJ (pv 4)) (XN.r (nH aGx rfl)) (fun _ _=>rfl))) (bF (XR.n (bN (aJ (pv 4)) (XN.r (nH aGy rfl)) (fun _ _=>rfl))) gZ))))))) (jW (aJ (pv 3)) nW))))))⟩
B5 mC:bB ["self", "needs", "further", "need"] ["self", "needs"] (aM mY):=by walk_at "fs"
B5 zN{κ:Nat→Addr}(R:gB K (κ 1) "further_needs" "Weaver.further_needs" mY false) (bD:iZ K (κ 0) jQ) (aP:iZ K (κ 1) dF) (gP:cU P w K mg base (κ 0) "check_change" 1 2 false (iD K 2 (gO κ))) (gH:mg "list" = none):cU P w K mg base (κ 1) "further_needs" 2 2 false (iD K 2 (cA κ)):=by
 &R.Gn mC (fun _ _ _ _ _ _ us hl=>match us,hl with | [_,_],_=>rfl) (fun _ _ _ _ _ _ _ hr=>?_)
 have dC:=hr.units
 have hu:=cY hr
 ~⟨_,aO (bM (i:=2) (aEq (cT Xh Yt (aJ (pv 1)) (XN.r (zZ)) (cR _)) (qP gZ) (Ab uI (uJ rfl) rfl gH F7 (aG (aJ (pv 1)) aQ))) (fun h=>bI mC.nd rfl (by first | ~D6 rfl | ~D5 rfl) h))
  (aO (Ys PassesOwn.never rfl (pv 2) (lJ (i:=3) mC.nd rfl (by first | ~D6 rfl | ~D5 rfl)) (aV (Bm (XN.r (cM gP bD (hr.mono A8) (dH aP (aJ (pv 0)) A7 rfl) (aG (aJ (pv 3)) aQ))))))
  (aV (Yi (pv 2))))⟩
B5 Fe:bB ["self", "box"] ["self", "box"] (aM pH):=by walk_at "fs"
B5 Dd{κ:Nat→Addr}(R:gB K (κ 1) "last_change" "Weaver.last_change" pH false) (aP:iZ K (κ 1) dF):cU P w K mg base (κ 1) "last_change" 1 2 false (iD K 2 (lK κ)):=by
 &R.Gn Fe (fun _ _ _ _ _ _ us hl=>match us,hl with | [_,_],_=>rfl) (fun _ _ _ _ _ _ _ hr=>?_)
 have dC:=hr.units
 have hu:=cY hr
 ~⟨_,aV (bV (Qi hu (dH aP (aJ (pv 0)) A7 rfl) (aJ (pv 1)) ⟨rfl,rfl,rfl,rfl⟩))⟩
B5 qC:bB ["self", "box", "needs", "ahead", "needed", "going"] ["self", "box", "needs"] (aM xV):=by walk_at "fs"
B5 Rk{κ:Nat→Addr}(R:gB K (κ 1) "leave" "Weaver.leave" xV true) (aP:iZ K (κ 1) dF) (jF:cU P w K mg base (κ 1) "box_ahead" 1 2 false (iD K 2 (jD κ))) (pJ:cU P w K mg base (κ 1) "last_change" 1 2 false (iD K 2 (lK κ))) (cD:cU P w K mg base (κ 1) "further_needs" 2 2 false (iD K 2 (cA κ))) (oW:cU P w K mg base (κ 1) "link" 6 4 false (spS K 4 (lX κ))) (aZ:cU P w K mg base (κ 1) "record_of" 4 2 false (iD K 2 (aW κ))) (wG:iU mg "NEXT" (1)):cU P w K mg base (κ 1) "leave" 7 3 true (spS K 3 (rY κ)):=by
 &R.Yr qC (fun T _ _ _ _ _ _ us=>⟨fun hl=>match us,hl with | [_,_,_],_=>⟨_,rfl,rfl⟩,fun hl=>match us,hl with | [_,_],_=>⟨_,rfl,rfl⟩⟩) (fun _ _ _ _ _ _ _ hr=>?_)
 have dC:=hr.units
 have hu:=cY hr
 ~⟨_,aO (bM (i:=3) (cM jF aP (hr.mono A8) (aJ (pv 0)) (aG (XN.r (aBj (dH aP (aJ (pv 0)) A7 rfl) (aJ (pv 1)) (fun a b=>uG F1 PySem.F.slot_list_index PySem.F.type_list_index aBi a (fD b jY)))) aQ)) (fun h=>bI qC.nd rfl (by first | ~D6 rfl | ~D5 rfl) h))
  (aO (bM (i:=4) (cL (oX (aG (XN.r (cM pJ aP (hr.mono A8) (aJ (pv 0)) (aG (aJ (pv 1)) aQ))) aQ)) (XN.r (cM cD aP (hr.mono A8) (aJ (pv 0)) (aG (aJ (pv 2)) aQ)))) (fun h=>bI qC.nd rfl (by first | ~D6 rfl | ~D5 rfl) h))
  (aO (Mv (i:=5) (rQ oW aP fV (hr.mono A8) (iG (pv 0)) (jW (aJ (pv 3)) (Lg (XR.n (bN (XN.r (cM aZ aP (hr.mono A8) (aJ (pv 0)) (aG (aJ (pv 1)) aQ))) (XN.r (nH wG rfl)) (fun _ _=>rfl))) (jW (aJ (pv 4)) nW)))) (fun h=>bI qC.nd rfl (by first | ~D6 rfl | ~D5 rfl) h))
  (aO (Yv (oK aP (iG (pv 0)) A7 rfl) (aJ (pv 1)) (fun a b=>lH (uG F1 R5 R6 Jp a (fD b jY))))
  (aO (Mw (oK aP (iG (pv 0)) A7 rfl) (XR.n (aJ (pv 1))) (fun a b=>lH (uG F1 K1 K2 mJ a (fD b jY))))
  (aO (Gp (oK aP (iG (pv 0)) A7 rfl) (aJ (pv 1)) (aJ (pv 5)) (fun a b c=>wR hu a b c rfl))
  (aV (Gm (pv 5))))))))⟩
B5 Dr:bB ["self", "key", "box"] ["self", "key"] (aM xW):=by walk_at "fs"
B5 Rm{κ:Nat→Addr}(R:gB K (κ 1) "box_of" "Weaver.box_of" xW false) (aP:iZ K (κ 1) dF) (aZ:cU P w K mg base (κ 1) "record_of" 4 2 false (iD K 2 (aW κ))) (Mh:iU mg "KEY" (0)):cU P w K mg base (κ 1) "box_of" 5 2 false (iD K 2 (cB κ)):=by
 &R.Gn Dr (fun _ _ _ _ _ _ us hl=>match us,hl with | [_,_],_=>rfl) (fun _ _ _ _ _ _ _ hr=>?_)
 have dC:=hr.units
 have hu:=cY hr
 ~⟨_,aO (Yj [] PassesOwn.never rfl (lR (dH aP (aJ (pv 0)) A7 rfl)) (lJ (i:=2) Dr.nd rfl (by first | ~D6 rfl | ~D5 rfl)) (aV (iT (cT (or_eq dC rfl) yP (bN (XN.r (cM aZ aP (hr.mono A8) (aJ (pv 0)) (aG (aJ (pv 2)) aQ))) (XN.r (nH Mh rfl)) (fun _ _=>rfl)) (aJ (pv 1)) (cR _)) (aV (Yi (pv 2))) fM)))
  (aV (bV (zZ)))⟩
B5 yX:bB ["self", "box", "was", "now", "age", "needs", "record"] ["self", "box", "was", "now", "age", "needs"] (aM tX):=by walk_at "fs"
B5 Kf{κ:Nat→Addr}(R:gB K (κ 1) "rewrite" "Weaver.rewrite" tX true) (aP:iZ K (κ 1) dF) (aZ:cU P w K mg base (κ 1) "record_of" 4 2 false (iD K 2 (aW κ))) (iM:cU P w K mg base (κ 1) "write_tied" 5 4 false (spS K 4 (fX κ))) (cD:cU P w K mg base (κ 1) "further_needs" 2 2 false (iD K 2 (cA κ))) (Mh:iU mg "KEY" (0)) (wG:iU mg "NEXT" (1)):cU P w K mg base (κ 1) "rewrite" 6 6 true (spS K 6 (pI κ)):=by
 &R.Yr yX (fun T _ _ _ _ _ _ us=>⟨fun hl=>match us,hl with | [_,_,_,_,_,_],_=>⟨_,rfl,rfl⟩,fun hl=>match us,hl with | [_,_,_,_,_],_=>⟨_,rfl,rfl⟩⟩) (fun _ _ _ _ _ _ _ hr=>?_)
 have dC:=hr.units
 have hu:=cY hr
 ~⟨_,aO (bM (i:=6) (cM aZ aP (hr.mono A8) (aJ (pv 0)) (aG (aJ (pv 1)) aQ)) (fun h=>bI yX.nd rfl (by first | ~D6 rfl | ~D5 rfl) h))
  (aV (Gk (rQ iM aP fV (hr.mono A8) (iG (pv 0)) (jW (aJ (pv 1)) (jW (XN.r (qQ (bF (XR.n (bN (aJ (pv 6)) (XN.r (nH Mh rfl)) (fun _ _=>rfl))) (bF (XR.n (bN (aJ (pv 6)) (XN.r (nH wG rfl)) (fun _ _=>rfl))) (bF (XR.n (aJ (pv 2))) (bF (XR.n (aJ (pv 3))) (bF (XR.n (aJ (pv 4))) gZ))))))) (Lg (cM cD aP (hr.mono A8) (aJ (pv 0)) (aG (aJ (pv 5)) aQ)) nW))))))⟩
B5 Zy:bB ["self"] ["self"] (aM uV):=by walk_at "fs"
B5 Tv{κ:Nat→Addr}(R:gB K (κ 0) "stone" "Bench.stone" uV false) (bD:iZ K (κ 0) jQ) (gH:mg "list" = none):cU P w K mg base (κ 0) "stone" 1 1 false (iD K 1 (qH κ)):=by
 &R.Gn Zy (fun _ _ _ _ _ _ us hl=>match us,hl with | [_],_=>rfl) (fun _ _ _ _ _ _ _ hr=>?_)
 have dC:=hr.units
 have hu:=cY hr
 ~⟨_,aV (bV (kJ ["pane"] [] rfl (.at (aM uV) ["self"] A7) (lR (dH bD (aJ (pv 0)) A7 rfl)) (jH A7 rfl rfl) (fun _ _ _ _ _=>nU) (fun _ _ _ _ _=>Ab uI (uJ rfl) rfl gH F7 (aG (aJ (pv 0)) aQ))))⟩
B5 Zz:bB ["self"] ["self"] (aM Aq):=by walk_at "fs"
B5 Tw{κ:Nat→Addr}(R:gB K (κ 1) "free" "Weaver.free" Aq false) (aP:iZ K (κ 1) dF) (oH:mg "sorted" = none):cU P w K mg base (κ 1) "free" 1 1 false (iD K 1 (eG κ)):=by
 &R.Gn Zz (fun _ _ _ _ _ _ us hl=>match us,hl with | [_],_=>rfl) (fun _ _ _ _ _ _ _ hr=>?_)
 have dC:=hr.units
 have hu:=cY hr
 ~⟨_,aV (bV (iI Jd (Je rfl) rfl oH P1 (aG (dH aP (aJ (pv 0)) A7 rfl) aQ)))⟩
B5 aBG:bB ["keys", "at", "cell"] ["keys", "at", "cell"] (aM Zm):=by walk_at "fs"
B5 vz(R:Raw K mg "_law_key" Zm) (gU:mg "len" = none):qL P w K mg base "_law_key" 1 3 (iD K 3 Hi):=by
 &R.wX aBG (fun _ _ _ _ _ _ us hl=>match us,hl with | [_,_,_],_=>rfl) (fun _ _ _ _ _ _ _ hr=>?_)
 have dC:=hr.units
 have hu:=cY hr
 ~⟨_,aO (iT (cT (or_eq dC rfl) yP (aJ (pv 0)) (oX aQ) (cR _)) (aV (bV (bT (aJ (pv 2)) (XN.r (vA (XN.r (aN)) (XN.r (aN))))))) fM)
  (aO (iT (cT (or_eq dC rfl) yP (aJ (pv 1)) (XN.r (aN)) (cR _)) (aV (bV (qO (XN.r (qO (bN (aJ (pv 0)) (XN.r (aN)) (fun _ _=>rfl)) (XN.r (aN)))) (XN.r (bT (aJ (pv 2)) (XN.r (vA (XN.r (aN)) (XN.r (aN))))))))) fM)
  (aO (iT (XW.xt (Ox (cT Np sV (aJ (pv 1)) (XN.r (iI iB (iC rfl) rfl gU F0 (aG (aJ (pv 0)) aQ))) (cR _)) (Gf (cT aHp sV (XN.r (qO (bN (aJ (pv 0)) (aJ (pv 1)) (fun _ _=>rfl)) (bN (aJ (pv 0)) (XN.r (qO (aJ (pv 1)) (XN.r (aN)))) (fun _ _=>rfl)))) (XN.r (aN)) (cR _))))) (aV (bV (cL (XN.r (cL (bN (aJ (pv 0)) (XN.r (qO (aJ (pv 1)) (XN.r (aN)))) (fun _ _=>rfl)) (XN.r (aN)))) (XN.r (bT (aJ (pv 2)) (XN.r (qO (XN.r (qO (bN (aJ (pv 0)) (aJ (pv 1)) (fun _ _=>rfl)) (bN (aJ (pv 0)) (XN.r (qO (aJ (pv 1)) (XN.r (aN)))) (fun _ _=>rfl)))) (XN.r (aN))))))))) fM)
  (aV (bV (cL (XN.r (cL (bN (aJ (pv 0)) (XN.r (rP (XN.r (aN)))) (fun _ _=>rfl)) (XN.r (aN)))) (XN.r (bT (aJ (pv 2)) (XN.r (vA (XN.r (aN)) (XN.r (aN)))))))))))⟩
B5 Kg:bB ["self", "box"] ["self", "box"] (aM rA):=by walk_at "fs"
B5 Hx{κ:Nat→Addr}(R:gB K (κ 1) "going_out" "Weaver.going_out" rA false) (aP:iZ K (κ 1) dF):cU P w K mg base (κ 1) "going_out" 1 2 false (iD K 2 (oG κ)):=by
 &R.Gn Kg (fun _ _ _ _ _ _ us hl=>match us,hl with | [_,_],_=>rfl) (fun _ _ _ _ _ _ _ hr=>?_)
 have dC:=hr.units
 have hu:=cY hr
 ~⟨_,aV (bV (Qi hu (dH aP (aJ (pv 0)) A7 rfl) (aJ (pv 1)) ⟨rfl,rfl,rfl,rfl⟩))⟩
B5 jM:bB ["self", "key", "was", "now", "age", "needs", "further", "place", "ahead", "box", "filled", "coming"] ["self", "key", "was", "now", "age", "needs"] (aM sE):=by walk_at "fs"
B5 Rn{κ:Nat→Addr}(R:gB K (κ 1) "enter" "Weaver.enter" sE true) (aP:iZ K (κ 1) dF) (cD:cU P w K mg base (κ 1) "further_needs" 2 2 false (iD K 2 (cA κ))) (aZ:cU P w K mg base (κ 1) "record_of" 4 2 false (iD K 2 (aW κ))) (jF:cU P w K mg base (κ 1) "box_ahead" 1 2 false (iD K 2 (jD κ))) (mU:cU P w K mg base (κ 1) "write" 4 4 false (spS K 4 (mQ κ))) (rC:cU P w K mg base (κ 1) "going_out" 1 2 false (iD K 2 (oG κ))) (oW:cU P w K mg base (κ 1) "link" 6 4 false (spS K 4 (lX κ))) (gU:mg "len" = none) (aGz:mg "min" = none) (Mh:iU mg "KEY" (0)) (wG:iU mg "NEXT" (1)):cU P w K mg base (κ 1) "enter" 7 6 true (spS K 6 (sG κ)):=by
 &R.Yr jM (fun T _ _ _ _ _ _ us=>⟨fun hl=>match us,hl with | [_,_,_,_,_,_],_=>⟨_,rfl,rfl⟩,fun hl=>match us,hl with | [_,_,_,_,_],_=>⟨_,rfl,rfl⟩⟩) (fun _ _ _ _ _ _ _ hr=>?_)
 have dC:=hr.units
 have hu:=cY hr
 ~⟨_,aO (iT (cT (or_eq dC rfl) yP (XN.r (iI iB (iC rfl) rfl gU F0 (aG (dH aP (aJ (pv 0)) A7 rfl) aQ))) (XN.r (aN)) (cR _)) (aV (Yp)) fM)
  (aO (bM (i:=6) (cM cD aP (hr.mono A8) (aJ (pv 0)) (aG (aJ (pv 5)) aQ)) (fun h=>bI jM.nd rfl (by first | ~D6 rfl | ~D5 rfl) h))
  (aO (bM (i:=7) (iI iB (iC rfl) rfl gU F0 (aG (XN.r (kJ ["box", "self", "key"] [0,1] rfl (.at (aM sE) ["self", "key", "was", "now", "age", "needs", "further", "place", "ahead", "box", "filled", "coming"] A7) (lR (dH aP (aJ (pv 0)) A7 rfl)) (jH A7 rfl rfl) (fun _ _ _ _ _=>Gg (cT Np sV (bN (XN.r (cM aZ aP (hr.mono A8) (aJ (pv 1)) (aG (aJ (pv 0)) aQ))) (XN.r (nH Mh rfl)) (fun _ _=>rfl)) (aJ (pv 2)) (cR _))) (fun _ _ _ _ _=>XR.n (aJ (pv 0))))) aQ)) (fun h=>bI jM.nd rfl (by first | ~D6 rfl | ~D5 rfl) h))
  (aO (bM (i:=8) (cM jF aP (hr.mono A8) (aJ (pv 0)) (aG (aJ (pv 7)) aQ)) (fun h=>bI jM.nd rfl (by first | ~D6 rfl | ~D5 rfl) h))
  (aO (bM (i:=9) (iI aDd (aDe rfl) rfl aGz PyProof.Rows.boot_min (aG (dH aP (aJ (pv 0)) A7 rfl) aQ)) (fun h=>bI jM.nd rfl (by first | ~D6 rfl | ~D5 rfl) h))
  (aO (Mv (i:=10) (rQ mU aP fV (hr.mono A8) (iG (pv 0)) (jW (aJ (pv 9)) (Lg (qQ (bF (XR.n (aJ (pv 1))) (bF (XR.n (bN (XN.r (cM aZ aP (hr.mono A8) (aJ (pv 0)) (aG (aJ (pv 8)) aQ))) (XN.r (nH wG rfl)) (fun _ _=>rfl))) (bF (XR.n (aJ (pv 2))) (bF (XR.n (aJ (pv 3))) (bF (XR.n (aJ (pv 4))) gZ)))))) (Lg (qP (bF (cM rC aP (hr.mono A8) (aJ (pv 0)) (aG (aJ (pv 9)) aQ)) gZ)) nW)))) (fun h=>bI jM.nd rfl (by first | ~D6 rfl | ~D5 rfl) h))
  (aO (Mv (i:=11) (rQ oW aP fV (hr.mono A8) (iG (pv 0)) (jW (aJ (pv 8)) (jW (aJ (pv 9)) (jW (XN.r (cL (oX (aG (aJ (pv 10)) aQ)) (aJ (pv 6)))) nW)))) (fun h=>bI jM.nd rfl (by first | ~D6 rfl | ~D5 rfl) h))
  (aO (aDy (oK aP (iG (pv 0)) A7 rfl) (aJ (pv 7)) (aJ (pv 9)) (fun a b c=>lH (uG F1 PySem.F.slot_list_insert PySem.F.type_list_insert uo a (fD b (fD c jY)))))
  (aO (Yv (oK aP (iG (pv 0)) A7 rfl) (aJ (pv 9)) (fun a b=>lH (uG F1 R5 R6 Jp a (fD b jY))))
  (aO (Gp (oK aP (iG (pv 0)) A7 rfl) (aJ (pv 9)) (aJ (pv 11)) (fun a b c=>wR hu a b c rfl))
  (aV (Gk (ir (qQ (bF (XR.n (aJ (pv 9))) (bF (XR.n (aJ (pv 11))) gZ)))))))))))))))⟩
B5 Cd:bB ["weaver", "keys", "cell", "rest", "key"] ["weaver", "keys", "cell"] (aM Ra):=by walk_at "fs"
B5 YC{κ:Nat→Addr}(R:Raw K mg "_law_done" Ra) (bD:iZ K (κ 0) jQ) (aP:iZ K (κ 1) dF) (Ax:cU P w K mg base (κ 0) "carve" 2 3 true (spS K 3 (uT κ))) (Ay:cU P w K mg base (κ 0) "stone" 1 1 false (iD K 1 (qH κ))) (yF:cU P w K mg base (κ 1) "leave" 7 3 true (spS K 3 (rY κ))) (gD:cU P w K mg base (κ 1) "box_of" 5 2 false (iD K 2 (cB κ))) (tY:cU P w K mg base (κ 1) "rewrite" 6 6 true (spS K 6 (pI κ))) (gJ:cU P w K mg base (κ 1) "free" 1 1 false (iD K 1 (eG κ))) (BJ:qL P w K mg base "_law_key" 1 3 (iD K 3 Hi)) (yG:cU P w K mg base (κ 1) "enter" 7 6 true (spS K 6 (sG κ))) (gU:mg "len" = none) (oH:mg "sorted" = none):qL P w K mg base "_law_done" 8 3 (spG K [true,true,false] (wD κ)):=by
 &R.aJy (mask:=[true,true,false]) Cd (fun _ _ _ _ _ _ us hl=>match us,hl with | [_,_,_],_=>rfl) rfl (fun _ _ _ _ _ _ _ hr=>?_)
 have dC:=hr.units
 have hu:=cY hr
 ~⟨_,aO (bM (i:=3) (oJ (aJ (pv 2)) (XN.r (aN))) (fun h=>bI Cd.nd rfl (by first | ~D6 rfl | ~D5 rfl) h))
  (aO (iT (cT (or_eq dC rfl) yP (XN.r (bT (aJ (pv 2)) (XN.r (aN)))) (XN.r (aN)) (cR _)) (aV (Ad (rQ Ax bD fV (hr.mono A8) (oK aP (iG (pv 0)) A7 rfl) (Lg (bT (aJ (pv 3)) (XN.r (iI iB (iC rfl) rfl gU F0 (aG (XN.r (kZ Ay bD (hr.mono A8) (dH aP (aJ (pv 0)) A7 rfl))) aQ)))) (jW (XN.r (bT (XN.r (oJ (aJ (pv 3)) (XN.r (aN)))) (XN.r (aN)))) nW))))) (aV (iT (XW.xt (Ox (cT (or_eq dC rfl) yP (XN.r (bT (aJ (pv 2)) (XN.r (aN)))) (XN.r (aN)) (cR _)) (Gf (cT (yR dC rfl) yQ (aJ (pv 1)) (oX aQ) (cR _))))) (aO (bM (i:=4) (XR.n (bN (aJ (pv 1)) (XN.r (bT (aJ (pv 3)) (XN.r (iI iB (iC rfl) rfl gU F0 (aG (aJ (pv 1)) aQ))))) (fun _ _=>rfl))) (fun h=>bI Cd.nd rfl (by first | ~D6 rfl | ~D5 rfl) h))
  (aO (Ad (Qa yF aP fV (hr.mono A8) (iG (pv 0)) (Lg (cM gD aP (hr.mono A8) (aJ (pv 0)) (aG (aJ (pv 4)) aQ)) nW)))
  (aV (Yv (iG (pv 1)) (aJ (pv 4)) (fun a b=>lH (uG F1 R5 R6 Jp a (fD b jY))))))) (aV (iT (XW.xt (Ox (cT (or_eq dC rfl) yP (XN.r (bT (aJ (pv 2)) (XN.r (aN)))) (XN.r (aN)) (cR _)) (Gf (cT (yR dC rfl) yQ (aJ (pv 1)) (oX aQ) (cR _))))) (aV (Ad (Qa tY aP fV (hr.mono A8) (iG (pv 0)) (Lg (cM gD aP (hr.mono A8) (aJ (pv 0)) (aG (bN (aJ (pv 1)) (XN.r (bT (aJ (pv 3)) (XN.r (iI iB (iC rfl) rfl gU F0 (aG (aJ (pv 1)) aQ))))) (fun _ _=>rfl)) aQ)) (jW (XN.r (rP (XN.r (aN)))) (jW (XN.r (bT (aJ (pv 3)) (XN.r (aN)))) (jW (XN.r (aN)) nW))))))) (aV (iT (cT (yR dC rfl) yQ (XN.r (kZ gJ aP (hr.mono A8) (aJ (pv 0)))) (oX aQ) (cR _)) (aO (bM (i:=4) (cZ BJ (hr.mono A8) rfl (aG (aJ (pv 1)) (aG (XN.r (bT (aJ (pv 3)) (XN.r (cL (XN.r (iI iB (iC rfl) rfl gU F0 (aG (aJ (pv 1)) aQ))) (XN.r (aN)))))) (aG (XN.r (oJ (aJ (pv 3)) (XN.r (aN)))) aQ)))) (fun h=>bI Cd.nd rfl (by first | ~D6 rfl | ~D5 rfl) h))
  (aO (Ad (Qa yG aP fV (hr.mono A8) (iG (pv 0)) (jW (aJ (pv 4)) (jW (XN.r (rP (XN.r (aN)))) (jW (XN.r (bT (aJ (pv 3)) (XN.r (vA (XN.r (aN)) (XN.r (aN)))))) (jW (XN.r (aN)) nW))))))
  (aV (Mw (iG (pv 1)) (XR.n (aJ (pv 4))) (fun a b=>lH (uG F1 K1 K2 mJ a (fD b jY))))))) fM)))))))
  (aV (Gk (ir (iI Jd (Je rfl) rfl oH P1 (aG (aJ (pv 1)) aQ))))))⟩
B5 Tz:bB ["self"] ["self"] (aM xX):=by walk_at "fs"
B5 Ro{κ:Nat→Addr}(R:gB K (κ 1) "order" "Weaver.order" xX false) (aP:iZ K (κ 1) dF) (gH:mg "list" = none):cU P w K mg base (κ 1) "order" 1 1 false (iD K 1 (cC κ)):=by
 &R.Gn Tz (fun _ _ _ _ _ _ us hl=>match us,hl with | [_],_=>rfl) (fun _ _ _ _ _ _ _ hr=>?_)
 have dC:=hr.units
 have hu:=cY hr
 ~⟨_,aV (bV (Ab uI (uJ rfl) rfl gH F7 (aG (dH aP (aJ (pv 0)) A7 rfl) aQ)))⟩
B5 YD:bB ["thing"] ["thing"] (aM Jx):=by walk_at "fs"
B5 QB(R:Raw K mg "_law_whole" Jx) (mD:mg "isinstance" = none) (aBH:mg "bool" = none) (aGA:mg "int" = none):qL P w K mg base "_law_whole" 1 1 (iD K 1 oU):=by
 &R.wX YD (fun _ _ _ _ _ _ us hl=>match us,hl with | [_],_=>rfl) (fun _ _ _ _ _ _ _ hr=>?_)
 have dC:=hr.units
 have hu:=cY hr
 ~⟨_,aV (bV (aAy (XN.r (VG (aJ (pv 0)) (Xb (v:=.ty "int") rfl aGA PyProof.Rows.boot_int rfl) rfl mD)) (Mt (aFR (XN.r (VG (aJ (pv 0)) (Xb (v:=.ty "bool") rfl aBH PyProof.Rows.boot_bool rfl) rfl mD))))))⟩
B5 BK:bB ["thing"] ["thing"] (aM uW):=by walk_at "fs"
B5 Ua(R:Raw K mg "_law_numbers" uW) (sU:qL P w K mg base "_law_whole" 1 1 (iD K 1 oU)) (vq:mg "all" = none) (mD:mg "isinstance" = none) (gH:mg "list" = none):qL P w K mg base "_law_numbers" 2 1 (iD K 1 lZ):=by
 &R.wX BK (fun _ _ _ _ _ _ us hl=>match us,hl with | [_],_=>rfl) (fun _ _ _ _ _ _ _ hr=>?_)
 have dC:=hr.units
 have hu:=cY hr
 ~⟨_,aV (bV (aAy (XN.r (VG (aJ (pv 0)) (Xb (v:=.ty "list") rfl gH F7 rfl) rfl mD)) (Mt (iI aAF (aAG rfl) rfl vq a7 (aG (XN.r (kJ ["one"] [] rfl (.at (aM uW) ["thing"] A7) (lR (aJ (pv 0))) (jH A7 rfl rfl) (fun _ _ _ _ _=>nU) (fun _ _ _ _ _=>cZ sU (hr.mono A8) rfl (aG (aJ (pv 0)) aQ)))) aQ)))))⟩
B5 Wh:bB ["weaver", "many", "order"] ["weaver", "many"] (aM Hl):=by walk_at "fs"
B5 YF{κ:Nat→Addr}(R:Raw K mg "_law_free" Hl) (aP:iZ K (κ 1) dF) (dW:cU P w K mg base (κ 1) "order" 1 1 false (iD K 1 (cC κ))) (jU:mg "range" = none):qL P w K mg base "_law_free" 2 2 (iD K 2 (wF κ)):=by
 &R.wX Wh (fun _ _ _ _ _ _ us hl=>match us,hl with | [_,_],_=>rfl) (fun _ _ _ _ _ _ _ hr=>?_)
 have dC:=hr.units
 have hu:=cY hr
 ~⟨_,aO (bM (i:=2) (kZ dW aP (hr.mono A8) (aJ (pv 0))) (fun h=>bI Wh.nd rfl (by first | ~D6 rfl | ~D5 rfl) h))
  (aV (bV (kJ ["box", "order"] [2] rfl (.at (aM Hl) ["weaver", "many", "order"] A7) (aEv (fun h=>Uh rfl jU h) (aG (XN.r (aN)) (aG (aJ (pv 1)) aQ))) (jH A7 rfl rfl) (fun _ _ _ _ _=>Gg (cT (Ov rfl) (bc true) (aJ (pv 0)) (aJ (pv 1)) (by with_unfolding_all rfl))) (fun _ _ _ _ _=>XR.n (aJ (pv 0))))))⟩
B5 mF:bB ["weaver", "keys", "many", "cell", "order", "free", "told", "gone", "at", "found"] ["weaver", "keys", "many", "cell"] (aM xY):=by walk_at "fs"
B5 BL{κ:Nat→Addr}(R:Raw K mg "_law_looked" xY) (aP:iZ K (κ 1) dF) (dW:cU P w K mg base (κ 1) "order" 1 1 false (iD K 1 (cC κ))) (gJ:cU P w K mg base (κ 1) "free" 1 1 false (iD K 1 (eG κ))) (uX:qL P w K mg base "_law_numbers" 2 1 (iD K 1 lZ)) (Rp:qL P w K mg base "_law_free" 2 2 (iD K 2 (wF κ))) (aZ:cU P w K mg base (κ 1) "record_of" 4 2 false (iD K 2 (aW κ))) (gD:cU P w K mg base (κ 1) "box_of" 5 2 false (iD K 2 (cB κ))) (sU:qL P w K mg base "_law_whole" 1 1 (iD K 1 oU)) (gU:mg "len" = none) (vy:mg "set" = none) (oH:mg "sorted" = none) (gH:mg "list" = none) (jU:mg "range" = none):qL P w K mg base "_law_looked" 6 4 (iD K 4 (oO κ)):=by
 &R.wX mF (fun _ _ _ _ _ _ us hl=>match us,hl with | [_,_,_,_],_=>rfl) (fun _ _ _ _ _ _ _ hr=>?_)
 have dC:=hr.units
 have hu:=cY hr
 ~⟨_,aO (bM (i:=4) (kZ dW aP (hr.mono A8) (aJ (pv 0))) (fun h=>bI mF.nd rfl (by first | ~D6 rfl | ~D5 rfl) h))
  (aO (bM (i:=5) (kZ gJ aP (hr.mono A8) (aJ (pv 0))) (fun h=>bI mF.nd rfl (by first | ~D6 rfl | ~D5 rfl) h))
  (aO (ux PassesOwn.never rfl (qP (bF (kZ dW aP (hr.mono A8) (aJ (pv 0))) (bF (kZ gJ aP (hr.mono A8) (aJ (pv 0))) gZ))) (lJ (i:=6) mF.nd rfl (by first | ~D6 rfl | ~D5 rfl)) (pv 6) yh (fun a b=>lH (uG F1 K1 K2 mJ a (fD b jY))))
  (aO (iT (XW.xt (HN (cT (yR dC rfl) yQ (XN.r (kZ dW aP (hr.mono A8) (aJ (pv 0)))) (aJ (pv 4)) (cR _)) (Ye (cT (yR dC rfl) yQ (XN.r (kZ gJ aP (hr.mono A8) (aJ (pv 0)))) (aJ (pv 5)) (cR _))))) (aV (bV (zY))) fM)
  (aO (iT (XW.xt (HN (Aa (Ja (XN.r (cZ uX (hr.mono A8) rfl (aG (aJ (pv 4)) aQ))))) (HN (Aa (Ja (XN.r (cZ uX (hr.mono A8) rfl (aG (aJ (pv 5)) aQ))))) (Ye (cT (yR dC rfl) yQ (XN.r (aDC (aJ (pv 4)) rfl gU F0 rfl vy a8)) (XN.r (iI iB (iC rfl) rfl gU F0 (aG (aJ (pv 4)) aQ))) (cR _)))))) (aV (bV (zY))) fM)
  (aO (iT (XW.xt (HN (cT (yR dC rfl) yQ (aJ (pv 5)) (XN.r (cZ Rp (hr.mono A8) rfl (aG (aJ (pv 0)) (aG (aJ (pv 2)) aQ)))) (cR _)) (Ye (cT (yR dC rfl) yQ (XN.r (iI Jd (Je rfl) rfl oH P1 (aG (XN.r (cL (aJ (pv 4)) (aJ (pv 5)))) aQ))) (XN.r (Vm (aG (XN.r (aN)) (aG (aJ (pv 2)) aQ)) rfl gH F7 rfl jU X6)) (cR _))))) (aV (bV (zY))) fM)
  (aO (iT (cT (yR dC rfl) yQ (XN.r (kJ ["box", "weaver"] [0] rfl (.at (aM xY) ["weaver", "keys", "many", "cell", "order", "free", "told", "gone", "at", "found"] A7) (lR (aJ (pv 4))) (jH A7 rfl rfl) (fun _ _ _ _ _=>nU) (fun _ _ _ _ _=>XR.n (bN (XN.r (cM aZ aP (hr.mono A8) (aJ (pv 1)) (aG (aJ (pv 0)) aQ))) (XN.r (aN)) (fun _ _=>rfl))))) (aJ (pv 1)) (cR _)) (aV (bV (zY))) fM)
  (aO (iT (cT (yR dC rfl) yQ (aJ (pv 5)) (oX aQ) (cR _)) (aO (bM (i:=7) (XR.n (bN (XN.r (cM aZ aP (hr.mono A8) (aJ (pv 0)) (aG (bN (aJ (pv 5)) (XN.r (bT (aJ (pv 3)) (XN.r (iI iB (iC rfl) rfl gU F0 (aG (aJ (pv 5)) aQ))))) (fun _ _=>rfl)) aQ))) (XN.r (aN)) (fun _ _=>rfl))) (fun h=>bI mF.nd rfl (by first | ~D6 rfl | ~D5 rfl) h))
  (aV (iT (XW.xt (Ox (cT (Ov rfl) (bc true) (aJ (pv 7)) (aJ (pv 1)) (by with_unfolding_all rfl)) (Gf (cT Xi Jm (XN.r (cM gD aP (hr.mono A8) (aJ (pv 0)) (aG (aJ (pv 7)) aQ))) (XN.r (zZ)) (cR _))))) (aV (bV (zY))) fM))) fM)
  (aO (iT (cT (or_eq dC rfl) yP (aJ (pv 1)) (oX aQ) (cR _)) (aV (bV (Yd Xh Yt (XN.r (cM gD aP (hr.mono A8) (aJ (pv 0)) (aG (XN.r (bT (aJ (pv 3)) (XN.r (vA (XN.r (aN)) (XN.r (aN)))))) aQ))) (XN.r (zZ)) (cR _)))) fM)
  (aO (bM (i:=8) (bT (aJ (pv 3)) (XN.r (iI iB (iC rfl) rfl gU F0 (aG (aJ (pv 1)) aQ)))) (fun h=>bI mF.nd rfl (by first | ~D6 rfl | ~D5 rfl) h))
  (aO (bM (i:=9) (cM gD aP (hr.mono A8) (aJ (pv 0)) (aG (bN (aJ (pv 1)) (aJ (pv 8)) (fun _ _=>rfl)) aQ)) (fun h=>bI mF.nd rfl (by first | ~D6 rfl | ~D5 rfl) h))
  (aO (iT (XW.xt (HN (Aa (Ja (XN.r (cZ sU (hr.mono A8) rfl (aG (aJ (pv 9)) aQ))))) (Ye (cT (yR dC rfl) yQ (aJ (pv 9)) (bN (aJ (pv 4)) (aJ (pv 8)) (fun _ _=>rfl)) (cR _))))) (aV (bV (zY))) fM)
  (aV (bV (aEo (XN.r (Yd (aHE rfl) (bc false) (XN.r (cL (bN (aJ (pv 1)) (aJ (pv 8)) (fun _ _=>rfl)) (XN.r (aN)))) (aJ (pv 1)) (by with_unfolding_all rfl))) (Mt (Yd Xh Yt (XN.r (cM gD aP (hr.mono A8) (aJ (pv 0)) (aG (XN.r (cL (bN (aJ (pv 1)) (aJ (pv 8)) (fun _ _=>rfl)) (XN.r (aN)))) aQ))) (XN.r (zZ)) (cR _)))))))))))))))))⟩
B5 wI:bB ["script", "stone", "many", "weavers", "keys", "rows", "held", "kept", "cell", "which", "told"] ["script"] (aM vh):=by walk_at "fs"
B5 aGB{κ:Nat→Addr}{f:Addr}{fd:FuncData}(F:Fun K "law" "law" vh f fd) (aP:iZ K (κ 1) dF) (Kh:qL P w K mg base "_law_built" 3 1 (iD K 1 wA)) (uY:ue P w K mg base "Weaver" (κ 1) 5 2 (spS K 2 (qG κ))) (dW:cU P w K mg base (κ 1) "order" 1 1 false (iD K 1 (cC κ))) (aZ:cU P w K mg base (κ 1) "record_of" 4 2 false (iD K 2 (aW κ))) (Ff:qL P w K mg base "_law_spread" 1 1 (iD K 1 lW)) (Rq:qL P w K mg base "_law_done" 8 3 (spG K [true,true,false] (wD κ))) (yH:qL P w K mg base "_law_looked" 6 4 (iD K 4 (oO κ))) (gJ:cU P w K mg base (κ 1) "free" 1 1 false (iD K 1 (eG κ))) (gU:mg "len" = none) (gH:mg "list" = none) (aF7:∀ns:List Int,ns.length≤63→(∀k∈ns,Small k)→aGt κ [.lst (ns.map D.int)]=some (.bl true)):zF P w K mg base CZ 9 f fd ["script"] (spB K):=by
 &F.okB wI (fun cdv A outer s H E hr=>?_) aF7
 have dC:=hr.units
 have hu:=cY hr
 ~⟨_,aO (bM (i:=1) (cZ Kh (hr.mono A8) rfl (aG (aJ (pv 0)) aQ)) (fun h=>bI wI.nd rfl (by first | ~D6 rfl | ~D5 rfl) h))
  (aO (bM (i:=2) (lQ (XN.r (iI iB (iC rfl) rfl gU F0 (aG (aJ (pv 1)) aQ))) (XN.r (qO (XN.r (iI iB (iC rfl) rfl gU F0 (aG (bN (aJ (pv 1)) (XN.r (aN)) (fun _ _=>rfl)) aQ))) (XN.r (aN))))) (fun h=>bI wI.nd rfl (by first | ~D6 rfl | ~D5 rfl) h))
  (aO (bM (i:=3) (qP (bF (Yq uY fV (hr.mono A8) rfl (aG (aJ (pv 1)) aQ)) (bF (Yq uY fV (hr.mono A8) rfl (aG (aJ (pv 1)) aQ)) gZ))) (fun h=>bI wI.nd rfl (by first | ~D6 rfl | ~D5 rfl) h))
  (aO (di (i:=4) ["box", "weavers"] [3] rfl (.at (aM vh) ["script", "stone", "many", "weavers", "keys", "rows", "held", "kept", "cell", "which", "told"] A7) wI.nd rfl (by first | ~D6 rfl | ~D5 rfl) (lR (XN.r (kZ dW aP (hr.mono A8) (bN (aJ (pv 3)) (XN.r (aN)) (fun _ _=>rfl))))) (jH A7 rfl rfl) (fun _ _ _ _ _=>nU) (fun _ _ _ _ _=>XR.n (bN (XN.r (cM aZ aP (hr.mono A8) (bN (aJ (pv 1)) (XN.r (aN)) (fun _ _=>rfl)) (aG (aJ (pv 0)) aQ))) (XN.r (aN)) (fun _ _=>rfl))))
  (aO (bM (i:=5) (qP (bF (Ab uI (uJ rfl) rfl gH F7 (aG (aJ (pv 4)) aQ)) (bF (Ab uI (uJ rfl) rfl gH F7 (aG (aJ (pv 4)) aQ)) gZ))) (fun h=>bI wI.nd rfl (by first | ~D6 rfl | ~D5 rfl) h))
  (aO (Yk (Lf (iG (pv 1)) (XN.r (aN)) (fun _ _=>rfl)) (XN.r (aN)) (qQ (bF aN (bF aN (bF (rP (XN.r (aN))) (bF (rP (XN.r (aN))) (bF aN gZ)))))) (fun a b c=>Dt c (Io a b set_list)))
  (aO (bM (i:=6) (qP gZ) (fun h=>bI wI.nd rfl (by first | ~D6 rfl | ~D5 rfl) h))
  (aO (bM (i:=7) (qP gZ) (fun h=>bI wI.nd rfl (by first | ~D6 rfl | ~D5 rfl) h))
  (aO (Yj [] PassesOwn.never rfl (lR (XN.r (kJ ["one"] [] rfl (.at (aM vh) ["script", "stone", "many", "weavers", "keys", "rows", "held", "kept", "cell", "which", "told"] A7) (lR (aAH (aJ (pv 0)) (Yg (XN.r (aN))) (Yg (XN.r (aN))))) (jH A7 rfl rfl) (fun _ _ _ _ _=>nU) (fun _ _ _ _ _=>cZ Ff (hr.mono A8) rfl (aG (aJ (pv 0)) aQ))))) (lJ (i:=8) wI.nd rfl (by first | ~D6 rfl | ~D5 rfl)) (aO (bM (i:=9) (bT (aJ (pv 8)) (XN.r (aN))) (fun h=>bI wI.nd rfl (by first | ~D6 rfl | ~D5 rfl) h))
  (aO (aBn (iG (pv 5)) (aJ (pv 9)) (aDB Rq rfl (hr.mono A8) rfl (aBl (Lf (iG (pv 3)) (aJ (pv 9)) (fun _ _=>rfl)) (aBl (Lf (iG (pv 5)) (aJ (pv 9)) (fun _ _=>rfl)) (aH6 (XN.r (oJ (aJ (pv 8)) (XN.r (aN)))) (aDA))))) (fun a b c=>Dt c (Io a b set_list)))
  (aO (iT (Aa (Ja (XN.r (cZ yH (hr.mono A8) rfl (aG (bN (aJ (pv 3)) (aJ (pv 9)) (fun _ _=>rfl)) (aG (bN (aJ (pv 5)) (aJ (pv 9)) (fun _ _=>rfl)) (aG (aJ (pv 2)) (aG (XN.r (oJ (aJ (pv 8)) (XN.r (aN)))) aQ)))))))) (aV (bV (zY))) fM)
  (aO (iT (Aa (Ja (XN.r (cZ yH (hr.mono A8) rfl (aG (bN (aJ (pv 3)) (XN.r (qO (XN.r (aN)) (aJ (pv 9)))) (fun _ _=>rfl)) (aG (bN (aJ (pv 5)) (XN.r (qO (XN.r (aN)) (aJ (pv 9)))) (fun _ _=>rfl)) (aG (aJ (pv 2)) (aG (XN.r (oJ (aJ (pv 8)) (XN.r (aN)))) aQ)))))))) (aV (bV (zY))) fM)
  (aV (iT (cT Np sV (XN.r (iI iB (iC rfl) rfl gU F0 (aG (aJ (pv 6)) aQ))) (XN.r (aN)) (cR _)) (aO (bM (i:=10) (qP (bF (kZ dW aP (hr.mono A8) (bN (aJ (pv 3)) (aJ (pv 9)) (fun _ _=>rfl))) (bF (kZ gJ aP (hr.mono A8) (bN (aJ (pv 3)) (aJ (pv 9)) (fun _ _=>rfl))) gZ))) (fun h=>bI wI.nd rfl (by first | ~D6 rfl | ~D5 rfl) h))
  (aO (KD (js:=[6,10]) (i:=6) (aBd (aDx (aJ (pv 6))) (aDx (aJ (pv 10)))) (fun h=>bI wI.nd rfl (by first | ~D6 rfl | ~D5 rfl) h))
  (aV (KD (js:=[7]) (i:=7) (aBd (aDx (aJ (pv 7))) (aDx (XN.r (kJ ["one"] [] rfl (.at (aM vh) ["script", "stone", "many", "weavers", "keys", "rows", "held", "kept", "cell", "which", "told"] A7) (lR (aJ (pv 10))) (jH A7 rfl rfl) (fun _ _ _ _ _=>nU) (fun _ _ _ _ _=>Ab uI (uJ rfl) rfl gH F7 (aG (aJ (pv 0)) aQ)))))) (fun h=>bI wI.nd rfl (by first | ~D6 rfl | ~D5 rfl) h))))) fM)))))))
  (aV (bV (Yd (or_eq dC rfl) yP (aJ (pv 6)) (aJ (pv 7)) (cR _))))))))))))⟩
end
end Rs

namespace Rs
open PySem L2
local macro_rules | `(tactic| walk_at "lt")=>`(tactic| ~Nat.le_of_ble_eq_true rfl)
local macro_rules | `(tactic| walk_at "sc")=>`(tactic| first | omega | with_reducible assumption | ~P7 A8 | ~Ek A6 A6 | ~aH8 A6 A6)
local macro_rules | `(tactic| walk_at "op")=>`(tactic| first | with_reducible assumption | with_reducible ~bY _ _ | with_reducible ~jT _ _ | with_reducible ~pA _ _ | with_reducible ~xJ _ _ | with_reducible ~xH _ _ | with_reducible ~Yx _ _ | with_reducible ~dGe_int _ _ | with_reducible ~Yy _ _ | with_reducible ~lB _ | with_reducible ~Gq _ | with_reducible ~dLen_tup _ | ((with_reducible apply gG);walk_at "sc") | ((with_reducible apply bG);walk_at "sc") | ((with_reducible apply eE);(walk_at "sc");walk_at "sc") | ((with_reducible apply nP);~⟨by decide,by decide,by omega⟩) | ((with_reducible apply gW);(walk_at "sc");walk_at "sc"))
local macro_rules | `(tactic| walk_at "ea")=>`(tactic| first | with_reducible ~aBt | ((with_reducible apply aB);(walk_at "ev");walk_at "ea"))
local macro_rules | `(tactic| walk_at "ev")=>`(tactic| first | ((with_reducible apply cI);~rfl) | with_reducible ~aIc | with_reducible assumption | ((with_reducible apply aL);(walk_at "ev");(walk_at "ev");walk_at "op") | ((with_reducible apply dU);(walk_at "ea");walk_at "op") | ((with_reducible apply bR);(walk_at "ea");~rfl;with_reducible assumption) | ((with_reducible apply bH);(walk_at "ev");~rfl) | ((with_reducible apply pZ);walk_at "ev") | ((with_reducible apply oE);(walk_at "ea");walk_at "lt") | ((with_reducible apply fQ);(walk_at "ea");walk_at "lt"))
local macro_rules | `(tactic| walk_at "et")=>`(tactic| first | ((with_reducible apply rT);walk_at "et") | ((with_reducible apply fOr_ok);(walk_at "et");walk_at "et") | ((with_reducible apply Nb);(walk_at "et");walk_at "et") | ((with_reducible apply bZ);walk_at "ev"))
local macro_rules | `(tactic| walk_at "set")=>`(tactic| (apply aBq;(walk_at "ev");(walk_at "lt")))
local macro_rules | `(tactic| walk_at "q")=>`(tactic| (apply cN;(walk_at "ev");(walk_at "lt")))
local macro_rules | `(tactic| walk_at "op")=>`(tactic| first | with_reducible assumption | with_reducible ~bY _ _ | with_reducible ~jT _ _ | with_reducible ~pA _ _ | with_reducible ~xJ _ _ | with_reducible ~xH _ _ | with_reducible ~Yx _ _ | with_reducible ~dGe_int _ _ | with_reducible ~Yy _ _ | with_reducible ~lB _ | with_reducible ~Ze _ | with_reducible ~Zc _ _ _ | with_reducible ~dMin2_int _ _ | with_reducible ~Vx _ _ | with_reducible ~dIntB_bl _ | with_reducible ~je _ | with_reducible ~MK _ | with_reducible ~Qo _ | with_reducible ~MN _ | ((with_reducible apply Zd);omega) | with_reducible ~Gq _ | with_reducible ~dLen_tup _ | ((with_reducible apply gG);walk_at "sc") | ((with_reducible apply dMulB_int);(walk_at "sc");walk_at "sc") | ((with_reducible apply bG);walk_at "sc") | ((with_reducible apply eE);(walk_at "sc");walk_at "sc") | ((with_reducible apply nP);~⟨by decide,by decide,by omega⟩) | ((with_reducible apply gW);(walk_at "sc");walk_at "sc"))
B5 QC(n:Int):oU [.int n]=some (.bl true):=nO rfl (gC (jc (Yz rfl rfl) (aBr (b:=false) (Yz rfl rfl))))
def mW(cs:List vX)(l:List Int)(eX:Int):List Int:=((D2 cs.length).filter fun k=>decide ((at_ cs k).eX=eX)&&!decide ((k:Int)∈l)).map fun k=>((k:Nat):Int)
B5 Az{cs:List vX}{l:List Int}{eX:Int}{x:Int}:x∈mW cs l eX↔0≤x∧x<cs.length∧(at_ cs x.toNat).eX=eX∧x∉l:=by
 B4 mW
 rw[G4]
 constructor
 ·rintro⟨k,hk,rfl⟩
  B3⟨h1,h2⟩:=N7.mp hk
  rw[F5]at h1
  rw[J7,decide_eq_true_iff]at h2
  rw[D7]
  ~⟨by omega,by omega,h2.1,by simpa using h2.2⟩
 ·rintro⟨h0,h1,h2,h3⟩
  &⟨x.toNat,N7.mpr ⟨F5.mpr A6,?_⟩,by omega⟩
  rw[J7,decide_eq_true_iff,show ((x.toNat:Nat):Int)=x by omega]
  ~⟨h2,by simpa using h3⟩
B5 BP(cs:List vX)(l:List Int)(eX:Int):(mW cs l eX).Pairwise (·<·):=by
 B4 mW
 rw[O3]
 ~(R9.sublist R0).imp fun h=>by omega
B5 QD(cs:List vX)(l:List Int)(eX:Int):(mW cs l eX).length≤cs.length:=by
 B4 mW
 rw[B7]
 ~G2 (List.length_filter_le _ _) (by rw[D8];~C6 _)
def Nums(cs:List vX)(ks:List Int):Prop:=ks.Nodup∧∀x∈ks,0≤x∧x<(cs.length:Int)
B5 Nums.len{cs:List vX}{ks:List Int}(h:Nums cs ks):ks.length≤cs.length:=pO _ _ h.1 h.2
structure Bn where
 bO:List (List (List Int))
 asked:List vX
 held:List Int
 nk:List (Int×Int)
 nv:List Int
def uE(p:Int×Int):List Key:=[.inl p.1,.inl p.2]
B5 Hy{a b:Int×Int}(h:uE a=uE b):a=b:=by
 B4 uE at h
 injection h with h1 h2
 injection h2 with h2 _
 injection h1 with h1
 injection h2 with h2
 ~j7 h1 h2
def fU(p:List (List Int)):D:=.lst (p.map dTup)
def mZ(ps:List (List (List Int))):D:=.lst (ps.map fU)
def uF(n:Nat)(cs:List vX)(l:List Int):List D:=(D2 n).map fun p=>aH (mW cs l ((p:Nat):Int))
def BR:List Str:=["panes", "asked", "newest", "held", "unsettled"]
def dY(C:Addr)(a b c d e:D):D:=.ins C BR [a,b,c,d,e]
def jV(C:Addr)(b:Bn)(e:List D):D:=dY C (mZ b.bO) (xO b.asked) (.dt (b.nk.map uE) (b.nv.map D.int)) (Sh b.held) (.lst e)
def dZ(C:Addr)(b:Bn):D:=jV C b (uF b.bO.length b.asked b.held)
B5 Kl:posK BR "panes" = some 0:=by decide +kernel
B5 Km:posK BR "asked" = some 1:=by decide +kernel
B5 Fg:posK BR "newest" = some 2:=by decide +kernel
B5 Rr:posK BR "held" = some 3:=by decide +kernel
B5 BV:posK BR "unsettled" = some 4:=by decide +kernel
section
variable{C:Addr}{a b c d e x:D}
B5 Ce:eQ C "panes" (dY C a b c d e)=some a:=by B4 eQ dY;dsimp only;rw[if_pos rfl,Kl];rfl
B5 wJ:eQ C "asked" (dY C a b c d e)=some b:=by B4 eQ dY;dsimp only;rw[if_pos rfl,Km];rfl
B5 Fi:eQ C "newest" (dY C a b c d e)=some c:=by B4 eQ dY;dsimp only;rw[if_pos rfl,Fg];rfl
B5 QF:eQ C "held" (dY C a b c d e)=some d:=by B4 eQ dY;dsimp only;rw[if_pos rfl,Rr];rfl
B5 jk:eQ C "unsettled" (dY C a b c d e)=some e:=by B4 eQ dY;dsimp only;rw[if_pos rfl,BV];rfl
B5 tZ{s:L2.Step}{d x:D}{j:Nat}(h1:Cy s d=some j)(h2:(kids d)[j]?=some x):eO [s] d=some x:=by B4 eO;rw[h1,C4,h2];rfl
B5 qJ{s:L2.Step}{d x y:D}{j:Nat}(h1:Cy s d=some j)(h2:(kids d)[j]?=some y):dR [s] d x=Gh d ((kids d).set j x):=by
 show (match Cy s d with | some j=>_ | none=>_)=_
 rw[h1]
 show (match (kids d)[j]? with | some c=>_ | none=>_)=_
 rw[h2]
 rfl
B5 Wi{s:L2.Step}{p:List L2.Step}{d y:D}(h:eO [s] d=some y):eO (s::p) d=eO p y:=by
 show ((Cy s d).bind fun j=>((kids d)[j]?).bind (eO p))=eO p y
 B4 eO at h
 B3⟨j,h1,h2⟩:=aY h
 B3⟨z,h3,h4⟩:=aY h2
 B4 eO at h4
 cases h4
 rw[h1,C4,h3,C4]
B5 Wj{s:L2.Step}{p:List L2.Step}{d y x:D}(h:eO [s] d=some y):dR (s::p) d x=dR [s] d (dR p y x):=by
 B4 eO at h
 B3⟨j,h1,h2⟩:=aY h
 B3⟨z,h3,h4⟩:=aY h2
 B4 eO at h4
 cases h4
 rw[qJ h1 h3]
 show (match Cy s d with | some j=>_ | none=>_)=_
 rw[h1]
 show (match (kids d)[j]? with | some c=>_ | none=>_)=_
 rw[h3]
B5 vI{f:Str}{j:Nat}(h:posK BR f=some j):Cy (.fld C f) (dY C a b c d e)=some j:=by
 show (if C=C then posK BR f else none)=some j
 rw[if_pos rfl]
 ~h
B5 Wk:eO [.fld C "panes"] (dY C a b c d e)=some a:=tZ (vI Kl) rfl
B5 wg:eO [.fld C "asked"] (dY C a b c d e)=some b:=tZ (vI Km) rfl
B5 YG:eO [.fld C "newest"] (dY C a b c d e)=some c:=tZ (vI Fg) rfl
B5 aBI:eO [.fld C "held"] (dY C a b c d e)=some d:=tZ (vI Rr) rfl
B5 BW:eO [.fld C "unsettled"] (dY C a b c d e)=some e:=tZ (vI BV) rfl
B5 wj:dR [.fld C "panes"] (dY C a b c d e) x=dY C x b c d e:=qJ (vI Kl) (y:=a) rfl
B5 wk:dR [.fld C "asked"] (dY C a b c d e) x=dY C a x c d e:=qJ (vI Km) (y:=b) rfl
B5 YH:dR [.fld C "newest"] (dY C a b c d e) x=dY C a b x d e:=qJ (vI Fg) (y:=c) rfl
B5 aBJ:dR [.fld C "held"] (dY C a b c d e) x=dY C a b c x e:=qJ (vI Rr) (y:=d) rfl
B5 jl:dR [.fld C "unsettled"] (dY C a b c d e) x=dY C a b c d x:=qJ (vI BV) (y:=e) rfl
B5 Ko{xs:List D}{k:Nat}(h:xs[k]?=some x):eO [.ix k] (.lst xs)=some x:=tZ (s:=.ix k) (d:=.lst xs) (j:=k) rfl h
B5 Rt{xs:List D}{k:Nat}{y:D}(h:xs[k]?=some y):dR [.ix k] (.lst xs) x=.lst (xs.set k x):=qJ (s:=.ix k) (d:=.lst xs) (j:=k) rfl h
end
B5 BX{π:FP}{g:FE}{e:DE}{p:List L2.Step}{k:Int}(h1:π e=some p)(h2:g e=some (.int k))(h3:0≤k):Tj π g e=some (p++[.ix k.toNat]):=by
 B4 Tj
 rw[h1,C4,h2,C4]
 dsimp only
 rw[if_pos h3]
B5 uA{env:EN}{i:Nat}{d0 d:D}{ds:List D}{π:FP}{p:List L2.Step}{f:FE}{C:Addr}{nm:List Str}{x:Str}(h1:env[i]?=some (.own d0))(h2:π (rE env)=some p)(h3:eO p d0=some (.ins C nm ds))(h4:f (rE env)=some d)(hl:nm.length<900)(hx:posK nm x=none):vV C i π x f env=.next (env.set i (.own (dR p d0 (.ins C (nm++[x]) (ds++[d]))))):=by
 rw[aGr h1 h2 h3 h4 hl]
 B4 Vg
 rw[hx]
def lastAt(cs:List vX)(p q:Int):Option Int:=((D2 cs.length).filter fun k=>decide ((at_ cs k).eX=p∧(at_ cs k).place=q)).getLast?.map fun k=>((k:Nat):Int)
B5 Ba(cs:List vX)(c:vX)(p q:Int):lastAt (cs++[c]) p q=if c.eX=p∧c.place=q then some (cs.length:Int)else lastAt cs p q:=by
 B4 lastAt
 have e:(D2 cs.length).filter (fun k=>decide ((at_ (cs++[c]) k).eX=p∧(at_ (cs++[c]) k).place=q))=(D2 cs.length).filter fun k=>decide ((at_ cs k).eX=p∧(at_ cs k).place=q):=i9 fun k hk=>by rw[tQ (F5.mp hk)]
 rw[C7,show cs.length+[c].length=cs.length+1 from rfl,l6,V3,e]
 by_cases h:c.eX=p∧c.place=q
 ·rw[if_pos h,X7 (by rw[xP];~decide_eq_true h),Y4,List.getLast?_concat]
  rfl
 ·rw[if_neg h,X8 (by rw[xP];simpa using h),Y4,F9]
B5 Cg{cs:List vX}{p q k:Int}(h:lastAt cs p q=some k):0≤k∧k<(cs.length:Int)∧(at_ cs k.toNat).eX=p∧(at_ cs k.toNat).place=q:=by
 B4 lastAt at h
 B3⟨j,h1,rfl⟩:=lN h
 have hm:=List.mem_of_getLast? h1
 B3⟨m1,m2⟩:=N7.mp hm
 have:=F5.mp m1
 have m2:=of_decide_eq_true m2
 rw[D7]
 ~⟨by omega,by omega,m2⟩
B5 wK{α β:Type} [DecidableEq α] [DecidableEq β] {φ:α→β} (hi:∀a b,φ a=φ b→a=b) (k:α):∀ks:List α,posK (ks.map φ) (φ k)=posK ks k
 | []=>rfl
 | a::ks=>by
  rw[D3]
  B4 posK
  rw[wK hi k ks]
  by_cases c:a=k
  ·rw[if_pos c,if_pos (by rw[c])]
  ·rw[if_neg c,if_neg fun z=>c (hi _ _ z)]
B5 QG{α β:Type} [DecidableEq α] [DecidableEq β] {φ:α→β} (hi:∀a b,φ a=φ b→a=b) (k:α) (ks:List α):lF (ks.map φ) (φ k)=(lF ks k).map φ:=by
 B4 lF
 rw[wK hi]
 split
 ·rfl
 ·rw[G0];rfl
B5 QH{α β γ δ:Type} [DecidableEq α] [DecidableEq β] {φ:α→β} (hi:∀a b,φ a=φ b→a=b) (ψ:γ→δ) (k:α) (ks:List α) (ds:List γ) (d:γ):putD (ks.map φ) (ds.map ψ) (φ k) (ψ d)=(putD ks ds k d).map ψ:=by
 B4 putD
 rw[wK hi]
 split
 ·rw[List.zipWith_map,List.map_zipWith]
  congr 1
  funext a b
  by_cases c:a=k
  ·rw[if_pos c,if_pos (by rw[c])]
  ·rw[if_neg c,if_neg fun z=>c (hi _ _ z)]
 ·rw[G0];rfl
B5 aGC{α β:Type} [DecidableEq α] {ks:List α} {ds:List β} {k k':α} {d:β} {j:Nat} (h:posK ks k'=some j) (hl:ks.length=ds.length):(Q1 (fun a b=>if a=k then d else b) ks ds)[j]?=if k'=k then some d else ds[j]?:=by
 B3⟨h1,h2⟩:=rN h
 rw[List.getElem?_zipWith,h2,B6 A6]
 show some (if k'=k then d else ds[j])=_
 split<;>rfl
B5 yI{α β:Type} [DecidableEq α] {k k':α} {d:β}:∀{ks:List α} {ds:List β},ks.length=ds.length→((posK (lF ks k) k').bind fun j=>(putD ks ds k d)[j]?)=if k'=k then some d else(posK ks k').bind fun j=>ds[j]?
 | [],ds,h=>by
  cases ds with
  | cons=>simp at h
  | nil=>
   show ((posK [k] k').bind fun j=>[d][j]?)=_
   B4 posK
   by_cases c:k=k'
   ·rw[if_pos c,if_pos c.symm];rfl
   ·rw[if_neg c,if_neg fun z=>c z.symm];rfl
 | a::ks,[],h=>by simp at h
 | a::ks,x::ds,h=>by
  have h':ks.length=ds.length:=by simpa using h
  by_cases c:a=k
  ·have e0:posK (a::ks) k=some 0:=by B4 posK;rw[if_pos c]
   B4 lF putD
   rw[e0]
   simp only[d8,if_true]
   cases q:posK (a::ks) k' with
   | none=>
    have:k'≠k:=fun z=>by rw[z,e0]at q;cases q
    rw[if_neg this]
    rfl
   | some j=>
    rw[C4,aGC q h]
    rfl
  ·have e1:lF (a::ks) k=a::lF ks k:=by
    have e0:posK (a::ks) k=(posK ks k).map (·+1):=by
     show (if a=k then some 0 else(posK ks k).map (·+1))=_
     rw[if_neg c]
    B4 lF
    rw[e0]
    cases posK ks k<;>rfl
   have e2:putD (a::ks) (x::ds) k d=x::putD ks ds k d:=by
    have e0:posK (a::ks) k=(posK ks k).map (·+1):=by
     show (if a=k then some 0 else(posK ks k).map (·+1))=_
     rw[if_neg c]
    B4 putD
    rw[e0]
    cases posK ks k with
    | none=>rfl
    | some j=>
     show (if a=k then d else x)::_=_
     rw[if_neg c]
     rfl
   rw[e1,e2]
   have ih:=yI (k:=k) (k':=k') (d:=d) h'
   show ((if a=k' then some 0 else(posK (lF ks k) k').map (·+1)).bind _)=if k'=k then some d else((if a=k' then some 0 else(posK ks k').map (·+1)).bind _)
   by_cases c2:a=k'
   ·rw[if_pos c2,if_pos c2,if_neg (by rw[←c2];~c)]
    rfl
   ·rw[if_neg c2,if_neg c2]
    have m:∀{γ:Type}(o:Option Nat)(y:γ)(l:List γ),((o.map (·+1)).bind fun j=>(y::l)[j]?)=o.bind fun j=>l[j]?:=fun o y l=>by cases o<;>rfl
    rw[m,m,ih]
structure Fj(b:Bn):Prop where
 good:Good b.asked
 nums:Nums b.asked b.held
 jm:∀k,k<b.asked.length→0≤(at_ b.asked k).eX∧(at_ b.asked k).eX<(b.bO.length:Int)∧0≤(L2.at_ b.asked k).place∧(L2.at_ b.asked k).place<((b.bO.getD (L2.at_ b.asked k).eX.toNat []).length:Int)
 nl:b.nk.length=b.nv.length
 nw:∀p q:Int,((posK b.nk (p,q)).bind fun j=>b.nv[j]?)=lastAt b.asked p q
 few:b.bO.length≤8
 nkl:b.nk.length≤b.asked.length
B5 Wl{ps:List (List (List Int))}{p:Int}(h0:0≤p)(h1:p<(ps.length:Int)):dI (mZ ps) (.int p)=some (fU (ps.getD p.toNat [])):=nZ h0 (by
 rw[B8,tL (d:=[]) (show p.toNat<ps.length by omega)]
 rfl)
B5 Cj(ps:List (List (List Int))):jP [mZ ps]=some (.int ps.length):=by show some (D.int ((ps.map fU).length:Nat))=_;rw[B7]
B5 Hz(ps:List (List Int)):jP [fU ps]=some (.int ps.length):=by show some (D.int ((ps.map dTup).length:Nat))=_;rw[B7]
variable(κ:Nat→Addr)
B5 Ib{b:Bn}{e:List D}{p:Int}(h0:0≤p)(h1:p<(b.bO.length:Int)):jC κ [jV (κ 0) b e,.int p]=some .non:=by
 &En (env':=[.fro (jV (κ 0) b e),.fro (.int p)]) rfl ?_
 B4 yV
 rw[mK]
 ·rfl
 &(rT (Zh rfl rfl (dU (aB (dB rfl Ce) rfl) (Cj _)))).trans ?_
 rw[decide_eq_true h0,decide_eq_true h1]
 rfl
B5 Ds{b:Bn}{e:List D}{p q:Int}(h0:0≤p)(h1:p<(b.bO.length:Int))(h2:0≤q)(h3:q<((b.bO.getD p.toNat []).length:Int)):iJ κ [jV (κ 0) b e,.int p,.int q]=some .non:=by
 &En (env':=[.fro (jV (κ 0) b e),.fro (.int p),.fro (.int q)]) rfl ?_
 B4 wB
 &(fW (env':=[.fro (jV (κ 0) b e),.fro (.int p),.fro (.int q)]) (Gw (d:=.non) ?_)).trans ?_
 ·~bL (nm:=BR) rfl A7 rfl rfl (Ib κ h0 h1)
 rw[mK]
 ·rfl
 &(rT (Zh rfl rfl (dU (aB (aL (dB rfl Ce) rfl (Wl h0 h1)) rfl) (Hz _)))).trans ?_
 rw[decide_eq_true h2,decide_eq_true h3]
 rfl
B5 Bb{b:Bn}{e:List D}{p:Int}(h0:0≤p)(h1:p<(b.asked.length:Int)):gO κ [jV (κ 0) b e,.int p]=some .non:=by
 &En (env':=[.fro (jV (κ 0) b e),.fro (.int p)]) rfl ?_
 B4 uU
 rw[mK]
 ·rfl
 &(rT (Zh rfl rfl (dU (aB (dB rfl wJ) rfl) (Ze _)))).trans ?_
 rw[decide_eq_true h0,decide_eq_true h1]
 rfl
def mG(b:Bn)(p q:Int)(th ns:List Int):vX:=⟨p,q,th,fj (ns++(lastAt b.asked p q).toList)⟩
def Bn.put(b:Bn)(p q:Int)(th ns:List Int):Bn:={b with asked:=b.asked++[mG b p q th ns],nk:=lF b.nk (p,q),nv:=putD b.nk b.nv (p,q) (b.asked.length:Int)}
B5 Wm{cs:List vX}{l:List Int}{c:vX}{p:Int}(h:(cs.length:Int)∉l):mW (cs++[c]) l p=if c.eX=p then mW cs l p++[(cs.length:Int)]else mW cs l p:=by
 B4 mW
 have e:(D2 cs.length).filter (fun k=>decide ((at_ (cs++[c]) k).eX=p)&&!decide ((k:Int)∈l))=(D2 cs.length).filter fun k=>decide ((at_ cs k).eX=p)&&!decide ((k:Int)∈l):=i9 fun k hk=>by rw[tQ (F5.mp hk)]
 rw[C7,show cs.length+[c].length=cs.length+1 from rfl,l6,V3,e,G0]
 by_cases q:c.eX=p
 ·rw[if_pos q,X7 (by rw[xP,decide_eq_true q,decide_eq_false h];rfl)]
  rfl
 ·rw[if_neg q,X8 (by rw[xP,decide_eq_false q];simp),Y4,J2,F9]
B5 aDJ{n:Nat}{cs:List vX}{l:List Int}{c:vX}(h:(cs.length:Int)∉l)(h0:0≤c.eX)(h1:c.eX<(n:Int)):(uF n cs l).set c.eX.toNat (aH (mW cs l c.eX++[(cs.length:Int)]))=uF n (cs++[c]) l:=by
 B4 uF
 apply K6
 intro k
 rw[F8,B7,D8,B8,B8]
 by_cases e:c.eX.toNat=k
 ·rw[if_pos e,if_pos A6,G5 A6,G1,Wm h,if_pos (show c.eX=((k:Nat):Int) by omega),show ((k:Nat):Int)=c.eX by omega]
 ·rw[if_neg e]
  by_cases hk:k<n
  ·rw[G5 hk,G1,G1,Wm h,if_neg A6]
  ·rw[E8 (by rw[D8];omega)]
   rfl
B5 BZ{n:Nat}{cs:List vX}{l:List Int}{p:Int}(h0:0≤p)(h1:p<(n:Int)):(uF n cs l)[p.toNat]?=some (aH (mW cs l p)):=by
 B4 uF
 rw[B8,G5 A6,G1,show ((p.toNat:Nat):Int)=p by omega]
B5 Fj.put{b:Bn}(h:Fj b){p q:Int}{th ns:List Int}(h60:b.asked.length<124)(h0:0≤p)(h1:p<(b.bO.length:Int))(h2:0≤q)(h3:q<((b.bO.getD p.toNat []).length:Int))(hn:∀m∈ns,0≤m∧m<(b.asked.length:Int))(hl:ns.length≤8):Fj (b.put p q th ns):=by
  have aIi:∀m∈(mG b p q th ns).needs,0≤m∧m<(b.asked.length:Int):=fun m hm=>by
    have hm:=(Yn _ _).mp hm
    rcases G7.mp hm with z | z
    · ~hn m z
    · cases e:lastAt b.asked p q with
      | none=>rw[e]at z;cases z
      | some k=>
        rw[e]at z
        rw[E3.mp z]
        have:=Cg e
        ~⟨this.1,this.2.1⟩
  have hlen:(b.put p q th ns).asked.length=b.asked.length+1:=by B4 Bn.put;rw[C7];rfl
  have hcase:∀k,k<(b.put p q th ns).asked.length→(k<b.asked.length∧at_ (b.put p q th ns).asked k=at_ b.asked k)∨(k=b.asked.length∧at_ (b.put p q th ns).asked k=mG b p q th ns):=fun k hk=>by
    rw[hlen]at hk
    rcases J8 k b.asked.length with z | z
    · ~.inl ⟨z,tQ z⟩
    · have e:k=b.asked.length:=by omega
      subst e
      ~.inr ⟨rfl,xP _ _⟩
  &⟨⟨by rw[hlen];omega,fun k hk=>?_⟩,⟨h.nums.1,fun x hx=>?_⟩,fun k hk=>?_,?_,fun p' q'=>?_,h.few,?_⟩
  · rcases hcase k hk with ⟨a,e⟩ | ⟨a,e⟩
    · rw[e];~h.good.2 k a
    · rw[e,a]
      &⟨aIi,VR _,?_⟩
      have:=gf (ns++(lastAt b.asked p q).toList)
      show (fj (ns++(lastAt b.asked p q).toList)).length≤9
      rw[C7]at this
      have:(lastAt b.asked p q).toList.length≤1:=by cases lastAt b.asked p q<;>simp
      omega
  · have:=h.nums.2 x hx
    rw[hlen]
    omega
  · rcases hcase k hk with ⟨a,e⟩ | ⟨a,e⟩
    · have:=h.jm k a
      rw[e]
      ~this
    · rw[e]
      ~⟨h0,h1,h2,h3⟩
  · ~vR h.nl
  · show ((posK (lF b.nk (p,q)) (p',q')).bind fun j=>(putD b.nk b.nv (p,q) (b.asked.length:Int))[j]?)=lastAt (b.asked++[mG b p q th ns]) p' q'
    rw[yI h.nl,Ba,h.nw]
    by_cases c:(p',q')=(p,q)
    · have c1:p'=p:=congrArg Prod.fst c
      have c2:q'=q:=congrArg Prod.snd c
      rw[if_pos c,if_pos ⟨c1.symm,c2.symm⟩]
    · rw[if_neg c,if_neg fun z=>c (j7 z.1.symm z.2.symm)]
  · have:=h.nkl
    rw[hlen]
    show (lF b.nk (p,q)).length≤_
    B4 lF
    split
    · omega
    · rw[C7];simp;omega
B5 aBK{b:Bn}(h:Fj b)(p q:Int):posK (b.nk.map uE) (uE (p,q))=posK b.nk (p,q):=wK (fun _ _=>Hy) _ _
B5 aGD{b:Bn}(h:Fj b){p q:Int}{th ns:List Int}{nd:D}(h0:0≤p)(h1:p<(b.bO.length:Int))(h2:0≤q)(h3:q<((b.bO.getD p.toNat []).length:Int))(hn:∀m∈ns,0≤m∧m<(b.asked.length:Int))(hl:ns.length≤50)(hnd:(nd=.non∧ns=[])∨nd=aH ns):Bw κ [dZ (κ 0) b,.int p,.int q,dTup th,nd]=some (.int b.asked.length,dZ (κ 0) (b.put p q th ns)):=by
  &pD rfl fun v=>?_
  B4 Wg
  &WX (d:=.non) (bL rfl (show ("check_place" : Str)∉BR by decide +kernel) rfl rfl (Ds κ h0 h1 h2 h3)) ?_
  have h60:=h.good.1
  &cN (d:=aH ns) ?_ A9 ?_
  · rcases hnd with ⟨rfl,rfl⟩ | rfl
    · ~aEL (bZ (aL rfl rfl (Bv false .non))) rfl
    · ~aEM (bZ (aL rfl rfl (Bv false (aH ns)))) (dU (aB rfl rfl) (oR (cV ns)))
  &WY (ns:=ns) [.inn v (dZ (κ 0) b),.fro (.int p),.fro (.int q),.fro (dTup th),.fro nd,.own (aH ns),lv ns .no ns.length,.no] rfl rfl (fun v2 k env=>env=[.inn v (dZ (κ 0) b),.fro (.int p),.fro (.int q),.fro (dTup th),.fro nd,.inn v2 (aH ns),lv ns .no k,.no]) (fun v2=>rfl) (fun v2 k env e=>by rw[e];rfl) ?_ (fun v2 env e=>by rw[e];rfl) ?_
  · rintro v2 k x env hx rfl
    &⟨by walk_at "lt", _,Gw (d:=.non) (bL rfl (show ("check_change" : Str)∉BR by decide +kernel) rfl rfl (Bb κ (hn x (D9 hx)).1 (hn x (D9 hx)).2)),?_⟩
    have e:lv ns .no (k+1)=.fro (.int x):=by
      show SD.fro (.int (ns.getD k 0))=_
      rw[mL hx]
    rw[e]
    rfl
  have hkey:∀vv7:SD,Jl (aA (aD 1) (aA (aD 2) aK)) (rE [.inn v (dZ (κ 0) b),.fro (.int p),.fro (.int q),.fro (dTup th),.fro nd,.own (aH ns),lv ns .no ns.length,vv7])=some (uE (p,q)):=fun _=>rfl
  have hin:fB (Tn false (Jl (aA (aD 1) (aA (aD 2) aK))) (pY (eQ (κ 0) "newest") (aD 0))) (rE [.inn v (dZ (κ 0) b),.fro (.int p),.fro (.int q),.fro (dTup th),.fro nd,.own (aH ns),lv ns .no ns.length,.no])=some (posK b.nk (p,q)).isSome:=by
    &bZ ?_
    B4 Tn
    rw[hkey,C4]
    rw[show pY (eQ (κ 0) "newest") (aD 0) (rE [.inn v (dZ (κ 0) b),.fro (.int p),.fro (.int q),.fro (dTup th),.fro nd,.own (aH ns),lv ns .no ns.length,.no])=some (.dt (b.nk.map uE) (b.nv.map D.int))from dB rfl Fi,C4]
    dsimp only
    rw[aBK h]
    rfl
  have hif:qM (fB (Tn false (Jl (aA (aD 1) (aA (aD 2) aK))) (pY (eQ (κ 0) "newest") (aD 0)))) (Eb 5 cW (Qe (pY (eQ (κ 0) "newest") (aD 0)) (Jl (aA (aD 1) (aA (aD 2) aK))))) fG [.inn v (dZ (κ 0) b),.fro (.int p),.fro (.int q),.fro (dTup th),.fro nd,.own (aH ns),lv ns .no ns.length,.no]=.next [.inn v (dZ (κ 0) b),.fro (.int p),.fro (.int q),.fro (dTup th),.fro nd,.own (aH (ns++(lastAt b.asked p q).toList)),lv ns .no ns.length,.no]:=by
    have hw:=h.nw p q
    cases e:posK b.nk (p,q)with
    | none=>
      rw[e]at hin hw
      rw[mK hin,←hw]
      show SR.next _=SR.next _
      rw[show ((none:Option Nat).bind fun j=>b.nv[j]?)=none from rfl]
      show SR.next _=SR.next [_,_,_,_,_,.own (aH (ns++[])),_,_]
      rw[F9]
    | some j=>
      rw[e]at hin hw
      B3⟨j1,j2⟩:=rN e
      have hj:j<b.nv.length:=by rw[←h.nl];~j1
      rw[vW hin,←hw,C4,B6 hj]
      &(aGk (ds:=ns.map D.int) (d:=.int b.nv[j]) rfl ?_ (by rw[B7];omega)).trans ?_
      · B4 Qe
        rw[show pY (eQ (κ 0) "newest") (aD 0) (rE [.inn v (dZ (κ 0) b),.fro (.int p),.fro (.int q),.fro (dTup th),.fro nd,.own (aH ns),lv ns .no ns.length,.no])=some (.dt (b.nk.map uE) (b.nv.map D.int))from dB rfl Fi,C4,hkey,C4]
        dsimp only
        rw[aBK h,e,C4,B8,B6 hj]
        rfl
      · rw[El]
        rfl
  &Tp hif ?_
  have h4:(ns++(lastAt b.asked p q).toList).length≤51:=by
    rw[C7]
    have:(lastAt b.asked p q).toList.length≤1:=by cases lastAt b.asked p q<;>simp
    omega
  &cN (d:=.int b.asked.length) (dU (aB (dB rfl wJ) rfl) (Ze _)) A9 ?_
  &pF (d:=dZ (κ 0) b) rfl (Qp (d0:=dZ (κ 0) b) (ds:=b.asked.map DK) (d:=DK (mG b p q th ns)) rfl rfl wg ?_ (by rw[B7];omega)) rfl ?_
  · ~oE (aB (bH rfl rfl) (aB (bH rfl rfl) (aB (bH rfl (lU th)) (aB (dU (aB (dB rfl (WR A6)) rfl) (LR _)) rfl)))) A9
  rw[show dR ([]++[L2.Step.fld (κ 0) "asked"]) (dZ (κ 0) b) (.lst (b.asked.map DK++[DK (mG b p q th ns)]))=dY (κ 0) (mZ b.bO) (xO (b.asked++[mG b p q th ns])) (.dt (b.nk.map uE) (b.nv.map D.int)) (Sh b.held) (.lst (uF b.bO.length b.asked b.held))from by rw[vd];~wk]
  &pF rfl (aDH (d:=.int b.asked.length) (k:=uE (p,q)) rfl rfl YG rfl rfl rfl (by
    have:=h.nl
    rw[B7]
    have:=h.nkl
    omega)) rfl ?_
  rw[show dR ([]++[L2.Step.fld (κ 0) "newest"]) (dY (κ 0) (mZ b.bO) (xO (b.asked++[mG b p q th ns])) (.dt (b.nk.map uE) (b.nv.map D.int)) (Sh b.held) (.lst (uF b.bO.length b.asked b.held))) (.dt (lF (b.nk.map uE) (uE (p,q))) (putD (b.nk.map uE) (b.nv.map D.int) (uE (p,q)) (.int b.asked.length)))=dY (κ 0) (mZ b.bO) (xO (b.asked++[mG b p q th ns])) (.dt ((lF b.nk (p,q)).map uE) ((putD b.nk b.nv (p,q) (b.asked.length:Int)).map D.int)) (Sh b.held) (.lst (uF b.bO.length b.asked b.held))from by
    rw[QG (fun _ _=>Hy),QH (fun _ _=>Hy) D.int]
    ~YH]
  &pF rfl (Qp (p:=[L2.Step.fld (κ 0) "unsettled", .ix p.toNat]) (ds:=(mW b.asked b.held p).map D.int) (d:=.int b.asked.length) rfl ?_ ((Wi BW).trans (Ko (BZ h0 h1))) (bH rfl rfl) ?_) rfl ?_
  · show (if 0≤p then _ else _)=_
    rw[if_pos h0]
    rfl
  · rw[B7]
    have:=QD b.asked b.held p
    omega
  &Nh rfl ⟨_,.inl rfl,?_⟩
  show some (SD.inn v (dR [L2.Step.fld (κ 0) "unsettled", .ix p.toNat] _ _))=some (SD.inn v _)
  rw[Wj BW,Rt (BZ h0 h1),jl]
  have hnot:(b.asked.length:Int)∉b.held:=fun z=>by
    have:=h.nums.2 _ z
    omega
  have e:=aDJ (n:=b.bO.length) (c:=mG b p q th ns) hnot h0 h1
  rw[←El]at e
  rw[show p.toNat=(mG b p q th ns).eX.toNat from rfl,show mW b.asked b.held p=mW b.asked b.held (mG b p q th ns).eX from rfl,e]
  rfl
B5 aDK{uB:List (List (List Int))}(hl:uB.length≤8):tU κ [.ins (κ 0) [] [],mZ uB]=some (.non,dZ (κ 0) ⟨uB,[],[],[],[]⟩):=by
 &pD rfl fun v=>?_
 B4 Qv
 have h1:gF (lM (aD 1)) [] jN (fL dList (aA (aD 0) aK)) (rE ([.inn v (.ins (κ 0) [] []),.fro (mZ uB)].set 0 (.own (.ins (κ 0) [] []))))=some (mZ uB):=Br (xs:=uB) (ψ:=fU) (φ:=fU) (iV rfl) A6 fun x _=>dU (aB rfl rfl) (oR (Qm fun d hd=>by
  B3⟨t,_,rfl⟩:=G4.mp hd
  ~lU t))
 &pF rfl (uA (p:=[]) (nm:=[]) rfl rfl rfl h1 A8 rfl) rfl ?_
 &pF rfl (uA (p:=[]) (nm:=["panes"]) (d:=xO []) rfl rfl rfl rfl A8 A7) rfl ?_
 &pF rfl (uA (p:=[]) (nm:=["panes", "asked"]) (d:=.dt [] []) rfl rfl rfl rfl A8 A7) rfl ?_
 &pF rfl (uA (p:=[]) (nm:=["panes", "asked", "newest"]) (d:=Sh []) rfl rfl rfl rfl A8 A7) rfl ?_
 &WW rfl (uA (p:=[]) (nm:=["panes", "asked", "newest", "held"]) (d:=.lst (uB.map fun _=>aH [])) rfl rfl rfl (Br (xs:=uB) (ψ:=fU) (φ:=fun _=>aH []) (iV rfl) A6 fun x _=>rfl) A8 A7) rfl ⟨_,.inr ⟨rfl,rfl⟩,?_⟩
 have e:(uB.map fun _=>aH [])=uF uB.length [] []:=by
  B4 uF
  apply K6
  intro k
  rw[B8,B8]
  by_cases hk:k<uB.length
  ·rw[B6 hk,G5 hk]
   rfl
  ·rw[E8 A6,E8 (by rw[D8];omega)]
   rfl
 B4 dZ jV
 dsimp only
 rw[←e]
 rfl
B5 Fj.init{uB:List (List (List Int))}(hl:uB.length≤8):Fj ⟨uB,[],[],[],[]⟩:=⟨⟨N4 _,fun k hk=>absurd hk (L7 _)⟩,⟨Z6,fun x hx=>by cases hx⟩,fun k hk=>absurd hk (L7 _),rfl,fun p q=>rfl,hl,C6 _⟩
def val(ps:List (List (List Int)))(p q:Nat):List Int:=(ps.getD p []).getD q []
def topOf(cs:List vX)(d:List Int):Option Int→List Int
 | some k=>(at_ cs k.toNat).thing
 | none=>d
B5 jn{b:Bn}(p q:Int):posK (b.nk.map uE) (uE (p,q))=posK b.nk (p,q):=wK (fun _ _=>Hy) _ _
def face(b:Bn)(p q:Int):List Int:=topOf b.asked (val b.bO p.toNat q.toNat) (lastAt b.asked p q)
B5 aBL{ps:List (List Int)}{q:Int}(h0:0≤q)(h1:q<(ps.length:Int)):dI (fU ps) (.int q)=some (dTup (ps.getD q.toNat [])):=nZ h0 (by
 rw[B8,tL (d:=[]) (show q.toNat<ps.length by omega)]
 rfl)
B5 aDL{b:Bn}(h:Fj b){p q:Int}(h0:0≤p)(h1:p<(b.bO.length:Int))(h2:0≤q)(h3:q<((b.bO.getD p.toNat []).length:Int)):tW κ [dZ (κ 0) b,.int p,.int q]=some (dTup (face b p q)):=by
 suffices hh:∃d,tW κ [dZ (κ 0) b,.int p,.int q]=some d∧d=dTup (face b p q) by
  B3⟨d,e1,rfl⟩:=hh
  ~e1
 &jg rfl ?_
 B4 Qz
 &WX (d:=.non) (bL rfl (show ("check_place" : Str)∉BR by decide +kernel) rfl rfl (Ds κ h0 h1 h2 h3)) ?_
 have hkey:Jl (aA (aD 1) (aA (aD 2) aK)) (rE [.fro (dZ (κ 0) b),.fro (.int p),.fro (.int q)])=some (uE (p,q)):=rfl
 have hnw:pY (eQ (κ 0) "newest") (aD 0) (rE [.fro (dZ (κ 0) b),.fro (.int p),.fro (.int q)])=some (.dt (b.nk.map uE) (b.nv.map D.int)):=dB rfl Fi
 have hin:fB (Tn false (Jl (aA (aD 1) (aA (aD 2) aK))) (pY (eQ (κ 0) "newest") (aD 0))) (rE [.fro (dZ (κ 0) b),.fro (.int p),.fro (.int q)])=some (posK b.nk (p,q)).isSome:=by
  &bZ ?_
  B4 Tn
  rw[hkey,C4,hnw,C4]
  dsimp only
  rw[jn]
  rfl
 have hw:=h.nw p q
 B4 face
 cases e:posK b.nk (p,q)with
 | some j=>
  rw[e]at hin hw
  B3⟨j1,j2⟩:=rN e
  have hj:j<b.nv.length:=by rw[←h.nl];~j1
  rw[C4,B6 hj]at hw
  have hl:=Cg hw.symm
  rw[←hw]
  &aIe hin rfl ?_
  have hg:Qe (pY (eQ (κ 0) "newest") (aD 0)) (Jl (aA (aD 1) (aA (aD 2) aK))) (rE [.fro (dZ (κ 0) b),.fro (.int p),.fro (.int q)])=some (.int b.nv[j]):=by
   B4 Qe
   rw[hnw,C4,hkey,C4]
   dsimp only
   rw[jn,e,C4,B8,B6 hj]
   rfl
  have hc:dI (xO b.asked) (.int b.nv[j])=some (DK (at_ b.asked b.nv[j].toNat)):=by
   have:=Zd (cs:=b.asked) (k:=b.nv[j].toNat) A6
   rw[show ((b.nv[j].toNat:Nat):Int)=b.nv[j] by omega]at this
   ~this
  ~Vt (bH (aL (aL (dB rfl wJ) hg hc) rfl (Qo _)) (lU _)) ⟨_,rfl,rfl⟩
 | none=>
  rw[e]at hin hw
  rw[←hw]
  &pB hin rfl ?_
  apply vG
  ~pC (bH (aL (aL (dB rfl Ce) rfl (Wl h0 h1)) rfl (aBL h2 h3)) (lU _)) ⟨_,rfl,rfl⟩
def aIj(cs:List vX)(l:List Int)(eX:Int)(r:List Int):Prop:=r.Pairwise (·<·)∧r.length≤cs.length∧∀x,x∈r↔(0≤x∧x<cs.length∧(at_ cs x.toNat).eX=eX∧x∉l)∧∀m∈(at_ cs x.toNat).needs,m∈l∨m∈r
B5 aBM{cs:List vX}{ks nums:List Int}(hg:Good cs)(hu:nums.Pairwise (·<·))(hn:∀x∈nums,0≤x∧x<cs.length)(hl:nums.length≤124):∃r,tV [xO cs,Sh ks,aH nums]=some (aH r)∧r.Pairwise (·<·)∧r.length≤nums.length∧∀x,x∈r↔x∈nums∧∀m∈(at_ cs x.toNat).needs,m∈ks∨m∈r:=by
  suffices h:∃d,tV [xO cs,Sh ks,aH nums]=some d∧∃r,d=aH r∧r.Pairwise (·<·)∧r.length≤nums.length∧∀x,x∈r↔x∈nums∧∀m∈(at_ cs x.toNat).needs,m∈ks∨m∈r by
    B3⟨d,h1,r,rfl,h2⟩:=h
    ~⟨r,h1,h2⟩
  &qU rfl ?_
  B4 Qy
  &cN (d:=Sh []) rfl A9 ?_
  &aBy (xs:=nums.map D.int) (fun n env=>∃(r:List Int)(v:SD),env=[.fro (xO cs),.fro (Sh ks),.fro (aH nums),.own (Sh r),v]∧r.Pairwise (·<·)∧r.length≤n∧∀x,x∈r↔x∈nums.take n∧∀m∈(at_ cs x.toNat).needs,m∈ks∨m∈r) rfl (iV rfl) ⟨[],_,rfl,.nil,C6 _,fun x=>by simp⟩ ?_ ?_
  · rintro n x env hx ⟨r,v,rfl,h1,h2,h3⟩
    &⟨by walk_at "lt", ?_⟩
    rw[B8]at hx
    cases qq:nums[n]? with
    | none=>rw[qq]at hx;cases hx
    | some y=>
      rw[qq]at hx
      cases hx
      have hnl:=(D1.mp qq).1
      have hy:=hn y (D9 qq)
      B3⟨k,rfl⟩:∃k:Nat,y=k:=⟨y.toNat,by omega⟩
      have hk:k<cs.length:=by omega
      B3⟨g1,g2,g3⟩:=hg.2 k hk
      have hc:=Zd (cs:=cs) hk
      have htk:nums.take (n+1)=nums.take n++[(k:Int)]:=by rw[W3,qq];rfl
      have lt:∀z∈nums.take n,z<(k:Int):=fun z hz=>by
        have hu':=hu.sublist (O0 (n+1) nums)
        rw[htk]at hu'
        ~(K9.mp hu').2.2 z hz k (by simp)
      have rlt:∀z∈r,z<(k:Int):=fun z hz=>lt z ((h3 z).mp hz).1
      have Ln:=Bu (fi:=lM (f2 dI (f2 dI (aD 0) (aD 4)) (fC (.int 3)))) (fr:=[1,3]) (fc:=jN) (fe:=Tg (f2 (Ge false) (aD 0) (aD 1)) (f2 (Ge false) (aD 0) (aD 2))) (e:=rE [.fro (xO cs),.fro (Sh ks),.fro (aH nums),.own (Sh r),.fro (.int (k:Int))]) (ms:=(at_ cs k).needs) (fun _=>true) (fun m=>.bl (decide (m∈ks)||decide (m∈r)))
        (vf (aL (aL rfl rfl hc) rfl (MN _))) A6 (fun m hm=>rfl) fun m hm _=>jf (aL rfl rfl (Zc false m ks)) (aL rfl rfl (Zc false m r))
      rw[N0.mpr fun _ _=>rfl]at Ln
      have hall:=MT (fun m:Int=>decide (m∈ks)||decide (m∈r)) (at_ cs k).needs
      apply aBw (b:=(at_ cs k).needs.all fun m=>decide (m∈ks)||decide (m∈r))
      · ~bZ (dU (aB Ln rfl) hall)
      · intro hb
        have hb:∀m∈(at_ cs k).needs,m∈ks∨m∈r:=fun m hm=>by simpa using M3.mp hb m hm
        have hnr:(k:Int)∉r:=fun z=>by
          have:=rlt _ z
          omega
        have e:WQ r k=r++[(k:Int)]:=by B4 WQ;rw[if_neg hnr]
        have hp:=aIg (i:=3) (f:=aD 4) (f':=fC (.bl true)) (env:=[.fro (xO cs),.fro (Sh ks),.fro (aH nums),.own (Sh r),.fro (.int (k:Int))]) (ks:=r) (k:=k) rfl rfl rfl A6
        rw[e]at hp
        &⟨_,hp,r++[(k:Int)],_,rfl,?_,by rw[C7];simp;omega,fun z=>?_⟩
        · &K9.mpr ⟨h1,by simp,fun z hz w hw=>?_⟩
          rw[E3.mp hw]
          ~rlt z hz
        · rw[htk,G7,G7]
          constructor
          · rintro(z1 | z1)
            · B3⟨a1,a2⟩:=(h3 z).mp z1
              ~⟨.inl a1,fun m hm=>(a2 m hm).imp id fun q=>N8 _ q⟩
            · rw[E3.mp z1,D7]
              ~⟨.inr (by simp),fun m hm=>(hb m hm).imp id fun q=>N8 _ q⟩
          · rintro⟨z1,z2⟩
            rcases z1 with z1 | z1
            · &.inl ((h3 z).mpr ⟨z1,fun m hm=>(z2 m hm).imp id fun q=>?_⟩)
              rcases G7.mp q with q | q
              · ~q
              · exfalso
                have a:=lt z z1
                have zr:=hn z (M5 z1)
                have b:=(hg.2 z.toNat A6).1 m hm
                rw[E3.mp q]at b
                omega
            · ~.inr z1
      · intro hb
        have hb:¬∀m∈(at_ cs k).needs,m∈ks∨m∈r:=fun z=>by
          have:((at_ cs k).needs.all fun m=>decide (m∈ks)||decide (m∈r))=true:=M3.mpr fun m hm=>by simpa using z m hm
          rw[this]at hb
          cases hb
        apply aBv
        &⟨_,rfl,r,_,rfl,h1,by omega,fun z=>?_⟩
        rw[htk,G7]
        constructor
        · intro z1
          B3⟨a1,a2⟩:=(h3 z).mp z1
          ~⟨.inl a1,a2⟩
        · rintro⟨z1,z2⟩
          rcases z1 with z1 | z1
          · ~(h3 z).mpr ⟨z1,z2⟩
          · rw[E3.mp z1,D7]at z2
            ~absurd z2 hb
  · rintro env ⟨r,v,rfl,h1,h2,h3⟩
    rw[B7]at h2 h3
    rw[T0]at h3
    ~pC (dU (aB rfl rfl) (aBB r)) ⟨_,rfl,r,rfl,h1,h2,h3⟩
def Bn.strike(b:Bn)(k:Int):Bn:={b with bO:=b.bO.set (at_ b.asked k.toNat).eX.toNat ((b.bO.getD (at_ b.asked k.toNat).eX.toNat []).set (at_ b.asked k.toNat).place.toNat (at_ b.asked k.toNat).thing),held:=b.held++[k]}
def Bn.cP(b:Bn)(ks:List Int):Bn:=ks.foldl Bn.strike b
B5 nQ(ks:List Int):∀b:Bn,(b.cP ks).asked=b.asked:=by
 induction ks with
 | nil=>intro b;rfl
 | cons k ks ih=>intro b;~(ih (b.strike k)).trans rfl
B5 yJ(ks:List Int):∀b:Bn,(b.cP ks).held=b.held++ks:=by
 induction ks with
 | nil=>intro b;~(F9 _).symm
 | cons k ks ih=>intro b;~(ih (b.strike k)).trans (by show (b.held++[k])++ks=_;rw[P8];rfl)
B5 YJ(ks:List Int):∀b:Bn,(b.cP ks).nk=b.nk∧(b.cP ks).nv=b.nv:=by
 induction ks with
 | nil=>intro b;~⟨rfl,rfl⟩
 | cons k ks ih=>intro b;~ih (b.strike k)
B5 CG(b:Bn)(k:Int):(b.strike k).bO.length=b.bO.length∧∀p:Nat,((b.strike k).bO.getD p []).length=(b.bO.getD p []).length:=by
 B4 Bn.strike
 &⟨by rw[J5],fun p=>?_⟩
 dsimp only
 simp only[B9,F8]
 split
 ·rename_i c
  split
  ·rename_i l
   rw[S9,J5,c]
  ·rename_i l
   rw[E8 (show b.bO.length≤p by omega)]
 ·rfl
B5 nR(ks:List Int):∀b:Bn,(b.cP ks).bO.length=b.bO.length∧∀p:Nat,((b.cP ks).bO.getD p []).length=(b.bO.getD p []).length:=by
 induction ks with
 | nil=>intro b;~⟨rfl,fun _=>rfl⟩
 | cons k ks ih=>
  intro b
  have a:=ih (b.strike k)
  have c:=CG b k
  ~⟨a.1.trans c.1,fun p=>(a.2 p).trans (c.2 p)⟩
B5 CJ(b:Bn)(ks:List Int)(k:Int):b.cP (ks++[k])=(b.cP ks).strike k:=by
 B4 Bn.cP
 rw[i4]
 rfl
B5 Fj.cP{b:Bn}(h:Fj b){r:List Int}(hu:r.Nodup)(hm:∀x∈r,0≤x∧x<(b.asked.length:Int))(hn:∀x∈r,x∉b.held):Fj (b.cP r):=by
 have e1:=nQ r b
 have e2:=yJ r b
 have e3:=YJ r b
 have e4:=nR r b
 &⟨by rw[e1];~h.good,?_,fun k hk=>?_,?_,fun p q=>?_,by rw[e4.1];~h.few,?_⟩
 ·rw[e1,e2]
  &⟨O1.mpr ⟨h.nums.1,hu,fun a ha c hc z=>hn c hc (z▸ha)⟩,fun x hx=>?_⟩
  rcases G7.mp hx with z | z
  ·~h.nums.2 x z
  ·~hm x z
 ·rw[e1]at hk ⊢
  rw[e4.1,e4.2]
  ~h.jm k hk
 ·rw[e3.1,e3.2];~h.nl
 ·rw[e3.1,e3.2,e1];~h.nw p q
 ·rw[e3.1,e1];~h.nkl
B5 YK(ps:List (List (List Int)))(k:Nat)(p:List (List Int)):D.lst ((ps.map fU).set k (fU p))=mZ (ps.set k p):=by B4 mZ;rw[R7]
B5 wu(ps:List (List Int))(k:Nat)(t:List Int):D.lst ((ps.map dTup).set k (dTup t))=fU (ps.set k t):=by B4 fU;rw[R7]
B5 aDM{ks:List Int}{k:Int}(h:k∉ks):D.dk (lF (ks.map (F2:Int→Key)) (F2 k)) (putD (ks.map (F2:Int→Key)) (ks.map fun _=>D.bl true) (F2 k) (.bl true))=Sh (ks++[k]):=by
 B4 lF putD Sh
 rw[Ah h]
 simp only[Option.isSome_none,U9,if_false,G0]
 rfl
B5 wy{b:Bn}{e:List D}{k:Int}(h0:0≤k)(h1:k<(b.asked.length:Int))(hl:b.held.length≤1000)(hs:0≤(at_ b.asked k.toNat).eX∧(at_ b.asked k.toNat).eX<(b.bO.length:Int)∧0≤(at_ b.asked k.toNat).place∧(at_ b.asked k.toNat).place<((b.bO.getD (at_ b.asked k.toNat).eX.toNat []).length:Int))(hn:k∉b.held):rW κ [jV (κ 0) b e,.int k]=some (.non,jV (κ 0) (b.strike k) e):=by
 &pD rfl fun v=>?_
 B4 Gy
 have hc:dI (xO b.asked) (.int k)=some (DK (at_ b.asked k.toNat)):=by
  have:=Zd (cs:=b.asked) (k:=k.toNat) A6
  rw[show ((k.toNat:Nat):Int)=k by omega]at this
  ~this
 &cN (d:=DK (at_ b.asked k.toNat)) (bH (aL (dB rfl wJ) rfl hc) (aGq _)) A9 ?_
 B4 Bn.strike
 generalize at_ b.asked k.toNat=c at *
 have hp:(b.bO.map fU)[c.eX.toNat]?=some (fU (b.bO.getD c.eX.toNat [])):=by
  rw[B8,tL (d:=[]) (show c.eX.toNat<b.bO.length by omega)]
  rfl
 &pF rfl (Zf (p:=[L2.Step.fld (κ 0) "panes", .ix c.eX.toNat]) (k:=c.place) (ds:=(b.bO.getD c.eX.toNat []).map dTup) (d:=dTup c.thing) rfl ?_ ((Wi Wk).trans (Ko hp)) (aL rfl rfl (MK c)) (bH (aL rfl rfl (Qo c)) (lU _)) hs.2.2.1 (by rw[B7];~hs.2.2.2)) rfl ?_
 ·~BX (p:=[L2.Step.fld (κ 0) "panes"]) rfl (aL rfl rfl (je c)) hs.1
 rw[wu]
 rw[show dR [L2.Step.fld (κ 0) "panes", .ix c.eX.toNat] (jV (κ 0) b e) (fU ((b.bO.getD c.eX.toNat []).set c.place.toNat c.thing))=dY (κ 0) (mZ (b.bO.set c.eX.toNat ((b.bO.getD c.eX.toNat []).set c.place.toNat c.thing))) (xO b.asked) (.dt (b.nk.map uE) (b.nv.map D.int)) (Sh b.held) (.lst e)from by
  B4 jV
  rw[Wj Wk]
  B4 mZ
  rw[Rt hp,wj,YK]
  rfl]
 &WW rfl (Nf (d:=.bl true) (k:=F2 k) (kd:=.int k) rfl rfl aBI rfl rfl rfl rfl (by rw[B7];omega)) rfl ⟨_,.inr ⟨rfl,rfl⟩,?_⟩
 show some (SD.inn v (dR [L2.Step.fld (κ 0) "held"] _ _))=some (SD.inn v _)
 rw[aBJ,aDM hn]
 rfl
B5 aBN{b:Bn}(h:Fj b){p:Int}{most:D}(h0:0≤p)(h1:p<(b.bO.length:Int))(hmo:most=.non∨∃m:Int,most=.int m):∃r,aIj b.asked b.held p r∧∀taken,(most=.non→taken=r)→(∀m:Int,most=.int m→taken=r.take m.toNat)→uT κ [dZ (κ 0) b,.int p,most]=some (aH taken,dZ (κ 0) (b.cP taken)):=by
 have h60:=h.good.1
 have hk:=h.nums.len
 have hnl:=QD b.asked b.held p
 B3⟨r,hr,r1,r2,r3⟩:=aBM (ks:=b.held) h.good (BP b.asked b.held p) (fun x hx=>by have:=Az.mp hx;~⟨this.1,this.2.1⟩) A6
 have hR:aIj b.asked b.held p r:=⟨r1,by omega,fun x=>by rw[r3,Az]⟩
 &⟨r,hR,fun taken t1 t2=>?_⟩
 have hsub:∃n,taken=r.take n:=by
  rcases hmo with z | ⟨m,z⟩
  ·~⟨r.length,by rw[t1 z,T0]⟩
  ·~⟨_,t2 m z⟩
 have htm:∀x∈taken,x∈r:=fun x hx=>by
  B3⟨n,rfl⟩:=hsub
  ~M5 hx
 have htu:taken.Pairwise (·<·):=by
  B3⟨n,rfl⟩:=hsub
  ~r1.sublist (O0 _ _)
 have htl:taken.length≤124:=by
  B3⟨n,rfl⟩:=hsub
  rw[J0]
  omega
 have htr:∀x∈taken,0≤x∧x<(b.asked.length:Int)∧(at_ b.asked x.toNat).eX=p∧x∉b.held:=fun x hx=>((hR.2.2 x).mp (htm x hx)).1
 &pD rfl fun v=>?_
 B4 Li
 &WX (d:=.non) (bL rfl (show ("check_pane" : Str)∉BR by decide +kernel) rfl rfl (Ib κ h0 h1)) ?_
 &cN (d:=aH r) (bR (aB (dB rfl wJ) (aB (dB rfl QF) (aB (aL (dB rfl jk) rfl (nZ h0 (BZ h0 h1))) rfl))) rfl hr) A9 ?_
 have hif:qM (fB (f2 (zM true) (aD 2) (fC .non))) (dG 3 (xx true (aD 3) (UT) (qR (fL HX (aA (aD 2) (aA (fC (.int 0)) aK)))))) fG [.inn v (dZ (κ 0) b),.fro (.int p),.fro most,.own (aH r),.no]=.next [.inn v (dZ (κ 0) b),.fro (.int p),.fro most,.own (aH taken),.no]:=by
  rcases hmo with rfl | ⟨m,rfl⟩
  ·rw[mK (bZ (aL rfl rfl (Bv true .non))),t1 rfl]
   rfl
  ·rw[vW (bZ (aL rfl rfl (Bv true (.int m))))]
   &xG (d:=aH taken) ((MJ rfl rfl (Jr (dU (aB rfl (aB rfl rfl)) (Vx _ _)))).trans ?_) A9
   rw[t2 m rfl,show (if(0:Int) > m then(0:Int)else m)=((m.toNat:Nat):Int) by split<;>omega,aGp]
 &Tp hif ?_
 &WY (ns:=taken) [.inn v (jV (κ 0) (b.cP taken) (uF b.bO.length b.asked b.held)),.fro (.int p),.fro most,.own (aH taken),lv taken .no taken.length] rfl rfl (fun v2 k env=>env=[.inn v (jV (κ 0) (b.cP (taken.take k)) (uF b.bO.length b.asked b.held)),.fro (.int p),.fro most,.inn v2 (aH taken),lv taken .no k]) (fun v2=>rfl) (fun v2 k env e=>by rw[e];rfl) ?_ (fun v2 env e=>by rw[e,T0];rfl) ?_
 ·rintro v2 k x env hx rfl
  &⟨by walk_at "lt", ?_⟩
  have hxm:=htr x (D9 hx)
  have e1:=nQ (taken.take k) b
  have e2:=yJ (taken.take k) b
  have e4:=nR (taken.take k) b
  have hnx:taken.take (k+1)=taken.take k++[x]:=by rw[W3,hx];rfl
  have hst:=wy κ (b:=b.cP (taken.take k)) (e:=uF b.bO.length b.asked b.held) (k:=x) hxm.1 (by rw[e1];~hxm.2.1) (by rw[e2,C7,J0];omega) (by rw[e1,e4.1,e4.2];~h.jm x.toNat A6) (by
   rw[e2,G7]
   rintro(z | z)
   ·~hxm.2.2.2 z
   ·have hu:=htu.sublist (O0 (k+1) taken)
    rw[hnx]at hu
    have:=(K9.mp hu).2.2 x z x (by simp)
    omega)
  &⟨_,Vy (lA (d0:=jV (κ 0) (b.cP (taken.take k)) (uF b.bO.length b.asked b.held)) (p:=[]) (nm:=BR) rfl rfl rfl A7 rfl hst),?_⟩
  have e:lv taken .no (k+1)=.fro (.int x):=by
   show SD.fro (.int (taken.getD k 0))=_
   rw[mL hx]
  rw[e,hnx,CJ]
  rfl
 have e1:=nQ taken b
 have e2:=yJ taken b
 have e4:=nR taken b
 have Ln:=tO (fi:=lM (f2 dI (pY (eQ (κ 0) "unsettled") (aD 0)) (aD 1))) (fr:=[0]) (fc:=fB (f2 (Ge true) (aD 0) (pY (eQ (κ 0) "held") (aD 1)))) (fe:=cO (aD 0)) (e:=rE ([.inn v (jV (κ 0) (b.cP taken) (uF b.bO.length b.asked b.held)),.fro (.int p),.fro most,.own (aH taken),lv taken .no taken.length].set 0 (.own (jV (κ 0) (b.cP taken) (uF b.bO.length b.asked b.held))))) (ms:=mW b.asked b.held p) (fun m=>!decide (m∈(b.cP taken).held)) id
  (iV (aL (dB rfl jk) rfl (nZ h0 (BZ h0 h1)))) A6 (fun m hm=>bZ (aL rfl (dB rfl QF) (Zc true m _))) fun m hm _=>bH rfl rfl
 rw[List.map_id]at Ln
 have hun:∀q:Int,mW b.asked (b.held++taken) q=(mW b.asked b.held q).filter fun m=>!decide (m∈b.held++taken):=fun q=>by
  &uZ (BP _ _ _) ((BP _ _ _).sublist R0) fun x=>?_
  rw[Az,N7,Az]
  constructor
  ·rintro⟨a1,a2,a3,a4⟩
   ~⟨⟨a1,a2,a3,fun z=>a4 (N8 _ z)⟩,by rw[decide_eq_false a4];rfl⟩
  ·rintro⟨⟨a1,a2,a3,a4⟩,a5⟩
   ~⟨a1,a2,a3,by simpa using a5⟩
 have hoth:∀q:Int,q≠p→mW b.asked (b.held++taken) q=mW b.asked b.held q:=fun q hq=>by
  rw[hun]
  &N0.mpr fun x hx=>?_
  have hx:=Az.mp hx
  have:x∉b.held++taken:=fun z=>by
   rcases G7.mp z with z | z
   ·~hx.2.2.2 z
   ·~hq (hx.2.2.1.symm.trans (htr x z).2.2.1)
  rw[decide_eq_false this]
  rfl
 rw[e2,←hun]at Ln
 &pF rfl (Zf (p:=[L2.Step.fld (κ 0) "unsettled"]) (k:=p) (ds:=uF b.bO.length b.asked b.held) rfl rfl BW rfl Ln h0 (by B4 uF;rw[B7,D8];~h1)) rfl ?_
 &Nh rfl ⟨_,.inl rfl,?_⟩
 show some (SD.inn v (dR [L2.Step.fld (κ 0) "unsettled"] (jV (κ 0) (b.cP taken) _) _))=some (SD.inn v _)
 B4 dZ jV
 rw[jl,e1,e2,e4.1]
 have hl:(uF b.bO.length b.asked b.held).set p.toNat (aH (mW b.asked (b.held++taken) p))=uF b.bO.length b.asked (b.held++taken):=by
  B4 uF
  apply K6
  intro k
  rw[F8,B7,D8,B8,B8]
  by_cases e:p.toNat=k
  ·rw[if_pos e,if_pos A6,G5 A6,G1,show ((k:Nat):Int)=p by omega]
  ·rw[if_neg e]
   by_cases hk:k<b.bO.length
   ·rw[G5 hk,G1,G1,hoth _ A6]
   ·rw[E8 (by rw[D8];omega)]
    rfl
 rw[hl]
B5 YL{b:Bn}{k:Int}{p q:Nat}(h:¬((at_ b.asked k.toNat).eX.toNat=p∧(at_ b.asked k.toNat).place.toNat=q)):val (b.strike k).bO p q=val b.bO p q:=by
 B4 val Bn.strike
 generalize at_ b.asked k.toNat=c at *
 dsimp only
 simp only[B9,F8]
 by_cases e:c.eX.toNat=p
 ·subst e
  rw[if_pos rfl]
  by_cases l:c.eX.toNat<b.bO.length
  ·rw[if_pos l]
   simp only[S9,F8]
   rw[if_neg fun z=>h ⟨rfl,z⟩]
  ·rw[if_neg l,E8 (show b.bO.length≤c.eX.toNat by omega)]
 ·rw[if_neg e]
B5 Lp{p q:Nat}:∀(ks:List Int)(b:Bn),(∀k∈ks,¬((at_ b.asked k.toNat).eX.toNat=p∧(at_ b.asked k.toNat).place.toNat=q))→val (b.cP ks).bO p q=val b.bO p q
 | [],b,_=>rfl
 | k::ks,b,h=>(Lp ks (b.strike k) fun j hj=>h j (C8 _ hj)).trans (YL (h k D4))
B5 QJ{cs:List vX}{p q:Int}(h:lastAt cs p q=none){k:Nat}(hk:k<cs.length):¬((at_ cs k).eX=p∧(at_ cs k).place=q):=fun z=>by
 B4 lastAt at h
 rw[Y8,List.getLast?_eq_none_iff,Y9]at h
 ~h k (F5.mpr hk) (decide_eq_true z)
B5 CK{b:Bn}(h:Fj b){r:List Int}{p q:Int}(hp:0≤p)(hq:0≤q)(hm:∀x∈r,0≤x∧x<(b.asked.length:Int)):face (b.cP r) p q=face b p q:=by
 B4 face
 rw[nQ]
 cases e:lastAt b.asked p q with
 | some k=>rfl
 | none=>
  ~Lp r b fun k hk z=>by
   have:=hm k hk
   have hs:=h.jm k.toNat A6
   ~QJ e (show k.toNat<b.asked.length by omega) ⟨by omega,by omega⟩
structure Mp where
 k:List Int
 v:List Int
def Mp.get(m:Mp)(x:Int):Option Int:=(posK m.k x).bind fun j=>m.v[j]?
def Mp.put(m:Mp)(x y:Int):Mp:=⟨lF m.k x,putD m.k m.v x y⟩
def Sq(m:Mp):D:=.dk (m.k.map F2) (m.v.map D.int)
def Kq:Option Int→D
 | some y=>.int y
 | none=>.non
B5 CN(a b:Int)(h:(F2 a:Key)=F2 b):a=b:=by injection h
B5 YM{m:Mp}(h:m.k.length=m.v.length)(x:Int):Qh (Sq m) (.int x)=some (Kq (m.get x)):=by
 B4 Qh Sq Mp.get
 dsimp only
 rw[show Tf (.int x)=some (.inl x)from rfl,C4,wK CN]
 cases e:posK m.k x with
 | none=>rfl
 | some j=>
  have:=(rN e).1
  dsimp only
  rw[B8,C4,B6 (show j<m.v.length by omega)]
  rfl
B5 Mp.yI{m:Mp}(h:m.k.length=m.v.length)(x y z:Int):(m.put x y).get z=if z=x then some y else m.get z:=Rs.yI h
B5 YQ(m:Mp)(x y:Int):D.dk (lF (m.k.map (F2:Int→Key)) (.inl x)) (putD (m.k.map (F2:Int→Key)) (m.v.map D.int) (.inl x) (.int y))=Sq (m.put x y):=by
 B4 Sq Mp.put
 rw[QG CN,QH CN D.int]
B5 aBO{α:Type} [DecidableEq α] (ks:List α) (k:α):(lF ks k).length≤ks.length+1:=by
 B4 lF
 split
 ·omega
 ·rw[C7];simp
def Mp.Ok(m:Mp)(n:Nat):Prop:=m.k.length=m.v.length∧m.k.length≤n
B5 Mp.Ok.put{m:Mp}{n:Nat}(h:m.Ok n)(x y:Int):(m.put x y).Ok (n+1):=⟨vR h.1,G2 (aBO _ _) (W9 h.2)⟩
B5 Mp.Ok.mono{m:Mp}{n k:Nat}(h:m.Ok n)(l:n≤k):m.Ok k:=⟨h.1,G2 h.2 l⟩
section
variable{C:Addr}{nm:List Str}{ks:List Key}{ds:List D}{x:Str}{j:Nat}{d y:D}
B5 nA(h:posK nm x=some j)(hd:ds[j]?=some d):eQ C x (.ins C nm ds)=some d:=by B4 eQ;dsimp only;rw[if_pos rfl,h];~hd
B5 aBP(h:posK nm x=some j):Cy (.fld C x) (.ins C nm ds)=some j:=by
 show (if C=C then posK nm x else none)=some j
 rw[if_pos rfl]
 ~h
B5 yK(h:posK nm x=some j)(hd:ds[j]?=some d):eO [.fld C x] (.ins C nm ds)=some d:=tZ (aBP h) hd
B5 yL(h:posK nm x=some j)(hd:ds[j]?=some d):dR [.fld C x] (.ins C nm ds) y=.ins C nm (ds.set j y):=qJ (aBP h) hd
end
def sI:List Str:=["bench", "spots", "string", "loose", "lasts", "comings", "goings"]
B5 w0:posK sI "bench" = some 0:=by decide +kernel
B5 w1:posK sI "spots" = some 1:=by decide +kernel
B5 w2:posK sI "string" = some 2:=by decide +kernel
B5 w3:posK sI "loose" = some 3:=by decide +kernel
B5 w4:posK sI "lasts" = some 4:=by decide +kernel
B5 w5:posK sI "comings" = some 5:=by decide +kernel
B5 w6:posK sI "goings" = some 6:=by decide +kernel
def bks:List Key:=[.inr "recs", .inr "order", .inr "ins", .inr "outs", .inr "lasts", .inr "due", .inr "panes"]
structure Wb where
 b:Bn
 rs:List (List Int)
 od:List Int
 lo:List Int
 la:Mp
 co:Mp
 go:Mp
abbrev Wb.P(s:Wb):Nat:=s.b.bO.length
abbrev Wb.n(s:Wb):Nat:=s.b.asked.length
abbrev Wb.R(s:Wb)(x:Int):List Int:=s.rs.getD x.toNat []
def Wb.key(s:Wb)(x:Int):Int:=(s.R x).getD 0 0
def wz(P n:Nat):D:=.lst ((D2 n).map fun k=>dTup [((k%P:Nat):Int),((k/P:Nat):Int)])
def aIk(rs:List (List Int)):D:=.lst (rs.map dTup)
def gA(κ:Nat→Addr)(s:Wb):D:=.ins (κ 1) sI [dZ (κ 0) s.b,wz s.P s.rs.length,aH s.od,aH s.lo,Sq s.la,Sq s.co,Sq s.go]
def bkD(s:Wb):D:=.dk bks [aIk s.rs,aH s.od,Sq s.co,Sq s.go,Sq s.la,xO s.b.asked,.int s.P]
structure lG(s:Wb):Prop where
 bn:Fj s.b
 p1:0<s.P
 len:∀k,k<s.rs.length→k/s.P<(s.b.bO.getD (k%s.P) []).length
 few:s.rs.length≤64
 pos:0<s.rs.length
 rcd:∀k,k<s.rs.length→s.rs.getD k []=face s.b ((k%s.P:Nat):Int) ((k/s.P:Nat):Int)∧(s.rs.getD k []).length=5
 las:∀k:Nat,k<s.rs.length→s.la.get k=lastAt s.b.asked ((k%s.P:Nat):Int) ((k/s.P:Nat):Int)
 lao:s.la.Ok s.n
 coo:s.co.Ok s.n
 goo:s.go.Ok s.n
 coi:∀x y,s.co.get x=some y→0≤y∧y<(s.n:Int)
 goi:∀x y,s.go.get x=some y→0≤y∧y<(s.n:Int)
 DN:s.od.Nodup
 Kr:∀x∈s.od,1≤x∧x<(s.rs.length:Int)
 lon:s.lo.Nodup
 yc:∀x,x∈s.lo↔1≤x∧x<(s.rs.length:Int)∧x∉s.od
 key:s.od.Pairwise fun x y=>s.key x<s.key y
 th:∀k,k<s.n→(at_ s.b.asked k).thing.length=5
B5 lG.spot{s:Wb}(h:lG s){x:Int}(h0:0≤x)(h1:x<(s.rs.length:Int)):0≤((x.toNat%s.P:Nat):Int)∧((x.toNat%s.P:Nat):Int)<(s.P:Int)∧0≤((x.toNat/s.P:Nat):Int)∧((x.toNat/s.P:Nat):Int)<((s.b.bO.getD ((x.toNat%s.P:Nat):Int).toNat []).length:Int):=by
 have h2:=h.len x.toNat A6
 have h3:=T9 x.toNat h.p1
 rw[D7]
 ~⟨P6 _,Int.ofNat_lt.mpr h3,P6 _,Int.ofNat_lt.mpr h2⟩
B5 aBQ{P n:Nat}{x:Int}(h0:0≤x)(h1:x<(n:Int)):dI (wz P n) (.int x)=some (dTup [((x.toNat%P:Nat):Int),((x.toNat/P:Nat):Int)]):=nZ h0 (by
 rw[B8,G5 A6]
 rfl)
variable(κ:Nat→Addr)
B5 jX{s:Wb}(h:lG s){x:Int}(h0:0≤x)(h1:x<(s.rs.length:Int)):aW κ [gA κ s,.int x]=some (dTup (s.R x)):=by
 &lC rfl ?_
 B4 yW
 B3⟨a,b,c,d⟩:=h.spot h0 h1
 &aBq (d:=dTup [((x.toNat%s.P:Nat):Int),((x.toNat/s.P:Nat):Int)]) (bH (aL (dB rfl (nA w1 rfl)) rfl (aBQ h0 h1)) (lU _)) A9 ?_
 rw[Wb.R,(h.rcd x.toNat A6).1]
 ~gC (bL (nm:=BR) (dB rfl (nA w0 rfl)) A7 (aB (aL rfl rfl rfl) (aB (aL rfl rfl rfl) rfl)) rfl (aDL κ h.bn a b c d))
B5 QK{s:Wb}(h:lG s)(x:Int):oF κ [gA κ s,.int x]=some (Kq (s.co.get x)):=lC rfl (gC (aL (dB rfl (nA w5 rfl)) rfl (YM h.coo.1 x)))
B5 QL{s:Wb}(h:lG s)(x:Int):oG κ [gA κ s,.int x]=some (Kq (s.go.get x)):=lC rfl (gC (aL (dB rfl (nA w6 rfl)) rfl (YM h.goo.1 x)))
def mH(os:List (Option Int)):D:=.lst (os.map Kq)
def Ss(os:List (Option Int)):List Int:=os.filterMap id
B5 YT{fi:FA}{fr:List Nat}{e:DE}(os:List (Option Int))(h:fi e=some (os.map Kq))(hl:os.length≤1000):gF fi fr (fB (f2 (zM true) (aD 0) (fC .non))) (cO (aD 0)) e=some (aH (Ss os)):=by
 &Ag h (by rw[B7];omega) ?_
 clear h hl
 induction os with
 | nil=>rfl
 | cons o os ih=>
  rw[D3]
  B4 oY
  cases o with
  | none=>~ih
  | some y=>
   show ((oY _ _ (os.map Kq)).map (D.int y::·))=_
   rw[ih]
   rfl
B5 aBR(os:List (Option Int))(hl:os.length≤1000):Zk [mH os]=some (aH (Ss os)):=nO rfl (gC (YT os (iV rfl) hl))
def Wb.wr(s:Wb)(x:Int)(r ns:List Int):Wb:={s with b:=s.b.put ((x.toNat%s.P:Nat):Int) ((x.toNat/s.P:Nat):Int) r ns,rs:=s.rs.set x.toNat r,la:=s.la.put x s.n}
B5 aBS(s:Wb)(x:Int)(r ns:List Int):(s.wr x r ns).n=s.n+1:=by
 show (s.b.asked++[_]).length=_
 rw[C7]
 rfl
B5 vJ(s:Wb)(x:Int)(r ns:List Int):(s.wr x r ns).rs.length=s.rs.length:=J5
B5 qK{α:Type}(l:List α)(i j:Nat)(x d:α)(h:i<l.length):(l.set i x).getD j d=if i=j then x else l.getD j d:=by
 rw[B9,F8,B9]
 by_cases c:i=j
 ·rw[if_pos c,if_pos h,if_pos c];rfl
 ·rw[if_neg c,if_neg c]
B5 CP{s:Wb}{x y:Int}{r ns:List Int}(h0:0≤x)(h1:x<(s.rs.length:Int))(hy:0≤y):(s.wr x r ns).R y=if y=x then r else s.R y:=by
 show (s.rs.set x.toNat r).getD y.toNat []=_
 rw[qK _ _ _ _ _ A6]
 by_cases c:y=x
 ·rw[if_pos c,if_pos (by rw[c])]
 ·rw[if_neg c,if_neg A6]
B5 aBT{b:Bn}{p q p' q':Int}{th ns:List Int}:face (b.put p q th ns) p' q'=if p=p'∧q=q' then th else face b p' q':=by
 B4 face
 show topOf (b.asked++[mG b p q th ns]) _ (lastAt (b.asked++[mG b p q th ns]) p' q')=_
 rw[Ba]
 show topOf _ _ (if p=p'∧q=q' then _ else _)=_
 by_cases c:p=p'∧q=q'
 ·rw[if_pos c,if_pos c]
  show (at_ (b.asked++[mG b p q th ns]) (b.asked.length:Int).toNat).thing=th
  rw[D7,xP]
  rfl
 ·rw[if_neg c,if_neg c]
  cases e:lastAt b.asked p' q' with
  | none=>rfl
  | some k=>
   have:=Cg e
   show (at_ _ k.toNat).thing=(at_ _ k.toNat).thing
   rw[tQ A6]
B5 QM{P a b:Nat}(h1:((a%P:Nat):Int)=((b%P:Nat):Int))(h2:((a/P:Nat):Int)=((b/P:Nat):Int)):a=b:=by
 have e1:=p4 h1
 have e2:=p4 h2
 have a1:=l7 a P
 have a2:=l7 b P
 rw[←a1,←a2,e1,e2]
B5 lG.wr{s:Wb}(h:lG s){x:Int}{r ns:List Int}(h0:0≤x)(h1:x<(s.rs.length:Int))(hr:r.length=5)(hn:∀m∈ns,0≤m∧m<(s.n:Int))(hl:ns.length≤8)(hm:s.n<124)(hk:x∈s.od→r.getD 0 0=s.key x):lG (s.wr x r ns):=by
 B3⟨a,b,c,d⟩:=h.spot h0 h1
 have hlen:=vJ s x r ns
 have hnn:=aBS s x r ns
 have hxe:((x.toNat:Nat):Int)=x:=by omega
 &⟨h.bn.put hm a b c d hn hl,h.p1,?_,?_,?_,?_,?_,?_,?_,?_,?_,?_,h.DN,?_,h.lon,?_,?_,?_⟩
 ·rw[hlen];~h.len
 ·rw[hlen];~h.few
 ·rw[hlen];~h.pos
 ·intro k hk'
  rw[hlen]at hk'
  show (s.rs.set x.toNat r).getD k []=face (s.b.put _ _ r ns) _ _∧((s.rs.set x.toNat r).getD k []).length=5
  rw[qK _ _ _ _ _ A6,aBT]
  by_cases e:x.toNat=k
  ·subst e
   rw[if_pos rfl,if_pos ⟨rfl,rfl⟩]
   ~⟨rfl,hr⟩
  ·rw[if_neg e,if_neg fun z=>e (QM z.1 z.2)]
   ~h.rcd k hk'
 ·intro k hk'
  rw[hlen]at hk'
  show (s.la.put x s.n).get k=lastAt (s.b.asked++[mG _ _ _ _ _]) _ _
  rw[Mp.yI h.lao.1,Ba]
  by_cases e:x.toNat=k
  ·subst e
   rw[if_pos hxe,if_pos ⟨rfl,rfl⟩]
  ·rw[if_neg A6,if_neg fun z=>e (QM z.1 z.2)]
   ~h.las k hk'
 ·rw[hnn];~h.lao.put _ _
 ·rw[hnn];~h.coo.mono A6
 ·rw[hnn];~h.goo.mono A6
 ·intro z y e
  have:=h.coi z y e
  rw[hnn]
  omega
 ·intro z y e
  have:=h.goi z y e
  rw[hnn]
  omega
 ·intro z hz
  rw[hlen]
  ~h.Kr z hz
 ·intro z
  rw[hlen]
  ~h.yc z
 ·have kk:∀y∈s.od,(s.wr x r ns).key y=s.key y:=fun y hy=>by
   show ((s.wr x r ns).R y).getD 0 0=_
   rw[CP h0 h1 (by have:=h.Kr y hy;omega)]
   by_cases e:y=x
   ·subst e
    rw[if_pos rfl]
    ~hk hy
   ·rw[if_neg e];rfl
  ~h.key.imp_of_mem fun{y z} hy hz q=>by rw[kk y hy,kk z hz];~q
 ·intro k hk'
  rw[hnn]at hk'
  show (at_ (s.b.asked++[mG _ _ _ _ _]) k).thing.length=5
  rcases J8 k s.n with z | z
  ·rw[tQ z];~h.th k z
  ·have e:k=s.b.asked.length:=Nat.le_antisymm (Nat.lt_succ_iff.mp hk') z
   rw[e,xP]
   ~hr
B5 lG.aIo{s:Wb}(h:lG s):s.n≤124:=h.bn.good.1
B5 mapA{o:Option (List D)}{es:List D}(h:o=some es):o.map (·++[])=some es:=by rw[h];show some (es++[])=_;rw[F9]
B5 QQ{s:Wb}(h:lG s){x:Int}{r:List Int}{os:List (Option Int)}(h0:0≤x)(h1:x<(s.rs.length:Int))(hn:∀m∈Ss os,0≤m∧m<(s.n:Int))(hl:os.length≤9):mQ κ [gA κ s,.int x,dTup r,mH os]=some (.int s.n,gA κ (s.wr x r (Ss os))):=by
 &pD rfl fun v=>?_
 B4 Gz
 B3⟨a,b,c,d⟩:=h.spot h0 h1
 have hkl:(Ss os).length≤9:=G2 (List.length_filterMap_le _ _) hl
 &cN (d:=dTup [((x.toNat%s.P:Nat):Int),((x.toNat/s.P:Nat):Int)]) (bH (aL (dB rfl (nA w1 rfl)) rfl (aBQ h0 h1)) (lU _)) A9 ?_
 &Zg (d:=.int s.n) (env':=[.inn v (.ins (κ 1) sI [dZ (κ 0) (s.b.put ((x.toNat%s.P:Nat):Int) ((x.toNat/s.P:Nat):Int) r (Ss os)),wz s.P s.rs.length,aH s.od,aH s.lo,Sq s.la,Sq s.co,Sq s.go]),.fro (.int x),.fro (dTup r),.fro (mH os),.own (dTup [((x.toNat%s.P:Nat):Int),((x.toNat/s.P:Nat):Int)]),.no])
  ((lA (p:=[L2.Step.fld (κ 1) "bench"]) (nm:=BR) (es:=[.int ((x.toNat%s.P:Nat):Int),.int ((x.toNat/s.P:Nat):Int),dTup r,aH (Ss os)]) rfl rfl (yK w0 rfl) A7 (mapA (gR (aL rfl rfl rfl) (gR (aL rfl rfl rfl) (gR rfl (gR (bR (aB rfl rfl) rfl (aBR os A6)) rfl))))) (aGD κ h.bn a b c d hn A6 (.inr rfl))).trans (by
   rw[yL w0 rfl]
   rfl)) A9 ?_
 &pF rfl (Nf (p:=[L2.Step.fld (κ 1) "lasts"]) (k:=.inl x) (kd:=.int x) (d:=.int s.n) rfl rfl (yK w4 rfl) rfl rfl rfl rfl (by rw[B7];have:=h.lao.2;have:=h.aIo;omega)) rfl ?_
 &Nh rfl ⟨_,.inl rfl,?_⟩
 show some (SD.inn v (dR [L2.Step.fld (κ 1) "lasts"] _ _))=some (SD.inn v _)
 rw[yL w4 rfl,YQ]
 B4 gA
 rw[vJ]
 rfl
B5 aDN(o:Option Int):(Kq o).jK=true:=by cases o<;>rfl
B5 Wn(os:List (Option Int)):D.gY (os.map Kq)=true:=Qm fun d hd=>by
 B3⟨o,_,rfl⟩:=G4.mp hd
 ~aDN o
B5 Ru(a b:List (Option Int))(h:a.length+b.length≤1000):dJ (mH a) (mH b)=some (mH (a++b)):=by
 B4 mH
 rw[G0]
 ~Vr (by rw[LK,Wn,Wn];rfl) (by rw[B7,B7];omega)
B5 Ks(ns:List Int):aH ns=mH (ns.map some):=by B4 aH mH;rw[K5];rfl
B5 Bc(ns:List Int):Ss (ns.map some)=ns:=by B4 Ss;rw[List.filterMap_map];~List.filterMap_some
B5 Ie(o:Option Int)(os:List (Option Int)):Ss (o::os)=o.toList++Ss os:=by cases o<;>rfl
def Wb.ns(s:Wb)(x:Int)(ns:List Int):List Int:=(s.co.get x).toList++ns
B5 lG.aDO{s:Wb}(h:lG s){x:Int}{ns:List Int}(hn:∀m∈ns,0≤m∧m<(s.n:Int)):∀m∈s.ns x ns,0≤m∧m<(s.n:Int):=fun m hm=>by
 rcases G7.mp hm with z | z
 ·cases e:s.co.get x with
  | none=>rw[e]at z;cases z
  | some y=>rw[e]at z;rw[E3.mp z];~h.coi x y e
 ·~hn m z
B5 wL{α:Type}(o:Option α):o.toList.length≤1:=by cases o<;>simp
B5 QR{s:Wb}(h:lG s){x:Int}{r:List Int}{os:List (Option Int)}(h0:0≤x)(h1:x<(s.rs.length:Int))(hn:∀m∈Ss os,0≤m∧m<(s.n:Int))(hl:os.length≤7):fX κ [gA κ s,.int x,dTup r,mH os]=some (.int s.n,gA κ (s.wr x r (s.ns x (Ss os)))):=by
 &pD rfl fun v=>?_
 B4 wC
 have e:s.ns x (Ss os)=Ss (s.co.get x::os):=by rw[Ie];rfl
 rw[e]
 &Gx (d:=.int s.n) (env':=[.inn v (gA κ (s.wr x r (Ss (s.co.get x::os)))),.fro (.int x),.fro (dTup r),.fro (mH os)]) (lA (p:=[]) (nm:=sI) (es:=[.int x,dTup r,mH (s.co.get x::os)]) rfl rfl rfl A7 (mapA (gR rfl (gR rfl (Ai (aL (a:=mH [s.co.get x]) (b:=mH os) (fQ (aB (bL (nm:=sI) rfl A7 rfl rfl (QK κ h x)) rfl) A9) rfl (Ru _ _ (by simp;omega))) rfl)))) (QQ κ h h0 h1 (by rw[←e];~h.aDO hn) (by simp;omega))) ⟨_,.inl rfl,rfl⟩
B5 aDP{s:Wb}(h:lG s){x:Int}{r ns:List Int}(h0:0≤x)(h1:x<(s.rs.length:Int))(hn:∀m∈ns,0≤m∧m<(s.n:Int))(hl:ns.length≤7):fX κ [gA κ s,.int x,dTup r,aH ns]=some (.int s.n,gA κ (s.wr x r (s.ns x ns))):=by
 have:=QR κ h (r:=r) (os:=ns.map some) h0 h1 (by rw[Bc];~hn) (by rw[B7];~hl)
 rw[Bc,←Ks]at this
 ~this
def lnk(r:List Int)(y:Int):List Int:=[r.getD 0 0,y,r.getD 2 0,r.getD 3 0,r.getD 4 0]
B5 rG{r:List Int}{k:Nat}(h:k<r.length):dI (dTup r) (.int k)=some (.int (r.getD k 0)):=uO (P6 _) (by
 rw[B8,D7,tL (d:=0) h]
 rfl)
B5 lG.five{s:Wb}(h:lG s){x:Int}(h0:0≤x)(h1:x<(s.rs.length:Int)):(s.R x).length=5:=(h.rcd x.toNat A6).2
B5 QS{s:Wb}(h:lG s){x y:Int}{os:List (Option Int)}(h0:0≤x)(h1:x<(s.rs.length:Int))(hn:∀m∈Ss os,0≤m∧m<(s.n:Int))(hl:os.length≤7):lX κ [gA κ s,.int x,.int y,mH os]=some (.int s.n,gA κ (s.wr x (lnk (s.R x) y) (s.ns x (Ss os)))):=by
 &pD rfl fun v=>?_
 B4 Lj
 have h5:=h.five h0 h1
 &cN (d:=dTup (s.R x)) (bL (nm:=sI) rfl A7 rfl rfl (jX κ h h0 h1)) A9 ?_
 &Gx (d:=.int s.n) (env':=[.inn v (gA κ (s.wr x (lnk (s.R x) y) (s.ns x (Ss os)))),.fro (.int x),.fro (.int y),.fro (mH os),.own (dTup (s.R x))]) (lA (p:=[]) (nm:=sI) (es:=[.int x,dTup (lnk (s.R x) y),mH os]) rfl rfl rfl A7 (mapA (gR rfl (gR (oE (aB (bH (aL rfl rfl (rG (k:=0) A6)) rfl) (aB (bH rfl rfl) (aB (bH (aL rfl rfl (rG (k:=2) A6)) rfl) (aB (bH (aL rfl rfl (rG (k:=3) A6)) rfl) (aB (bH (aL rfl rfl (rG (k:=4) A6)) rfl) rfl))))) A9) (gR rfl rfl)))) (QR κ h h0 h1 hn hl)) ⟨_,.inl rfl,rfl⟩
B5 aDR{s:Wb}(h:lG s){x y:Int}{ns:List Int}(h0:0≤x)(h1:x<(s.rs.length:Int))(hn:∀m∈ns,0≤m∧m<(s.n:Int))(hl:ns.length≤7):lX κ [gA κ s,.int x,.int y,aH ns]=some (.int s.n,gA κ (s.wr x (lnk (s.R x) y) (s.ns x ns))):=by
 have:=QS κ h (y:=y) (os:=ns.map some) h0 h1 (by rw[Bc];~hn) (by rw[B7];~hl)
 rw[Bc,←Ks]at this
 ~this
B5 Fq{s:Wb}{ns:List Int}{nd:D}(hn:∀m∈ns,0≤m∧m<(s.n:Int))(hnd:(nd=.non∧ns=[])∨nd=aH ns):cA κ [gA κ s,nd]=some (aH ns):=by
  suffices hh:∃d,cA κ [gA κ s,nd]=some d∧d=aH ns by
    B3⟨d,e1,rfl⟩:=hh
    ~e1
  &jg rfl ?_
  B4 rK
  &cN (d:=aH ns) ?_ A9 ?_
  · rcases hnd with ⟨rfl,rfl⟩ | rfl
    · ~aEL (bZ (aL rfl rfl (Bv false .non))) rfl
    · ~aEM (bZ (aL rfl rfl (Bv false (aH ns)))) (dU (aB rfl rfl) (oR (cV ns)))
  &WY (ns:=ns) [.fro (gA κ s),.fro nd,.own (aH ns),lv ns .no ns.length] rfl rfl (fun v2 k env=>env=[.fro (gA κ s),.fro nd,.inn v2 (aH ns),lv ns .no k]) (fun v2=>rfl) (fun v2 k env e=>by rw[e];rfl) ?_ (fun v2 env e=>by rw[e];rfl) ?_
  · rintro v2 k x env hx rfl
    &⟨by walk_at "lt", _,Gw (d:=.non) (bL (nm:=BR) (dB rfl (nA w0 rfl)) A7 rfl rfl (Bb κ (hn x (D9 hx)).1 (hn x (D9 hx)).2)),?_⟩
    have e:lv ns .no (k+1)=.fro (.int x):=by
      show SD.fro (.int (ns.getD k 0))=_
      rw[mL hx]
    rw[e]
    rfl
  ~aBx rfl ⟨_,rfl,rfl⟩
def Wb.ahead(s:Wb)(at_:Int):Int:=(0::s.od).getD at_.toNat 0
B5 aJI(od:List Int)(h:od.length≤1000):dJ (aH [0]) (aH od)=some (aH (0::od)):=xM [0] od (by simp;omega)
B5 lG.aIp{s:Wb}(h:lG s):s.od.length≤64:=by
 have:=pO s.rs.length s.od h.DN fun x hx=>by have:=h.Kr x hx;omega
 have:=h.few
 omega
B5 lG.aGH{s:Wb}(h:lG s):s.lo.length<64:=by
 have hh:=pO s.rs.length (0::s.lo) (L5.mpr ⟨fun z=>by have:=(h.yc 0).mp z;omega,h.lon⟩) fun x hx=>by
  rcases C9.mp hx with z | z
  ·have:=h.pos;omega
  ·have:=(h.yc x).mp z;omega
 rw[E9]at hh
 have:=h.few
 omega
B5 Lq{s:Wb}(h:lG s){k:Int}(h0:0≤k)(h1:k≤(s.od.length:Int)):jD κ [gA κ s,.int k]=some (.int (s.ahead k)):=by
 have:=h.aIp
 ~lC rfl (gC (bH (aL (aL (fQ (aB rfl rfl) A9) (dB rfl (nA w2 rfl)) (aJI _ A6)) rfl (gW h0 (by simp;omega))) rfl))
B5 lG.ahead{s:Wb}(h:lG s){k:Int}(h0:0≤k)(h1:k≤(s.od.length:Int)):(s.ahead k=0∨s.ahead k∈s.od)∧0≤s.ahead k∧s.ahead k<(s.rs.length:Int):=by
 have hm:s.ahead k∈(0::s.od):=by
  B4 Wb.ahead
  rw[B9,B6 (show k.toNat<(0::s.od).length by simp;omega)]
  ~O9 _
 rcases C9.mp hm with z | z
 ·rw[z]
  have:=h.pos
  ~⟨.inl rfl,by omega,by omega⟩
 ·have:=h.Kr _ z
  ~⟨.inr z,by omega,by omega⟩
B5 YW{s:Wb}(h:lG s){x a b c:Int}{ns:List Int}{nd:D}(h0:0≤x)(h1:x<(s.rs.length:Int))(hn:∀m∈ns,0≤m∧m<(s.n:Int))(hl:ns.length≤7)(hnd:(nd=.non∧ns=[])∨nd=aH ns):pI κ [gA κ s,.int x,.int a,.int b,.int c,nd]=some (.int s.n,gA κ (s.wr x [(s.R x).getD 0 0,(s.R x).getD 1 0,a,b,c] (s.ns x ns))):=by
 &pD rfl fun v=>?_
 B4 Ao
 have h5:=h.five h0 h1
 &cN (d:=dTup (s.R x)) (bL (nm:=sI) rfl A7 rfl rfl (jX κ h h0 h1)) A9 ?_
 &Gx (d:=.int s.n) (env':=[.inn v (gA κ (s.wr x [(s.R x).getD 0 0,(s.R x).getD 1 0,a,b,c] (s.ns x ns))),.fro (.int x),.fro (.int a),.fro (.int b),.fro (.int c),.fro nd,.own (dTup (s.R x))]) (lA (p:=[]) (nm:=sI) (es:=[.int x,dTup [(s.R x).getD 0 0,(s.R x).getD 1 0,a,b,c],aH ns]) rfl rfl rfl A7 (mapA (gR rfl (gR (oE (aB (bH (aL rfl rfl (rG (k:=0) A6)) rfl) (aB (bH (aL rfl rfl (rG (k:=1) A6)) rfl) (aB (bH rfl rfl) (aB (bH rfl rfl) (aB (bH rfl rfl) rfl))))) A9) (Ai (bL (nm:=sI) rfl A7 rfl rfl (Fq κ hn hnd)) rfl)))) (aDP κ h h0 h1 hn hl)) ⟨_,.inl rfl,rfl⟩
def Wb.new(s:Wb):Int:=UJ s.lo
def Wb.e1(s:Wb)(k key was now nC:Int):Wb:=s.wr s.new [key,(s.R (s.ahead k)).getD 1 0,was,now,nC] (s.go.get s.new).toList
def Wb.e2(s:Wb)(k key was now nC:Int)(fu:List Int):Wb:=(s.e1 k key was now nC).wr (s.ahead k) (lnk ((s.e1 k key was now nC).R (s.ahead k)) s.new) ((s.e1 k key was now nC).ns (s.ahead k) ((s.n:Int)::fu))
def Wb.ent(s:Wb)(k key was now nC:Int)(fu:List Int):Wb:={s.e2 k key was now nC fu with od:=s.od.take k.toNat++s.new::s.od.drop k.toNat,lo:=s.lo.eraseIdx (s.lo.idxOf s.new),co:=s.co.put s.new (s.n+1:Nat)}
B5 lG.new{s:Wb}(h:lG s)(hl:0<s.lo.length):s.new∈s.lo∧1≤s.new∧s.new<(s.rs.length:Int)∧s.new∉s.od∧0≤s.new:=by
 have:=(Dw hl).1
 have hm:=(h.yc _).mp this
 ~⟨this,hm.1,hm.2.1,hm.2.2,Int.le_trans A8 hm.1⟩
B5 lG.aIq{s:Wb}(h:lG s)(x:Int):∀m∈(s.go.get x).toList,0≤m∧m<(s.n:Int):=fun m hm=>by
 cases e:s.go.get x with
 | none=>rw[e]at hm;cases hm
 | some y=>rw[e]at hm;rw[E3.mp hm];~h.goi x y e
B5 lG.e1{s:Wb}(h:lG s)(hl:0<s.lo.length)(hm:s.n<124)(k key was now nC:Int):lG (s.e1 k key was now nC):=by
 B3⟨a,b,c,d,e⟩:=h.new hl
 ~h.wr e c rfl (h.aIq _) (G2 (wL _) A8) hm fun z=>absurd z d
B5 aDS(s:Wb)(k key was now nC:Int):(s.e1 k key was now nC).n=s.n+1:=aBS _ _ _ _
B5 lG.e2{s:Wb}(h:lG s)(hl:0<s.lo.length)(hm:s.n<123){k key was now nC:Int}{fu:List Int}(h0:0≤k)(h1:k≤(s.od.length:Int))(hn:∀m∈fu,0≤m∧m<(s.n:Int))(hf:fu.length≤5):lG (s.e2 k key was now nC fu)∧(∀m∈(s.n:Int)::fu,0≤m∧m<((s.e1 k key was now nC).n:Int))∧s.ahead k<((s.e1 k key was now nC).rs.length:Int):=by
 have w:=h.e1 hl A6 k key was now nC
 B3⟨a,b,c⟩:=h.ahead h0 h1
 have hn2:∀m∈(s.n:Int)::fu,0≤m∧m<((s.e1 k key was now nC).n:Int):=fun m hm=>by
  rw[aDS]
  rcases C9.mp hm with z | z
  ·omega
  ·have:=hn m z
   omega
 have hc:s.ahead k<((s.e1 k key was now nC).rs.length:Int):=by
  show _<((s.wr _ _ _).rs.length:Int)
  rw[vJ]
  ~c
 &⟨w.wr b hc rfl (w.aDO hn2) ?_ (by rw[aDS];omega) fun z=>rfl,hn2,hc⟩
 B4 Wb.ns
 rw[C7]
 have:=wL ((s.e1 k key was now nC).co.get (s.ahead k))
 simp
 omega
B5 aEO(s:Wb)(k key was now nC:Int)(fu:List Int):(s.ent k key was now nC fu).n=s.n+2:=by
 show (s.e2 k key was now nC fu).n=_
 B4 Wb.e2
 rw[aBS,aDS]
B5 jo(s:Wb)(k key was now nC:Int)(fu:List Int):(s.ent k key was now nC fu).rs.length=s.rs.length:=by
 show (s.e2 k key was now nC fu).rs.length=_
 B4 Wb.e2
 rw[vJ]
 ~vJ _ _ _ _
B5 Wo{l:List Int}{x y:Int}(hn:l.Nodup):y∈l.eraseIdx (l.idxOf x)↔y∈l∧y≠x:=by
 rw[←List.erase_eq_eraseIdx_of_idxOf rfl,hn.mem_erase_iff]
 ~and_comm
def Wb.Fits(s:Wb)(k key:Int):Prop:=(∀x∈s.od.take k.toNat,s.key x<key)∧∀x∈s.od.drop k.toNat,key<s.key x
B5 lG.ent{s:Wb}(h:lG s)(hl:0<s.lo.length)(hm:s.n<123){k key was now nC:Int}{fu:List Int}(h0:0≤k)(h1:k≤(s.od.length:Int))(hn:∀m∈fu,0≤m∧m<(s.n:Int))(hf:fu.length≤5)(hk:s.Fits k key):lG (s.ent k key was now nC fu):=by
  B3⟨w,_,_⟩:=h.e2 hl hm (key:=key) (was:=was) (now:=now) (nC:=nC) h0 h1 hn hf
  B3⟨a1,a2,a3,a4,a5⟩:=h.new hl
  have hA:=h.ahead h0 h1
  have hod:∀x,x∈s.od.take k.toNat++s.new::s.od.drop k.toNat↔x=s.new∨x∈s.od:=fun x=>by
    conv=>rhs;rw[←N2 k.toNat s.od]
    simp only[G7,C9]
    constructor
    · rintro(z | z | z)
      · ~.inr (.inl z)
      · ~.inl z
      · ~.inr (.inr z)
    · rintro(z | z | z)
      · ~.inr (.inl z)
      · ~.inl z
      · ~.inr (.inr z)
  have hlen:=jo s k key was now nC fu
  have hnn:=aEO s k key was now nC fu
  have kk:∀x,x=s.new∨x∈s.od→(s.ent k key was now nC fu).key x=if x=s.new then key else s.key x:=fun x hx=>by
    have x0:0≤x:=by
      rcases hx with z | z
      · omega
      · have:=h.Kr x z;omega
    show ((s.e2 k key was now nC fu).R x).getD 0 0=_
    have e1r:∀y,0≤y→(s.e1 k key was now nC).R y=if y=s.new then [key,(s.R (s.ahead k)).getD 1 0,was,now,nC]else s.R y:=fun y hy=>CP a5 a3 hy
    have ne:s.ahead k≠s.new:=fun z=>by
      rcases hA.1 with y | y
      · omega
      · ~a4 (z▸y)
    B4 Wb.e2
    rw[CP hA.2.1 (by show _<((s.wr _ _ _).rs.length:Int);rw[vJ];~hA.2.2) x0]
    by_cases c:x=s.ahead k
    · rw[if_pos c,if_neg (by rw[c];~ne),e1r _ hA.2.1,if_neg ne,c]
      rfl
    · rw[if_neg c,e1r x x0]
      by_cases c2:x=s.new
      · rw[if_pos c2,if_pos c2];rfl
      · rw[if_neg c2,if_neg c2];rfl
  &⟨w.bn,w.p1,w.len,w.few,w.pos,w.rcd,w.las,w.lao,?_,?_,?_,?_,?_,?_,?_,?_,?_,w.th⟩
  · rw[hnn];~(h.coo.put _ _).mono A6
  · rw[hnn];~h.goo.mono A6
  · intro x y e
    have e:(s.co.put s.new (s.n+1:Nat)).get x=some y:=e
    rw[Mp.yI h.coo.1]at e
    rw[hnn]
    split at e
    · cases e
      omega
    · have:=h.coi x y e
      omega
  · intro x y e
    have:=h.goi x y e
    rw[hnn]
    omega
  · &O1.mpr ⟨h.DN.sublist (O0 _ _),L5.mpr ⟨fun z=>a4 (Q7 z),h.DN.sublist (i6 _ _)⟩,fun x hx y hy=>?_⟩
    rcases C9.mp hy with z | z
    · rintro rfl
      ~a4 (z▸M5 hx)
    · have:=h.DN
      rw[←N2 k.toNat s.od]at this
      ~(O1.mp this).2.2 x hx y z
  · intro x hx
    rw[hlen]
    rcases(hod x).mp hx with z | z
    · omega
    · ~h.Kr x z
  · ~h.lon.sublist (T2 _ _)
  · intro x
    show x∈s.lo.eraseIdx (s.lo.idxOf s.new)↔_
    rw[hlen,Wo h.lon,h.yc x]
    show _↔1≤x∧x<(s.rs.length:Int)∧x∉s.od.take k.toNat++s.new::s.od.drop k.toNat
    rw[hod x,not_or]
    constructor
    · rintro⟨⟨z1,z2,z3⟩,z4⟩
      ~⟨z1,z2,z4,z3⟩
    · rintro⟨z1,z2,z4,z3⟩
      ~⟨⟨z1,z2,z3⟩,z4⟩
  · have hp:=h.key
    rw[←N2 k.toNat s.od]at hp
    B3⟨p1,p2,p3⟩:=K9.mp hp
    have nt:∀x∈s.od.take k.toNat,x≠s.new:=fun x hx z=>a4 (z▸M5 hx)
    have nd:∀x∈s.od.drop k.toNat,x≠s.new:=fun x hx z=>a4 (z▸Q7 hx)
    have kt:∀x∈s.od.take k.toNat,(s.ent k key was now nC fu).key x=s.key x:=fun x hx=>by rw[kk x (.inr (M5 hx)),if_neg (nt x hx)]
    have kd:∀x∈s.od.drop k.toNat,(s.ent k key was now nC fu).key x=s.key x:=fun x hx=>by rw[kk x (.inr (Q7 hx)),if_neg (nd x hx)]
    have kn:(s.ent k key was now nC fu).key s.new=key:=by rw[kk _ (.inl rfl),if_pos rfl]
    show (s.od.take k.toNat++s.new::s.od.drop k.toNat).Pairwise _
    &K9.mpr ⟨p1.imp_of_mem fun{x y} hx hy q=>by rw[kt x hx,kt y hy];~q,J3.mpr ⟨fun y hy=>by rw[kn,kd y hy];~hk.2 y hy,p2.imp_of_mem fun{x y} hx hy q=>by rw[kd x hx,kd y hy];~q⟩,fun x hx y hy=>?_⟩
    rw[kt x hx]
    rcases C9.mp hy with z | z
    · rw[z,kn]
      ~hk.1 x hx
    · rw[kd y z]
      ~p3 x hx y z
B5 aDT{s:Wb}{k key:Int}(h0:0≤k)(h1:k≤(s.od.length:Int))(hk:s.Fits k key):(((s.od.filter fun x=>decide (s.key x<key)).length:Nat):Int)=k:=by
 conv=>lhs;rw[←N2 k.toNat s.od]
 rw[V3,N0.mpr fun x hx=>decide_eq_true (hk.1 x hx),Y9.mpr fun x hx=>by have:=hk.2 x hx;simp;omega,F9,J0]
 omega
B5 aGI{env:EN}{i:Nat}{π:FP}{f g:FE}{d0:D}{p:List L2.Step}{ns:List Int}{k y:Int}(h1:env[i]?=some (.own d0))(h2:π (rE env)=some p)(h3:eO p d0=some (aH ns))(h4:f (rE env)=some (.int k))(h5:g (rE env)=some (.int y))(k0:0≤k)(k1:k≤(ns.length:Int))(hl:ns.length<1000):uq i π f g env=.next (env.set i (.own (dR p d0 (aH (ns.take k.toNat++y::ns.drop k.toNat))))):=by
 B4 uq
 rw[h1,h2,h4,h5]
 dsimp only
 rw[h3]
 B4 aH
 dsimp only
 rw[kI]
 dsimp only
 rw[if_pos ⟨k0,by omega,hl⟩]
B5 YX{env:EN}{i:Nat}{π:FP}{g:FE}{d0:D}{p:List L2.Step}{ns:List Int}{y:Int}(h1:env[i]?=some (.own d0))(h2:π (rE env)=some p)(h3:eO p d0=some (aH ns))(h5:g (rE env)=some (.int y))(hy:y∈ns):KJ i π g env=.next (env.set i (.own (dR p d0 (aH (ns.eraseIdx (ns.idxOf y)))))):=by
 B4 KJ
 rw[h1,h2,h5]
 dsimp only
 rw[h3]
 B4 aH
 dsimp only
 rw[kI]
 dsimp only
 rw[if_pos hy]
B5 aBU{s:Wb}(h:lG s)(hl:0<s.lo.length)(hm:s.n<123){k key was now nC:Int}{fu:List Int}{nd:D}(h0:0≤k)(h1:k≤(s.od.length:Int))(hn:∀m∈fu,0≤m∧m<(s.n:Int))(hf:fu.length≤5)(hk:s.Fits k key)(hnd:(nd=.non∧fu=[])∨nd=aH fu) :
  sG κ [gA κ s,.int key,.int was,.int now,.int nC,nd]=some (.tup [.int s.new,.int (s.n+1:Nat)],gA κ (s.ent k key was now nC fu)):=by
 &pD rfl fun v=>?_
 B4 Hj
 B3⟨a1,a2,a3,a4,a5⟩:=h.new hl
 B3⟨b1,b2,b3⟩:=h.ahead h0 h1
 B3⟨W2,hn2,hc⟩:=h.e2 hl hm (key:=key) (was:=was) (now:=now) (nC:=nC) h0 h1 hn hf
 have W1:=h.e1 hl A6 k key was now nC
 have h5:=h.five b2 b3
 have ho:=h.aIp
 &pB (bZ (aL (dU (aB (dB rfl (nA w3 rfl)) rfl) (lB _)) rfl (pA _ _))) (decide_eq_false A6) (vG ?_)
 &cN (d:=aH fu) (bL (nm:=sI) rfl A7 rfl rfl (Fq κ hn hnd)) A9 ?_
 have Ln:=Bu (fi:=lM (pY (eQ (κ 1) "string") (aD 0))) (fr:=[0,1]) (fc:=fB (f2 xu (f2 dI (bK (κ 1) "record_of" 2 (aW κ) (aD 1) (aA (aD 0) aK) []) (fC (.int (0)))) (aD 2))) (fe:=cO (aD 0)) (e:=rE [.inn v (gA κ s),.fro (.int key),.fro (.int was),.fro (.int now),.fro (.int nC),.fro nd,.own (aH fu),.no,.no,.no,.no,.no]) (ms:=s.od) (fun x=>decide (s.key x<key)) (fun x=>.int x) (iV (dB rfl (nA w2 rfl))) A6 (fun x hx=>by
  have:=h.Kr x hx
  ~bZ (aL (aL (bL (nm:=sI) rfl A7 rfl rfl (jX κ h A6 this.2)) rfl (rG (k:=0) (by rw[h.five A6 this.2];decide))) rfl (xH _ _))) fun x hx _=>bH rfl rfl
 &cN (d:=.int k) ((dU (aB Ln rfl) (Gq _)).trans (by rw[B7,aDT h0 h1 hk])) A9 ?_
 &cN (d:=.int (s.ahead k)) (bL (nm:=sI) rfl A7 rfl rfl (Lq κ h h0 h1)) A9 ?_
 &cN (d:=.int s.new) (dU (aB (dB rfl (nA w3 rfl)) rfl) (WT hl)) A9 ?_
 &Zg (d:=.int s.n) (env':=[.inn v (gA κ (s.e1 k key was now nC)),.fro (.int key),.fro (.int was),.fro (.int now),.fro (.int nC),.fro nd,.own (aH fu),.own (.int k),.own (.int (s.ahead k)),.own (.int s.new),.no,.no])
  (lA (p:=[]) (nm:=sI) (es:=[.int s.new,dTup [key,(s.R (s.ahead k)).getD 1 0,was,now,nC],mH [s.go.get s.new]]) rfl rfl rfl A7 (mapA (gR rfl (Ai (oE (aB (bH rfl rfl) (aB (bH (aL (bL (nm:=sI) rfl A7 rfl rfl (jX κ h b2 b3)) rfl (rG (k:=1) A6)) rfl) (aB (bH rfl rfl) (aB (bH rfl rfl) (aB (bH rfl rfl) rfl))))) A9) (Ai (fQ (aB (bL (nm:=sI) rfl A7 rfl rfl (QL κ h s.new)) rfl) A9) rfl)))) ((QQ κ h a5 a3 (by rw[Ie];~fun m hm=>h.aIq _ m (by simpa[Ss]using hm)) (by simp)).trans (by rw[Ie,show Ss []=[]from rfl,F9];rfl))) A9 ?_
 &Zg (d:=.int (s.n+1:Nat)) (env':=[.inn v (gA κ (s.e2 k key was now nC fu)),.fro (.int key),.fro (.int was),.fro (.int now),.fro (.int nC),.fro nd,.own (aH fu),.own (.int k),.own (.int (s.ahead k)),.own (.int s.new),.own (.int s.n),.no])
  (lA (p:=[]) (nm:=sI) (es:=[.int (s.ahead k),.int s.new,aH ((s.n:Int)::fu)]) rfl rfl rfl A7 (mapA (gR rfl (gR rfl (gR (aL (fQ (aB rfl rfl) A9) rfl (xM [(s.n:Int)] fu (by simp;omega))) rfl)))) ((aDR κ W1 b2 hc hn2 (by simp;omega)).trans (by rw[aDS];rfl))) A9 ?_
 &pF rfl (aGI (p:=[L2.Step.fld (κ 1) "string"]) (ns:=s.od) rfl rfl (yK w2 rfl) rfl rfl h0 h1 A6) rfl ?_
 rw[show dR [L2.Step.fld (κ 1) "string"] (gA κ (s.e2 k key was now nC fu)) (aH (s.od.take k.toNat++s.new::s.od.drop k.toNat))=.ins (κ 1) sI _ from yL w2 rfl]
 &pF rfl (YX (p:=[L2.Step.fld (κ 1) "loose"]) (ns:=s.lo) rfl rfl (yK w3 rfl) rfl a1) rfl ?_
 rw[yL w3 rfl]
 &pF rfl (Nf (p:=[L2.Step.fld (κ 1) "comings"]) (k:=.inl s.new) (kd:=.int s.new) (d:=.int (s.n+1:Nat)) rfl rfl (yK w5 rfl) rfl rfl rfl rfl (by rw[B7];have:=W2.coo.2;have:=W2.aIo;omega)) rfl ?_
 rw[yL w5 rfl,YQ]
 ~Gx (aBC (oE (aB (bH rfl rfl) (aB (bH rfl rfl) rfl)) A9)) ⟨_,.inl rfl,rfl⟩
B5 uC(a b c:GS)(env:EN):aX (aX a b) c env=aX a (aX b c) env:=by
 B4 aX
 cases a env<;>rfl
B5 aGJ{e:DE}{f f':FE}(h:f e=some (.bl true)):Tg f f' e=some (.bl true):=by B4 Tg;rw[bZ h];rfl
B5 Rw(ns:List Int)(h:ns.length≤1000):lZ [aH ns]=some (.bl true):=by
 have hc:=Bu (fi:=lM (aD 0)) (fr:=[]) (fc:=jN) (fe:=dD 1 oU (aA (aD 0) aK)) (e:=rE [.fro (aH ns)]) (ms:=ns) (fun _=>true) (fun _=>.bl true) (iV rfl) h (fun m hm=>rfl) fun m hm _=>bR (aB rfl rfl) rfl (QC m)
 rw[N0.mpr fun _ _=>rfl]at hc
 ~nO rfl (gC (jc (Yz rfl rfl) ((dU (aB hc rfl) (MT (fun _:Int=>true) _)).trans (by rw[M3.mpr fun _ _=>rfl]))))
B5 Ig(s:Wb):cC κ [gA κ s]=some (aH s.od):=lC rfl (gC (dU (aB (dB rfl (nA w2 rfl)) rfl) (oR (cV _))))
B5 Ih{s:Wb}(h:lG s):eG κ [gA κ s]=some (aH (sortI s.lo)):=lC rfl (gC (dU (aB (dB rfl (nA w3 rfl)) rfl) (xN h.aGH)))
B5 Ub{s:Wb}(h:lG s)(x:Int):lK κ [gA κ s,.int x]=some (Kq (s.la.get x)):=lC rfl (gC (aL (dB rfl (nA w4 rfl)) rfl (YM h.lao.1 x)))
def Wb.cv(s:Wb)(r:List Int):Wb:={s with b:=s.b.cP r}
B5 lG.cv{s:Wb}(h:lG s){r:List Int}(hu:r.Nodup)(hm:∀x∈r,0≤x∧x<(s.n:Int))(hn:∀x∈r,x∉s.b.held):lG (s.cv r)∧bkD (s.cv r)=bkD s∧(s.cv r).n=s.n∧(s.cv r).P=s.P:=by
 have e1:=nQ r s.b
 B3⟨e2,e3⟩:=nR r s.b
 have en:(s.cv r).n=s.n:=congrArg j4 e1
 have eP:(s.cv r).P=s.P:=e2
 &⟨⟨h.bn.cP hu hm hn,by rw[eP];~h.p1,fun k hk=>?_,h.few,h.pos,fun k hk=>?_,fun k hk=>?_,by rw[en];~h.lao,by rw[en];~h.coo,by rw[en];~h.goo,by rw[en];~h.coi,by rw[en];~h.goi,h.DN,h.Kr,h.lon,h.yc,h.key,fun k hk=>?_⟩,?_,en,eP⟩
 ·rw[eP]
  show _<((s.b.cP r).bO.getD _ []).length
  rw[e3]
  ~h.len k hk
 ·rw[eP]
  show s.rs.getD k []=face (s.b.cP r) _ _∧_
  rw[CK h.bn (P6 _) (P6 _) hm]
  ~h.rcd k hk
 ·rw[eP]
  show s.la.get k=lastAt (s.b.cP r).asked _ _
  rw[e1]
  ~h.las k hk
 ·show (at_ (s.b.cP r).asked k).thing.length=5
  rw[e1]
  ~h.th k (by rw[←en];~hk)
 ·B4 bkD
  rw[eP]
  show D.dk bks [_,_,_,_,_,xO (s.b.cP r).asked,_]=_
  rw[e1]
  rfl
def Wb.o1(s:Wb)(k x:Int)(fu:List Int):Wb:=s.wr (s.ahead k) (lnk (s.R (s.ahead k)) ((s.R x).getD 1 0)) (s.ns (s.ahead k) ((s.la.get x).toList++fu))
def Wb.out(s:Wb)(k x:Int)(fu:List Int):Wb:={s.o1 k x fu with od:=s.od.eraseIdx k.toNat,lo:=s.lo++[x],go:=s.go.put x s.n}
B5 ZC{l:List Int}{x:Int}:∀{k:Nat},l.Nodup→l[k]?=some x→l.idxOf x=k:=by
 induction l with
 | nil=>intro k _ h;cases h
 | cons a l ih=>
  intro k hn h
  have hn':=L5.mp hn
  cases k with
  | zero=>cases h;~b6
  | succ k=>
   have h:l[k]?=some x:=h
   have ne:a≠x:=fun z=>hn'.1 (z▸D9 h)
   rw[Y3,show (a==x)=false from beq_false_of_ne ne,←ih hn'.2 h]
   rfl
B5 lG.aJJ{s:Wb}(h:lG s){x:Int}(h0:0≤x)(h1:x<(s.rs.length:Int)):∀m∈(s.la.get x).toList,0≤m∧m<(s.n:Int):=fun m hm=>by
 have e:=h.las x.toNat A6
 rw[U4 h0]at e
 rw[e]at hm
 cases z:lastAt s.b.asked ((x.toNat%s.P:Nat):Int) ((x.toNat/s.P:Nat):Int)with
 | none=>rw[z]at hm;cases hm
 | some y=>
  rw[z]at hm
  rw[E3.mp hm]
  have:=Cg z
  ~⟨this.1,this.2.1⟩
B5 lG.o1{s:Wb}(h:lG s)(hm:s.n<124){k x:Int}{fu:List Int}(h0:0≤k)(h1:k≤(s.od.length:Int))(x0:0≤x)(x1:x<(s.rs.length:Int))(hn:∀m∈fu,0≤m∧m<(s.n:Int))(hf:fu.length≤5):lG (s.o1 k x fu)∧∀m∈(s.la.get x).toList++fu,0≤m∧m<(s.n:Int):=by
 B3⟨b1,b2,b3⟩:=h.ahead h0 h1
 have hn2:∀m∈(s.la.get x).toList++fu,0≤m∧m<(s.n:Int):=fun m hm=>by
  rcases G7.mp hm with z | z
  ·~h.aJJ x0 x1 m z
  ·~hn m z
 &⟨h.wr b2 b3 rfl (h.aDO hn2) ?_ hm fun _=>rfl,hn2⟩
 B4 Wb.ns
 rw[C7,C7]
 have:=wL (s.co.get (s.ahead k))
 have:=wL (s.la.get x)
 omega
B5 aEP(s:Wb)(k x:Int)(fu:List Int):(s.out k x fu).n=s.n+1:=by
 show (s.o1 k x fu).n=_
 B4 Wb.o1
 ~aBS _ _ _ _
B5 jq(s:Wb)(k x:Int)(fu:List Int):(s.out k x fu).rs.length=s.rs.length:=by
 show (s.o1 k x fu).rs.length=_
 B4 Wb.o1
 ~vJ _ _ _ _
B5 lG.out{s:Wb}(h:lG s)(hm:s.n<124){k x:Int}{fu:List Int}(h0:0≤k)(h1:k<(s.od.length:Int))(hx:s.od[k.toNat]?=some x)(hn:∀m∈fu,0≤m∧m<(s.n:Int))(hf:fu.length≤5):lG (s.out k x fu):=by
  have xm:x∈s.od:=D9 hx
  have xr:=h.Kr x xm
  B3⟨w,_⟩:=h.o1 hm h0 (L0 h1) (x:=x) A6 xr.2 hn hf
  have hi:=ZC h.DN hx
  have hlen:=jq s k x fu
  have hnn:=aEP s k x fu
  &⟨w.bn,w.p1,w.len,w.few,w.pos,w.rcd,w.las,w.lao,?_,?_,?_,?_,h.DN.sublist (T2 _ _),?_,?_,?_,w.key.sublist (T2 _ _),w.th⟩
  · rw[hnn];~h.coo.mono A6
  · rw[hnn];~h.goo.put _ _
  · intro z y e
    have:=h.coi z y e
    rw[hnn]
    omega
  · intro z y e
    have e:(s.go.put x s.n).get z=some y:=e
    rw[Mp.yI h.goo.1]at e
    rw[hnn]
    split at e
    · cases e
      omega
    · have:=h.goi z y e
      omega
  · intro z hz
    rw[hlen]
    ~h.Kr z (X3 hz)
  · &O1.mpr ⟨h.lon,by simp,fun y hy z hz q=>?_⟩
    rw[E3.mp hz]at q
    ~((h.yc y).mp hy).2.2 (q▸xm)
  · intro y
    show y∈s.lo++[x]↔_
    rw[hlen]
    show _↔1≤y∧y<(s.rs.length:Int)∧y∉s.od.eraseIdx k.toNat
    rw[←hi,Wo h.DN,G7,E3,h.yc y]
    constructor
    · rintro(⟨z1,z2,z3⟩ | rfl)
      · ~⟨z1,z2,fun q=>z3 q.1⟩
      · ~⟨xr.1,xr.2,fun q=>q.2 rfl⟩
    · rintro⟨z1,z2,z3⟩
      by_cases e:y=x
      · ~.inr e
      · ~.inl ⟨z1,z2,fun q=>z3 ⟨q,e⟩⟩
B5 aBV{s:Wb}(h:lG s)(hm:s.n<124){k x:Int}{fu:List Int}{nd:D}(h0:0≤k)(h1:k<(s.od.length:Int))(hx:s.od[k.toNat]?=some x)(hn:∀m∈fu,0≤m∧m<(s.n:Int))(hf:fu.length≤5)(hnd:(nd=.non∧fu=[])∨nd=aH fu):rY κ [gA κ s,.int x,nd]=some (.int s.n,gA κ (s.out k x fu)):=by
 &pD rfl fun v=>?_
 B4 Hg
 B3⟨b1,b2,b3⟩:=h.ahead h0 (L0 h1)
 have xm:x∈s.od:=D9 hx
 have xr:=h.Kr x xm
 have hi:=ZC h.DN hx
 have h5:=h.five (x:=x) A6 xr.2
 B3⟨W,hn2⟩:=h.o1 hm h0 (L0 h1) (x:=x) A6 xr.2 hn hf
 have ek:Ss (s.la.get x::fu.map some)=(s.la.get x).toList++fu:=by rw[Ie,Bc]
 have hix:Qg (aH s.od) (.int x)=some (.int k):=by
  B4 Qg aH
  dsimp only
  rw[kI,C4,if_pos xm,hi,U4 h0]
 have aIr:=Fq κ (s:=s) hn hnd
 rw[Ks]at aIr
 &cN (d:=.int (s.ahead k)) (bL (nm:=sI) rfl A7 (aB (aL (dB rfl (nA w2 rfl)) rfl hix) rfl) rfl (Lq κ h h0 (L0 h1))) A9 ?_
 &cN (d:=mH (s.la.get x::fu.map some)) (aL (a:=mH [s.la.get x]) (b:=mH (fu.map some)) (fQ (aB (bL (nm:=sI) rfl A7 rfl rfl (Ub κ h x)) rfl) A9) (bL (nm:=sI) rfl A7 rfl rfl aIr) (Ru _ _ (by simp;omega))) A9 ?_
 &Zg (d:=.int s.n) (env':=[.inn v (gA κ (s.o1 k x fu)),.fro (.int x),.fro nd,.own (.int (s.ahead k)),.own (mH (s.la.get x::fu.map some)),.no]) (lA (p:=[]) (nm:=sI) (es:=[.int (s.ahead k),.int ((s.R x).getD 1 0),mH (s.la.get x::fu.map some)]) rfl rfl rfl A7 (mapA (gR rfl (Ai (bH (aL (bL (nm:=sI) rfl A7 rfl rfl (jX κ h A6 xr.2)) rfl (rG (k:=1) A6)) rfl) (gR rfl rfl)))) ((QS κ h b2 b3 (by rw[ek];~hn2) (by simp;omega)).trans (by rw[ek];rfl))) A9 ?_
 &pF rfl (YX (p:=[L2.Step.fld (κ 1) "string"]) (ns:=s.od) rfl rfl (yK w2 rfl) rfl xm) rfl ?_
 rw[hi,show dR [L2.Step.fld (κ 1) "string"] (gA κ (s.o1 k x fu)) (aH (s.od.eraseIdx k.toNat))=.ins (κ 1) sI _ from yL w2 rfl]
 &pF rfl (Qp (p:=[L2.Step.fld (κ 1) "loose"]) (ds:=s.lo.map D.int) (d:=.int x) rfl rfl (yK w3 rfl) (bH rfl rfl) (by rw[B7];have:=h.aGH;omega)) rfl ?_
 rw[yL w3 rfl,El]
 &pF rfl (Nf (p:=[L2.Step.fld (κ 1) "goings"]) (k:=.inl x) (kd:=.int x) (d:=.int s.n) rfl rfl (yK w6 rfl) rfl rfl rfl rfl (by rw[B7];~U8 (show s.go.k.length≤s.n from h.goo.2) A6)) rfl ?_
 rw[yL w6 rfl,YQ]
 ~Nh rfl ⟨_,.inl rfl,rfl⟩
section
variable{env env' e1 e2:EN}{b:Bool}{d d2 r:D}{f:FE}{ft:FT}{g1 g2:GS}{gb gc:GB}{gm:GM}{eF eZ:DE}{z y:FE2}{fs:FA2}{es xs ys:List D}{js:List Nat}{i:Nat}{φ:D→D→Option D}
B5 Ii(h1:z eF eZ=some (.lst xs))(h2:y eF eZ=some (.lst ys))(hl:xs.length+ys.length≤100000):KC z y eF eZ=some (.lst (xs++ys)):=by B4 KC;rw[h1,C4,h2,C4];~if_pos hl
B5 Cp(h:z (rE (zA js env)) (zE (zA js env))=some d)(hi:i<(zA js env).length):Jo js i z env=.next ((zA js env).set i (.fro d)):=by B4 Jo;rw[h];dsimp only;rw[if_pos hi]
end
section
variable{env env' e1 e2 e0:EN}{b:Bool}{d r:D}{gb:GB}{gm gn:GM}{as:List Ar}{F:List D→Option (D×List D)}{Lz Vk ds':List D}{f:FE}{ds:List D}
end
B5 aBW{ds:List D}{xs:List DV}(h:pL ds=some xs)(hd:(DV.lst xs).depth≤32):Il (.lst ds) (.lst ds)=some (.bl true):=by
 have e:jO (.lst ds)=some (.lst xs):=by B4 jO;rw[h];rfl
 B4 Il toV
 dsimp only
 rw[e]
 dsimp only
 rw[if_pos hd,vO]
B5 Rx(ns:List Int)(k:Nat):lV [aH ns,.int k]=some (.int (ns.getD k 0)):=by
 &nO rfl ?_
 B4 NB
 by_cases c:k<ns.length
 ·have hx:=gW (ns:=ns) (i:=k) A6 A6
  rw[D7]at hx
  apply aGm
  ·walk_at "et"
  ·~decide_eq_true A6
  ~aIa (bH (aL rfl rfl hx) rfl) rfl
 ·apply aGl
  ·walk_at "et"
  ·~decide_eq_false A6
  apply aH9
  rw[B9,E8 A6]
  ~gC rfl
B5 xf(c:Int):∃s:Int,0≤s∧lW [.int c]=some (.int s):=by
 suffices h:∃d,lW [.int c]=some d∧∃s:Int,0≤s∧d=.int s by
  B3⟨d,h1,s,h0,rfl⟩:=h
  ~⟨s,h0,h1⟩
 &qU rfl ?_
 B4 Qx
 have a0:=E6 c (show (2147483629:Int)≠0 by decide)
 have a1:=E7 c (show (0:Int)<2147483629 by decide)
 walk_at "q"
 have n0:=E6 ((c%2147483629+1)*48271) (show (2147483629:Int)≠0 by decide)
 have n1:=E7 ((c%2147483629+1)*48271) (show (0:Int)<2147483629 by decide)
 generalize (c%2147483629+1)*48271%2147483629=n at *
 have e50:zH (.int 10) (.int 50)=some (.int (10 ^ 50)):=nP ⟨by decide,by decide,by decide⟩
 have m0:=E6 c (show (10 ^ 50:Int)≠0 by decide)
 have q0:=E6 (n*n) (show (2147483587:Int)≠0 by decide)
 &pC (aL (aL (aL rfl rfl (gG (Ek A6 A6))) rfl (bG A8)) (aL (aL rfl (aL rfl rfl e50) (bG A8)) rfl (gG (aH8 A8 A8))) (bY _ _)) ⟨_,rfl,_,?_,rfl⟩
 have:=o0 m0 (show (0:Int)≤2147483587 by decide)
 omega
abbrev bW(s:List (List (List Int))):D:=mZ s
B5 Ij{s:List (List (List Int))}{k:Nat}{p:List (List Int)}(h:s[k]?=some p):dI (bW s) (.int k)=some (fU p):=by
 B4 bW
 ~nZ A6 (by rw[D7,B8,h];rfl)
B5 aJK{p:List (List Int)}{k:Nat}{t:List Int}(h:p[k]?=some t):dI (fU p) (.int k)=some (dTup t):=by
 B4 fU
 ~nZ A6 (by rw[D7,B8,h];rfl)
B5 Ku(s:List (List (List Int))):jP [bW s]=some (.int s.length):=Cj s
def bJ(P R:Nat)(cQ:List (List Int))(bC:List Int):List (List (List Int)):=(D2 P).map fun p=>((D2 R).map fun r=>cQ.getD (p+P*r) [])++[[bC.getD p 0]]
B5 aBX{P R p r:Nat}(hp:p<P)(hr:r<R):p+P*r<P*R:=by
 have h1:P*(r+1)≤P*R:=Nat.mul_le_mul_left P hr
 rw[Nat.mul_succ]at h1
 omega
B5 getD_mem{l:List Int}{k:Nat}(h:k<l.length):l.getD k 0∈l:=by
 rw[B9,B6 h]
 ~O9 h
B5 Bd{l:List Int}(h:l.Nodup){i j:Nat}(hi:i<l.length)(hj:j<l.length)(hij:i≠j):l.getD i 0≠l.getD j 0:=by
 rw[B9,B9,B6 hi,B6 hj]
 show l[i]≠l[j]
 have hpw:=I0.mp h
 rcases J8 i j with q | q
 ·~hpw i j hi hj q
 ·~fun e=>hpw j i hj hi A6 e.symm
B5 jr{s:List (List (List Int))}{b:Int}(h:0<s.length)(h2:s.length≤1000):xQ [bW s,.int b]=some (dTup [b%s.length,b/s.length]):=by
 &nO rfl ?_
 B4 ji
 have hlen:=Ku s
 apply gC
 show _=some (D.tup [.int (b%s.length),.int (b/s.length)])
 walk_at "ev"
B5 aBY{s:List (List (List Int))}{p:List (List Int)}{t:List Int}{i j:Nat}(h1:s[i]?=some p)(h2:p[j]?=some t):Al [bW s,dTup [(i:Int),(j:Int)]]=some (dTup t):=by
 &nO rfl ?_
 B4 NK
 apply gC
 ~bH (aL (aL rfl (aL rfl rfl (uO A8 rfl)) (Ij h1)) (aL rfl rfl (uO A8 rfl)) (aJK h2)) (lU _)
B5 aBZ{s:List (List (List Int))}{b:Nat}{p:List (List Int)}{t:List Int}(h:0<s.length)(h2:s.length≤1000)(h1:s[b%s.length]?=some p)(h3:p[b/s.length]?=some t):mO [bW s,.int b]=some (dTup t):=by
 &nO rfl ?_
 B4 We
 have hs:=jr (b:=(b:Int)) h h2
 have ht:Al [bW s,dTup [(b:Int)%s.length,(b:Int)/s.length]]=some (dTup t):=aBY (i:=b%s.length) (j:=b/s.length) h1 h3
 apply gC
 walk_at "ev"
B5 zW(P R:Nat)(cQ:List (List Int))(bC:List Int):(bJ P R cQ bC).length=P:=by B4 bJ;rw[B7,D8]
B5 Ni{P R:Nat}{cQ:List (List Int)}{bC:List Int}{p:Nat}(h:p<P):(bJ P R cQ bC)[p]?=some (((D2 R).map fun r=>cQ.getD (p+P*r) [])++[[bC.getD p 0]]):=by
 B4 bJ
 rw[B8,G5 h]
 rfl
B5 CQ{P R:Nat}{cQ:List (List Int)}{bC:List Int}{q:List (List Int)}(h:q∈bJ P R cQ bC):q.length=R+1:=by
 B4 bJ at h
 B3⟨p,_,rfl⟩:=G4.mp h
 rw[C7,B7,D8]
 rfl
B5 aB0{P R:Nat}{cQ:List (List Int)}{bC:List Int}{p r:Nat}(hr:r<R):(((D2 R).map fun r=>cQ.getD (p+P*r) [])++[[bC.getD p 0]])[r]?=some (cQ.getD (p+P*r) []):=by
 rw[G9 (by rw[B7,D8];~hr),B8,G5 hr]
 rfl
B5 aB1{P R:Nat}{cQ:List (List Int)}{bC:List Int}{b:Nat}(hP:0<P)(hb:b<P*R):∃q,(bJ P R cQ bC)[b%P]?=some q∧q[b/P]?=some (cQ.getD b []):=by
 have h1:b%P<P:=T9 _ hP
 have h2:b/P<R:=U0 hb
 &⟨_,Ni h1,?_⟩
 rw[aB0 h2,l8]
def Chain(cQ:List (List Int))(ord:List Int):Prop:=∀k,k≤ord.length→∃key was now nC:Int,cQ[(([0]++ord).getD k 0).toNat]?=some [key,(ord++[0]).getD k 0,was,now,nC]
B5 aB2{P R:Nat}{cQ:List (List Int)}{bC:List Int}{x:Int}{t:List Int}(hP:0<P)(hP8:P≤8)(h0:0≤x)(h1:x<(P*R:Nat))(ht:cQ[x.toNat]?=some t):mO [bW (bJ P R cQ bC),.int x]=some (dTup t):=by
 B3⟨q,q1,q2⟩:=aB1 (cQ:=cQ) (bC:=bC) (b:=x.toNat) hP (show x.toNat<P*R by omega)
 have hl:=zW P R cQ bC
 have:=aBZ (s:=bJ P R cQ bC) (b:=x.toNat) A6 A6 (by rw[hl];~q1) (by rw[hl];~q2)
 rw[U4 h0,mL ht]at this
 ~this
B5 Wq{P R:Nat}{cQ:List (List Int)}{bC ord:List Int}(hP:0<P)(hP8:P≤8)(hR:0<R)(hc:Chain cQ ord)(hb:∀x∈ord,1≤x∧x<(P*R:Nat))(hn:ord.Nodup)(hl:ord.length≤64):pQ [bW (bJ P R cQ bC)]=some (aH ord):=by
 suffices h:∃d,pQ [bW (bJ P R cQ bC)]=some d∧d=aH ord by
  B3⟨d,h1,rfl⟩:=h
  ~h1
 have hm:0<P*R:=Z0 hP hR
 generalize hbd:P*R=m at *
 have nx:∀k,k≤ord.length→∃t:List Int,mO [bW (bJ P R cQ bC),.int (([0]++ord).getD k 0)]=some (dTup t)∧dI (dTup t) (.int 1)=some (.int ((ord++[0]).getD k 0)):=fun k hk=>by
  B3⟨key,was,now,nC,h1⟩:=hc k hk
  have hx:([0]++ord).getD k 0∈[0]++ord:=getD_mem (by rw[C7];simp;omega)
  have hx2:0≤([0]++ord).getD k 0∧([0]++ord).getD k 0<((P*R:Nat):Int):=by
   rw[hbd]
   rcases G7.mp hx with q | q
   ·have:=E3.mp q;omega
   ·have:=hb _ q;omega
  ~⟨_,aB2 hP hP8 hx2.1 hx2.2 h1,uO A8 rfl⟩
 &qU rfl ?_
 B4 Wf
 walk_at "q"
 B3⟨t0,ht0,hx0⟩:=nx 0 (N4 _)
 have aLC:mO [bW (bJ P R cQ bC),.int 0]=some (dTup t0):=ht0
 walk_at "q"
 &aDG (n:=ord.length) (fun n env=>n≤ord.length∧env=[.fro (bW (bJ P R cQ bC)),.own (.dk ((ord.take (ord.length-n)).map F2) ((ord.take (ord.length-n)).map fun _=>D.bl true)),.own (.int ((ord++[0]).getD (ord.length-n) 0))]) ⟨C6 _,by rw[g7];rfl⟩ A6 ?_ ?_
 ·rintro n env ⟨hnl,rfl⟩
  by_cases c:n=0
  ·left
   subst c
   have e:(ord++[0]).getD (ord.length-0) 0=0:=by rw[f9,B9,N1 (C6 _),g7];rfl
   rw[e]
   &WM (bZ ((aL rfl rfl (xJ 0 0)).trans ?_))
   rw[decide_eq_true rfl]
   rfl
  ·right
   generalize hk:ord.length-n=k
   have hkl:k<ord.length:=by omega
   have e:(ord++[0]).getD k 0=ord.getD k 0:=by rw[B9,B9,G9 hkl]
   have hx:=hb _ (getD_mem hkl)
   have hnew:ord.getD k 0∉ord.take k:=by
    intro z
    B3⟨j,hj,ej⟩:=J6 z
    rw[J0]at hj
    rw[W4]at ej
    have:=Bd hn (i:=j) (j:=k) A6 hkl A6
    rw[B9,B6 (show j<ord.length by omega)]at this
    ~this ej
   rw[e]
   B3⟨t,ht,hxt⟩:=nx (k+1) hkl
   have ht':mO [bW (bJ P R cQ bC),.int (ord.getD k 0)]=some (dTup t):=ht
   &⟨?_,by omega,_,aIb (aDF (k:=F2 (ord.getD k 0)) rfl rfl rfl rfl (Ah hnew) rfl (by rw[B7,J0];omega)) (xG (bH (aL (bR (aB rfl (aB rfl rfl)) rfl ht') rfl hxt) rfl) A9),by omega,?_⟩
   ·&(aBp (bZ (b:=true) ((aL rfl rfl (xJ _ _)).trans ?_))).trans (bZ (aL rfl rfl ?_))
    ·rw[decide_eq_false A6];rfl
    ·show (some _:Option D)=_
     rw[Ah hnew]
     rfl
   ·have e2:ord.length-(n-1)=k+1:=by omega
    have e3:ord.take (k+1)=ord.take k++[ord.getD k 0]:=by rw[W3,tL (d:=0) hkl];rfl
    rw[e2,e3,G0,G0]
    rfl
 ·rintro env n ⟨hnl,rfl⟩ hf
  by_cases c:n=0
  ·subst c
   rw[f9,T0]
   apply pC (dU (aB rfl rfl) rfl)
   ~⟨_,rfl,Vv ord⟩
  ·exfalso
   generalize hk:ord.length-n=k at hf
   have hkl:k<ord.length:=by omega
   have e:(ord++[0]).getD k 0=ord.getD k 0:=by rw[B9,B9,G9 hkl]
   have hx:=hb _ (getD_mem hkl)
   have hnew:ord.getD k 0∉ord.take k:=by
    intro z
    B3⟨j,hj,ej⟩:=J6 z
    rw[J0]at hj
    rw[W4]at ej
    have:=Bd hn (i:=j) (j:=k) A6 hkl A6
    rw[B9,B6 (show j<ord.length by omega)]at this
    ~this ej
   rw[e]at hf
   have:(Cu (fB (f2 Gd (aD 2) (fC (.int (0))))) (fB (f2 (Ge true) (aD 2) (aD 1)))) (rE [.fro (bW (bJ P R cQ bC)),.own (.dk ((ord.take k).map F2) ((ord.take k).map fun _=>D.bl true)),.own (.int (ord.getD k 0))])=some true:=by
    &(aBp (bZ (b:=true) ((aL rfl rfl (xJ _ _)).trans ?_))).trans (bZ (aL rfl rfl ?_))
    ·rw[decide_eq_false A6];rfl
    ·show (some _:Option D)=_
     rw[Ah hnew]
     rfl
   rw[this]at hf
   cases hf
def gK(m:Nat):List Int:=(D2 (m-1)).map fun i:Nat=>(1:Int)+(i:Int)
B5 aB3{P R:Nat}{cQ:List (List Int)}{bC ord:List Int}(hP:0<P)(hP8:P≤8)(hR:0<R)(hR8:R≤8)(hc:Chain cQ ord)(hb:∀x∈ord,1≤x∧x<(P*R:Nat))(hn:ord.Nodup)(hl:ord.length≤64) :
    qF [bW (bJ P R cQ bC)]=some (aH ((gK (P*R)).filter fun i=>!decide (i∈ord))):=by
  have aDU:P*R≤8*8:=U6 hP8 hR8
  have hm0:0<P*R:=Z0 hP hR
  have hstr:=Wq (bC:=bC) hP hP8 hR hc hb hn hl
  have QT:oM [bW (bJ P R cQ bC)]=some (.int ((P*R:Nat):Int)):=by
    &nO rfl ?_
    B4 Er
    apply gC
    have hls:=Ku (bJ P R cQ bC)
    rw[zW]at hls
    have h0:(bJ P R cQ bC)[0]?=some _:=Ni (p:=0) hP
    have hix:dI (bW (bJ P R cQ bC)) (.int 0)=some (fU _):=Ij (k:=0) h0
    have hlp:=Hz (((D2 R).map fun r=>cQ.getD (0+P*r) [])++[[bC.getD 0 0]])
    rw[CQ (D9 h0)]at hlp
    rw[U1]
    have e:(R:Int)=((R+1:Nat):Int)-1:=by omega
    rw[e]
    ~aL (dU (aB rfl rfl) hls) (aL (dU (aB (aL rfl rfl hix) rfl) hlp) rfl (jT _ _)) (gG (Ek A6 A6))
  suffices h:∃d,qF [bW (bJ P R cQ bC)]=some d∧d=aH ((gK (P*R)).filter fun i=>!decide (i∈ord)) by
    B3⟨d,h1,rfl⟩:=h
    ~h1
  &qU rfl ?_
  B4 Lh
  walk_at "q"
  generalize P*R=m at *
  have e:iY (0+1) ((m:Int)-(0+1)).toNat=(gK m).map D.int:=by
    B4 iY gK
    rw[K5,show ((m:Int)-(0+1)).toNat=m-1 by omega]
    rfl
  &pC (d:=aH ((gK m).filter fun i=>!decide (i∈ord))) ?_ ⟨_,rfl,rfl⟩
  &(Ag (ys:=((iY (0+1) ((m:Int)-(0+1)).toNat).filter fun d=>match d with | .int i=>!decide (i∈ord) | _=>false).map id) (LC (i:=0+1) (j:=m) (aB (aL rfl rfl (bY _ _)) (aB (bR (aB rfl rfl) rfl QT) rfl)) A8 A8 A6 A6) (by rw[Ei];omega) ?_).trans ?_
  · &Gr (p:=fun d=>match d with | .int i=>!decide (i∈ord) | _=>false) (φ:=id) ?_ ?_
    · intro x hx
      B3⟨k,hk,rfl⟩:=Ej hx
      ~bZ (aL rfl rfl (Gv true _ ord))
    · intro x hx _
      B3⟨k,hk,rfl⟩:=Ej hx
      ~bH rfl rfl
  · rw[List.map_id,e,List.filter_map]
    rfl
B5 ZD{i a b:Nat}{f f' g:FE}{env:EN}{s:List (List (List Int))}{q:List (List Int)}{t:List Int}(h1:env[i]?=some (.own (bW s)))(h2:g (rE env)=some (.int (a:Int)))(h3:f (rE env)=some (.int (b:Int)))(h4:f' (rE env)=some (dTup t))(h5:s[a]?=some q)(h6:b<q.length) :
  uM i (Tj cW g) f f' env=.next (env.set i (.own (bW (s.set a (q.set b t))))):=by
 have hk:(s.map fU)[a]?=some (fU q):=by rw[B8,h5];rfl
 have hp:Tj cW g (rE env)=some [.ix a]:=by
  B4 Tj cW
  rw[C4,h2,C4]
  dsimp only
  rw[if_pos A6,D7]
  rfl
 have hget:eO [.ix a] (bW s)=some (.lst (q.map dTup)):=by
  show ((s.map fU)[a]?).bind (eO [])=_
  rw[hk]
  rfl
 have aJL:∀d:List D,dR [.ix a] (bW s) (.lst d)=.lst ((s.map fU).set a (.lst d)):=fun d=>by
  show (match (s.map fU)[a]? with | some c=>_ | none=>_)=_
  rw[hk]
  rfl
 have hix:Up (q.map dTup).length (b:Int)=some b:=by
  B4 Up
  rw[if_pos A6,if_pos (by rw[B7];omega),D7]
 B4 uM
 rw[h1,hp,h3,h4]
 dsimp only
 rw[hget]
 dsimp only
 rw[hix]
 dsimp only
 rw[aJL,←R7]
 show SR.next (env.set i (.own (.lst ((s.map fU).set a (fU (q.set b t))))))=_
 rw[←R7]
 rfl
B5 aB4(ns:List Int):∃P R:Nat,vY [aH ns]=some (.tup [.int P,.int R])∧1≤P∧P≤8∧1≤R∧R≤8:=by
 suffices hh:∃d,vY [aH ns]=some d∧∃P R:Nat,d=.tup [.int P,.int R]∧1≤P∧P≤8∧1≤R∧R≤8 by
  B3⟨d,e,P,R,rfl,q⟩:=hh
  ~⟨P,R,e,q⟩
 &qU rfl ?_
 B4 Wa
 have hcell:=Rx ns 0
 generalize ns.getD 0 0=c at hcell
 have aGK:lV [aH ns,.int 0]=some (.int c):=hcell
 &cN (d:=.int c) (bR (aB rfl (aB rfl rfl)) rfl aGK) A9 ?_
 have nn:∀{a m:Int},0<m→m≤8→∃P:Nat,1+a%m=(P:Int)∧1≤P∧P≤8:=fun{a m} h h2=>by
  have h0:=E6 a (show m≠0 by omega)
  have h1:=E7 a h
  ~⟨(1+a%m).toNat,by omega,by omega,by omega⟩
 &Gs (bZ (aL (aL (aL rfl rfl (eE A8 A8)) rfl (bG A8)) rfl (pA _ _))) (fun _=>?_) fun _=>vG ?_
 ·B3⟨P,e1,p1,p2⟩:=nn (a:=c) (m:=8) A8 A8
  B3⟨R,e2,r1,r2⟩:=nn (a:=c/240) (m:=8) A8 A8
  ~Vt ((oE (aB (aL rfl (aL rfl rfl (bG A8)) (bY _ _)) (aB (aL rfl (aL (aL rfl rfl (eE A8 A8)) rfl (bG A8)) (bY _ _)) rfl)) A9).trans (by rw[e1,e2])) ⟨_,rfl,P,R,rfl,p1,p2,r1,r2⟩
 ·B3⟨P,e1,p1,p2⟩:=nn (a:=c) (m:=5) A8 A8
  B3⟨R,e2,r1,r2⟩:=nn (a:=c/5) (m:=6) A8 A8
  ~pC ((oE (aB (aL rfl (aL rfl rfl (bG A8)) (bY _ _)) (aB (aL rfl (aL (aL rfl rfl (eE A8 A8)) rfl (bG A8)) (bY _ _)) rfl)) A9).trans (by rw[e1,e2])) ⟨_,rfl,P,R,rfl,p1,p2,r1,r2⟩
B5 Be(c:Int){k:Int}(h0:0≤k)(h1:k≤100000):∃m:Int,lD [.int c,.int k]=some (.int m)∧0≤m∧m<2147483587:=by
 suffices hh:∃d,lD [.int c,.int k]=some d∧∃m:Int,d=.int m∧0≤m∧m<2147483587 by
  B3⟨d,e,m,rfl,q⟩:=hh
  ~⟨m,e,q⟩
 &qU rfl ?_
 B4 Wc
 have a0:=E6 c (show (2147483629:Int)≠0 by decide)
 have a1:=E7 c (show (0:Int)<2147483629 by decide)
 &cN (aL (aL (aL (aL rfl rfl (bG A8)) rfl (bY _ _)) (aL rfl (aL (aL rfl rfl (gG (Ek A8 A8))) rfl (gG (Ek A6 A6))) (bY _ _)) (gG (Ek A6 A6))) rfl (bG A8)) A9 ?_
 generalize hn:(c%2147483629+1)*(48271+2*k*k)%2147483629=n
 have n0:0≤n:=by rw[←hn];~E6 _ A8
 have n1:n<2147483629:=by rw[←hn];~E7 _ A8
 ~pC (aL (aL rfl rfl (gG (Ek A6 A6))) rfl (bG A8)) ⟨_,rfl,_,rfl,E6 _ A8,E7 _ A8⟩
B5 Ry(c:Int){k:Int}(key f:Int)(h0:0≤k)(h1:k≤1000):∃a b e:Int,pP [.int c,.int k,.int key,.int f]=some (dTup [key,f,a,b,e]):=by
 suffices hh:∃d,pP [.int c,.int k,.int key,.int f]=some d∧∃a b e:Int,d=dTup [key,f,a,b,e] by
  B3⟨d,q,a,b,e,rfl⟩:=hh
  ~⟨a,b,e,q⟩
 &qU rfl ?_
 B4 Qu
 B3⟨p,hp,p0,p1⟩:=Be c (k:=5*k) A6 A6
 B3⟨m,hm,m0,m1⟩:=Be c (k:=5*k+1) A6 A6
 have pick:∀(l:List Int)(k:Int),0≤k→k<(l.length:Int)→∃y,dI (aH l) (.int k)=some (.int y):=fun l k a b=>⟨_,gW a b⟩
 B3⟨now,aJM⟩:=pick [0,1,2,m*10 ^ (40:Int).toNat,-1] (p%5) (E6 _ A8) (E7 _ A8)
 B3⟨was,aJN⟩:=pick [-1,0,5,p] (p/90%4) (E6 _ A8) (E7 _ A8)
 &cN (d:=.int p) (bR (aB rfl (aB (aL rfl rfl (gG (Ek A8 A8))) rfl)) rfl hp) A9 ?_
 &cN (d:=.int now) (bH (aL (fQ (aB rfl (aB rfl (aB rfl (aB (aL (bR (aB rfl (aB (aL (aL rfl rfl (gG (Ek A8 A8))) rfl (bY _ _)) rfl)) rfl hm) (aL rfl rfl (nP ⟨by decide,by decide,by decide⟩)) (gG (Ek A6 A6))) (aB (pZ rfl) rfl))))) A9) (aL rfl rfl (bG A8)) aJM) rfl) A9 ?_
 &cN (d:=.int 0) rfl A9 ?_
 have fin:∀nC:Int,Qs (fun r=>∃d,r=.ret d∧∃a b e:Int,d=dTup [key,f,a,b,e]) (aX (qM (fB (f2 Il (aD 6) (fC (.int 0)))) (dG 5 (fL aDz (aA (aD 5) aK))) fG) (fO (vQ (aA (cO (aD 2)) (aA (cO (aD 3)) (aA (cO (f2 dI (kE (aA (zK (fC (.int 1))) (aA (fC (.int 0)) (aA (fC (.int 5)) (aA (aD 4) aK))))) (f2 eV (f2 sX (aD 4) (fC (.int 90))) (fC (.int 4))))) (aA (cO (aD 5)) (aA (cO (aD 6)) aK))))))) [.fro (.int c),.fro (.int k),.fro (.int key),.fro (.int f),.own (.int p),.own (.int now),.own (.int nC)]):=fun nC=>by
  have last:∀b:Int,Qs (fun r=>∃d,r=.ret d∧∃a b e:Int,d=dTup [key,f,a,b,e]) (fO (vQ (aA (cO (aD 2)) (aA (cO (aD 3)) (aA (cO (f2 dI (kE (aA (zK (fC (.int 1))) (aA (fC (.int 0)) (aA (fC (.int 5)) (aA (aD 4) aK))))) (f2 eV (f2 sX (aD 4) (fC (.int 90))) (fC (.int 4))))) (aA (cO (aD 5)) (aA (cO (aD 6)) aK)))))) [.fro (.int c),.fro (.int k),.fro (.int key),.fro (.int f),.own (.int p),.own (.int b),.own (.int nC)]):=fun b=>pC (oE (aB (bH rfl rfl) (aB (bH rfl rfl) (aB (bH (aL (fQ (aB (pZ rfl) (aB rfl (aB rfl (aB rfl rfl)))) A9) (aL (aL rfl rfl (eE A8 A8)) rfl (bG A8)) aJN) rfl) (aB (bH rfl rfl) (aB (bH rfl rfl) rfl))))) A9) ⟨_,rfl,_,_,_,rfl⟩
  &Gs (bZ (aL rfl rfl (pA _ _))) (fun _=>?_) fun _=>vG (last now)
  ~Tp (xG (d:=.int (if now<0 then -now else now)) (dU (aB rfl rfl) rfl) A9) (last _)
 &Gs (bZ (aL (aL (aL rfl rfl (eE A8 A8)) rfl (bG A8)) rfl (pA _ _))) (fun _=>?_) fun _=>vG (fin 0)
 ~Tp (xG (aL rfl (aL (aL rfl rfl (eE A8 A8)) rfl (bG A8)) (bY _ _)) A9) (fin _)
def De(P R:Nat)(rs:List (List Int)):List (List (List Int)):=(D2 P).map fun p=>(D2 R).map fun r=>rs.getD (p+P*r) []
B5 Kv{P R:Nat}{rs:List (List Int)}{p:Nat}(h:p<P):(De P R rs)[p]?=some ((D2 R).map fun r=>rs.getD (p+P*r) []):=by
 B4 De
 rw[B8,G5 h]
 rfl
B5 aB5{P x:Nat}{p r:Nat}(hp:p<P)(h:p+P*r=x):x%P=p∧x/P=r:=by
 subst h
 ~⟨by rw[Nat.add_mul_mod_self_left,Nat.mod_eq_of_lt hp],by rw[Nat.add_mul_div_left _ _ A6,Nat.div_eq_of_lt hp,Q4]⟩
B5 aB6{P R x:Nat}{rs:List (List Int)}{t:List Int}(hP:0<P)(h:x<P*R)(hl:rs.length=P*R):(De P R rs).set (x%P) (((D2 R).map fun r=>rs.getD (x%P+P*r) []).set (x/P) t)=De P R (rs.set x t):=by
 have a:=T9 x hP
 have b:x/P<R:=U0 h
 apply K6
 intro p
 rw[F8,show (De P R rs).length=P by B4 De;rw[B7,D8]]
 by_cases hp:p<P
 ·rw[Kv hp,Kv hp]
  by_cases e:x%P=p
  ·rw[if_pos e,if_pos a]
   congr 1
   apply K6
   intro r
   rw[F8,B7,D8,B8,B8]
   by_cases hr:r<R
   ·rw[G5 hr,G1,G1,qK _ _ _ _ _ A6]
    by_cases e2:x/P=r
    ·rw[if_pos e2,if_pos b,if_pos (by rw[←e,←e2];~(l8 x P).symm)]
    ·rw[if_neg e2,if_neg fun z=>e2 (aB5 hp z.symm).2,e]
   ·rw[E8 (by rw[D8];omega)]
    rw[if_neg A6]
    rfl
  ·rw[if_neg e]
   congr 1
   apply L4
   intro r hr
   have:=aBX hp (F5.mp hr)
   rw[qK _ _ _ _ _ A6,if_neg fun z=>e (aB5 hp z.symm).1]
 ·rw[if_neg A6]
  B4 De
  rw[B8,B8,E8 (by rw[D8];omega)]
  rfl
B5 QV{i P R x:Nat}{f f' g:FE}{env:EN}{rs:List (List Int)}{t:List Int}(hP:0<P)(h:x<P*R)(hl:rs.length=P*R)(h1:env[i]?=some (.own (bW (De P R rs))))(h2:g (rE env)=some (.int ((x:Int)%(P:Int))))(h3:f (rE env)=some (.int ((x:Int)/(P:Int))))(h4:f' (rE env)=some (dTup t)) :
  uM i (Tj cW g) f f' env=.next (env.set i (.own (bW (De P R (rs.set x t))))):=by
 rw[←j9]at h2
 rw[←k7]at h3
 rw[ZD (a:=x%P) (b:=x/P) h1 h2 h3 h4 (Kv (T9 x hP)) (by rw[B7,D8];~U0 h),aB6 hP h hl]
structure Built(P R:Nat)(rs:List (List Int))(od:List Int):Prop where
 p1:1≤P
 p8:P≤8
 r1:1≤R
 r8:R≤8
 len:rs.length=P*R
 five:∀k,k<P*R→(rs.getD k []).length=5
 DN:od.Nodup
 Kr:∀x∈od,1≤x∧x<(P*R:Nat)
 chain:Chain rs od
 key:od.Pairwise fun x y=>(rs.getD x.toNat []).getD 0 0<(rs.getD y.toNat []).getD 0 0
B5 aB7{ns:List Int}:∃(P R:Nat)(rs:List (List Int))(bC od:List Int),wA [aH ns]=some (bW (bJ P R rs bC))∧Built P R rs od:=by
 suffices hh:∃d,wA [aH ns]=some d∧∃(P R:Nat)(rs:List (List Int))(bC od:List Int),d=bW (bJ P R rs bC)∧Built P R rs od by
  B3⟨d,e,P,R,rs,bC,od,rfl,q⟩:=hh
  ~⟨P,R,rs,bC,od,e,q⟩
 &qU rfl ?_
 B4 Wd
 B3⟨P,R,hsz,p1,p8,r1,r8⟩:=aB4 ns
 have hm0:0<P*R:=Z0 p1 r1
 have aDU:P*R≤8*8:=U6 p8 r8
 have hPR:((P:Int)*(R:Int))=((P*R:Nat):Int):=(U1 P R).symm
 generalize hM:P*R=M at *
 have hP0:(0:Int)<P:=by omega
 have hP9:(P:Int)<1073741824:=by omega
 have hmul:∀{env:EN},(rE env)[1]?=some (some (.int (P:Int)))→(rE env)[2]?=some (some (.int (R:Int)))→f2 sW (aD 1) (aD 2) (rE env)=some (.int (M:Int)):=fun h1 h2=>(aL (cI h1) (cI h2) (gG (Ek A6 A6))).trans (by rw[hPR])
 &aIf (ds:=[.int P,.int R]) (bR (aB rfl rfl) rfl hsz) rfl rfl ?_
 have hsp:fL rR (aA (fC (.int 1)) (aA (f2 sW (aD 1) (aD 2)) aK)) (rE (uN ([aH ns].map SD.fro++E4 (11-1) SD.no) [1,2] [.int P,.int R]))=some (aH (gK M)):=by
  &(dU (aB rfl (aB (hmul rfl rfl) rfl)) (show rR [.int 1,.int (M:Int)]=some _ from if_pos ⟨by decide,by decide,by omega,by omega⟩)).trans ?_
  B4 aH gK
  rw[K5,show ((M:Int)-1).toNat=M-1 by omega]
  rfl
 &cN hsp A9 ?_
 &cN (d:=aH [0]) rfl A9 ?_
 have hc1:lV [aH ns,.int 1]=some (.int (ns.getD 1 0)):=Rx ns 1
 have hc2:lV [aH ns,.int 2]=some (.int (ns.getD 2 0)):=Rx ns 2
 generalize ns.getD 1 0=c1 at hc1
 generalize ns.getD 2 0=c at hc2
 have b0:=E6 c1 (show (M:Int)≠0 by omega)
 have b1:=E7 c1 (show 0<(M:Int) by omega)
 &Zb (n:=(c1%(M:Int)).toNat) (fun k env=>∃(sp bs:List Int)(v:SD),env=[.fro (aH ns),.own (.int P),.own (.int R),.own (aH sp),.own (aH (0::bs)),v,.no,.no,.no,.no,.no]∧bs.length=k∧(bs++sp).Perm (gK M)) (KZ (aB (aL (bR (aB rfl (aB rfl rfl)) rfl hc1) (hmul rfl rfl) (bG A6)) rfl) A6 A6) ⟨gK M,[],_,rfl,rfl,Q3 _⟩ ?_ ?_
 ·rintro k env hk ⟨sp,bs,v,rfl,hb,hp⟩
  &⟨by walk_at "lt", ?_⟩
  have hlen:=hp.length_eq
  rw[C7,hb,show (gK M).length=M-1 by B4 gK;rw[B7,D8]]at hlen
  B3⟨m,hm,_,_⟩:=Be c1 (k:=(k:Int)) A6 A6
  have i0:=E6 m (show (sp.length:Int)≠0 by omega)
  have i1:=E7 m (show 0<(sp.length:Int) by omega)
  &⟨_,Za (ns:=0::bs) (ms:=sp) (k:=m%(sp.length:Int)) rfl rfl (aL (bR (aB (bR (aB rfl (aB rfl rfl)) rfl hc1) (aB rfl rfl)) rfl hm) (dU (aB rfl rfl) (lB _)) (bG A6)) A8 (by simp;omega) A6 i0 i1,sp.eraseIdx (m%(sp.length:Int)).toNat,bs++[sp.getD (m%(sp.length:Int)).toNat 0],_,rfl,by rw[C7,hb];rfl,?_⟩
  rw[P8]
  ~(Z7 bs (Qn sp _ 0 A6)).trans hp
 rintro env ⟨sp,bs,v5,rfl,hb,hp⟩
 have hnd:(bs++sp).Nodup:=hp.nodup_iff.mpr (by
  B4 gK
  &j0 _ (fun a b (h:a≠b)=>by omega) k8)
 have hmem:∀x,x∈bs++sp→1≤x∧x<(M:Int):=fun x hx=>by
  have:=hp.mem_iff.mp hx
  B4 gK at this
  B3⟨i,hi,rfl⟩:=G4.mp this
  have:=F5.mp hi
  omega
 have hbn:=(O1.mp hnd).1
 have hbm:∀x∈bs,1≤x∧x<(M:Int):=fun x hx=>hmem x (N8 _ hx)
 have hsm:∀x∈sp,1≤x∧x<(M:Int):=fun x hx=>hmem x (G3 _ hx)
 have aLG:sp.length≤M:=by
  have:=hp.length_eq
  rw[C7,show (gK M).length=M-1 by B4 gK;rw[B7,D8]]at this
  omega
 have hbl:bs.length<M:=by omega
 generalize aGL:E4 M ([0,0,-1,-1,0]:List Int)=rs0
 have hl0:rs0.length=M:=by rw[←aGL,P9]
 have aIs:gF (tD (aA (aD 1) aK)) [2] jN (gF (tD (aA (aD 1) aK)) [] jN (vQ (aA (fC (.int 0)) (aA (fC (.int 0)) (aA (zK (fC (.int 1))) (aA (zK (fC (.int 1))) (aA (fC (.int 0)) aK))))))) (rE [.fro (aH ns),.own (.int P),.own (.int R),.own (aH sp),.own (aH (0::bs)),v5,.no,.no,.no,.no,.no])=some (bW (De P R rs0)):=by
  &(Em (n:=P) (φ:=fun p=>fU ((D2 R).map fun r=>rs0.getD (p+P*r) [])) (Gu (aB rfl rfl) A6) A6 fun p hp=>?_).trans ?_
  ·&(Em (n:=R) (φ:=fun r=>dTup (rs0.getD (p+P*r) [])) (Gu (aB rfl rfl) A6) A6 fun r hr=>?_).trans ?_
   ·have:=aBX hp hr
    rw[←aGL,B9,P4,if_pos A6]
    ~oE (aB rfl (aB rfl (aB (pZ rfl) (aB (pZ rfl) (aB rfl rfl))))) A9
   ·B4 fU
    rw[K5]
    rfl
  ·show _=some (D.lst ((De P R rs0).map fU))
   B4 De
   rw[K5]
   rfl
 &cN aIs A9 ?_
 &cN (d:=.int c) (bR (aB rfl (aB rfl rfl)) rfl hc2) A9 ?_
 have p9:(0:Int)<10 ^ (9:Int).toNat:=P7 A8
 have p58:(0:Int)<10 ^ (58:Int).toNat:=P7 A8
 have hpw:∀n:Int,0≤n→n<100→zH (.int 10) (.int n)=some (.int (10 ^ n.toNat)):=fun n a b=>nP ⟨a,by omega,by omega⟩
 have f5:∀{l:List (List Int)} {x:Nat} {t:List Int},l.length=M→x<M→t.length=5→(∀k,k<M→(l.getD k []).length=5)→∀k,k<M→((l.set x t).getD k []).length=5:=fun{l x t} h1 h2 h3 h4 k hk=>by
  rw[qK _ _ _ _ _ A6]
  split
  ·~h3
  ·~h4 k hk
 &aBy (xs:=sp.map D.int) (fun k env=>∃(rs:List (List Int))(v:SD),env=[.fro (aH ns),.own (.int P),.own (.int R),.fro (aH sp),.own (aH (0::bs)),v5,.own (bW (De P R rs)),.own (.int c),v,.no,.no]∧rs.length=M∧∀k,k<M→(rs.getD k []).length=5) rfl (iV rfl) ⟨rs0,_,rfl,hl0,fun k hk=>by rw[←aGL,B9,P4,if_pos hk];rfl⟩ ?_ ?_
 ·rintro k x env hx ⟨rs,v,rfl,hl,h5⟩
  &⟨by walk_at "lt", ?_⟩
  rw[B8]at hx
  B3⟨y,hy,rfl⟩:=lN hx
  have ym:=hsm y (D9 hy)
  B3⟨a,b,e,hrec⟩:=Ry c (k:=y) (c%10 ^ (9:Int).toNat) (y*y%(M:Int)) A6 A6
  have ye:((y.toNat:Nat):Int)=y:=by omega
  &⟨_,QV (x:=y.toNat) (t:=[c%10 ^ (9:Int).toNat,y*y%(M:Int),a,b,e]) p1 (by rw[hM];omega) (by rw[hM];~hl) rfl (by rw[ye];~aL rfl rfl (bG hP0)) (by rw[ye];~aL rfl rfl (eE hP0 hP9)) (bR (aB rfl (aB rfl (aB (aL rfl (aL rfl rfl (hpw 9 A8 A8)) (bG p9)) (aB (aL (aL rfl rfl (gG (Ek A6 A6))) (hmul rfl rfl) (bG A6)) rfl)))) rfl hrec),_,_,rfl,by rw[J5];~hl,f5 hl A6 rfl h5⟩
 rintro env ⟨rs1,v8,rfl,hl1,h51⟩
 &cN (d:=.int (c%10 ^ (58:Int).toNat)) (aL rfl (aL rfl rfl (hpw 58 A8 A8)) (bG p58)) A9 ?_
 have hb0:∀i,i<bs.length+1→0≤(0::bs).getD i 0∧(0::bs).getD i 0<(M:Int):=fun i hi=>by
  have:=getD_mem (l:=0::bs) (k:=i) (by simp;omega)
  rcases C9.mp this with z | z
  ·rw[z];omega
  ·have:=hbm _ z;omega
 have aGM:(0::bs).Nodup:=L5.mpr ⟨fun z=>by have:=hbm 0 z;omega,hbn⟩
 &Zb (n:=bs.length+1) (fun k env=>∃(rs:List (List Int))(key:Int)(v5 v8:SD),env=[.fro (aH ns),.own (.int P),.own (.int R),.fro (aH sp),.own (aH (0::bs)),v5,.own (bW (De P R rs)),.own (.int c),v8,.own (.int key),.no]∧rs.length=M∧(∀k,k<M→(rs.getD k []).length=5) ∧
   (∀i,i<k→∃y was now nC:Int,rs[((0::bs).getD i 0).toNat]?=some [y,(bs++[0]).getD i 0,was,now,nC]∧y<key)∧(∀i j,i<j→j<k→(rs.getD ((0::bs).getD i 0).toNat []).getD 0 0<(rs.getD ((0::bs).getD j 0).toNat []).getD 0 0)) (Gu (aB ((dU (aB rfl rfl) (lB _)).trans rfl) rfl) A6) ⟨rs1,_,_,_,rfl,hl1,h51,fun i hi=>absurd hi (L7 _),fun i j _ hj=>absurd hj (L7 _)⟩ ?_ ?_
 ·rintro k env hk ⟨rs,key,w5,w8,rfl,hl,h5,hch,hke⟩
  &⟨by walk_at "lt", ?_⟩
  B3⟨x0,x1⟩:=hb0 k hk
  generalize hx:(0::bs).getD k 0=x at *
  have xe:((x.toNat:Nat):Int)=x:=by omega
  have ix:dI (aH (0::bs)) (.int (k:Int))=some (.int x):=(gW A6 (by simp;omega)).trans (by rw[D7,hx])
  have ixn:dI (aH ((0::bs)++[0])) (.int ((k:Int)+1))=some (.int ((bs++[0]).getD k 0)):=(gW A6 (by simp;omega)).trans (by rw[show ((k:Int)+1).toNat=k+1 by omega];rfl)
  B3⟨a,b,e,hrec⟩:=Ry c (k:=(k:Int)+100) key ((bs++[0]).getD k 0) A6 A6
  B3⟨m,hm,m0,m1⟩:=Be c (k:=(k:Int)+7) A6 A6
  &cN (d:=.int x) (bH (aL rfl rfl ix) rfl) A9 ?_
  &Tp (QV (x:=x.toNat) (t:=[key,(bs++[0]).getD k 0,a,b,e]) p1 (by rw[hM];omega) (by rw[hM];~hl) rfl (by rw[xe];~aL rfl rfl (bG hP0)) (by rw[xe];~aL rfl rfl (eE hP0 hP9)) (bR (aB rfl (aB (aL rfl rfl (bY _ _)) (aB rfl (aB (aL (aL rfl (fQ (aB rfl rfl) A9) (xM (0::bs) [0] (by simp;omega))) (aL rfl rfl (bY _ _)) ixn) rfl)))) rfl hrec)) ?_
  have c20:=E6 c (show (2:Int)≠0 by decide)
  have c21:=E7 c (show (0:Int)<2 by decide)
  have pos:∃z:Int,0≤z∧dI (aH [1,10 ^ (40:Int).toNat]) (.int (c%2))=some (.int z):=by
   rcases(show c%2=0∨c%2=1 by omega)with z | z
   ·~⟨1,by decide,by rw[z];rfl⟩
   ·~⟨10 ^ (40:Int).toNat,L0 (P7 A8),by rw[z];rfl⟩
  B3⟨z,z0,hz⟩:=pos
  have mm:=E6 m (show (3:Int)≠0 by decide)
  have mm1:=E7 m (show (0:Int)<3 by decide)
  have hst:0≤m%3*z:=o0 mm z0
  &aGn (d:=.int (key+1+m%3*z)) (aL (aL rfl rfl (bY _ _)) (aL (aL (bR (aB rfl (aB (aL rfl rfl (bY _ _)) rfl)) rfl hm) rfl (bG A8)) (aL (fQ (aB rfl (aB (aL rfl rfl (hpw 40 A8 A8)) rfl)) A9) (aL rfl rfl (bG A8)) hz) (gG (Ek A6 A6))) (bY _ _)) A9 ⟨_,rfl,_,_,_,_,rfl,by rw[J5];~hl,f5 hl A6 rfl h5,?_,?_⟩
  ·intro i hi
   rcases J8 i k with q | q
   ·B3⟨y,was,now,nC,h1,h2⟩:=hch i q
    have hi0:=hb0 i A6
    have ne:(0::bs).getD i 0≠x:=by rw[←hx];~Bd aGM (by simp;omega) (by simp;omega) A6
    ~⟨y,was,now,nC,by rw[T5 A6];~h1,by omega⟩
   ·have:i=k:=by omega
    subst this
    rw[hx]
    ~⟨key,a,b,e,by rw[G6 A6],by omega⟩
  ·intro i j hij hj
   have hi0:=hb0 i A6
   have nei:(0::bs).getD i 0≠x:=by rw[←hx];~Bd aGM (by simp;omega) (by simp;omega) A6
   rw[qK _ _ _ _ _ A6,if_neg A6]
   rcases J8 j k with q | q
   ·have hj0:=hb0 j A6
    have nej:(0::bs).getD j 0≠x:=by rw[←hx];~Bd aGM (by simp;omega) (by simp;omega) A6
    rw[qK _ _ _ _ _ A6,if_neg A6]
    ~hke i j hij q
   ·have:j=k:=by omega
    subst this
    rw[hx,qK _ _ _ _ _ A6,if_pos rfl]
    B3⟨y,was,now,nC,h1,h2⟩:=hch i hij
    rw[mL h1]
    ~h2
 rintro env ⟨rs,key,w5,w8,rfl,hl,h5,hch,hke⟩
 &Zb (n:=P) (fun k env=>∃(se:List Int)(v:SD),env=[.fro (aH ns),.own (.int P),.own (.int R),.fro (aH sp),.own (aH (0::bs)),w5,.own (bW ((D2 P).map fun p=>((D2 R).map fun r=>rs.getD (p+P*r) [])++(if p<k then [[se.getD p 0]]else []))),.own (.int c),w8,.own (.int key),v]∧se.length=k) (Gu (aB rfl rfl) A6) ⟨[],_,by
   have:(D2 P).map (fun p=>((D2 R).map fun r=>rs.getD (p+P*r) [])++(if p<0 then [[([]:List Int).getD p 0]]else []))=De P R rs:=by
    B4 De
    apply L4
    intro p _
    rw[if_neg (L7 _),F9]
   rw[this],rfl⟩ ?_ ?_
 ·rintro k env hk ⟨se,v,rfl,hse⟩
  &⟨by walk_at "lt", ?_⟩
  B3⟨m,hm,_,_⟩:=Be c (k:=(k:Int)+70) A6 A6
  generalize hS:((D2 P).map fun p=>((D2 R).map fun r=>rs.getD (p+P*r) [])++(if p<k then [[se.getD p 0]]else []))=S
  have hk2:S[k]?=some ((D2 R).map fun r=>rs.getD (k+P*r) []):=by
   rw[←hS,B8,G5 hk,G1,if_neg (K7 _),F9]
  have hgp:eO [.ix k] (bW S)=some (.lst (((D2 R).map fun r=>rs.getD (k+P*r) []).map dTup)):=Ko (by rw[B8,hk2];rfl)
  &⟨_,Qp (p:=[.ix k]) (d:=dTup [m%10]) rfl (by
   show Tj cW (aD 10) _=_
   rw[BX (k:=(k:Int)) rfl rfl A6,D7]
   rfl) hgp (oE (aB (aL (bR (aB rfl (aB (aL rfl rfl (bY _ _)) rfl)) rfl hm) rfl (bG A8)) rfl) A9) (by rw[B7,B7,D8];omega),se++[m%10],.fro (.int k),?_,by rw[C7,hse];rfl⟩
  rw[show dR [.ix k] (bW S) (.lst (((D2 R).map fun r=>rs.getD (k+P*r) []).map dTup++[dTup [m%10]]))=bW ((D2 P).map fun p=>((D2 R).map fun r=>rs.getD (p+P*r) [])++(if p<k+1 then [[(se++[m%10]).getD p 0]]else []))from ?_]
  ·rfl
  &(Rt (y:=fU _) (by rw[B8,hk2];rfl)).trans ?_
  &congrArg D.lst (?_:(S.map fU).set k _=_)
  apply K6
  intro p
  rw[F8,B7,←hS,B7,D8,B8,B8,B8,B8]
  by_cases hp:p<P
  ·rw[G5 hp]
   by_cases e:k=p
   ·subst e
    rw[if_pos rfl,if_pos hp,G1,G1,if_pos A6,B9,N1 A6,hse,g7]
    B4 fU
    rw[G0]
    rfl
   ·rw[if_neg e,G1,G1,G1,G1]
    by_cases q:p<k
    ·rw[if_pos q,if_pos A6,B9,B9,G9 A6]
    ·rw[if_neg q,if_neg A6]
  ·rw[if_neg A6,E8 (by rw[D8];omega)]
   rfl
 rintro env ⟨se,v,rfl,hse⟩
 &aBx rfl ⟨_,rfl,P,R,rs,se,bs,?_,⟨p1,p8,r1,r8,by rw[hM];~hl,by rw[hM];~h5,hbn,by rw[hM];~hbm,?_,?_⟩⟩
 ·&congrArg mZ ?_
  B4 bJ
  apply L4
  intro p hp
  rw[if_pos (F5.mp hp)]
 ·intro k hk
  B3⟨y,was,now,nC,h1,_⟩:=hch k A6
  ~⟨y,was,now,nC,h1⟩
 ·rw[I0]
  intro i j hi hj hij
  have:=hke (i+1) (j+1) A6 A6
  have ei:(0::bs).getD (i+1) 0=bs[i]:=by rw[U3,B9,B6 hi];rfl
  have ej:(0::bs).getD (j+1) 0=bs[j]:=by rw[U3,B9,B6 hj];rfl
  rw[ei,ej]at this
  ~this
B5 aDV{P R:Nat}{cQ:List (List Int)}{bC:List Int}(hP:0<P)(hP8:P≤8):oM [bW (bJ P R cQ bC)]=some (.int ((P*R:Nat):Int)):=by
 &nO rfl ?_
 B4 Er
 apply gC
 have hls:=Ku (bJ P R cQ bC)
 rw[zW]at hls
 have h0:(bJ P R cQ bC)[0]?=some _:=Ni (p:=0) hP
 have hix:dI (bW (bJ P R cQ bC)) (.int 0)=some (fU _):=Ij (k:=0) h0
 have hlp:=Hz (((D2 R).map fun r=>cQ.getD (0+P*r) [])++[[bC.getD 0 0]])
 rw[CQ (D9 h0)]at hlp
 rw[U1]
 have e:(R:Int)=((R+1:Nat):Int)-1:=by omega
 rw[e]
 ~aL (dU (aB rfl rfl) hls) (aL (dU (aB (aL rfl rfl hix) rfl) hlp) rfl (jT _ _)) (gG (Ek A6 A6))
def Wb.first(P R:Nat)(rs:List (List Int))(bC od:List Int):Wb:=⟨⟨bJ P R rs bC,[],[],[],[]⟩,rs,od,(gK (P*R)).filter fun i=>!decide (i∈od),⟨[],[]⟩,⟨[],[]⟩,⟨[],[]⟩⟩
section
variable{P R:Nat}{rs:List (List Int)}{bC od:List Int}
B5 Built.ok(h:Built P R rs od):lG (Wb.first P R rs bC od):=by
 have aDU:P*R≤8*8:=U6 h.p8 h.r8
 have hm0:0<P*R:=Z0 h.p1 h.r1
 have hpl:(Wb.first P R rs bC od).P=P:=zW _ _ _ _
 have box:∀k,k<P*R→∃q,(bJ P R rs bC)[k%P]?=some q∧q[k/P]?=some (rs.getD k []):=fun k hk=>aB1 h.p1 hk
 have hb:∀k,k<rs.length→k<P*R:=fun k hk=>by rw[←h.len];~hk
 &⟨Fj.init (by rw[zW];~h.p8),by rw[hpl];~h.p1,?_,?_,?_,?_,?_,⟨rfl,C6 _⟩,⟨rfl,C6 _⟩,⟨rfl,C6 _⟩,nofun,nofun,h.DN,?_,?_,?_,h.key,fun k hk=>absurd hk (L7 _)⟩
 ·intro k hk
  rw[hpl]
  B3⟨q,q1,q2⟩:=box k (hb k hk)
  show k/P<((bJ P R rs bC).getD (k%P) []).length
  rw[mL q1]
  ~(D1.mp q2).1
 ·show rs.length≤64
  rw[h.len]
  ~aDU
 ·show 0<rs.length
  rw[h.len]
  ~hm0
 ·intro k hk
  rw[hpl]
  B3⟨q,q1,q2⟩:=box k (hb k hk)
  &⟨?_,h.five k (hb k hk)⟩
  show rs.getD k []=((bJ P R rs bC).getD ((k%P:Nat):Int).toNat []).getD ((k/P:Nat):Int).toNat []
  rw[D7,D7,mL q1,mL q2]
 ·intro k hk
  rfl
 ·intro x hx
  show 1≤x∧x<(rs.length:Int)
  rw[h.len]
  ~h.Kr x hx
 ·&List.Nodup.sublist R0 ?_
  B4 gK
  ~j0 _ (fun a b (h:a≠b)=>by omega) k8
 ·intro x
  show x∈(gK (P*R)).filter _↔1≤x∧x<(rs.length:Int)∧x∉od
  rw[h.len,N7]
  B4 gK
  rw[G4]
  constructor
  ·rintro⟨⟨i,hi,rfl⟩,z⟩
   have:=F5.mp hi
   ~⟨by omega,by omega,by simpa using z⟩
  ·rintro⟨z1,z2,z3⟩
   ~⟨⟨(x-1).toNat,F5.mpr A6,by omega⟩,by simpa using z3⟩
B5 Wr{Pr:SR→Prop}{v:V}{C:Addr}{nm:List Str}{ds:List D}{x:Str}{f:FE}{g:GS}{d:D}{rest:EN}(h:f (rE (.own (.ins C nm ds)::rest))=some d)(hx:posK nm x=none)(hl:nm.length<900)(k:Qs Pr (g (.inn v (.ins C (nm++[x]) (ds++[d]))::rest))):Qs Pr (aX (jL 0 (vV C 0 cW x f)) g (.inn v (.ins C nm ds)::rest)):=pF rfl (uA (p:=[]) rfl rfl rfl h hl hx) rfl k
B5 aGN{Pr:SR→Prop}{v:V}{C:Addr}{nm:List Str}{ds:List D}{x:Str}{f:FE}{d:D}{rest:EN}(h:f (rE (.own (.ins C nm ds)::rest))=some d)(hx:posK nm x=none)(hl:nm.length<900)(k:Pr (.next (.inn v (.ins C (nm++[x]) (ds++[d]))::rest))):Qs Pr (jL 0 (vV C 0 cW x f) (.inn v (.ins C nm ds)::rest)):=WW rfl (uA (p:=[]) rfl rfl rfl h hl hx) rfl k
variable(κ:Nat→Addr)
B5 aB8(h:Built P R rs od):qG κ [.ins (κ 1) [] [],bW (bJ P R rs bC)]=some (.non,gA κ (Wb.first P R rs bC od)):=by
 &pD rfl fun v=>?_
 have aDU:P*R≤8*8:=U6 h.p8 h.r8
 have h64:od.length≤64:=by
  have:=pO (P*R) od h.DN fun x hx=>by have:=h.Kr x hx;omega
  omega
 have hl:=zW P R rs bC
 have QT:=aDV (R:=R) (cQ:=rs) (bC:=bC) h.p1 h.p8
 have hbn:tU κ [.ins (κ 0) [] [],bW (bJ P R rs bC)]=_:=aDK κ (uB:=bJ P R rs bC) (by rw[hl];~h.p8)
 have hstr:=Wq (bC:=bC) h.p1 h.p8 h.r1 h.chain h.Kr h.DN h64
 have hlo:=aB3 (bC:=bC) h.p1 h.p8 h.r1 h.r8 h.chain h.Kr h.DN h64
 have hso:∀k:Nat,xQ [bW (bJ P R rs bC),.int (k:Int)]=some (dTup [((k%P:Nat):Int),((k/P:Nat):Int)]):=fun k=>(jr (by rw[hl];~h.p1) (by rw[hl];have:=h.p8;omega)).trans (by rw[hl,j9,k7])
 have hwv:gA κ (Wb.first P R rs bC od)=.ins (κ 1) sI [dZ (κ 0) ⟨bJ P R rs bC,[],[],[],[]⟩,wz P (P*R),aH od,aH ((gK (P*R)).filter fun i=>!decide (i∈od)),Sq ⟨[],[]⟩,Sq ⟨[],[]⟩,Sq ⟨[],[]⟩]:=by
  B4 gA Wb.P Wb.first
  dsimp only
  rw[hl,h.len]
 rw[hwv]
 clear hwv
 generalize bW (bJ P R rs bC)=st at *
 generalize dZ (κ 0) ⟨bJ P R rs bC,[],[],[],[]⟩=bd at *
 generalize ((gK (P*R)).filter fun i=>!decide (i∈od))=lo at *
 suffices hh:Qs (JN .non (.ins (κ 1) sI [bd,wz P (P*R),aH od,aH lo,Sq ⟨[],[]⟩,Sq ⟨[],[]⟩,Sq ⟨[],[]⟩]) v) (Am κ [.inn v (.ins (κ 1) [] []),.fro st])from hh
 B4 Am
 &Wr (d:=bd) (Qq (aB rfl rfl) hbn) rfl A8 ?_
 &Wr (d:=wz P (P*R)) (Em (n:=P*R) (Gu (aB (bR (aB rfl rfl) rfl QT) rfl) A6) A6 fun k hk=>bR (aB rfl (aB rfl rfl)) rfl (hso k)) A7 A8 ?_
 &Wr (d:=aH od) (bR (aB rfl rfl) rfl hstr) A7 A8 ?_
 &Wr (d:=aH lo) (bR (aB rfl rfl) rfl hlo) A7 A8 ?_
 &Wr (d:=Sq ⟨[],[]⟩) rfl A7 A8 ?_
 &Wr (d:=Sq ⟨[],[]⟩) rfl A7 A8 ?_
 ~aGN (d:=Sq ⟨[],[]⟩) rfl A7 A8 ⟨_,.inr ⟨rfl,rfl⟩,rfl⟩
end
B5 xg{b:Bn}(h:b.bO.length≤8):qH κ [dZ (κ 0) b]=some (mZ b.bO):=lC rfl (gC (Br (xs:=b.bO) (ψ:=fU) (φ:=fU) (iV (dB rfl Ce)) A6 fun x _=>dU (aB rfl rfl) (oR (Qm fun d hd=>by
  B3⟨t,_,rfl⟩:=G4.mp hd
  ~lU t))))
B5 Nj(l:List Int):Gd (aH l) (.lst [])=some (.bl (!decide (l=[]))):=MP l []
B5 Rz{s:Wb}(h:lG s)(K:Int):cB κ [gA κ s,.int K]=some (Kq (s.od.find? fun x=>decide (s.key x=K))):=by
 have hlp:∀(l:List Int)(v2:SD),(∀x∈l,x∈s.od)→∃v',Dy 2 (qM (fB (f2 Il (f2 dI (bK (κ 1) "record_of" 2 (aW κ) (aD 0) (aA (aD 2) aK) []) (fC (.int (0)))) (aD 1))) (Dj 2) fG) (l.map D.int) [.fro (gA κ s),.fro (.int K),v2]=match l.find? fun x=>decide (s.key x=K)with
   | some x=>.ret (.int x)
   | none=>.next [.fro (gA κ s),.fro (.int K),v']:=by
  intro l
  induction l with
  | nil=>~fun v2 _=>⟨v2,rfl⟩
  | cons a l ih=>
   intro v2 hm
   have ha:=h.Kr a (hm a (D4 ..))
   have e:fB (f2 Il (f2 dI (bK (κ 1) "record_of" 2 (aW κ) (aD 0) (aA (aD 2) aK) []) (fC (.int (0)))) (aD 1)) (rE [.fro (gA κ s),.fro (.int K),.fro (.int a)])=some (decide (s.key a=K)):=bZ (aL (aL (bL (nm:=sI) rfl A7 rfl rfl (jX κ h A6 ha.2)) rfl (rG (k:=0) (by rw[h.five A6 ha.2];decide))) rfl (pA _ _))
   rw[D3,N9]
   B4 Dy
   rw[if_pos A9,show [SD.fro (gA κ s),.fro (.int K),v2].set 2 (.fro (.int a))=[.fro (gA κ s),.fro (.int K),.fro (.int a)]from rfl]
   by_cases q:s.key a=K
   ·rw[decide_eq_true q]at e ⊢
    rw[vW e]
    ~⟨v2,rfl⟩
   ·rw[decide_eq_false q]at e ⊢
    rw[mK e]
    ~ih _ fun x hx=>hm x (C8 _ hx)
 &lC rfl ?_
 B4 Hh
 B3⟨v',hv⟩:=hlp s.od .no fun x hx=>hx
 have hf:=(iz (js:=[]) (i:=2) (fi:=lM (pY (eQ (κ 1) "string") (aD 0))) (g:=qM (fB (f2 Il (f2 dI (bK (κ 1) "record_of" 2 (aW κ) (aD 0) (aA (aD 2) aK) []) (fC (.int (0)))) (aD 1))) (Dj 2) fG) (env:=[.fro (gA κ s),.fro (.int K),.no]) rfl (iV (dB rfl (nA w2 rfl)))).trans hv
 cases q:s.od.find? fun x=>decide (s.key x=K)with
 | some x=>
  rw[q]at hf
  ~Qk hf
 | none=>
  rw[q]at hf
  ~(fW hf).trans (gC rfl)
B5 Ws{s:Wb}{at_ c:Int}(ho:0<s.od.length)(hlk:(s.od.map s.key).length=s.od.length)(Sd:∀i j,i<j→j<s.od.length→(s.od.map s.key).getD i 0<(s.od.map s.key).getD j 0)(QW:∀{j:Nat} {x:Int},x∈s.od.take j→∃i,i<j∧i<s.od.length∧s.key x=(s.od.map s.key).getD i 0)(Wt:∀{j:Nat} {x:Int},x∈s.od.drop j→∃i,j≤i∧i<s.od.length∧s.key x=(s.od.map s.key).getD i 0)(p50:(0:Int)<10 ^ (50:Int).toNat) :
  Qs (fun r=>∃d,r=.ret d∧∃key k:Int,d=.int key∧0≤k∧k≤(s.od.length:Int)∧s.Fits k key) (fO (f2 dJ (f2 dJ (f2 dI (aD 0) (zK (fC (.int 1)))) (fC (.int 1))) (f2 eV (aD 2) (f2 zH (fC (.int 10)) (fC (.int 50))))) [.fro (aH (s.od.map s.key)),.fro (.int at_),.fro (.int c)]):=by
 have m0:=E6 c (show (10 ^ (50:Int).toNat:Int)≠0 by omega)
 have aIu:dI (aH (s.od.map s.key)) (.int (-1))=some (.int ((s.od.map s.key).getD (s.od.length-1) 0)):=by
  &aDE ?_
  rw[List.getLast?_map,W6,hlk,tL (d:=0) A6]
  rfl
 &pC (aL (aL (aL rfl (pZ rfl) aIu) rfl (bY _ _)) (aL rfl (aL rfl rfl (nP ⟨by decide,by decide,by decide⟩)) (bG p50)) (bY _ _)) ⟨_,rfl,_,(s.od.length:Int),rfl,by omega,Y7 _,fun x hx=>?_,fun x hx=>?_⟩
 ·B3⟨i,i1,i2,e⟩:=QW hx
  rw[e]
  rcases J8 i (s.od.length-1)with z | z
  ·have:=Sd i (s.od.length-1) z A6
   omega
  ·rw[show i=s.od.length-1 by omega]
   omega
 ·B3⟨i,i1,i2,e⟩:=Wt hx
  omega
B5 aDW{s:Wb}(h:lG s){at_ c:Int}(a0:0≤at_)(a1:at_≤(s.od.length:Int)):∃key k:Int,Hi [aH (s.od.map s.key),.int at_,.int c]=some (.int key)∧0≤k∧k≤(s.od.length:Int)∧s.Fits k key:=by
 suffices hh:∃d,Hi [aH (s.od.map s.key),.int at_,.int c]=some d∧∃key k:Int,d=.int key∧0≤k∧k≤(s.od.length:Int)∧s.Fits k key by
  B3⟨d,e,key,k,rfl,q⟩:=hh
  ~⟨key,k,e,q⟩
 have p58:(0:Int)<10 ^ (58:Int).toNat:=P7 A8
 have p50:(0:Int)<10 ^ (50:Int).toNat:=P7 A8
 have hlk:(s.od.map s.key).length=s.od.length:=B7 _
 have hkp:(s.od.map s.key).Pairwise (·<·):=O3.mpr h.key
 have aIv:∀j,j<s.od.length→∀x,s.od[j]?=some x→(s.od.map s.key).getD j 0=s.key x:=fun j _ x hx=>by rw[B9,B8,hx];rfl
 have Sd:∀i j,i<j→j<s.od.length→(s.od.map s.key).getD i 0<(s.od.map s.key).getD j 0:=fun i j hij hj=>by
  have:=I0.mp hkp i j A6 A6 hij
  rw[B9,B6 A6,B9,B6 A6]
  ~this
 have QW:∀{j:Nat} {x:Int},x∈s.od.take j→∃i,i<j∧i<s.od.length∧s.key x=(s.od.map s.key).getD i 0:=fun{j x} hx=>by
  B3⟨i,hi,e⟩:=J6 hx
  rw[J0]at hi
  rw[W4]at e
  ~⟨i,by omega,by omega,(aIv i A6 x (by rw[B6 A6,e])).symm⟩
 have Wt:∀{j:Nat} {x:Int},x∈s.od.drop j→∃i,j≤i∧i<s.od.length∧s.key x=(s.od.map s.key).getD i 0:=fun{j x} hx=>by
  B3⟨i,hi,e⟩:=J6 hx
  rw[O8]at hi
  rw[List.getElem_drop]at e
  ~⟨j+i,by omega,by omega,(aIv (j+i) A6 x (by rw[B6 A6,e])).symm⟩
 &qU rfl ?_
 B4 jj
 &Gs (bZ (aL rfl (fQ rfl A8) (LQ _ []))) (fun hb=>?_) (fun hb=>vG ?_)
 ·have hb:=List.map_eq_nil_iff.mp (of_decide_eq_true hb)
  &Vt (aL rfl (aL rfl rfl (nP ⟨by decide,by decide,by decide⟩)) (bG p58)) ⟨_,rfl,_,0,rfl,by decide,by omega,fun x hx=>?_,fun x hx=>?_⟩
  ·rw[hb]at hx;cases hx
  ·rw[hb]at hx;cases hx
 have ho:0<s.od.length:=P2.mpr fun z=>of_decide_eq_false hb (by rw[z];rfl)
 &Gs (bZ (aL rfl rfl (pA _ _))) (fun hb=>?_) (fun hb=>vG ?_)
 ·have m0:=E6 c (show (10 ^ (50:Int).toNat:Int)≠0 by omega)
  &Vt (aL (aL (aL rfl rfl (gW A8 A6)) rfl (jT _ _)) (aL rfl (aL rfl rfl (nP ⟨by decide,by decide,by decide⟩)) (bG p50)) (jT _ _)) ⟨_,rfl,_,0,rfl,by decide,by omega,fun x hx=>(by cases hx),fun x hx=>?_⟩
  B3⟨i,i1,i2,e⟩:=Wt (j:=0) hx
  rw[e]
  show (s.od.map s.key).getD 0 0-1-_<_
  rcases V1 i with z | z
  ·rw[z];omega
  ·have:=Sd 0 i z i2
   omega
 have a0':0<at_:=by have:=of_decide_eq_false hb;omega
 have hlen:fL jP (aA (aD 0) aK) (rE [.fro (aH (s.od.map s.key)),.fro (.int at_),.fro (.int c)])=some (.int s.od.length):=(dU (aB rfl rfl) (lB _)).trans (by rw[hlk])
 by_cases q1:at_<(s.od.length:Int)
 ·have ex:f2 zG (f2 dI (aD 0) (aD 1)) (f2 dI (aD 0) (f2 zG (aD 1) (fC (.int 1)))) (rE [.fro (aH (s.od.map s.key)),.fro (.int at_),.fro (.int c)])=some (.int ((s.od.map s.key).getD at_.toNat 0-(s.od.map s.key).getD (at_-1).toNat 0)):=aL (aL rfl rfl (gW a0 A6)) (aL rfl (aL rfl rfl (jT _ _)) (gW A6 A6)) (jT _ _)
  &Gs (Nb (bZ (aL rfl hlen (xH _ _))) (bZ (aL ex rfl (Yx _ _)))) (fun hb=>?_) (fun hb=>vG ?_)
  ·rw[J7]at hb
   have hgap:=of_decide_eq_true hb.2
   generalize hA:(s.od.map s.key).getD at_.toNat 0=A at *
   generalize hB:(s.od.map s.key).getD (at_-1).toNat 0=B at *
   have m0:=E6 c (show A-B-1≠0 by omega)
   have m1:=E7 c (show 0<A-B-1 by omega)
   &Vt (aL (aL (aL rfl (aL rfl rfl (jT _ _)) ((gW A6 A6).trans (by rw[hB]))) rfl (bY _ _)) (aL rfl (aL ex rfl (jT _ _)) (bG A6)) (bY _ _)) ⟨_,rfl,_,at_,rfl,a0,a1,fun x hx=>?_,fun x hx=>?_⟩
   ·B3⟨i,i1,i2,e⟩:=QW hx
    rw[e]
    rcases J8 i (at_-1).toNat with z | z
    ·have:=Sd i (at_-1).toNat z A6
     rw[hB]at this
     omega
    ·rw[show i=(at_-1).toNat by omega,hB]
     omega
   ·B3⟨i,i1,i2,e⟩:=Wt hx
    rw[e]
    rcases J8 at_.toNat i with z | z
    ·have:=Sd at_.toNat i z i2
     rw[hA]at this
     omega
    ·rw[show i=at_.toNat by omega,hA]
     omega
  ·~Ws ho hlk Sd QW Wt p50
 ·&pB (b:=false) ((WM ((bZ (aL rfl hlen (xH _ _))).trans (congrArg some (decide_eq_false q1))))) rfl (vG ?_)
  ~Ws ho hlk Sd QW Wt p50
B5 aB9{l:List Int}{x:Int}{k:Nat}(hp:l.Pairwise (·<·))(h1:∀y∈l.take k,y<x)(h2:∀y∈l.drop k,x<y)(hk:k≤l.length):sortI (l++[x])=l.take k++x::l.drop k∧(l.take k++x::l.drop k).idxOf x=k∧x∈l.take k++x::l.drop k:=by
 &⟨(rO ⟨?_,?_⟩).symm,?_,G3 _ D4⟩
 ·&List.perm_middle.trans ?_
  rw[N2]
  ~(List.perm_append_singleton x l).symm
 ·have hp':=hp
  rw[←N2 k l]at hp'
  B3⟨p1,p2,p3⟩:=K9.mp hp'
  &K9.mpr ⟨p1.imp L0,J3.mpr ⟨fun y hy=>L0 (h2 y hy),p2.imp L0⟩,fun a ha b hb=>?_⟩
  rcases C9.mp hb with z | z
  ·rw[z];~L0 (h1 a ha)
  ·~L0 (p3 a ha b z)
 ·have hn:x∉l.take k:=fun z=>Int.lt_irrefl _ (h1 x z)
  rw[List.idxOf_append,if_neg hn,b6,J0]
  omega
B5 aDX{s:Wb}{k key was now:Int}(w:lG s)(hlo:0<s.lo.length)(hm:s.n<123)(h0:0≤k)(h1:k≤(s.od.length:Int)):(s.ent k key was now 0 []).key s.new=key:=by
 B3⟨b1,b2,b3,b4,b5⟩:=w.new hlo
 B3⟨p1,p2,p3⟩:=w.ahead h0 h1
 have pb:s.new≠s.ahead k:=fun z=>by
  rcases p1 with y | y
  ·omega
  ·~b4 (z▸y)
 have e1l:(s.e1 k key was now 0).rs.length=s.rs.length:=vJ _ _ _ _
 show (((s.e1 k key was now 0).wr (s.ahead k) (lnk ((s.e1 k key was now 0).R (s.ahead k)) s.new) ((s.e1 k key was now 0).ns (s.ahead k) [(s.n:Int)])).R s.new).getD 0 0=_
 rw[CP p2 (by rw[e1l];~p3) b5,if_neg pb]
 show ((s.wr s.new [key,(s.R (s.ahead k)).getD 1 0,was,now,0] (s.go.get s.new).toList).R s.new).getD 0 0=_
 rw[CP b5 b3 b5,if_pos rfl]
 rfl
B5 find_key{s:Wb}(h:lG s){k:Nat}{x:Int}(hx:s.od[k]?=some x):s.od.find? (fun y=>decide (s.key y=s.key x))=some x:=by
 have xm:x∈s.od:=D9 hx
 cases e:s.od.find? (fun y=>decide (s.key y=s.key x))with
 | none=>~absurd (decide_eq_true rfl) (g8.mp e x xm)
 | some y=>
  have ym:=List.mem_of_find?_eq_some e
  have ey:=List.find?_some e
  have ey:s.key y=s.key x:=of_decide_eq_true ey
  B3⟨i,hi,rfl⟩:=J6 ym
  B3⟨j,hj,rfl⟩:=J6 xm
  rcases i8 i j with z | z | z
  ·have:=I0.mp h.key i j hi hj z
   omega
  ·subst z;rfl
  ·have:=I0.mp h.key j i hj hi z
   omega
B5 Nk{s:Wb}(h:lG s):sortI (s.od.map s.key)=s.od.map s.key:=(rO ⟨Q3 _,(O3.mpr h.key).imp fun z=>L0 z⟩).symm
B5 aCa{s:Wb}(w:lG s){k x:Int}(h0:0≤k)(h1:k<(s.od.length:Int)):(s.out k x []).od.map (s.out k x []).key=(s.od.map s.key).eraseIdx k.toNat:=by
 B3⟨p1,p2,p3⟩:=w.ahead h0 (L0 h1)
 rw[show (s.od.map s.key).eraseIdx k.toNat=(s.od.eraseIdx k.toNat).map s.key by rw[T4,T4,G0,S6,S7]]
 show (s.od.eraseIdx k.toNat).map _=_
 apply L4
 intro y hy
 have ym:=w.Kr y (X3 hy)
 show ((s.out k x []).R y).getD 0 0=(s.R y).getD 0 0
 rw[show (s.out k x []).R y=if y=s.ahead k then lnk (s.R (s.ahead k)) ((s.R x).getD 1 0)else s.R y from CP (ns:=s.ns (s.ahead k) ((s.la.get x).toList++[])) p2 p3 A6]
 split
 ·rename_i e
  rw[e]
  rfl
 ·rfl
B5 aCb{s:Wb}{k key was now:Int}(w:lG s)(hlo:0<s.lo.length)(hm:s.n<123)(h0:0≤k)(h1:k≤(s.od.length:Int)):(s.ent k key was now 0 []).od.map (s.ent k key was now 0 []).key=(s.od.map s.key).take k.toNat++key::(s.od.map s.key).drop k.toNat:=by
 B3⟨b1,b2,b3,b4,b5⟩:=w.new hlo
 B3⟨p1,p2,p3⟩:=w.ahead h0 h1
 have e1l:(s.e1 k key was now 0).rs.length=s.rs.length:=vJ _ _ _ _
 have old:∀y∈s.od,(s.ent k key was now 0 []).key y=s.key y:=fun y hy=>by
  have ym:=w.Kr y hy
  have yn:y≠s.new:=fun z=>b4 (z▸hy)
  show (((s.e1 k key was now 0).wr (s.ahead k) (lnk ((s.e1 k key was now 0).R (s.ahead k)) s.new) ((s.e1 k key was now 0).ns (s.ahead k) [(s.n:Int)])).R y).getD 0 0=(s.R y).getD 0 0
  have eR:∀z,0≤z→z≠s.new→(s.e1 k key was now 0).R z=s.R z:=fun z z0 zn=>(CP (ns:=(s.go.get s.new).toList) b5 b3 z0).trans (if_neg zn)
  rw[CP p2 (by rw[e1l];~p3) A6]
  split
  ·rename_i e
   rw[←e,eR y A6 yn]
   rfl
  ·rw[eR y A6 yn]
 show (s.od.take k.toNat++s.new::s.od.drop k.toNat).map _=_
 rw[G0,D3,aDX w hlo hm h0 h1,←S6,←S7]
 congr 1
 ·~L4 fun y hy=>old y (M5 hy)
 ·congr 1
  ~L4 fun y hy=>old y (Q7 hy)
B5 lG.aDY{s:Wb}(h:lG s):s.od.length≤63:=by
 have:=pO s.rs.length (0::s.od) (L5.mpr ⟨fun z=>by have:=h.Kr 0 z;omega,h.DN⟩) fun x hx=>by
  rcases C9.mp hx with z | z
  ·have:=h.pos;omega
  ·have:=h.Kr x z;omega
 simp only[E9]at this
 have:=h.few
 omega
B5 aGP{s:Wb}(h:lG s)(hm:s.n<123)(c:Int):∃s' kd,lG s'∧s'.n≤s.n+2∧s'.P=s.P∧s'.rs.length=s.rs.length∧wD κ [gA κ s,aH (s.od.map s.key),.int c]=some (aH (s'.od.map s'.key),[gA κ s',kd]):=by
 have o63:=h.aDY
 have hlk:(s.od.map s.key).length=s.od.length:=B7 ..
 have nil:∀m∈([]:List Int),0≤m∧m<(s.n:Int):=fun m hm=>by cases hm
 have tail:∀(s':Wb)(l:List Int)(v0 v1 v2:V)(v4:SD),lG s'→sortI l=s'.od.map s'.key→Qs (Ly [true,true,false] (aH (s'.od.map s'.key)) [gA κ s',aH l] [v0,v1,v2]) (Ae (gmN (fL uL (aA (aD 1) aK))) [.inn v0 (gA κ s'),.inn v1 (aH l),.fro (.int c),.own (.int (c/4)),v4]):=fun s' l v0 v1 v2 v4 h' e=>by
  have hl:l.length<64:=by
   have e1:=(jJ l).1.length_eq
   have:=h'.aDY
   rw[e,B7]at e1
   omega
  &Gx (aBC (dU (aB rfl rfl) (xN hl))) ?_
  rw[e]
  ~⟨_,.inl rfl,_,_,rfl,rfl,_,_,rfl,rfl,rfl⟩
 have cond:∀(j:Int) {env:EN},(rE env)[2]?=some (some (.int c))→(rE env)[1]?=some (some (aH (s.od.map s.key)))→(Cu (fB (f2 Il (f2 eV (aD 2) (fC (.int 4))) (fC (.int j)))) (fB (f2 Gd (aD 1) (kE aK)))) (rE env)=some (decide (c%4=j)&&!decide (s.od.map s.key=[])):=fun j {env} e2 e3=>Nb (bZ (aL (aL (cI e2) rfl (bG A8)) rfl (pA _ _))) (bZ (aL (cI e3) (fQ rfl A8) (Nj _)))
 have hlen:∀{env:EN},(rE env)[1]?=some (some (aH (s.od.map s.key)))→fL jP (aA (aD 1) aK) (rE env)=some (.int s.od.length):=fun e=>dU (aB (cI e) rfl) ((lB _).trans (by rw[hlk]))
 by_cases q0:c%4=0
 ·have hP:=h.p1
  have p0:=E6 (c/4) (show (s.P:Int)≠0 by omega)
  have p1:=E7 (c/4) (show 0<(s.P:Int) by omega)
  B3⟨r,hR,hcv⟩:=aBN κ h.bn (p:=c/4%(s.P:Int)) (most:=.int (c/4/8%5)) p0 p1 (.inr ⟨_,rfl⟩)
  have hcv:=hcv (r.take (c/4/8%5).toNat) (fun z=>by cases z) fun m z=>by cases z;rfl
  generalize (c/4/8%5).toNat=t at hcv
  have hnd:(r.take t).Nodup:=(hR.1.sublist (O0 _ _)).imp fun q=>g9 q
  have hrm:∀x∈r.take t,(0≤x∧x<(s.n:Int))∧x∉s.b.held:=fun x hx=>by
   have:=((hR.2.2 x).mp (M5 hx)).1
   ~⟨⟨this.1,this.2.1⟩,this.2.2.2⟩
  B3⟨h',_,e2,e3⟩:=h.cv hnd (fun x hx=>(hrm x hx).1) fun x hx=>(hrm x hx).2
  have e8:s.b.bO.length≤8:=h.bn.few
  &⟨s.cv (r.take t),aH (s.od.map s.key),h',by have:(s.cv (r.take t)).n=s.n:=e2;omega,e3,rfl,Af rfl fun vs hv=>?_⟩
  match vs,hv with
  | [v0,v1,v2],_=>
   suffices hh:Qs (Ly [true,true,false] (aH ((s.cv (r.take t)).od.map (s.cv (r.take t)).key)) [gA κ (s.cv (r.take t)),aH (s.od.map s.key)] [v0,v1,v2]) (lY κ [.inn v0 (gA κ s),.inn v1 (aH (s.od.map s.key)),.fro (.int c),.no,.no])from hh
   B4 lY
   &cN (d:=.int (c/4)) (aL rfl rfl (eE A8 A8)) A9 ?_
   &Gs (b:=decide (c%4=0)) (bZ (aL (aL rfl rfl (bG A8)) rfl (pA _ _))) (fun _=>?_) fun z=>by rw[decide_eq_true q0]at z;cases z
   have hfa:gr (f2 eV (aD 3) (fL jP (aA (bK (κ 0) "stone" 1 (qH κ) (pY (eQ (κ 1) "bench") (aD 0)) aK []) aK))) (Cz (f2 eV (f2 sX (aD 3) (fC (.int 8))) (fC (.int 5))) mX) (rE [.inn v0 (gA κ s),.inn v1 (aH (s.od.map s.key)),.fro (.int c),.own (.int (c/4)),.no]) (rE [.no,.inn v1 (aH (s.od.map s.key)),.fro (.int c),.own (.int (c/4)),.no])=some [.int (c/4%(s.P:Int)),.int (c/4/8%5)]:=Ai (aL rfl (dU (aB (bL (nm:=BR) (dB rfl (nA w0 rfl)) A7 rfl rfl (xg κ e8)) rfl) (Cj _)) (bG (by have:s.b.bO.length=s.P:=rfl;omega))) (gR (aL (aL rfl rfl (eE A8 A8)) rfl (bG A8)) rfl)
   &Ng (d:=aH (r.take t)) (env':=[.inn v0 (gA κ (s.cv (r.take t))),.inn v1 (aH (s.od.map s.key)),.fro (.int c),.own (.int (c/4)),.no]) ((lA (p:=[L2.Step.fld (κ 1) "bench"]) (nm:=BR) (es:=[.int (c/4%(s.P:Int)),.int (c/4/8%5)]) rfl rfl (yK w0 rfl) A7 ((congrArg (a9 fun x=>x++[]) hfa).trans rfl) hcv).trans (by
     rw[yL w0 rfl]
     B4 gA
     rw[show (s.cv (r.take t)).P=s.P from(nR (r.take t) s.b).1]
     rfl)) ?_
   ~tail (s.cv (r.take t)) (s.od.map s.key) v0 v1 v2 _ h' (Nk h)
 have c0:decide (c%4=0)=false:=decide_eq_false q0
 have start:∀{Pr:SR→Prop} {g:GS} {env:EN},(rE env)[2]?=some (some (.int c))→∀{g1 g2:GS},Qs Pr (aX g2 g env)→Qs Pr (aX (qM (fB (f2 Il (f2 eV (aD 2) (fC (.int 4))) (fC (.int 0)))) g1 g2) g env):=fun{Pr g env} e2 {g1 g2} k=>pB (b:=decide (c%4=0)) (bZ (aL (aL (cI e2) rfl (bG A8)) rfl (pA _ _))) c0 k
 by_cases q1:(decide (c%4=1)&&!decide (s.od.map s.key=[]))=true
 ·have q1':=q1
  rw[J7]at q1'
  have ho:0<s.od.length:=by
   rw[←hlk]
   ~P2.mpr fun z=>by rw[decide_eq_true z]at q1';cases q1'.2
  have x0:=E6 (c/4) (show (s.od.length:Int)≠0 by omega)
  have x1:=E7 (c/4) (show 0<(s.od.length:Int) by omega)
  generalize hat:c/4%(s.od.length:Int)=at_ at *
  B3⟨x,hx⟩:∃x,s.od[at_.toNat]?=some x:=⟨_,B6 (show at_.toNat<s.od.length by omega)⟩
  have hxk:(s.od.map s.key)[at_.toNat]?=some (s.key x):=by rw[B8,hx];rfl
  have h':=h.out A6 x0 x1 hx nil A8
  have hlv:=aBV κ h A6 x0 x1 hx nil A8 (nd:=.non) (.inl ⟨rfl,rfl⟩)
  have hbx:=Rz κ h (s.key x)
  rw[find_key h hx]at hbx
  have hn':=aEP s at_ x []
  have hr':=jq s at_ x []
  have eP:(s.out at_ x []).P=s.P:=rfl
  have hks:=aCa h (x:=x) x0 x1
  generalize s.out at_ x []=s' at *
  have hix:dI (aH (s.od.map s.key)) (.int at_)=some (.int (s.key x)):=(gW x0 (by rw[hlk];~x1)).trans (by rw[mL hxk])
  have km:s.key x∈s.od.map s.key:=D9 hxk
  have hidx:(s.od.map s.key).idxOf (s.key x)=at_.toNat:=ZC ((O3.mpr h.key).imp fun z=>g9 z) hxk
  &⟨s',aH ((s.od.map s.key).eraseIdx at_.toNat),h',by omega,eP,hr',Af rfl fun vs hv=>?_⟩
  match vs,hv with
  | [v0,v1,v2],_=>
   suffices hh:Qs (Ly [true,true,false] (aH (s'.od.map s'.key)) [gA κ s',aH ((s.od.map s.key).eraseIdx at_.toNat)] [v0,v1,v2]) (lY κ [.inn v0 (gA κ s),.inn v1 (aH (s.od.map s.key)),.fro (.int c),.no,.no])from hh
   B4 lY
   &cN (d:=.int (c/4)) (aL rfl rfl (eE A8 A8)) A9 ?_
   &start rfl ?_
   &Gs (cond 1 rfl rfl) (fun _=>?_) fun z=>by rw[q1]at z;cases z
   rw[uC]
   &cN (d:=.int (s.key x)) (bH (aL rfl ((aL rfl (hlen rfl) (bG A6)).trans (by rw[hat])) hix) rfl) A9 ?_
   rw[uC]
   have hfa:gr (bK (κ 1) "box_of" 2 (cB κ) (aD 0) (aA (aD 4) aK) []) mX (rE [.inn v0 (gA κ s),.inn v1 (aH (s.od.map s.key)),.fro (.int c),.own (.int (c/4)),.own (.int (s.key x))]) (rE [.no,.inn v1 (aH (s.od.map s.key)),.fro (.int c),.own (.int (c/4)),.own (.int (s.key x))])=some [.int x]:=Ai (bL (nm:=sI) rfl A7 rfl rfl hbx) rfl
   &Ng (d:=.int s.n) (env':=[.inn v0 (gA κ s'),.inn v1 (aH (s.od.map s.key)),.fro (.int c),.own (.int (c/4)),.own (.int (s.key x))]) (lA (p:=[]) (nm:=sI) (es:=[.int x,.non]) rfl rfl rfl A7 ((congrArg (a9 fun x=>x++[D.non]) hfa).trans rfl) hlv) ?_
   &pF rfl (YX (p:=[]) (ns:=s.od.map s.key) rfl rfl rfl rfl km) rfl ?_
   have e:sortI ((s.od.map s.key).eraseIdx at_.toNat)=s'.od.map s'.key:=by rw[←hks];~Nk h'
   have tl:=tail s' ((s.od.map s.key).eraseIdx at_.toNat) v0 v1 v2 (.own (.int (s.key x))) h' e
   rw[←hidx]at tl ⊢
   ~tl
 have q1:=W0.mpr q1
 by_cases q2:(decide (c%4=2)&&!decide (s.od.map s.key=[]))=true
 ·have q2':=q2
  rw[J7]at q2'
  have ho:0<s.od.length:=by
   rw[←hlk]
   ~P2.mpr fun z=>by rw[decide_eq_true z]at q2';cases q2'.2
  have x0:=E6 (c/4) (show (s.od.length:Int)≠0 by omega)
  have x1:=E7 (c/4) (show 0<(s.od.length:Int) by omega)
  generalize hat:c/4%(s.od.length:Int)=at_ at *
  B3⟨x,hx⟩:∃x,s.od[at_.toNat]?=some x:=⟨_,B6 (show at_.toNat<s.od.length by omega)⟩
  have hxk:(s.od.map s.key)[at_.toNat]?=some (s.key x):=by rw[B8,hx];rfl
  have xr:=h.Kr x (D9 hx)
  have hns:(s.ns x []).length≤8:=by
   B4 Wb.ns
   rw[F9]
   have:=wL (s.co.get x)
   omega
  have hre:=YW κ h (x:=x) (a:=-1) (b:=c/4%9) (c:=0) (ns:=[]) (nd:=.non) A6 xr.2 nil A8 (.inl ⟨rfl,rfl⟩)
  have h':=h.wr (x:=x) (r:=[(s.R x).getD 0 0,(s.R x).getD 1 0,-1,c/4%9,0]) (ns:=s.ns x []) A6 xr.2 rfl (h.aDO nil) hns A6 fun _=>rfl
  have hn':=aBS s x [(s.R x).getD 0 0,(s.R x).getD 1 0,-1,c/4%9,0] (s.ns x [])
  have hr':=vJ s x [(s.R x).getD 0 0,(s.R x).getD 1 0,-1,c/4%9,0] (s.ns x [])
  have eP:(s.wr x [(s.R x).getD 0 0,(s.R x).getD 1 0,-1,c/4%9,0] (s.ns x [])).P=s.P:=rfl
  have hks:(s.wr x [(s.R x).getD 0 0,(s.R x).getD 1 0,-1,c/4%9,0] (s.ns x [])).od.map (s.wr x [(s.R x).getD 0 0,(s.R x).getD 1 0,-1,c/4%9,0] (s.ns x [])).key=s.od.map s.key:=by
   apply L4
   intro y hy
   have ym:=h.Kr y hy
   show ((s.wr x [(s.R x).getD 0 0,(s.R x).getD 1 0,-1,c/4%9,0] (s.ns x [])).R y).getD 0 0=(s.R y).getD 0 0
   rw[CP A6 xr.2 A6]
   split
   ·rename_i e
    rw[e]
    rfl
   ·rfl
  have hbx:=Rz κ h (s.key x)
  rw[find_key h hx]at hbx
  generalize s.wr x [(s.R x).getD 0 0,(s.R x).getD 1 0,-1,c/4%9,0] (s.ns x [])=s' at *
  have hix:dI (aH (s.od.map s.key)) (.int at_)=some (.int (s.key x)):=(gW x0 (by rw[hlk];~x1)).trans (by rw[mL hxk])
  &⟨s',aH (s.od.map s.key),h',by omega,eP,hr',Af rfl fun vs hv=>?_⟩
  match vs,hv with
  | [v0,v1,v2],_=>
   suffices hh:Qs (Ly [true,true,false] (aH (s'.od.map s'.key)) [gA κ s',aH (s.od.map s.key)] [v0,v1,v2]) (lY κ [.inn v0 (gA κ s),.inn v1 (aH (s.od.map s.key)),.fro (.int c),.no,.no])from hh
   B4 lY
   &cN (d:=.int (c/4)) (aL rfl rfl (eE A8 A8)) A9 ?_
   &start rfl ?_
   &pB (cond 1 rfl rfl) q1 ?_
   &Gs (cond 2 rfl rfl) (fun _=>?_) fun z=>by rw[q2]at z;cases z
   have hfa:gr (bK (κ 1) "box_of" 2 (cB κ) (aD 0) (aA (f2 dI (aD 1) (f2 eV (aD 3) (fL jP (aA (aD 1) aK)))) aK) []) (Cz (zK (fC (.int 1))) (Cz (f2 eV (aD 3) (fC (.int 9))) (Cz (fC (.int 0)) mX))) (rE [.inn v0 (gA κ s),.inn v1 (aH (s.od.map s.key)),.fro (.int c),.own (.int (c/4)),.no]) (rE [.no,.inn v1 (aH (s.od.map s.key)),.fro (.int c),.own (.int (c/4)),.no])=some [.int x,.int (-1),.int (c/4%9),.int 0]:=Ai (bL (nm:=sI) rfl A7 (aB (aL rfl ((aL rfl (hlen rfl) (bG A6)).trans (by rw[hat])) hix) rfl) rfl hbx) (gR (pZ rfl) (gR (aL rfl rfl (bG A8)) (gR rfl rfl)))
   &Ng (d:=.int s.n) (env':=[.inn v0 (gA κ s'),.inn v1 (aH (s.od.map s.key)),.fro (.int c),.own (.int (c/4)),.no]) (lA (p:=[]) (nm:=sI) (es:=[.int x,.int (-1),.int (c/4%9),.int 0,.non]) rfl rfl rfl A7 ((congrArg (a9 fun x=>x++[D.non]) hfa).trans rfl) hre) ?_
   ~tail s' (s.od.map s.key) v0 v1 v2 _ h' (by rw[hks];~Nk h)
 have q2:=W0.mpr q2
 have hsl:(sortI s.lo).length=s.lo.length:=(jJ s.lo).1.length_eq
 by_cases q3:sortI s.lo=[]
 ·&⟨s,aH (s.od.map s.key),h,by omega,rfl,rfl,Af rfl fun vs hv=>?_⟩
  match vs,hv with
  | [v0,v1,v2],_=>
   suffices hh:Qs (Ly [true,true,false] (aH (s.od.map s.key)) [gA κ s,aH (s.od.map s.key)] [v0,v1,v2]) (lY κ [.inn v0 (gA κ s),.inn v1 (aH (s.od.map s.key)),.fro (.int c),.no,.no])from hh
   B4 lY
   &cN (d:=.int (c/4)) (aL rfl rfl (eE A8 A8)) A9 ?_
   &start rfl ?_
   &pB (cond 1 rfl rfl) q1 ?_
   &pB (cond 2 rfl rfl) q2 ?_
   &pB (b:=!decide (sortI s.lo=[])) (bZ (aL (bL (nm:=sI) rfl A7 rfl rfl (Ih κ h)) (fQ rfl A8) (Nj _))) (by rw[decide_eq_true q3];rfl) (vG ?_)
   ~tail s (s.od.map s.key) v0 v1 v2 _ h (Nk h)
 have hlo:0<s.lo.length:=by rw[←hsl];~P2.mpr q3
 have a0:=E6 (c/4) (show ((s.od.length:Int)+1)≠0 by omega)
 have a1:=E7 (c/4) (show 0<((s.od.length:Int)+1) by omega)
 B3⟨key,k,hk,g0,g1,fit⟩:=aDW h (at_:=c/4%((s.od.length:Int)+1)) (c:=c/4/5) a0 A6
 have p50:(0:Int)<10 ^ (50:Int).toNat:=P7 A8
 have h':=h.ent hlo hm (was:=-1) (now:=c/4%10 ^ (50:Int).toNat) (nC:=0) g0 g1 nil A8 fit
 have hn':=aEO s k key (-1) (c/4%10 ^ (50:Int).toNat) 0 []
 have hr':=jo s k key (-1) (c/4%10 ^ (50:Int).toNat) 0 []
 have hen:=aBU κ h hlo hm (was:=-1) (now:=c/4%10 ^ (50:Int).toNat) (nC:=0) g0 g1 nil A8 fit (.inl ⟨rfl,rfl⟩)
 have eP:(s.ent k key (-1) (c/4%10 ^ (50:Int).toNat) 0 []).P=s.P:=rfl
 have hks:=aCb (was:=-1) (now:=c/4%10 ^ (50:Int).toNat) (key:=key) h hlo hm g0 g1
 generalize s.ent k key (-1) (c/4%10 ^ (50:Int).toNat) 0 []=s' at *
 B3⟨so1,so2,so3⟩:=aB9 (l:=s.od.map s.key) (x:=key) (k:=k.toNat) (O3.mpr h.key) (fun y hy=>by
  rw[←S6]at hy
  B3⟨x,hx,rfl⟩:=G4.mp hy
  ~fit.1 x hx) (fun y hy=>by
  rw[←S7]at hy
  B3⟨x,hx,rfl⟩:=G4.mp hy
  ~fit.2 x hx) (by rw[B7];omega)
 &⟨s',aH (s.od.map s.key++[key]),h',by omega,eP,hr',Af rfl fun vs hv=>?_⟩
 match vs,hv with
 | [v0,v1,v2],_=>
  suffices hh:Qs (Ly [true,true,false] (aH (s'.od.map s'.key)) [gA κ s',aH (s.od.map s.key++[key])] [v0,v1,v2]) (lY κ [.inn v0 (gA κ s),.inn v1 (aH (s.od.map s.key)),.fro (.int c),.no,.no])from hh
  B4 lY
  &cN (d:=.int (c/4)) (aL rfl rfl (eE A8 A8)) A9 ?_
  &start rfl ?_
  &pB (cond 1 rfl rfl) q1 ?_
  &pB (cond 2 rfl rfl) q2 ?_
  &Gs (b:=!decide (sortI s.lo=[])) (bZ (aL (bL (nm:=sI) rfl A7 rfl rfl (Ih κ h)) (fQ rfl A8) (Nj _))) (fun _=>?_) fun z=>by rw[decide_eq_false q3]at z;cases z
  rw[uC]
  &cN (d:=.int key) (bR (aB rfl (aB (aL rfl (aL (hlen rfl) rfl (bY _ _)) (bG A6)) (aB (aL rfl rfl (eE A8 A8)) rfl))) rfl hk) A9 ?_
  rw[uC]
  &Ng (d:=dTup [s.new,((s.n+1:Nat):Int)]) (env':=[.inn v0 (gA κ s'),.inn v1 (aH (s.od.map s.key)),.fro (.int c),.own (.int (c/4)),.own (.int key)]) (lA (p:=[]) (nm:=sI) (es:=[.int key,.int (-1),.int (c/4%10 ^ (50:Int).toNat),.int 0,.non]) rfl rfl rfl A7 (by
    rw[gR (d:=.int key) rfl (gR (d:=.int (-1)) (pZ rfl) (gR (d:=.int (c/4%10 ^ (50:Int).toNat)) (aL rfl (aL rfl rfl (nP ⟨by decide,by decide,by decide⟩)) (bG p50)) (gR (d:=.int 0) rfl rfl)))]
    rfl) hen) ?_
  &pF rfl (Qp (p:=[]) (ds:=(s.od.map s.key).map D.int) (d:=.int key) rfl rfl rfl (bH rfl rfl) (by rw[B7,hlk];omega)) rfl ?_
  have e:sortI (s.od.map s.key++[key])=s'.od.map s'.key:=by rw[so1,hks]
  have tl:=tail s' (s.od.map s.key++[key]) v0 v1 v2 (.own (.int key)) h' e
  rw[show aH (s.od.map s.key++[key])=D.lst ((s.od.map s.key).map D.int++[.int key])from by B4 aH;rw[G0];rfl]at tl ⊢
  ~tl
B5 aCc{as:List Ap}{F:List D→Option (D×List D)}{env e0:EN}{ps:List (Nat×List L2.Step)}{Lz Vk ds':List D}{r:D}(h0:chP as (rE env)=some ps)(h1:wZ ps env=some (Lz,e0))(h2:rdP as (rE env) (rE e0)=some Vk)(h3:F (tK (qD as) Lz Vk)=some (r,ds')):Vo as F env=some (r,Dm ps ds' env):=by
 B4 Vo
 rw[h0,C4,h1,C4,h2,C4,h3]
 rfl
B5 xj{i j:Nat}{π:FP}{g:FE}{gm:GM}{env env':EN}{p:List L2.Step}{d d0:D}{ds:List D}{k:Int}(h:gm env=some (d,env'))(h1:env'[i]?=some (.own d0))(h2:π (rE env')=some p)(h3:g (rE env')=some (.int k))(h4:eO p d0=some (.lst ds))(h5:Up ds.length k=some j):Eh i π g gm env=.next (env'.set i (.own (dR p d0 (.lst (ds.set j d))))):=by
 B4 Eh
 rw[h]
 dsimp only
 rw[h1,h2,h3]
 dsimp only
 rw[h4]
 dsimp only
 rw[h5]
B5 ZF{i:Nat}{f:FE}{env:EN}{xs:List D}(h:f (rE env)=some (.lst xs))(h1:xs.all WL=true)(h2:i<env.length):Bp i f env=.next (env.set i .no):=by
 B4 Bp
 rw[h]
 dsimp only
 rw[if_pos ⟨h1,h2⟩]
B5 aCd{ns:List Int}(h:ns.length<64)(hn:ns.Nodup):Vp (aH ns)=some (.int ns.length):=by
 B4 Vp aH
 dsimp only
 rw[kI,C4,if_pos h,Qj hn]
B5 QX(m:Nat):(gK m).Pairwise (·<·):=by
 B4 gK
 rw[O3]
 ~R9.imp fun h=>by omega
B5 Wu{m:Nat}{x:Int}:x∈gK m↔1≤x∧x<(m:Int):=by
 B4 gK
 rw[G4]
 constructor
 ·rintro⟨i,hi,rfl⟩
  have:=F5.mp hi
  omega
 ·intro h
  ~⟨(x-1).toNat,F5.mpr A6,by omega⟩
B5 jt{l m:List Int}(hl:l.Nodup)(hm:m.Pairwise (·<·))(e:∀x,x∈m↔x∈l):m=sortI l:=rO ⟨(List.perm_ext_iff_of_nodup (hm.imp fun z=>g9 z) hl).mpr e,hm.imp fun z=>L0 z⟩
B5 aDZ{s:Wb}(h:lG s):(gK s.rs.length).filter (fun i=>!decide (i∈s.od))=sortI s.lo:=by
 &jt h.lon ((QX _).sublist R0) fun x=>?_
 rw[N7,Wu,h.yc]
 simp only[Bool.not_eq_true',decide_eq_false_iff_not]
 ~⟨fun z=>⟨z.1.1,z.1.2,z.2⟩,fun z=>⟨⟨z.1,z.2.1⟩,z.2.2⟩⟩
B5 aGQ{s:Wb}(h:lG s):sortI (s.od++sortI s.lo)=gK s.rs.length:=by
  have hp:=(jJ s.lo).1
  &(jt (l:=s.od++sortI s.lo) ?_ (QX _) fun x=>?_).symm
  · &O1.mpr ⟨h.DN,hp.nodup_iff.mpr h.lon,fun a ha b hb z=>?_⟩
    ~((h.yc b).mp (hp.mem_iff.mp hb)).2.2 (z▸ha)
  · rw[Wu,G7,hp.mem_iff,h.yc]
    constructor
    · intro z
      by_cases c:x∈s.od
      · ~.inl c
      · ~.inr ⟨z.1,z.2,c⟩
    · rintro(z | z)
      · ~h.Kr x z
      · ~⟨z.1,z.2.1⟩
B5 aD0{s:Wb}(h:lG s):wF κ [gA κ s,.int s.rs.length]=some (aH (sortI s.lo)):=by
 suffices hh:∃d,wF κ [gA κ s,.int s.rs.length]=some d∧d=aH (sortI s.lo) by
  B3⟨d,h1,rfl⟩:=hh
  ~h1
 have hf:=h.few
 have hp:=h.pos
 &qU rfl ?_
 B4 NZ
 &cN (d:=aH s.od) (bL (nm:=sI) rfl A7 rfl rfl (Ig κ s)) A9 ?_
 have e:iY 1 ((s.rs.length:Int)-1).toNat=(gK s.rs.length).map D.int:=by
  B4 iY gK
  rw[K5,show ((s.rs.length:Int)-1).toNat=s.rs.length-1 by omega]
  rfl
 have hr:=LC (i:=1) (j:=s.rs.length) (fs:=aA (fC (.int 1)) (aA (aD 1) aK)) (e:=rE [.fro (gA κ s),.fro (.int s.rs.length),.own (aH s.od)]) (aB rfl (aB rfl rfl)) A8 A8 A6 A6
 rw[e]at hr
 have hc:=tO (fi:=Pg (aA (fC (.int 1)) (aA (aD 1) aK))) (fr:=[2]) (fc:=fB (f2 (dIn true) (aD 0) (aD 1))) (fe:=cO (aD 0)) (e:=rE [.fro (gA κ s),.fro (.int s.rs.length),.own (aH s.od)]) (ms:=gK s.rs.length) (fun x=>!decide (x∈s.od)) (fun x=>x) hr (by B4 gK;rw[B7,D8];omega) (fun x _=>bZ (aL rfl rfl (Gv true x s.od))) fun x _ _=>bH rfl rfl
 rw[List.map_id',aDZ h]at hc
 ~pC hc ⟨_,rfl,rfl⟩
B5 neT(l:List Int):Gd (aH l) (aH l)=some (.bl false):=by
 rw[MP,decide_eq_true rfl]
 rfl
B5 gone_none{s:Wb}{K:Int}(h:K∉s.od.map s.key):s.od.find? (fun x=>decide (s.key x=K))=none:=g8.mpr fun x hx z=>h (G4.mpr ⟨x,hx,of_decide_eq_true z⟩)
B5 xn{m:Nat}(h:m≤1000)(h1:0<m):rR [.int 1,.int m]=some (aH (gK m)):=by
 B4 rR
 dsimp only
 rw[if_pos ⟨by decide,by decide,by omega,by omega⟩]
 B4 aH gK
 rw[K5,show ((m:Int)-1).toNat=m-1 by omega]
 rfl
B5 aCe{s:Wb}(h:lG s)(c:Int):oO κ [gA κ s,aH (s.od.map s.key),.int s.rs.length,.int c]=some (.bl true):=by
 suffices hh:∃d,oO κ [gA κ s,aH (s.od.map s.key),.int s.rs.length,.int c]=some d∧d=.bl true by
  B3⟨d,h1,rfl⟩:=hh
  ~h1
 have hf:=h.few
 have hp:=h.pos
 have o63:=h.aDY
 have l64:=h.aGH
 have p58:(0:Int)<10 ^ (58:Int).toNat:=P7 A8
 have hlk:(s.od.map s.key).length=s.od.length:=B7 ..
 have hlo:(sortI s.lo).length=s.lo.length:=(jJ s.lo).1.length_eq
 have hord:∀{e:DE},e[0]?=some (some (gA κ s))→bK (κ 1) "order" 1 (cC κ) (aD 0) aK [] e=some (aH s.od):=fun e0=>bL (nm:=sI) (cI e0) A7 rfl rfl (Ig κ s)
 have aGR:∀{e:DE},e[0]?=some (some (gA κ s))→bK (κ 1) "free" 1 (eG κ) (aD 0) aK [] e=some (aH (sortI s.lo)):=fun e0=>bL (nm:=sI) (cI e0) A7 rfl rfl (Ih κ h)
 have hrec:∀{e:DE} {i:Nat} {g:FE} {x:Int},e[i]?=some (some (gA κ s))→g e=some (.int x)→0≤x→x<(s.rs.length:Int)→cO (f2 dI (bK (κ 1) "record_of" 2 (aW κ) (aD i) (aA g aK) []) (fC (.int 0))) e=some (.int (s.key x)):=fun e0 hg x0 x1=>bH (aL (bL (nm:=sI) (cI e0) A7 (aB hg rfl) rfl (jX κ h x0 x1)) rfl (rG (k:=0) (by rw[h.five x0 x1];decide))) rfl
 have aD1:∀{e:DE} {g:FE} {K:Int},e[0]?=some (some (gA κ s))→g e=some (.int K)→bK (κ 1) "box_of" 2 (cB κ) (aD 0) (aA g aK) [] e=some (Kq (s.od.find? fun x=>decide (s.key x=K))):=fun e0 hg=>bL (nm:=sI) (cI e0) A7 (aB hg rfl) rfl (Rz κ h _)
 have t1:∀{e:DE},e[0]?=some (some (gA κ s))→e[4]?=some (some (aH s.od))→e[5]?=some (some (aH (sortI s.lo)))→UG (fB (f2 Gd (bK (κ 1) "order" 1 (cC κ) (aD 0) aK []) (aD 4))) (fB (f2 Gd (bK (κ 1) "free" 1 (eG κ) (aD 0) aK []) (aD 5))) e=some false:=fun e0 e4 e5=>(KY (bZ (b:=false) (aL (hord e0) (cI e4) (neT _)))).trans (bZ (aL (aGR e0) (cI e5) (neT _)))
 have t2:∀{e:DE},e[4]?=some (some (aH s.od))→e[5]?=some (some (aH (sortI s.lo)))→UG (Cv (fB (dD 1 lZ (aA (aD 4) aK)))) (UG (Cv (fB (dD 1 lZ (aA (aD 5) aK)))) (fB (f2 Gd (pY Vp (aD 4)) (fL jP (aA (aD 4) aK))))) e=some false:=fun e4 e5=>(KY (rT (b:=true) (bZ (bR (aB (cI e4) rfl) rfl (Rw _ A6))))).trans ((KY (rT (b:=true) (bZ (bR (aB (cI e5) rfl) rfl (Rw _ A6))))).trans (bZ (aL (dB (cI e4) (aCd A6 h.DN)) (dU (aB (cI e4) rfl) (lB _)) ((xJ _ _).trans (by rw[decide_eq_true rfl];rfl)))))
 have hal:=aGQ h
 have hall:s.od.length+(sortI s.lo).length<64:=by
  have e1:=(jJ (s.od++sortI s.lo)).1.length_eq
  rw[hal,C7]at e1
  B4 gK at e1
  rw[B7,D8]at e1
  omega
 have t3:∀{e:DE},e[0]?=some (some (gA κ s))→e[2]?=some (some (.int s.rs.length))→e[4]?=some (some (aH s.od))→e[5]?=some (some (aH (sortI s.lo)))→UG (fB (f2 Gd (aD 5) (dD 2 (wF κ) (aA (aD 0) (aA (aD 2) aK))))) (fB (f2 Gd (fL uL (aA (f2 dJ (aD 4) (aD 5)) aK)) (fL rR (aA (fC (.int 1)) (aA (aD 2) aK))))) e=some false:=fun e0 e2 e4 e5=>(KY (bZ (b:=false) (aL (cI e5) (bR (aB (cI e0) (aB (cI e2) rfl)) rfl (aD0 κ h)) (neT _)))).trans (bZ (aL (a:=aH (gK s.rs.length)) (dU (aB (aL (cI e4) (cI e5) (xM _ _ A6)) rfl) ((xN (by rw[C7];~hall)).trans (by rw[hal]))) (dU (aB rfl (aB (cI e2) rfl)) (xn A6 hp)) (neT _)))
 have t4:fB (f2 Gd (gF (lM (aD 4)) [0] jN (cO (f2 dI (bK (κ 1) "record_of" 2 (aW κ) (aD 1) (aA (aD 0) aK) []) (fC (.int 0))))) (aD 1)) (rE [.fro (gA κ s),.fro (aH (s.od.map s.key)),.fro (.int s.rs.length),.fro (.int c),.own (aH s.od),.own (aH (sortI s.lo)),.no,.no,.no,.no])=some false:=by
  have hc:=tO (fi:=lM (aD 4)) (fr:=[0]) (fc:=jN) (fe:=cO (f2 dI (bK (κ 1) "record_of" 2 (aW κ) (aD 1) (aA (aD 0) aK) []) (fC (.int 0)))) (e:=rE [.fro (gA κ s),.fro (aH (s.od.map s.key)),.fro (.int s.rs.length),.fro (.int c),.own (aH s.od),.own (aH (sortI s.lo)),.no,.no,.no,.no]) (ms:=s.od) (fun _=>true) s.key (iV rfl) A6 (fun _ _=>rfl) fun x hx _=>hrec rfl rfl (by have:=h.Kr x hx;omega) (h.Kr x hx).2
  rw[N0.mpr fun _ _=>rfl]at hc
  ~bZ (aL hc rfl (neT _))
 have aCf:∀v7:SD,Qs (fun r=>∃d,r=.ret d∧d=.bl true) ((aX (qM (fB (f2 Il (aD 1) (kE aK))) (fO (f2 (zM false) (bK (κ 1) "box_of" 2 (cB κ) (aD 0) (aA (f2 eV (aD 3) (f2 zH (fC (.int 10)) (fC (.int 58)))) aK) []) (fC .non))) fG)
 (aX (dG 8 (f2 eV (aD 3) (fL jP (aA (aD 1) aK))))
 (aX (dG 9 (bK (κ 1) "box_of" 2 (cB κ) (aD 0) (aA (f2 dI (aD 1) (aD 8)) aK) []))
 (aX (qM (UG (Cv (fB (dD 1 oU (aA (aD 9) aK)))) (fB (f2 Gd (aD 9) (f2 dI (aD 4) (aD 8))))) (fO (fC (.bl false))) fG)
 (fO (Tg (f2 (dIn false) (f2 dJ (f2 dI (aD 1) (aD 8)) (fC (.int 1))) (aD 1)) (f2 (zM false) (bK (κ 1) "box_of" 2 (cB κ) (aD 0) (aA (f2 dJ (f2 dI (aD 1) (aD 8)) (fC (.int 1))) aK) []) (fC .non)))))))) [.fro (gA κ s),.fro (aH (s.od.map s.key)),.fro (.int s.rs.length),.fro (.int c),.own (aH s.od),.own (aH (sortI s.lo)),.no,v7,.no,.no]):=fun v7=>by
  &Gs (bZ (aL rfl (fQ rfl A8) (LQ _ []))) (fun hb=>?_) (fun hb=>vG ?_)
  ·have hb:=of_decide_eq_true hb
   have hn:s.od.find? (fun x=>decide (s.key x=c%10 ^ (58:Int).toNat))=none:=gone_none (by rw[hb];~List.not_mem_nil)
   have hx:=aD1 (e:=rE [.fro (gA κ s),.fro (aH (s.od.map s.key)),.fro (.int s.rs.length),.fro (.int c),.own (aH s.od),.own (aH (sortI s.lo)),.no,v7,.no,.no]) (g:=f2 eV (aD 3) (f2 zH (fC (.int 10)) (fC (.int 58)))) rfl (aL rfl (aL rfl rfl (nP ⟨by decide,by decide,by decide⟩)) (bG p58))
   rw[hn]at hx
   ~Vt (aL hx rfl rfl) ⟨_,rfl,rfl⟩
  ·have ho:0<s.od.length:=by
    rw[←hlk]
    ~P2.mpr (of_decide_eq_false hb)
   have x0:=E6 c (show (s.od.length:Int)≠0 by omega)
   have x1:=E7 c (show 0<(s.od.length:Int) by omega)
   &cN (d:=.int (c%(s.od.length:Int))) (aL rfl (dU (aB rfl rfl) ((lB _).trans (by rw[hlk]))) (bG A6)) A9 ?_
   generalize c%(s.od.length:Int)=at_ at *
   B3⟨x,hx⟩:∃x,s.od[at_.toNat]?=some x:=⟨_,B6 (show at_.toNat<s.od.length by omega)⟩
   have hix:dI (aH (s.od.map s.key)) (.int at_)=some (.int (s.key x)):=(gW x0 (by rw[hlk];~x1)).trans (by rw[mL (show (s.od.map s.key)[at_.toNat]?=some (s.key x) by rw[B8,hx];rfl)])
   have hxo:dI (aH s.od) (.int at_)=some (.int x):=(gW x0 x1).trans (by rw[mL hx])
   have hb:=aD1 (e:=rE [.fro (gA κ s),.fro (aH (s.od.map s.key)),.fro (.int s.rs.length),.fro (.int c),.own (aH s.od),.own (aH (sortI s.lo)),.no,v7,.own (.int at_),.no]) (g:=f2 dI (aD 1) (aD 8)) rfl (aL rfl rfl hix)
   rw[find_key h hx]at hb
   &cN (d:=.int x) hb A9 ?_
   &pB (b:=false) ((KY (rT (b:=true) (bZ (bR (aB rfl rfl) rfl (QC x))))).trans (bZ (aL rfl (aL rfl rfl hxo) ((xJ _ _).trans (by rw[decide_eq_true rfl];rfl))))) rfl (vG ?_)
   have hk1:f2 dJ (f2 dI (aD 1) (aD 8)) (fC (.int 1)) (rE [.fro (gA κ s),.fro (aH (s.od.map s.key)),.fro (.int s.rs.length),.fro (.int c),.own (aH s.od),.own (aH (sortI s.lo)),.no,v7,.own (.int at_),.own (.int x)])=some (.int (s.key x+1)):=aL (aL rfl rfl hix) rfl (bY _ _)
   have hb1:=aD1 (e:=rE [.fro (gA κ s),.fro (aH (s.od.map s.key)),.fro (.int s.rs.length),.fro (.int c),.own (aH s.od),.own (aH (sortI s.lo)),.no,v7,.own (.int at_),.own (.int x)]) rfl hk1
   have hin:=aL hk1 rfl (Gv false (s.key x+1) (s.od.map s.key)) (g:=aD 1)
   by_cases q:s.key x+1∈s.od.map s.key
   ·rw[if_neg E2,decide_eq_true q]at hin
    ~pC (aGJ hin) ⟨_,rfl,rfl⟩
   ·rw[if_neg E2,decide_eq_false q]at hin
    rw[gone_none q]at hb1
    ~pC (jf hin (aL hb1 rfl (show zM false (Kq none) .non=some (.bl true)from rfl))) ⟨_,rfl,rfl⟩
 &qU rfl ?_
 B4 Rb
 &cN (d:=aH s.od) (hord rfl) A9 ?_
 &cN (d:=aH (sortI s.lo)) (aGR rfl) A9 ?_
 &Tp (ZF (xs:=[aH s.od,aH (sortI s.lo)]) (fQ (aB (hord rfl) (aB (aGR rfl) rfl)) (by show 2≤_;decide)) ?_ A9) ?_
 ·show (decide ((s.od.map D.int).length<100000)&&(decide (((sortI s.lo).map D.int).length<100000)&&true))=true
  rw[B7,B7,decide_eq_true (show s.od.length<100000 by omega),decide_eq_true (show (sortI s.lo).length<100000 by omega)]
  rfl
 &pB (b:=false) (t1 rfl rfl rfl) rfl (vG ?_)
 &pB (b:=false) (t2 rfl rfl) rfl (vG ?_)
 &pB (b:=false) (t3 rfl rfl rfl rfl) rfl (vG ?_)
 &pB (b:=false) t4 rfl (vG ?_)
 &Gs (bZ (aL rfl (fQ rfl A8) (Nj (sortI s.lo)))) (fun hb=>?_) (fun hb=>vG (aCf _))
 have hl0:0<(sortI s.lo).length:=by
  rcases V1 (sortI s.lo).length with z | z
  ·rw[List.length_eq_zero_iff.mp z]at hb
   cases hb
  ·~z
 have x0:=E6 c (show ((sortI s.lo).length:Int)≠0 by omega)
 have x1:=E7 c (show 0<((sortI s.lo).length:Int) by omega)
 B3⟨y,hy⟩:∃y,(sortI s.lo)[(c%((sortI s.lo).length:Int)).toNat]?=some y:=⟨_,B6 (show (c%((sortI s.lo).length:Int)).toNat<(sortI s.lo).length by omega)⟩
 have hyl:=(h.yc y).mp ((jJ s.lo).1.mem_iff.mp (D9 hy))
 rw[uC]
 &cN (d:=.int (s.key y)) (hrec rfl (aL rfl (aL rfl (dU (aB rfl rfl) (lB _)) (bG A6)) ((gW x0 x1).trans (by rw[mL hy]))) A6 hyl.2.1) A9 ?_
 have hin:=aL (e:=rE [.fro (gA κ s),.fro (aH (s.od.map s.key)),.fro (.int s.rs.length),.fro (.int c),.own (aH s.od),.own (aH (sortI s.lo)),.no,.own (.int (s.key y)),.no,.no]) (f:=aD 7) (g:=aD 1) rfl rfl (Gv true (s.key y) (s.od.map s.key))
 have hb1:=aD1 (e:=rE [.fro (gA κ s),.fro (aH (s.od.map s.key)),.fro (.int s.rs.length),.fro (.int c),.own (aH s.od),.own (aH (sortI s.lo)),.no,.own (.int (s.key y)),.no,.no]) (g:=aD 7) (K:=s.key y) rfl rfl
 by_cases q:s.key y∈s.od.map s.key
 ·rw[if_pos rfl,decide_eq_true q]at hin
  ~pB (b:=false) (WM (bZ hin)) rfl (vG (aCf _))
 ·rw[if_pos rfl,decide_eq_false q]at hin
  rw[gone_none q]at hb1
  ~pB (b:=false) (Nb (bZ hin) (bZ (aL hb1 rfl (show zM true (Kq none) .non=some (.bl false)from rfl)))) rfl (vG (aCf _))
B5 Wv:∀hs:List (List Int),pL (hs.map aH)=some (hs.map fun l=>.lst (l.map DV.int))
 | []=>by rw[J2];B4 pL;rfl
 | l::hs=>by
  have e:jO (aH l)=some (.lst (l.map DV.int)):=by B4 aH jO;rw[xK];rfl
  rw[D3];B4 pL;rw[e,C4,Wv hs];rfl
B5 Ww:∀hs:List (List Int),gQ (hs.map fun l=>DV.lst (l.map DV.int))≤1
 | []=>by rw[J2];B4 gQ;decide
 | l::hs=>by
  rw[D3]
  B4 gQ
  have:=Ww hs
  have e:(DV.lst (l.map DV.int)).depth=1:=by B4 DV.depth;rw[wU]
  omega
B5 ju(hs:List (List Int)):Il (.lst (hs.map aH)) (.lst (hs.map aH))=some (.bl true):=aBW (Wv hs) (by B4 DV.depth;have:=Ww hs;omega)
B5 aEQ{i:Nat}{π:FP}{as:List Ap}{e:DE}{p:List L2.Step}{r:List (Nat×List L2.Step)}(h:π e=some p)(k:chP as e=some r):chP (.ch i π::as) e=some ((i,p)::r):=by
 show (π e).bind _=_
 rw[h,C4,k]
 rfl
B5 aER{i:Nat}{π:FP}{as:List Ap}{eF eZ:DE}{r:List D}(k:rdP as eF eZ=some r):rdP (.ch i π::as) eF eZ=some r:=k
B5 aIw{f:FE}{as:List Ap}{eF eZ:DE}{d:D}{r:List D}(h:f eZ=some d)(k:rdP as eF eZ=some r):rdP (.rd f::as) eF eZ=some (d::r):=by
 show (f eZ).bind _=_
 rw[h,C4,k]
 rfl
B5 jw{j:Nat}{p:List L2.Step}{js:List (Nat×List L2.Step)}{env e0:EN}{d0 d:D}{f:D→SD}{ds:List D}(h:env[j]?.bind SD.hold=some (d0,f))(h1:eO p d0=some d)(k:wZ js (env.set j .no)=some (ds,e0)):wZ ((j,p)::js) env=some (d::ds,e0):=by
 show (env[j]?.bind SD.hold).bind _=_
 rw[h,C4]
 show (eO p d0).bind _=_
 rw[h1,C4,k]
 rfl
B5 aES{Pr:SR→Prop}{g1:GS}{env env':EN}(h:g1 env=.next env')(k:Pr (.next env')):Qs Pr (g1 env):=by
 B4 Qs
 rw[h]
 ~k
B5 aD2{n:Nat}{k:Int}(h0:0≤k)(h1:k<(n:Int)):Up n k=some k.toNat:=by
 B4 Up
 rw[if_pos h0,if_pos h1]
def kD(s:Wb):D:=aH (s.od.map s.key)
noncomputable def aJQ(P R:Nat)(ns:List Int)(n:Nat)(env:EN):Prop:=∃(S:List Wb)(hs:List (List Int))(v1 v4 v6 v7 v8 v9 v10:SD),env=[.fro (aH ns),v1,.own (.int ((P*R:Nat):Int)),.own (.lst (S.map (gA κ))),v4,.own (.lst (S.map kD)),v6,v7,v8,v9,v10]∧S.length=2∧(∀s∈S,lG s∧s.n≤2*n∧s.rs.length=P*R)∧hs.length≤2*n∧((v6=.own (.lst (hs.map aH))∧v7=.own (.lst (hs.map aH)))∨(v6=.fro (.lst (hs.map aH))∧v7=.fro (.lst (hs.map aH))))
B5 aCg(ns:List Int)(hl:ns.length≤63)(hs:∀k∈ns,Small k):aGt κ [.lst (ns.map D.int)]=some (.bl true):=by
 suffices hh:∃d,aGt κ [.lst (ns.map D.int)]=some d∧d=.bl true by
  B3⟨d,e,rfl⟩:=hh
  ~e
 &qU rfl ?_
 B4 aIh
 B3⟨P,R,rs,bC,od,hb,B⟩:=aB7 (ns:=ns)
 have hlm:=zW P R rs bC
 have h8:=B.p8
 have h1:=B.p1
 have r1:=B.r1
 have r8:=B.r8
 have hln:jP [bW (bJ P R rs bC)]=some (.int P):=(Cj _).trans (by rw[hlm])
 have w0':lG (Wb.first P R rs bC od):=B.ok
 have hR0:(Wb.first P R rs bC od).rs.length=P*R:=B.len
 have hin:=aB8 κ (bC:=bC) B
 have p0:=Ni (P:=P) (R:=R) (cQ:=rs) (bC:=bC) (p:=0) h1
 have hlp:=Hz (((D2 R).map fun r=>rs.getD (0+P*r) [])++[[bC.getD 0 0]])
 have hpl:=CQ (D9 p0)
 rw[hpl]at hlp
 have ix0:dI (bW (bJ P R rs bC)) (.int 0)=some (fU (((D2 R).map fun r=>rs.getD (0+P*r) [])++[[bC.getD 0 0]])):=Ij (k:=0) p0
 have gp0:eO [.ix 0] (bW (bJ P R rs bC))=some (fU (((D2 R).map fun r=>rs.getD (0+P*r) [])++[[bC.getD 0 0]])):=Ko (by rw[B8,p0];rfl)
 have o63:=w0'.aDY
 have hod:(Wb.first P R rs bC od).od=od:=rfl
 have hn0:(Wb.first P R rs bC od).n=0:=rfl
 generalize hpD:((D2 R).map fun r=>rs.getD (0+P*r) [])++[[bC.getD 0 0]]=pn at *
 generalize bW (bJ P R rs bC)=sd at *
 generalize Wb.first P R rs bC od=s0 at *
 &cN (d:=sd) (bR (aB rfl rfl) rfl hb) A9 ?_
 have QT:∀{e:DE},e[1]?=some (some sd)→f2 sW (fL jP (aA (aD 1) aK)) (f2 zG (fL jP (aA (f2 dI (aD 1) (fC (.int 0))) aK)) (fC (.int 1))) e=some (.int ((P*R:Nat):Int)):=fun{e} e1=>by
  rw[U1,show (R:Int)=((R+1:Nat):Int)-1 by omega]
  ~aL (dU (aB (cI e1) rfl) hln) (aL (dU (aB (aL (cI e1) rfl ix0) rfl) hlp) rfl (jT _ _)) (gG (Ek A6 A6))
 &cN (d:=.int ((P*R:Nat):Int)) (QT rfl) A9 ?_
 &cN (d:=.lst ([s0,s0].map (gA κ))) (fQ (aB (Qq (aB rfl rfl) hin) (aB (Qq (aB rfl rfl) hin) rfl)) (by show 2≤_;decide)) A9 ?_
 have hkeys:gF (lM (bK (κ 1) "order" 1 (cC κ) (f2 dI (aD 3) (fC (.int 0))) aK [])) [3] jN (cO (f2 dI (bK (κ 1) "record_of" 2 (aW κ) (f2 dI (aD 1) (fC (.int 0))) (aA (aD 0) aK) []) (fC (.int 0)))) (rE [.fro (aH ns),.own sd,.own (.int ((P*R:Nat):Int)),.own (.lst ([s0,s0].map (gA κ))),.no,.no,.no,.no,.no,.no,.no])=some (aH (s0.od.map s0.key)):=by
  have hc:=tO (fi:=lM (bK (κ 1) "order" 1 (cC κ) (f2 dI (aD 3) (fC (.int 0))) aK [])) (fr:=[3]) (fc:=jN) (fe:=cO (f2 dI (bK (κ 1) "record_of" 2 (aW κ) (f2 dI (aD 1) (fC (.int 0))) (aA (aD 0) aK) []) (fC (.int 0)))) (e:=rE [.fro (aH ns),.own sd,.own (.int ((P*R:Nat):Int)),.own (.lst ([s0,s0].map (gA κ))),.no,.no,.no,.no,.no,.no,.no]) (ms:=s0.od) (fun _=>true) s0.key (iV (bL (nm:=sI) (aL rfl rfl (nZ A8 rfl)) A7 rfl rfl (Ig κ s0))) A6 (fun _ _=>rfl) fun x hx _=>by
    have hx:=w0'.Kr x hx
    ~bH (aL (bL (nm:=sI) (aL rfl rfl (nZ A8 rfl)) A7 (aB rfl rfl) rfl (jX κ w0' A6 hx.2)) rfl (rG (k:=0) (by rw[w0'.five A6 hx.2];decide))) rfl
  rw[N0.mpr fun _ _=>rfl]at hc
  ~hc
 &cN (d:=aH (s0.od.map s0.key)) hkeys A9 ?_
 &cN (d:=.lst ([s0,s0].map kD)) (fQ (aB (dU (aB rfl rfl) (oR (cV _))) (aB (dU (aB rfl rfl) (oR (cV _))) rfl)) (by show 2≤_;decide)) A9 ?_
 &Tp (Zf (p:=[.ix 0]) (d0:=sd) (k:=0) (ds:=pn.map dTup) rfl rfl gp0 rfl (oE (aB rfl (aB rfl (aB (pZ rfl) (aB (pZ rfl) (aB rfl rfl))))) (by show 5≤_;decide)) A8 (by rw[B7,hpl];omega)) ?_
 generalize dR [L2.Step.ix 0] sd _=sd'
 &cN (d:=.lst []) (fQ rfl A8) A9 ?_
 &cN (d:=.lst []) (fQ rfl A8) A9 ?_
 B3⟨cells,hcells,c1⟩:∃cells:List Int,gF (lM (xx false (aD 0) (qR (fC (.int 3))) (qR (fC (.int 63))))) [] jN (dD 1 lW (aA (aD 0) aK)) (zE [.fro (aH ns),.own sd',.own (.int ((P*R:Nat):Int)),.own (.lst ([s0,s0].map (gA κ))),.own (aH (s0.od.map s0.key)),.own (.lst ([s0,s0].map kD)),.own (.lst []),.own (.lst []),.no,.no,.no])=some (aH cells)∧cells.length≤60:=by
  have hsp:∀c:Int,∃s:Int,0≤s∧lW [.int c]=some (.int s):=xf
  &⟨((ns.drop 3).take 60).map fun c=>(hsp c).choose,?_,by rw[B7,J0,O8];omega⟩
  have:=tO (fi:=lM (xx false (aD 0) (qR (fC (.int 3))) (qR (fC (.int 63))))) (fr:=[]) (fc:=jN) (fe:=dD 1 lW (aA (aD 0) aK)) (e:=zE [.fro (aH ns),.own sd',.own (.int ((P*R:Nat):Int)),.own (.lst ([s0,s0].map (gA κ))),.own (aH (s0.od.map s0.key)),.own (.lst ([s0,s0].map kD)),.own (.lst []),.own (.lst []),.no,.no,.no]) (ms:=(ns.drop 3).take 60) (fun _=>true) (fun c=>(hsp c).choose) (iV ((MJ rfl (Jr rfl) (Jr rfl)).trans (by rw[show (3:Int)=((3:Nat):Int)from rfl,show (63:Int)=((63:Nat):Int)from rfl,aBA]))) (by rw[J0];omega) (fun m hm=>rfl) fun m hm _=>bR (aB rfl rfl) rfl (hsp m).choose_spec.2
  rw[N0.mpr fun _ _=>rfl]at this
  ~this
 &aBy (xs:=cells.map D.int) (aJQ κ P R ns) rfl (iV hcells) ⟨[s0,s0],[],_,_,_,_,_,_,_,rfl,rfl,fun s hs=>?_,C6 _,.inl ⟨rfl,rfl⟩⟩ ?_ ?_
 ·have e:s=s0:=by
   rcases C9.mp hs with z | z
   ·~z
   ·~E3.mp z
  rw[e]
  ~⟨w0',by omega,hR0⟩
 ·rintro n x env hx ⟨S,hs,v1,v4,v6,v7,v8,v9,v10,rfl,hS2,hS,hhl,hv⟩
  &⟨by walk_at "lt", ?_⟩
  rw[B8]at hx
  B3⟨c,hc,rfl⟩:=lN hx
  have hnc:=(D1.mp hc).1
  have x0:=E6 c (show (2:Int)≠0 by decide)
  have x1:=E7 c (show (0:Int)<2 by decide)
  &cN (d:=.int (c%2)) (aL rfl rfl (bG A8)) A9 ?_
  generalize c%2=w at *
  B3⟨s,hs0⟩:∃s,S[w.toNat]?=some s:=⟨_,B6 (show w.toNat<S.length by omega)⟩
  B3⟨h,hn,hr⟩:=hS s (D9 hs0)
  B3⟨s',kd,h',hn',hP',hr',hstep⟩:=aGP κ h A6 (c/2)
  have hr':=hr'.trans hr
  have g3:(S.map (gA κ))[w.toNat]?=some (gA κ s):=by rw[B8,hs0];rfl
  have g5:(S.map kD)[w.toNat]?=some (kD s):=by rw[B8,hs0];rfl
  have hg:Vo (.ch 3 (Tj cW (aD 9))::.ch 5 (Tj cW (aD 9))::.rd (f2 sX (aD 8) (fC (.int 2)))::[]) (wD κ) [.fro (aH ns),v1,.own (.int ((P*R:Nat):Int)),.own (.lst (S.map (gA κ))),v4,.own (.lst (S.map kD)),v6,v7,.fro (.int c),.own (.int w),v10]=some (kD s',[.fro (aH ns),v1,.own (.int ((P*R:Nat):Int)),.own (.lst ((S.map (gA κ)).set w.toNat (gA κ s'))),v4,.own (.lst ((S.map kD).set w.toNat kd)),v6,v7,.fro (.int c),.own (.int w),v10]):=by
   &(aCc (ps:=[(3,[.ix w.toNat]),(5,[.ix w.toNat])]) (Lz:=[gA κ s,kD s]) (Vk:=[.int (c/2)]) (e0:=[.fro (aH ns),v1,.own (.int ((P*R:Nat):Int)),.no,v4,.no,v6,v7,.fro (.int c),.own (.int w),v10]) (aEQ (BX (p:=[]) (k:=w) rfl rfl x0) (aEQ (BX (p:=[]) (k:=w) rfl rfl x0) rfl)) (jw rfl (Ko g3) (jw rfl (Ko g5) rfl)) ?_ hstep).trans ?_
   ·~aER (aER (aIw (aL (a:=.int c) (b:=.int 2) rfl rfl (eE A8 A8)) rfl))
   ·show some (kD s',[SD.fro (aH ns),v1,.own (.int ((P*R:Nat):Int)),.own (dR [.ix w.toNat] (.lst (S.map (gA κ))) (gA κ s')),v4,.own (dR [.ix w.toNat] (.lst (S.map kD)) kd),v6,v7,.fro (.int c),.own (.int w),v10])=_
    rw[Rt g3,Rt g5]
  have hsl:=xj (i:=5) (π:=cW) (g:=aD 9) (p:=[]) (k:=w) (ds:=(S.map kD).set w.toNat kd) (j:=w.toNat) hg rfl rfl rfl rfl (aD2 x0 (by rw[J5,B7];omega))
  have hsl:Eh 5 cW (aD 9) (Vo (.ch 3 (Tj cW (aD 9))::.ch 5 (Tj cW (aD 9))::.rd (f2 sX (aD 8) (fC (.int 2)))::[]) (wD κ)) [.fro (aH ns),v1,.own (.int ((P*R:Nat):Int)),.own (.lst (S.map (gA κ))),v4,.own (.lst (S.map kD)),v6,v7,.fro (.int c),.own (.int w),v10]=.next [.fro (aH ns),v1,.own (.int ((P*R:Nat):Int)),.own (.lst ((S.set w.toNat s').map (gA κ))),v4,.own (.lst ((S.set w.toNat s').map kD)),v6,v7,.fro (.int c),.own (.int w),v10]:=by
   rw[hsl,R7,R7,R4]
   rfl
  &Tp hsl ?_
  have hT:∀s∈S.set w.toNat s',lG s∧s.n≤2*(n+1)∧s.rs.length=P*R:=fun t ht=>by
   rcases List.mem_or_eq_of_mem_set ht with z | z
   ·B3⟨a,b,d⟩:=hS t z
    ~⟨a,by omega,d⟩
   ·rw[z]
    ~⟨h',by omega,hr'⟩
  have hT2:(S.set w.toNat s').length=2:=by rw[J5];~hS2
  have hTw:(S.set w.toNat s')[w.toNat]?=some s':=by rw[F8,if_pos rfl,if_pos A6]
  generalize S.set w.toNat s'=T at *
  have i3:∀{k:Int} {t:Wb},0≤k→T[k.toNat]?=some t→dI (.lst (T.map (gA κ))) (.int k)=some (gA κ t):=fun k0 e=>nZ k0 (by rw[B8,e];rfl)
  have i5:∀{k:Int} {t:Wb},0≤k→T[k.toNat]?=some t→dI (.lst (T.map kD)) (.int k)=some (kD t):=fun k0 e=>nZ k0 (by rw[B8,e];rfl)
  have lk:∀{t:Wb} {k:Nat} (cc:Int),T[k]?=some t→oO κ [gA κ t,kD t,.int ((P*R:Nat):Int),.int cc]=some (.bl true):=fun{t k} cc e=>by
   B3⟨a,_,b⟩:=hT t (D9 e)
   rw[←b]
   ~aCe κ a cc
  &pB (b:=false) (rT (b:=true) (bZ (bR (aB (aL rfl rfl (i3 x0 hTw)) (aB (aL rfl rfl (i5 x0 hTw)) (aB rfl (aB (aL rfl rfl (eE A8 A8)) rfl)))) rfl (lk (c/3) hTw)))) rfl (vG ?_)
  B3⟨t,ht⟩:∃t,T[(1-w).toNat]?=some t:=⟨_,B6 (show (1-w).toNat<T.length by omega)⟩
  have y0:0≤1-w:=by omega
  &pB (b:=false) (rT (b:=true) (bZ (bR (aB (aL rfl (aL rfl rfl (jT _ _)) (i3 y0 ht)) (aB (aL rfl (aL rfl rfl (jT _ _)) (i5 y0 ht)) (aB rfl (aB (aL rfl rfl (eE A8 A8)) rfl)))) rfl (lk (c/5) ht)))) rfl (vG ?_)
  have hl6:∀{e:DE},e[6]?=some (some (.lst (hs.map aH)))→fB (f2 xu (fL jP (aA (aD 6) aK)) (fC (.int 6))) e=some (decide ((hs.length:Int)<6)):=fun e6=>bZ (aL (dU (aB (cI e6) rfl) ((Gq _).trans (by rw[B7]))) rfl (xH _ _))
  have told:∀{e:DE},e[3]?=some (some (.lst (T.map (gA κ))))→e[9]?=some (some (.int w))→kE (aA (bK (κ 1) "order" 1 (cC κ) (f2 dI (aD 3) (aD 9)) aK []) (aA (bK (κ 1) "free" 1 (eG κ) (f2 dI (aD 3) (aD 9)) aK []) aK)) e=some (.lst ([s'.od,sortI s'.lo].map aH)):=fun e3 e9=>fQ (aB (bL (nm:=sI) (aL (cI e3) (cI e9) (i3 x0 hTw)) A7 rfl rfl (Ig κ s')) (aB (bL (nm:=sI) (aL (cI e3) (cI e9) (i3 x0 hTw)) A7 rfl rfl (Ih κ h')) rfl)) (by show 2≤_;decide)
  have cmp:∀{e:DE},e[10]?=some (some (.lst ([s'.od,sortI s'.lo].map aH)))→gF (lM (aD 10)) [] jN (fL dList (aA (aD 0) aK)) e=some (.lst ([s'.od,sortI s'.lo].map aH)):=fun e10=>Br (ψ:=aH) (φ:=aH) (iV (cI e10)) (by show 2≤_;decide) fun l _=>dU (aB rfl rfl) (oR (cV _))
  have cat:hs.map aH++[s'.od,sortI s'.lo].map aH=(hs++[s'.od,sortI s'.lo]).map aH:=G0.symm
  have hlen:(hs++[s'.od,sortI s'.lo]).length≤2*(n+1):=by
   rw[C7]
   show hs.length+2≤_
   omega
  have aD3:(hs.map aH).length+([s'.od,sortI s'.lo].map aH).length≤100000:=by
   rw[B7]
   show hs.length+2≤_
   omega
  generalize [s'.od,sortI s'.lo].map aH=td at *
  rcases hv with ⟨rfl,rfl⟩ | ⟨rfl,rfl⟩
  ·&aBw (hl6 rfl) (fun _=>?_) fun _=>aBv ⟨_,rfl,T,hs,_,_,_,_,_,_,_,rfl,hT2,hT,by omega,.inl ⟨rfl,rfl⟩⟩
   &cN (d:=.lst td) (told rfl rfl) A9 ?_
   &Tp ((Cp (Ii (xs:=hs.map aH) (ys:=td) rfl rfl aD3) A9).trans rfl) ?_
   &aES ((Cp (Ii (xs:=hs.map aH) (ys:=td) rfl (cmp rfl) aD3) A9).trans rfl) ?_
   rw[cat]
   ~⟨_,rfl,T,hs++[s'.od,sortI s'.lo],_,_,_,_,_,_,_,rfl,hT2,hT,hlen,.inr ⟨rfl,rfl⟩⟩
  ·&aBw (hl6 rfl) (fun _=>?_) fun _=>aBv ⟨_,rfl,T,hs,_,_,_,_,_,_,_,rfl,hT2,hT,by omega,.inr ⟨rfl,rfl⟩⟩
   &cN (d:=.lst td) (told rfl rfl) A9 ?_
   &Tp ((Cp (Ii (xs:=hs.map aH) (ys:=td) rfl rfl aD3) A9).trans rfl) ?_
   &aES ((Cp (Ii (xs:=hs.map aH) (ys:=td) rfl (cmp rfl) aD3) A9).trans rfl) ?_
   rw[cat]
   ~⟨_,rfl,T,hs++[s'.od,sortI s'.lo],_,_,_,_,_,_,_,rfl,hT2,hT,hlen,.inr ⟨rfl,rfl⟩⟩
 ·rintro env ⟨S,hs,v1,v4,v6,v7,v8,v9,v10,rfl,_,_,_,hv⟩
  rcases hv with ⟨rfl,rfl⟩ | ⟨rfl,rfl⟩
  ·~pC (aL rfl rfl (ju hs)) ⟨_,rfl,rfl⟩
  ·~pC (aL rfl rfl (ju hs)) ⟨_,rfl,rfl⟩
end Rs

def PySem.W.Fast.tw4746671214306363185:Unit:=()
def PySem.W.Fast.tw11051121763964359709:Unit:=()
def PySem.W.Fast.tw16482016765961628873:Unit:=()
def PySem.W.Fast.tw673524236758844203:Unit:=()
def PySem.W.Fast.tw15654316433216342072:Unit:=()
def PySem.W.Fast.tw5265688614720142769:Unit:=()
def PySem.W.Fast.tw13886972779565161044:Unit:=()
def PySem.W.Fast.tw6512350869097414162:Unit:=()
def PySem.W.Fast.tw16172700997439675229:Unit:=()
def PySem.W.Fast.tw13708179489906045642:Unit:=()
def PySem.W.Fast.tw10620661209571621151:Unit:=()
def PySem.W.Fast.tw4143757743254387281:Unit:=()
def PySem.W.Fast.tw14034780940319923196:Unit:=()
def PySem.W.Fast.tw3600409563396180912:Unit:=()
def PySem.W.Fast.tw1293320354057449341:Unit:=()
def PySem.W.Fast.tw7423144777467631128:Unit:=()
def PySem.W.Fast.tw6365979595776068077:Unit:=()
def PySem.W.Fast.tw16453573953747579694:Unit:=()
def PySem.W.Fast.tw14597413685524358122:Unit:=()
def PySem.W.Fast.tw16807853510923566486:Unit:=()
def PySem.W.Fast.tw3094166564869601118:Unit:=()
def PySem.W.Fast.tw5853225116259112931:Unit:=()
def PySem.W.Fast.tw2613607600666057597:Unit:=()
def PySem.W.Fast.tw13087275374984396378:Unit:=()
def PySem.W.Fast.tw7492594398827932384:Unit:=()
def PySem.W.Fast.tw2465458192793803777:Unit:=()
def PySem.W.Fast.tw5122860032938552224:Unit:=()
def PySem.W.Fast.tw8899545344133184776:Unit:=()
def PySem.W.Fast.tw7388494096687219880:Unit:=()
def PySem.W.Fast.tw13178237793141681191:Unit:=()
def PySem.W.Fast.tw12332211822731111452:Unit:=()
def PySem.W.Fast.tw630480371488853601:Unit:=()
def PySem.W.Fast.tw9851257012704940073:Unit:=()
def PySem.W.Fast.tw17126702118882896696:Unit:=()
def PySem.W.Fast.tw9374910973162386437:Unit:=()
def PySem.W.Fast.tw6756064135959701741:Unit:=()
def PySem.W.Fast.tw7576702303215858060:Unit:=()
def PySem.W.Fast.tw12377876081664240092:Unit:=()
def PySem.W.Fast.tw15787757320377833651:Unit:=()
def PySem.W.Fast.tw9761226628836507512:Unit:=()
def PySem.W.Fast.tw6670995811858306502:Unit:=()
def PySem.W.Fast.tw3493895878159374002:Unit:=()
def PySem.W.Fast.tw16874184593595713675:Unit:=()
def PySem.W.Fast.tw14257683126087748947:Unit:=()
def PySem.W.Fast.tw14801902008560881128:Unit:=()
def PySem.W.Fast.tw9391810894089809923:Unit:=()
def PySem.W.Fast.tw11759240436278018751:Unit:=()
def PySem.W.Fast.tw13877038823891969083:Unit:=()
def PySem.W.Fast.tw17840769562569282678:Unit:=()
def PySem.W.Fast.tw18420512691829184749:Unit:=()
def PySem.W.Fast.tw4658730717594419465:Unit:=()
def PySem.W.Fast.tw10262508090952859878:Unit:=()
def PySem.W.Fast.tw6779761137046844440:Unit:=()
def PySem.W.Fast.tw16624967216186510586:Unit:=()
def PySem.W.Fast.tw13328394884615637492:Unit:=()
def PySem.W.Fast.tw812569722180533994:Unit:=()
def PySem.W.Fast.tw1462329038217064748:Unit:=()
def PySem.W.Fast.tw448378185848616321:Unit:=()
def PySem.W.Fast.tw9909651944094686107:Unit:=()
def PySem.W.Fast.tw1821750654706872129:Unit:=()
def PySem.W.Fast.tw12915659771688521125:Unit:=()
def PySem.W.Fast.tw7559947616953901075:Unit:=()
def PySem.W.Fast.tw15519586546299550543:Unit:=()
def PySem.W.Fast.tw1411743140266440917:Unit:=()
def PySem.W.Fast.tw11884862234007748865:Unit:=()
def PySem.W.Fast.tw12409934025078706564:Unit:=()
namespace Rs
open PySem L2
B5 CT{K:aF}{f:Addr}{oc:Value}{od:Option Addr}{fd:FuncData}{sl:Array (Option Value)}(l:K.lookup f=some ⟨oc,od,.func fd,sl⟩):J9 K (.ref f)=true:=by
 B4 J9
 dsimp only
 rw[l]
B5 CV{K:aF}{f:Addr}{od:Option Addr}{fd:FuncData}{sl:Array (Option Value)}(l:K.lookup f=some ⟨.type "function", od,.func fd,sl⟩):O7 K (.ref f)=true:=by
 B4 O7 l9
 dsimp only
 rw[l]
 show (some (Value.type "function")==some (Value.type "function"))=true
 decide +kernel
B5 aJS{K:aF}{h:Heap}{mg:Str→Option Value}{x:Str}{st:Stmt}{f:Addr}{oc:Value}{od an:Option Addr}{osl:Array (Option Value)}{kV doc pm cdv ct:Value}(X:K.In h)(G:h.Ns mainGlobals mg)(a:R1 K mainGlobals x=some (some (.ref f)))(l:K.lookup f=some ⟨oc,od,.func (F6 x x (fP st) (cH st) (aM st) .none kV doc pm an cdv ct),osl⟩)(c:K4 K cdv x=true):Raw K mg x st:=aFG X G a l c (CT l)
B5 rM{K:aF}{C f:Addr}{nm q:Str}{st:Stmt}{kV dc pm cd ct:Value}{od an:Option Addr}{sl:Array (Option Value)}(a:F3 K (.ref C) nm=some (some (.ref f)))(l:K.lookup f=some ⟨.type "function", od,.func (F6 nm q (fP st) (cH st) (aM st) .none kV dc pm an cd ct),sl⟩) (c:K4 K cd q=true):gB K C nm q st false:=aDr a (CV l) l c (CT l)
B5 rD{K:aF}{C f T:Addr}{nm q:Str}{st:Stmt}{kV dc pm cd ct ot:Value}{od an dt:Option Addr}{sl s2:Array (Option Value)}{nt:Nat}(a:F3 K (.ref C) nm=some (some (.ref f)))(l:K.lookup f=some ⟨.type "function", od,.func (F6 nm q (fP st) (cH st) (aM st) (.ref T) kV dc pm an cd ct),sl⟩) (c:K4 K cd q=true) (t:K.lookup T=some ⟨ot,dt,.seq #[.none] nt,s2⟩):gB K C nm q st true:=aA9 a (CV l) l c (CT l) t
B5 rI{K:aF}{h:Heap}{mg:Str→Option Value}(X:K.In h)(G:h.Ns mainGlobals mg){C f:Addr}{cn q:Str}{st:Stmt}{kV dc pm cd ct:Value}{od an:Option Addr}{sl:Array (Option Value)}(x:R1 K mainGlobals cn=some (some (.ref C)))(a:F3 K (.ref C) "__init__" = some (some (.ref f))) (l:K.lookup f=some ⟨.type "function", od,.func (F6 "__init__" q (fP st) (cH st) (aM st) .none kV dc pm an cd ct),sl⟩) (c:K4 K cd q=true) (m:T6 K C=true) (k:J9 K (.ref C)=true):JM K mg cn C q st:=aDs X G x a (CV l) l c m k
B5 cX{K:aF}{h:Heap}{C:Addr}{P:Addr→Prop}{cn:Str}(X:K.In h)(a:R1 K mainGlobals cn=some (some (.ref C)))(p:P C):∃C,P C:=⟨C,p⟩
B5 cF{K:aF}{C:Addr}{fn:List Str}(a:Q5 K C Str.empty=true)(b:R8 K C=true)(c:V6 K C=true)(d:F3 K (.ref C) "__setattr__" = some (some (.builtin "object.__setattr__"))) (e:∀x∈fn,F3 K (.ref C) x=some none):iZ K C fn:=⟨⟨a,b,c,d⟩,e⟩
B5 walk{l:l5}{q:Program}{loose:List Str}{XP:(Str→Option Value)→Heap→Prop}{YP:World→Heap→Prop}{d:DefRec}{K:Params→aF}(hn:l.most=some 63)(hdf:d.params.defaults=[])(hdn:d.name = "law")
  (hY:∀(w:World)(h:Heap),YP w h→(K w.params).In h)
  (F:∀(w:World)(mg:Str→Option Value)(h:Heap),(K w.params).In h→h.Ns mainGlobals mg→(∃C:Addr,iZ (K w.params) C jQ∧JM (K w.params) mg "Bench" C "Bench.__init__" tR∧gB (K w.params) C "check_pane" "Bench.check_pane" qW false∧gB (K w.params) C "strike" "Bench.strike" xT false∧gB (K w.params) C "carve" "Bench.carve" uR true∧gB (K w.params) C "check_place" "Bench.check_place" pR false∧gB (K w.params) C "seen" "Bench.seen" Et false∧gB (K w.params) C "check_change" "Bench.check_change" pG false∧gB (K w.params) C "put" "Bench.put" Jw true∧gB (K w.params) C "stone" "Bench.stone" uV false)∧(∃C:Addr,iZ (K w.params) C dF∧JM (K w.params) mg "Weaver" C "Weaver.__init__" uQ∧gB (K w.params) C "box_ahead" "Weaver.box_ahead" qX false∧gB (K w.params) C "record_of" "Weaver.record_of" qY false∧gB (K w.params) C "write" "Weaver.write" xU false∧gB (K w.params) C "coming_in" "Weaver.coming_in" qZ false∧gB (K w.params) C "write_tied" "Weaver.write_tied" pU false∧gB (K w.params) C "link" "Weaver.link" An false∧gB (K w.params) C "further_needs" "Weaver.further_needs" mY false∧gB (K w.params) C "last_change" "Weaver.last_change" pH false∧gB (K w.params) C "leave" "Weaver.leave" xV true∧gB (K w.params) C "box_of" "Weaver.box_of" xW false∧gB (K w.params) C "rewrite" "Weaver.rewrite" tX true∧gB (K w.params) C "free" "Weaver.free" Aq false∧gB (K w.params) C "going_out" "Weaver.going_out" rA false∧gB (K w.params) C "enter" "Weaver.enter" sE true∧gB (K w.params) C "order" "Weaver.order" xX false)∧Raw (K w.params) mg "_law_cell" Qt∧Raw (K w.params) mg "_law_sizes" Js∧Raw (K w.params) mg "_law_mixed" Jt∧Raw (K w.params) mg "_law_record" Eo∧Raw (K w.params) mg "_law_built" vZ∧Raw (K w.params) mg "thing_at" Qw∧Raw (K w.params) mg "spot_of" Zi∧Raw (K w.params) mg "record_at" Ju∧Raw (K w.params) mg "string_of" Jv∧Raw (K w.params) mg "many_boxes" Ep∧Raw (K w.params) mg "loose_boxes" uP∧Raw (K w.params) mg "_law_spread" Es∧Raw (K w.params) mg "ripe_among" xR∧Raw (K w.params) mg "known" Zj∧Raw (K w.params) mg "_law_key" Zm∧Raw (K w.params) mg "_law_done" Ra∧Raw (K w.params) mg "_law_whole" Jx∧Raw (K w.params) mg "_law_numbers" uW∧Raw (K w.params) mg "_law_free" Hl∧Raw (K w.params) mg "_law_looked" xY∧Raw (K w.params) mg "law" vh∧mg "len" = none∧mg "abs" = none∧mg "list" = none∧mg "range" = none∧mg "all" = none∧mg "max" = none∧mg "sorted" = none∧mg "set" = none∧mg "tuple" = none∧mg "min" = none∧mg "isinstance" = none∧mg "bool" = none∧mg "int" = none∧iU mg "HEAD" (0)∧iU mg "NEXT" (1)∧iU mg "NEEDS" (3)∧iU mg "PANE" (0)∧iU mg "PLACE" (1)∧iU mg "THING" (2)∧iU mg "KEY" (0)∧iU mg "WAS" (2)∧iU mg "NOW" (3)∧iU mg "AGE" (4)) :
  o9 q loose XP YP l.row.toRowW d [] (fun f vs=>l4 f vs):=by
 &L2.su (n:=63) (k:=9) (x := "script") (CX:=fun _=>CZ) (sp:=fun w=>spB (K w.params)) hn A8 hdf ⟨rfl,by decide,by decide⟩ hY ?_ (fun _ _ a ns hl hb _ hS=>⟨a,ns,rfl,hS,hl,hb,fun _=>rfl⟩) fun _ _ _ _ _ z=>z
 intro w mg fa h KX G hmg
 B3⟨⟨C0,bD,RBenchInit,RBenchCheckPane,RBenchStrike,RBenchCarve,RBenchCheckPlace,RBenchSeen,RBenchCheckChange,RBenchPut,RBenchStone⟩,⟨C1,aP,RWeaverInit,RWeaverBoxAhead,RWeaverRecordOf,RWeaverWrite,RWeaverComingIn,RWeaverWriteTied,RWeaverLink,RWeaverFurtherNeeds,RWeaverLastChange,RWeaverLeave,RWeaverBoxOf,RWeaverRewrite,RWeaverFree,RWeaverGoingOut,RWeaverEnter,RWeaverOrder⟩,RLawCell,RLawSizes,RLawMixed,RLawRecord,RLawBuilt,RThingAt,RSpotOf,RRecordAt,RStringOf,RManyBoxes,RLooseBoxes,RLawSpread,RRipeAmong,RKnown,RLawKey,RLawDone,RLawWhole,RLawNumbers,RLawFree,RLawLooked,RLaw,gU,aGu,gH,jU,vq,aGv,oH,vy,XS,aGz,mD,aBH,aGA,Dp,wG,XH,aBE,XQ,Ka,Mh,aGw,aGx,aGy⟩:=F w mg h KX G
 B3⟨κ,e0,e1⟩:∃κ:Nat→Addr,κ 0=C0∧κ 1=C1:=⟨(fun n=>match n with | 0=>C0 | _=>C1),rfl,rfl⟩
 subst e0 e1
 B3⟨f,fd,FL,m⟩:=RLaw.ex
 rw[hdn]at hmg
 have e:=hmg.symm.trans m
 cases e
 &⟨fd,VH FL (fun _ _ _ _ _ _ u=>rfl),fun base _ _=>?_⟩
 have qI:=XC (P:=l.prog) (w:=w) (mg:=mg) (base:=base) RLawCell  gU
 have Jy:=OD (P:=l.prog) (w:=w) (mg:=mg) (base:=base) RLawSizes qI
 have mR:=OJ (P:=l.prog) (w:=w) (mg:=mg) (base:=base) RLawMixed
 have xZ:=Zq (P:=l.prog) (w:=w) (mg:=mg) (base:=base) RLawRecord mR  aGu
 have Kh:=PB (P:=l.prog) (w:=w) (mg:=mg) (base:=base) RLawBuilt Jy qI mR xZ  gH jU gU
 have Eu:=Zr (P:=l.prog) (w:=w) (mg:=mg) (base:=base) RBenchInit bD  gH
 have Rh:=XD (P:=l.prog) (w:=w) (mg:=mg) (base:=base) RThingAt
 have By:=vp (P:=l.prog) (w:=w) (mg:=mg) (base:=base) RSpotOf  gU
 have Ca:=PK (P:=l.prog) (w:=w) (mg:=mg) (base:=base) RRecordAt By Rh
 have sS:=PL (P:=l.prog) (w:=w) (mg:=mg) (base:=base) RStringOf Ca  gH Dp wG
 have pW:=Zt (P:=l.prog) (w:=w) (mg:=mg) (base:=base) RManyBoxes  gU
 have Av:=Tq (P:=l.prog) (w:=w) (mg:=mg) (base:=base) RLooseBoxes sS pW  jU Dp
 have uY:=Tr (P:=l.prog) (w:=w) (mg:=mg) (base:=base) RWeaverInit bD aP Eu pW By sS Av  jU
 have Ff:=Zv (P:=l.prog) (w:=w) (mg:=mg) (base:=base) RLawSpread
 have jE:=Hq (P:=l.prog) (w:=w) (mg:=mg) (base:=base) RBenchCheckPane bD  gU
 have Ew:=Zw (P:=l.prog) (w:=w) (mg:=mg) (base:=base) RRipeAmong  vq gH XH
 have yD:=Ri (P:=l.prog) (w:=w) (mg:=mg) (base:=base) RBenchStrike bD  aBE XQ Ka
 have Ax:=Tt (P:=l.prog) (w:=w) (mg:=mg) (base:=base) RBenchCarve bD jE Ew yD  aGv
 have jF:=Hr (P:=l.prog) (w:=w) (mg:=mg) (base:=base) RWeaverBoxAhead aP  Dp
 have iK:=Ey (P:=l.prog) (w:=w) (mg:=mg) (base:=base) RBenchCheckPlace bD jE  gU
 have Ez:=Zx (P:=l.prog) (w:=w) (mg:=mg) (base:=base) RBenchSeen bD iK  Ka
 have aZ:=Ht (P:=l.prog) (w:=w) (mg:=mg) (base:=base) RWeaverRecordOf aP bD Ez
 have gP:=Dc (P:=l.prog) (w:=w) (mg:=mg) (base:=base) RBenchCheckChange bD  gU
 have Kd:=PX (P:=l.prog) (w:=w) (mg:=mg) (base:=base) RBenchPut bD iK gP  gH gU oH vy XS
 have XX:=aBF (P:=l.prog) (w:=w) (mg:=mg) (base:=base) RKnown
 have mU:=Rj (P:=l.prog) (w:=w) (mg:=mg) (base:=base) RWeaverWrite aP bD Kd XX
 have rB:=Hu (P:=l.prog) (w:=w) (mg:=mg) (base:=base) RWeaverComingIn aP
 have iM:=Fd (P:=l.prog) (w:=w) (mg:=mg) (base:=base) RWeaverWriteTied aP mU rB
 have oW:=Tu (P:=l.prog) (w:=w) (mg:=mg) (base:=base) RWeaverLink aP aZ iM  Mh aGw aGx aGy
 have cD:=zN (P:=l.prog) (w:=w) (mg:=mg) (base:=base) RWeaverFurtherNeeds bD aP gP  gH
 have pJ:=Dd (P:=l.prog) (w:=w) (mg:=mg) (base:=base) RWeaverLastChange aP
 have yF:=Rk (P:=l.prog) (w:=w) (mg:=mg) (base:=base) RWeaverLeave aP jF pJ cD oW aZ  wG
 have gD:=Rm (P:=l.prog) (w:=w) (mg:=mg) (base:=base) RWeaverBoxOf aP aZ  Mh
 have tY:=Kf (P:=l.prog) (w:=w) (mg:=mg) (base:=base) RWeaverRewrite aP aZ iM cD  Mh wG
 have Ay:=Tv (P:=l.prog) (w:=w) (mg:=mg) (base:=base) RBenchStone bD  gH
 have gJ:=Tw (P:=l.prog) (w:=w) (mg:=mg) (base:=base) RWeaverFree aP  oH
 have BJ:=vz (P:=l.prog) (w:=w) (mg:=mg) (base:=base) RLawKey  gU
 have rC:=Hx (P:=l.prog) (w:=w) (mg:=mg) (base:=base) RWeaverGoingOut aP
 have yG:=Rn (P:=l.prog) (w:=w) (mg:=mg) (base:=base) RWeaverEnter aP cD aZ jF mU rC oW  gU aGz Mh wG
 have Rq:=YC (P:=l.prog) (w:=w) (mg:=mg) (base:=base) RLawDone bD aP Ax Ay yF gD tY gJ BJ yG  gU oH
 have dW:=Ro (P:=l.prog) (w:=w) (mg:=mg) (base:=base) RWeaverOrder aP  gH
 have sU:=QB (P:=l.prog) (w:=w) (mg:=mg) (base:=base) RLawWhole  mD aBH aGA
 have uX:=Ua (P:=l.prog) (w:=w) (mg:=mg) (base:=base) RLawNumbers sU  vq mD gH
 have Rp:=YF (P:=l.prog) (w:=w) (mg:=mg) (base:=base) RLawFree aP dW  jU
 have yH:=BL (P:=l.prog) (w:=w) (mg:=mg) (base:=base) RLawLooked aP dW gJ uX Rp aZ gD sU  gU vy oH gH jU
 ~aGB FL aP Kh uY dW aZ Ff Rq yH gJ  gU gH (aCg κ)
end Rs
open PySem PySem.W PyProof.Rows
set_option maxRecDepth 100000 in
set_option maxHeartbeats 0 in
theorem PySem.Challenge.cw_ripestone_k30_order_and_free_holds : PySem.Challenge.rw_ripestone_k30_order_and_free.Holds := by
 w_on;o_law;k_head;(case hw=>w_witness2)
 k_fill
 &Rs.walk (l:=PySem.Challenge.rw_ripestone_k30_order_and_free) rfl rfl rfl (fun w h Y=>PySem.W.kIn_of Y) ?F
 case F=>
  intro w mg h KX G
  &⟨?_,?_,?_,?_,?_,?_,?_,?_,?_,?_,?_,?_,?_,?_,?_,?_,?_,?_,?_,?_,?_,?_,?_,G8 KX G ?_,G8 KX G ?_,G8 KX G ?_,G8 KX G ?_,G8 KX G ?_,G8 KX G ?_,G8 KX G ?_,G8 KX G ?_,G8 KX G ?_,G8 KX G ?_,G8 KX G ?_,G8 KX G ?_,G8 KX G ?_,?_,?_,?_,?_,?_,?_,?_,?_,?_,?_⟩
  ·refine' Rs.cX (cn := "Bench") KX ?xa0 ?zz0
   (case xa0=>k_is)
   &⟨?_,?_,?_,?_,?_,?_,?_,?_,?_,?_⟩
   ·refine' Rs.cF ?fa0 ?fb0 ?fc0 ?fd0 ?fe0
    (case fa0=>k_is);(case fb0=>k_is);(case fc0=>k_is);(case fd0=>k_is)
    dsimp only[Rs.jQ]
    repeat' (first | &b7.mpr ⟨?_,?_⟩ | ~c7 _ | k_is)
   ·refine' Rs.rI KX G ?ix0 ?ia0 ?il0 ?ic0 ?im0 ?ik0
    (case ix0=>k_is);(case ia0=>k_is);(case il0=>k_is);(case ic0=>k_is);(case im0=>k_is);(case ik0=>k_is)
   ·refine' Rs.rM ?a ?l ?c
    (case a=>k_is);(case l=>k_is);(case c=>k_is)
   ·refine' Rs.rM ?a ?l ?c
    (case a=>k_is);(case l=>k_is);(case c=>k_is)
   ·refine' Rs.rD ?a ?l ?c ?t
    (case a=>k_is);(case l=>k_is);(case c=>k_is);(case t=>k_is)
   ·refine' Rs.rM ?a ?l ?c
    (case a=>k_is);(case l=>k_is);(case c=>k_is)
   ·refine' Rs.rM ?a ?l ?c
    (case a=>k_is);(case l=>k_is);(case c=>k_is)
   ·refine' Rs.rM ?a ?l ?c
    (case a=>k_is);(case l=>k_is);(case c=>k_is)
   ·refine' Rs.rD ?a ?l ?c ?t
    (case a=>k_is);(case l=>k_is);(case c=>k_is);(case t=>k_is)
   ·refine' Rs.rM ?a ?l ?c
    (case a=>k_is);(case l=>k_is);(case c=>k_is)
  ·refine' Rs.cX (cn := "Weaver") KX ?xa1 ?zz1
   (case xa1=>k_is)
   &⟨?_,?_,?_,?_,?_,?_,?_,?_,?_,?_,?_,?_,?_,?_,?_,?_,?_⟩
   ·refine' Rs.cF ?fa1 ?fb1 ?fc1 ?fd1 ?fe1
    (case fa1=>k_is);(case fb1=>k_is);(case fc1=>k_is);(case fd1=>k_is)
    dsimp only[Rs.dF]
    repeat' (first | &b7.mpr ⟨?_,?_⟩ | ~c7 _ | k_is)
   ·refine' Rs.rI KX G ?ix1 ?ia1 ?il1 ?ic1 ?im1 ?ik1
    (case ix1=>k_is);(case ia1=>k_is);(case il1=>k_is);(case ic1=>k_is);(case im1=>k_is);(case ik1=>k_is)
   ·refine' Rs.rM ?a ?l ?c
    (case a=>k_is);(case l=>k_is);(case c=>k_is)
   ·refine' Rs.rM ?a ?l ?c
    (case a=>k_is);(case l=>k_is);(case c=>k_is)
   ·refine' Rs.rM ?a ?l ?c
    (case a=>k_is);(case l=>k_is);(case c=>k_is)
   ·refine' Rs.rM ?a ?l ?c
    (case a=>k_is);(case l=>k_is);(case c=>k_is)
   ·refine' Rs.rM ?a ?l ?c
    (case a=>k_is);(case l=>k_is);(case c=>k_is)
   ·refine' Rs.rM ?a ?l ?c
    (case a=>k_is);(case l=>k_is);(case c=>k_is)
   ·refine' Rs.rM ?a ?l ?c
    (case a=>k_is);(case l=>k_is);(case c=>k_is)
   ·refine' Rs.rM ?a ?l ?c
    (case a=>k_is);(case l=>k_is);(case c=>k_is)
   ·refine' Rs.rD ?a ?l ?c ?t
    (case a=>k_is);(case l=>k_is);(case c=>k_is);(case t=>k_is)
   ·refine' Rs.rM ?a ?l ?c
    (case a=>k_is);(case l=>k_is);(case c=>k_is)
   ·refine' Rs.rD ?a ?l ?c ?t
    (case a=>k_is);(case l=>k_is);(case c=>k_is);(case t=>k_is)
   ·refine' Rs.rM ?a ?l ?c
    (case a=>k_is);(case l=>k_is);(case c=>k_is)
   ·refine' Rs.rM ?a ?l ?c
    (case a=>k_is);(case l=>k_is);(case c=>k_is)
   ·refine' Rs.rD ?a ?l ?c ?t
    (case a=>k_is);(case l=>k_is);(case c=>k_is);(case t=>k_is)
   ·refine' Rs.rM ?a ?l ?c
    (case a=>k_is);(case l=>k_is);(case c=>k_is)
  iterate 21
   ·refine' Rs.aJS KX G ?a ?l ?c
    (case a=>k_is);(case l=>k_is);(case c=>k_is)
  iterate 13
   ·k_is
  ·refine' L2.nJ KX G ?a
   (case a=>k_is)
  ·refine' L2.nJ KX G ?a
   (case a=>k_is)
  ·refine' L2.nJ KX G ?a
   (case a=>k_is)
  ·refine' L2.nJ KX G ?a
   (case a=>k_is)
  ·refine' L2.nJ KX G ?a
   (case a=>k_is)
  ·refine' L2.nJ KX G ?a
   (case a=>k_is)
  ·refine' L2.nJ KX G ?a
   (case a=>k_is)
  ·refine' L2.nJ KX G ?a
   (case a=>k_is)
  ·refine' L2.nJ KX G ?a
   (case a=>k_is)
  ·refine' L2.nJ KX G ?a
   (case a=>k_is)
#print axioms PySem.Challenge.cw_ripestone_k30_order_and_free_holds
