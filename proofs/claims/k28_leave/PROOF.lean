import PyProof.Rows.All
import Wide.All
import OpenK.AllK
import Wide.FinOn
import Lean
import PyProof.EqAt
import PyProof.EqKinds
import PyProof.TupleCall
import PySem.Challenge.RW_ripestone_k28_leave
macro"~"t:term:tactic=>`(tactic|exact $t)
macro"&"t:term:tactic=>`(tactic|refine $t)
macro"A6":term=>`(by omega)
macro"A7":term=>`(by decide +kernel)
macro"A8":term=>`(by decide)
macro"A9":term=>`(by exact Nat.le_of_ble_eq_true rfl)
macro"B4"i:(ppSpace colGt ident)+ l:(Lean.Parser.Tactic.location)?:tactic=>`(tactic|unfold $i* $[$l]?)
macro"B3"p:Lean.Parser.Tactic.rcasesPatMed":="t:term:tactic=>`(tactic|obtain $p := $t)
macro"B3"p:Lean.Parser.Tactic.rcasesPatMed":"y:term":="t:term:tactic=>`(tactic|obtain $p : $y := $t)
open Lean.Parser.Command in
macro"B5"n:declId s:declSig v:declVal:command=>`(command|theorem $n $s $v)
open Array renaming length_toList→J9,getElem?_toList→L7,getElem?_eq_getElem→M8,getD→O3,getElem_toList→U4,toList_push→i4,toList→o8
open Bool renaming false_ne_true→E8,and_eq_true→G7,eq_iff_iff→L5,false_eq_true→V8,or_eq_true→k7,and_false→l6,or_false→m9
open Int renaming toNat_natCast→D7,emod_lt_of_pos→E9,emod_nonneg→F1,le_of_lt→O9,natCast_nonneg→P5,le_refl→S5,pow_pos→S8,natCast_emod→T4,natCast_ediv→T5,natCast_mul→V1,toNat_of_nonneg→V4,zero_add→f9,ofNat_lt→g7,mul_nonneg→m8
open Int.ofNat renaming inj→o7
open List renaming length_map→B6,getElem?_eq_getElem→B7,getD_eq_getElem?_getD→B8,getElem?_map→B9,size_toArray→C6,length_append→C7,mem_cons_of_mem→C8,getElem?_eq_some_iff→D2,map_cons→D3,range→D4,mem_cons→D5,mem_cons_self→D6,length_range→D8,getElem?_eq_none→E2,mem_singleton→E3,replicate→E4,mem_of_getElem?→E6,length_cons→F0,mem_append→F2,append_nil→F3,eq_nil_of_length_eq_zero→F6,getElem?_set→F7,mem_range→F9,getElem?_range→G3,getElem?_append_left→G4,map_nil→G6,pairwise_cons→I0,mem_append_right→J1,mem_map→J2,map_append→J3,length_take→J4,getElem?_set_self→J5,zipWith_cons_cons→J6,getElem_of_mem→K0,ext_getElem?→K1,pairwise_iff_getElem→K5,map_map→K7,nodup_cons→K8,length_set→K9,getElem?_append_right→L3,all_eq_true→L8,eraseIdx_cons_succ→M3,filter_eq_self→M6,mem_filter→N1,mem_append_left→N2,pairwise_append→N3,nodup_append→N4,getElem_mem→N6,cons_append→N7,find?_cons→O0,take_sublist→O1,drop_eq_getElem_cons→O2,mem_of_mem_take→O4,take_length→O8,getElem?_replicate→P0,zip_cons_cons→P2,nil_append→P4,append_assoc→P6,take_add_one→P7,length_replicate→P8,zipWith→P9,zipWith_nil_left→Q1,take_append_drop→Q3,length_drop→Q5,any_eq_true→Q6,lookup→Q7,filterMap_cons→Q8,map_congr_left→Q9,filter_sublist→R0,pairwise_lt_range→S6,take_of_length_le→S7,any_cons→S9,lookup_cons→T1,drop_length→T3,eraseIdx_sublist→T8,eraseIdxIfInBounds_toArray→T9,getElem?_set_ne→U0,length_zip→U3,map_set→U7,mem_of_mem_drop→U8,getD_cons_succ→V3,length_pos_iff→V5,getElem?_drop→V9,idxOf_lt_length_of_mem→W3,filter_append→W4,length_eraseIdx_of_lt→W5,getElem_take→X0,getLast?_eq_getElem?→X2,ext_getElem→X5,length_erase_of_mem→X6,set_set→X7,length_filterMap_le→Y2,filter_cons_of_pos→Y5,filter_cons_of_neg→Y6,of_mem_zip→Y8,idxOf_cons→Y9,filter_nil→Z0,filter_eq_nil_iff→Z8,nodup_nil→a8,filterMap_append→b9,forall_mem_cons→c6,take_succ_cons→c8,replicate_succ→c9,forall_mem_nil→d6,mem_filterMap→d8,getElem_idxOf→f7,getElem?_take→g6,foldl_append→h9,drop_sublist→i3,pairwise_map→i5,filter_congr→i6,length→i8,map_id→i9,map_fst_zip→j5,filter_cons→j7,nodup_range→j8,length_nil→j9,range_succ→l0,drop_zero→m7,all_cons→n8,map_take→o0,map_drop→o6
open List.Pairwise renaming map→i7
open List.Perm renaming refl→R6,append_left→a9,swap→l8
open Nat renaming le_refl→C5,lt_of_lt_of_le→E1,ne_of_lt→E7,le_trans→G0,lt_or_ge→K4,lt_irrefl→K6,not_lt_zero→L6,zero_le→M0,lt_succ_of_lt→M4,lt_succ_self→M7,le_succ→M9,zero_add→N9,le_of_lt→O5,ne_of_gt→O6,lt_of_le_of_lt→P1,mul_le_mul→R7,succ_le_succ→T0,le_of_ble_eq_true→T7,mod_lt→U5,sub_zero→U6,div_lt_of_lt_mul→U9,sub_self→V0,eq_zero_or_pos→W0,mul_pos→Z9,le_of_eq→d9,min_self→f6,div_add_mod→l3,mod_add_div→l4
open Nat.succ renaming inj→o9
open Option renaming bind_some→C4,map_some→G1,getD_some→T2,isSome_map→W9,isSome_iff_exists→X4,map_eq_none_iff→Z7,isSome_some→e9,getD_none→j4,map_map→l9,none→p4
open Option.some renaming inj→F5
open Or renaming inr→C9,inl→D1
open Prod renaming ext→j6
open PyProof.Rows renaming boot_list→G5,callWith_type1→L0,boot_tuple→N5,boot_all→Q2,boot_sorted→R5,callWith_builtin1→U2,boot_set→b8
open PyProof.Rows.F renaming plain_set_update_loop→N8,entry_set_update_loop→R4
open PySem renaming boot_len→D9,mem_of_lookup→M5,Within→d7,call→k8
open PySem.F renaming plainAttrs_list→E5,slot_list_append→G8,type_list_append→G9,called_set→L9,args_tuple_add_2→R1,entry_tuple_add→R8,slot_tuple_add→S0,slot_dict_get→T6,plain_extend_loop→X1,slot_list_remove→X8,type_list_remove→X9,slot_list_insert→Y0,type_list_insert→Y1,args_dict_get_2→Y3,plain_list_iadd→Y4,entry_dict_get→Z6,plain_set_new→b4,slot_set_iter→b5,slot_list_pop→b6,type_list_pop→b7
open PySem.W renaming fnOf→F8,findIn→G2,mg_none_of→J0,kitOne→J7,kia_one→J8,keepIn→K2,codeIn→K3,emptyDict→L4,instObj→N0,isFn→O7,plainGet→Q4,nsIn→R3,hasDictIn→R9,makesIn→U1,plainGet_of→V2,lookIn→V6,callWith_K→V7,methodObj→W6,plainOver→W7,kitx_list→W8,takerIn→Y7,cellsFrom_some→Z5,methodCall_KW→a7,mg_of→c7,kitx_tuple→e8,specialIn→g8,kitx_dict→g9,handedIn→j0,OpenLaw→k9,typeIn→l5,kitCls→l7,WalkO→n9
open Sum renaming inl→F4,inr→X3
abbrev aJ:=PySem.W.Frag
B5 bA{α:Type u_1}{b:α}{β:Type u_2}{x:Option β}{f:β→Option α}(h:x.bind f=some b):∃a,x=some a∧f a=some b:=Option.bind_eq_some_iff.mp h
B5 lY{α:Type u_1}{b:α}{β:Type u_2}{x:Option β}{f:β→α}(h:x.map f=some b):∃a,x=some a∧f a=b:=Option.map_eq_some_iff.mp h

set_option Elab.async false
set_option linter.all false
set_option maxRecDepth 100000
namespace L2
open PySem PySem.Spec PyProof.Rows
abbrev Key:=Sum Int Str
def Xr:Key→Value→Bool
 | .inl k,v=>Value.isInt k v
 | .inr x,v=>Value.isStrOf x v
def aKp(w:World):Key→Int
 | .inl k=>hashInt k
 | .inr x=>hashStr w x
B5 iZ:∀{k:Key} {v:Value},Xr k v=true→(∃i t,k=F4 i∧v=Value.int i t)∨(∃x t,k=X3 x∧v=Value.str x t)
 | .inl i,v,h=>by
  B3⟨t,e⟩:=Value.isInt_shape (k:=i) (v:=v) h
  ~.inl ⟨i,t,rfl,e⟩
 | .inr x,v,h=>by
  B3⟨t,e⟩:=Value.isStrOf_shape (x:=x) (v:=v) h
  ~.inr ⟨x,t,rfl,e⟩
B5 zp(i:Int)(t:Tok):Xr (.inl i) (.int i t)=true:=by simp[Xr,Value.isInt]
B5 zq(x:Str)(t:Tok):Xr (.inr x) (.str x t)=true:=by simp[Xr,Value.isStrOf]
B5 aGL(a b:Int):decide ((F4 a:Key)=F4 b)=(a==b):=by
 by_cases e:a=b
 ·subst e;simp
 ·have h:¬(F4 a:Key)=F4 b:=fun q=>e (Sum.inl.inj q)
  rw[decide_eq_false h]
  ~(beq_eq_false_iff_ne.mpr e).symm
B5 aGM(a b:Str):decide ((X3 a:Key)=X3 b)=decide (a=b):=by
 by_cases e:a=b
 ·subst e;simp
 ·have h:¬(X3 a:Key)=X3 b:=fun q=>e (Sum.inr.inj q)
  rw[decide_eq_false h,decide_eq_false e]
B5 aGN(a:Int)(b:Str):decide ((F4 a:Key)=X3 b)=false:=decide_eq_false (fun q=>nomatch q)
B5 aGO(a:Str)(b:Int):decide ((X3 a:Key)=F4 b)=false:=decide_eq_false (fun q=>nomatch q)
def iI(prog:Program)(w:World):PySem.KeyKind prog w Key where
  is:=Xr
  hash:=aKp w
  inj:=fun v a b ha hb=>by
    rcases iZ ha with ⟨i,t,rfl,rfl⟩ | ⟨x,t,rfl,rfl⟩
    · rcases iZ hb with ⟨j,u,rfl,e⟩ | ⟨y,u,rfl,e⟩
      · injection e with e1 _;rw[e1]
      · ~nomatch e
    · rcases iZ hb with ⟨j,u,rfl,e⟩ | ⟨y,u,rfl,e⟩
      · ~nomatch e
      · injection e with e1 _;rw[e1]
  byValue:=fun k v h=>by
    rcases iZ h with ⟨i,t,rfl,rfl⟩ | ⟨x,t,rfl,rfl⟩<;>rfl
  pyHash:=fun hv h=>by
    rcases iZ hv with ⟨i,t,rfl,rfl⟩ | ⟨x,t,rfl,rfl⟩
    · ~wpAny_pyHash_int h
    · ~wpAny_pyHash_str h
  eqBool:=fun hu hv h=>by
    rcases iZ hu with ⟨i,t,rfl,rfl⟩ | ⟨x,t,rfl,rfl⟩
    · rcases iZ hv with ⟨j,u,rfl,rfl⟩ | ⟨y,u,rfl,rfl⟩
      · rw[aGL]at h;~wpAny_eqBool_int h
      · rw[aGN]at h;~SeqAt.EqAt.int_str i t y u _ _ _ _ h
    · rcases iZ hv with ⟨j,u,rfl,rfl⟩ | ⟨y,u,rfl,rfl⟩
      · rw[aGO]at h;~SeqAt.EqAt.str_int x t j u _ _ _ _ h
      · rw[aGM]at h;~wpAny_eqBool_str h
  «strs»:=fun k x t v h=>by
    rcases iZ h with ⟨i,u,rfl,e⟩ | ⟨y,u,rfl,e⟩
    · ~nomatch e
    · injection e with e1 _
      subst e1
      cases v<;>rfl
B5 PB(prog:Program)(w:World)(i:Int)(t:Tok):(iI prog w).is (.inl i) (.int i t)=true:=zp i t
B5 PJ(prog:Program)(w:World)(x:Str)(t:Tok):(iI prog w).is (.inr x) (.str x t)=true:=zq x t
end L2
namespace L2
open PySem PySem.Spec PyProof.Rows
inductive V where
  | non | bl (b:Bool) | int (i:Int) | str (x:Str) | byt (b:Array UInt8) | flt (b:UInt64) | ref (a:Addr) | ty (n:String)
  deriving DecidableEq
def RelV:V→Value→Prop
 | .non,u=>u=Value.none
 | .bl b,u=>u=Value.bool b
 | .int i,u=>∃t,u=Value.int i t
 | .str x,u=>∃t,u=Value.str x t
 | .byt b,u=>∃t,u=Value.bytes b t
 | .flt b,u=>∃t,u=Value.float b t
 | .ref a,u=>u=Value.ref a
 | .ty n,u=>u=Value.type n
abbrev Vals:List V→List Value→Prop:=Paired RelV
B5 Vals.length{xs:List V}{us:List Value}(r:Vals xs us):xs.length=us.length:=Paired.length r
B5 Vals.get:∀{xs:List V} {us:List Value} {i:Nat} {x:V},Vals xs us→xs[i]?=some x→∃u,us[i]?=some u∧RelV x u
 | _,_,_,_,.nil,e=>by simp at e
 | _,_,0,_,.cons r _,e=>by simp at e;subst e;~⟨_,rfl,r⟩
 | _,_,i+1,x,.cons _ t,e=>by
  B3⟨u,h1,h2⟩:=Vals.get (i:=i) (x:=x) t (by simpa using e)
  ~⟨u,by simpa using h1,h2⟩
B5 Vals.set{x:V}{u:Value}(r:RelV x u):∀{xs:List V} {us:List Value} (i:Nat),Vals xs us→Vals (xs.set i x) (us.set i u)
 | _,_,_,.nil=>.nil
 | _,_,0,.cons _ t=>.cons r t
 | _,_,i+1,.cons q t=>.cons q (Vals.set r i t)
B5 Vals.append:∀{xs ys:List V} {us ws:List Value},Vals xs us→Vals ys ws→Vals (xs++ys) (us++ws)
 | _,_,_,_,.nil,s=>s
 | _,_,_,_,.cons r t,s=>.cons r (Vals.append t s)
B5 Vals.take:∀{xs:List V} {us:List Value} (n:Nat),Vals xs us→Vals (xs.take n) (us.take n)
 | _,_,0,_=>.nil
 | _,_,_+1,.nil=>.nil
 | _,_,n+1,.cons r t=>.cons r (Vals.take n t)
B5 Vals.drop:∀{xs:List V} {us:List Value} (n:Nat),Vals xs us→Vals (xs.drop n) (us.drop n)
 | _,_,0,r=>r
 | _,_,_+1,.nil=>.nil
 | _,_,n+1,.cons _ t=>Vals.drop n t
def Bd:Option V→Option Value→Prop
 | some v,some u=>RelV v u
 | none,none=>True
 | _,_=>False
def KV{κ:Type}:List (κ×V)→List (κ×Value)→Prop:=Paired fun(p:κ×V) (q:κ×Value)=>p.1=q.1∧RelV p.2 q.2
def kV:Key→V
 | .inl i=>.int i
 | .inr x=>.str x
inductive HO where
  | lst (xs:List V)
  | tup (xs:List V)
  | dK (kvs:List (Key×V)) | dT (kvs:List (List Key×V))
  | set (S:Int→Bool) (n:Nat)
  | ins (C dx:Addr) (fs:List (Str×V))
  | own (x:Addr)
  | xd (fs:List (Str×V))
  | met (f x:Addr)
  | rng (lo hi:Int)
  | Jg (o:Obj) (u:HO)
  | tbl (ps:Array Value)
  | ext (φ:Heap→Prop)
abbrev Hp:=Addr→Option HO
def upd(H:Hp)(a:Addr)(o:HO):Hp:=fun b=>if b=a then some o else H b
B5 cM{H:Hp}{a:Addr}{o:HO}:upd H a o a=some o:=by B4 upd;rw[if_pos rfl]
B5 bN{H:Hp}{a b:Addr}{o:HO}(h:b≠a):upd H a o b=H b:=by B4 upd;rw[if_neg h]
B5 aIN{H:Hp}{a b:Addr}{o u:HO}(h:H a=some o)(h':H b=some u)(d:o≠u):a≠b:=by
 intro e;subst e;rw[h]at h';~d (F5 h')
B5 gK{H:Hp}{a b:Addr}{o:HO}(h:H a=some o)(h':H b=none):a≠b:=by
 intro e;subst e;rw[h]at h';cases h'
section
variable(P:Program)(w:World)
def jZ(H:Hp)(h:Heap)(a:Addr):HO→Prop
 | .lst xs=>xs.length≤sizeLine∧∃(its:List Value)(n:Nat),Vals xs its∧h.get? a=some {cls:=.type "list", data:=.seq its.toArray n}
 | .tup xs=>xs.length≤sizeLine∧∃its:List Value,Vals xs its∧IsTup h a its.toArray
 | .dK kvs=>kvs.length≤sizeLine∧(a==sysModules)=false∧∃vs,KV kvs vs∧h.DictOf (iI P w) a vs
 | .dT kvs=>kvs.length≤sizeLine∧(a==sysModules)=false∧∃xs:List (List Key×Addr×Value),
   Paired (fun(p:List Key×V) (q:List Key×Addr×Value)=>p.1=q.1∧H q.2.1=some (.tup (p.1.map kV))∧RelV p.2 q.2.2) kvs xs ∧
   ∃o es ep,h.get? a=some o∧o.ExactDict∧o.data=.dict es ep∧es.toList=xs.map (entryOfKey (tupleKind (iI P w)))∧(xs.map (·.1)).Nodup
 | .set S n=>h.SetOf (intKind P w) a S n
 | .ins C dx fs=>H dx=some (.own a)∧fs.length≤1000∧dx≠a∧h.get? a=some (N0 C dx) ∧
   ∃mA,h.Ns1 dx mA∧(∀f,Bd (fs.lookup f) (mA f))∧d7 mA (fs.map (·.1))
 | .own _=>∃o,h.get? a=some o
 | .xd fs=>∃mA,h.Ns1 a mA∧∀f,Bd (fs.lookup f) (mA f)
 | .rng lo hi=>∃t u v,h.get? a=some {cls:=.type "range", data:=.fields #[.int lo t,.int hi u,.int 1 v]}
 | .Jg o u=>h.get? a=some o∧jZ H h a u
 | .tbl ps=>h.get? a=some {cls:=.none,data:=.fields ps}
 | .met f x=>h.get? a=some (W6 (.ref f) (.ref x))
 | .ext φ=>φ h∧(∃o,h.get? a=some o)∧∀h1 h2:Heap,φ h1→(∀o,h1.get? a=some o→h2.get? a=some o)→φ h2
def Gs(H:Hp)(h:Heap):Prop:=∀a o,H a=some o→jZ P w H h a o
end
section
variable{P:Program}{w:World}{H H':Hp}{h h':Heap}{a:Addr}{o:HO}
B5 jZ.lt(x:jZ P w H h a o):a<h.objs.size:=by
 cases o with
 | lst xs=>B3⟨_,_,_,_,e⟩:=x;~Heap.lt_size e
 | tup xs=>B3⟨_,_,_,p⟩:=x;~p.lt
 | dK kvs=>B3⟨_,_,_,_,o,_,_,e,_⟩:=x;~Heap.lt_size e
 | dT kvs=>B3⟨_,_,_,_,o,_,_,e,_⟩:=x;~Heap.lt_size e
 | set S n=>B3⟨o,_,_,_,e,_⟩:=x;~Heap.lt_size e
 | ins C dx fs=>B3⟨_,_,_,e,_⟩:=x;~Heap.lt_size e
 | own y=>B3⟨_,e⟩:=x;~Heap.lt_size e
 | xd fs=>B3⟨_,⟨_,_,_,e,_⟩,_⟩:=x;~Heap.lt_size e
 | rng lo hi=>B3⟨_,_,_,e⟩:=x;~Heap.lt_size e
 | Jg ob u=>B3⟨e,_⟩:=x;~Heap.lt_size e
 | tbl ps=>~Heap.lt_size (show h.get? a=some _ from x)
 | met f y=>~Heap.lt_size (show h.get? a=some _ from x)
 | ext φ=>B3⟨_,⟨_,e⟩,_⟩:=x;~Heap.lt_size e
B5 Paired.aGP{α β:Type}{F G:α→β→Prop}:∀{l₁:List α} {l₂:List β},Paired F l₁ l₂→(∀a b,F a b→G a b)→Paired G l₁ l₂
 | _,_,.nil,_=>.nil
 | _,_,.cons r t,f=>.cons (f _ _ r) (Paired.aGP t f)
B5 jZ.stay(x:jZ P w H h a o)(k:∀b u,(b=a∨H b=some (.own a))→h.get? b=some u→h'.get? b=some u)
  (ho:∀b,H b=some (.own a)→H' b=some (.own a)) (ht:∀b xs,H b=some (.tup xs)→H' b=some (.tup xs)):jZ P w H' h' a o:=by
 induction o with
 | lst xs=>B3⟨z,its,n,r,e⟩:=x;~⟨z,its,n,r,k _ _ (.inl rfl) e⟩
 | tup xs=>B3⟨z,its,r,ob,e,c⟩:=x;~⟨z,its,r,ob,k _ _ (.inl rfl) e,c⟩
 | dK kvs=>B3⟨z,y,vs,r,ob,es,ep,e,c⟩:=x;~⟨z,y,vs,r,ob,es,ep,k _ _ (.inl rfl) e,c⟩
 | dT kvs=>
  B3⟨z,y,xs,r,ob,es,ep,e,c⟩:=x
  ~⟨z,y,xs,Paired.aGP r fun p q z=>⟨z.1,ht _ _ z.2.1,z.2.2⟩,ob,es,ep,k _ _ (.inl rfl) e,c⟩
 | set S n=>B3⟨ob,es,ep,t,e,c⟩:=x;~⟨ob,es,ep,t,k _ _ (.inl rfl) e,c⟩
 | ins C dx fs=>
  B3⟨d,z,ne,e,mA,⟨od,es,ep,e2,c⟩,r⟩:=x
  ~⟨ho _ d,z,ne,k _ _ (.inl rfl) e,mA,⟨od,es,ep,k _ _ (.inr d) e2,c⟩,r⟩
 | own y=>B3⟨ob,e⟩:=x;~⟨ob,k _ _ (.inl rfl) e⟩
 | xd fs=>B3⟨mA,⟨od,es,ep,e,c⟩,r⟩:=x;~⟨mA,⟨od,es,ep,k _ _ (.inl rfl) e,c⟩,r⟩
 | rng lo hi=>B3⟨t,u,v,e⟩:=x;~⟨t,u,v,k _ _ (.inl rfl) e⟩
 | Jg ob u ih=>B3⟨e,q⟩:=x;~⟨k _ _ (.inl rfl) e,ih q⟩
 | tbl ps=>
  have e:h.get? a=some {cls:=.none,data:=.fields ps}:=x
  show h'.get? a=some {cls:=.none,data:=.fields ps}
  ~k a _ (.inl rfl) e
 | met f y=>
  have e:h.get? a=some (W6 (.ref f) (.ref y)):=x
  show h'.get? a=some (W6 (.ref f) (.ref y))
  ~k a _ (.inl rfl) e
 | ext φ=>B3⟨p,⟨o,e⟩,st⟩:=x;~⟨st _ _ p fun o q=>k _ _ (.inl rfl) q,⟨o,k _ _ (.inl rfl) e⟩,st⟩
B5 Gs.lt(x:Gs P w H h)(e:H a=some o):a<h.objs.size:=(x a o e).lt
B5 Gs.fresh(x:Gs P w H h)(e:h.objs.size≤a):H a=none:=by
 cases q:H a with
 | none=>rfl
 | some u=>~absurd (E1 (x.lt q) e) (K6 _)
B5 Gs.kept(x:Gs P w H h)(k:∀b u,h.get? b=some u→h'.get? b=some u):Gs P w H h':=fun a o e=>
 (x a o e).stay (fun b u _ q=>k b u q) (fun _ q=>q) fun _ _ q=>q
B5 Gs.laid(x:Gs P w H h)(k:∀b u,h.get? b=some u→h'.get? b=some u)(hp:h.objs.size≤a)(new:jZ P w (upd H a o) h' a o):Gs P w (upd H a o) h':=fun b u e=>by
 have hn:=x.fresh hp
 by_cases hb:b=a
 ·subst hb;rw[cM]at e;cases e;~new
 ·rw[bN hb]at e
  ~(x b u e).stay (fun c v _ q=>k c v q) (fun c q=>by rw[bN (gK q hn)];~q) fun c xs q=>by rw[bN (gK q hn)];~q
end
def Rd(H:Hp)(a:Addr)(u:HO):Prop:=H a=some u∨∃o,H a=some (.Jg o u)
B5 Rd.ok{P:Program}{w:World}{H:Hp}{h:Heap}{a:Addr}{u:HO}(r:Rd H a u)(x:Gs P w H h):jZ P w H h a u:=by
 rcases r with r | ⟨o,r⟩
 ·~x a u r
 ·B3⟨_,q⟩:=x a _ r
  ~q
def Mut:Option HO→Prop
 | some (.lst _)=>True
 | some (.dK _)=>True
 | some (.dT _)=>True
 | some (.set _ _)=>True
 | some (.ins _ _ _)=>True
 | some (.ext _)=>True
 | _=>False
section
variable{P:Program}{w:World}{H:Hp}{h h':Heap}{x e:Addr}{o':HO}
B5 Gs.write(ok:Gs P w H h)(mu:Mut (H x))(he:e=x∨H e=some (.own x))(k:∀b u,b≠e→h.get? b=some u→h'.get? b=some u)(heo:∃u,h'.get? e=some u)
  (new:jZ P w (upd H x o') h' x o'):Gs P w (upd H x o') h':=fun b u q=>by
 have aIP:∀c y,H c=some (.own y)→c≠x:=fun c y r z=>by subst z;rw[r]at mu;~mu
 have aKq:∀c xs,H c=some (.tup xs)→c≠x:=fun c xs r z=>by subst z;rw[r]at mu;~mu
 by_cases hb:b=x
 ·subst hb;rw[cM]at q;cases q;~new
 ·rw[bN hb]at q
  by_cases hbe:b=e
  ·have q':H b=some (.own x):=by
    rcases he with z | z
    ·~absurd (hbe.trans z) hb
    ·rw[hbe];~z
   rw[q]at q';cases q'
   B3⟨v,hv⟩:=heo
   ~⟨v,by rw[hbe];~hv⟩
  ·&(ok b u q).stay (fun c v hc r=>k c v ?_ r) (fun c r=>by rw[bN (aIP c b r)];~r) fun c xs r=>by rw[bN (aKq c xs r)];~r
   rcases hc with rfl | hc
   ·~hbe
   ·rintro rfl
    rcases he with z | z
    ·~aIP c b hc z
    ·rw[hc]at z;cases z;~hb rfl
end
structure Un(fs ex:List Addr)(H H':Hp)(h h':Heap):Prop where
 keep:∀b o,h.get? b=some o→H b=none→b∉fs→b∉ex→h'.get? b=some o
 slot:∀b o,h.get? b=some o→H b=none→b∈fs→b∉ex→∃sl,h'.get? b=some {o with slots:=sl}
 free:∀b o,h.get? b=some o→H b=none→b∉ex→H' b=none
 there:∀b o,h.get? b=some o→b∉ex→∃o',h'.get? b=some o'
 tups:∀b xs,H b=some (.tup xs)→H' b=some (.tup xs)
 CT:∀b o u,H b=some (.Jg o u)→H' b=some (.Jg o u)
 PK:∀b ps,H b=some (.tbl ps)→∃more,H' b=some (.tbl (ps++more))
section
variable{fs fs' ex ex':List Addr}{H H1 H2:Hp}{h h1 h2 h':Heap}{a x e:Addr}{o:HO}
B5 Un.any(u:Un fs ex H H1 h h1){b:Addr}{ob:Obj}(q:h.get? b=some ob)(n:H b=none)(hx:b∉ex):∃sl,h1.get? b=some {ob with slots:=sl}:=by
 by_cases hb:b∈fs
 ·~u.slot b ob q n hb hx
 ·~⟨ob.slots,u.keep b ob q n hb hx⟩
B5 Un.kept(k:∀b u,h.get? b=some u→h'.get? b=some u):Un fs ex H H h h':=
 ⟨fun b ob q _ _ _=>k b ob q,fun b ob q _ _ _=>⟨ob.slots,k b ob q⟩,fun _ _ _ n _=>n,fun b ob q _=>⟨ob,k b ob q⟩,fun _ _ q=>q,fun _ _ _ q=>q,fun _ ps q=>⟨#[],by rw[q];simp⟩⟩
B5 Un.refl:Un fs ex H H h h:=Un.kept fun _ _ q=>q
B5 Un.laid(k:∀b u,h.get? b=some u→h'.get? b=some u)(hp:h.objs.size≤a)(hn:H a=none):Un fs ex H (upd H a o) h h' where
 keep:=fun b u q _ _ _=>k b u q
 slot:=fun b u q _ _ _=>⟨u.slots,k b u q⟩
 free:=fun b u q n _=>by rw[bN (E7 (E1 (Heap.lt_size q) hp))];~n
 there:=fun b u q _=>⟨u,k b u q⟩
 tups:=fun b xs q=>by rw[bN (gK q hn)];~q
 CT:=fun b u xs q=>by rw[bN (gK q hn)];~q
 PK:=fun b ps q=>⟨#[],by rw[bN (gK q hn),q];simp⟩
B5 Un.write(mu:Mut (H x))(he:e=x∨H e=some (.own x))(k:∀b u,b≠e→h.get? b=some u→h'.get? b=some u)(heo:∃u,h'.get? e=some u):Un fs ex H (upd H x o) h h':=by
 have hx:∀b,H b=none→b≠x:=fun b n z=>by subst z;rw[n]at mu;~mu
 have hb:∀b,H b=none→b≠e:=fun b n z=>by
  subst z
  rcases he with r | r
  ·~hx b n r
  ·rw[n]at r;cases r
 have hm:∀b u,H b=some u→¬Mut (some u)→b≠x:=fun b u q nm z=>by subst z;rw[q]at mu;~nm mu
 &⟨fun b u q n _ _=>k b u (hb b n) q,fun b u q n _ _=>⟨u.slots,k b u (hb b n) q⟩,fun b u q n _=>by rw[bN (hx b n)];~n,fun b u q _=>?_,
  fun b xs q=>by rw[bN (hm b _ q fun z=>z)];~q,fun b u xs q=>by rw[bN (hm b _ q fun z=>z)];~q,fun b ps q=>⟨#[],by rw[bN (hm b _ q fun z=>z),q];simp⟩⟩
 by_cases hbe:b=e
 ·subst hbe;~heo
 ·~⟨u,k b u hbe q⟩
end
def trk(h:Heap)(H:Hp):List Addr:=(D4 h.objs.size).filter fun a=>(H a).isSome
def CV(h:Heap)(H:Hp):Heap:=PySem.W.hideAll h (trk h H)
B5 zu(h:Heap)(H:Hp):(CV h H).objs.size=h.objs.size:=PySem.W.hideAll_size _ _
B5 aBl{h:Heap}{H:Hp}{b:Addr}{o:Obj}(e:h.get? b=some o)(n:H b=none):(CV h H).get? b=some o:=
 PySem.W.hideAll_get _ e fun hm=>by
  have q:(H b).isSome=true:=(N1.mp hm).2
  rw[n]at q;simp at q
B5 aD7{h:Heap}{H:Hp}{b:Addr}{o:Obj}(e:(CV h H).get? b=some o):h.get? b=some o∧H b=none:=by
 have e':h.get? b=some o:=PySem.W.of_hideAll (trk h H) e
 &⟨e',?_⟩
 cases q:H b with
 | none=>rfl
 | some x=>
  have hm:b∈trk h H:=N1.mpr ⟨F9.mpr (Heap.lt_size e'),by simp[q]⟩
  have z:(CV h H).get? b=none:=PySem.W.hideAll_none (trk h H) hm
  rw[z]at e;cases e
def aD8(g h:Heap)(L:Addr):List (Addr×Obj):=(D4 h.objs.size).filterMap fun a=>if a=L∨(g.get? a).isSome=true then none else(h.get? a).map fun o=>(a,o)
def rest(g h:Heap)(L d:Addr):List (Addr×Obj):=(aD8 g h L).filter fun p=>decide (p.1≠d)
end L2
namespace L2
open PySem PySem.Spec PyProof.Rows
structure Mod(K:aJ)(mg:Str→Option Value)(base:Heap):Prop where
 kin:K.In base
 glob:base.Ns mainGlobals mg
 blt:∃mb,base.Ns builtinsNs mb∧∀x:Str,x ≠ "__name__" → mb x=bootBuiltins x
 nolimit:base.NoLimit
structure Cx where
 prog:Program
 w:World
 K:aJ
 mg:Str→Option Value
 base:Heap
 A:Around
 N:List Str
 s₀:Shared
 H₀:Hp
 env:Env
 outer:List Env
 stack:List Env
 ex:List Addr
 fn:Str→Bool
 calm:Bool
 pn:List (Addr×Obj)
 xe:Value→Shared→Prop
def frs(l:List Env):List Addr:=l.filterMap (·.frame)
abbrev Cx.fs(X:Cx):List Addr:=frs X.outer
def Vis(sc:Scope)(x:Str):Prop:=sc.names.lookup x=some .local∨sc.names.lookup x=some .cell∨sc.names.lookup x=some .free
def Loc(sc:Scope)(x:Str):Prop:=sc.names.lookup x=some .local∨sc.names.lookup x=some .cell
def Look(env:Env)(h:Heap)(m:Str→Option Value)(x:Str)(u:Value):Prop:=
 (env.kindOf x=some .local∧m x=some u)∨((env.kindOf x=some .cell∨env.kindOf x=some .free)∧∃c,env.cells.lookup x=some c∧h.IsCell c (some u))
structure Cx.Ok(X:Cx):Prop where
 mod:Mod X.K X.mg X.base
 kind:X.env.scope.kind=.function
 glob:X.env.globals=mainGlobals
 blt:X.env.builtins=builtinsNs
 above:X.s₀.heap.objs.size≤X.env.locals
 inj:∀x y c,X.env.cells.lookup x=some c→X.env.cells.lookup y=some c→x=y
 has:∀x,(X.env.kindOf x=some .cell∨X.env.kindOf x=some .free)→∃c,X.env.cells.lookup x=some c
 cab:∀x c,X.fn x=true→X.env.cells.lookup x=some c→X.s₀.heap.objs.size≤c
 hd:X.calm=true→X.A.handled=none
 frames:X.A.frames=some X.stack
 stk:X.stack=X.outer∨(X.stack=X.env::X.outer∧X.env.frame=some X.env.locals)
 exf:∀b∈X.ex,b≠X.env.locals∧∀x c,X.env.cells.lookup x=some c→c≠b
 bs:∀b o,X.base.get? b=some o→X.s₀.heap.get? b=some o∧X.H₀ b=none
 bsz:X.base.objs.size≤X.s₀.heap.objs.size
 aBm:∀b o,X.base.get? b=some o→b∉X.ex
 aEb:∀b∈X.ex,b∉X.fs
 Qe:X.s₀.heap.FunFrames X.base X.outer
 frf:∀b∈X.fs,X.H₀ b=none
structure Inv(X:Cx)(pins:List (Addr×Obj))(σ:List (Option V))(H:Hp)(s:Shared):Prop where
 ok:X.Ok
 os:s.os=X.s₀.os
 bare:AllBare s.gens
 base:Un X.fs X.ex X.H₀ H X.s₀.heap s.heap
 loc:∃m,s.heap.Ns X.env.locals m∧∀(i:Nat)(x:Str)(v:V),X.N[i]?=some x→σ[i]?=some (some v)→Vis X.env.scope x→∃u,RelV v u∧Look X.env s.heap m x u
 cell:∀x c,X.env.cells.lookup x=some c→∃v,s.heap.IsCell c v
 free:H X.env.locals=none
 Av:∀x c,X.env.cells.lookup x=some c→H c=none
 pin:∀p∈X.pn++pins,s.heap.get? p.1=some p.2∧H p.1=none∧p.1≠X.env.locals∧p.1∉X.fs∧∀v,p.2.data≠.cell v
 hok:Gs X.prog X.w H s.heap
 len:σ.length=X.N.length
section
variable{X:Cx}{pins:List (Addr×Obj)}{σ:List (Option V)}{H H':Hp}{s:Shared}{h':Heap}
B5 Cx.Ok.aKr(ok:X.Ok){b:Addr}{o:Obj}(e:X.base.get? b=some o):b∉X.fs:=fun hb=>by
 have:=(ok.Qe.mem hb).1
 rw[e]at this;cases this
B5 Inv.bs(I:Inv X pins σ H s):∀b o,X.base.get? b=some o→s.heap.get? b=some o∧H b=none:=fun b o e=>
 ⟨I.base.keep b o (I.ok.bs b o e).1 (I.ok.bs b o e).2 (I.ok.aKr e) (I.ok.aBm b o e),I.base.free b o (I.ok.bs b o e).1 (I.ok.bs b o e).2 (I.ok.aBm b o e)⟩
B5 Inv.bk(I:Inv X pins σ H s):∀b o,X.base.get? b=some o→s.heap.get? b=some o:=fun b o e=>(I.bs b o e).1
B5 Inv.mod(I:Inv X pins σ H s):Mod X.K X.mg X.base:=I.ok.mod
B5 Inv.Lw(I:Inv X pins σ H s):X.K.In s.heap:=I.ok.mod.kin.keeps I.bk
B5 Inv.lt(I:Inv X pins σ H s):X.env.locals<s.heap.objs.size:=let ⟨_,hn,_⟩:=I.loc;hn.lt
B5 Inv.sz(I:Inv X pins σ H s):X.s₀.heap.objs.size≤s.heap.objs.size:=G0 I.ok.above (O5 I.lt)
B5 Inv.aKs(I:Inv X pins σ H s){a:Addr}(h:s.heap.objs.size≤a):a∉X.fs:=fun hb=>by
 B3⟨_,o,ho,_⟩:=I.ok.Qe.mem hb
 ~absurd (E1 (Heap.lt_size ho) (G0 I.sz h)) (K6 _)
B5 Inv.cne(I:Inv X pins σ H s):∀x c,X.env.cells.lookup x=some c→c≠X.env.locals:=fun x c e z=>by
 B3⟨v,o,ho,hd⟩:=I.cell x c e
 B3⟨m,⟨o',es,ep,ho',hd',_⟩,_⟩:=I.loc
 rw[z,ho']at ho;cases ho;rw[hd']at hd;cases hd
B5 Inv.Qe(I:Inv X pins σ H s):s.heap.FunFrames X.base X.outer:=by
 have all:∀(l:List Env),(∀b∈frs l,b∈X.fs)→X.s₀.heap.FunFrames X.base l→s.heap.FunFrames X.base l:=by
  intro l
  induction l with
  | nil=>intro _ _;trivial
  | cons env r ih=>
   intro hs hl
   B3⟨hk,⟨L,o,hf,hn,ho,hd⟩,hr⟩:=hl
   have hL:L∈X.fs:=hs L (by B4 frs;rw[Q8,hf];~D6)
   B3⟨sl,e⟩:=I.base.slot L o ho (I.ok.frf L hL) hL fun z=>I.ok.aEb L z hL
   ~⟨hk,⟨L,_,hf,hn,e,hd⟩,ih (fun b hb=>hs b (by B4 frs;rw[Q8,hf];~C8 _ hb)) hr⟩
 ~all X.outer (fun _ hb=>hb) I.ok.Qe
B5 Inv.stack(I:Inv X pins σ H s):s.heap.FunFrames X.base X.stack:=by
 rcases I.ok.stk with e | ⟨e,hf⟩
 ·rw[e];~I.Qe
 ·rw[e]
  B3⟨m,hn,_⟩:=I.loc
  &.cons (by rw[I.ok.kind];decide) hf hn ?_ I.Qe
  ~Heap.get?_none_of_le (G0 I.ok.bsz I.ok.above)
B5 Inv.CW(I:Inv X pins σ H s):∀b∈frs X.stack,b∈X.env.locals::X.fs:=fun b hb=>by
 rcases I.ok.stk with e | ⟨e,hf⟩
 ·rw[e]at hb;~C8 _ hb
 ·rw[e]at hb
  B4 frs at hb
  rw[Q8,hf]at hb
  ~hb
B5 Inv.qy(I:Inv X pins σ H s):∀b∈frs X.stack,H b=none:=fun b hb=>by
 rcases D5.mp (I.CW b hb)with e | hb
 ·rw[e];~I.free
 ·B3⟨_,o,ho,_⟩:=I.ok.Qe.mem hb
  ~I.base.free b o ho (I.ok.frf b hb) fun z=>I.ok.aEb b z hb
B5 Inv.step{g':Array GenState}{t':Nat}{d':Drawn}{ch:List Addr}(I:Inv X pins σ H s)
  (hch:∀b∈ch,(b∈X.ex∨X.s₀.heap.objs.size≤b)∧b≠X.env.locals∧(∀x c,X.env.cells.lookup x=some c→c≠b)∧∀p∈X.pn++pins,p.1≠b)
  (keep:∀b o,b≠X.env.locals→b∉X.fs→b∉ch→s.heap.get? b=some o→H b=none→h'.get? b=some o)
  (slot:∀b o,b≠X.env.locals→b∈X.fs→b∉ch→s.heap.get? b=some o→H b=none→∃sl,h'.get? b=some {o with slots:=sl}) (free:∀b o,b∉ch→s.heap.get? b=some o→H b=none→H' b=none)
  (there:∀b o,b∉ch→s.heap.get? b=some o→∃o',h'.get? b=some o')
  (tups:∀b xs,H b=some (.tup xs)→H' b=some (.tup xs)) (CT:∀b o u,H b=some (.Jg o u)→H' b=some (.Jg o u)) (PK:∀b ps,H b=some (.tbl ps)→∃more,H' b=some (.tbl (ps++more)))
  (ns:∀m,s.heap.Ns X.env.locals m→h'.Ns X.env.locals m) (hok:Gs X.prog X.w H' h') (hg:AllBare g') :
  Inv X pins σ H' {s with heap:=h',gens:=g',drawn:=d',toks:=t'}:=by
 have neL:∀b o,X.s₀.heap.get? b=some o→b≠X.env.locals:=fun b o e=>E7 (E1 (Heap.lt_size e) I.ok.above)
 have neC:∀b o,X.s₀.heap.get? b=some o→b∉X.ex→b∉ch:=fun b o e hx hb=>by
  rcases(hch b hb).1 with z | z
  ·~hx z
  ·~absurd (E1 (Heap.lt_size e) z) (K6 _)
 have cellK:∀x c,X.env.cells.lookup x=some c→∀v,s.heap.IsCell c v→h'.IsCell c v:=fun x c e v ⟨o,ho,hd⟩=>by
  have nch:c∉ch:=fun z=>(hch c z).2.2.1 x c e rfl
  by_cases hc:c∈X.fs
  ·B3⟨sl,q⟩:=slot c o (I.cne x c e) hc nch ho (I.Av x c e)
   ~⟨_,q,hd⟩
  ·~⟨o,keep c o (I.cne x c e) hc nch ho (I.Av x c e),hd⟩
 &⟨I.ok,I.os,hg,⟨fun b o e n hb hx=>?_,fun b o e n hb hx=>?_,fun b o e n hx=>?_,fun b o e hx=>?_,fun b xs e=>tups b xs (I.base.tups b xs e),fun b o xs e=>CT b o xs (I.base.CT b o xs e),fun b ps e=>?_⟩,?_,fun x c e=>?_,?_,fun x c e=>?_,fun p hp=>?_,hok,I.len⟩
 ·~keep b o (neL b o e) hb (neC b o e hx) (I.base.keep b o e n hb hx) (I.base.free b o e n hx)
 ·B3⟨sl,e1⟩:=I.base.slot b o e n hb hx
  B3⟨sl',e2⟩:=slot b _ (neL b o e) hb (neC b o e hx) e1 (I.base.free b o e n hx)
  ~⟨sl',e2⟩
 ·B3⟨o',e1⟩:=I.base.there b o e hx
  ~free b o' (neC b o e hx) e1 (I.base.free b o e n hx)
 ·B3⟨o',e1⟩:=I.base.there b o e hx
  ~there b o' (neC b o e hx) e1
 ·B3⟨m1,e1⟩:=I.base.PK b ps e
  B3⟨m2,e2⟩:=PK b _ e1
  ~⟨m1++m2,by rw[e2,Array.append_assoc]⟩
 ·B3⟨m,hn,hl⟩:=I.loc
  &⟨m,ns m hn,fun i x v e1 e2 e3=>?_⟩
  B3⟨u,r,l⟩:=hl i x v e1 e2 e3
  &⟨u,r,?_⟩
  rcases l with l | ⟨k,c,e,z⟩
  ·~.inl l
  ·~.inr ⟨k,c,e,cellK x c e _ z⟩
 ·B3⟨v,z⟩:=I.cell x c e
  ~⟨v,cellK x c e v z⟩
 ·B3⟨m,⟨o,_,_,ho,_⟩,_⟩:=I.loc
  ~free _ o (fun z=>(hch _ z).2.1 rfl) ho I.free
 ·B3⟨v,o,ho,hd⟩:=I.cell x c e
  ~free c o (fun z=>(hch c z).2.2.1 x c e rfl) ho (I.Av x c e)
 ·B3⟨e,n,ne,nf,d⟩:=I.pin p hp
  have nch:p.1∉ch:=fun z=>(hch p.1 z).2.2.2 p hp rfl
  ~⟨keep p.1 p.2 ne nf nch e n,free p.1 p.2 nch e n,ne,nf,d⟩
B5 Inv.un{t':Nat}(I:Inv X pins σ H s)(u:Un X.fs [] H H' s.heap h')(hok:Gs X.prog X.w H' h'):Inv X pins σ H' {s with heap:=h',toks:=t'}:=by
 B3⟨m,⟨o,es,ep,ho,r⟩,_⟩:=id I.loc
 B3⟨sl,hL⟩:=u.any ho I.free (by simp)
 ~I.step (g':=s.gens) (d':=s.drawn) (ch:=[]) (fun _ z=>nomatch z) (fun b o _ hb _ e n=>u.keep b o e n hb (by simp)) (fun b o _ hb _ e n=>u.slot b o e n hb (by simp)) (fun b o _ e n=>u.free b o e n (by simp)) (fun b o _ e=>u.there b o e (by simp)) u.tups u.CT u.PK (fun m' hm=>by
  B3⟨o',es',ep',ho',r'⟩:=hm
  rw[ho]at ho';cases ho'
  ~⟨_,es',ep',hL,r'⟩) hok I.bare
B5 Inv.call{g':Array GenState}{t':Nat}{d':Drawn}{ch:List Addr}(I:Inv X pins σ H s)(u:Un (frs X.stack) ch H H' s.heap h')(hok:Gs X.prog X.w H' h')(hg:AllBare g')
  (hch:∀b∈ch,(b∈X.ex∨X.s₀.heap.objs.size≤b)∧b≠X.env.locals∧(∀x c,X.env.cells.lookup x=some c→c≠b)∧∀p∈X.pn++pins,p.1≠b) :
  Inv X pins σ H' {s with heap:=h',gens:=g',drawn:=d',toks:=t'}:=by
 B3⟨m,⟨o,es,ep,ho,r⟩,_⟩:=id I.loc
 B3⟨sl,hL⟩:=u.any ho I.free fun z=>(hch _ z).2.1 rfl
 ~I.step (ch:=ch) hch (fun b o hL hb hc e n=>u.keep b o e n (fun z=>(D5.mp (I.CW b z)).elim hL hb) hc) (fun b o _ _ hc e n=>u.any e n hc) (fun b o hc e n=>u.free b o e n hc) (fun b o hc e=>u.there b o e hc) u.tups u.CT u.PK (fun m' hm=>by
  B3⟨o',es',ep',ho',r'⟩:=hm
  rw[ho]at ho';cases ho'
  ~⟨_,es',ep',hL,r'⟩) hok hg
B5 Inv.turned{t':Nat}{it:Addr}(I:Inv X pins σ H s)(k:∀b o,b≠it→s.heap.get? b=some o→h'.get? b=some o)(hn:H it=none)(hL:it≠X.env.locals)
  (h1:it∈X.ex∨X.s₀.heap.objs.size≤it) (h2:∀x c,X.env.cells.lookup x=some c→c≠it) (h3:∀p∈X.pn++pins,p.1≠it):Inv X pins σ H {s with heap:=h',toks:=t'}:=by
 have nit:∀b u,H b=some u→b≠it:=fun b u e z=>by rw[z,hn]at e;cases e
 &I.step (g':=s.gens) (d':=s.drawn) (ch:=[it]) (fun b hb=>?_) (fun b o _ _ hc e _=>k b o (fun z=>hc (by simp[z])) e) (fun b o _ _ hc e _=>⟨o.slots,k b o (fun z=>hc (by simp[z])) e⟩) (fun _ _ _ _ n=>n)
  (fun b o hc e=>⟨o,k b o (fun z=>hc (by simp[z])) e⟩) (fun _ _ e=>e) (fun _ _ _ e=>e) (fun b ps e=>⟨#[],by rw[e];simp⟩) (fun m hm=>?_) (fun b u e=>?_) I.bare
 ·have e:b=it:=by simpa using hb
  subst e
  ~⟨h1,hL,h2,h3⟩
 ·B3⟨o,es,ep,ho,r⟩:=hm
  ~⟨o,es,ep,k _ o (Ne.symm hL) ho,r⟩
 ·&(I.hok b u e).stay (fun c v hc q=>k c v ?_ q) (fun _ q=>q) fun _ _ q=>q
  rcases hc with z | z
  ·rw[z];~nit b u e
  ·~nit c _ z
B5 Inv.tok(I:Inv X pins σ H s)(t:Nat):Inv X pins σ H {s with toks:=t}:=I.un (h':=s.heap) (t':=t) Un.refl I.hok
B5 Inv.kept{t':Nat}(I:Inv X pins σ H s)(k:∀b u,s.heap.get? b=some u→h'.get? b=some u):Inv X pins σ H {s with heap:=h',toks:=t'}:=I.un (Un.kept k) (I.hok.kept k)
B5 Inv.laid{a:Addr}{o:HO}{t':Nat}(I:Inv X pins σ H s)(k:∀b u,s.heap.get? b=some u→h'.get? b=some u)(hp:s.heap.objs.size≤a)(new:jZ X.prog X.w (upd H a o) h' a o) :
  Inv X pins σ (upd H a o) {s with heap:=h',toks:=t'}:=I.un (Un.laid k hp (I.hok.fresh hp)) (I.hok.laid k hp new)
B5 Inv.write{x e:Addr}{o:HO}{t':Nat}(I:Inv X pins σ H s)(mu:Mut (H x))(he:e=x∨H e=some (.own x))(k:∀b u,b≠e→s.heap.get? b=some u→h'.get? b=some u)(heo:∃u,h'.get? e=some u)
  (new:jZ X.prog X.w (upd H x o) h' x o):Inv X pins σ (upd H x o) {s with heap:=h',toks:=t'}:=I.un (Un.write mu he k heo) (I.hok.write mu he k heo new)
B5 Inv.weak{σ':List (Option V)}(I:Inv X pins σ H s)(hl:σ'.length=σ.length)(w:∀(i:Nat) v,σ'[i]?=some (some v)→σ[i]?=some (some v)):Inv X pins σ' H s:=
 ⟨I.ok,I.os,I.bare,I.base,let ⟨m,hn,hl'⟩:=I.loc;⟨m,hn,fun i x v e1 e2 e3=>hl' i x v e1 (w i v e2) e3⟩,I.cell,I.free,I.Av,I.pin,I.hok,hl.trans I.len⟩
B5 Inv.qz{aFY:List (Addr×Obj)}(I:Inv X pins σ H s)(h:∀p∈aFY,s.heap.get? p.1=some p.2∧H p.1=none∧p.1≠X.env.locals∧p.1∉X.fs∧∀v,p.2.data≠.cell v):Inv X aFY σ H s:=
 ⟨I.ok,I.os,I.bare,I.base,I.loc,I.cell,I.free,I.Av,fun p hp=>(F2.mp hp).elim (fun z=>I.pin p (N2 _ z)) (h p),I.hok,I.len⟩
B5 PL{N:List Str}(hN:N.Nodup){i j:Nat}{x:Str}(a:N[i]?=some x)(b:N[j]?=some x):i=j:=by
 B3⟨h1,e1⟩:=D2.mp a
 B3⟨h2,e2⟩:=D2.mp b
 ~(List.getElem_inj hN).mp (e1.trans e2.symm)
B5 Xu{M:Model}{A:Around}{E:Value→Shared→Prop}{i:Nat}{x:Str}{v:V}{u:Value}{Q:Unit→Shared→Prop}(I:Inv X pins σ H s)(hN:X.N.Nodup)(hi:X.N[i]?=some x)(hx:Loc X.env.scope x)(r:RelV v u)
  (h:∀s',Inv X pins (σ.set i (some v)) H s'→(∃a,Heap.SameBut a s.heap s'.heap∧(a=X.env.locals∨X.env.cells.lookup x=some a))→Q () s') (hf:X.fn x=true∨X.env.scope.names.lookup x=some .local:=by first | ~.inl rfl | ~.inr rfl | assumption):wpAny M A (storeName X.env x u) Q E s:=by
 B3⟨m,hn,hl⟩:=id I.loc
 have hcls:(X.env.scope.kind==.class||(X.env.scope.kind==.module&&X.env.locals != X.env.globals))=false:=by rw[I.ok.kind];rfl
 have hiσ:i<σ.length:=by rw[I.len];~(D2.mp hi).1
 have cne:=I.cne
 have tracked:∀{a:Addr} {h':Heap},(∃o,s.heap.get? a=some o∧H a=none)→Heap.SameBut a s.heap h'→Gs X.prog X.w H h':=fun{a h'} ha hs b ob e=>by
  B3⟨_,_,hfree⟩:=ha
  &(I.hok b ob e).stay (fun c w' hc q=>(hs.2 c ?_).trans q) (fun _ q=>q) fun _ _ q=>q
  rintro rfl
  rcases hc with rfl | hc
  ·rw[hfree]at e;cases e
  ·rw[hfree]at hc;cases hc
 rcases hx with hk | hk
 ·&wpAny_storeName_local hk hn (fun h' hn' hs=>?_) hcls
  B3⟨oL,_,_,hoL,_⟩:=id hn
  &h _ ⟨I.ok,I.os,I.bare,⟨fun b o e n hb hx=>?_,fun b o e n hb hx=>?_,I.base.free,fun b o e hx=>?_,I.base.tups,I.base.CT,I.base.PK⟩,⟨_,hn',fun j y v' e1 e2 e3=>?_⟩,fun y c e=>?_,I.free,I.Av,fun p hp=>?_,tracked ⟨oL,hoL,I.free⟩ hs,by simpa using I.len⟩ ⟨_,hs,.inl rfl⟩
  ·~(hs.2 b (E7 (E1 (Heap.lt_size e) I.ok.above))).trans (I.base.keep b o e n hb hx)
  ·B3⟨sl,e1⟩:=I.base.slot b o e n hb hx
   ~⟨sl,(hs.2 b (E7 (E1 (Heap.lt_size e) I.ok.above))).trans e1⟩
  ·B3⟨o',e1⟩:=I.base.there b o e hx
   ~⟨o',(hs.2 b (E7 (E1 (Heap.lt_size e) I.ok.above))).trans e1⟩
  ·by_cases hj:j=i
   ·subst hj
    rw[hi]at e1;cases e1
    rw[J5 hiσ]at e2
    cases e2
    ~⟨u,r,.inl ⟨hk,by simp⟩⟩
   ·rw[U0 (Ne.symm hj)]at e2
    B3⟨u',r',q⟩:=hl j y v' e1 e2 e3
    &⟨u',r',?_⟩
    rcases q with ⟨k,e⟩ | ⟨k,c,e,z⟩
    ·&.inl ⟨k,?_⟩
     have:y≠x:=fun e=>hj (PL hN e1 (e▸hi))
     simp[this,e]
    ·~.inr ⟨k,c,e,z.sameBut hs (cne y c e)⟩
  ·B3⟨w',z⟩:=I.cell y c e
   ~⟨w',z.sameBut hs (cne y c e)⟩
  ·B3⟨e,n,ne,nf,d⟩:=I.pin p hp
   ~⟨(hs.2 p.1 ne).trans e,n,ne,nf,d⟩
 ·have hfn:X.fn x=true:=by
   rcases hf with z | z
   ·~z
   ·rw[z]at hk;cases hk
  B3⟨c,hc⟩:=I.ok.has x (.inl hk)
  B3⟨w',z⟩:=I.cell x c hc
  &wpAny_storeName_cell I.ok.kind hk hc z (fun h' hc' hs=>?_)
  B3⟨oc,hoc,aKt⟩:=id z
  &h {s with heap:=h'} ⟨I.ok,I.os,I.bare,⟨fun b o e n hb hx=>?_,fun b o e n hb hx=>?_,I.base.free,fun b o e hx=>?_,I.base.tups,I.base.CT,I.base.PK⟩,⟨m,hn.sameBut hs (Ne.symm (cne x c hc)),fun j y v' e1 e2 e3=>?_⟩,fun y c' e=>?_,I.free,I.Av,fun p hp=>?_,tracked ⟨oc,hoc,I.Av x c hc⟩ hs,by simpa using I.len⟩ ⟨c,hs,.inr hc⟩
  ·~(hs.2 b (E7 (E1 (Heap.lt_size e) (I.ok.cab x c hfn hc)))).trans (I.base.keep b o e n hb hx)
  ·B3⟨sl,e1⟩:=I.base.slot b o e n hb hx
   ~⟨sl,(hs.2 b (E7 (E1 (Heap.lt_size e) (I.ok.cab x c hfn hc)))).trans e1⟩
  ·B3⟨o',e1⟩:=I.base.there b o e hx
   ~⟨o',(hs.2 b (E7 (E1 (Heap.lt_size e) (I.ok.cab x c hfn hc)))).trans e1⟩
  ·by_cases hj:j=i
   ·subst hj
    rw[hi]at e1;cases e1
    rw[J5 hiσ]at e2
    cases e2
    ~⟨u,r,.inr ⟨.inl hk,c,hc,hc'⟩⟩
   ·rw[U0 (Ne.symm hj)]at e2
    B3⟨u',r',q⟩:=hl j y v' e1 e2 e3
    &⟨u',r',?_⟩
    rcases q with q | ⟨k,c',e,z'⟩
    ·~.inl q
    ·&.inr ⟨k,c',e,z'.sameBut hs ?_⟩
     rintro rfl
     ~hj (PL hN e1 (I.ok.inj _ _ _ e hc▸hi))
  ·by_cases hcc:c'=c
   ·subst hcc;~⟨_,hc'⟩
   ·B3⟨w2,z2⟩:=I.cell y c' e
    ~⟨w2,z2.sameBut hs hcc⟩
  ·B3⟨e,n,ne,nf,d⟩:=I.pin p hp
   &⟨(hs.2 p.1 ?_).trans e,n,ne,nf,d⟩
   intro q
   rw[q,hoc]at e
   have q':oc=p.2:=F5 e
   ~d w' (by rw[←q'];~aKt)
B5 PN{M:Model}{A:Around}{E:Value→Shared→Prop}{i:Nat}{x:Str}{v:V}{u:Value}{Q:Unit→Shared→Prop}(I:Inv X pins σ H s)(hN:X.N.Nodup)(hi:X.N[i]?=some x)(hx:Loc X.env.scope x)(r:RelV v u)
  (h:∀s',Inv X pins (σ.set i (some v)) H s'→Q () s') (hf:X.fn x=true∨X.env.scope.names.lookup x=some .local:=by first | ~.inl rfl | ~.inr rfl | assumption):wpAny M A (storeName X.env x u) Q E s:=
 Xu I hN hi hx r (fun s' I' _=>h s' I') hf
B5 Inv.call'{s':Shared}{ch:List Addr}(I:Inv X pins σ H s)(ho:s'.os=s.os)(u:Un (frs X.stack) ch H H' s.heap s'.heap)(hok:Gs X.prog X.w H' s'.heap)(hg:AllBare s'.gens)
  (hch:∀b∈ch,(b∈X.ex∨X.s₀.heap.objs.size≤b)∧b≠X.env.locals∧(∀x c,X.env.cells.lookup x=some c→c≠b)∧∀p∈X.pn++pins,p.1≠b):Inv X pins σ H' s':=by
 B3⟨h',g',d',t',o'⟩:=s'
 have e:o'=s.os:=ho
 subst e
 ~I.call (g':=g') (t':=t') (d':=d') u hok hg hch
end
abbrev XK:=Value→Option Addr→Hp→Prop
abbrev St:=List (Option V)
abbrev VK:=V→Hp→Prop
abbrev TE:=St→Hp→VK→Prop
abbrev TT:=St→Hp→(Bool→Hp→Prop)→Prop
abbrev TA:=St→Hp→(List V→Hp→Prop)→Prop
structure Ends where
 nx:St→Hp→Prop
 rt:VK
 bk:St→Hp→Prop:=fun _ _=>False
 ct:St→Hp→Prop:=fun _ _=>False
abbrev TS:=Ends→St→Hp→Prop
def EP(X:Cx)(pins:List (Addr×Obj))(σ:St)(Q:VK)(u:Value)(s':Shared):Prop:=∃v H',Inv X pins σ H' s'∧RelV v u∧Q v H'
def TP(X:Cx)(pins:List (Addr×Obj))(σ:St)(Q:Bool→Hp→Prop)(b:Bool)(s':Shared):Prop:=∃H',Inv X pins σ H' s'∧Q b H'
def AP(X:Cx)(pins:List (Addr×Obj))(σ:St)(Q:List V→Hp→Prop)(us:List Value)(s':Shared):Prop:=∃vs H',Inv X pins σ H' s'∧Vals vs us∧Q vs H'
def SP(X:Cx)(pins:List (Addr×Obj))(D:Ends)(f:Flow)(s':Shared):Prop:=
 match f with
 | .next=>∃σ' H',Inv X pins σ' H' s'∧D.nx σ' H'
 | .brk=>∃σ' H',Inv X pins σ' H' s'∧D.bk σ' H'
 | .cont=>∃σ' H',Inv X pins σ' H' s'∧D.ct σ' H'
 | .ret u=>∃v σ' H',Inv X pins σ' H' s'∧RelV v u∧D.rt v H'
def PE(X:Cx)(e:Expr)(t:TE):Prop:=
 ∀(pins:List (Addr×Obj))(s:Shared)(σ:St)(H:Hp)(Q:VK),Inv X pins σ H s→t σ H Q→wpAny (model X.prog X.w) X.A (eval e X.env) (EP X pins σ Q) X.xe s
def PT(X:Cx)(e:Expr)(t:TT):Prop:=
 ∀(pins:List (Addr×Obj))(s:Shared)(σ:St)(H:Hp)(Q:Bool→Hp→Prop),Inv X pins σ H s→t σ H Q→wpAny (model X.prog X.w) X.A (isTrue e X.env (eval e X.env)) (TP X pins σ Q) X.xe s
def PW(X:Cx)(e:Expr)(t:TT):Prop:=
 ∀(whole:Sem Value)(pins:List (Addr×Obj))(s:Shared)(σ:St)(H:Hp)(Q:Bool→Hp→Prop),Inv X pins σ H s→t σ H Q→wpAny (model X.prog X.w) X.A (isTrue e X.env whole) (TP X pins σ Q) X.xe s
B5 PW.pt{X:Cx}{e:Expr}{t:TT}(h:PW X e t):PT X e t:=h _
def PA(X:Cx)(es:List Expr)(t:TA):Prop:=
 ∀(pos:Pos)(pins:List (Addr×Obj))(s:Shared)(σ:St)(H:Hp)(Q:List V→Hp→Prop),Inv X pins σ H s→t σ H Q→wpAny (model X.prog X.w) X.A (spliced (backTo pos (starEach es X.env))) (AP X pins σ Q) X.xe s
def PS(X:Cx)(st:Stmt)(t:TS):Prop:=
 ∀(pins:List (Addr×Obj))(s:Shared)(σ:St)(H:Hp)(D:Ends),Inv X pins σ H s→t D σ H→wpAny (model X.prog X.w) X.A (exec st X.env) (SP X pins D) X.xe s
def bh(X:Cx)(st:List Stmt)(t:TS):Prop:=
 ∀(pins:List (Addr×Obj))(s:Shared)(σ:St)(H:Hp)(D:Ends),Inv X pins σ H s→t D σ H→wpAny (model X.prog X.w) X.A (execs st X.env) (SP X pins D) X.xe s
B5 jG{α:Type}{t:Sem α}{Q Q':α→Shared→Prop}{M:Model}{A:Around}{E:Value→Shared→Prop}{s:Shared}(h:wpAny M A t Q E s)(hQ:∀a s,Q a s→Q' a s):wpAny M A t Q' E s:=wpAny_mono h hQ fun _ _ x=>x
end L2
namespace L2
open PySem PySem.Spec PyProof.Rows
section
variable{X:Cx}
def sE(i:Nat):TE:=fun σ H Q=>∃v,σ[i]?=some (some v)∧Q v H
def tC(v:V):TE:=fun _ H Q=>Q v H
B5 aGR{i:Nat}{x:Str}{pos:Pos}(hN:X.N[i]?=some x)(hv:Vis X.env.scope x)(hd:(x==("__debug__" : Str))=false:=by decide) (hcd:(x==("__classdict__" : Str))=false:=by decide):PE X (.Name x pos) (sE i):=by
  intro pins s σ H Q I h
  B3⟨v,e,h⟩:=h
  B3⟨m,hn,hl⟩:=I.loc
  B3⟨u,r,l⟩:=hl i x v hN e hv
  have fin:EP X pins σ Q u s:=⟨v,H,I,r,h⟩
  rcases l with ⟨hk,hm⟩ | ⟨hk,c,hc,hcell⟩
  · ~wpAny_Name (wpAny_loadName_local I.ok.kind hk hn hm fin) hd
  · rcases hk with hk | hk
    · ~wpAny_Name (wpAny_loadName_cell I.ok.kind hk hc hcell fin) hd
    · ~wpAny_Name (wpAny_loadName_free I.ok.kind hk hc hcell fin hcd) hd
B5 aGS{i j pos}:PE X (.Constant (.int i) j pos) (tC (.int i)):=fun _ _ _ H _ I h=>wpAny_Constant_int ⟨.int i,H,I.tok _,⟨_,rfl⟩,h⟩
B5 aIR{b j pos}:PE X (.Constant (.bool b) j pos) (tC (.bl b)):=fun _ _ _ H _ I h=>Constant_bool ⟨.bl b,H,I,rfl,h⟩
B5 aGT{j pos}:PE X (.Constant .none j pos) (tC .non):=fun _ _ _ H _ I h=>Constant_none ⟨.non,H,I,rfl,h⟩
B5 bj{x j pos}:PE X (.Constant (.str x) j pos) (tC (.str x)):=fun _ _ _ H _ I h=>Calls.Constant_str ⟨.str x,H,I.tok _,⟨_,rfl⟩,h⟩
def Gl(X:Cx)(x:Str):Prop:=X.env.kindOf x=some .globalImplicit
B5 CZ{E:Value→Shared→Prop}{pins:List (Addr×Obj)}{s:Shared}{σ:St}{H:Hp}{x:Str}{u:Value}{pos:Pos}{Q:Value→Shared→Prop}(I:Inv X pins σ H s)(hg:Gl X x)(hm:X.mg x=some u)(h:Q u s)
  (hd:(x==("__debug__" : Str))=false:=by decide):wpAny (model X.prog X.w) X.A (eval (.Name x pos) X.env) Q E s:=
 Calls.Name_function_global I.ok.kind hg (Calls.loadGlobal_global (by rw[I.ok.glob];~I.mod.glob.keeps I.bk) hm h) hd
B5 yW{E:Value→Shared→Prop}{pins:List (Addr×Obj)}{s:Shared}{σ:St}{H:Hp}{x:Str}{u:Value}{pos:Pos}{Q:Value→Shared→Prop}(I:Inv X pins σ H s)(hg:Gl X x)(hm:X.mg x=none)(hv:bootBuiltins x=some u)(h:Q u s)
  (hn:x ≠ "__name__" := by decide) (hd:(x==("__debug__" : Str))=false:=by decide):wpAny (model X.prog X.w) X.A (eval (.Name x pos) X.env) Q E s:=by
 B3⟨mb,h1,h2⟩:=I.mod.blt
 ~Calls.Name_function_global I.ok.kind hg (Calls.loadGlobal_builtin (by rw[I.ok.glob];~I.mod.glob.keeps I.bk) hm (by rw[I.ok.blt];~h1.keeps I.bk) ((h2 x hn).trans hv) h) hd
B5 aEc{x:Str}{v:V}{u:Value}{pos:Pos}(hg:Gl X x)(hm:X.mg x=some u)(r:RelV v u)(hd:(x==("__debug__" : Str))=false:=by decide):PE X (.Name x pos) (tC v):=
 fun _ _ _ H _ I h=>CZ I hg hm ⟨v,H,I,r,h⟩ hd
B5 Dy{x:Str}{v:V}{u:Value}{pos:Pos}(hg:Gl X x)(hm:X.mg x=none)(hv:bootBuiltins x=some u)(r:RelV v u)(hn:x ≠ "__name__" := by decide) (hd:(x==("__debug__" : Str))=false:=by decide):PE X (.Name x pos) (tC v):=
 fun _ _ _ H _ I h=>yW I hg hm hv ⟨v,H,I,r,h⟩ hn hd
variable{a b:Expr}{ta tb:TE}{pos:Pos}
def PC(X:Cx)(op:CmpOp)(a b:Expr)(t:TE):Prop:=
 ∀(pins:List (Addr×Obj))(s:Shared)(σ:St)(H:Hp)(Q:VK),Inv X pins σ H s→t σ H Q →
  wpAny (model X.prog X.w) X.A (eval a X.env) (fun v s₁=>wpAny (model X.prog X.w) X.A (eval b X.env) (fun u s₂=>wpAny (model X.prog X.w) X.A (compareOp op v u) (EP X pins σ Q) X.xe s₂) X.xe s₁) X.xe s
def tB(t:TE):TT:=fun σ H Q=>t σ H fun x H1=>∃c,x=.bl c∧Q c H1
B5 bu{op:CmpOp}{t:TE}(h:PC X op a b t)(h1:behindInMarks op b=false:=by first | ~nobehind _ A8 A8 | rfl):PE X (.Compare a [op] [b] pos) t:=fun pins s σ H Q I hw=>wpAny_Compare1 (h pins s σ H Q I hw) h1
B5 aGU{op:CmpOp}{t:TE}(h:PC X op a b t)(h1:behindInMarks op b=false:=by first | ~nobehind _ A8 A8 | rfl):PT X (.Compare a [op] [b] pos) (tB t):=by
 intro pins s σ H Q I hw
 &wpAny_isTrue_Compare1 (jG (h pins s σ H _ I hw) fun v s1 h1=>jG h1 fun u s2 h2=>jG h2 fun c s3 ⟨x,H1,I1,r1,q1⟩=>?_) h1
 B3⟨d,rfl,q⟩:=q1
 cases r1
 ~wpAny_truthy_bool ⟨H1,I1,q⟩
B5 aBn{e:Expr}{t:TE}(h:PE X e t)(he:∀whole,isTrue e X.env whole=(do let v ←whole;standAt e.pos;holding [v] (truthy v)):=by intro _;rfl):PT X e (tB t):=by
 intro pins s σ H Q I hw
 &isTrue_plain (jG (h pins s σ H _ I hw) fun v s1 ⟨x,H1,I1,r1,q1⟩=>?_) (he _)
 B3⟨d,rfl,q⟩:=q1
 cases r1
 ~wpAny_truthy_bool ⟨H1,I1,q⟩
variable{tA tB':TT}{rest:List Expr}
def aGV(t u:TT):TT:=fun σ H Q=>t σ H fun c H1=>if c=true then u σ H1 Q else Q false H1
def tOr(t u:TT):TT:=fun σ H Q=>t σ H fun c H1=>if c=true then Q true H1 else u σ H1 Q
def aEd(t:TT):TT:=fun σ H Q=>t σ H fun c H1=>Q (!c) H1
B5 aEe(ha:PT X a tA):PW X (.BoolOp .And [a] pos) tA:=by
 intro wh pins s σ H Q I h
 &isTrue_and (jG (ha pins s σ H Q I h) fun c s1 e=>?_)
 cases c with
 | true=>~isTrue_and_nil e
 | false=>~e
B5 aGW(ha:PT X a tA):PW X (.BoolOp .Or [a] pos) tA:=by
 intro wh pins s σ H Q I h
 &isTrue_or (jG (ha pins s σ H Q I h) fun c s1 e=>?_)
 cases c with
 | false=>~isTrue_or_nil e
 | true=>~e
B5 aGX(ha:PT X a tA)(hb:PW X (.BoolOp .And (b::rest) pos) tB'):PW X (.BoolOp .And (a::b::rest) pos) (aGV tA tB'):=by
 intro wh pins s σ H Q I h
 &isTrue_and (jG (ha pins s σ H _ I h) fun c s1 ⟨H1,I1,q1⟩=>?_)
 cases c with
 | true=>~hb wh pins s1 σ H1 Q I1 q1
 | false=>~⟨H1,I1,q1⟩
B5 aIS(ha:PT X a tA)(hb:PW X (.BoolOp .Or (b::rest) pos) tB'):PW X (.BoolOp .Or (a::b::rest) pos) (tOr tA tB'):=by
 intro wh pins s σ H Q I h
 &isTrue_or (jG (ha pins s σ H _ I h) fun c s1 ⟨H1,I1,q1⟩=>?_)
 cases c with
 | true=>~⟨H1,I1,q1⟩
 | false=>~hb wh pins s1 σ H1 Q I1 q1
B5 aBo(ha:PT X a tA):PT X (.UnaryOp .Not a pos) (aEd tA):=by
 intro pins s σ H Q I h
 ~isTrue_not (ha pins s σ H (fun c H1=>Q (!c) H1) I h)
def aFZ(ta tb:TE):TE:=fun σ H Q=>ta σ H fun x H1=>∃c,x=.bl c∧if c=true then tb σ H1 Q else Q (.bl false) H1
def aIT(ta tb:TE):TE:=fun σ H Q=>ta σ H fun x H1=>∃c,x=.bl c∧if c=true then Q (.bl true) H1 else tb σ H1 Q
def aF0(ta:TE):TE:=fun σ H Q=>ta σ H fun x H1=>∃c,x=.bl c∧Q (.bl (!c)) H1
B5 aGY{op}{t:TE}(h:PE X a t):PE X (.BoolOp op [a] pos) t:=fun pins s σ H Q I hw=>BoolOp_one (h pins s σ H Q I hw)
B5 aGZ(ha:PE X a ta)(hb:PE X (.BoolOp .And (b::rest) pos) tb):PE X (.BoolOp .And (a::b::rest) pos) (aFZ ta tb):=by
 intro pins s σ H Q I h
 &BoolOp_and (jG (ha pins s σ H _ I h) fun v s1 ⟨x,H1,I1,r1,q1⟩=>?_)
 B3⟨c,rfl,q1⟩:=q1
 cases r1
 &wpAny_truthy_bool ?_
 cases c with
 | true=>~hb pins s1 σ H1 Q I1 q1
 | false=>~⟨.bl false,H1,I1,rfl,q1⟩
B5 aIU(ha:PE X a ta)(hb:PE X (.BoolOp .Or (b::rest) pos) tb):PE X (.BoolOp .Or (a::b::rest) pos) (aIT ta tb):=by
 intro pins s σ H Q I h
 &BoolOp_or (jG (ha pins s σ H _ I h) fun v s1 ⟨x,H1,I1,r1,q1⟩=>?_)
 B3⟨c,rfl,q1⟩:=q1
 cases r1
 &wpAny_truthy_bool ?_
 cases c with
 | false=>~hb pins s1 σ H1 Q I1 q1
 | true=>~⟨.bl true,H1,I1,rfl,q1⟩
B5 aG0(ha:PE X a ta):PE X (.UnaryOp .Not a pos) (aF0 ta):=by
 intro pins s σ H Q I h
 &UnaryOp_ (jG (ha pins s σ H _ I h) fun v s1 ⟨x,H1,I1,r1,q1⟩=>?_)
 B3⟨c,rfl,q1⟩:=q1
 cases r1
 ~not_of (wpAny_truthy_bool ⟨.bl (!c),H1,I1,rfl,q1⟩)
def tIf(t:TT)(ta tb:TE):TE:=fun σ H Q=>t σ H fun c H1=>if c=true then ta σ H1 Q else tb σ H1 Q
B5 aBp{c:Expr}(hc:PT X c tA)(ha:PE X a ta)(hb:PE X b tb):PE X (.IfExp c a b pos) (tIf tA ta tb):=by
 intro pins s σ H Q I h
 &wpAny_IfExp (jG (hc pins s σ H _ I h) fun d s1 ⟨H1,I1,q1⟩=>?_)
 cases d with
 | true=>~ha pins s1 σ H1 Q I1 q1
 | false=>~hb pins s1 σ H1 Q I1 q1
end
end L2
namespace L2
open PySem PySem.Spec PyProof.Rows
def rJ(K:aJ)(H:Hp)(a:Addr)(xs:List V):Prop:=
 Rd H a (.lst xs) ∨
  ∃(o:Obj)(its:Array Value)(n:Nat),K.lookup a=some o∧o.cls=.type "list" ∧ o.dict=none∧o.data=.seq its n∧its.size≤sizeLine∧Vals xs its.toList
def yV(K:aJ)(H:Hp)(a:Addr)(xs:List V):Prop:=
 Rd H a (.tup xs) ∨
  ∃(o:Obj)(its:Array Value)(n:Nat),K.lookup a=some o∧o.cls=.type "tuple" ∧ o.data=.seq its n∧its.size≤sizeLine∧Vals xs its.toList
def aKv:Value→Option V
 | .none=>some .non
 | .bool b=>some (.bl b)
 | .int i _=>some (.int i)
 | .str x _=>some (.str x)
 | .bytes b _=>some (.byt b)
 | .float b _=>some (.flt b)
 | .ref a=>some (.ref a)
 | .type n=>some (.ty n)
 | _=>none
B5 RelV.abs{x:V}{u:Value}(r:RelV x u):aKv u=some x:=by
 cases x with
 | non=>cases r;rfl
 | bl _=>cases r;rfl
 | int _=>B3⟨t,rfl⟩:=r;rfl
 | str _=>B3⟨t,rfl⟩:=r;rfl
 | byt _=>B3⟨t,rfl⟩:=r;rfl
 | flt _=>B3⟨t,rfl⟩:=r;rfl
 | ref _=>cases r;rfl
 | ty _=>cases r;rfl
B5 RelV.inj{x y:V}{u:Value}(r:RelV x u)(q:RelV y u):x=y:=F5 (r.abs.symm.trans q.abs)
B5 Vals.inj:∀{xs ys:List V} {us:List Value},Vals xs us→Vals ys us→xs=ys
 | _,_,_,.nil,.nil=>rfl
 | _,_,_,.cons r t,.cons r' t'=>by rw[r.inj r',Vals.inj t t']
section
variable{X:Cx}{pins:List (Addr×Obj)}{σ:St}{H:Hp}{s:Shared}{a:Addr}{xs ys:List V}
B5 rJ.of{K:aJ}(h:H a=some (.lst xs)):rJ K H a xs:=.inl (.inl h)
B5 yV.of{K:aJ}(h:H a=some (.tup xs)):yV K H a xs:=.inl (.inl h)
B5 Inv.list(I:Inv X pins σ H s)(h:rJ X.K H a xs):∃its:List Value,Vals xs its∧PlainL s.heap a its.toArray∧xs.length≤sizeLine:=by
 rcases h with h | ⟨o,its,n,hk,hc,hd,hs,hz,r⟩
 ·B3⟨z,its,n,r,e⟩:=h.ok I.hok
  ~⟨its,r,⟨_,n,e,rfl,rfl,rfl⟩,z⟩
 ·&⟨its.toList,r,⟨o,n,I.Lw a o hk,hc,hd,by simpa using hs⟩,?_⟩
  have e:=r.length
  simp only[J9]at e
  omega
B5 Inv.tuple(I:Inv X pins σ H s)(h:yV X.K H a xs):∃its:List Value,Vals xs its∧IsTup s.heap a its.toArray∧xs.length≤sizeLine:=by
 rcases h with h | ⟨o,its,n,hk,hc,hs,hz,r⟩
 ·B3⟨z,its,r,p⟩:=h.ok I.hok
  ~⟨its,r,p,z⟩
 ·&⟨its.toList,r,⟨o,I.Lw a o hk,hc,n,by simpa using hs⟩,?_⟩
  have e:=r.length
  simp only[J9]at e
  omega
B5 Inv.PQ(I:Inv X pins σ H s)(h:rJ X.K H a xs)(h':rJ X.K H a ys):xs=ys:=by
 B3⟨its,r,⟨o,n,e,_,_,d⟩,_⟩:=I.list h
 B3⟨its',r',⟨o',n',e',_,_,d'⟩,_⟩:=I.list h'
 rw[e]at e';cases e'
 rw[d]at d'
 injection d' with d1 _
 have:its=its':=by simpa using congrArg o8 d1
 subst this
 ~r.inj r'
B5 Inv.Xv(I:Inv X pins σ H s)(h:yV X.K H a xs)(h':yV X.K H a ys):xs=ys:=by
 B3⟨its,r,⟨o,e,_,n,d⟩,_⟩:=I.tuple h
 B3⟨its',r',⟨o',e',_,n',d'⟩,_⟩:=I.tuple h'
 rw[e]at e';cases e'
 rw[d]at d'
 injection d' with d1 _
 have:its=its':=by simpa using congrArg o8 d1
 subst this
 ~r.inj r'
end
abbrev Cx.wish(X:Cx)(E:Value→Shared→Prop):Cx:={X with xe:=E}
abbrev Cx.bw(X:Cx):Cx:=X.wish fun _ _=>False
B5 Cx.Ok.wish{X:Cx}(ok:X.Ok)(E:Value→Shared→Prop):(X.wish E).Ok:=
 ⟨ok.mod,ok.kind,ok.glob,ok.blt,ok.above,ok.inj,ok.has,ok.cab,ok.hd,ok.frames,ok.stk,ok.exf,ok.bs,ok.bsz,ok.aBm,ok.aEb,ok.Qe,ok.frf⟩
B5 Cx.Ok.Bl{X:Cx}{E:Value→Shared→Prop}(ok:(X.wish E).Ok):X.Ok:=
 ⟨ok.mod,ok.kind,ok.glob,ok.blt,ok.above,ok.inj,ok.has,ok.cab,ok.hd,ok.frames,ok.stk,ok.exf,ok.bs,ok.bsz,ok.aBm,ok.aEb,ok.Qe,ok.frf⟩
section
variable{X:Cx}{pins:List (Addr×Obj)}{σ:St}{H:Hp}{s:Shared}{E:Value→Shared→Prop}
B5 Inv.wish(I:Inv X pins σ H s)(E:Value→Shared→Prop):Inv (X.wish E) pins σ H s:=⟨I.ok.wish E,I.os,I.bare,I.base,I.loc,I.cell,I.free,I.Av,I.pin,I.hok,I.len⟩
B5 Inv.Bl(I:Inv (X.wish E) pins σ H s):Inv X pins σ H s:=⟨I.ok.Bl,I.os,I.bare,I.base,I.loc,I.cell,I.free,I.Av,I.pin,I.hok,I.len⟩
B5 SP.Bl{D:Ends}{f:Flow}{s':Shared}(h:SP (X.wish E) pins D f s'):SP X pins D f s':=by
 cases f with
 | next=>B3⟨σ',H',I,q⟩:=h;~⟨σ',H',I.Bl,q⟩
 | brk=>B3⟨σ',H',I,q⟩:=h;~⟨σ',H',I.Bl,q⟩
 | cont=>B3⟨σ',H',I,q⟩:=h;~⟨σ',H',I.Bl,q⟩
 | ret u=>B3⟨v,σ',H',I,r,q⟩:=h;~⟨v,σ',H',I.Bl,r,q⟩
B5 bh.bw{st:List Stmt}{t:TS}(h:bh X.bw st t):bh X st t:=fun pins s σ H D I hw=>
 wpAny_mono (h pins s σ H D (I.wish _) hw) (fun _ _ q=>q.Bl) fun _ _ z=>False.elim z
end
section
variable{X:Cx}{st:Stmt}{rest:List Stmt}{t u:TS}{e:Expr}{te:TE}{pos:Pos}
def aF1:TS:=fun D σ H=>D.nx σ H
def aG1(t u:TS):TS:=fun D σ H=>t {D with nx:=u D} σ H
B5 aEf:bh X [] aF1:=fun _ _ σ H _ I h=>wpAny_execs_nil ⟨σ,H,I,h⟩
B5 aBq(h1:PS X st t)(h2:bh X rest u):bh X (st::rest) (aG1 t u):=by
 intro pins s σ H D I h
 &wpAny_execs_cons (jG (h1 pins s σ H {D with nx:=u D} I h) fun f s1 q=>?_)
 cases f with
 | next=>
  B3⟨σ',H',I',q⟩:=q
  ~h2 pins s1 σ' H' D I' q
 | ret v=>~q
 | brk=>~q
 | cont=>~q
B5 aEg(h1:PS X st t):bh X [st] t:=by
 intro pins s σ H D I h
 &wpAny_execs_cons (jG (h1 pins s σ H D I h) fun f s1 q=>?_)
 cases f with
 | next=>~wpAny_execs_nil q
 | ret v=>~q
 | brk=>~q
 | cont=>~q
B5 Inv.quiet{pins:List (Addr×Obj)}{σ:St}{H:Hp}{s:Shared}(I:Inv X pins σ H s):interactive X.env=false:=by simp[interactive,I.ok.kind]
def oH(te:TE):TS:=fun D σ H=>te σ H fun _ H1=>D.nx σ H1
B5 kE(he:PE X e te)(hs:swapsWith e none pos.line X.env=pure false:=by rfl):PS X (.Expr e pos) (oH te):=by
 intro pins s σ H D I h
 ~wpAny_Expr_any (jG (he pins s σ H _ I h) fun v s1 ⟨x,H1,I1,r1,q1⟩=>⟨σ,H1,I1,q1⟩) I.quiet hs
def zy(te:TE):TS:=fun D σ H=>te σ H D.rt
B5 Ru(he:PE X e te):PS X (.Return (some e) pos) (zy te):=by
 intro pins s σ H D I h
 ~wpAny_Return_some (jG (he pins s σ H _ I h) fun v s1 ⟨x,H1,I1,r1,q1⟩=>⟨x,σ,H1,I1,r1,q1⟩)
def aG2(c:TT)(t u:TS):TS:=fun D σ H=>c σ H fun b H1=>if b=true then t D σ H1 else u D σ H1
B5 aF2{c:Expr}{a b:List Stmt}{tc:TT}(hc:PT X c tc)(ha:bh X a t)(hb:bh X b u):PS X (.If c a b pos) (aG2 tc t u):=by
 intro pins s σ H D I h
 &wpAny_If (jG (hc pins s σ H _ I h) fun d s1 ⟨H1,I1,q1⟩=>?_)
 cases d with
 | true=>~ha pins s1 σ H1 D I1 q1
 | false=>~hb pins s1 σ H1 D I1 q1
def aBr:TS:=fun _ _ _=>False
B5 aBs:PS X st aBr:=fun _ _ _ _ _ _ h=>h.elim
end
abbrev TG:=V→St→Hp→(St→Hp→Prop)→Prop
abbrev TGs:=List V→St→Hp→(St→Hp→Prop)→Prop
def PG(X:Cx)(target:Expr)(t:TG):Prop:=
 ∀(pins:List (Addr×Obj))(s:Shared)(σ:St)(H:Hp)(v:V)(u:Value)(Q:St→Hp→Prop),Inv X pins σ H s→RelV v u→t v σ H Q →
  wpAny (model X.prog X.w) X.A (assign target X.env u) (fun _ s'=>∃σ' H',Inv X pins σ' H' s'∧Q σ' H') X.xe s
def PGs(X:Cx)(ts:List Expr)(t:TGs):Prop:=
 ∀(pins:List (Addr×Obj))(s:Shared)(σ:St)(H:Hp)(vs:List V)(us:List Value)(Q:St→Hp→Prop),Inv X pins σ H s→Vals vs us→t vs σ H Q →
  wpAny (model X.prog X.w) X.A (assignInOrder ((assignEach ts X.env).map (·.2)) us) (fun _ s'=>∃σ' H',Inv X pins σ' H' s'∧Q σ' H') X.xe s
abbrev aG3:=V→V→V→Hp→(Hp→Prop)→Prop
def aIV(X:Cx)(t:aG3):Prop:=
 ∀(pins:List (Addr×Obj))(s:Shared)(σ:St)(H:Hp)(o i v:V)(ov iv u:Value)(Q:Hp→Prop),Inv X pins σ H s→RelV o ov→RelV i iv→RelV v u→t o i v H Q →
  wpAny (model X.prog X.w) X.A (setItem ov iv u) (fun _ s'=>∃H',Inv X pins σ H' s'∧Q H') X.xe s
section
variable{X:Cx}{pos:Pos}
def lW(i:Nat):TG:=fun v σ H Q=>Q (σ.set i (some v)) H
B5 kI{i:Nat}{x:Str}(hN:X.N.Nodup)(hi:X.N[i]?=some x)(hx:Loc X.env.scope x)(hf:X.fn x=true∨X.env.scope.names.lookup x=some .local:=by first | ~.inl rfl | ~.inr rfl | assumption):PG X (.Name x pos) (lW i):=by
 intro pins s σ H v u Q I r h
 ~wpAny_assign_Name (PN I hN hi hx r (fun s' I'=>⟨_,H,I',h⟩) hf)
def aIW:TGs:=fun vs σ H Q=>vs=[]∧Q σ H
def aF4(t:TG)(u:TGs):TGs:=fun vs σ H Q=>∃v r,vs=v::r∧t v σ H fun σ' H'=>u r σ' H' Q
B5 rm:PGs X [] aIW:=by
 intro pins s σ H vs us Q I r h
 B3⟨e,h⟩:=h
 subst e
 cases r
 ~assignInOrder_nil ⟨σ,H,I,h⟩
B5 Jh{e:Expr}{es:List Expr}{t:TG}{u:TGs}(h1:PG X e t)(h2:PGs X es u)
  (hs:(assignEach (e::es) X.env).map (·.2)=assign e X.env::(assignEach es X.env).map (·.2):=by rfl):PGs X (e::es) (aF4 t u):=by
 intro pins s σ H vs us Q I r h
 B3⟨v,vr,e1,h⟩:=h
 subst e1
 cases r with
 | cons r rr=>
  rw[hs]
  &assignInOrder_cons (jG (h1 pins s σ H _ _ _ I r h) fun _ s1 ⟨σ1,H1,I1,q1⟩=>?_)
  ~h2 pins s1 σ1 H1 _ _ Q I1 rr q1
def aEh(K:aJ)(n:Nat)(t:TGs):TG:=fun v σ H Q=>∃a xs,v=.ref a∧yV K H a xs∧xs.length=n∧t xs σ H Q
B5 aBt{es:List Expr}{k:Nat}{t:TGs}{n:Nat}(hc:X.calm=true)(h:PGs X es t)
  (hn:(assignEach es X.env).length=n:=by rfl) (hst:(assignEach es X.env).findIdx? (·.1)=none:=by rfl):PG X (.Tuple es k pos) (aEh X.K n t):=by
 intro pins s σ H v u Q I r hw
 B3⟨a,xs,e1,hq,hl,hw⟩:=hw
 subst e1
 cases r
 B3⟨its,rv,ht,hz⟩:=I.tuple hq
 &assign_Tuple_tuple (I.ok.hd hc) ht (by simp[hn,←hl,rv.length]) hst fun h' hx=>?_
 have I1:Inv X pins σ H {s with heap:=h'}:=I.kept (t':=s.toks) fun b o e=>hx b o (E7 (Heap.lt_size e)) e
 ~h pins _ σ H xs _ Q I1 (by simpa using rv) hw
def aAa(to ti:TE)(t:aG3):TG:=fun v σ H Q=>to σ H fun o H1=>ti σ H1 fun i H2=>t o i v H2 fun H3=>Q σ H3
B5 Rw{o i:Expr}{to ti:TE}{t:aG3}(ho:PE X o to)(hi:PE X i ti)(hs:aIV X t)
  (ha:∀v,assign (.Subscript o i pos) X.env v=(do
   let ov ←holding [v] (eval o X.env)
   let iv ←holding [v,ov] (eval i X.env)
   standAt pos
   holding [v,ov,iv] (setItem ov iv v)
   release [v,ov,iv] []):=by intro _;rfl):PG X (.Subscript o i pos) (aAa to ti t):=by
 intro pins s σ H v u Q I r h
 rw[ha]
 &wpAny_bind (wpAny_holding (jG (ho pins s σ H _ I h) fun ov s1 ⟨x,H1,I1,r1,q1⟩=>?_))
 &wpAny_bind (wpAny_holding (jG (hi pins s1 σ H1 _ I1 q1) fun iv s2 ⟨y,H2,I2,r2,q2⟩=>?_))
 &wpAny_bind (wpAny_standAt (wpAny_bind (wpAny_holding (jG (hs pins s2 σ H2 x y v ov iv u _ I2 r1 r2 r q2) fun _ s3 ⟨H3,I3,q3⟩=>?_))))
 ~wpAny_release ⟨σ,H3,I3,q3⟩
def Bm(te:TE)(g:TG):TS:=fun D σ H=>te σ H fun x H1=>g x σ H1 D.nx
B5 Gu{tg e:Expr}{te:TE}{g:TG}(he:PE X e te)(hg:PG X tg g)(hs:swapsWithSole [tg] e pos.line X.env=pure false:=by rfl)(hw:swappedStores [tg] e X.env=pure none:=by rfl)
  (h1:(assignEach [tg] X.env).map (·.2)=[assign tg X.env]:=by rfl):PS X (.Assign [tg] e pos) (Bm te g):=by
 intro pins s σ H D I h
 &wpAny_Assign_stores (jG (he pins s σ H _ I h) fun v s1 ⟨x,H1,I1,r1,q1⟩=>?_) hs hw
 rw[h1]
 ~jG (hg pins s1 σ H1 x v _ I1 r1 q1) fun _ s2 q=>q
B5 bB{i:Nat}{x:Str}{e:Expr}{te:TE}{pos':Pos}(hN:X.N.Nodup)(hi:X.N[i]?=some x)(hx:Loc X.env.scope x)(he:PE X e te)(hs:swapsWith e (some (.Name x pos')) pos.line X.env=pure false:=by rfl)(hf:X.fn x=true∨X.env.scope.names.lookup x=some .local:=by first | ~.inl rfl | ~.inr rfl | assumption) :
  PS X (.Assign [.Name x pos'] e pos) (Bm te (lW i)):=by
 intro pins s σ H D I h
 &wpAny_Assign_Name (jG (he pins s σ H _ I h) fun v s1 ⟨y,H1,I1,r1,q1⟩=>?_) hs
 ~PN I1 hN hi hx r1 (fun s2 I2=>⟨_,H1,I2,q1⟩) hf
end
section
variable{X:Cx}{pos:Pos}
def bx(c:TT)(tb:TS):TS:=fun D σ H=>∃W:Nat→St→Hp→Prop,(∃m,W m σ H)∧∀m σ H,W m σ H →
 c σ H fun b H1=>if b=true then ∃N:St→Hp→Prop,(∀σ' H',N σ' H'→∃m',m'<m∧W m' σ' H')∧tb {D with nx:=N,ct:=N,bk:=D.nx} σ H1 else D.nx σ H1
B5 aBu{c:Expr}{body:List Stmt}{tc:TT}{tb:TS}(hp:PassesOwn (model X.prog X.w) X.A X.env X.xe)(hc:PT X c tc)(hb:bh X body tb):PS X (.While c body [] pos) (bx tc tb):=by
 intro pins s σ H D I h
 B3⟨W,⟨m0,w0⟩,turn⟩:=h
 &wpAny_While (codeAny_whileLoop (fun n s'=>∃σ' H',Inv X pins σ' H' s'∧W n σ' H') ?_ m0 ⟨σ,H,I,w0⟩)
 rintro n s1 ⟨σ1,H1,I1,w1⟩
 &wpAny_passesOwn hp (jG (hc pins s1 σ1 H1 _ I1 (turn n σ1 H1 w1)) fun b s2 ⟨H2,I2,q2⟩=>?_)
 cases b with
 | true=>
  B3⟨N,hN,q2⟩:=q2
  rw[if_pos rfl]
  &wpAny_passesOwn hp (jG (hb pins s2 σ1 H2 _ I2 q2) fun f s3 q3=>?_)
  cases f with
  | next=>
   B3⟨σ3,H3,I3,n3⟩:=q3
   B3⟨m',hm,w3⟩:=hN σ3 H3 n3
   ~⟨m',hm,σ3,H3,I3,w3⟩
  | cont=>
   B3⟨σ3,H3,I3,n3⟩:=q3
   B3⟨m',hm,w3⟩:=hN σ3 H3 n3
   ~⟨m',hm,σ3,H3,I3,w3⟩
  | brk=>~q3
  | ret v=>~q3
 | false=>
  rw[if_neg E8]
  ~wpAny_execs_nil ⟨σ1,H2,I2,q2⟩
end
structure It where
 go:Nat→Hp→Prop
 yld:Nat→Hp→V→Hp→Prop
 stop:Nat→Hp→Prop
def DG(X:Cx)(pins:List (Addr×Obj))(H:Hp)(b:Addr):Prop:=
 H b=none∧b≠X.env.locals∧b∉X.fs∧(b∈X.ex∨X.s₀.heap.objs.size≤b)∧(∀x c,X.env.cells.lookup x=some c→c≠b)∧∀p∈X.pn++pins,p.1≠b
B5 Inv.aG4{X:Cx}{pins:List (Addr×Obj)}{σ:St}{H H':Hp}{s:Shared}{b:Addr}(I:Inv X pins σ H s)(hb:s.heap.objs.size≤b)(hn:H' b=none):DG X pins H' b:=by
 &⟨hn,O6 (E1 I.lt hb),I.aKs hb,.inr (G0 I.sz hb),fun x c e z=>?_,fun p hp z=>?_⟩
 ·B3⟨v,q⟩:=I.cell x c e
  ~absurd (E1 q.lt (by rw[z];~hb)) (K6 _)
 ·~absurd (E1 (Heap.lt_size (I.pin p hp).1) (by rw[z];~hb)) (K6 _)
structure Turn(P:Program)(w:World)(K:aJ)(tg:Expr)(J:It)(fp:List Addr)(it:Addr)(tn:Nat→Heap→Prop):Prop where
 mem:it∈fp
 obj:∀i h,tn i h→∀b∈fp,∃o,h.get? b=some o∧∀v,o.data≠.cell v
 keep:∀i h h',tn i h→(∀b∈fp,∀o,h.get? b=some o→h'.get? b=some o)→tn i h'
 item:∀(X:Cx),X.prog=P→X.w=w→X.K=K→X.calm=true→∀(i:Nat)(pins:List (Addr×Obj))(s:Shared)(σ:St)(H:Hp)(E:Value→Shared→Prop),Inv X pins σ H s→(∀b∈fp,DG X pins H b)→tn i s.heap→J.go i H →
  wpAny (model P w) X.A (pyNext (.ref it)) (fun r s1=>∃u,r=some u ∧
   wpAny (model P w) X.A (letOwnedTupleGo tg (.ref it) u) (fun _ s2=>∃x H',Inv X pins σ H' s2∧RelV x u∧J.yld i H x H'∧tn (i+1) s2.heap∧∀b∈fp,H' b=none) E s1) E s
 done:∀(X:Cx),X.prog=P→X.w=w→X.K=K→X.calm=true→∀(i:Nat)(pins:List (Addr×Obj))(s:Shared)(σ:St)(H:Hp)(E:Value→Shared→Prop),Inv X pins σ H s→(∀b∈fp,DG X pins H b)→tn i s.heap→J.stop i H →
  wpAny (model P w) X.A (pyNext (.ref it)) (fun r s1=>r=none∧Inv X pins σ H s1) E s
 self:∀(A:Around)(i:Nat)(s:Shared)(Q:Value→Shared→Prop)(E:Value→Shared→Prop),tn i s.heap→Q (.ref it) s→wpAny (model P w) A (pyIter (.ref it)) Q E s
abbrev TI:=St→Hp→(It→Hp→Prop)→Prop
def PIE(X:Cx)(pins:List (Addr×Obj))(σ:St)(tg:Expr)(R:It→Hp→Prop)(itv:Value)(s2:Shared):Prop:=
 ∃(it:Addr)(fp:List Addr)(tn:Nat→Heap→Prop)(J:It)(H':Hp),itv=.ref it∧Inv X pins σ H' s2∧Turn X.prog X.w X.K tg J fp it tn∧tn 0 s2.heap∧(∀b∈fp,DG X pins H' b)∧R J H'
def PI(X:Cx)(tg iter:Expr)(wi:TI):Prop:=
 ∀(pins:List (Addr×Obj))(s:Shared)(σ:St)(H:Hp)(R:It→Hp→Prop),Inv X pins σ H s→wi σ H R →
  wpAny (model X.prog X.w) X.A (eval iter X.env) (fun v s1=>wpAny (model X.prog X.w) X.A (pyIter v) (PIE X pins σ tg R) X.xe s1) X.xe s
B5 aBv{M:Model}{A:Around}{E:Value→Shared→Prop}{s:Shared}{tg:Expr}{it:Addr}{u:Value}{o:Obj}{n:String}{vs:Array Value}{Q:Unit→Shared→Prop}(ho:s.heap.get? it=some o)(hc:o.cls=.type n)(hd:o.data=.fields vs)
    (hn:["enumerate", "zip", "dict_itemiterator", "dict_reverseitemiterator", "odict_iterator", "itertools.zip_longest", "itertools.pairwise"].contains n=false) (hQ:Q () s):wpAny M A (letOwnedTupleGo tg (.ref it) u) Q E s:=by
  B4 letOwnedTupleGo
  cases tg<;>first
    | ~wpAny_pure hQ
    | (cases u<;>first
        | ~wpAny_pure hQ
        | (&wpAny_bind (wpAny_load ho ?_)
           rw[hc,hd]
           show wpAny M A (if(["enumerate", "zip", "dict_itemiterator", "dict_reverseitemiterator", "odict_iterator", "itertools.zip_longest", "itertools.pairwise"].contains n&&vs[0]?==some (rawInt _))=true then _ else _) Q E s
           rw[if_neg (by intro h;rw[hn,Bool.false_and]at h;cases h)]
           ~wpAny_pure hQ))
def Itl(K:aJ)(a:Addr):It:=
 ⟨fun i H=>∃xs x,rJ K H a xs∧xs[i]?=some x,fun i H x H'=>H'=H∧∀xs,rJ K H a xs→xs[i]?=some x,fun i H=>∃xs,rJ K H a xs∧xs.length≤i⟩
def Itt(K:aJ)(a:Addr):It:=
 ⟨fun i H=>∃xs x,yV K H a xs∧xs[i]?=some x,fun i H x H'=>H'=H∧∀xs,yV K H a xs→xs[i]?=some x,fun i H=>∃xs,yV K H a xs∧xs.length≤i⟩
def Itr(lo:Int)(n:Nat):It:=⟨fun i _=>i<n,fun i H x H'=>H'=H∧x=.int (lo+i),fun i _=>n≤i⟩
B5 aAb{P:Program}{w:World}{K:aJ}{tg:Expr}(a it:Addr):Turn P w K tg (Itl K a) [it] it (fun i h=>h.IsListIter it a i) where
 mem:=by simp
 obj:=fun i h st b hb=>by
  have e:b=it:=by simpa using hb
  subst e
  B3⟨o,e,c,d⟩:=st
  ~⟨o,e,fun v z=>by rw[d]at z;cases z⟩
 keep:=fun i h h' st k=>st.at fun o e=>k it (by simp) o e
 item:=by
  intro X hP hw hK hc i pins s σ H E I hf st hg
  subst hP hw hK
  B3⟨xs,x,hq,hx⟩:=hg
  B3⟨its,rv,p,hz⟩:=I.list hq
  B3⟨u,hu,ru⟩:=rv.get hx
  B3⟨f0,f1,f2,f3,f4,f5⟩:=hf it (by simp)
  &wpAny_pyNext_list_item st p.isList (x:=u) (by simpa using hu) fun h' st' sb=>?_
  have I1:Inv X pins σ H {s with heap:=h'}:=I.turned (t':=s.toks) (fun b o hb e=>(sb.2 b hb).trans e) f0 f1 f3 f4 f5
  B3⟨o,e,c,d⟩:=id st'
  ~⟨u,rfl,aBv (s:={s with heap:=h'}) e c d A8 ⟨x,H,I1,ru,⟨rfl,fun ys hy=>by rw[I.PQ hy hq];~hx⟩,st',fun b hb=>(hf b hb).1⟩⟩
 done:=by
  intro X hP hw hK hc i pins s σ H E I hf st hg
  subst hP hw hK
  B3⟨xs,hq,hx⟩:=hg
  B3⟨its,rv,p,hz⟩:=I.list hq
  B3⟨f0,f1,f2,f3,f4,f5⟩:=hf it (by simp)
  have hl:=rv.length
  ~wpAny_pyNext_list_end (I.ok.hd hc) st p.isList (by simp;omega) fun h' eb=>⟨rfl,I.turned (t':=s.toks) (fun b o hb e=>eb b o hb e) f0 f1 f3 f4 f5⟩
 self:=fun _ _ _ _ _ st h=>wpAny_pyIter_listiter st h
B5 cg{P:Program}{w:World}{K:aJ}{tg:Expr}(a it:Addr):Turn P w K tg (Itt K a) [it] it (fun i h=>h.IsTupleIter it a i) where
 mem:=by simp
 obj:=fun i h st b hb=>by
  have e:b=it:=by simpa using hb
  subst e
  B3⟨o,e,c,d⟩:=st
  ~⟨o,e,fun v z=>by rw[d]at z;cases z⟩
 keep:=fun i h h' st k=>st.at fun o e=>k it (by simp) o e
 item:=by
  intro X hP hw hK hc i pins s σ H E I hf st hg
  subst hP hw hK
  B3⟨xs,x,hq,hx⟩:=hg
  B3⟨its,rv,p,hz⟩:=I.tuple hq
  B3⟨u,hu,ru⟩:=rv.get hx
  B3⟨f0,f1,f2,f3,f4,f5⟩:=hf it (by simp)
  &wpAny_pyNext_tuple_item st (show s.heap.IsTuple a its.toArray from p) (x:=u) (by simpa using hu) fun h' st' sb=>?_
  have I1:Inv X pins σ H {s with heap:=h'}:=I.turned (t':=s.toks) (fun b o hb e=>(sb.2 b hb).trans e) f0 f1 f3 f4 f5
  B3⟨o,e,c,d⟩:=id st'
  ~⟨u,rfl,aBv (s:={s with heap:=h'}) e c d A8 ⟨x,H,I1,ru,⟨rfl,fun ys hy=>by rw[I.Xv hy hq];~hx⟩,st',fun b hb=>(hf b hb).1⟩⟩
 done:=by
  intro X hP hw hK hc i pins s σ H E I hf st hg
  subst hP hw hK
  B3⟨xs,hq,hx⟩:=hg
  B3⟨its,rv,p,hz⟩:=I.tuple hq
  B3⟨f0,f1,f2,f3,f4,f5⟩:=hf it (by simp)
  have hl:=rv.length
  ~wpAny_pyNext_tuple_end (I.ok.hd hc) st (show s.heap.IsTuple a its.toArray from p) (by simp;omega) fun h' eb=>⟨rfl,I.turned (t':=s.toks) (fun b o hb e=>eb b o hb e) f0 f1 f3 f4 f5⟩
 self:=fun _ _ _ _ _ st h=>wpAny_pyIter_tupleiter st h
B5 cj{P:Program}{w:World}{K:aJ}{tg:Expr}(it:Addr)(lo:Int)(n:Nat):Turn P w K tg (Itr lo n) [it] it (fun i h=>IsRangeIter h it (lo+(i:Nat)*1) ((n:Int)-(i:Nat)) 1) where
 mem:=by simp
 obj:=fun i h st b hb=>by
  have e:b=it:=by simpa using hb
  subst e
  ~⟨_,st,fun v z=>by
   have z':Data.fields _=Data.cell v:=z
   cases z'⟩
 keep:=fun i h h' st k=>k it (by simp) _ st
 item:=by
  intro X hP hw hK hc i pins s σ H E I hf st hg
  subst hP hw hK
  B3⟨f0,f1,f2,f3,f4,f5⟩:=hf it (by simp)
  have W:=Walks.range (prog:=X.prog) (w:=X.w) (I.ok.hd hc) it lo 1 n
  &W.item i s _ _ hg st fun v h' tk hv st' kk=>?_
  B3⟨t,rfl⟩:=hv
  have I1:Inv X pins σ H {s with heap:=h',toks:=tk}:=I.turned (fun b o hb e=>kk b o (by simpa using hb) e) f0 f1 f3 f4 f5
  &⟨_,rfl,aBv (s:={s with heap:=h',toks:=tk}) (n := "range_iterator") st' rfl rfl A8 ⟨.int (lo+i),H,I1,⟨t,?_⟩,⟨rfl,rfl⟩,st',fun b hb=>(hf b hb).1⟩⟩
  rw[Int.mul_one]
 done:=by
  intro X hP hw hK hc i pins s σ H E I hf st hg
  subst hP hw hK
  B3⟨f0,f1,f2,f3,f4,f5⟩:=hf it (by simp)
  ~wpAny_pyNext_range_end (I.ok.hd hc) st (by have:n≤i:=hg;omega) fun h' eb=>⟨rfl,I.turned (t':=s.toks) (fun b o hb e=>eb b o hb e) f0 f1 f3 f4 f5⟩
 self:=fun _ _ _ _ _ st h=>wpAny_pyIter_rangeiter st h
end L2
namespace L2
open PySem PySem.Spec PyProof.Rows
section
variable{X:Cx}{tg:Expr}
def aF5(K:aJ)(tl:TE):TI:=fun σ H R=>tl σ H fun x H1=>∃a,x=.ref a∧(∃xs,rJ K H1 a xs)∧R (Itl K a) H1
def aIZ(K:aJ)(tl:TE):TI:=fun σ H R=>tl σ H fun x H1=>∃a,x=.ref a∧(∃xs,yV K H1 a xs)∧R (Itt K a) H1
B5 rn{l:Expr}{tl:TE}(hl:PE X l tl):PI X tg l (aF5 X.K tl):=by
 intro pins s σ H R I h
 &jG (hl pins s σ H _ I h) fun v s1 ⟨x,H1,I1,r1,q1⟩=>?_
 B3⟨a,e,⟨xs,hq⟩,q⟩:=q1
 subst e
 cases r1
 B3⟨its,rv,p,hz⟩:=I1.list hq
 &wpAny_pyIter_list p.isList ?_
 &⟨s1.heap.objs.size,[s1.heap.objs.size],_,_,H1,rfl,I1.kept (t':=s1.toks) fun b o e=>Heap.get?_push_of_some _ e,aAb a _,⟨_,Heap.get?_push_size _ rfl,rfl,rfl⟩,fun b hb=>?_,q⟩
 have e:b=s1.heap.objs.size:=by simpa using hb
 subst e
 ~I1.aG4 (C5 _) (I1.hok.fresh (C5 _))
B5 aBw{l:Expr}{tl:TE}(hl:PE X l tl):PI X tg l (aIZ X.K tl):=by
 intro pins s σ H R I h
 &jG (hl pins s σ H _ I h) fun v s1 ⟨x,H1,I1,r1,q1⟩=>?_
 B3⟨a,e,⟨xs,hq⟩,q⟩:=q1
 subst e
 cases r1
 B3⟨its,rv,p,hz⟩:=I1.tuple hq
 &wpAny_pyIter_tuple (show s1.heap.IsTuple a its.toArray from p) ?_
 &⟨s1.heap.objs.size,[s1.heap.objs.size],_,_,H1,rfl,I1.kept (t':=s1.toks) fun b o e=>Heap.get?_push_of_some _ e,cg a _,⟨_,Heap.get?_push_size _ rfl,rfl,rfl⟩,fun b hb=>?_,q⟩
 have e:b=s1.heap.objs.size:=by simpa using hb
 subst e
 ~I1.aG4 (C5 _) (I1.hok.fresh (C5 _))
B5 PX{pins:List (Addr×Obj)}{σ:St}{H:Hp}{s:Shared}{R:It→Hp→Prop}{E:Value→Shared→Prop}{lo hi:Int}{t u v:Tok}{tk:Nat}(I:Inv X pins σ H s)(h1:-(2 ^ 62)≤lo)(h2:lo<2 ^ 62)(h3:-(2 ^ 62)≤hi)(h4:hi<2 ^ 62)
  (q:R (Itr lo (hi-lo).toNat) H):wpAny (model X.prog X.w) X.A (pyIter (.ref s.heap.objs.size)) (PIE X pins σ tg R) E {s with heap:=s.heap.push {cls:=.type "range", data:=.fields #[.int lo t,.int hi u,.int 1 v]},toks:=tk}:=by
 &wpAny_pyIter_range (IsRange.new ..) (small_one h1 h2 h3 h4) ?_
 have I1:Inv X pins σ H {s with heap:=s.heap.push {cls:=.type "range", data:=.fields #[.int lo t,.int hi u,.int 1 v]},toks:=tk}:=I.kept fun b o e=>Heap.get?_push_of_some _ e
 &⟨(s.heap.push {cls:=.type "range", data:=.fields #[.int lo t,.int hi u,.int 1 v]}).objs.size,[(s.heap.push {cls:=.type "range", data:=.fields #[.int lo t,.int hi u,.int 1 v]}).objs.size],_,_,H,rfl,
  I1.kept (t':=tk) fun b o e=>Heap.get?_push_of_some _ e,cj _ lo (hi-lo).toNat,?_,fun b hb=>?_,q⟩
 ·have e1:lo+((0:Nat):Int)*1=lo:=by simp
  have e2:(((hi-lo).toNat:Nat):Int)-((0:Nat):Int)=Builtin.Range.rangeSize lo hi 1:=by rw[rangeSize_one];split<;>omega
  show IsRangeIter _ _ (lo+((0:Nat):Int)*1) ((((hi-lo).toNat:Nat):Int)-((0:Nat):Int)) 1
  rw[e1,e2]
  ~Heap.get?_push_size _ rfl
 ·have e:b=(s.heap.push {cls:=.type "range", data:=.fields #[.int lo t,.int hi u,.int 1 v]}).objs.size:=by simpa using hb
  subst e
  ~I1.aG4 (C5 _) (I1.hok.fresh (C5 _))
def aBx(ta:TA):TI:=fun σ H R=>ta σ H fun vs H1=>∃j:Int,vs=[.int j]∧-(2 ^ 62)≤j∧j<2 ^ 62∧R (Itr 0 j.toNat) H1
def QB(ta:TA):TI:=fun σ H R=>ta σ H fun vs H1=>∃i j:Int,vs=[.int i,.int j]∧(-(2 ^ 62)≤i∧i<2 ^ 62∧-(2 ^ 62)≤j∧j<2 ^ 62)∧R (Itr i (j-i).toNat) H1
B5 Xw{a:Expr}{ta:TA}{p pos:Pos}(hg:Gl X "range") (hm:X.mg "range" = none) (ha:PA X [a] ta) (hs:starEach [a] X.env=[(false,eval a X.env)]:=by rfl):PI X tg (.Call (.Name "range" p) [a] [] pos) (aBx ta):=by
 intro pins s σ H R I h
 &Call_ (yW I hg hm boot_range (L0 (jG (ha pos pins s σ H _ I h) fun us s1 ⟨vs,H1,I1,r1,q1⟩=>?_) hs rfl))
 B3⟨j,e,q1,q2,q⟩:=q1
 subst e
 cases r1 with
 | cons r rr=>
  cases rr
  B3⟨t,rfl⟩:=r
  ~call_range_1 (PX I1 A6 A6 q1 q2 (by simpa using q))
B5 Lx{a b:Expr}{ta:TA}{p pos:Pos}(hg:Gl X "range") (hm:X.mg "range" = none) (ha:PA X [a,b] ta) (hs:starEach [a,b] X.env=[(false,eval a X.env),(false,eval b X.env)]:=by rfl) (hs2:starEach [b] X.env=[(false,eval b X.env)]:=by rfl) :
  PI X tg (.Call (.Name "range" p) [a,b] [] pos) (QB ta):=by
 intro pins s σ H R I h
 &Call_ (yW I hg hm boot_range (L0 (jG (ha pos pins s σ H _ I h) fun us s1 ⟨vs,H1,I1,r1,q1⟩=>?_) (by rw[hs,hs2]) (by rw[hs2];rfl)))
 B3⟨i,j,e,⟨q1,q2,q3,q4⟩,q⟩:=q1
 subst e
 cases r1 with
 | cons r rr=>
  cases rr with
  | cons r' rr=>
   cases rr
   B3⟨t,rfl⟩:=r
   B3⟨t',rfl⟩:=r'
   ~call_range_2 (PX I1 q1 q2 q3 q4 q)
def cu(wi:TI)(g:TG)(tb:TS):TS:=fun D σ H=>wi σ H fun J H1=>∃W:Nat→Nat→St→Hp→Prop,(∃m,W 0 m σ H1)∧∀i m σ H,W i m σ H →
 (J.stop i H∧D.nx σ H)∨(J.go i H∧∃N:St→Hp→Prop,(∀σ' H',N σ' H'→∃m',m'<m∧W (i+1) m' σ' H')∧∀x H',J.yld i H x H'→g x σ H' fun σ2 H2=>tb {D with nx:=N,ct:=N,bk:=D.nx} σ2 H2)
def Rx(fp:List Addr)(h:Heap):List (Addr×Obj):=fp.filterMap fun b=>(h.get? b).map fun o=>(b,o)
B5 yX{fp:List Addr}{h:Heap}{b:Addr}{o:Obj}(hb:b∈fp)(e:h.get? b=some o):(b,o)∈Rx fp h:=d8.mpr ⟨b,hb,by rw[e];rfl⟩
B5 aAc{fp:List Addr}{h:Heap}{p:Addr×Obj}(hp:p∈Rx fp h):p.1∈fp∧h.get? p.1=some p.2:=by
 B3⟨b,hb,e⟩:=d8.mp hp
 cases q:h.get? b with
 | none=>rw[q]at e;cases e
 | some o=>
  rw[q]at e
  have e':(b,o)=p:=F5 e
  subst e'
  ~⟨hb,q⟩
B5 Inv.pinned{pins:List (Addr×Obj)}{σ:St}{H:Hp}{s:Shared}{fp:List Addr}(I:Inv X pins σ H s)(hf:∀b∈fp,DG X pins H b)(ho:∀b∈fp,∃o,s.heap.get? b=some o∧∀v,o.data≠.cell v):Inv X (pins++Rx fp s.heap) σ H s:=
 I.qz fun p hp=>(F2.mp hp).elim (fun z=>I.pin p (J1 _ z)) fun z=>by
  B3⟨hb,e⟩:=aAc z
  B3⟨f0,f1,f2,_⟩:=hf p.1 hb
  B3⟨o,e',d⟩:=ho p.1 hb
  rw[e]at e';cases e'
  ~⟨e,f0,f1,f2,d⟩
B5 Inv.Ji{pins pl:List (Addr×Obj)}{σ:St}{H:Hp}{s:Shared}(I:Inv X (pins++pl) σ H s):Inv X pins σ H s:=I.qz fun p hp=>I.pin p (J1 _ (N2 _ hp))
B5 cz{iter:Expr}{body:List Stmt}{wi:TI}{g:TG}{tb:TS}{pos:Pos}(hp:PassesOwn (model X.prog X.w) X.A X.env X.xe)(hc:X.calm=true)(hi:PI X tg iter wi)(hg:PG X tg g)(hb:bh X body tb)
  (hs:∀x,foldedSetIterable iter X.env x=pure x:=by intro _;rfl):PS X (.For tg iter body [] pos) (cu wi g tb):=by
 intro pins s σ H D I h
 &wpAny_For (jG (hi pins s σ H _ I h) fun v s1 h1=>jG h1 fun itv s2 h2=>?_) hs
 B3⟨it,fp,tn,J,H2,e,I2,T,st2,f2,W,⟨m0,w0⟩,turn⟩:=h2
 subst e
 have stat:∀{H':Hp},(∀b∈fp,H' b=none)→∀b∈fp,DG X pins H' b:=fun hn b hb=>⟨hn b hb,(f2 b hb).2⟩
 &codeAny_forLoop_any (fun n s'=>∃i σ' H',Inv X pins σ' H' s'∧tn i s'.heap∧(∀b∈fp,H' b=none)∧W i n σ' H') ?_ m0 ⟨0,σ,H2,I2,st2,fun b hb=>(f2 b hb).1,w0⟩
 rintro n s3 ⟨i,σ3,H3,I3,st3,fr3,w3⟩
 rcases turn i n σ3 H3 w3 with ⟨stop,qn⟩ | ⟨go,N,hN,step⟩
 ·&wpAny_passesOwn hp (jG (T.done X rfl rfl rfl hc i pins s3 σ3 H3 X.xe I3 (stat fr3) st3 stop) fun r s4 ⟨hr,I4⟩=>?_)
  subst hr
  ~wpAny_execs_nil ⟨σ3,H3,I4,qn⟩
 ·&wpAny_passesOwn hp (jG (T.item X rfl rfl rfl hc i pins s3 σ3 H3 X.xe I3 (stat fr3) st3 go) fun r s4 ⟨u,hr,h4⟩=>?_)
  subst hr
  &wpAny_passesOwn hp (jG h4 fun _ s5 ⟨x,H5,I5,r5,y5,st5,fr5⟩=>?_)
  have I5':=I5.pinned (stat fr5) (T.obj _ _ st5)
  &wpAny_passesOwn hp (jG (hg _ s5 σ3 H5 x u _ I5' r5 (step x H5 y5)) fun _ s6 ⟨σ6,H6,I6,q6⟩=>?_)
  &wpAny_passesOwn hp (jG (hb _ s6 σ6 H6 _ I6 q6) fun f s7 q7=>?_)
  have again:∀{σ7:St} {H7:Hp},Inv X (pins++Rx fp s5.heap) σ7 H7 s7→N σ7 H7→∃m,m<n∧∃i σ' H',Inv X pins σ' H' s7∧tn i s7.heap∧(∀b∈fp,H' b=none)∧W i m σ' H':=fun{σ7 H7} I7 n7=>by
   B3⟨m',hm,w7⟩:=hN σ7 H7 n7
   &⟨m',hm,i+1,σ7,H7,I7.Ji,T.keep _ _ _ st5 fun b hb o e=>(I7.pin (b,o) (J1 _ (J1 _ (yX hb e)))).1,fun b hb=>?_,w7⟩
   B3⟨o,e,d⟩:=T.obj _ _ st5 b hb
   ~(I7.pin (b,o) (J1 _ (J1 _ (yX hb e)))).2.1
  cases f with
  | next=>B3⟨σ7,H7,I7,n7⟩:=q7;~again I7 n7
  | cont=>B3⟨σ7,H7,I7,n7⟩:=q7;~again I7 n7
  | brk=>B3⟨σ7,H7,I7,q7⟩:=q7;~⟨σ7,H7,I7.Ji,q7⟩
  | ret v=>B3⟨x7,σ7,H7,I7,r7,q7⟩:=q7;~⟨x7,σ7,H7,I7.Ji,r7,q7⟩
end
end L2
namespace L2
open PySem PySem.Spec PyProof.Rows
abbrev R2:=V→V→Hp→VK→Prop
def xR(X:Cx)(f:Value→Value→Sem Value)(r:R2):Prop:=
 ∀(pins:List (Addr×Obj))(s:Shared)(σ:St)(H:Hp)(x y:V)(v u:Value)(Q:VK),Inv X pins σ H s→RelV x v→RelV y u→r x y H Q →
  wpAny (model X.prog X.w) X.A (f v u) (EP X pins σ Q) X.xe s
def UnR(X:Cx)(f:Value→Sem Value)(r:V→Hp→VK→Prop):Prop:=
 ∀(pins:List (Addr×Obj))(s:Shared)(σ:St)(H:Hp)(x:V)(v:Value)(Q:VK),Inv X pins σ H s→RelV x v→r x H Q →
  wpAny (model X.prog X.w) X.A (f v) (EP X pins σ Q) X.xe s
def oJ(X:Cx)(f:Value)(r:List V→Hp→VK→Prop):Prop:=
 ∀(pins:List (Addr×Obj))(s:Shared)(σ:St)(H:Hp)(xs:List V)(us:List Value)(Q:VK),Inv X pins σ H s→Vals xs us→r xs H Q →
  wpAny (model X.prog X.w) X.A (call f us) (EP X pins σ Q) X.xe s
def Xx(r:R2)(ta tb:TE):TE:=fun σ H Q=>ta σ H fun x H1=>tb σ H1 fun y H2=>r x y H2 Q
def tUn(r:V→Hp→VK→Prop)(ta:TE):TE:=fun σ H Q=>ta σ H fun x H1=>r x H1 Q
def rI(C:Int→Int→Prop)(g:Int→Int→V):R2:=fun x y H Q=>∃i j,x=.int i∧y=.int j∧C i j∧Q (g i j) H
def rI0(g:Int→Int→V):R2:=fun x y H Q=>∃i j,x=.int i∧y=.int j∧Q (g i j) H
def rU(g:Int→V):V→Hp→VK→Prop:=fun x H Q=>∃i,x=.int i∧Q (g i) H
section
variable{X:Cx}{a b c:Expr}{ta tb tc:TE}{pos:Pos}
B5 aG5(ha:PE X a ta)(hb:PE X b tb){pins:List (Addr×Obj)}{s:Shared}{σ:St}{H:Hp}{R:V→V→Hp→Prop}(I:Inv X pins σ H s)
  (h:ta σ H fun x H1=>tb σ H1 fun y H2=>R x y H2) {Q:Value→Shared→Prop} {f:Value→Value→Sem Value}
  (hf:∀v u s2 x y H2,Inv X pins σ H2 s2→RelV x v→RelV y u→R x y H2→wpAny (model X.prog X.w) X.A (f v u) Q X.xe s2) :
  wpAny (model X.prog X.w) X.A (eval a X.env) (fun v s₁=>wpAny (model X.prog X.w) X.A (eval b X.env) (fun u s₂=>wpAny (model X.prog X.w) X.A (f v u) Q X.xe s₂) X.xe s₁) X.xe s:=by
 &jG (ha pins s σ H _ I h) fun v s1 ⟨x,H1,I1,r1,q1⟩=>?_
 &jG (hb pins s1 σ H1 _ I1 q1) fun u s2 ⟨y,H2,I2,r2,q2⟩=>?_
 ~hf v u s2 x y H2 I2 r1 r2 q2
B5 aI1{op:Operator}{r:R2}(ho:xR X (binaryOp op) r)(ha:PE X a ta)(hb:PE X b tb):PE X (.BinOp a op b pos) (Xx r ta tb):=by
 intro pins s σ H Q I h
 ~wpAny_BinOp (aG5 ha hb I h fun v u s2 x y H2 I2 rx ry q=>ho pins s2 σ H2 x y v u Q I2 rx ry q)
B5 aI2{op:UnaryOp}{r:V→Hp→VK→Prop}(ho:UnR X (unaryOp op) r)(ha:PE X a ta):PE X (.UnaryOp op a pos) (tUn r ta):=by
 intro pins s σ H Q I h
 ~UnaryOp_ (jG (ha pins s σ H _ I h) fun v s1 ⟨x,H1,I1,r1,q1⟩=>ho pins s1 σ H1 x v Q I1 r1 q1)
B5 opI{f:Value→Value→Sem Value}{C:Int→Int→Prop}{g:Int→Int→Int}
  (rule:∀(i j:Int)(t u:Tok)(s:Shared)(Q:Value→Shared→Prop)(E:Value→Shared→Prop),C i j→Q (.int (g i j) s.toks) {s with toks:=s.toks+1}→wpAny (model X.prog X.w) X.A (f (.int i t) (.int j u)) Q E s) :
  xR X f (rI C fun i j=>.int (g i j)):=by
 intro pins s σ H x y v u Q I rx ry h
 B3⟨i,j,rfl,rfl,hc,q⟩:=h
 B3⟨t,rfl⟩:=rx
 B3⟨t',rfl⟩:=ry
 ~rule i j t t' s _ _ hc ⟨.int (g i j),H,I.tok _,⟨_,rfl⟩,q⟩
B5 aI3{f:Value→Value→Sem Value}{g:Int→Int→Int}
  (rule:∀(i j:Int)(t u:Tok)(s:Shared)(Q:Value→Shared→Prop)(E:Value→Shared→Prop),Q (.int (g i j) s.toks) {s with toks:=s.toks+1}→wpAny (model X.prog X.w) X.A (f (.int i t) (.int j u)) Q E s) :
  xR X f (rI0 fun i j=>.int (g i j)):=by
 intro pins s σ H x y v u Q I rx ry h
 B3⟨i,j,rfl,rfl,q⟩:=h
 B3⟨t,rfl⟩:=rx
 B3⟨t',rfl⟩:=ry
 ~rule i j t t' s _ _ ⟨.int (g i j),H,I.tok _,⟨_,rfl⟩,q⟩
B5 aG6{f:Value→Value→Sem Value}{g:Int→Int→Bool}
  (rule:∀(i j:Int)(t u:Tok)(s:Shared)(Q:Value→Shared→Prop)(E:Value→Shared→Prop),Q (.bool (g i j)) s→wpAny (model X.prog X.w) X.A (f (.int i t) (.int j u)) Q E s) :
  xR X f (rI0 fun i j=>.bl (g i j)):=by
 intro pins s σ H x y v u Q I rx ry h
 B3⟨i,j,rfl,rfl,q⟩:=h
 B3⟨t,rfl⟩:=rx
 B3⟨t',rfl⟩:=ry
 ~rule i j t t' s _ _ ⟨.bl (g i j),H,I,rfl,q⟩
def aAd(i j:Int):Prop:=0<j∧j<1073741824
def aAe(i j:Int):Prop:=0≤j∧j≤1000000∧i.natAbs<2 ^ 64
def Wl(i j:Int):Prop:=(-(2 ^ 64)<i∧i<2 ^ 64)∨(-(2 ^ 64)<j∧j<2 ^ 64)
B5 Wl.ok{i j:Int}(h:Wl i j):IntMulOk i j:=by
 rcases h with ⟨h1,h2⟩ | ⟨h1,h2⟩
 ·~.of_left (intBits_le_64 h1 h2)
 ·~.of_right (intBits_le_64 h1 h2)
B5 aG7:xR X (binaryOp .Add) (rI0 fun i j=>.int (i+j)):=aI3 fun _ _ _ _ _ _ _ q=>add_int q
B5 aG8:xR X (binaryOp .Sub) (rI0 fun i j=>.int (i-j)):=aI3 fun _ _ _ _ _ _ _ q=>sub_int q
B5 aG9:xR X (binaryOp .Mult) (rI Wl fun i j=>.int (i*j)):=opI fun _ _ _ _ _ _ _ hc q=>mul_int q hc.ok
B5 aEi:xR X (binaryOp .FloorDiv) (rI aAd fun i j=>.int (i/j)):=opI fun i j _ _ _ _ _ hc q=>by
 have h1:(0:Int)<j:=hc.1
 have h2:j<1073741824:=hc.2
 ~floordiv_int A6 (by rw[Int.fdiv_eq_ediv_of_nonneg i A6];~q) (.inl (PyProof.noPylong_small A6))
B5 aHa:xR X (binaryOp .Mod) (rI (fun _ j=>0<j) fun i j=>.int (i%j)):=opI fun i j _ _ _ _ _ hc q=>by
 have h1:(0:Int)<j:=hc
 ~mod_int' A6 (by rw[Int.fmod_eq_emod_of_nonneg i A6];~q)
B5 aHb:xR X (binaryOp .Pow) (rI aAe fun i j=>.int (i ^ j.toNat)):=opI fun _ _ _ _ _ _ _ hc q=>pow_int_small hc.1 hc.2.1 hc.2.2 q
B5 unI{f:Value→Sem Value}{g:Int→Int}
  (rule:∀(i:Int)(t:Tok)(s:Shared)(Q:Value→Shared→Prop)(E:Value→Shared→Prop),Q (.int (g i) s.toks) {s with toks:=s.toks+1}→wpAny (model X.prog X.w) X.A (f (.int i t)) Q E s) :
  UnR X f (rU fun i=>.int (g i)):=by
 intro pins s σ H x v Q I rx h
 B3⟨i,rfl,q⟩:=h
 B3⟨t,rfl⟩:=rx
 ~rule i t s _ _ ⟨.int (g i),H,I.tok _,⟨_,rfl⟩,q⟩
B5 aHc:UnR X (unaryOp .USub) (rU fun i=>.int (-i)):=unI fun _ _ _ _ _ q=>neg_int q
end
def aEj:V→V→Bool
  | .non,.non=>true | .non,.int _=>true | .int _,.non=>true | .non,.bl _=>true | .bl _,.non=>true | .non,.str _=>true | .str _,.non=>true
  | .int _,.int _=>true | .bl _,.bl _=>true | .str _,.str _=>true | .byt _,.byt _=>true
  | .int _,.str _=>true | .str _,.int _=>true | .bl _,.str _=>true | .str _,.bl _=>true
  | _,_=>false
def rEq:R2:=fun x y H Q=>aEj x y=true∧Q (.bl (decide (x=y))) H
def rNe:R2:=fun x y H Q=>aEj x y=true∧Q (.bl (!decide (x=y))) H
B5 sr{i j:Int}:decide (V.int i=V.int j)=(i==j):=by
 rw[L5]
 simp
B5 aBy{i j:Bool}:decide (V.bl i=V.bl j)=(i==j):=by
 rw[L5]
 simp
B5 su{i j:Str}:decide (V.str i=V.str j)=(i==j):=by
 rw[L5]
 simp
B5 sy{i j:Array UInt8}:decide (V.byt i=V.byt j)=(i.toList==j.toList):=by
 rw[L5]
 cases i
 cases j
 simp
section
variable{X:Cx}{a b c:Expr}{ta tb tc:TE}{pos:Pos}
B5 eN{pins:List (Addr×Obj)}{σ:St}{H:Hp}{s:Shared}{Q:VK}{k k':Bool}(I:Inv X pins σ H s)(q:Q (.bl k) H)(e:k=k'):EP X pins σ Q (.bool k') s:=by
 subst e
 ~⟨.bl k,H,I,rfl,q⟩
B5 aI4:xR X (compareOp .Eq) rEq:=by
 intro pins s σ H x y v u Q I rx ry h
 B3⟨hs,q⟩:=h
 cases x with
 | non=>
  cases rx
  cases y with
  | non=>cases ry;~PySem.EqNone.eq_none_none (eN I q (by simp))
  | bl j=>cases ry;~PySem.EqNone.eq_none_bool (eN I q (by simp))
  | int j=>B3⟨t',rfl⟩:=ry;~PySem.EqNone.eq_none_int (eN I q (by simp))
  | str j=>B3⟨t',rfl⟩:=ry;~PySem.EqNone.eq_none_str (eN I q (by simp))
  | _=>~absurd (show false=true from hs) E8
 | bl i=>
  cases rx
  cases y with
  | non=>cases ry;~PySem.EqNone.eq_bool_none (eN I q (by simp))
  | bl j=>cases ry;~eq_bool (eN I q aBy)
  | str j=>B3⟨t',rfl⟩:=ry;~PySem.EqMixed.eq_bool_str (eN I q (by simp))
  | _=>~absurd (show false=true from hs) E8
 | int i=>
  B3⟨t,rfl⟩:=rx
  cases y with
  | non=>cases ry;~PySem.EqNone.eq_int_none (eN I q (by simp))
  | int j=>B3⟨t',rfl⟩:=ry;~eq_int (eN I q sr)
  | str j=>B3⟨t',rfl⟩:=ry;~PySem.EqMixed.eq_int_str (eN I q (by simp))
  | _=>~absurd (show false=true from hs) E8
 | str i=>
  B3⟨t,rfl⟩:=rx
  cases y with
  | non=>cases ry;~PySem.EqNone.eq_str_none (eN I q (by simp))
  | bl j=>cases ry;~PySem.EqMixed.eq_str_bool (eN I q (by simp))
  | int j=>B3⟨t',rfl⟩:=ry;~PySem.EqMixed.eq_str_int (eN I q (by simp))
  | str j=>B3⟨t',rfl⟩:=ry;~eq_str (eN I q su)
  | _=>~absurd (show false=true from hs) E8
 | byt i=>
  B3⟨t,rfl⟩:=rx
  cases y with
  | byt j=>B3⟨t',rfl⟩:=ry;~PySem.W.eq_bytes (eN I q sy)
  | _=>~absurd (show false=true from hs) E8
 | _=>cases y<;>~absurd (show false=true from hs) E8
B5 aI5:xR X (compareOp .NotEq) rNe:=by
 intro pins s σ H x y v u Q I rx ry h
 B3⟨hs,q⟩:=h
 cases x with
 | non=>
  cases rx
  cases y with
  | non=>cases ry;~PySem.EqNone.ne_none_none (eN I q (by simp))
  | bl j=>cases ry;~PySem.EqNone.ne_none_bool (eN I q (by simp))
  | int j=>B3⟨t',rfl⟩:=ry;~PySem.EqNone.ne_none_int (eN I q (by simp))
  | str j=>B3⟨t',rfl⟩:=ry;~PySem.EqNone.ne_none_str (eN I q (by simp))
  | _=>~absurd (show false=true from hs) E8
 | bl i=>
  cases rx
  cases y with
  | non=>cases ry;~PySem.EqNone.ne_bool_none (eN I q (by simp))
  | bl j=>cases ry;~ne_bool (eN I q (congrArg not aBy))
  | str j=>B3⟨t',rfl⟩:=ry;~PySem.EqMixed.ne_bool_str (eN I q (by simp))
  | _=>~absurd (show false=true from hs) E8
 | int i=>
  B3⟨t,rfl⟩:=rx
  cases y with
  | non=>cases ry;~PySem.EqNone.ne_int_none (eN I q (by simp))
  | int j=>B3⟨t',rfl⟩:=ry;~ne_int (eN I q (congrArg not sr))
  | str j=>B3⟨t',rfl⟩:=ry;~PySem.EqMixed.ne_int_str (eN I q (by simp))
  | _=>~absurd (show false=true from hs) E8
 | str i=>
  B3⟨t,rfl⟩:=rx
  cases y with
  | non=>cases ry;~PySem.EqNone.ne_str_none (eN I q (by simp))
  | bl j=>cases ry;~PySem.EqMixed.ne_str_bool (eN I q (by simp))
  | int j=>B3⟨t',rfl⟩:=ry;~PySem.EqMixed.ne_str_int (eN I q (by simp))
  | str j=>B3⟨t',rfl⟩:=ry;~ne_str (eN I q (congrArg not su))
  | _=>~absurd (show false=true from hs) E8
 | byt i=>
  B3⟨t,rfl⟩:=rx
  cases y with
  | byt j=>B3⟨t',rfl⟩:=ry;~PySem.W.ne_bytes (eN I q (congrArg not sy))
  | _=>~absurd (show false=true from hs) E8
 | _=>cases y<;>~absurd (show false=true from hs) E8
B5 Xy:xR X (compareOp .Lt) (rI0 fun i j=>.bl (decide (i<j))):=aG6 fun _ _ _ _ _ _ _ q=>lt_int q
B5 aBz:xR X (compareOp .LtE) (rI0 fun i j=>.bl (decide (i≤j))):=aG6 fun _ _ _ _ _ _ _ q=>le_int q
B5 aF6:xR X (compareOp .Gt) (rI0 fun i j=>.bl (decide (j<i))):=aG6 fun _ _ _ _ _ _ _ q=>gt_int q
B5 dg:xR X (compareOp .Is) (fun x y H Q=>y=.non∧Q (.bl (decide (x=.non))) H):=by
 intro pins s σ H x y v u Q I rx ry h
 B3⟨rfl,q⟩:=h
 cases ry
 &is_none_gen (eN I q ?_)
 cases x<;>first
  | (cases rx;rfl)
  | (B3⟨t,rfl⟩:=rx;rfl)
B5 DK:xR X (compareOp .IsNot) (fun x y H Q=>y=.non∧Q (.bl (!decide (x=.non))) H):=by
 intro pins s σ H x y v u Q I rx ry h
 B3⟨rfl,q⟩:=h
 cases ry
 &isnot_none_gen (eN I q ?_)
 cases x<;>first
  | (cases rx;rfl)
  | (B3⟨t,rfl⟩:=rx;rfl)
B5 xR.or{f:Value→Value→Sem Value}{r r':R2}(h:xR X f r)(h':xR X f r'):xR X f (fun x y H Q=>r x y H Q∨r' x y H Q):=by
 intro pins s σ H x y v u Q I rx ry q
 rcases q with q | q
 ·~h pins s σ H x y v u Q I rx ry q
 ·~h' pins s σ H x y v u Q I rx ry q
B5 cV(b:Expr){op:CmpOp}(h:op≠.In:=by decide)(h2:op≠.NotIn:=by decide):behindInMarks op b=false:=by
 have e1:(op==CmpOp.In)=false:=by cases op<;>first | rfl | ~absurd rfl h
 have e2:(op==CmpOp.NotIn)=false:=by cases op<;>first | rfl | ~absurd rfl h2
 cases b<;>simp[behindInMarks,e1,e2]
B5 aEk{op:CmpOp}{r:R2}(ho:xR X (compareOp op) r)(ha:PE X a ta)(hb:PE X b tb)(hm:behindInMarks op b=false):PE X (.Compare a [op] [b] pos) (Xx r ta tb):=by
 intro pins s σ H Q I h
 ~wpAny_Compare1 (aG5 ha hb I h fun v u s2 x y H2 I2 rx ry q=>ho pins s2 σ H2 x y v u Q I2 rx ry q) hm
def Xz(t:TE):TT:=fun σ H Q=>t σ H fun x H'=>∃k,x=.bl k∧Q k H'
B5 tu{op:CmpOp}{r:R2}(ho:xR X (compareOp op) r)(ha:PE X a ta)(hb:PE X b tb)(hm:behindInMarks op b=false):PT X (.Compare a [op] [b] pos) (Xz (Xx r ta tb)):=by
 intro pins s σ H Q I h
 &wpAny_isTrue_Compare1 (jG (ha pins s σ H _ I h) fun v s1 ⟨x,H1,I1,r1,q1⟩=>jG (hb pins s1 σ H1 _ I1 q1) fun u s2 ⟨y,H2,I2,r2,q2⟩=>
  jG (ho pins s2 σ H2 x y v u _ I2 r1 r2 q2) fun c s3 ⟨z,H3,I3,r3,k,e,q3⟩=>?_) hm
 subst e
 cases r3
 ~wpAny_truthy_bool ⟨H3,I3,q3⟩
def aBA(r r':R2)(ta tb tc:TE):TE:=fun σ H Q=>ta σ H fun x H1=>tb σ H1 fun y H2=>r x y H2 fun z H3=>∃k,z=.bl k ∧
 (if k=true then tc σ H3 fun w' H4=>r' y w' H4 Q else Q (.bl false) H3)
B5 aBB{op op':CmpOp}{r r':R2}(ho:xR X (compareOp op) r)(ho':xR X (compareOp op') r')(ha:PE X a ta)(hb:PE X b tb)(hc:PE X c tc)
  (hm:lastMarks [op,op'] [b,c]=false:=by with_unfolding_all rfl):PT X (.Compare a [op,op'] [b,c] pos) (Xz (aBA r r' ta tb tc)):=by
 intro pins s σ H Q I h
 &isTrue_chain (jG (ha pins s σ H _ I h) fun v s1 ⟨x,H1,I1,r1,q1⟩=>test_link (jG (hb pins s1 σ H1 _ I1 q1) fun u s2 ⟨y,H2,I2,r2,q2⟩=>
  jG (ho pins s2 σ H2 x y v u _ I2 r1 r2 q2) fun d s3 ⟨z,H3,I3,r3,k,e,q3⟩=>?_)) hm
 subst e
 cases r3
 &wpAny_truthy_bool ?_
 cases k with
 | false=>
  B3⟨k',e',q'⟩:=q3
  cases e'
  ~ite_ff ⟨H3,I3,q'⟩
 | true=>
  &ite_tt (test_last (jG (hc pins s3 σ H3 _ I3 q3) fun w' s4 ⟨z',H4,I4,r4,q4⟩=>jG (ho' pins s4 σ H4 y z' u w' _ I4 r2 r4 q4) fun d' s5 ⟨z2,H5,I5,r5,k2,e2,q5⟩=>?_))
  subst e2
  cases r5
  ~wpAny_truthy_bool ⟨H5,I5,q5⟩
B5 Ry:(sizeLine:Nat)<2 ^ 63:=by rw[sizeLine_eq];decide
B5 vals1{x:V}{us:List Value}(r:Vals [x] us):∃u,us=[u]∧RelV x u:=by
 cases r with
 | cons r1 r2=>cases r2;~⟨_,rfl,r1⟩
B5 vals2{x y:V}{us:List Value}(r:Vals [x,y] us):∃u w',us=[u,w']∧RelV x u∧RelV y w':=by
 cases r with
 | cons r1 r2=>
  cases r2 with
  | cons r3 r4=>cases r4;~⟨_,_,rfl,r1,r3⟩
B5 aAf(hc:X.calm=true):oJ X (.builtin "max") (fun xs H Q=>∃i j,xs=[.int i,.int j]∧Q (.int (if j > i then j else i)) H):=by
 intro pins s σ H xs us Q I r h
 B3⟨i,j,rfl,q⟩:=h
 B3⟨u,w',rfl,⟨t,rfl⟩,⟨t',rfl⟩⟩:=vals2 r
 &max_two_ints (I.ok.hd hc) fun h' tk k=>⟨_,H,I.kept k,?_,q⟩
 by_cases hj:j > i
 ·rw[if_pos hj,if_pos hj];~⟨_,rfl⟩
 ·rw[if_neg hj,if_neg hj];~⟨_,rfl⟩
end
end L2
namespace L2
open PySem PySem.Spec PyProof.Rows
structure dh(h:Heap)(x dx C:Addr)(mA:Str→Option Value):Prop where
 obj:h.get? x=some (N0 C dx)
 ns:h.Ns1 dx mA
 ne:dx≠x
B5 aAg{h:Heap}{dx:Addr}{mA:Str→Option Value}(n:h.Ns1 dx mA):∃od,h.get? dx=some od∧∀name,V6 name od=some (mA name):=by
 B3⟨o,es,ep,ho,hd,hk,_,hm⟩:=n
 &⟨o,ho,fun name=>?_⟩
 have e:=hm name
 B4 nsFind findBy at e
 rw[←Array.find?_toList]at e
 B4 V6
 rw[hd]
 dsimp only
 split
 ·rename_i y q
  rw[q]at e
  ~congrArg some e
 ·rename_i q
  rw[q]at e
  have a:es.toList.any (·.refKey)=false:=by
   rw[List.any_eq_false]
   intro y hy
   B3⟨z,t,hkey⟩:=hk y (Array.mem_toList_iff.mp hy)
   simp[DictEntry.refKey,hkey]
  have a':¬es.toList.any (·.refKey)=true:=by rw[a];~E8
  rw[if_neg a']
  ~congrArg some e
B5 dh.look{h:Heap}{x dx C:Addr}{mA:Str→Option Value}(I:dh h x dx C mA):∃od,PySem.W.InstAt h x (N0 C dx) C (some od)∧∀name,V6 name od=some (mA name):=
 let ⟨od,ho,hl⟩:=aAg I.ns
 ⟨od,⟨I.obj,rfl,rfl,ho⟩,hl⟩
section
variable{prog:Program}{w:World}{A:Around}{E:Value→Shared→Prop}{s:Shared}{K:aJ}{x dx C f:Addr}{mA:Str→Option Value}{name:Str}{v:Value}
B5 get_map{expr:Bool}{Q:Value→Shared→Prop}(X:K.In s.heap)(I:dh s.heap x dx C mA)(hg:Q4 K C name=true)(hh:R9 K C=true)
  (ha:G2 K (.ref C) name=some none) (hv:mA name=some v) (hv':j0 v=true) (h:Q v {s with toks:=s.toks+1}) :
  wpAny (model prog w) A (getAttr (.ref x) name expr) Q E s:=by
 B3⟨od,J,hl⟩:=I.look
 ~PySem.W.get_value X J (V2 hg).1 (PySem.W.findObj_own hh ha rfl (by rw[hl,hv])) hv' h
B5 aBC{pl:Sem Bool}{Q:Value×List Value→Shared→Prop}(X:K.In s.heap)(I:dh s.heap x dx C mA)(hg:Q4 K C name=true)
  (hf:G2 K (.ref C) name=some (some (.ref f))) (ht:O7 K (.ref f)=true) (hv:mA name=none) (h:Q (.ref f,[.ref x]) s) :
  wpAny (model prog w) A (getMethod (.ref x) name pl) Q E s:=by
 B3⟨od,J,hl⟩:=I.look
 ~PySem.W.method_fn X J (V2 hg).1 (V2 hg).2 hf (beq_iff_eq.mp ht) (by show (V6 name od).map (·.isSome)=some false;rw[hl,hv];rfl) h
B5 aEm{ns:List Str}{Q:Unit→Shared→Prop}(X:K.In s.heap)(I:dh s.heap x dx C mA)
  (hs:G2 K (.ref C) "__setattr__" = some (some (.builtin "object.__setattr__"))) (hp:W7 K C=true) (ht:Y7 K C name=some none) (hh:R9 K C=true)
  (hw:d7 mA ns) (hsz:ns.length≤sizeLine)
  (h:∀h',dh h' x dx C (fun y=>if y=name then some v else mA y)→Heap.SameBut dx s.heap h'→Q () {s with heap:=h',toks:=s.toks+2}) :
  wpAny (model prog w) A (setAttr (.ref x) name v) Q E s:=by
 B3⟨od,J,hl⟩:=I.look
 &PySem.W.set_plain X J hs (PySem.W.osa_open (s:={s with toks:=s.toks+1}) (r:=none) X J hp ht fun b=>?_)
 B3⟨cd,hc,hd'⟩:=PySem.W.any_some hh
 have hx:s.heap.get? x=some ⟨.ref C,some dx,.plain,#[]⟩:=I.obj
 &wpAny_bind (wpAny_pure (wpAny_bind (wpAny_bind (wpAny_loadPart hx (wpAny_bind (PySem.W.Looks.here (s:={s with toks:=s.toks+1}) (PySem.W.looks_clsIn X hc) ?_))))))
 rw[hd']
 &wpAny_pure (a:=some dx) (wpAny_bind (wpAny_pure (wpAny_bind ?_)))
 &wpAny_nsSet1 (s:={s with toks:=s.toks+1}) I.ns fun h' hn2 hs2=>?_
 B3⟨oD,esD,epD,hoD,hdD,hcD⟩:=hn2.count (PySem.Within.cons name v hw)
 &wpAny_bind (wpAny_lookBehind hoD (by rw[hdD];~pastItsLine_dict (G0 hcD (by rw[F0];omega))) ?_)
 ~wpAny_pure (h _ ⟨(hs2.2 _ (Ne.symm I.ne)).trans I.obj,hn2,I.ne⟩ hs2)
B5 aBD{R:Result→Shared→Prop}{vs:List Value}{kw:List (Str×Value)}(X:K.In s.heap)(hm:U1 K C=true)
  (hi:G2 K (.ref C) "__init__" = some (some (.ref f))) (hf:l5 K (.ref f)=some (.type "function"))
  (h:codeAny (model prog w) (A.under (.builtin "type.__call__" ⟨.ref C::vs,kw⟩)) (.call (.ref f) ⟨.ref (s.heap.objs.size+1)::vs,kw⟩) (PySem.W.InitBack (s.heap.objs.size+1) R)
   {s with heap:=(s.heap.push L4).push (N0 C s.heap.objs.size)}) :
  codeAny (model prog w) A (.call (.ref C) ⟨vs,kw⟩) R s:=by
 B3⟨hh,g,d,t,os⟩:=s
 ~PySem.W.make_core (PySem.W.makes_of X hm) (PySem.W.looks_findIn X hi) (fun self=>PySem.W.bind_fn X self hf) (.inl rfl) h
end
def Be(f:Str)(v:V):List (Str×V)→List (Str×V)
 | []=>[(f,v)]
 | (g,x)::r=>if g=f then(g,v)::r else(g,x)::Be f v r
B5 Oo(f g:Str)(v:V):∀fs:List (Str×V),(Be f v fs).lookup g=if g=f then some v else fs.lookup g
 | []=>by
  show Q7 g [(f,v)]=_
  by_cases h:g=f
  ·have hb:(g==f)=true:=beq_iff_eq.mpr h
   simp only[Q7,hb,if_pos h]
  ·have hb:(g==f)=false:=beq_eq_false_iff_ne.mpr h
   simp only[Q7,hb,if_neg h]
 | (k,x)::r=>by
  have ih:=Oo f g v r
  rw[show Be f v ((k,x)::r)=(if k=f then(k,v)::r else(k,x)::Be f v r)from rfl]
  by_cases hk:k=f
  ·rw[if_pos hk]
   by_cases h:g=k
   ·have hb:(g==k)=true:=beq_iff_eq.mpr h
    simp only[Q7,hb,if_pos (h.trans hk)]
   ·have hb:(g==k)=false:=beq_eq_false_iff_ne.mpr h
    simp only[Q7,hb,if_neg (fun e:g=f=>h (e.trans hk.symm))]
  ·rw[if_neg hk]
   by_cases h:g=k
   ·have hb:(g==k)=true:=beq_iff_eq.mpr h
    simp only[Q7,hb,if_neg (fun e:g=f=>hk (h.symm.trans e))]
   ·have hb:(g==k)=false:=beq_eq_false_iff_ne.mpr h
    simp only[Q7,hb]
    ~ih
B5 Ly(f:Str)(v:V):∀fs:List (Str×V),f∈(Be f v fs).map (·.1)∧∀g,g∈fs.map (·.1)→g∈(Be f v fs).map (·.1)
 | []=>⟨by simp[Be],fun g h=>by simp at h⟩
 | (k,x)::r=>by
  B3⟨i1,i2⟩:=Ly f v r
  rw[show Be f v ((k,x)::r)=(if k=f then(k,v)::r else(k,x)::Be f v r)from rfl]
  by_cases hk:k=f
  ·rw[if_pos hk]
   subst hk
   ~⟨by simp,fun g h=>by simpa using h⟩
  ·rw[if_neg hk]
   &⟨?_,fun g h=>?_⟩
   ·rw[D3]
    ~C8 _ i1
   ·rw[D3]at h ⊢
    rcases D5.mp h with e | e
    ·~D5.mpr (.inl e)
    ·~C8 _ (i2 g e)
B5 Oq(f:Str)(v:V):∀fs:List (Str×V),(Be f v fs).length≤fs.length+1
 | []=>by simp[Be]
 | (k,x)::r=>by
  have ih:=Oq f v r
  rw[show Be f v ((k,x)::r)=(if k=f then(k,v)::r else(k,x)::Be f v r)from rfl]
  by_cases hk:k=f
  ·rw[if_pos hk,F0,F0];omega
  ·rw[if_neg hk,F0,F0];omega
B5 Bd.some_of{v:V}{o:Option Value}(r:Bd (some v) o):∃u,o=some u∧RelV v u:=by
 cases o with
 | none=>~(show False from r).elim
 | some u=>~⟨u,rfl,r⟩
B5 Bd.none_of{o:Option Value}(r:Bd none o):o=none:=by
 cases o with
 | none=>rfl
 | some u=>~(show False from r).elim
B5 aAh{v:V}{u:Value}(r:RelV v u):j0 u=true:=by
 cases v with
 | non=>cases(show u=Value.none from r);rfl
 | bl b=>cases(show u=Value.bool b from r);rfl
 | int i=>B3⟨t,e⟩:=(show ∃t,u=Value.int i t from r);cases e;rfl
 | str x=>B3⟨t,e⟩:=(show ∃t,u=Value.str x t from r);cases e;rfl
 | byt b=>B3⟨t,e⟩:=(show ∃t,u=Value.bytes b t from r);cases e;rfl
 | flt b=>B3⟨t,e⟩:=(show ∃t,u=Value.float b t from r);cases e;rfl
 | ref a=>cases(show u=Value.ref a from r);rfl
 | ty n=>cases(show u=Value.type n from r);rfl
section
variable{P:Program}{w:World}{H H':Hp}{h h':Heap}{a C dx:Addr}{fs fs':List (Str×V)}
B5 Qw(hok:Gs P w H h)(e:H a=some (.ins C dx fs)):∃mA,dh h a dx C mA∧(∀f,Bd (fs.lookup f) (mA f))∧d7 mA (fs.map (·.1))∧fs.length≤1000∧H dx=some (.own a):=by
 B3⟨d,z,ne,ob,mA,n,r,q⟩:=(show jZ P w H h a (.ins C dx fs)from hok a _ e)
 ~⟨mA,⟨ob,n,ne⟩,r,q,z,d⟩
end
structure Cls(K:aJ)(C:Addr):Prop where
 pg:Q4 K C Str.empty=true
 hd:R9 K C=true
 po:W7 K C=true
 sa:G2 K (.ref C) "__setattr__" = some (some (.builtin "object.__setattr__"))
B5 Cls.get{K:aJ}{C:Addr}(c:Cls K C)(f:Str):Q4 K C f=true:=c.pg
def Gv(K:aJ)(C:Addr)(f:Str):Prop:=G2 K (.ref C) f=some none
B5 Gv.taker{K:aJ}{C:Addr}{f:Str}(n:Gv K C f):Y7 K C f=some none:=by
 B4 Y7
 rw[show G2 K (.ref C) f=some none from n]
 rfl
structure Con(K:aJ)(C:Addr)(f:Str)(v:V)(u:Value):Prop where
 at_:G2 K (.ref C) f=some (some u)
 rel:RelV v u
 get:g8 K u "__get__" = some none
 cp:PySem.W.copiedNames.contains f=false
structure Meth(K:aJ)(C:Addr)(m:Str)(f:Addr):Prop where
 at_:G2 K (.ref C) m=some (some (.ref f))
 fn:O7 K (.ref f)=true
 kp:K2 K (.ref f)=true
section
variable{X:Cx}{pins:List (Addr×Obj)}{σ:St}{H:Hp}{s:Shared}{a C dx:Addr}{fs:List (Str×V)}{f:Str}{v:V}{A:Around}{E:Value→Shared→Prop}
B5 di{b:Bool}{Q:Value→Shared→Prop}(I:Inv X pins σ H s)(e:H a=some (.ins C dx fs))(c:Cls X.K C)(n:Gv X.K C f)(l:fs.lookup f=some v)
  (h:∀u s',Inv X pins σ H s'→RelV v u→Q u s'):wpAny (model X.prog X.w) A (getAttr (.ref a) f b) Q E s:=by
 B3⟨mA,O,r,_,_,_⟩:=Qw I.hok e
 B3⟨u,hu,ru⟩:=Bd.some_of (v:=v) (o:=mA f) (by rw[←l];~r f)
 ~get_map I.Lw O (c.get f) c.hd n hu (aAh ru) (h u _ (I.tok _) ru)
B5 Rz{m:Str}{g:Addr}{pl:Sem Bool}{Q:Value×List Value→Shared→Prop}(I:Inv X pins σ H s)(e:H a=some (.ins C dx fs))(c:Cls X.K C)(k:Meth X.K C m g)(l:fs.lookup m=none)
  (h:Q (.ref g,[.ref a]) s):wpAny (model X.prog X.w) A (getMethod (.ref a) m pl) Q E s:=by
 B3⟨mA,O,r,_,_,_⟩:=Qw I.hok e
 have hn:mA m=none:=Bd.none_of (by rw[←l];~r m)
 ~aBC I.Lw O (c.get m) k.at_ k.fn hn h
B5 dm{y:V}{u:Value}{Q:Unit→Shared→Prop}(I:Inv X pins σ H s)(e:H a=some (.ins C dx fs))(c:Cls X.K C)(n:Gv X.K C f)(hl:fs.length<1000)(ry:RelV y u)
  (h:∀s',Inv X pins σ (upd H a (.ins C dx (Be f y fs))) s'→Q () s'):wpAny (model X.prog X.w) A (setAttr (.ref a) f u) Q E s:=by
 B3⟨mA,O,r,wi,_,ho⟩:=Qw I.hok e
 have hz:(fs.map (·.1)).length≤sizeLine:=by rw[B6,sizeLine_eq];omega
 &aEm I.Lw O c.sa c.po n.taker c.hd wi hz fun h' O' sb=>h _ ?_
 have hd:∃o,h'.get? dx=some o:=let ⟨o,_,_,e',_⟩:=O'.ns;⟨o,e'⟩
 &I.write (x:=a) (e:=dx) (by rw[e];~True.intro) (.inr ho) (fun b q hb z=>(sb.2 b hb).trans z) hd ?_
 &⟨by rw[bN O.ne];~ho,?_,O.ne,O'.obj,_,O'.ns,fun g=>?_,fun g hg=>?_⟩
 ·have:=Oq f y fs;omega
 ·show Bd ((Be f y fs).lookup g) (if g=f then some u else mA g)
  rw[Oo]
  by_cases q:g=f
  ·rw[if_pos q,if_pos q];~ry
  ·rw[if_neg q,if_neg q];~r g
 ·by_cases q:g=f
  ·rw[q];~(Ly f y fs).1
  ·&(Ly f y fs).2 g (wi g fun z=>hg ?_)
   show (if g=f then some u else mA g)=none
   rw[if_neg q];~z
B5 Inv.made(I:Inv X pins σ H s):Inv X pins σ (upd (upd H s.heap.objs.size (.own (s.heap.objs.size+1))) (s.heap.objs.size+1) (.ins C s.heap.objs.size []))
  {s with heap:=(s.heap.push L4).push (N0 C s.heap.objs.size)}:=by
 have e1:(s.heap.push L4).get? s.heap.objs.size=some L4:=Heap.get?_push_size s.heap rfl
 have e2:((s.heap.push L4).push (N0 C s.heap.objs.size)).get? (s.heap.objs.size+1)=some (N0 C s.heap.objs.size):=by
  have:=Heap.get?_push_size (s.heap.push L4) (o:=N0 C s.heap.objs.size) rfl
  rwa [Heap.size_push]at this
 have e3:(s.heap.push L4).Ns s.heap.objs.size (fun _=>none):=⟨L4,#[],_,e1,rfl,(fun e he=>absurd he (by simp)),fun _=>rfl⟩
 have I1:=I.laid (a:=s.heap.objs.size) (o:=.own (s.heap.objs.size+1)) (h':=s.heap.push L4) (t':=s.toks) (fun b u q=>Heap.get?_push_of_some _ q) (C5 _) ⟨_,e1⟩
 &I1.laid (a:=s.heap.objs.size+1) (o:=.ins C s.heap.objs.size []) (t':=s.toks) (fun b u q=>Heap.get?_push_of_some _ q) (d9 (Heap.size_push _ _)) ?_
 have ne:s.heap.objs.size≠s.heap.objs.size+1:=E7 (M7 _)
 &⟨by rw[bN ne,cM],M0 _,ne,e2,fun _=>none,(Heap.Ns1.of_empty e3).at fun o q=>Heap.get?_push_of_some _ q,fun _=>True.intro,fun y hy=>absurd rfl hy⟩
B5 aEn{prog:Program}{w:World}{env:Env}{e:Expr}{f:Str}{pos:Pos}{s:Shared}{Q:Value→Shared→Prop}(hb:attributeBase e f env (eval e env)=eval e env)
  (h:wpAny (model prog w) A (eval e env) (fun o s₁=>wpAny (model prog w) A (getAttr o f true) Q E s₁) E s):wpAny (model prog w) A (eval (.Attribute e f pos) env) Q E s:=
 Attribute_any_ h (by rw[arm_eval_Attribute,hb])
end
def aHd(K:aJ)(ta:TE)(f:Str):TE:=fun σ H Q=>ta σ H fun x H1=>∃a C dx fs v,x=.ref a∧H1 a=some (.ins C dx fs)∧Cls K C∧Gv K C f∧fs.lookup f=some v∧Q v H1
def aHe(K:aJ)(ta tv:TE)(f:Str):TS:=fun D σ H=>tv σ H fun y H1=>ta σ H1 fun x H2=>∃a C dx fs,x=.ref a∧H2 a=some (.ins C dx fs)∧Cls K C∧Gv K C f∧fs.length<1000 ∧
 D.nx σ (upd H2 a (.ins C dx (Be f y fs)))
section
variable{X:Cx}{o e value:Expr}{f:Str}{pos pos' tpos:Pos}{ta tv:TE}
B5 aBF(he:PE X e ta)(hb:attributeBase e f X.env (eval e X.env)=eval e X.env):PE X (.Attribute e f pos) (aHd X.K ta f):=by
 intro pins s σ H Q I h
 &aEn hb (jG (he pins s σ H _ I h) fun u s1 ⟨x,H1,I1,rx,a,C,dx,fs,v,ex,ea,c,n,l,q⟩=>?_)
 subst ex
 B3 rfl:u=Value.ref a:=rx
 ~di I1 ea c n l fun u' s2 I2 ru=>⟨v,H1,I2,ru,q⟩
B5 aHf(ha:PE X o ta)(hv:PE X value tv)(hs:swapsWith value (some (.Attribute o f pos')) pos.line X.env=pure false):PS X (.Assign [.Attribute o f pos'] value pos) (aHe X.K ta tv f):=by
 intro pins s σ H D I h
 &plainObj_wpAny_Assign_Attribute (jG (hv pins s σ H _ I h) fun u s1 ⟨y,H1,I1,ry,q⟩=>jG (ha pins s1 σ H1 _ I1 q) fun ov s2 ⟨x,H2,I2,rx,a,C,dx,fs,ex,ea,c,n,l,q2⟩=>?_) hs
 subst ex
 B3 rfl:ov=Value.ref a:=rx
 ~dm I2 ea c n l ry fun s3 I3=>⟨σ,_,I3,q2⟩
end
section
variable{X:Cx}{pins:List (Addr×Obj)}{σ:St}{H:Hp}{s:Shared}{A:Around}{E:Value→Shared→Prop}{Q:Value→Shared→Prop}{c:Value}{b:Bool}
inductive Qf(K:aJ)(H:Hp):V→Value→Prop where
 | non:Qf K H .non (.type "NoneType")
 | bl (x:Bool):Qf K H (.bl x) (.type "bool")
 | int (i:Int):Qf K H (.int i) (.type "int")
 | str (x:Str):Qf K H (.str x) (.type "str")
 | flt (x:UInt64):Qf K H (.flt x) (.type "float")
 | lst {a:Addr} {xs:List V} (e:H a=some (.lst xs)):Qf K H (.ref a) (.type "list")
 | Jg {a:Addr} {o:Obj} {xs:List V} (e:H a=some (.Jg o (.lst xs))):Qf K H (.ref a) (.type "list")
 | tup {a:Addr} {xs:List V} (e:H a=some (.tup xs)):Qf K H (.ref a) (.type "tuple")
 | dK {a:Addr} {kvs:List (Key×V)} (e:H a=some (.dK kvs)):Qf K H (.ref a) (.type "dict")
 | dT {a:Addr} {kvs:List (List Key×V)} (e:H a=some (.dT kvs)):Qf K H (.ref a) (.type "dict")
 | ins {a C dx:Addr} {fs:List (Str×V)} (e:H a=some (.ins C dx fs)) (cl:Cls K C) (ha:G2 K (.ref C) "__class__" = some (some (.builtin "object.__class__")))
   (hn:g8 K (.builtin "object.__class__") "__get__" = some (some (.builtin "getset_descriptor.__get__"))) (htk:PySem.W.takesIn K (.builtin "object.__class__")=some true)
   (hm:PySem.W.mroIn K C (.type "object")=some true):Qf K H (.ref a) (.ref C)
B5 Yb{x:V}{u t:Value}(I:Inv X pins σ H s)(rx:RelV x u)(ty:Qf X.K H x t)(e:J7 X.K t c=some b)(h:∀tk,Q (.bool b) {s with toks:=tk}) :
  wpAny (model X.prog X.w) A (call (.builtin "isinstance") [u,c]) Q E s:=by
 cases ty with
 | non=>cases(show u=Value.none from rx);~J8 PySem.W.kitx_none I.Lw True.intro e (fun z=>nomatch z) h
 | bl y=>cases(show u=Value.bool y from rx);~J8 PySem.W.kitx_bool I.Lw True.intro e (fun z=>nomatch z) h
 | int i=>B3⟨t,q⟩:=(show ∃t,u=Value.int i t from rx);cases q;~J8 PySem.W.kitx_int I.Lw True.intro e (fun z=>nomatch z) h
 | str y=>B3⟨t,q⟩:=(show ∃t,u=Value.str y t from rx);cases q;~J8 PySem.W.kitx_str I.Lw True.intro e (fun z=>nomatch z) h
 | flt y=>B3⟨t,q⟩:=(show ∃t,u=Value.float y t from rx);cases q;~J8 PySem.W.kitx_float I.Lw True.intro e (fun z=>nomatch z) h
 | @lst a xs ea=>
  cases(show u=Value.ref a from rx)
  B3⟨_,_,n,_,h1⟩:=(show jZ X.prog X.w H s.heap a (.lst xs)from I.hok a _ ea)
  ~J8 W8 I.Lw ⟨_,h1,rfl⟩ e (fun z=>nomatch z) h
 | @Jg a ob xs ea=>
  cases(show u=Value.ref a from rx)
  B3⟨_,_,_,n,_,h1⟩:=(show jZ X.prog X.w H s.heap a (.Jg ob (.lst xs))from I.hok a _ ea)
  ~J8 W8 I.Lw ⟨_,h1,rfl⟩ e (fun z=>nomatch z) h
 | @tup a xs ea=>
  cases(show u=Value.ref a from rx)
  B3⟨_,_,_,p⟩:=(show jZ X.prog X.w H s.heap a (.tup xs)from I.hok a _ ea)
  B3⟨o,h1,h2,_⟩:=p
  ~J8 e8 I.Lw ⟨o,h1,h2⟩ e (fun z=>nomatch z) h
 | @dK a kvs ea=>
  cases(show u=Value.ref a from rx)
  B3⟨_,_,vs,_,p⟩:=(show jZ X.prog X.w H s.heap a (.dK kvs)from I.hok a _ ea)
  B3⟨o,es,ep,h1,h2,_⟩:=p
  ~J8 g9 I.Lw ⟨o,h1,h2.1⟩ e (fun z=>nomatch z) h
 | @dT a kvs ea=>
  cases(show u=Value.ref a from rx)
  B3⟨_,_,xs,_,o,es,ep,h1,h2,_⟩:=(show jZ X.prog X.w H s.heap a (.dT kvs)from I.hok a _ ea)
  ~J8 g9 I.Lw ⟨o,h1,h2.1⟩ e (fun z=>nomatch z) h
 | @ins a C dx fs ea cl ha hn htk hm=>
  cases(show u=Value.ref a from rx)
  B3⟨mA,O,_⟩:=Qw I.hok ea
  B3⟨od,J,_⟩:=O.look
  ~J8 (PySem.W.kitx_own (cl.get _) cl.hd ha hn htk hm) I.Lw J e (fun z=>nomatch z) h
end
end L2
namespace L2
open PySem PySem.Spec PyProof.Rows
structure lA(k:Nat)(A:Around):Prop where
 hd:A.handled=none
 dp:A.depth+3*k+5<recursionLimit
 un:A.units+16*k+200<cLine
B5 lA.mono{j k:Nat}{A:Around}(r:lA k A)(h:j≤k):lA j A:=⟨r.hd,by have:=r.dp;omega,by have:=r.un;omega⟩
B5 lA.deeper{k:Nat}{A:Around}(r:lA (k+1) A)(env:Env):lA k (A.deeper env):=
 ⟨r.hd,by have:=r.dp;show A.depth+1+3*k+5<_;omega,by have:=r.un;show A.units+3+16*k+200<_;omega⟩
B5 dq{A:Around}{C:Addr}{us:List Value}{kw:List (Str×Value)}:(A.under (.builtin "type.__call__" ⟨.ref C::us,kw⟩)).depth=A.depth+1:=by
  first | rfl | simp[Around.under,Code.weight,Code.isCreation,Code.isGuard,Code.isCaller,Code.frames,Code.isFrame,guardIds]
B5 du{A:Around}{C:Addr}{us:List Value}{kw:List (Str×Value)}:(A.under (.builtin "type.__call__" ⟨.ref C::us,kw⟩)).units=A.units+1:=by
  first | rfl | simp[Around.under,Code.cUnits,Code.frames,Code.isFrame]
B5 lA.make{k:Nat}{A:Around}(r:lA (k+1) A)(C:Addr)(us:List Value)(kw:List (Str×Value)):lA k (A.under (.builtin "type.__call__" ⟨.ref C::us,kw⟩)):=
 ⟨r.hd,by have:=r.dp;rw[dq];omega,by have:=r.un;rw[du];omega⟩
B5 lA.depth{k:Nat}{A:Around}(r:lA k A):A.depth<recursionLimit:=by have:=r.dp;omega
B5 lA.units{k:Nat}{A:Around}(r:lA k A):A.units+64<cLine:=by have:=r.un;omega
def oK:TA:=fun _ H Q=>Q [] H
def gF(ta:TE)(tr:TA):TA:=fun σ H Q=>ta σ H fun x H1=>tr σ H1 fun xs H2=>Q (x::xs) H2
section
variable{X:Cx}{e:Expr}{es:List Expr}{te:TE}{t:TA}{pos:Pos}
B5 jM:PA X [] oK:=fun _ _ _ _ H Q I h=>Calls.spliced_nil ⟨[],H,I,.nil,h⟩
B5 dG(ha:PE X e te)(hr:PA X es t)(hs:starEach (e::es) X.env=(false,eval e X.env)::starEach es X.env:=by rfl):PA X (e::es) (gF te t):=by
 intro pos pins s σ H Q I h
 rw[hs]
 show wpAny _ _ (spliced ((false,eval e X.env)::backTo pos (starEach es X.env))) _ _ s
 &Calls.spliced_cons (jG (ha pins s σ H _ I h) fun u s1 ⟨x,H1,I1,r1,q1⟩=>?_)
 ~jG (hr pos pins s1 σ H1 _ I1 q1) fun us s2 ⟨xs,H2,I2,r2,q2⟩=>⟨x::xs,H2,I2,.cons r1 r2,q2⟩
def aEo(t:TA):TE:=fun σ H Q=>t σ H fun xs H1=>xs.length≤sizeLine∧∀p,H1 p=none→Q (.ref p) (upd H1 p (.tup xs))
def aBG(t:TA):TE:=fun σ H Q=>t σ H fun xs H1=>xs.length≤sizeLine∧∀p,H1 p=none→Q (.ref p) (upd H1 p (.lst xs))
B5 aBH{x1}(h:PA X es t):PE X (.Tuple es x1 pos) (aEo t):=by
 intro pins s σ H Q I hq
 &wpAny_Tuple_spliced (jG (h pos pins s σ H _ I hq) fun us s1 ⟨xs,H1,I1,r,z,q⟩=>⟨by rw[←r.length];~z,?_⟩)
 have hf:H1 s1.heap.objs.size=none:=I1.hok.fresh (C5 _)
 &⟨.ref s1.heap.objs.size,upd H1 s1.heap.objs.size (.tup xs),I1.laid (t':=s1.toks) (fun b u e=>Heap.get?_push_of_some _ e) (C5 _) ?_,rfl,q _ hf⟩
 ~⟨z,us,r,⟨_,Heap.get?_push_size _ rfl,rfl,_,rfl⟩⟩
B5 aBI(h:PA X es t):PE X (.List es pos) (aBG t):=by
 intro pins s σ H Q I hq
 &wpAny_List_spliced (jG (h pos pins s σ H _ I hq) fun us s1 ⟨xs,H1,I1,r,z,q⟩=>⟨by rw[←r.length];~z,?_⟩)
 have hf:H1 s1.heap.objs.size=none:=I1.hok.fresh (C5 _)
 &⟨.ref s1.heap.objs.size,upd H1 s1.heap.objs.size (.lst xs),I1.laid (t':=s1.toks) (fun b u e=>Heap.get?_push_of_some _ e) (C5 _) ?_,rfl,q _ hf⟩
 ~⟨z,us,0,r,Heap.get?_push_size _ rfl⟩
end
abbrev Sp:=List V→Hp→VK→XK→Prop
abbrev CXT:=List Env→Hp→Shared→XK→Value→Shared→Prop
structure dw(P:Program)(w:World)(K:aJ)(mg:Str→Option Value)(base:Heap)(A:Around)(outer:List Env)(s:Shared)(H:Hp):Prop where
 frames:A.frames=some outer
 mod:Mod K mg base
 bs:∀b o,base.get? b=some o→s.heap.get? b=some o∧H b=none
 bsz:base.objs.size≤s.heap.objs.size
 Qe:s.heap.FunFrames base outer
 frf:∀b∈frs outer,H b=none
 hok:Gs P w H s.heap
 bare:AllBare s.gens
def CE(outer:List Env)(P:Program)(w:World)(H:Hp)(s:Shared)(Q:VK)(u:Value)(s':Shared):Prop:=
 ∃v H',s'.os=s.os∧AllBare s'.gens∧Un (frs outer) [] H H' s.heap s'.heap∧Gs P w H' s'.heap∧RelV v u∧Q v H'
def CR(CX:CXT)(outer:List Env)(P:Program)(w:World)(H:Hp)(s:Shared)(Q:VK)(E:XK)(r:Result)(s':Shared):Prop:=
 match r with
 | .ok (.ret u)=>CE outer P w H s Q u s'
 | .ok _=>False
 | .error e=>CX outer H s E e s'
structure Fj(P:Program)(w:World)(K:aJ)(mg:Str→Option Value)(base:Heap)(CX:CXT)(k:Nat)(f:Addr)(fd:FuncData)(ps:List Str)(sp:Sp):Prop where
 len:∀vs H Q E,sp vs H Q E→vs.length=ps.length
 run:∀(A:Around)(outer:List Env)(s:Shared)(H:Hp)(args:Args)(us:List Value)(vs:List V)(Q:VK)(E:XK),lA k A→dw P w K mg base A outer s H→BindsTo s fd args (ps.zip us)→Vals vs us→sp vs H Q E →
  codeAny (model P w) A (.call (.ref f) args) (CR CX outer P w H s Q E) s
B5 dw.make{P:Program}{w:World}{K:aJ}{mg:Str→Option Value}{base:Heap}{A:Around}{outer:List Env}{s:Shared}{H:Hp}(e:dw P w K mg base A outer s H)(C:Addr)(us:List Value)(kw:List (Str×Value)) :
  dw P w K mg base (A.under (.builtin "type.__call__" ⟨.ref C::us,kw⟩)) outer s H:=⟨by first | ~e.frames | (simpa[Around.under,Code.envs,Code.isFrame,pushEnvs]using e.frames),e.mod,e.bs,e.bsz,e.Qe,e.frf,e.hok,e.bare⟩
section
variable{X:Cx}{pins:List (Addr×Obj)}{σ:St}{H:Hp}{s s':Shared}
B5 Inv.env0(I:Inv X pins σ H s):dw X.prog X.w X.K X.mg X.base X.A X.stack s H:=
 ⟨I.ok.frames,I.ok.mod,I.bs,G0 I.ok.bsz I.sz,I.stack,I.qy,I.hok,I.bare⟩
B5 Inv.after{Q:VK}{u:Value}(I:Inv X pins σ H s)(h:CE X.stack X.prog X.w H s Q u s'):EP X pins σ Q u s':=by
 B3⟨v,H',os,bare,un,hok,r,q⟩:=h
 B3⟨hh,g,d,t,os'⟩:=s'
 B3 rfl:os'=s.os:=os
 ~⟨v,H',I.call (h':=hh) (g':=g) (d':=d) (t':=t) (ch:=[]) un hok bare (fun b z=>absurd z (by simp)),r,q⟩
end
def Sd(sp:Sp)(Lr:List V)(E:XK)(t:TA):TE:=fun σ H Q=>t σ H fun vs H1=>sp (vs++Lr) H1 Q E
def Ot(C:Addr)(m:Str)(sp:Sp)(Lr:List V)(E:XK)(ta:TE)(t:TA):TE:=fun σ H Q=>ta σ H fun x H1=>∃a dx fs,x=.ref a∧H1 a=some (.ins C dx fs)∧fs.lookup m=none ∧
 t σ H1 fun vs H2=>sp (x::(vs++Lr)) H2 Q E
def aF7(C:Addr)(sp:Sp)(Lr:List V)(E:XK)(t:TA):TE:=fun σ H Q=>t σ H fun vs H1=>∀x dx,H1 x=none→H1 dx=none→dx≠x →
 sp (.ref x::(vs++Lr)) (upd (upd H1 dx (.own x)) x (.ins C dx [])) (fun v H2=>v=.non∧Q (.ref x) H2) E
def Binds(K:aJ)(fd:FuncData)(ps:List Str)(ds:List Value):Prop:=
 ∀(s:Shared)(us:List Value),K.In s.heap→(us++ds).length=ps.length→BindsTo s fd ⟨us,[]⟩ (ps.zip (us++ds))
B5 Binds.all{K:aJ}{fd:FuncData}{ps:List Str}(h:∀us:List Value,us.length=ps.length→bindArgs fd ⟨us,[]⟩=pure (ps.zip us)):Binds K fd ps []:=fun s us _ hl=>by
 rw[F3]at hl ⊢
 ~.of_eq (h us hl)
def Passes(CX:CXT)(X:Cx)(E:XK):Prop:=∀(pins:List (Addr×Obj))(σ:St)(H:Hp)(s:Shared)(e:Value)(s':Shared),Inv X pins σ H s→CX X.stack H s E e s'→X.xe e s'
section
variable{X:Cx}{CX:CXT}{k:Nat}{f C:Addr}{fd:FuncData}{ps:List Str}{sp:Sp}{Lr:List V}{ds:List Value}{E:XK}{x m:Str}{p pos apos:Pos}{e o:Expr}{es:List Expr}{ta:TE}{t:TA}
B5 dz{pins:List (Addr×Obj)}{σ:St}{H:Hp}{s:Shared}{Q:VK}{us:List Value}{vs:List V}(F:Fj X.prog X.w X.K X.mg X.base CX k f fd ps sp)(hr:lA k X.A)(hb:Binds X.K fd ps ds)(hd:Vals Lr ds)(hx:Passes CX X E)
  (I:Inv X pins σ H s) (r:Vals vs us) (h:sp (vs++Lr) H Q E):wpAny (model X.prog X.w) X.A (call (.ref f) us) (EP X pins σ Q) X.xe s:=by
 have r2:Vals (vs++Lr) (us++ds):=r.append hd
 have hl:(us++ds).length=ps.length:=by rw[←r2.length];~F.len _ _ _ _ h
 &wpAny_call (codeAny_mono (F.run X.A X.stack s H ⟨us,[]⟩ (us++ds) (vs++Lr) Q E hr I.env0 (hb s us I.Lw hl) r2 h) fun r s' hq=>?_)
 cases r with
 | error e=>~hx pins σ H s e s' I hq
 | ok fl=>
  cases fl with
  | ret u=>~I.after hq
  | next=>~False.elim hq
  | brk=>~False.elim hq
  | cont=>~False.elim hq
B5 aEp(F:Fj X.prog X.w X.K X.mg X.base CX k f fd ps sp)(hr:lA k X.A)(hg:Gl X x)(hm:X.mg x=some (.ref f))(hk:K2 X.K (.ref f)=true)(hb:Binds X.K fd ps ds)(hd:Vals Lr ds)(hx:Passes CX X E)
  (ha:PA X (e::es) t) (hdb:(x==("__debug__" : Str))=false:=by decide) (he:starEach (e::es) X.env=(false,eval e X.env)::starEach es X.env:=by rfl) (hpl:(backTo pos (starEach es X.env)).any (·.1)=false:=by rfl) :
  PE X (.Call (.Name x p) (e::es) [] pos) (Sd sp Lr E t):=by
 intro pins s σ H Q I h
 &wpAny_Call_Name_kw (CZ I hg hm ?_ hdb)
 &V7 (h₀:=X.base) I.ok.mod.kin hk (jG (ha pos pins s σ H _ I h) fun us s1 ⟨vs,H1,I1,r,q⟩=>⟨I1.Lw,?_⟩) he hpl
 ~dz F hr hb hd hx I1 r q
B5 DN{pl:Sem Bool}(he:PE X o ta)(c:Cls X.K C)(hm:Meth X.K C m f)(F:Fj X.prog X.w X.K X.mg X.base CX k f fd ps sp)(hr:lA k X.A)(hb:Binds X.K fd ps ds)(hd:Vals Lr ds)(hx:Passes CX X E)(ha:PA X (e::es) t)
  (hst:starEach (e::es) X.env=(false,eval e X.env)::starEach es X.env:=by rfl) (hpl:(backTo pos (starEach es X.env)).any (·.1)=false:=by rfl)
  (ht:eval (.Call (.Attribute o m apos) (e::es) [] pos) X.env=(do
   let ov ←eval o X.env
   standAt apos.atName
   let (f,first) ←holding [ov] (getMethod ov m pl)
   callWith pos f first (backTo pos (starEach (e::es) X.env)) (backToKw pos (keywordEach [] X.env))):=by rfl) :
  PE X (.Call (.Attribute o m apos) (e::es) [] pos) (Ot C m sp Lr E ta t):=by
 intro pins s σ H Q I h
 &a7 (pl:=pl) (jG (he pins s σ H _ I h) fun u s1 ⟨x,H1,I1,rx,a,dx,fs,ex,ea,l,q⟩=>?_) ht
 subst ex
 B3 rfl:u=Value.ref a:=rx
 &Rz I1 ea c hm l ?_
 &V7 (first:=[.ref a]) (h₀:=X.base) I.ok.mod.kin hm.kp (jG (ha pos pins s1 σ H1 _ I1 q) fun us s2 ⟨vs,H2,I2,r,q2⟩=>⟨I2.Lw,?_⟩) hst hpl
 ~dz (us:=.ref a::us) (vs:=.ref a::vs) F hr hb hd hx I2 (.cons rfl r) q2
B5 aBK{pl:Sem Bool}(he:PE X o ta)(c:Cls X.K C)(hm:Meth X.K C m f)(F:Fj X.prog X.w X.K X.mg X.base CX k f fd ps sp)(hr:lA k X.A)(hb:Binds X.K fd ps ds)(hd:Vals Lr ds)(hx:Passes CX X E)
  (ht:eval (.Call (.Attribute o m apos) [] [] pos) X.env=(do
   let ov ←eval o X.env
   standAt apos.atName
   let (f,first) ←holding [ov] (getMethod ov m pl)
   callWith pos f first (backTo pos (starEach [] X.env)) (backToKw pos (keywordEach [] X.env))):=by rfl) :
  PE X (.Call (.Attribute o m apos) [] [] pos) (Ot C m sp Lr E ta oK):=by
 intro pins s σ H Q I h
 &a7 (pl:=pl) (jG (he pins s σ H _ I h) fun u s1 ⟨x,H1,I1,rx,a,dx,fs,ex,ea,l,q⟩=>?_) ht
 subst ex
 B3 rfl:u=Value.ref a:=rx
 &Rz I1 ea c hm l ?_
 ~PySem.W.callWith_K0 (first:=[.ref a]) I1.Lw hm.kp (dz (us:=[.ref a]) (vs:=[.ref a]) F hr hb hd hx I1 (.cons rfl .nil) q)
structure Mk(K:aJ)(C f:Addr):Prop where
 makes:U1 K C=true
 init:G2 K (.ref C) "__init__" = some (some (.ref f))
 fn:O7 K (.ref f)=true
 kp:K2 K (.ref C)=true
B5 aBL{pins:List (Addr×Obj)}{σ:St}{H:Hp}{s:Shared}{Q:VK}{us:List Value}{vs:List V}(M:Mk X.K C f)(F:Fj X.prog X.w X.K X.mg X.base CX k f fd ps sp)(hr:lA (k+1) X.A)(hb:Binds X.K fd ps ds)(hd:Vals Lr ds)
  (hx:Passes CX X E) (I:Inv X pins σ H s) (r:Vals vs us)
  (h:∀x dx,H x=none→H dx=none→dx≠x→sp (.ref x::(vs++Lr)) (upd (upd H dx (.own x)) x (.ins C dx [])) (fun v H2=>v=.non∧Q (.ref x) H2) E) :
  wpAny (model X.prog X.w) X.A (call (.ref C) us) (EP X pins σ Q) X.xe s:=by
 have hq:=h (s.heap.objs.size+1) s.heap.objs.size (I.hok.fresh (M9 _)) (I.hok.fresh (C5 _)) (E7 (M7 _))
 have I2:=Inv.made (C:=C) I
 have r2:Vals (V.ref (s.heap.objs.size+1)::(vs++Lr)) (Value.ref (s.heap.objs.size+1)::(us++ds)):=.cons rfl (r.append hd)
 have hl:(Value.ref (s.heap.objs.size+1)::us++ds).length=ps.length:=by
  have e:=r2.length
  rw[F.len _ _ _ _ hq]at e
  ~e.symm
 &wpAny_call (aBD (f:=f) I.Lw M.makes M.init (beq_iff_eq.mp M.fn) (codeAny_mono (F.run _ X.stack _ _ ⟨Value.ref (s.heap.objs.size+1)::us,[]⟩ (Value.ref (s.heap.objs.size+1)::(us++ds)) _ _ E (hr.make C us [])
  (I2.env0.make C us []) (hb _ (Value.ref (s.heap.objs.size+1)::us) I2.Lw hl) r2 hq) fun r s' hq'=>?_))
 cases r with
 | error e=>~hx pins σ _ _ e s' I2 hq'
 | ok fl=>
  cases fl with
  | ret u=>
   B3⟨v,H',I3,rv,ev,q3⟩:=I2.after hq'
   subst ev
   ~⟨rv,⟨V.ref (s.heap.objs.size+1),H',I3,rfl,q3⟩⟩
  | next=>~False.elim hq'
  | brk=>~False.elim hq'
  | cont=>~False.elim hq'
B5 aEq(M:Mk X.K C f)(F:Fj X.prog X.w X.K X.mg X.base CX k f fd ps sp)(hr:lA (k+1) X.A)(hg:Gl X x)(hm:X.mg x=some (.ref C))(hb:Binds X.K fd ps ds)(hd:Vals Lr ds)(hx:Passes CX X E)
  (ha:PA X (e::es) t) (hdb:(x==("__debug__" : Str))=false:=by decide) (he:starEach (e::es) X.env=(false,eval e X.env)::starEach es X.env:=by rfl) (hpl:(backTo pos (starEach es X.env)).any (·.1)=false:=by rfl) :
  PE X (.Call (.Name x p) (e::es) [] pos) (aF7 C sp Lr E t):=by
 intro pins s σ H Q I h
 &wpAny_Call_Name_kw (CZ I hg hm ?_ hdb)
 &V7 (h₀:=X.base) I.ok.mod.kin M.kp (jG (ha pos pins s σ H _ I h) fun us s1 ⟨vs,H1,I1,r,q⟩=>⟨I1.Lw,?_⟩) he hpl
 ~aBL M F hr hb hd hx I1 r q
end
section
variable{X:Cx}{CX:CXT}{k:Nat}{f C:Addr}{fd:FuncData}{ps ks:List Str}{sp:Sp}{E:XK}{x m:Str}{p pos apos kpos:Pos}{e o:Expr}{es:List Expr}{kws:List Keyword}{te ta:TE}{t tk:TA}{nm:Option Str}
structure aKA(K:aJ)(fd:FuncData)(ps ks:List Str)(g:List Value→List Value→List Value)(gV:List V→List V→List V):Prop where
 to:∀(s:Shared)(us ws:List Value),K.In s.heap→(g us ws).length=ps.length→BindsTo s fd ⟨us,ks.zip ws⟩ (ps.zip (g us ws))
 rel:∀{vs:List V} {us:List Value} {zs:List V} {ws:List Value},Vals vs us→Vals zs ws→Vals (gV vs zs) (g us ws)
variable{g:List Value→List Value→List Value}{gV:List V→List V→List V}
end
structure aZ(N P:List Str)(sc:Scope):Prop where
 kind:sc.kind=.function
 co:sc.isCoroutine=false
 gen:sc.isGenerator=false
 nd:N.Nodup
 pre:N.take P.length=P
 par:∀x∈P,sc.names.lookup x=some .local∨sc.names.lookup x=some .cell
 aHg:∀y∈sc.names,y.2≠.free
B5 Yc{kindOf:Str→Option NameKind}{x:Str}:∀{binds:List (Str×Value)} {m:Str→Option Value},(∀v,(x,v)∉binds)→bindL kindOf binds m x=m x
 | [],_,_=>rfl
 | (n,v)::r,m,h=>by
  B4 bindL
  rw[Yc fun w hw=>h w (C8 _ hw)]
  split
  ·have:x≠n:=by rintro rfl;~h v D6
   simp[this]
  ·rfl
B5 Yd{kindOf:Str→Option NameKind}{x:Str}:∀{binds:List (Str×Value)} {m:Str→Option Value},(∀v,(x,v)∉binds)→bindC kindOf binds m x=m x
 | [],_,_=>rfl
 | (n,v)::r,m,h=>by
  B4 bindC
  rw[Yd fun w hw=>h w (C8 _ hw)]
  split
  ·rfl
  ·have:x≠n:=by rintro rfl;~h v D6
   simp[this]
B5 Ye{kindOf:Str→Option NameKind}{x:Str}{v:Value}:∀{P:List Str} {vs:List Value} {i:Nat} {m:Str→Option Value},P.Nodup→P[i]?=some x→vs[i]?=some v→kindOf x=some .local →
  bindL kindOf (P.zip vs) m x=some v
 | [],_,_,_,_,h,_,_=>by simp at h
 | _::_,[],_,_,_,_,h,_=>by simp at h
 | p::P,w::vs,0,m,nd,h1,h2,hk=>by
  simp at h1 h2;subst h1;subst h2
  show bindL kindOf ((p,w)::P.zip vs) m p=_
  B4 bindL
  rw[Yc fun v hv=>(K8.mp nd).1 (Y8 hv).1,if_pos hk]
  simp
 | p::P,w::vs,i+1,m,nd,h1,h2,hk=>by
  show bindL kindOf ((p,w)::P.zip vs) m x=_
  B4 bindL
  ~Ye (i:=i) (K8.mp nd).2 (by simpa using h1) (by simpa using h2) hk
B5 Yg{kindOf:Str→Option NameKind}{x:Str}{v:Value}:∀{P:List Str} {vs:List Value} {i:Nat} {m:Str→Option Value},P.Nodup→P[i]?=some x→vs[i]?=some v→kindOf x≠some .local →
  bindC kindOf (P.zip vs) m x=some v
 | [],_,_,_,_,h,_,_=>by simp at h
 | _::_,[],_,_,_,_,h,_=>by simp at h
 | p::P,w::vs,0,m,nd,h1,h2,hk=>by
  simp at h1 h2;subst h1;subst h2
  show bindC kindOf ((p,w)::P.zip vs) m p=_
  B4 bindC
  rw[Yd fun v hv=>(K8.mp nd).1 (Y8 hv).1,if_neg hk]
  simp
 | p::P,w::vs,i+1,m,nd,h1,h2,hk=>by
  show bindC kindOf ((p,w)::P.zip vs) m x=_
  B4 bindC
  ~Yg (i:=i) (K8.mp nd).2 (by simpa using h1) (by simpa using h2) hk
def start(N:List Str)(vs:List V):St:=vs.map some++E4 (N.length-vs.length) none
def Gw(CX:CXT)(P:Program)(w:World)(K:aJ)(mg:Str→Option Value)(base:Heap)(N:List Str)(qual:Str)(scope:Scope)(f:Addr)(cd:Value)(A:Around)(outer:List Env)(s:Shared)(H:Hp)(E:XK):Cx where
 prog:=P
 w:=w
 K:=K
 mg:=mg
 base:=base
 A:=A.deeper (envOfC qual scope s.heap.objs.size f cd)
 N:=N
 s₀:=s
 H₀:=H
 env:=envOfC qual scope s.heap.objs.size f cd
 outer:=outer
 stack:=envOfC qual scope s.heap.objs.size f cd::outer
 ex:=[]
 calm:=true
 fn:=fun _=>true
 pn:=[]
 xe:=fun e s'=>wpAny (model P w) (A.deeper (envOfC qual scope s.heap.objs.size f cd)) (leaving (envOfC qual scope s.heap.objs.size f cd) e) (fun _ s''=>CX outer H s E e s'') (fun e' s''=>CX outer H s E e' s'') s'
B5 QC{sc:Scope}{n:Nat}{x:Str}(h:sc.names.lookup x=some .cell):∃c,(cellsFrom n sc.names []).lookup x=some c:=by
 have q:=Z5 sc.names n [] (.inl h)
 ~X4.mp q
B5 aAi{CX:CXT}{P:Program}{w:World}{K:aJ}{mg:Str→Option Value}{base:Heap}{N ps:List Str}{qual:Str}{scope:Scope}{f:Addr}{cd:Value}{A:Around}{outer:List Env}{s s1:Shared}{H:Hp}{E:XK}{us:List Value}{vs:List V}
  (S:aZ N ps scope) (hd:A.handled=none) (e0:dw P w K mg base A outer s H) (hl:vs.length=ps.length) (r:Vals vs us)
  (x:InCallC s s.heap.objs.size (bindL (envOfC qual scope s.heap.objs.size f cd).kindOf (ps.zip us) fun _=>none) (cellsFrom (s.heap.objs.size+1) scope.names []) (bindC (envOfC qual scope s.heap.objs.size f cd).kindOf (ps.zip us) fun _=>none) s1) :
  Inv (Gw CX P w K mg base N qual scope f cd A outer s H E) [] (start N vs) H s1:=by
 have hpl:ps.length≤N.length:=by have:=congrArg i8 S.pre;rw[J4]at this;omega
 B3⟨h1,tk,rfl,hk⟩:=x.done
 have noA:∀b:Addr,b∉(Gw CX P w K mg base N qual scope f cd A outer s H E).ex:=fun b z=>absurd (show b∈([]:List Addr)from z) (by simp)
 &⟨⟨e0.mod,S.kind,rfl,rfl,C5 _,fun y z c h1 h2=>?_,fun y hy=>?_,fun y c _ h=>?_,fun _=>hd,Around.frames_deeper e0.frames,.inr ⟨rfl,rfl⟩,fun b z=>absurd z (noA b),e0.bs,e0.bsz,fun b _ _=>noA b,fun b z=>absurd z (noA b),e0.Qe,e0.frf⟩,
  rfl,e0.bare,Un.kept hk,⟨_,x.toInCall.ns,fun i y v h1 h2 h3=>?_⟩,fun y c h=>⟨_,x.cell y c h⟩,e0.hok.fresh (C5 _),fun y c h=>?_,fun p hp=>absurd (show p∈([]:List (Addr×Obj))from hp) (by simp),e0.hok.kept hk,?_⟩
 ·~name_of_addr x.apart (M5 h1) (M5 h2)
 ·have hy:scope.names.lookup y=some .cell∨scope.names.lookup y=some .free:=hy
  rcases hy with hy | hy
  ·~QC hy
  ·~absurd rfl (S.aHg _ (M5 hy))
 ·~O5 (x.above y c (M5 h))
 ·have hi:i<vs.length:=by
   B4 start at h2
   by_cases hi:i<vs.length
   ·~hi
   ·rw[L3 (by simpa using hi)]at h2
    rw[P0]at h2
    split at h2<;>cases h2
  have ha:vs[i]?=some v:=by
   B4 start at h2
   rw[G4 (by simpa using hi),B9]at h2
   cases e:vs[i]? with
   | none=>rw[e]at h2;cases h2
   | some a=>rw[e]at h2;cases h2;rfl
  B3⟨u,hu,rv⟩:=r.get ha
  have hp:ps[i]?=some y:=by
   rw[←S.pre,List.getElem?_take_of_lt A6];~h1
  have ndP:ps.Nodup:=by rw[←S.pre];~S.nd.sublist (O1 _ _)
  &⟨u,rv,?_⟩
  rcases S.par y (E6 hp)with k | k
  ·~.inl ⟨k,Ye ndP hp hu k⟩
  ·B3⟨c,e⟩:=QC (n:=s.heap.objs.size+1) k
   &.inr ⟨.inl k,c,e,?_⟩
   have q:=x.cell y c e
   rw[Yg ndP hp hu (by show scope.names.lookup y≠_;rw[k];decide)]at q
   ~q
 ·~e0.hok.fresh (O5 (x.above y c (M5 h)))
 ·B4 start
  show _=N.length
  rw[C7,B6,P8]
  omega
B5 aBM{CX:CXT}{P:Program}{w:World}{K:aJ}{mg:Str→Option Value}{base:Heap}{k:Nat}{f:Addr}{name qual:Str}{params:Arguments}{body:List Stmt}{scope:Scope}{dV kV doc pm cdv ct oc:Value}{an od:Option Addr}
  {osl:Array (Option Value)} {N ps:List Str} {sp:Sp} (lk:K.lookup f=some ⟨oc,od,.func (F8 name qual params body scope dV kV doc pm an cdv ct),osl⟩) (hcd:K3 K cdv qual=true) (S:aZ N ps scope)
  (len:∀vs H Q E,sp vs H Q E→vs.length=ps.length)
  (hbody:∀(A:Around)(outer:List Env)(s:Shared)(H:Hp)(vs:List V)(Q:VK)(E:XK),lA k (A.deeper (envOfC qual scope s.heap.objs.size f cdv))→sp vs H Q E →
   ∃t,bh (Gw CX P w K mg base N qual scope f cdv A outer s H E) body t∧t {nx:=fun _ H'=>Q .non H',rt:=Q} (start N vs) H) :
  Fj P w K mg base CX (k+1) f (F8 name qual params body scope dV kV doc pm an cdv ct) ps sp:=by
 &⟨len,fun A outer s H args us vs Q E hr e0 hb r hsp=>?_⟩
 have hl:=len _ _ _ _ hsp
 have KX:K.In s.heap:=e0.mod.kin.keeps fun b o e=>(e0.bs b o e).1
 have lim:s.heap.NoLimit:=e0.mod.nolimit.keeps fun b o e=>(e0.bs b o e).1
 have hkind:∀y∈ps.zip us,scope.names.lookup y.1=some .local∨(scope.names.lookup y.1=some .cell∧((cellsFrom (s.heap.objs.size+1) scope.names []).lookup y.1).isSome=true):=fun⟨n,v⟩ hy=>by
  rcases S.par n (Y8 hy).1 with q | q
  ·~.inl q
  ·~.inr ⟨q,Z5 _ _ _ (.inl q)⟩
 &codeAny_call_function hr.depth (KX _ _ lk) rfl S.co S.gen rfl (PySem.W.codeRec_of KX hcd) (hb _ _ _ _ ?_)
 &wpAny_newFunctionEnv_cells S.kind hkind fun env he s1 x=>?_
 subst he
 &⟨lim.keeps x.toInCall.keep,codeAny_func ?_⟩
 B3⟨t,ht,hq⟩:=hbody A outer s H vs Q E (hr.deeper _) hsp
 have I:Inv (Gw CX P w K mg base N qual scope f cdv A outer s H E) [] (start N vs) H s1:=aAi S hr.hd e0 hl r x
 &wpAny_mono (ht [] s1 (start N vs) H _ I hq) (fun fl s' hs=>?_) fun e s' hs=>hs
 have fin:∀{σ':St} {H':Hp} {v:V} {u:Value},Inv (Gw CX P w K mg base N qual scope f cdv A outer s H E) [] σ' H' s'→RelV v u→Q v H'→CE outer P w H s Q u s':=
  fun{σ' H' v u} J rv q=>⟨v,H',J.os,J.bare,J.base,J.hok,rv,q⟩
 cases fl with
 | ret u=>
  B3⟨v,σ',H',J,rv,q⟩:=hs
  ~fin J rv q
 | next=>
  B3⟨σ',H',J,q⟩:=hs
  ~fin (v:=V.non) (u:=Value.none) J rfl q
 | brk=>
  B3⟨_,_,_,q⟩:=hs
  ~False.elim q
 | cont=>
  B3⟨_,_,_,q⟩:=hs
  ~False.elim q
end L2
namespace L2
open PySem PySem.Spec PyProof.Rows
section
variable{X:Cx}{x:Str}{p pos:Pos}{e:Expr}{es:List Expr}{t:TA}{id T:String}{r:List V→Hp→VK→Prop}
def tCB(r:List V→Hp→VK→Prop)(t:TA):TE:=fun σ H Q=>t σ H fun vs H1=>r vs H1 Q
B5 QD(hc:oJ X (.builtin id) r)(hg:Gl X x)(hm:X.mg x=none)(hv:bootBuiltins x=some (.builtin id))(ha:PA X (e::es) t)(hn:x ≠ "__name__" := by decide) (hdb:(x==("__debug__" : Str))=false:=by decide)
  (he:starEach (e::es) X.env=(false,eval e X.env)::starEach es X.env:=by rfl) (hpl:(backTo pos (starEach es X.env)).any (·.1)=false:=by rfl):PE X (.Call (.Name x p) (e::es) [] pos) (tCB r t):=by
 intro pins s σ H Q I h
 &wpAny_Call_Name_kw (yW I hg hm hv ?_ hn hdb)
 ~U2 (jG (ha pos pins s σ H _ I h) fun us s1 ⟨vs,H1,I1,r1,q1⟩=>hc pins s1 σ H1 vs us Q I1 r1 q1) he hpl
B5 aAj(hc:oJ X (.type T) r)(hg:Gl X x)(hm:X.mg x=none)(hv:bootBuiltins x=some (.type T))(ha:PA X (e::es) t)(hn:x ≠ "__name__" := by decide) (hdb:(x==("__debug__" : Str))=false:=by decide)
  (he:starEach (e::es) X.env=(false,eval e X.env)::starEach es X.env:=by rfl) (hpl:(backTo pos (starEach es X.env)).any (·.1)=false:=by rfl):PE X (.Call (.Name x p) (e::es) [] pos) (tCB r t):=by
 intro pins s σ H Q I h
 &wpAny_Call_Name_kw (yW I hg hm hv ?_ hn hdb)
 ~L0 (jG (ha pos pins s σ H _ I h) fun us s1 ⟨vs,H1,I1,r1,q1⟩=>hc pins s1 σ H1 vs us Q I1 r1 q1) he hpl
end
end L2
namespace HT
open PySem PyProof.Rows
B5 aBN(A:Around)(s:Shared)(a:Int)(t:Tok)(c:Int)(u:Tok)(prog:Program)(w:World)(E:Value→Shared→Prop)(Q:Value→Shared→Prop)(h:Q (.bool (decide (a<c))) s) :
  wpAny (model prog w) A (richCompare .Lt (.int a t) (.int c u)) Q E s:=
 (PyProof.Rows.lt_int h:wpAny (model prog w) A (compareOp .Lt (.int a t) (.int c u)) Q E s)
section
open PySem.SeqAt
open PySem.AutoSeq1 (wpAny_loadPart')
open PySem.MeetsSeq PySem.MeetsSeq2 PySem.MeetsSeq3
end
section
variable{prog:Program}{w:World}{A:Around}{E:Value→Shared→Prop}{s:Shared}
B5 aEr{t b:Addr}{vs ws:List Value}{Q:Value→Shared→Prop}(ht:IsTup s.heap t vs.toArray)(hb:IsTup s.heap b ws.toArray)(hv:vs≠[])
  (h1:ws=[]→Q (.ref t) s) (h2:ws≠[]→Q (.ref s.heap.objs.size) {s with heap:=s.heap.push {cls:=.type "tuple", data:=.seq (vs++ws).toArray}})
  (hsz:vs.length+ws.length≤sizeLine):wpAny (model prog w) A (binaryOp .Add (.ref t) (.ref b)) Q E s:=by
 B3⟨⟨cls,dd,data,sl⟩,ho,hc,n,hd⟩:=id ht
 B3⟨⟨cls2,dd2,data2,sl2⟩,ho2,hc2,n2,hd2⟩:=id hb
 simp only at hc hd hc2 hd2
 subst hc hd hc2 hd2
 have e:vs.toArray++ws.toArray=(vs++ws).toArray:=by simp
 by_cases hw:ws=[]
 ·~concat_meets ⟨_,ho,rfl⟩ ⟨_,ho2,rfl⟩ noFill_tuple_add seq_tuple_add S0 R8 (R1 _ _)
   (tuple_addW1 t b vs.toArray ws.toArray n n2 dd dd2 sl sl2 (by simpa using hv) (by simp[hw])) ⟨ho,ho2,h1 hw⟩
 ·&concat_meets ⟨_,ho,rfl⟩ ⟨_,ho2,rfl⟩ noFill_tuple_add seq_tuple_add S0 R8 (R1 _ _)
   (tuple_addW2 t b vs.toArray ws.toArray n n2 dd dd2 sl sl2 (by simpa using hv) (by simpa using hw) (by rw[C6,C6];~hsz)) ⟨ho,ho2,?_⟩
  rw[e]
  ~h2 hw
def Wm(n d:Nat):Option Int→Nat
 | none=>d
 | some v=>if v<0 then(v+(n:Int)).toNat else min v.toNat n
B5 aEs(n d k:Nat):Wm n d (some (k:Int))=min k n:=by
 show (if(k:Int)<0 then((k:Int)+(n:Int)).toNat else min (k:Int).toNat n)=min k n
 rw[if_neg A6,D7]
end
end HT
namespace L2
open PySem PySem.Spec PyProof.Rows
abbrev TO:=St→Hp→(Option Int→Hp→Prop)→Prop
def PO(X:Cx)(e:Option Expr)(t:TO):Prop:=
 ∀(pins:List (Addr×Obj))(s:Shared)(σ:St)(H:Hp)(Q:Option Int→Hp→Prop),Inv X pins σ H s→t σ H Q →
  wpAny (model X.prog X.w) X.A (evalPart e X.env) (fun u s'=>∃o H',Inv X pins σ H' s'∧IsPart u o∧Q o H') X.xe s
def uc:TO:=fun _ H Q=>Q none H
def aF9(t:TE):TO:=fun σ H Q=>t σ H fun x H1=>∃i,x=.int i∧Q (some i) H1
B5 intsAre_of{ns:List Int}:∀{us:List Value},Vals (ns.map V.int) us→IntsAre us ns:=by
 induction ns with
 | nil=>intro us r;rw[G6]at r;cases r;~.nil
 | cons n ns ih=>
  intro us r
  rw[D3]at r
  cases r with
  | cons r1 r2=>
   B3⟨t,e⟩:=r1
   subst e
   ~.cons n t (ih r2)
section
variable{X:Cx}{e:Expr}{te:TE}{lo hi:Option Expr}{tl th:TO}{pos p2:Pos}
B5 aEt:PO X none uc:=by
 intro pins s σ H Q I h
 rw[evalPart_none]
 ~wpAny_pure ⟨none,H,I,.none,h⟩
B5 aEu(h:PE X e te):PO X (some e) (aF9 te):=by
 intro pins s σ H Q I hw
 rw[evalPart_some]
 &jG (h pins s σ H _ I hw) fun u s1 ⟨x,H1,I1,r1,q1⟩=>?_
 B3⟨i,rfl,q⟩:=q1
 B3⟨t,rfl⟩:=r1
 ~⟨some i,H1,I1,.int i t,q⟩
def SlR(X:Cx)(r:V→Option Int→Option Int→Hp→VK→Prop):Prop:=
 ∀(pins:List (Addr×Obj))(s:Shared)(σ:St)(H:Hp)(x:V)(v vl vu:Value)(lo hi:Option Int)(sl:Addr)(Q:VK),Inv X pins σ H s→RelV x v→s.heap.IsSliceOf sl vl vu .none→IsPart vl lo→IsPart vu hi→r x lo hi H Q →
  ∃T id,typeLookup (.type T) "__getitem__" = pure (some (.builtin id))∧s.TypeIs v T∧wpAny (model X.prog X.w) X.A (getItem v (.ref sl)) (EP X pins σ Q) X.xe s
def tSl(r:V→Option Int→Option Int→Hp→VK→Prop)(te:TE)(tl th:TO):TE:=fun σ H Q=>te σ H fun x H1=>tl σ H1 fun l H2=>th σ H2 fun u H3=>r x l u H3 Q
B5 QF{r:V→Option Int→Option Int→Hp→VK→Prop}(hr:SlR X r)(he:PE X e te)(hl:PO X lo tl)(hu:PO X hi th):PE X (.Subscript e (.Slice lo hi none p2) pos) (tSl r te tl th):=by
 intro pins s σ H Q I h
 &Subscript_ (jG (he pins s σ H _ I h) fun v s1 ⟨x,H1,I1,r1,q1⟩=>?_)
 &wpAny_Slice (jG (hl pins s1 σ H1 _ I1 q1) fun vl s2 ⟨l,H2,I2,pl,q2⟩=>jG (hu pins s2 σ H2 _ I2 q2) fun vu s3 ⟨u,H3,I3,pu,q3⟩=>?_)
 rw[evalPart_none]
 &wpAny_pure ?_
 have I4:Inv X pins σ H3 {s3 with heap:=s3.heap.push {cls:=.type "slice", data:=.fields #[vl,vu,.none]}}:=I3.kept (t':=s3.toks) fun b ob q=>Heap.get?_push_of_some _ q
 B3⟨T,id,hT,ht,hg⟩:=hr pins {s3 with heap:=s3.heap.push {cls:=.type "slice", data:=.fields #[vl,vu,.none]}} σ H3 x v vl vu l u s3.heap.objs.size Q I4 r1 (Heap.IsSliceOf.new ..) pl pu q3
 show wpAny (model X.prog X.w) X.A (subscriptTail e (.Slice lo hi none p2) v (.ref s3.heap.objs.size)) (EP X pins σ Q) X.xe {s3 with heap:=s3.heap.push {cls:=.type "slice", data:=.fields #[vl,vu,.none]}}
 ~tail_any (ops:=[.ref s3.heap.objs.size,v]) ht hT hg (by with_unfolding_all rfl)
def fj(xs:List V)(lo hi:Option Int):List V:=(xs.drop (HT.Wm xs.length 0 lo)).take (HT.Wm xs.length xs.length hi-HT.Wm xs.length 0 lo)
B5 QG(xs:List V)(lo hi:Option Int):(fj xs lo hi).length≤xs.length:=by
 B4 fj
 rw[J4,Q5]
 omega
def aI7(K:aJ):R2:=fun x y H Q=>∃a b xs ys,x=.ref a∧y=.ref b∧yV K H a xs∧yV K H b ys∧xs≠[]∧xs.length+ys.length≤sizeLine ∧
 (ys=[]→Q (.ref a) H)∧(ys≠[]→∀p,H p=none→Q (.ref p) (upd H p (.tup (xs++ys))))
B5 Vals.Qx{xs:List V}{us:List Value}(r:Vals xs us):us=[]↔xs=[]:=by
 cases r with
 | nil=>simp
 | cons _ _=>simp
B5 aEv:xR X (binaryOp .Add) (aI7 X.K):=by
 intro pins s σ H x y v u Q I rx ry h
 B3⟨a,b,xs,ys,rfl,rfl,ha,hb,hx,hz,q1,q2⟩:=h
 cases rx
 cases ry
 B3⟨its,r1,p1,_⟩:=I.tuple ha
 B3⟨its2,r2,p2,_⟩:=I.tuple hb
 &HT.aEr p1 p2 (fun z=>hx (r1.Qx.mp z)) (fun z=>⟨.ref a,H,I,rfl,q1 (r2.Qx.mp z)⟩) (fun z=>?_) (by rw[←r1.length,←r2.length];~hz)
 &⟨.ref s.heap.objs.size,_,I.laid (t':=s.toks) (o:=.tup (xs++ys)) (fun b ob q=>Heap.get?_push_of_some _ q) (C5 _) ?_,rfl,q2 (fun w=>z (r2.Qx.mpr w)) _ (I.hok.fresh (C5 _))⟩
 ~⟨by rw[C7];~hz,_,r1.append r2,IsTup.new _ _⟩
end
end L2
namespace L2
open PySem PySem.Spec PyProof.Rows
def aq(n:Nat)(i:Int):Option Nat:=if 0≤i then(if i<n then some i.toNat else none)else if -(n:Int)≤i then some (i+n).toNat else none
def au{α:Type}(xs:List α)(i:Int):Option α:=(aq xs.length i).bind fun j=>xs[j]?
B5 ud{n:Nat}{i:Int}{j:Nat}(h:aq n i=some j):seqIndex? i n=some j∧j<n∧-(n:Int)≤i∧i<n:=by
 B4 aq at h
 by_cases h0:0≤i
 ·rw[if_pos h0]at h
  by_cases h1:i<n
  ·rw[if_pos h1]at h
   have e:i.toNat=j:=F5 h
   ~⟨by rw[seqIndex_of h0 h1,e],by omega,by omega,h1⟩
  ·rw[if_neg h1]at h;cases h
 ·rw[if_neg h0]at h
  by_cases h1:-(n:Int)≤i
  ·rw[if_pos h1]at h
   have e:(i+n).toNat=j:=F5 h
   ~⟨by rw[seqIndex_neg A6 h1,e],by omega,h1,by omega⟩
  ·rw[if_neg h1]at h;cases h
B5 DP{α:Type}{xs:List α}{i:Int}{v:α}(h:au xs i=some v):∃j,seqIndex? i xs.length=some j∧xs[j]?=some v∧j<xs.length∧-(xs.length:Int)≤i∧i<xs.length:=by
 B4 au at h
 cases e:aq xs.length i with
 | none=>rw[e]at h;cases h
 | some j=>
  rw[e]at h
  B3⟨h1,h2,h3,h4⟩:=ud e
  ~⟨j,h1,h,h2,h3,h4⟩
B5 aEw{α:Type}{xs:List α}{j:Nat}{v:α}(h:xs[j]?=some v):au xs (j:Int)=some v:=by
 have hj:j<xs.length:=(D2.mp h).1
 have e:aq xs.length (j:Int)=some j:=by
  B4 aq
  rw[if_pos A6,if_pos A6];simp
 B4 au;rw[e];~h
def DQ(b:Expr):Prop:=∀o i,subscripted b false o i=operate [o,i] (getItem o i)
def IxR(X:Cx)(r:R2):Prop:=
 ∀(value slice:Expr)(pins:List (Addr×Obj))(s:Shared)(σ:St)(H:Hp)(x y:V)(v u:Value)(Q:VK),Inv X pins σ H s→RelV x v→RelV y u→r x y H Q →
  subscripted slice false v u=operate [v,u] (getItem v u)→wpAny (model X.prog X.w) X.A (subscriptTail value slice v u) (EP X pins σ Q) X.xe s
def MtR(X:Cx)(id:String)(r:V→List V→Hp→VK→Prop):Prop:=
 ∀(pins:List (Addr×Obj))(s:Shared)(σ:St)(H:Hp)(x:V)(xs:List V)(v:Value)(us:List Value)(Q:VK),Inv X pins σ H s→RelV x v→Vals xs us→r x xs H Q →
  wpAny (model X.prog X.w) X.A (call (.builtin id) (v::us)) (EP X pins σ Q) X.xe s
section
variable{X:Cx}{a b:Expr}{ta tb:TE}{pos:Pos}
B5 IxR.or{r r':R2}(h:IxR X r)(h':IxR X r'):IxR X (fun x y H Q=>r x y H Q∨r' x y H Q):=by
 intro value slice pins s σ H x y v u Q I rx ry q hs
 rcases q with q | q
 ·~h value slice pins s σ H x y v u Q I rx ry q hs
 ·~h' value slice pins s σ H x y v u Q I rx ry q hs
B5 aGa{r:R2}(hr:IxR X r)(ha:PE X a ta)(hb:PE X b tb)(hs:DQ b):PE X (.Subscript a b pos) (Xx r ta tb):=by
 intro pins s σ H Q I h
 ~Subscript_ (aG5 ha hb I h fun v u s2 x y H2 I2 rx ry q=>hr a b pins s2 σ H2 x y v u Q I2 rx ry q (hs _ _))
def aI8(K:aJ):R2:=fun x y H Q=>∃p xs i v,x=.ref p∧y=.int i∧rJ K H p xs∧au xs i=some v∧Q v H
def aI9(K:aJ):R2:=fun x y H Q=>∃p xs i v,x=.ref p∧y=.int i∧yV K H p xs∧au xs i=some v∧Q v H
def aJa:R2:=fun x y H Q=>∃z i c,x=.str z∧y=.int i∧z.length≤sizeLine∧au z.cps.toList i=some c∧Q (.str ⟨#[c]⟩) H
B5 aEx:IxR X (aI8 X.K):=by
 intro value slice pins s σ H x y v u Q I rx ry h hs
 B3⟨p,xs,i,z,rfl,rfl,hq,he,q⟩:=h
 cases rx
 B3⟨t,rfl⟩:=ry
 B3⟨its,r,pl,hz⟩:=I.list hq
 B3⟨j,h1,h2,h3,h4,h5⟩:=DP he
 B3⟨w,ew,Qy⟩:=r.get h2
 have hl:=r.length
 have hn:=Ry
 have fin:EP X pins σ Q w s:=⟨z,H,I,Qy,q⟩
 by_cases h0:0≤i
 ·have hj:i.toNat=j:=by
   rw[seqIndex_of h0 h5]at h1
   ~F5 h1
  ~item_listR pl.isList h0 A6 (by rw[hj];simpa using ew) fin hs
 ·have hj:(i+(its.toArray.size:Int)).toNat=j:=by
   rw[seqIndex_neg A6 h4]at h1
   rw[C6,←hl]
   ~F5 h1
  ~subscriptTail_builtinR (x:=w) pl.isList.typeIs slot_list_getitem.lookup
   (wpAny_getItem_list_neg (Q:=fun r s'=>r=w∧EP X pins σ Q r s') pl.isList A6 (by rw[C6]<;>omega) A6 (by rw[hj];simpa using ew) ⟨rfl,fin⟩) hs
B5 aHh:IxR X (aI9 X.K):=by
 intro value slice pins s σ H x y v u Q I rx ry h hs
 B3⟨p,xs,i,z,rfl,rfl,hq,he,q⟩:=h
 cases rx
 B3⟨t,rfl⟩:=ry
 B3⟨its,r,pl,hz⟩:=I.tuple hq
 B3⟨j,h1,h2,h3,h4,h5⟩:=DP he
 B3⟨w,ew,Qy⟩:=r.get h2
 have hl:=r.length
 have hn:=Ry
 have fin:EP X pins σ Q w s:=⟨z,H,I,Qy,q⟩
 ~subscriptTail_builtinR (x:=w) pl.typeIs slot_tuple_getitem.lookup
  (getItem_tuple (j:=j) (Q:=fun r s'=>r=w∧EP X pins σ Q r s') pl A6 A6 (by rw[C6,←hl];~h1) (by simpa using ew) ⟨rfl,fin⟩) hs
B5 aHi:IxR X aJa:=by
 intro value slice pins s σ H x y v u Q I rx ry h hs
 B3⟨z,i,c,rfl,rfl,hz,he,q⟩:=h
 B3⟨t,rfl⟩:=rx
 B3⟨t',rfl⟩:=ry
 B3⟨j,h1,h2,h3,h4,h5⟩:=DP he
 have hl:z.cps.toList.length=z.length:=by simp[Str.length]
 rw[hl]at h1 h4 h5
 have hn:=Ry
 ~tail_any (typeIs_str s z t) slot_str_getitem.lookup (getItem_str (c:=c) (by
  have e1:decide (i < -(2 ^ 63:Int))=false:=decide_eq_false A6
  have e2:decide (i≥2 ^ 63)=false:=decide_eq_false A6
  rw[e1,e2,m9]) (by rw[h1];simpa using h2) ⟨.str ⟨#[c]⟩,H,I.tok _,⟨_,rfl⟩,q⟩) hs
def rIx(K:aJ):R2:=fun x y H Q=>aI8 K x y H Q∨aI9 K x y H Q∨aJa x y H Q
B5 aHj:IxR X (rIx X.K):=aEx.or (aHh.or aHi)
B5 gf(its:List Value)(n j:Nat)(u:Value):Obj.mapSeq (·.setIfInBounds j u) {cls:=.type "list", data:=.seq its.toArray n}={cls:=.type "list", data:=.seq (its.set j u).toArray n}:=by
 simp[Obj.mapSeq]
B5 Inv.lst{pins:List (Addr×Obj)}{σ:St}{H:Hp}{s:Shared}{p:Addr}{xs:List V}(I:Inv X pins σ H s)(h:H p=some (.lst xs)) :
  ∃(its:List Value)(n:Nat),Vals xs its∧s.heap.get? p=some {cls:=.type "list", data:=.seq its.toArray n}∧xs.length≤sizeLine:=by
 B3⟨z,its,n,r,e⟩:=I.hok p _ h
 ~⟨its,n,r,e,z⟩
B5 Inv.aHk{pins:List (Addr×Obj)}{σ:St}{H:Hp}{s:Shared}{p:Addr}{xs ys:List V}{its its':List Value}{n n':Nat}{f:Obj→Obj}(I:Inv X pins σ H s)(h:H p=some (.lst xs))
  (ho:s.heap.get? p=some {cls:=.type "list", data:=.seq its.toArray n}) (hf:f {cls:=.type "list", data:=.seq its.toArray n}={cls:=.type "list", data:=.seq its'.toArray n'}) (r:Vals ys its') (hz:ys.length≤sizeLine) (t:Nat) :
  Inv X pins σ (upd H p (.lst ys)) {s with heap:=s.heap.update p f,toks:=t}:=by
 have e:(s.heap.update p f).get? p=some {cls:=.type "list", data:=.seq its'.toArray n'}:=by
  rw[Heap.get?_update_self f ho (by rw[hf]<;>rfl),hf]
 &I.write (x:=p) (e:=p) (by rw[h];trivial) (.inl rfl) (fun b u hb q=>(Heap.get?_update_other _ _ (Ne.symm hb)).trans q) ⟨_,e⟩ ?_
 ~⟨hz,its',n',r,e⟩
def Yh:V→V→V→Hp→(Hp→Prop)→Prop:=fun o i v H Q=>∃p xs k j,o=.ref p∧i=.int k∧H p=some (.lst xs)∧aq xs.length k=some j∧Q (upd H p (.lst (xs.set j v)))
B5 set_list:aIV X Yh:=by
 intro pins s σ H o i v ov iv u Q I ro ri rv h
 B3⟨p,xs,k,j,rfl,rfl,hp,hj,q⟩:=h
 cases ro
 B3⟨t,rfl⟩:=ri
 B3⟨its,n,r,ho,hz⟩:=I.lst hp
 B3⟨h1,h2,h3,h4⟩:=ud hj
 have hl:=r.length
 have hn:=Ry
 have I':Inv X pins σ (upd H p (.lst (xs.set j v))) {s with heap:=s.heap.update p (Obj.mapSeq (·.setIfInBounds j u))}:=
  I.aHk hp ho (gf its n j u) (r.set rv j) (by rw[K9];~hz) s.toks
 by_cases h0:0≤k
 ·have hk:k.toNat=j:=by
   rw[seqIndex_of h0 h4]at h1
   ~F5 h1
  ~PySem.W.ki_setAt ho h0 A6 (by rw[C6,←hl];~h4) (by rw[hk];~⟨_,I',q⟩)
 ·have hk:(k+(its.toArray.size:Int)).toNat=j:=by
   rw[seqIndex_neg A6 h3]at h1
   rw[C6,←hl]
   ~F5 h1
  ~PySem.W.ki_setBack ho A6 (by rw[C6,←hl];~h3) A6 (by rw[hk];~⟨_,I',q⟩)
B5 DR(lo hi:Option Int)(n:Nat):(sliceBounds lo hi none n).1=((HT.Wm n 0 lo:Nat):Int)∧(sliceBounds lo hi none n).2.1=((HT.Wm n n hi:Nat):Int)∧(sliceBounds lo hi none n).2.2=1:=by
 &⟨?_,?_,rfl⟩
 ·cases lo with
  | none=>simp[sliceBounds,HT.Wm]
  | some i=>
   simp only[sliceBounds,HT.Wm,j4,show (1:Int) > 0 by decide,if_true]
   by_cases h:i<0
   ·simp only[h,if_true]<;>omega
   ·simp only[h,if_false]<;>omega
 ·cases hi with
  | none=>simp[sliceBounds,HT.Wm]
  | some i=>
   simp only[sliceBounds,HT.Wm,j4,show (1:Int) > 0 by decide,if_true]
   by_cases h:i<0
   ·simp only[h,if_true]<;>omega
   ·simp only[h,if_false]<;>omega
B5 Wn(its:List Value)(lo hi:Option Int):slicePick its.toArray lo hi none=((its.drop (HT.Wm its.length 0 lo)).take (HT.Wm its.length its.length hi-HT.Wm its.length 0 lo)).toArray:=by
 B3⟨h1,h2,h3⟩:=DR lo hi its.toArray.size
 B4 slicePick
 rw[h1,h2,h3]
 simp only[sliceRange_one,pick_run,C6]<;>rfl
def aEy(K:aJ):V→Option Int→Option Int→Hp→VK→Prop:=fun x lo hi H Q=>∃a xs,x=.ref a∧rJ K H a xs∧∀p,H p=none→Q (.ref p) (upd H p (.lst (fj xs lo hi)))
B5 aEz:SlR X (aEy X.K):=by
 intro pins s σ H x v vl vu lo hi sl Q I rx hs pl pu h
 B3⟨a,xs,rfl,hx,q⟩:=h
 cases rx
 B3⟨its,r,ht,hz⟩:=I.list hx
 have hlen:=r.length
 &⟨"list", _,slot_list_getitem.lookup,ht.isList.typeIs,?_⟩
 &wpAny_getItem_list_slice ht.isList hs pl pu .none (by simp) ?_ (by rw[C6]<;>omega)
 rw[Wn,←hlen]
 &⟨.ref s.heap.objs.size,_,I.laid (t':=s.toks) (o:=.lst (fj xs lo hi)) (fun b ob q=>Heap.get?_push_of_some _ q) (C5 _) ?_,rfl,q _ (I.hok.fresh (C5 _))⟩
 ~⟨G0 (QG xs lo hi) hz,_,0,(r.drop (HT.Wm xs.length 0 lo)).take (HT.Wm xs.length xs.length hi-HT.Wm xs.length 0 lo),Heap.get?_push_size _ rfl⟩
def Bo:V→Bool
 | .non=>true
 | .bl _=>true
 | .int _=>true
 | .str _=>true
 | _=>false
def eqV:V→V→Bool
 | .non,.non=>true
 | .bl a,.bl b=>a==b
 | .bl a,.int b=>(if a then 1 else 0)==b
 | .int a,.bl b=>a==(if b then 1 else 0)
 | .int a,.int b=>a==b
 | .str a,.str b=>a==b
 | _,_=>false
B5 aHl{A:Around}{s:Shared}{y x:V}{u v:Value}(ry:RelV y u)(rx:RelV x v)(fy:Bo y=true)(fx:Bo x=true):SeqAt.EqAt A s u v (eqV y x):=by
 cases y with
 | non=>
  cases ry
  cases x with
  | non=>cases rx;~SeqAt.EqAt.same _
  | bl b=>cases rx;~SeqAt.EqAt.none_bool b
  | int b=>B3⟨t,rfl⟩:=rx;~SeqAt.EqAt.none_int b t
  | str b=>B3⟨t,rfl⟩:=rx;~SeqAt.EqAt.none_str b t
  | _=>~absurd (show false=true from fx) E8
 | bl a=>
  cases ry
  cases x with
  | non=>cases rx;~SeqAt.EqAt.bool_none a
  | bl b=>cases rx;~SeqAt.EqAt.bool_bool a b
  | int b=>B3⟨t,rfl⟩:=rx;~SeqAt.EqAt.bool_int a b t
  | str b=>B3⟨t,rfl⟩:=rx;~SeqAt.EqAt.bool_str a b t
  | _=>~absurd (show false=true from fx) E8
 | int a=>
  B3⟨t',rfl⟩:=ry
  cases x with
  | non=>cases rx;~SeqAt.EqAt.int_none a t'
  | bl b=>cases rx;~SeqAt.EqAt.int_bool a t' b
  | int b=>B3⟨t,rfl⟩:=rx;~SeqAt.EqAt.int_int a t' b t
  | str b=>B3⟨t,rfl⟩:=rx;~SeqAt.EqAt.int_str a t' b t
  | _=>~absurd (show false=true from fx) E8
 | str a=>
  B3⟨t',rfl⟩:=ry
  cases x with
  | non=>cases rx;~SeqAt.EqAt.str_none a t'
  | bl b=>cases rx;~SeqAt.EqAt.str_bool a t' b
  | int b=>B3⟨t,rfl⟩:=rx;~SeqAt.EqAt.str_int a t' b t
  | str b=>B3⟨t,rfl⟩:=rx;~SeqAt.EqAt.str_str a t' b t
  | _=>~absurd (show false=true from fx) E8
 | _=>~absurd (show false=true from fy) E8
def eqU(x:V)(u:Value):Bool:=match u with
 | .none=>eqV .non x
 | .bool b=>eqV (.bl b) x
 | .int i _=>eqV (.int i) x
 | .str z _=>eqV (.str z) x
 | _=>false
B5 aBO{x y:V}{u:Value}(r:RelV y u)(f:Bo y=true):eqU x u=eqV y x:=by
 cases y with
 | non=>cases r;rfl
 | bl b=>cases r;rfl
 | int i=>B3⟨t,rfl⟩:=r;rfl
 | str z=>B3⟨t,rfl⟩:=r;rfl
 | _=>~absurd (show false=true from f) E8
B5 DW{x:V}:∀{xs:List V} {us:List Value},Vals xs us→xs.all Bo=true→us.any (eqU x)=xs.any fun y=>eqV y x
 | _,_,.nil,_=>rfl
 | y::xs,u::us,.cons r t,f=>by
  rw[n8,G7]at f
  rw[S9,S9,aBO r f.1,DW t f.2]
B5 Sg{A:Around}{s:Shared}{x:V}{v:Value}(rx:RelV x v)(fx:Bo x=true):∀{xs:List V} {us:List Value},Vals xs us→xs.all Bo=true→∀u∈us,SeqAt.EqAt A s u v (eqU x u)
 | _,_,.nil,_=>fun u hu=>by cases hu
 | y::xs,u::us,.cons r t,f=>fun u' hu=>by
  rw[n8,G7]at f
  rcases D5.mp hu with rfl | hu
  ·rw[aBO r f.1];~aHl r rx f.1 fx
  ·~Sg rx fx t f.2 u' hu
def inV(x:V)(xs:List V):Bool:=xs.any fun y=>eqV y x
def rIn(K:aJ)(neg:Bool):R2:=fun x y H Q=>∃p xs,y=.ref p∧(rJ K H p xs∨yV K H p xs)∧Bo x=true∧xs.all Bo=true∧Q (.bl (if neg then !inV x xs else inV x xs)) H
B5 DX:xR X (compareOp .NotIn) (rIn X.K true):=by
 intro pins s σ H x y v u Q I rx ry h
 B3⟨p,xs,rfl,hq,fx,fs,q⟩:=h
 cases ry
 rcases hq with hq | hq
 ·B3⟨its,r,pl,hz⟩:=I.list hq
  &SeqAt.notIn_listAt (eqU x) pl.isList (fun w hw=>Sg rx fx r fs w (by simpa using hw)) ⟨.bl _,H,I,rfl,?_⟩
  rw[show its.toArray.any (eqU x)=its.any (eqU x) by simp,DW r fs]
  ~q
 ·B3⟨its,r,pl,hz⟩:=I.tuple hq
  &SeqAt.notIn_tupleAt (eqU x) pl (fun w hw=>Sg rx fx r fs w (by simpa using hw)) ⟨.bl _,H,I,rfl,?_⟩
  rw[show its.toArray.any (eqU x)=its.any (eqU x) by simp,DW r fs]
  ~q
B5 DY:oJ X (.builtin "len") (fun xs H Q=>∃p ys,xs=[.ref p]∧(rJ X.K H p ys∨yV X.K H p ys)∧Q (.int ys.length) H):=by
 intro pins s σ H xs us Q I r h
 B3⟨p,ys,rfl,hq,q⟩:=h
 B3⟨u,rfl,rx⟩:=vals1 r
 cases rx
 have hn:=Ry
 rcases hq with hq | hq
 ·B3⟨its,r',pl,hz⟩:=I.list hq
  have hlen:=r'.length
  ~Calls.call_len_list pl.isList (by simp only[C6]<;>omega) ⟨.int ys.length,H,I.tok _,⟨s.toks+1,by rw[C6,hlen]⟩,q⟩
 ·B3⟨its,r',pl,hz⟩:=I.tuple hq
  have hlen:=r'.length
  ~len_tuple pl (by simp only[C6]<;>omega) ⟨.int ys.length,H,I.tok _,⟨s.toks+1,by rw[C6,hlen]⟩,q⟩
B5 EY:oJ X (.type "list") (fun xs H Q=>∃p ys,xs=[.ref p]∧(rJ X.K H p ys∨yV X.K H p ys)∧∀l,H l=none→Q (.ref l) (upd H l (.lst ys))):=by
 intro pins s σ H xs us Q I r h
 B3⟨p,ys,rfl,hq,q⟩:=h
 B3⟨u,rfl,rx⟩:=vals1 r
 cases rx
 have fin:∀(its:List Value),Vals ys its→ys.length≤sizeLine→∀(h':Heap)(c':Nat),(∀b o',s.heap.get? b=some o'→h'.get? b=some o') →
   h'.get? s.heap.objs.size=some {cls:=.type "list", dict:=none,data:=.seq its.toArray c',slots:=#[]}→EP X pins σ Q (.ref s.heap.objs.size) {s with heap:=h'}:=fun its r' hz h' c' kp e=>
  ⟨.ref s.heap.objs.size,_,I.laid (t':=s.toks) kp (C5 _) (show jZ X.prog X.w _ h' _ (.lst ys)from⟨hz,its,c',r',e⟩),rfl,q _ (I.hok.fresh (C5 _))⟩
 rcases hq with hq | hq
 ·B3⟨its,r',pl,hz⟩:=I.list hq
  have hlen:=r'.length
  B3⟨o,ho,hc,n,hd⟩:=pl.isList
  ~call_list_seq p (.inl rfl) ho hc hd (fun h' c' kp e=>fin its r' hz h' c' kp e) (by simp only[C6]<;>omega)
 ·B3⟨its,r',pl,hz⟩:=I.tuple hq
  have hlen:=r'.length
  B3⟨o,ho,hc,n,hd⟩:=pl
  ~call_list_seq p (.inr rfl) ho hc hd (fun h' c' kp e=>fin its r' hz h' c' kp e) (by simp only[C6]<;>omega)
B5 Wo:oJ X (.type "tuple") (fun xs H Q=>∃p ys,xs=[.ref p]∧((rJ X.K H p ys∧∀l,H l=none→Q (.ref l) (upd H l (.tup ys)))∨(yV X.K H p ys∧Q (.ref p) H))):=by
 intro pins s σ H xs us Q I r h
 B3⟨p,ys,rfl,h⟩:=h
 B3⟨u,rfl,rx⟩:=vals1 r
 cases rx
 rcases h with ⟨hq,q⟩ | ⟨hq,q⟩
 ·B3⟨its,r',pl,hz⟩:=I.list hq
  have hlen:=r'.length
  &call_tuple_list pl.isList (fun h' kp=>?_) (by simp only[C6]<;>omega)
  have I1:Inv X pins σ H {s with heap:=h'}:=I.kept (t':=s.toks) kp
  have I2:Inv X pins σ (upd H h'.objs.size (.tup ys)) {s with heap:=h'.push {cls:=.type "tuple", data:=.seq its.toArray}}:=
   I1.laid (t':=s.toks) (fun b o e=>Heap.get?_push_of_some _ e) (C5 _) (show jZ X.prog X.w _ _ _ (.tup ys)from⟨hz,its,r',IsTup.new _ _⟩)
  ~⟨.ref h'.objs.size,_,I2,rfl,q _ (I1.hok.fresh (C5 _))⟩
 ·B3⟨its,r',pl,hz⟩:=I.tuple hq
  ~call_tuple_same pl ⟨.ref p,H,I,rfl,q⟩
def tyV(K:aJ)(T:String)(x:V)(H:Hp):Prop:=match x with
 | .str _=>T = "str"
 | .int _=>T = "int"
 | .ref p=>(T = "list" ∧ ∃xs,rJ K H p xs)∨(T = "tuple" ∧ ∃o,K.lookup p=some o∧o.cls=.type "tuple" ∧ o.dict=none) ∨
   (T = "dict" ∧ ((∃kvs,H p=some (.dK kvs))∨∃kvs,H p=some (.dT kvs)))∨(T = "set" ∧ ∃S n,H p=some (.set S n))
 | _=>False
B5 aHm{pins:List (Addr×Obj)}{σ:St}{H:Hp}{s:Shared}{T:String}{x:V}{v:Value}(I:Inv X pins σ H s)(r:RelV x v)(ty:tyV X.K T x H) :
  s.TypeIs v T∧∀a,v=.ref a→∃ob,s.heap.get? a=some ob∧ob.dict=none:=by
 cases x with
 | str z=>
  B3⟨t,rfl⟩:=r
  cases(show T = "str" from ty)
  ~⟨typeIs_str s z t,fun _ e=>nomatch e⟩
 | int i=>
  B3⟨t,rfl⟩:=r
  cases(show T = "int" from ty)
  ~⟨typeIs_int s i t,fun _ e=>nomatch e⟩
 | ref p=>
  cases r
  rcases ty with ⟨rfl,xs,hq⟩ | ⟨rfl,o,hk,hc,hd⟩ | ⟨rfl,hk⟩ | ⟨rfl,S,n,hk⟩
  ·B3⟨its,_,pl,_⟩:=I.list hq
   &⟨pl.isList.typeIs,fun a e=>?_⟩
   cases e
   B3⟨o,n,e,c,hd,_⟩:=pl
   ~⟨o,e,hd⟩
  ·&⟨⟨o,I.Lw p o hk,hc⟩,fun a e=>?_⟩
   cases e
   ~⟨o,I.Lw _ o hk,hd⟩
  ·have z:∃o,s.heap.get? p=some o∧o.ExactDict:=by
    rcases hk with ⟨kvs,hk⟩ | ⟨kvs,hk⟩
    ·B3⟨_,_,_,_,o,_,_,e,ex,_⟩:=I.hok p _ hk
     ~⟨o,e,ex⟩
    ·B3⟨_,_,_,_,o,_,_,e,ex,_⟩:=I.hok p _ hk
     ~⟨o,e,ex⟩
   B3⟨o,e,ex⟩:=z
   &⟨⟨o,e,ex.1⟩,fun a e2=>?_⟩
   cases e2
   ~⟨o,e,ex.2.1⟩
  ·B3⟨o,_,_,_,e,ex,_⟩:=I.hok p _ hk
   &⟨⟨o,e,ex.1⟩,fun a e2=>?_⟩
   cases e2
   ~⟨o,e,ex.2.1⟩
 | _=>~False.elim ty
def Sh(K:aJ)(T:String)(r:V→List V→Hp→VK→Prop)(to:TE)(t:TA):TE:=fun σ H Q=>to σ H fun x H1=>tyV K T x H1∧t σ H1 fun xs H2=>r x xs H2 Q
variable{o e:Expr}{es:List Expr}{to:TE}{t:TA}{name:Str}{apos cpos:Pos}{T id:String}{r:V→List V→Hp→VK→Prop}
B5 sG(pa:PlainAttrs T)(slot:Slot T name id)(hty:typeOf (.builtin id)=pure (.type "method_descriptor")) (hm:MtR X id r) (ho:PE X o to) (ha:PA X (e::es) t)
  (hbase:attributeBase o name X.env (eval o X.env)=eval o X.env:=by rfl)
  (hfew:((backTo cpos (starEach (e::es) X.env)).all (fun x=>!x.1)&&(backToKw cpos (keywordEach [] X.env)).all (fun x=>x.1.isSome)
   && decide ((e::es).length+([]:List Keyword).length+(if([]:List Keyword).isEmpty then 0 else 1)<30))=true:=by rfl)
  (hline:(apos.endLine==cpos.line)=true:=by rfl) (hs:starEach (e::es) X.env=(false,eval e X.env)::starEach es X.env:=by rfl) (hplain:(backTo cpos (starEach es X.env)).any (·.1)=false:=by rfl) :
  PE X (.Call (.Attribute o name apos) (e::es) [] cpos) (Sh X.K T r to t):=by
 intro pins s σ H Q I h
 &wpAny_Call_method_late hbase hfew hline rfl (jG (ho pins s σ H _ I h) fun v s1 ⟨x,H1,I1,r1,ty,q1⟩=>?_)
 B3⟨h1,h2⟩:=aHm I1 r1 ty
 &⟨T,id,pa,slot,hty,h1,h2,?_⟩
 have hA:=ha cpos pins s1 σ H1 _ I1 q1
 rw[hs]at hA ⊢
 &Calls.callWith_builtin (by show (false||(backTo cpos (starEach es X.env)).any (·.1))=false;rw[hplain]<;>rfl) (Calls.evalArgs_plain ?_)
 ~jG hA fun us s2 ⟨vs,H2,I2,r2,q2⟩=>hm pins s2 σ H2 x vs v us Q I2 r1 r2 q2
end
end L2
namespace L2
open PySem PySem.Spec PyProof.Rows
def MtM(X:Cx)(id:String)(r:V→List V→Hp→VK→Prop):Prop:=
 ∀(pins:List (Addr×Obj))(s:Shared)(σ:St)(H:Hp)(x:V)(xs:List V)(v:Value)(us:List Value)(Q:VK),Inv X pins σ H s→RelV x v→Vals xs us→r x xs H Q →
  wpAny (model X.prog X.w) X.A (call (.builtin id) (v::us)) (EP X pins σ Q) X.xe s
B5 Vals.one:∀{x:V} {us:List Value},Vals [x] us→∃u,us=[u]∧RelV x u
 | _,_,.cons r .nil=>⟨_,rfl,r⟩
B5 Vals.two:∀{x y:V} {us:List Value},Vals [x,y] us→∃u v,us=[u,v]∧RelV x u∧RelV y v
 | _,_,_,.cons r (.cons q .nil)=>⟨_,_,rfl,r,q⟩
B5 Vals.eraseIdx:∀{xs:List V} {us:List Value} (i:Nat),Vals xs us→Vals (xs.eraseIdx i) (us.eraseIdx i)
 | _,_,_,.nil=>.nil
 | _,_,0,.cons _ t=>t
 | _,_,i+1,.cons r t=>.cons r (Vals.eraseIdx i t)
B5 Lz{α:Type}:∀(l:List α)(i:Nat),(l.eraseIdx i).length≤l.length
 | [],_=>C5 _
 | _::_,0=>M9 _
 | _::r,i+1=>T0 (Lz r i)
section
variable{X:Cx}{pins:List (Addr×Obj)}{σ:St}{H:Hp}{s:Shared}{l b:Addr}{xs ys zs:List V}
B5 Inv.aEA{its its':List Value}{n:Nat}{f:Array Value→Array Value}{t':Nat}(I:Inv X pins σ H s)(hH:H l=some (.lst xs))
  (e:s.heap.get? l=some {cls:=.type "list", data:=.seq its.toArray n}) (hf:f its.toArray=its'.toArray) (hv:Vals ys its') (hz:ys.length≤sizeLine) :
  Inv X pins σ (upd H l (.lst ys)) {s with heap:=s.heap.update l (Obj.mapSeq f),toks:=t'}:=by
 have q:=PySem.IsL.update e f
 rw[hf]at q
 &I.write (x:=l) (e:=l) (by rw[hH];~trivial) (.inl rfl) (fun b' u hb hu=>(Heap.get?_update_other s.heap (Obj.mapSeq f) (Ne.symm hb)).trans hu) ⟨_,q⟩ ?_
 ~⟨hz,its',_,hv,q⟩
B5 Inv.aJc{its:List Value}{t':Nat}(I:Inv X pins σ H s)(hv:Vals ys its)(hz:ys.length≤sizeLine) :
  Inv X pins σ (upd H s.heap.objs.size (.lst ys)) {s with heap:=s.heap.push {cls:=.type "list", data:=.seq its.toArray},toks:=t'}:=
 I.laid (fun _ _ q=>Heap.get?_push_of_some _ q) (C5 _) ⟨hz,its,0,hv,Heap.get?_push_size _ rfl⟩
B5 Inv.fresh(I:Inv X pins σ H s):H s.heap.objs.size=none:=I.hok.fresh (C5 _)
B5 Inv.aEB(I:Inv X pins σ H s)(hH:H l=some (.lst xs)):xs.length≤sizeLine∧∃(its:List Value)(n:Nat),Vals xs its∧xs.length=its.length∧s.heap.get? l=some {cls:=.type "list", data:=.seq its.toArray n}:=by
 B3⟨z,its,n,r,e⟩:=I.hok l _ hH
 ~⟨z,its,n,r,r.length,e⟩
end
section
variable{X:Cx}
def uA:V→List V→Hp→VK→Prop:=fun x vs H Q=>∃l xs y,x=.ref l∧vs=[y]∧H l=some (.lst xs)∧xs.length<sizeLine∧Q .non (upd H l (.lst (xs++[y])))
B5 lM:MtM X "list.append" uA:=by
 intro pins s σ H x vs v us Q I rx rv h
 B3⟨l,xs,y,rfl,rfl,hH,hz,q⟩:=h
 cases rx
 B3⟨u,rfl,ru⟩:=rv.one
 B3⟨z,its,n,r,hl,e⟩:=I.aEB hH
 &call_meets F.slot_list_append ⟨_,e,rfl⟩ F.entry_list_append (F.args_list_append_2 _ _) (PySem.list_append l its.toArray n u (by rw[C6];omega)) ⟨e,?_⟩
 &⟨.non,_,I.aEA (its':=its++[u]) hH e (by simp) (r.append (.cons ru .nil)) ?_,rfl,q⟩
 rw[C7,List.length_singleton]
 omega
def Gx:V→List V→Hp→VK→Prop:=fun x vs H Q=>∃l xs i k y,x=.ref l∧vs=[.int i]∧H l=some (.lst xs)∧-(2 ^ 63)≤i∧i<2 ^ 63∧seqIndex? i xs.length=some k∧xs[k]?=some y∧Q y (upd H l (.lst (xs.eraseIdx k)))
B5 QH:MtM X "list.pop" Gx:=by
 intro pins s σ H x vs v us Q I rx rv h
 B3⟨l,xs,i,k,y,rfl,rfl,hH,h1,h2,hk,hy,q⟩:=h
 cases rx
 B3⟨u,rfl,ru⟩:=rv.one
 B3⟨t,rfl⟩:=ru
 B3⟨z,its,n,r,hl,e⟩:=I.aEB hH
 B3⟨w,hw,Qy⟩:=r.get hy
 &call_meets F.slot_list_pop ⟨_,e,rfl⟩ F.entry_list_pop (F.args_list_pop_2 _ _)
  (MeetsSeq.list_pop_at l its.toArray n i t k w (fitsIndex_both h1 h2) (by rw[C6,←hl];~hk) (by rw[←L7];~hw) (by rw[C6];omega)) ⟨e,?_⟩
 &⟨y,_,I.aEA (its':=its.eraseIdx k) hH e ?_ (r.eraseIdx k) ?_,Qy,q⟩
 ·show its.toArray.eraseIdxIfInBounds k=(its.eraseIdx k).toArray
  rw[T9]
 ·have:=Lz xs k
  omega
end
section
variable{prog:Program}{w:World}{A:Around}{E:Value→Shared→Prop}{s:Shared}
end
section
variable{X:Cx}
end
end L2
namespace L2
open PySem PySem.Spec PyProof.Rows
section
variable{κ:Type} [DecidableEq κ]
def tG(kvs:List (κ×V))(k:κ):Option V:=(kvs.find? fun kv=>decide (kv.1=k)).map (·.2)
def putK(kvs:List (κ×V))(k:κ)(v:V):List (κ×V):=
 if(kvs.any fun kv=>decide (kv.1=k))=true then kvs.map (fun kv=>if kv.1=k then(kv.1,v)else kv)else kvs++[(k,v)]
def aLq(kvs:List (κ×V))(k:κ):List (κ×V):=kvs.filter fun kv=>decide (kv.1≠k)
B5 Sq{p:κ×V}{r:List (κ×V)}{k:κ}(e:p.1=k):tG (p::r) k=some p.2:=by simp[tG,O0,e]
B5 Ss{p:κ×V}{r:List (κ×V)}{k:κ}(e:¬p.1=k):tG (p::r) k=tG r k:=by simp[tG,O0,e]
B5 Bp(k:κ):∀kvs:List (κ×V),(kvs.any fun kv=>decide (kv.1=k))=(tG kvs k).isSome
 | []=>rfl
 | p::r=>by
  rw[S9]
  by_cases e:p.1=k
  ·simp only[Sq e,decide_eq_true e,Bool.true_or,e9]
  ·rw[Ss e,decide_eq_false e,Bool.false_or];~Bp k r
B5 wC(kvs:List (κ×V))(k:κ)(v:V):(putK kvs k v).length≤kvs.length+1:=by
 B4 putK
 split
 ·rw[B6];omega
 ·rw[C7,F0,j9];omega
B5 aBP{kvs:List (κ×V)}{k:κ}(v:V)(h:tG kvs k=none):putK kvs k v=kvs++[(k,v)]:=by
 B4 putK
 rw[Bp,h]
 ~if_neg A8
B5 Bd.xT{o:Option V}{u:Option Value}(r:Bd o u):o.isSome=u.isSome:=by
 cases o with
 | none=>cases u with
  | none=>rfl
  | some _=>~(show False from r).elim
 | some _=>cases u with
  | none=>~(show False from r).elim
  | some _=>rfl
B5 Bd.getD{o:Option V}{u:Option Value}{d:V}{d':Value}(r:Bd o u)(rd:RelV d d'):RelV (o.getD d) (u.getD d'):=by
 cases o with
 | none=>cases u with
  | none=>~rd
  | some _=>~(show False from r).elim
 | some _=>cases u with
  | none=>~(show False from r).elim
  | some _=>~r
B5 KV.val{kvs:List (κ×V)}{vs:List (κ×Value)}(r:KV kvs vs)(k:κ):Bd (tG kvs k) (valueAt vs k):=by
 B4 KV at r
 induction r with
 | nil=>~True.intro
 | @cons p q ps qs h t ih=>
  B3⟨h1,h2⟩:=h
  by_cases e:p.1=k
  ·have e':q.1=k:=h1.symm.trans e
   have b:valueAt (q::qs) k=some q.2:=by simp[valueAt,O0,e']
   rw[Sq e,b];~h2
  ·have e':¬q.1=k:=fun z=>e (h1.trans z)
   have b:valueAt (q::qs) k=valueAt qs k:=by simp[valueAt,O0,e']
   rw[Ss e,b];~ih
B5 KV.any{kvs:List (κ×V)}{vs:List (κ×Value)}(r:KV kvs vs)(k:κ):(kvs.any fun kv=>decide (kv.1=k))=vs.any fun kv=>decide (kv.1=k):=by
 B4 KV at r
 induction r with
 | nil=>rfl
 | cons h t ih=>rw[S9,S9,ih,h.1]
B5 KV.repl{kvs:List (κ×V)}{vs:List (κ×Value)}(r:KV kvs vs)(k:κ){y:V}{u:Value}(ry:RelV y u) :
  KV (kvs.map fun kv=>if kv.1=k then(kv.1,y)else kv) (vs.map fun kv=>if kv.1=k then(kv.1,u)else kv):=by
 B4 KV at r ⊢
 induction r with
 | nil=>~.nil
 | @cons p q ps qs h t ih=>
  rw[D3,D3]
  &.cons ?_ ih
  B3⟨h1,h2⟩:=h
  by_cases e:p.1=k
  ·rw[if_pos e,if_pos (h1.symm.trans e)];~⟨h1,ry⟩
  ·rw[if_neg e,if_neg (fun z=>e (h1.trans z))];~⟨h1,h2⟩
B5 KV.put{kvs:List (κ×V)}{vs:List (κ×Value)}(r:KV kvs vs)(k:κ){y:V}{u:Value}(ry:RelV y u):KV (putK kvs k y) (stored vs k u):=by
 B4 putK stored
 rw[r.any k]
 by_cases e:(vs.any fun kv=>decide (kv.1=k))=true
 ·rw[if_pos e,if_pos e];~r.repl k ry
 ·rw[if_neg e,if_neg e];~Paired.snoc r ⟨rfl,ry⟩
B5 KV.keys{kvs:List (κ×V)}{vs:List (κ×Value)}(r:KV kvs vs):kvs.map (·.1)=vs.map (·.1):=by
 B4 KV at r
 induction r with
 | nil=>rfl
 | cons h t ih=>rw[D3,D3,ih,h.1]
B5 KV.length{kvs:List (κ×V)}{vs:List (κ×Value)}(r:KV kvs vs):kvs.length=vs.length:=Paired.length r
end
B5 Su{P:Program}{w:World}{k:Key}{u:Value}(r:RelV (kV k) u):(iI P w).is k u=true:=by
 cases k with
 | inl i=>B3⟨t,e⟩:=(show ∃t,u=Value.int i t from r);subst e;~PB P w i t
 | inr x=>B3⟨t,e⟩:=(show ∃t,u=Value.str x t from r);subst e;~PJ P w x t
B5 Yi{P:Program}{w:World}:∀{ks:List Key} {us:List Value},Vals (ks.map kV) us→ItemsAre (iI P w) ks us
 | [],_,r=>by rw[G6]at r;cases r;~.nil
 | k::ks,_,r=>by
  rw[D3]at r
  cases r with
  | cons h t=>~.cons (Su h) (Yi t)
abbrev KT(H:Hp):List (List Key×V)→List (List Key×Addr×Value)→Prop:=Paired fun p q=>p.1=q.1∧H q.2.1=some (.tup (p.1.map kV))∧RelV p.2 q.2.2
B5 KT.val{H:Hp}{kvs:List (List Key×V)}{xs:List (List Key×Addr×Value)}(r:KT H kvs xs)(k:List Key):Bd (tG kvs k) ((atKey xs k).map (·.2)):=by
 induction r with
 | nil=>~True.intro
 | @cons p q ps qs h t ih=>
  B3⟨h1,_,h2⟩:=h
  by_cases e:p.1=k
  ·have e':q.1=k:=h1.symm.trans e
   have b:atKey (q::qs) k=some q.2:=by simp[atKey,O0,e']
   rw[Sq e,b];~h2
  ·have e':¬q.1=k:=fun z=>e (h1.trans z)
   have b:atKey (q::qs) k=atKey qs k:=by simp[atKey,O0,e']
   rw[Ss e,b];~ih
B5 KT.repl{H:Hp}{kvs:List (List Key×V)}{xs:List (List Key×Addr×Value)}(r:KT H kvs xs)(k:List Key){y:V}{u:Value}(ry:RelV y u) :
  KT H (kvs.map fun kv=>if kv.1=k then(kv.1,y)else kv) (xs.map (putAt k u)):=by
 induction r with
 | nil=>~.nil
 | @cons p q ps qs h t ih=>
  rw[D3,D3]
  &.cons ?_ ih
  B3⟨h1,h2,h3⟩:=h
  B4 putAt
  by_cases e:p.1=k
  ·rw[if_pos e,if_pos (h1.symm.trans e)];~⟨h1,h2,ry⟩
  ·rw[if_neg e,if_neg (fun z=>e (h1.trans z))];~⟨h1,h2,h3⟩
B5 KT.put{H:Hp}{kvs:List (List Key×V)}{xs:List (List Key×Addr×Value)}(r:KT H kvs xs)(k:List Key){b:Addr}{y:V}{u:Value}(hb:H b=some (.tup (k.map kV)))(ry:RelV y u) :
  KT H (putK kvs k y) (storedH xs k b u):=by
 have e:(kvs.any fun kv=>decide (kv.1=k))=(atKey xs k).isSome:=by
  rw[Bp,(r.val k).xT,W9]
 B4 putK storedH
 rw[e]
 by_cases q:(atKey xs k).isSome=true
 ·rw[if_pos q,if_pos q];~r.repl k ry
 ·rw[if_neg q,if_neg q];~Paired.snoc r ⟨rfl,hb,ry⟩
B5 KT.keeps{H H':Hp}{kvs:List (List Key×V)}{xs:List (List Key×Addr×Value)}(r:KT H kvs xs)(ht:∀b ys,H b=some (.tup ys)→H' b=some (.tup ys)):KT H' kvs xs:=
 Paired.aGP r fun _ _ z=>⟨z.1,ht _ _ z.2.1,z.2.2⟩
section
variable{P:Program}{w:World}{H:Hp}{h:Heap}{a:Addr}
B5 aGb{u:HO}(ok:Gs P w H h)(e:Rd H a u):jZ P w H h a u:=e.ok ok
B5 Ou{kvs:List (Key×V)}(ok:Gs P w H h)(e:Rd H a (.dK kvs)):kvs.length≤sizeLine∧(a==sysModules)=false∧∃vs,KV kvs vs∧h.DictOf (iI P w) a vs:=
 show jZ P w H h a (.dK kvs)from aGb ok e
B5 aGc{kvs:List (Key×V)}(ok:Gs P w H h)(e:H a=some (.dK kvs)):kvs.length≤sizeLine∧(a==sysModules)=false∧∃vs,KV kvs vs∧h.DictOf (iI P w) a vs:=Ou ok (.inl e)
B5 Ma{ks:List Key}(ok:Gs P w H h)(e:H a=some (.tup (ks.map kV))):(tupleKind (iI P w)).is h ks a:=by
 B3⟨_,its,r,o,h1,h2,n,h3⟩:=(show jZ P w H h a (.tup (ks.map kV))from ok a _ e)
 ~⟨o,its.toArray,n,h1,h2,h3,by simpa using Yi r⟩
B5 Sv{kvs:List (List Key×V)}(ok:Gs P w H h)(e:Rd H a (.dT kvs)):kvs.length≤sizeLine∧(a==sysModules)=false ∧
  ∃xs,KT H kvs xs∧h.DictOfH (tupleKind (iI P w)) a xs:=by
 B3⟨z,y,xs,r,o,es,ep,h1,h2,h3,h4,h5⟩:=(show jZ P w H h a (.dT kvs)from aGb ok e)
 &⟨z,y,xs,r,o,es,ep,h1,h2,h3,h4,fun x hx=>?_,h5⟩
 have all:∀{l:List (List Key×V)} {m:List (List Key×Addr×Value)},KT H l m→∀x∈m,(tupleKind (iI P w)).is h x.1 x.2.1:=by
  intro l m q
  induction q with
  | nil=>intro x hx;~nomatch hx
  | @cons p q ps qs hq t ih=>
   intro x hx
   rcases D5.mp hx with e | hx
   ·subst e
    ~Ma ok (by rw[←hq.1];~hq.2.1)
   ·~ih x hx
 ~all r x hx
B5 aJd{kvs:List (List Key×V)}(ok:Gs P w H h)(e:H a=some (.dT kvs)):kvs.length≤sizeLine∧(a==sysModules)=false ∧
  ∃xs,KT H kvs xs∧h.DictOfH (tupleKind (iI P w)) a xs:=Sv ok (.inl e)
end
def Jj(H:Hp)(a:Addr)(y:V)(r:Option V):Prop:=
 (∃kvs k,Rd H a (.dK kvs)∧y=kV k∧r=tG kvs k)∨∃kvs k b,Rd H a (.dT kvs)∧y=.ref b∧H b=some (.tup (k.map kV))∧r=tG kvs k
def aJe(H:Hp)(a:Addr)(y v:V)(H':Hp):Prop:=
 (∃kvs k,H a=some (.dK kvs)∧y=kV k∧kvs.length<sizeLine∧H'=upd H a (.dK (putK kvs k v))) ∨
 ∃kvs k b,H a=some (.dT kvs)∧y=.ref b∧H b=some (.tup (k.map kV))∧kvs.length<sizeLine∧H'=upd H a (.dT (putK kvs k v))
B5 Jj.k{H:Hp}{a:Addr}{kvs:List (Key×V)}{k:Key}(e:H a=some (.dK kvs)):Jj H a (kV k) (tG kvs k):=.inl ⟨kvs,k,.inl e,rfl,rfl⟩
section
variable{X:Cx}{pins:List (Addr×Obj)}{σ:St}{H:Hp}{s:Shared}{a:Addr}{y v:V}{u r:Value}{o:Option V}{A:Around}{E:Value→Shared→Prop}
B5 Inv.big(I:Inv X pins σ H s):sysModules<s.heap.objs.size:=by
 have h:mainGlobals<s.heap.objs.size:=(I.mod.glob.keeps I.bk).lt
 ~Nat.lt_trans A8 h
B5 aAl{Q:Value→Shared→Prop}(hu:A.units+1<cLine)(I:Inv X pins σ H s)(g:Jj H a y (some v))(ry:RelV y u)(h:∀w' s',Inv X pins σ H s'→RelV v w'→Q w' s') :
  wpAny (model X.prog X.w) A (getItem (.ref a) u) Q E s:=by
 rcases g with ⟨kvs,k,e,ey,l⟩ | ⟨kvs,k,b,e,ey,eb,l⟩
 ·subst ey
  B3⟨z,hd,vs,rel,dd⟩:=Ou I.hok e
  B3⟨w',hw,Qy⟩:=Bd.some_of (v:=v) (o:=valueAt vs k) (by rw[l];~rel.val k)
  ~wpAny_getItem_of (Su ry) dd.mapOf hw (h w' _ (I.tok _) Qy)
 ·subst ey
  cases(show u=Value.ref b from ry)
  B3⟨z,hd,xs,rel,dd⟩:=Sv I.hok e
  B3⟨w',hw,Qy⟩:=Bd.some_of (v:=v) (o:=(atKey xs k).map (·.2)) (by rw[l];~rel.val k)
  B3⟨p,hp,hp2⟩:=lY hw
  &wpAny_getItem_heap (tupleKind_room_in1 hu) (Ma I.hok eb) dd hp ?_
  rw[hp2]
  ~h w' _ (I.tok _) Qy
B5 aKE{Q:Value→Shared→Prop}(hu:A.units+1<cLine)(I:Inv X pins σ H s)(g:Jj H a y o)(ry:RelV y u)(h:∀s',Inv X pins σ H s'→Q (.bool o.isSome) s') :
  wpAny (model X.prog X.w) A (compareOp .In u (.ref a)) Q E s:=by
 rcases g with ⟨kvs,k,e,ey,l⟩ | ⟨kvs,k,b,e,ey,eb,l⟩
 ·subst ey
  B3⟨z,hd,vs,rel,dd⟩:=Ou I.hok e
  &wpAny_in_of (Su ry) hd dd.mapOf ?_
  rw[←(rel.val k).xT,←l]
  ~h _ (I.tok _)
 ·subst ey
  cases(show u=Value.ref b from ry)
  B3⟨z,hd,xs,rel,dd⟩:=Sv I.hok e
  &wpAny_in_heap (tupleKind_room_in1 hu) (Ma I.hok eb) hd dd ?_
  have q:=(rel.val k).xT
  rw[W9]at q
  rw[←q,←l]
  ~h _ (I.tok _)
B5 aEC{Q:Value→Shared→Prop}(hu:A.units+1<cLine)(I:Inv X pins σ H s)(g:Jj H a y o)(ry:RelV y u)(h:∀s',Inv X pins σ H s'→Q (.bool (!o.isSome)) s') :
  wpAny (model X.prog X.w) A (compareOp .NotIn u (.ref a)) Q E s:=by
 rcases g with ⟨kvs,k,e,ey,l⟩ | ⟨kvs,k,b,e,ey,eb,l⟩
 ·subst ey
  B3⟨z,hd,vs,rel,dd⟩:=Ou I.hok e
  &wpAny_notIn_of (Su ry) hd dd.mapOf ?_
  rw[←(rel.val k).xT,←l]
  ~h _ (I.tok _)
 ·subst ey
  cases(show u=Value.ref b from ry)
  B3⟨z,hd,xs,rel,dd⟩:=Sv I.hok e
  &wpAny_notIn_heap (tupleKind_room_in1 hu) (Ma I.hok eb) hd dd ?_
  have q:=(rel.val k).xT
  rw[W9]at q
  rw[←q,←l]
  ~h _ (I.tok _)
B5 FJ{h':Heap}{t':Nat}{ob:HO}(I:Inv X pins σ H s)(mu:Mut (H a))(hs:Heap.SameBut a s.heap h')(he:∃q,h'.get? a=some q)(new:jZ X.prog X.w (upd H a ob) h' a ob) :
  Inv X pins σ (upd H a ob) {s with heap:=h',toks:=t'}:=
 I.write (x:=a) (e:=a) mu (.inl rfl) (fun b q hb z=>(hs.2 b hb).trans z) he new
B5 aBQ{P:Program}{w:World}{H':Hp}{h':Heap}{kvs:List (Key×V)}{vs:List (Key×Value)}(z:kvs.length≤sizeLine)(hd:(a==sysModules)=false)(rel:KV kvs vs)(dd:h'.DictOf (iI P w) a vs) :
  jZ P w H' h' a (.dK kvs):=⟨z,hd,vs,rel,dd⟩
B5 aAm{H':Hp}{Q:Unit→Shared→Prop}(hu:A.units+1<cLine)(I:Inv X pins σ H s)(g:aJe H a y v H')(ry:RelV y u)(rv:RelV v r)(h:∀s',Inv X pins σ H' s'→Q () s') :
  wpAny (model X.prog X.w) A (setItem (.ref a) u r) Q E s:=by
 rcases g with ⟨kvs,k,e,ey,l,eH⟩ | ⟨kvs,k,b,e,ey,eb,l,eH⟩
 ·subst ey eH
  B3⟨z,hd,vs,rel,dd⟩:=aGc I.hok e
  have hz:vs.length≤sizeLine:=by rw[←rel.length];~z
  have hl:(putK kvs k v).length≤sizeLine:=by have:=wC kvs k v;omega
  &wpAny_setItem_pairs (hsz:=hz) (Su ry) dd fun h' dd' hs=>h _ ?_
  have he:∃q,h'.get? a=some q:=let ⟨q,_,_,hq,_⟩:=dd';⟨q,hq⟩
  ~FJ I (by rw[e];~True.intro) hs he (aBQ hl hd (rel.put k rv) dd')
 ·subst ey eH
  cases(show u=Value.ref b from ry)
  B3⟨z,hd,xs,rel,dd⟩:=aJd I.hok e
  have hz:xs.length≤sizeLine:=by rw[←Paired.length rel];~z
  have hl:(putK kvs k v).length≤sizeLine:=by have:=wC kvs k v;omega
  &wpAny_setItem_heap (hsz:=hz) (tupleKind_room_in1 hu) (Ma I.hok eb) dd fun h' dd' hs=>h _ ?_
  B3⟨q,es,ep,hq,h2,h3,h4,_,h5⟩:=dd'
  &FJ I (by rw[e];~True.intro) hs ⟨q,hq⟩ ⟨hl,hd,_,(rel.put k eb rv).keeps fun c ys ec=>?_,q,es,ep,hq,h2,h3,h4,h5⟩
  rw[bN (aIN ec e (fun z=>nomatch z))]
  ~ec
end
section
variable{X:Cx}{pins:List (Addr×Obj)}{σ:St}{H:Hp}{s:Shared}{a:Addr}{kvs:List (Key×V)}{k:Key}{u:Value}{A:Around}{E:Value→Shared→Prop}
end
def aBR(i:Expr):Prop:=∀ov iv,subscripted i false ov iv=operate [ov,iv] (getItem ov iv)
B5 aED{prog:Program}{w:World}{A:Around}{E:Value→Shared→Prop}{s:Shared}{env:Env}{value slice:Expr}{pos:Pos}{T id:String}{Q:Value→Shared→Prop}
  (hl:typeLookup (.type T) "__getitem__" = pure (some (.builtin id))) (hs:aBR slice)
  (h:wpAny (model prog w) A (eval value env) (fun o s₁=>wpAny (model prog w) A (eval slice env) (fun i s₂=>s₂.TypeIs o T∧wpAny (model prog w) A (getItem o i) Q E s₂) E s₁) E s) :
  wpAny (model prog w) A (eval (.Subscript value slice pos) env) Q E s:=by
 &Subscript_ (wpAny_mono h (fun o s₁ h₁=>wpAny_mono h₁ (fun i s₂ h₂=>?_) fun _ _ x=>x) fun _ _ x=>x)
 B3⟨hT,h₂⟩:=h₂
 B4 subscriptTail
 &wpAny_bind ?_
 rw[getitemInPython_of_ne hT.not_modules]
 &wpAny_bind (wpAny_specialOf hT hl ?_)
 have fin:wpAny (model prog w) A (subscripted slice false o i) (fun r s₃=>wpAny (model prog w) A (letTemporaryGo value o r >>= fun _=>pure r) Q E s₃) E s₂:=by
  rw[hs o i]
  ~wpAny_operating (wpAny_mono h₂ (fun r s₃ h₃=>wpAny_bind (wpAny_letTemporaryGo (wpAny_pure h₃))) fun _ _ x=>x)
 first
  | ~wpAny_pure (wpAny_bind fin)
  | ~wpAny_bind (wpAny_pure (wpAny_bind fin))
  | ~wpAny_bind fin
B5 QJ{X:Cx}{pins:List (Addr×Obj)}{σ:St}{H:Hp}{s:Shared}{a:Addr}{y:V}{o:Option V}(I:Inv X pins σ H s)(g:Jj H a y o):s.TypeIs (.ref a) "dict" := by
 rcases g with ⟨kvs,k,e,_,_⟩ | ⟨kvs,k,b,e,_,_,_⟩
 ·B3⟨_,_,vs,_,dd⟩:=Ou I.hok e
  ~dd.typeIs
 ·B3⟨_,_,xs,_,dd⟩:=Sv I.hok e
  ~dd.typeIs
def ue(td ty:TE):TE:=fun σ H Q=>td σ H fun x H1=>ty σ H1 fun y H2=>∃a v,x=.ref a∧Jj H2 a y (some v)∧Q v H2
def aEE(ty td:TE):TE:=fun σ H Q=>ty σ H fun y H1=>td σ H1 fun x H2=>∃a o,x=.ref a∧Jj H2 a y o∧Q (.bl o.isSome) H2
def FN(ty td:TE):TE:=fun σ H Q=>ty σ H fun y H1=>td σ H1 fun x H2=>∃a o,x=.ref a∧Jj H2 a y o∧Q (.bl (!o.isSome)) H2
def Jk(td ty tv:TE):TS:=fun D σ H=>tv σ H fun v H1=>td σ H1 fun x H2=>ty σ H2 fun y H3=>∃a H4,x=.ref a∧aJe H3 a y v H4∧D.nx σ H4
section
variable{X:Cx}{o i e value:Expr}{pos pos' tpos:Pos}{td ty tv:TE}
B5 FQ(hu:X.A.units+1<cLine)(ho:PE X o td)(hi:PE X i ty)(hs:aBR i):PE X (.Subscript o i pos) (ue td ty):=by
 intro pins s σ H Q I h
 &aED PySem.F.slot_dict_getitem.lookup hs (jG (ho pins s σ H _ I h) fun u s1 ⟨x,H1,I1,rx,q1⟩=>jG (hi pins s1 σ H1 _ I1 q1) fun iv s2 ⟨y,H2,I2,ry,a,v,ex,g,q2⟩=>?_)
 subst ex
 B3 rfl:u=Value.ref a:=rx
 ~⟨QJ I2 g,aAl hu I2 g ry fun w' s3 I3 Qy=>⟨v,H2,I3,Qy,q2⟩⟩
B5 gh(hu:X.A.units+1<cLine)(hi:PE X i ty)(ho:PE X o td):PC X .In i o (aEE ty td):=by
 intro pins s σ H Q I h
 &jG (hi pins s σ H _ I h) fun iv s1 ⟨y,H1,I1,ry,q1⟩=>jG (ho pins s1 σ H1 _ I1 q1) fun u s2 ⟨x,H2,I2,rx,a,ov,ex,g,q2⟩=>?_
 subst ex
 B3 rfl:u=Value.ref a:=rx
 ~aKE hu I2 g ry fun s3 I3=>⟨.bl ov.isSome,H2,I3,rfl,q2⟩
B5 Yj(hu:X.A.units+1<cLine)(hi:PE X i ty)(ho:PE X o td):PC X .NotIn i o (FN ty td):=by
 intro pins s σ H Q I h
 &jG (hi pins s σ H _ I h) fun iv s1 ⟨y,H1,I1,ry,q1⟩=>jG (ho pins s1 σ H1 _ I1 q1) fun u s2 ⟨x,H2,I2,rx,a,ov,ex,g,q2⟩=>?_
 subst ex
 B3 rfl:u=Value.ref a:=rx
 ~aEC hu I2 g ry fun s3 I3=>⟨.bl (!ov.isSome),H2,I3,rfl,q2⟩
B5 pN(hu:X.A.units+1<cLine)(ho:PE X o td)(hi:PE X i ty)(hv:PE X value tv)(hs:swapsWith value (some (.Subscript o i pos')) pos.line X.env=pure false) :
  PS X (.Assign [.Subscript o i pos'] value pos) (Jk td ty tv):=by
 intro pins s σ H D I h
 &wpAny_Assign_Subscript (jG (hv pins s σ H _ I h) fun r s1 ⟨v,H1,I1,rv,q1⟩=>jG (ho pins s1 σ H1 _ I1 q1) fun u s2 ⟨x,H2,I2,rx,q2⟩=>jG (hi pins s2 σ H2 _ I2 q2) fun iv s3 ⟨y,H3,I3,ry,a,H4,ex,g,q3⟩=>?_) hs
 subst ex
 B3 rfl:u=Value.ref a:=rx
 ~aAm hu I3 g ry rv fun s4 I4=>⟨σ,H4,I4,q3⟩
end
B5 QK{P:Program}{w:World}{H:Hp}(h:Heap)(hb:sysModules<h.objs.size):jZ P w H (h.push {cls:=.type "dict", data:=.dict #[]}) h.objs.size (.dK []):=
 ⟨M0 _,beq_eq_false_iff_ne.mpr (Ne.symm (E7 hb)),[],.nil,Heap.DictOf.new h⟩
B5 aBS{P:Program}{w:World}{H:Hp}(h:Heap)(hb:sysModules<h.objs.size):jZ P w H (h.push {cls:=.type "dict", data:=.dict #[]}) h.objs.size (.dT []):=
 ⟨M0 _,beq_eq_false_iff_ne.mpr (Ne.symm (E7 hb)),[],.nil,_,#[],0,Heap.get?_push_size _ rfl,⟨rfl,rfl,rfl⟩,rfl,rfl,a8⟩
def gj:TE:=fun _ H Q=>∀p,H p=none→Q (.ref p) (upd H p (.dK []))
def aBT:TE:=fun _ H Q=>∀p,H p=none→Q (.ref p) (upd H p (.dT []))
section
variable{X:Cx}{pos:Pos}
B5 aBU:PE X (.Dict [] [] pos) gj:=fun pins s σ H Q I h=>
 wpAny_Dict_empty ⟨.ref s.heap.objs.size,_,I.laid (a:=s.heap.objs.size) (o:=.dK []) (t':=s.toks) (fun _ _ q=>Heap.get?_push_of_some _ q) (C5 _) (QK s.heap I.big),rfl,h _ (I.hok.fresh (C5 _))⟩
B5 aBV:PE X (.Dict [] [] pos) aBT:=fun pins s σ H Q I h=>
 wpAny_Dict_empty ⟨.ref s.heap.objs.size,_,I.laid (a:=s.heap.objs.size) (o:=.dT []) (t':=s.toks) (fun _ _ q=>Heap.get?_push_of_some _ q) (C5 _) (aBS s.heap I.big),rfl,h _ (I.hok.fresh (C5 _))⟩
end
def FW:List (TE×TE)→St→Hp→(List (V×V)→Hp→Prop)→Prop
 | [],_,H,Q=>Q [] H
 | (tk,tv)::r,σ,H,Q=>tk σ H fun x H1=>tv σ H1 fun y H2=>FW r σ H2 fun ps H3=>Q ((x,y)::ps) H3
abbrev VV:List (V×V)→List (Value×Value)→Prop:=Paired fun p q=>RelV p.1 q.1∧RelV p.2 q.2
def PPs(X:Cx)(pos:Pos)(keys:List (Option Expr))(values:List Expr)(trs:List (TE×TE)):Prop:=
 ∀(pins:List (Addr×Obj))(s:Shared)(σ:St)(H:Hp)(Q:List (V×V)→Hp→Prop),Inv X pins σ H s→FW trs σ H Q →
  wpAny (model X.prog X.w) X.A (evalPairs (pairTrees keys values X.env pos)) (fun vs s'=>∃ps H',Inv X pins σ H' s'∧VV ps vs∧Q ps H') X.xe s
B5 aEG{X:Cx}{pos:Pos}:PPs X pos [] [] []:=fun pins s σ H Q I h=>pairTrees_nil_walk ⟨[],H,I,.nil,h⟩
B5 QL{X:Cx}{pos:Pos}{k v:Expr}{ks:List (Option Expr)}{vs:List Expr}{tk tv:TE}{trs:List (TE×TE)}(hk:PE X k tk)(hv:PE X v tv)(hr:PPs X pos ks vs trs) :
  PPs X pos (some k::ks) (v::vs) ((tk,tv)::trs):=fun pins s σ H Q I h=>
 pairTrees_cons_walk (jG (hk pins s σ H _ I h) fun u s1 ⟨x,H1,I1,rx,q1⟩=>jG (hv pins s1 σ H1 _ I1 q1) fun w2 s2 ⟨y,H2,I2,ry,q2⟩=>
  jG (hr pins s2 σ H2 _ I2 q2) fun ws s3 ⟨ps,H3,I3,rel,q3⟩=>⟨(x,y)::ps,H3,I3,.cons ⟨rx,ry⟩ rel,q3⟩)
def yZ(kvs more:List (Key×V)):List (Key×V):=more.foldl (fun acc kv=>putK acc kv.1 kv.2) kvs
B5 KV.merge:∀{more:List (Key×V)} {rs:List (Key×Value)} {kvs:List (Key×V)} {vs:List (Key×Value)},KV more rs→KV kvs vs→KV (yZ kvs more) (merged vs rs):=by
 intro more rs kvs vs r
 B4 KV at r
 induction r generalizing kvs vs with
 | nil=>intro q;~q
 | @cons p q ps qs h t ih=>
  intro r0
  have e:KV (putK kvs p.1 p.2) (stored vs q.1 q.2):=by
   have:=r0.put p.1 h.2
   rw[←h.1];~this
  ~ih e
B5 Gb:∀(more kvs:List (Key×V)),(yZ kvs more).length≤kvs.length+more.length
 | [],kvs=>by show kvs.length≤kvs.length+0;omega
 | p::r,kvs=>by
  have h1:=Gb r (putK kvs p.1 p.2)
  have h2:=wC kvs p.1 p.2
  show (yZ (putK kvs p.1 p.2) r).length≤_
  rw[F0];omega
B5 Sw{P:Program}{w:World}:∀{kvs:List (Key×V)} {ws:List (Value×Value)},VV (kvs.map fun kv=>(kV kv.1,kv.2)) ws→∃rs,Carries (iI P w) ws rs∧KV kvs rs
 | [],_,r=>by rw[G6]at r;cases r;~⟨[],True.intro,.nil⟩
 | p::kvs,_,r=>by
  rw[D3]at r
  cases r with
  | @cons a b as bs h t=>
   B3⟨rs,c,q⟩:=Sw (P:=P) (w:=w) t
   B3⟨b1,b2⟩:=b
   ~⟨(p.1,b2)::rs,⟨Su h.1,rfl,c⟩,.cons ⟨rfl,h.2⟩ q⟩
def aGd(trs:List (TE×TE)):TE:=fun σ H Q=>∀p,H p=none→FW trs σ (upd H p (.dK [])) fun ps H2=>H2 p=some (.dK [])∧∃kvs:List (Key×V),ps=kvs.map (fun kv=>(kV kv.1,kv.2))∧kvs.length≤15∧Q (.ref p) (upd H2 p (.dK (yZ [] kvs)))
B5 aEH{X:Cx}{pos:Pos}{keys:List (Option Expr)}{values:List Expr}{trs:List (TE×TE)}(h:PPs X pos keys values trs)(hall:keys.all (·.isSome)=true)(hl:keys.length=values.length)(h0:keys≠[])
  (h15:keys.length≤15):PE X (.Dict keys values pos) (aGd trs):=by
 intro pins s σ H Q I q
 have hn:=I.hok.fresh (C5 s.heap.objs.size)
 have I1:=I.laid (a:=s.heap.objs.size) (o:=.dK []) (h':=s.heap.push {cls:=.type "dict", data:=.dict #[]}) (t':=s.toks) (fun _ _ q=>Heap.get?_push_of_some _ q) (C5 _) (QK s.heap I.big)
 &wpAny_Dict_walk (knd:=iI X.prog X.w) hall hl h0 h15 (jG (h pins _ σ _ _ I1 (q _ hn)) fun ws s2 ⟨ps,H2,I2,rel,e,kvs,ep,lk,q2⟩=>?_)
 subst ep
 B3⟨rs,c,rk⟩:=Sw (P:=X.prog) (w:=X.w) rel
 B3⟨z,hd,vs0,r0,dd⟩:=aGc I2.hok e
 cases r0
 &⟨rs,c,dd,fun h' dd' hs=>⟨.ref s.heap.objs.size,_,?_,rfl,q2⟩⟩
 have hz:(yZ [] kvs).length≤sizeLine:=by
  have h1:=Gb kvs []
  rw[j9]at h1
  rw[sizeLine_eq];omega
 have he:∃q,h'.get? s.heap.objs.size=some q:=let ⟨q,_,_,hq,_⟩:=dd';⟨q,hq⟩
 ~FJ I2 (by rw[e];~True.intro) hs he (aBQ hz hd (rk.merge .nil) dd')
structure M1(X:Cx)(o:Expr)(m:Str)(apos:Pos)(e:Expr)(cpos:Pos):Prop where
 base:attributeBase o m X.env (eval o X.env)=eval o X.env
 few:((backTo cpos (starEach [e] X.env)).all (fun x=>!x.1)&&(backToKw cpos (keywordEach [] X.env)).all (fun x=>x.1.isSome)
  && decide (([e]:List Expr).length+([]:List Keyword).length+(if([]:List Keyword).isEmpty then 0 else 1)<30))=true
 line:(apos.endLine==cpos.line)=true
 trees:backTo cpos (starEach [e] X.env)=[(false,eval e X.env)]
structure M2(X:Cx)(o:Expr)(m:Str)(apos:Pos)(e f:Expr)(cpos:Pos):Prop where
 base:attributeBase o m X.env (eval o X.env)=eval o X.env
 few:((backTo cpos (starEach [e,f] X.env)).all (fun x=>!x.1)&&(backToKw cpos (keywordEach [] X.env)).all (fun x=>x.1.isSome)
  && decide (([e,f]:List Expr).length+([]:List Keyword).length+(if([]:List Keyword).isEmpty then 0 else 1)<30))=true
 line:(apos.endLine==cpos.line)=true
 trees:backTo cpos (starEach [e,f] X.env)=[(false,eval e X.env),(false,eval f X.env)]
def IsD(H:Hp)(a:Addr):Prop:=(∃kvs,Rd H a (.dK kvs))∨∃kvs,Rd H a (.dT kvs)
B5 aHo{X:Cx}{pins:List (Addr×Obj)}{σ:St}{H:Hp}{s:Shared}{a:Addr}(I:Inv X pins σ H s)(d:IsD H a) :
  s.TypeIs (.ref a) "dict" ∧ (∀b,Value.ref a=.ref b→∃ob,s.heap.get? b=some ob∧ob.dict=none)∧(a==sysModules)=false:=by
 rcases d with ⟨kvs,e⟩ | ⟨kvs,e⟩
 ·B3⟨_,hd,vs,_,dd⟩:=Ou I.hok e
  &⟨dd.typeIs,fun b q=>?_,hd⟩
  cases q
  B3⟨ob,_,_,h1,h2,_⟩:=dd
  ~⟨ob,h1,h2.2.1⟩
 ·B3⟨_,hd,xs,_,dd⟩:=Sv I.hok e
  &⟨dd.typeIs,fun b q=>?_,hd⟩
  cases q
  B3⟨ob,_,_,h1,h2,_⟩:=dd
  ~⟨ob,h1,h2.2.1⟩
section
variable{X:Cx}{pins:List (Addr×Obj)}{σ:St}{H:Hp}{s:Shared}{a:Addr}{y d:V}{u r:Value}{o:Option V}{A:Around}{E:Value→Shared→Prop}
B5 aHp{Q:Value→Shared→Prop}(hu:A.units+1<cLine)(I:Inv X pins σ H s)(g:Jj H a y o)(ry:RelV y u)(h:∀w' s',Inv X pins σ H s'→RelV (o.getD .non) w'→Q w' s') :
  wpAny (model X.prog X.w) A (call (.builtin "dict.get") [.ref a,u]) Q E s:=by
 rcases g with ⟨kvs,k,e,ey,l⟩ | ⟨kvs,k,b,e,ey,eb,l⟩
 ·subst ey
  B3⟨z,hd,vs,rel,dd⟩:=Ou I.hok e
  &call_meetsIn T6 dd.typeIs Z6 (Y3 _ _) (meets_dict_get (iI X.prog X.w) a (Su ry) hd) ⟨_,dd.mapOf,h _ _ (I.tok _) ?_⟩
  rw[l]
  ~(rel.val k).getD rfl
 ·subst ey
  cases(show u=Value.ref b from ry)
  B3⟨z,hd,xs,rel,dd⟩:=Sv I.hok e
  &call_meetsIn T6 dd.typeIs Z6 (Y3 _ _) (meetsH_dict_get (tupleKind (iI X.prog X.w)) a b hd) ⟨tupleKind_room_in1 hu,k,xs,Ma I.hok eb,dd,h _ _ (I.tok _) ?_⟩
  rw[l]
  ~(rel.val k).getD rfl
end
def aBW(td ty:TE):TE:=fun σ H Q=>td σ H fun x H1=>∃a,x=.ref a∧IsD H1 a∧ty σ H1 fun y H2=>∃o,Jj H2 a y o∧Q (o.getD .non) H2
section
variable{X:Cx}{o e f:Expr}{apos cpos:Pos}{td ty tx:TE}
B5 aBX(hu:X.A.units+1<cLine)(ho:PE X o td)(he:PE X e ty)(m:M1 X o "get" apos e cpos):PE X (.Call (.Attribute o "get" apos) [e] [] cpos) (aBW td ty):=by
 intro pins s σ H Q I h
 &wpAny_Call_method m.base m.few m.line PySem.F.plainAttrs_dict T6 PySem.F.type_dict_get (jG (ho pins s σ H _ I h) fun u s1 ⟨x,H1,I1,rx,a,ex,d,q1⟩=>?_)
 subst ex
 B3 rfl:u=Value.ref a:=rx
 B3⟨t1,t2,_⟩:=aHo I1 d
 &⟨t1,t2,?_⟩
 rw[m.trees]
 &Calls.callWith_builtin rfl (Calls.evalArgs_plain (Calls.spliced_cons (jG (he pins s1 σ H1 _ I1 q1) fun iv s2 ⟨y,H2,I2,ry,ov,g,q2⟩=>Calls.spliced_nil ?_)))
 ~aHp hu I2 g ry fun w' s3 I3 Qy=>⟨_,H2,I3,Qy,q2⟩
end
section
variable{X:Cx}{pins:List (Addr×Obj)}{σ:St}{H:Hp}{s:Shared}{a:Addr}{kvs:List (Key×V)}{A:Around}{E:Value→Shared→Prop}
end
section
variable{X:Cx}{pins:List (Addr×Obj)}{σ:St}{H:Hp}{s:Shared}{a:Addr}{y:V}{u:Value}{A:Around}{E:Value→Shared→Prop}
end
end L2
namespace Att
open PySem PySem.W PySem.Calls PyProof.Rows
B5 Qg{P:Params}{h:Heap}:∀(ns:List Int)(vs:List Value),WellAll P h vs (ns.map WData.int)→IntsAre vs ns:=by
 intro ns
 induction ns with
 | nil=>
  intro vs w
  rw[G6]at w
  cases w
  ~.nil
 | cons n ns ih=>
  intro vs w
  rw[D3]at w
  cases w with
  | cons a b=>
   cases a
   ~.cons _ _ (ih _ b)
B5 aAn{l:OpenLaw}{n:Nat}(hn:l.most=some n){P:Params}{h:Heap}{args:List WData}{vals:List Value}
  (hpre:l.row.toRowW.claim.pre args=true) (hwl:WellAll P h vals args) :
  ∃a vs ns,vals=[Value.ref a]∧args=[WData.list (ns.map WData.int)]∧h.get? a=some {cls:=.type "list", data:=.seq vs.toArray}∧IntsAre vs ns∧ns.length≤n:=by
 have hsh:WShape.hasAll [] args [.list .int]=true:=(pre_splitW hpre).1
 have hc:l.pre.holds [] {args:=args}=true:=(pre_splitW hpre).2
 B3⟨d,r,rfl,h1,h2⟩:=hasAllW_cons hsh
 B3 rfl:=hasAllW_nil h2
 B3⟨xs,rfl,h3⟩:=hasW_list h1
 B3⟨ns,rfl⟩:=items_int h3
 have hlen:ns.length≤n:=by
  B4 OpenLaw.pre at hc
  have h4:(WTm.not (.lt (.lit (.int (n:Int))) (.len (.arg 0)))).holds [] {args:=[.list (ns.map .int)]}=true:=by
   have h4:=(holds_andW hc).1
   rw[hn]at h4
   ~h4
  have h5:=condW_of h4 (w_not (w_lt w_lit (w_len_list (w_arg rfl))))
  rw[B6]at h5
  &Nat.le_of_not_lt fun q=>?_
  have q':(n:Int)<((ns.length:Nat):Int):=by omega
  first
   | (rw[decide_eq_true q']at h5;~absurd h5 A8)
   | (simp at h5;omega)
 cases hwl with
 | cons w1 w2=>
  cases w2
  cases w1 with
  | list ho hall=>~⟨_,_,ns,rfl,rfl,ho,Qg ns _ hall,hlen⟩
B5 aAo(l:OpenLaw)(args:List WData):l.row.toRowW.claim.post args (.bool true) args=true:=
 postW_of (r:=l.row.toRowW) (X:=(true==true))
  (show WShape.has [] (.bool true) .bool=true by first | rfl | decide | simp[WShape.has,WShape.arms,WShape.armsAll])
  (show (WTm.eq .res (.lit (.bool true))).value [] {args:=args,res:=some (.bool true),after:=args}=some (.bool (true==true))from w_eq_bool (w_res rfl) w_lit) rfl
section
variable{prog:Program}{w:World}{A:Around}{E:Value→Shared→Prop}{s:Shared}{K:Frag}
end
end Att
namespace L2
open PySem PySem.Spec PyProof.Rows
B5 Dz:∀{vs:List Value} {ns:List Int},IntsAre vs ns→Vals (ns.map V.int) vs
 | _,_,.nil=>.nil
 | _,_,.cons n t h=>.cons ⟨t,rfl⟩ (Dz h)
def Only(H:Hp):Prop:=∀b,H b=none∨∃o xs,H b=some (.Jg o (.lst xs))
B5 aBY{P:Program}{w:World}{K:aJ}{mg mb:Str→Option Value}{CX:CXT}{k:Nat}{fa a:Addr}{fd:FuncData}{x:Str}{sp:Sp}{s₁:Shared}{vs:List Value}{ns:List Int}
  (KX:K.In s₁.heap) (hns:s₁.heap.Ns mainGlobals mg) (hb:s₁.heap.Ns builtinsNs mb) (hbb:∀x:Str,x ≠ "__name__" → mb x=bootBuiltins x) (hlim:s₁.heap.NoLimit) (hg:s₁.gens=#[])
  (ha:s₁.heap.get? a=some {cls:=.type "list", data:=.seq vs.toArray}) (hi:IntsAre vs ns) (hl:ns.length≤sizeLine) (hr:lA k callerA)
  (F:∀base:Heap,K.In base→base.Ns mainGlobals mg→Fj P w K mg base CX k fa fd [x] sp) (hbind:∀(s:Shared)(u:Value),BindsTo s fd ⟨[u],[]⟩ [(x,u)])
  (hsp:∀H:Hp,Only H→rJ K H a (ns.map V.int)→sp [.ref a] H (fun v _=>v=.bl true) fun _ _ _=>False)
  (hCX:∀H e s',CX [] H s₁ (fun _ _ _=>False) e s'→False) :
  codeAny (model P w) callerA (.call (.ref fa) ⟨[.ref a],[]⟩) (fun r s'=>r=.ok (.ret (.bool true))∧OldK s₁.heap s'.heap∧s'.os=s₁.os∧AllBare s'.gens) s₁:=by
 have rv:=Dz hi
 have lenV:=hi.length
 have core:∀H:Hp,Only H→rJ K H a (ns.map V.int)→Gs P w H s₁.heap→(∀b,H b≠none→b=a)→(H a≠none→K.lookup a=none) →
   codeAny (model P w) callerA (.call (.ref fa) ⟨[.ref a],[]⟩) (fun r s'=>r=.ok (.ret (.bool true))∧OldK s₁.heap s'.heap∧s'.os=s₁.os∧AllBare s'.gens) s₁:=by
  intro H hO hS hok hA hK
  have uf:∀{b:Addr} {o:Obj},s₁.heap.get? b=some o→H b=none→(CV s₁.heap H).get? b=some o:=fun e n=>aBl e n
  have noA:∀{b:Addr} {o:Obj} {es:Array DictEntry} {ep:Nat},s₁.heap.get? b=some o→o.data=.dict es ep→H b=none:=fun{b o es ep} e d=>by
   cases q:H b with
   | none=>rfl
   | some u=>
    have e':b=a:=hA b (by rw[q];simp)
    subst e'
    rw[ha]at e;cases e
    have d':Data.seq vs.toArray _=Data.dict es ep:=d
    cases d'
  have nsK:∀{b:Addr} {m:Str→Option Value},s₁.heap.Ns b m→(CV s₁.heap H).Ns b m:=fun{b m} ⟨o,es,ep,e,d,r⟩=>⟨o,es,ep,uf e (noA e d),d,r⟩
  have hKb:K.In (CV s₁.heap H):=fun b o e=>uf (KX b o e) (by
   cases q:H b with
   | none=>rfl
   | some u=>
    have e':b=a:=hA b (by rw[q];simp)
    subst e'
    rw[hK (by rw[q];simp)]at e;cases e)
  have hM:Mod K mg (CV s₁.heap H):=⟨hKb,nsK hns,⟨mb,nsK hb,hbb⟩,let ⟨mc,h1,h2⟩:=hlim;⟨mc,nsK h1,h2⟩⟩
  have e0:dw P w K mg (CV s₁.heap H) callerA [] s₁ H:=⟨rfl,hM,fun b o e=>aD7 e,d9 (zu _ _),trivial,fun b hb=>absurd (show b∈([]:List Addr)from hb) (by simp),hok,.of_eq hg⟩
  &codeAny_mono ((F _ hKb (nsK hns)).run callerA [] s₁ H ⟨[.ref a],[]⟩ [.ref a] [.ref a] _ _ hr e0 (hbind s₁ (.ref a)) (.cons rfl .nil) (hsp H hO hS)) fun r s' h=>?_
  cases r with
  | error e=>~(hCX H e s' h).elim
  | ok fl=>
   cases fl with
   | next=>~False.elim h
   | brk=>~False.elim h
   | cont=>~False.elim h
   | ret u=>
    B3⟨v,H',os,bare,un,hok',r',q⟩:=h
    have q':v=.bl true:=q
    subst q'
    B3 rfl:u=Value.bool true:=r'
    &⟨rfl,OldK.of_keep fun b o e=>?_,os,bare⟩
    cases q:H b with
    | none=>~un.keep b o e q (by intro z;~absurd (show b∈([]:List Addr)from z) (by simp)) (by simp)
    | some u=>
     rcases hO b with z | ⟨ob,xs,z⟩
     ·rw[q]at z;cases z
     ·have z2:=un.CT b ob _ z
      B3⟨e1,_⟩:=hok b _ z
      B3⟨e2,_⟩:=hok' b _ z2
      rw[e]at e1;cases e1
      ~e2
 cases hk:K.lookup a with
 | some o=>
  have e:=KX a o hk
  rw[ha]at e
  cases e
  &core (fun _=>none) (fun _=>.inl rfl) (.inr ⟨_,vs.toArray,_,hk,rfl,rfl,rfl,by rw[C6,lenV];~hl,by simpa using rv⟩) (fun b u z=>by have z':(none:Option HO)=some u:=z;cases z') (fun b z=>absurd rfl z) fun z=>absurd rfl z
 | none=>
  &core (fun b=>if b=a then some (.Jg {cls:=.type "list", data:=.seq vs.toArray} (.lst (ns.map V.int)))else none) (fun b=>?_) (.inl (.inr ⟨{cls:=.type "list", data:=.seq vs.toArray},if_pos rfl⟩)) (fun b u z=>?_) (fun b z=>?_) fun _=>hk
  ·by_cases hb:b=a
   ·~.inr ⟨_,_,if_pos hb⟩
   ·~.inl (if_neg hb)
  ·by_cases hb:b=a
   ·have z':=(if_pos hb).symm.trans z
    cases z'
    subst hb
    ~⟨ha,by rw[B6];~hl,vs,_,rv,ha⟩
   ·have z':=(if_neg hb).symm.trans z
    cases z'
  ·by_cases hb:b=a
   ·~hb
   ·~absurd (if_neg hb) z
end L2
namespace L2
open PySem PySem.Spec PyProof.Rows
end L2
namespace L2
open PySem PySem.Spec PyProof.Rows
def inClass(s:Stmt)(j:Nat):Stmt:=match s with
 | .ClassDef _ _ _ body _ _ _ _ _ _ _=>body.getD j (.Pass ⟨0,0,0,0⟩)
 | _=>.Pass ⟨0,0,0,0⟩
def gD(s:Stmt):Arguments:=match s with
 | .FunctionDef _ a _ _ _ _ _ _ _ _=>a
 | _=>{posonlyargs:=[],args:=[],vararg:=none,kwonlyargs:=[],kw_defaults:=[],kwarg:=none,defaults:=[]}
def cR(s:Stmt):List Stmt:=match s with
 | .FunctionDef _ _ b _ _ _ _ _ _ _=>b
 | _=>[]
def aK(s:Stmt):Scope:=match s with
 | .FunctionDef _ _ _ _ _ _ sc _ _ _=>sc
 | _=>{kind:=.function,names:=[],isGenerator:=false,isCoroutine:=false}
abbrev FZ:CXT:=fun _ _ _ _ _ _=>False
abbrev E0:XK:=fun _ _ _=>False
B5 Yk{X:Cx}:Passes FZ X E0:=fun _ _ _ _ _ _ _ h=>h.elim
structure Fun(K:aJ)(x qual:Str)(st:Stmt)(f:Addr)(fd:FuncData):Prop where
 ex:∃(oc:Value)(od:Option Addr)(kV doc pm:Value)(an:Option Addr)(cdv ct:Value)(osl:Array (Option Value)),
  fd=F8 x qual (gD st) (cR st) (aK st) .none kV doc pm an cdv ct∧K.lookup f=some ⟨oc,od,.func fd,osl⟩∧K3 K cdv qual=true
 kp:K2 K (.ref f)=true
section
variable{P:Program}{w:World}{K:aJ}{mg:Str→Option Value}{base:Heap}
B5 Fun.ok{x qual:Str}{st:Stmt}{f:Addr}{fd:FuncData}{N ps:List Str}{k:Nat}{sp:Sp}(F:Fun K x qual st f fd)(S:aZ N ps (aK st))(len:∀vs H Q E,sp vs H Q E→vs.length=ps.length)
  (hbody:∀(cdv:Value)(A:Around)(outer:List Env)(s:Shared)(H:Hp)(vs:List V)(Q:VK)(E:XK),lA k (A.deeper (envOfC qual (aK st) s.heap.objs.size f cdv))→sp vs H Q E →
   ∃t,bh (Gw FZ P w K mg base N qual (aK st) f cdv A outer s H E).bw (cR st) t∧t {nx:=fun _ H'=>Q .non H',rt:=Q} (start N vs) H):Fj P w K mg base FZ (k+1) f fd ps sp:=by
 B3⟨oc,od,kV,doc,pm,an,cdv,ct,osl,rfl,lk,hcd⟩:=F.ex
 &aBM lk hcd S len fun A outer s H vs Q E hr hsp=>?_
 B3⟨t,h,q⟩:=hbody cdv A outer s H vs Q E hr hsp
 ~⟨t,h.bw,q⟩
B5 Fun.binds{x qual:Str}{st:Stmt}{f:Addr}{fd:FuncData}{ps:List Str}(F:Fun K x qual st f fd)
  (h:∀(kV doc pm:Value)(an:Option Addr)(cdv ct:Value)(us:List Value),us.length=ps.length→bindArgs (F8 x qual (gD st) (cR st) (aK st) .none kV doc pm an cdv ct) ⟨us,[]⟩=pure (ps.zip us)):Binds K fd ps []:=by
 B3⟨oc,od,kV,doc,pm,an,cdv,ct,osl,rfl,lk,hcd⟩:=F.ex
 ~.all (h kV doc pm an cdv ct)
B5 aHq{x qual:Str}{st:Stmt}{f:Addr}{oc:Value}{od an:Option Addr}{osl:Array (Option Value)}{kV doc pm cdv ct:Value}(l:K.lookup f=some ⟨oc,od,.func (F8 x qual (gD st) (cR st) (aK st) .none kV doc pm an cdv ct),osl⟩)
  (c:K3 K cdv qual=true) (k:K2 K (.ref f)=true):Fun K x qual st f (F8 x qual (gD st) (cR st) (aK st) .none kV doc pm an cdv ct):=⟨⟨oc,od,kV,doc,pm,an,cdv,ct,osl,rfl,l,c⟩,k⟩
end
B5 cI{A:Around}{k:Nat}(hr:lA k A):A.units+1<cLine:=P1 (Nat.add_le_add_left (by decide:1≤64) _) hr.units
B5 xU{n:Nat}(h:n≤1000):n<sizeLine:=P1 h A8
section
variable{X:Cx}
B5 pv(i:Nat){x:Str}{pos:Pos}(hN:X.N[i]?=some x:=by rfl)(hv:Vis X.env.scope x:=by first | ~D1 rfl | ~C9 (D1 rfl) | ~C9 (C9 rfl))(hd:(x==("__debug__" : Str))=false:=by decide)
  (hcd:(x==("__classdict__" : Str))=false:=by decide):PE X (.Name x pos) (sE i):=aGR hN hv hd hcd
end
def aV(H H':Hp):Prop:=∀b o,H b=some o→H' b=some o
B5 aV.refl(H:Hp):aV H H:=fun _ _ h=>h
B5 aV.trans{H H1 H2:Hp}(a:aV H H1)(b:aV H1 H2):aV H H2:=fun c o h=>b c o (a c o h)
B5 aV.free{H H':Hp}(e:aV H H'){l:Addr}(h:H' l=p4):H l=p4:=by
 cases q:H l with
 | none=>rfl
 | some o=>
  rw[e l o q]at h
  cases h
B5 aV.seq{K:aJ}{H H':Hp}{a:Addr}{xs:List V}(e:aV H H')(h:rJ K H a xs):rJ K H' a xs:=by
 rcases h with (h | ⟨o,h⟩) | h
 ·~.inl (.inl (e _ _ h))
 ·~.inl (.inr ⟨o,e _ _ h⟩)
 ·~.inr h
section
variable{κ:Type} [DecidableEq κ]
B5 aEI{kvs:List (κ×V)}{k:κ}{v:V}(h:tG kvs k=some v):k∈kvs.map (·.1):=by
 have q:(kvs.any fun kv=>decide (kv.1=k))=true:=by
  rw[Bp,h]
  all_goals rfl
 B3⟨p,hp,e⟩:=Q6.mp q
 ~J2.mpr ⟨p,hp,of_decide_eq_true e⟩
end
end L2


namespace L2
open PySem PySem.Spec PyProof.Rows
B5 Gy(env:Env):∀(names:List (Str×NameKind))(acc:List (Str×Addr)),(∀x∈names,x.2=.free→∃c,env.cells.lookup x.1=some c) →
    ∃cl:List (Str×Addr),(forIn names acc (fun(x:Str×NameKind) (r:List (Str×Addr))=>(match x with
      | (name,kind)=>if(kind==.free)=true then do let c ←cellOf env name;pure (ForInStep.yield ((name,c)::r))else pure (ForInStep.yield r):Sem (ForInStep (List (Str×Addr))))))=pure cl ∧
      (∀x c,cl.lookup x=some c→(∃k,(x,k)∈names∧k=.free∧env.cells.lookup x=some c)∨acc.lookup x=some c) ∧
      (∀x,(x,NameKind.free)∈names→∃c,cl.lookup x=some c)∧(∀x c,acc.lookup x=some c→∃c',cl.lookup x=some c')
  | [],acc,_=>⟨acc,rfl,fun x c h=>.inr h,fun x h=>by simp at h,fun x c h=>⟨c,h⟩⟩
  | (n,k)::r,acc,h=>by
    rw[List.forIn_cons]
    by_cases hk:k=.free
    · subst hk
      B3⟨c,hc⟩:=h (n,.free) D6 rfl
      B3⟨cl,e,h1,h2,h3⟩:=Gy env r ((n,c)::acc) fun x hx=>h x (C8 _ hx)
      &⟨cl,?_,fun x d hd=>?_,fun x hx=>?_,fun x d hd=>?_⟩
      · have e0:cellOf env n=pure c:=by B4 cellOf;rw[hc]
        simp only[beq_self_eq_true,if_true,e0,pure_bind]
        ~e
      · rcases h1 x d hd with ⟨k',m,q⟩ | q
        · ~.inl ⟨k',C8 _ m,q⟩
        · rw[T1]at q
          by_cases e:x==n
          · rw[e]at q
            have e':=eq_of_beq e
            subst e'
            cases q
            ~.inl ⟨.free,D6,rfl,hc⟩
          · have e':(x==n)=false:=by simpa using e
            rw[e']at q
            ~.inr q
      · rcases D5.mp hx with q | q
        · cases q
          ~h3 n c (by simp)
        · ~h2 x q
      · by_cases e:x==n
        · ~h3 x c (by rw[T1,e])
        · have e':(x==n)=false:=by simpa using e
          ~h3 x d (by rw[T1,e'];~hd)
    · B3⟨cl,e,h1,h2,h3⟩:=Gy env r acc fun x hx=>h x (C8 _ hx)
      have hb:(k==NameKind.free)=false:=by simpa using hk
      &⟨cl,?_,fun x d hd=>?_,fun x hx=>?_,h3⟩
      · simp only[hb,V8,if_false,pure_bind]
        ~e
      · rcases h1 x d hd with ⟨k',m,q⟩ | q
        · ~.inl ⟨k',C8 _ m,q⟩
        · ~.inr q
      · rcases D5.mp hx with q | q
        · cases q
          ~absurd rfl hk
        · ~h2 x q
B5 Gd(scope:Scope)(env:Env)(h:∀x∈scope.names,x.2=.free→∃c,env.cells.lookup x.1=some c) :
    ∃cl,closureFor scope env=pure cl∧(∀x c,cl.lookup x=some c→(x,NameKind.free)∈scope.names∧env.cells.lookup x=some c)∧∀x,(x,NameKind.free)∈scope.names→∃c,cl.lookup x=some c:=by
  B3⟨cl,e,h1,h2,_⟩:=Gy env scope.names [] h
  &⟨cl,?_,fun x c hx=>?_,h2⟩
  · B4 closureFor
    ~(congrArg (fun t=>t >>= pure) e).trans (pure_bind _ _)
  · rcases h1 x c hx with ⟨k,m,rfl,q⟩ | q
    · ~⟨m,q⟩
    · simp at q
B5 GC{scope:Scope}{env:Env}(hcell:∀y∈scope.names,y.2≠.cell){x:Str}(h:(relabel scope env).names.lookup x=some .cell∨(relabel scope env).names.lookup x=some .free):(x,NameKind.free)∈scope.names:=by
 have m:(x,NameKind.cell)∈(relabel scope env).names∨(x,NameKind.free)∈(relabel scope env).names:=by
  rcases h with h | h
  ·~.inl (M5 h)
  ·~.inr (M5 h)
 B4 relabel at m
 rcases m with m | m
 all_goals
  B3⟨⟨n,k⟩,hm,e⟩:=J2.mp m
  dsimp only at e
  split at e
  ·rename_i hc
   simp only[G7,beq_iff_eq]at hc
   cases e
   first
    | (rw[hc.1.1]at hm;~hm)
    | skip
  ·cases e
   first
    | ~hm
    | ~absurd rfl (hcell _ hm)
def mK(X:Cx)(scope:Scope)(N:List Str)(cl:List (Str×Addr))(fp:List Addr)(s:Shared)(H:Hp)(C:Addr):Cx where
 prog:=X.prog
 w:=X.w
 K:=X.K
 mg:=X.mg
 base:=X.base
 A:=X.A
 N:=N
 s₀:=s
 H₀:=H
 env:=compEnvC scope cl C X.env
 outer:=X.stack
 stack:=X.stack
 ex:=fp
 calm:=X.calm
 fn:=fun _=>false
 pn:=[]
 xe:=fun _ _=>False
def gq(σ:St)(fr:List Nat):St:=fr.map fun i=>σ.getD i none
def blk(k:Nat)(σ:St)(fr:List Nat):St:=E4 k none++gq σ fr
def Kp(k:Nat)(σ:St)(fr:List Nat)(σ2:St):Prop:=σ2.length=(blk k σ fr).length∧∀(j:Nat) v,(blk k σ fr)[j]?=some (some v)→σ2[j]?=some (some v)
def PTs(X:Cx)(ifs:List Expr)(t:TT):Prop:=
 ∀(pins:List (Addr×Obj))(s:Shared)(σ:St)(H:Hp)(Q:Bool→Hp→Prop),Inv X pins σ H s→t σ H Q →
  wpAny (model X.prog X.w) X.A (forIn ifs true fun c r=>if r=true then do let ok ←isTrue c X.env (eval c X.env);pure (ForInStep.yield ok)else pure (ForInStep.yield r)) (TP X pins σ Q) X.xe s
def aJg:TT:=fun _ H Q=>Q true H
B5 aEJ{X:Cx}:PTs X [] aJg:=fun _ _ _ H _ I h=>wpAny_tests_nil ⟨H,I,h⟩
B5 aEK{X:Cx}{c:Expr}{t:TT}(h:PT X c t):PTs X [c] t:=fun pins s σ H Q I q=>wpAny_tests_one (h pins s σ H Q I q)
B5 Fl{prog:Program}{w:World}{A:Around}{R:Result→Shared→Prop}{s:Shared}{elt target iter:Expr}{ifs:List Expr}{scope:Scope}{pos:Pos}{it acc:Value}{env:Env}(I:Nat→Shared→Prop)
  (turn:∀n s,I n s→wpAny (model prog w) A (pyNext it) (fun r s₁=>match r with
   | none=>R (.ok .next) s₁
   | some v=>wpAny (model prog w) A (letOwnedTupleGo target it v) (fun _ s₀=>wpAny (model prog w) A (assign target env v) (fun _ s₂=>
     wpAny (model prog w) A (forIn ifs true fun c r=>if r=true then do let ok ←isTrue c env (eval c env);pure (ForInStep.yield ok)else pure (ForInStep.yield r)) (fun ok s₃=>
      if ok=true then wpAny (model prog w) A (eval elt env) (fun x s₄=>
       wpAny (model prog w) A (call (.builtin "list.append") [acc,x]) (fun _ s₅=>∃m,m<n∧I m s₅) (fun _ _=>False) s₄) (fun _ _=>False) s₃
      else ∃m,m<n∧I m s₃) (fun _ _=>False) s₂) (fun _ _=>False) s₀) (fun _ _=>False) s₁) (fun _ _=>False) s)
  (n:Nat) (h:I n s) :
  codeAny (model prog w) A (.compLoop (.ListComp elt [⟨target,iter,ifs,0⟩] scope pos) 0 it acc env) R s:=by
 &codeAny_loop rfl I (fun n s hI=>?_) n h
 show wpAny _ A ((compTurn (.ListComp elt [⟨target,iter,ifs,0⟩] scope pos) 0 it acc env).onRaise (fun x=>do noteFrame x env;theTreesLotGoes x)) _ _ s
 &wpAny_noted ?_
 rw[compTurn_list]
 &wpAny_mono (E:=fun _ _=>False) ?_ (fun _ _ q=>q) fun _ _ x=>x.elim
 &wpAny_bind (wpAny_standAt (wpAny_bind (wpAny_mono (turn n s hI) (fun r s₁ h₁=>?_) fun _ _ h'=>h')))
 cases r with
 | none=>~wpAny_pure h₁
 | some v=>
  &wpAny_bind (wpAny_mono h₁ (fun _ s₀ h₀=>?_) fun _ _ h'=>h')
  &wpAny_bind (wpAny_mono h₀ (fun _ s₂ h₂=>wpAny_bind (wpAny_mono h₂ (fun ok s₃ h₃=>?_) fun _ _ h'=>h')) fun _ _ h'=>h')
  cases ok with
  | false=>~wpAny_pure ⟨rfl,h₃⟩
  | true=>
   ~wpAny_bind (wpAny_bind (wpAny_mono h₃ (fun x s₄ h₄=>wpAny_bind (wpAny_mono h₄ (fun _ s₅ h₅=>wpAny_pure (wpAny_pure ⟨rfl,h₅⟩)) fun _ _ h'=>h')) fun _ _ h'=>h'))
def aGe(J:It)(k:Nat)(fr:List Nat)(g:TG)(tc:TT)(te:TE)(σ:St)(H1:Hp)(Q:VK)(D:Addr):Prop:=∃W:Nat→Nat→List V→Hp→Prop,(∃m,W 0 m [] (upd H1 D (.lst []))) ∧
 ∀i m ys H,W i m ys H→H D=some (.lst ys)∧((J.stop i H∧Q (.ref D) H)∨(J.go i H∧∀x H',J.yld i H x H'→g x (blk k σ fr) H' fun σ2 H2=>Kp k σ fr σ2∧tc σ2 H2 fun ok H3=>if ok=true then
  te σ2 H3 fun y H4=>H4 D=some (.lst ys)∧ys.length<sizeLine∧∃m',m'<m∧W (i+1) m' (ys++[y]) (upd H4 D (.lst (ys++[y])))else ∃m',m'<m∧W (i+1) m' ys H3))
def QM(wi:TI)(k:Nat)(fr:List Nat)(g:TG)(tc:TT)(te:TE):TE:=fun σ H Q=>wi σ H fun J H1=>∀D,H1 D=none→aGe J k fr g tc te σ H1 Q D
def xV(scope NZ:Scope):Scope:=
 {scope with names:=scope.names.map fun(n,k)=>if(k==.free&&NZ.kind==.function&&NZ.names.lookup n==some .cell)then(n,.cell)else(n,k)}
structure mG(NZ scope:Scope)(oN N:List Str)(k:Nat)(fr:List Nat):Prop where
 kind:scope.kind=.function
 cell:∀y∈scope.names,y.2≠.cell
 loc:∀y∈scope.names,y.2=.local→scope.names.lookup y.1=some .local
 free:∀y∈scope.names,y.2=.free→NZ.names.lookup y.1=some .cell∨NZ.names.lookup y.1=some .free
 len:N.length=k+fr.length
 slots:∀j∈D4 fr.length,oN[fr.getD j 0]?=N[k+j]?
 from_:∀x∈N.drop k,(x,NameKind.free)∈scope.names∧((xV scope NZ).names.lookup x=some .cell∨(xV scope NZ).names.lookup x=some .free)
def ug(NZ scope:Scope)(oN N:List Str)(k:Nat)(fr:List Nat):Bool:=
 decide (scope.kind=.function)&&decide (∀y∈scope.names,y.2≠.cell)&&decide (∀y∈scope.names,y.2=.local→scope.names.lookup y.1=some .local) &&
 decide (∀y∈scope.names,y.2=.free→NZ.names.lookup y.1=some .cell∨NZ.names.lookup y.1=some .free)&&decide (N.length=k+fr.length) &&
 decide (∀j∈D4 fr.length,oN[fr.getD j 0]?=N[k+j]?) &&
 decide (∀x∈N.drop k,(x,NameKind.free)∈scope.names∧((xV scope NZ).names.lookup x=some .cell∨(xV scope NZ).names.lookup x=some .free))
B5 mG.of{NZ scope:Scope}{oN N:List Str}{k:Nat}{fr:List Nat}(h:ug NZ scope oN N k fr=true):mG NZ scope oN N k fr:=by
 B4 ug at h
 simp only[G7,decide_eq_true_eq]at h
 B3⟨⟨⟨⟨⟨⟨h1,h2⟩,h3⟩,h4⟩,h5⟩,h6⟩,h7⟩:=h
 ~⟨h1,h2,h3,h4,h5,h6,h7⟩
section
variable{X:Cx}
B5 aEL{k:Nat}{σ:St}{fr:List Nat}{i:Nat}{v:V}(h:(blk k σ fr)[i]?=some (some v)):∃j o,i=k+j∧fr[j]?=some o∧σ[o]?=some (some v):=by
 B4 blk at h
 by_cases hi:i<k
 ·rw[G4 (by simpa using hi),P0]at h
  rw[if_pos hi]at h
  cases h
 ·rw[L3 (by simpa using hi),P8]at h
  B4 gq at h
  rw[B9]at h
  cases e:fr[i-k]? with
  | none=>rw[e]at h;cases h
  | some o=>
   rw[e]at h
   &⟨i-k,o,by omega,e,?_⟩
   have h:some (σ.getD o none)=some (some v):=h
   have h:=F5 h
   rw[B8]at h
   cases e2:σ[o]? with
   | none=>rw[e2]at h;cases h
   | some z=>rw[e2]at h;~congrArg some h
B5 gr{pins:List (Addr×Obj)}{σ:St}{H:Hp}{s:Shared}{scope:Scope}{N:List Str}{k:Nat}{fr:List Nat}{cl:List (Str×Addr)}{fp:List Addr}{h₁:Heap}{tk:Nat}{m:Str→Option Value}
    (I:Inv X pins σ H s) (B:mG X.env.scope scope X.N N k fr) (hf:∀b∈fp,DG X pins H b) (hfo:∀b∈fp,b<s.heap.objs.size)
    (hcl:∀x c,cl.lookup x=some c→(x,NameKind.free)∈scope.names∧X.env.cells.lookup x=some c) (aEM:∀x,(x,NameKind.free)∈scope.names→∃c,cl.lookup x=some c)
    (hn:h₁.Ns (s.heap.objs.size+1) m) (hs:Heap.SameBut (s.heap.objs.size+1) ((s.heap.push {cls:=.type "list", data:=.seq ([]:List Value).toArray}).push {cls:=.type "dict", data:=.dict #[]}) h₁) :
    Inv (mK X scope N cl fp s H (s.heap.objs.size+1)) [] (blk k σ fr) (upd H s.heap.objs.size (.lst [])) {s with heap:=h₁,toks:=tk}:=by
  have I3:=I.aJc (ys:=[]) (its:=[]) (t':=tk) .nil (M0 _)
  have hD:H s.heap.objs.size=none:=I.fresh
  have hC:H (s.heap.objs.size+1)=none:=I.hok.fresh (M9 _)
  have neC:∀b o,(s.heap.push {cls:=.type "list", data:=.seq ([]:List Value).toArray}).get? b=some o→b≠s.heap.objs.size+1:=fun b o e=>by
    have:=Heap.lt_size e
    rw[Heap.size_push]at this
    ~E7 this
  have aGf:∀b o,(s.heap.push {cls:=.type "list", data:=.seq ([]:List Value).toArray}).get? b=some o→h₁.get? b=some o:=fun b o e=>
    hs.extBut b o (neC b o e) (Heap.get?_push_of_some _ e)
  have kept:∀b o,s.heap.get? b=some o→h₁.get? b=some o:=fun b o e=>aGf b o (Heap.get?_push_of_some _ e)
  &⟨⟨I.ok.mod,B.kind,I.ok.glob,I.ok.blt,M9 _,fun x y c h1 h2=>I.ok.inj x y c (hcl x c h1).2 (hcl y c h2).2,fun x hx=>aEM x (GC B.cell hx),fun x c h _=>(nomatch h),
      I.ok.hd,I.ok.frames,.inl rfl,fun b hb=>⟨?_,fun x c e=>(hf b hb).2.2.2.2.1 x c (hcl x c e).2⟩,fun b o e=>I.bs b o e,G0 I.ok.bsz I.sz,fun b o e hb=>?_,fun b hb hb2=>?_,I.stack,I.qy⟩,
    rfl,I.bare,Un.laid kept (C5 _) hD,⟨m,hn,fun i x v h1 h2 h3=>?_⟩,fun x c e=>?_,?_,fun x c e=>?_,fun p hp=>absurd (show p∈([]:List (Addr×Obj))from hp) (by simp),?_,?_⟩
  · ~E7 (M4 (hfo b hb))
  · rcases(hf b hb).2.2.2.1 with z | z
    · ~I.ok.aBm b o e z
    · ~absurd (E1 (Heap.lt_size e) (G0 I.ok.bsz z)) (K6 _)
  · rcases D5.mp (I.CW b hb2)with z | z
    · ~(hf b hb).2.1 z
    · ~(hf b hb).2.2.1 z
  · B3⟨j,o,rfl,h4,h5⟩:=aEL h2
    have h1:N[k+j]?=some x:=h1
    have hj:j<fr.length:=(D2.mp h4).1
    have hx:X.N[o]?=some x:=by
      have q:=B.slots j (F9.mpr hj)
      rw[B8,h4]at q
      ~q.trans h1
    B3⟨hfr,hre⟩:=B.from_ x (E6 (i:=j) (by rw[V9];~h1))
    have hk:=B.free _ hfr rfl
    B3⟨m0,hn0,hl0⟩:=I.loc
    have hv:Vis X.env.scope x:=by
      rcases hk with q | q
      · ~.inr (.inl q)
      · ~.inr (.inr q)
    B3⟨u,r,l⟩:=hl0 o x v hx h5 hv
    &⟨u,r,.inr ?_⟩
    rcases l with ⟨q,_⟩ | ⟨_,c,e,z⟩
    · rcases hk with q' | q'
      · ~absurd (q.symm.trans q') (by intro z;cases z)
      · ~absurd (q.symm.trans q') (by intro z;cases z)
    · B3⟨c',e'⟩:=aEM x hfr
      have e2:=(hcl x c' e').2
      rw[e]at e2
      cases e2
      &⟨hre,c,e',?_⟩
      B3⟨oc,hoc,hd⟩:=z
      ~⟨oc,kept c oc hoc,hd⟩
  · B3⟨v,oc,hoc,hd⟩:=I.cell x c (hcl x c e).2
    ~⟨v,oc,kept c oc hoc,hd⟩
  · show upd H s.heap.objs.size (.lst []) (s.heap.objs.size+1)=none
    rw[bN (O6 (M7 _))]
    ~hC
  · have hc:=(hcl x c e).2
    B3⟨v,oc,hoc,hd⟩:=I.cell x c hc
    show upd H s.heap.objs.size (.lst []) c=none
    rw[bN (E7 (Heap.lt_size hoc))]
    ~I.Av x c hc
  · ~Gs.kept I3.hok aGf
  · show (blk k σ fr).length=N.length
    rw[B.len]
    B4 blk gq
    simp
B5 QQ{tg elt iter:Expr}{ifs:List Expr}{scope:Scope}{pos:Pos}{N:List Str}{k:Nat}{fr:List Nat}{g:TG}{tc:TT}{te:TE}{cl:List (Str×Addr)}{pins:List (Addr×Obj)}{σ:St}{H:Hp}{s:Shared}{it:Addr}{fp:List Addr}{tn:Nat→Heap→Prop}{J:It}{Q:VK}
    {RR:Value→Addr→Result→Shared→Prop} {E:Value→Shared→Prop} (hcalm:X.calm=true) (I:Inv X pins σ H s) (T:Turn X.prog X.w X.K tg J fp it tn) (st:tn 0 s.heap) (hf:∀b∈fp,DG X pins H b) (B:mG X.env.scope scope X.N N k fr)
    (hcl:∀x c,cl.lookup x=some c→(x,NameKind.free)∈scope.names∧X.env.cells.lookup x=some c) (aEM:∀x,(x,NameKind.free)∈scope.names→∃c,cl.lookup x=some c)
    (hg:∀cl fp s H C,PG (mK X scope N cl fp s H C) tg g) (hc:∀cl fp s H C,PTs (mK X scope N cl fp s H C) ifs tc) (he:∀cl fp s H C,PE (mK X scope N cl fp s H C) elt te)
    (hw:∀D,H D=none→aGe J k fr g tc te σ H Q D)
    (hRR:∀D C m s' H',s'.heap.Ns C m→s.heap.objs.size≤C→H' C=none→C≠D→Inv X pins σ H' s'→Q (.ref D) H'→RR (.ref D) C (.ok .next) s') :
    wpAny (model X.prog X.w) X.A (newList []) (fun acc s₃=>wpAny (model X.prog X.w) X.A (newFunctionEnv scope X.env.globals cl [] X.env.qual none .none (some X.env)) (fun cenv s₄=>
      codeAny (model X.prog X.w) X.A (.compStart (.ListComp elt [⟨tg,iter,ifs,0⟩] scope pos) 0 (.ref it) acc {cenv with scope:=relabel scope X.env}) (RR acc cenv.locals) s₄) E s₃) E s:=by
  &wpAny_newObj_type (wpAny_newFunctionEnv B.cell (by intro y hy;simp at hy) (fun h₁ hns₁ hsb₁=>?_) B.kind)
  dsimp only at hns₁ hsb₁ ⊢
  rw[Heap.size_push]at hns₁ hsb₁ ⊢
  have hfo:∀b∈fp,b<s.heap.objs.size:=fun b hb=>by
    B3⟨o,e,_⟩:=T.obj 0 _ st b hb
    ~Heap.lt_size e
  have I4:=gr (tk:=s.toks+([]:List (Str×Value)).length) I B hf hfo hcl aEM hns₁ hsb₁
  generalize hD:s.heap.objs.size=D at *
  have hDn:H D=none:=by rw[←hD];~I.fresh
  B3⟨W,⟨m0,w0⟩,turn⟩:=hw D hDn
  have st1:tn 0 h₁:=T.keep 0 _ _ st fun b hb o e=>hsb₁.extBut b o (E7 (M4 (by have:=hfo b hb;~this))) (Heap.get?_push_of_some _ (Heap.get?_push_of_some _ e))
  have fr0:∀b∈fp,(upd H D (.lst [])) b=none:=fun b hb=>by
    rw[bN (E7 (hfo b hb))]
    ~(hf b hb).1
  generalize hX':mK X scope N cl fp s H (D+1)=X' at I4
  have stat:∀{H':Hp},(∀b∈fp,H' b=none)→∀b∈fp,DG X' [] H' b:=fun{H'} hn b hb=>by
    subst hX'
    &⟨hn b hb,?_,fun z=>?_,.inl hb,fun x c e=>(hf b hb).2.2.2.2.1 x c (hcl x c e).2,fun p hp=>absurd (show p∈([]:List (Addr×Obj))from hp) (by simp)⟩
    · ~E7 (M4 (hfo b hb))
    · rcases D5.mp (I.CW b z)with z | z
      · ~(hf b hb).2.1 z
      · ~(hf b hb).2.2.1 z
  have loop:∀s₃:Shared,s₃={s with heap:=h₁,toks:=s.toks+([]:List (Str×Value)).length} →
      codeAny (model X.prog X.w) X.A (.compLoop (.ListComp elt [⟨tg,iter,ifs,0⟩] scope pos) 0 (.ref it) (.ref D) (compEnvC scope cl (D+1) X.env)) (RR (.ref D) (D+1)) s₃:=by
    rintro s₃ rfl
    &Fl (fun n s'=>∃i ys H',Inv X' [] (blk k σ fr) H' s'∧tn i s'.heap∧(∀b∈fp,H' b=none)∧W i n ys H') ?_ m0 ⟨0,[],_,I4,st1,fr0,w0⟩
    rintro n s5 ⟨i,ys,H5,I5,st5,fr5,w5⟩
    B3⟨hys,way⟩:=turn i n ys H5 w5
    have e1:X'.prog=X.prog:=by rw[←hX'];rfl
    have e2:X'.w=X.w:=by rw[←hX'];rfl
    have e3:X'.K=X.K:=by rw[←hX'];rfl
    have e4:X'.A=X.A:=by rw[←hX'];rfl
    have e5:X'.calm=true:=by rw[←hX'];~hcalm
    have e6:X'.env=compEnvC scope cl (D+1) X.env:=by rw[←hX'];rfl
    have e7:X'.xe=fun _ _=>False:=by rw[←hX'];rfl
    rcases way with ⟨stop,q⟩ | ⟨go,step⟩
    · have d:=T.done X' e1 e2 e3 e5 i [] s5 _ H5 (fun _ _=>False) I5 (stat fr5) st5 stop
      rw[e4]at d
      &jG d fun r s6 ⟨hr,I6⟩=>?_
      subst hr
      subst hX'
      B3⟨m6,hn6,_⟩:=I6.loc
      &hRR D (D+1) m6 s6 H5 hn6 (M9 _) I6.free (O6 (M7 _)) ?_ q
      ~I.call' I6.os I6.base I6.hok I6.bare fun b hb=>⟨(hf b hb).2.2.2.1,(hf b hb).2.1,(hf b hb).2.2.2.2.1,(hf b hb).2.2.2.2.2⟩
    · have d:=T.item X' e1 e2 e3 e5 i [] s5 _ H5 (fun _ _=>False) I5 (stat fr5) st5 go
      rw[e4]at d
      &jG d fun r s6 ⟨u,hr,h6⟩=>?_
      subst hr
      &jG h6 fun _ s7 ⟨x,H7,I7,r7,y7,st7,fr7⟩=>?_
      have I7':=I7.pinned (stat fr7) (T.obj _ _ st7)
      have hg':PG X' tg g:=by rw[←hX'];~hg _ _ _ _ _
      have hc':PTs X' ifs tc:=by rw[←hX'];~hc _ _ _ _ _
      have he':PE X' elt te:=by rw[←hX'];~he _ _ _ _ _
      have a1:=hg' _ s7 _ H7 x u _ I7' r7 (step x H7 y7)
      rw[e1,e2,e4,e6,e7]at a1
      &jG a1 fun _ s8 ⟨σ8,H8,I8,⟨kl,kk⟩,q8⟩=>?_
      have a2:=hc' _ s8 σ8 H8 _ I8 q8
      rw[e1,e2,e4,e6,e7]at a2
      &jG a2 fun ok s9 ⟨H9,I9,q9⟩=>?_
      have again:∀{Ha:Hp} {ya:List V} {sa:Shared},Inv X' ([]++Rx fp s7.heap) σ8 Ha sa→(∃m',m'<n∧W (i+1) m' ya Ha) →
          ∃m,m<n∧∃i ys H',Inv X' [] (blk k σ fr) H' sa∧tn i sa.heap∧(∀b∈fp,H' b=none)∧W i m ys H':=fun{Ha ya sa} Ia ⟨m',hm,w'⟩=>by
        &⟨m',hm,i+1,ya,Ha,(Ia.weak kl.symm kk).Ji,T.keep _ _ _ st7 fun b hb o e=>(Ia.pin (b,o) (J1 _ (J1 _ (yX hb e)))).1,fun b hb=>?_,w'⟩
        B3⟨o,e,d⟩:=T.obj _ _ st7 b hb
        ~(Ia.pin (b,o) (J1 _ (J1 _ (yX hb e)))).2.1
      cases ok with
      | false=>~again I9 q9
      | true=>
        have a3:=he' _ s9 σ8 H9 _ I9 q9
        rw[e1,e2,e4,e6,e7]at a3
        show wpAny _ _ _ _ _ s9
        &jG a3 fun v s10 ⟨y,H10,I10,r10,hD10,hz,q10⟩=>?_
        have a4:=lM (X:=X') _ s10 σ8 H10 (.ref D) [y] (.ref D) [v] (fun _ H11=>H11=upd H10 D (.lst (ys++[y]))) I10 rfl (.cons r10 .nil) ⟨D,ys,y,rfl,rfl,hD10,hz,rfl⟩
        rw[e1,e2,e4,e7]at a4
        &jG a4 fun _ s11 ⟨_,H11,I11,_,e11⟩=>?_
        subst e11
        ~again I11 q10
  ~codeAny_compStart_list (loop _ rfl) (T.self _ 0 _ _ _ st1 (loop _ rfl))
B5 aEN{tg elt iter:Expr}{ifs:List Expr}{scope:Scope}{pos:Pos}{wi:TI}{g:TG}{tc:TT}{te:TE}(N:List Str)(k:Nat)(fr:List Nat)(hcalm:X.calm=true)(B:mG X.env.scope scope X.N N k fr)(hi:PI X tg iter wi)
  (hg:∀cl fp s H C,PG (mK X scope N cl fp s H C) tg g) (hc:∀cl fp s H C,PTs (mK X scope N cl fp s H C) ifs tc) (he:∀cl fp s H C,PE (mK X scope N cl fp s H C) elt te)
  (hs:∀x,foldedSetIterable iter X.env x=pure x:=by intro _;rfl):PE X (.ListComp elt [⟨tg,iter,ifs,0⟩] scope pos) (QM wi k fr g tc te):=by
 intro pins s σ H Q I h
 B3⟨cl,e,h1,h2⟩:=Gd scope X.env fun y hy hk=>I.ok.has y.1 (B.free y hy hk)
 rw[eval_ListComp]
 &wpAny_comprehension_free (use:=none) rfl hs e B.kind B.loc (wpAny_mono (hi pins s σ H _ I h) (fun xv s₁ q₁=>wpAny_mono q₁ (fun itv s₂ q₂=>?_) fun _ _ x=>x) fun _ _ x=>x)
 B3⟨it,fp,tn,J,H2,rfl,I2,T,st2,f2,hw⟩:=q₂
 &QQ (Q:=Q) (RR:=fun acc C=>compPost (model X.prog X.w) X.A X.xe none (EP X pins σ Q) acc C) hcalm I2 T st2 f2 B h1 h2 hg hc he hw ?_
 intro D C m s' H' hn hC hf hne I' q
 &⟨m,hn,fun h' hs'=>⟨.ref D,H',?_,rfl,q⟩⟩
 ~I'.turned (t':=s'.toks) (fun b o hb eb=>(hs'.2 b hb).trans eb) hf (O6 (E1 I2.lt hC)) (.inr (G0 I2.sz hC)) (fun x c ec z=>by
  B3⟨v,q⟩:=I2.cell x c ec
  ~absurd (E1 q.lt (by rw[z];~hC)) (K6 _)) fun p hp z=>absurd (E1 (Heap.lt_size (I2.pin p hp).1) (by rw[z];~hC)) (K6 _)
B5 aEO{tg elt iter:Expr}{ifs:List Expr}{scope:Scope}{pos spos py:Pos}{y:Str}{i:Nat}{wi:TI}{g:TG}{tc:TT}{te:TE}(N:List Str)(k:Nat)(fr:List Nat)(hcalm:X.calm=true)(B:mG X.env.scope scope X.N N k fr)(hN:X.N.Nodup)(hy:X.N[i]?=some y)(hx:Loc X.env.scope y)(hi:PI X tg iter wi)
  (hg:∀cl fp s H C,PG (mK X scope N cl fp s H C) tg g) (hc:∀cl fp s H C,PTs (mK X scope N cl fp s H C) ifs tc) (he:∀cl fp s H C,PE (mK X scope N cl fp s H C) elt te)
  (hsw:swapsWith (.ListComp elt [⟨tg,iter,ifs,0⟩] scope pos) (some (.Name y py)) spos.line X.env=pure true:=by rfl)
  (hs:∀x,foldedSetIterable iter X.env x=pure x:=by intro _;rfl) (hf:X.fn y=true∨X.env.scope.names.lookup y=some .local:=by first | ~.inl rfl | ~.inr rfl | assumption) :
  PS X (.Assign [.Name y py] (.ListComp elt [⟨tg,iter,ifs,0⟩] scope pos) spos) (Bm (QM wi k fr g tc te) (lW i)):=by
 intro pins s σ H D I h
 B3⟨cl,e,h1,h2⟩:=Gd scope X.env fun y hy hk=>I.ok.has y.1 (B.free y hy hk)
 rw[exec_Assign_Name_used _ _ _ _ hsw]
 &wpAny_bind (wpAny_standAt (wpAny_bind ?_))
 show wpAny _ X.A (do let _ ←comprehension (.ListComp elt [⟨tg,iter,ifs,0⟩] scope pos) scope X.env _ (newList []) false (eval iter X.env) (some (assign (.Name y py) X.env))) _ _ s
 &wpAny_bind (wpAny_mono (wpAny_comprehension_free (use:=some (assign (.Name y py) X.env)) (Q:=fun _ s'=>SP X pins D .next s') rfl hs e B.kind B.loc
  (wpAny_mono (hi pins s σ H _ I h) (fun xv s₁ q₁=>wpAny_mono q₁ (fun itv s₂ q₂=>?_) fun _ _ x=>x) fun _ _ x=>x)) (fun _ s' hq=>wpAny_pure (wpAny_pure hq)) fun _ _ x=>x)
 B3⟨it,fp,tn,J,H2,rfl,I2,T,st2,f2,hw⟩:=q₂
 &QQ (Q:=fun x H1=>lW i x σ H1 D.nx) (RR:=fun acc C=>compPost (model X.prog X.w) X.A X.xe (some (assign (.Name y py) X.env)) (fun _ s'=>SP X pins D .next s') acc C) hcalm I2 T st2 f2 B h1 h2 hg hc he hw ?_
 intro E C m s' H' hn hC hfr hne I' q
 show wpAny _ X.A (assign (.Name y py) X.env (.ref E)) _ _ _
 have cne:∀x c,X.env.cells.lookup x=some c→c≠C:=fun x c ec z=>by
  B3⟨v,q⟩:=I2.cell x c ec
  ~absurd (E1 q.lt (by rw[z];~hC)) (K6 _)
 &wpAny_assign_Name (Xu I' hN hy hx (show RelV (.ref E) (.ref E)from rfl) (fun s6 I6 ⟨a,hsb,ha⟩=>?_) hf)
 have neA:C≠a:=by
  rcases ha with z | z
  ·rw[z];~O6 (E1 I2.lt hC)
  ·~fun q=>cne _ _ z q.symm
 &⟨m,hn.sameBut hsb neA,fun h'' hs''=>⟨_,H',?_,q⟩⟩
 ~I6.turned (t':=s6.toks) (fun b o hb eb=>(hs''.2 b hb).trans eb) hfr (O6 (E1 I2.lt hC)) (.inr (G0 I2.sz hC)) cne
  fun p hp z=>absurd (E1 (Heap.lt_size (I2.pin p hp).1) (by rw[z];~hC)) (K6 _)
end
end L2


set_option maxHeartbeats 4000000
namespace L2
open PySem PySem.Spec PyProof.Rows
def JIs(J:It)(P:Hp→Prop)(xs:List V):Prop:=
 ∀i H,P H→(i<xs.length→J.go i H)∧(∀x H',J.yld i H x H'→H'=H∧(i<xs.length→xs[i]?=some x))∧(xs.length≤i→J.stop i H)
B5 QR{K:aJ}{a:Addr}{xs:List V}:JIs (Itl K a) (fun H=>rJ K H a xs) xs:=fun i H hq=>
 ⟨fun h=>⟨xs,xs[i],hq,by simp[h]⟩,fun x H' ⟨e,y⟩=>⟨e,fun _=>y xs hq⟩,fun h=>⟨xs,hq,h⟩⟩
B5 aEP{K:aJ}{a:Addr}{xs:List V}:JIs (Itt K a) (fun H=>yV K H a xs) xs:=fun i H hq=>
 ⟨fun h=>⟨xs,xs[i],hq,by simp[h]⟩,fun x H' ⟨e,y⟩=>⟨e,fun _=>y xs hq⟩,fun h=>⟨xs,hq,h⟩⟩
B5 Ea{lo:Int}{n:Nat}:JIs (Itr lo n) (fun _=>True) ((D4 n).map fun i:Nat=>V.int (lo+(i:Int))):=fun i H _=>
 ⟨fun h=>show i<n by simpa using h,fun x H' ⟨e,y⟩=>⟨e,fun h=>by
  have h:i<n:=by simpa using h
  subst y
  simp[h]⟩,fun h=>show n≤i by simpa using h⟩
section
variable{X:Cx}
B5 iU{scope:Scope}{N:List Str}{x:Str}{pos:Pos}(hN:N.Nodup)(hi:N[0]?=some x)(hx:(xV scope X.env.scope).names.lookup x=some .local) :
  ∀cl fp s H C,PG (mK X scope N cl fp s H C) (.Name x pos) (lW 0):=fun _ _ _ _ _=>kI hN hi (D1 hx) (C9 hx)
B5 aEQ{P:Program}{w:World}{k:Key}{v:Value}(h:(iI P w).is k v=true):RelV (kV k) v:=by
 rcases iZ (k:=k) (v:=v) h with ⟨i,t,rfl,rfl⟩ | ⟨x,t,rfl,rfl⟩
 ·~⟨t,rfl⟩
 ·~⟨t,rfl⟩
B5 GD{J:It}{P:Hp→Prop}{xs:List V}(hJ:JIs J P xs){g:TG}{tb:TS}{D:Ends}{σ:St}{H:Hp}(Pv:Nat→St→Hp→Prop)(h0:Pv 0 σ H)(hl:∀i σ H,i≤xs.length→Pv i σ H→P H)
  (hs:∀i x σ H,xs[i]?=some x→Pv i σ H→g x σ H fun σ2 H2=>tb {D with nx:=Pv (i+1),ct:=Pv (i+1),bk:=D.nx} σ2 H2) (hd:∀σ H,Pv xs.length σ H→D.nx σ H) :
  ∃W:Nat→Nat→St→Hp→Prop,(∃m,W 0 m σ H)∧∀i m σ H,W i m σ H →
   (J.stop i H∧D.nx σ H)∨(J.go i H∧∃N:St→Hp→Prop,(∀σ' H',N σ' H'→∃m',m'<m∧W (i+1) m' σ' H')∧∀x H',J.yld i H x H'→g x σ H' fun σ2 H2=>tb {D with nx:=N,ct:=N,bk:=D.nx} σ2 H2):=by
 &⟨fun i m σ H=>m=xs.length-i∧i≤xs.length∧Pv i σ H,⟨xs.length,by simp,M0 _,h0⟩,?_⟩
 rintro i m σ H ⟨rfl,hi,p⟩
 B3⟨j1,j2,j3⟩:=hJ i H (hl i σ H hi p)
 by_cases hlt:i<xs.length
 ·&.inr ⟨j1 hlt,Pv (i+1),fun σ' H' p'=>⟨xs.length-(i+1),by omega,rfl,hlt,p'⟩,fun x H' y=>?_⟩
  B3⟨e,ex⟩:=j2 x H' y
  subst e
  ~hs i x σ _ (ex hlt) p
 ·have e:i=xs.length:=by omega
  subst e
  ~.inl ⟨j3 (C5 _),hd σ H p⟩
end
end L2


namespace L2
open PySem PySem.Spec PyProof.Rows
section
variable{X:Cx}
B5 Ov:∀{bs:List Bool} {us:List Value},Vals (bs.map V.bl) us→us=bs.map Value.bool
 | [],us,r=>by rw[G6]at r;cases r;rfl
 | b::bs,us,r=>by
  rw[D3]at r
  cases r with
  | cons r1 r2=>
   cases(show _=Value.bool b from r1)
   rw[Ov r2]
   rfl
B5 gw(bs:List Bool):((D4 bs.length).all fun i=>(bs[i]?).getD true)=bs.all id:=by
 rw[L5,L8,L8]
 constructor
 ·intro h b hb
  B3⟨i,hi,rfl⟩:=K0 hb
  have:=h i (F9.mpr hi)
  simpa[hi]using this
 ·intro h i hi
  have hi':=F9.mp hi
  simp only[B7 hi',T2]
  ~h _ (N6 hi')
B5 uh{s:Shared}{h':Heap}{o:Obj}(hk:∀b x,b∉[s.heap.objs.size]→(s.heap.push o).get? b=some x→h'.get? b=some x):∀b x,s.heap.get? b=some x→h'.get? b=some x:=
 fun b x e=>hk b x (fun hm=>by rw[E3.mp hm]at e;~K6 _ (Heap.lt_size e)) (Heap.get?_push_of_some _ e)
B5 aBZ(hc:X.calm=true):oJ X (.builtin "all") (fun xs H Q=>∃(p:Addr)(bs:List Bool),xs=[.ref p]∧rJ X.K H p (bs.map V.bl)∧Q (.bl (bs.all id)) H):=by
 intro pins s σ H xs us Q I r h
 B3⟨p,bs,rfl,hq,q⟩:=h
 B3⟨u,rfl,rx⟩:=vals1 r
 cases rx
 B3⟨its,rv,pl,hz⟩:=I.list hq
 have hb:=Ov rv
 subst hb
 have hl:=pl.isList
 have hlt:p<s.heap.objs.size:=by B3⟨_,e,_⟩:=hl;~Heap.lt_size e
 &call_all_walk (wpAny_pyIter_list hl ?_)
 &⟨s.heap.objs.size,[s.heap.objs.size,p],[s.heap.objs.size],_,_,_,fun i=>(bs[i]?).getD true,rfl,Walks.list (A:=X.A.in1) (I.ok.hd hc) _ p (E7 hlt) _,
  ⟨⟨_,Heap.get?_push_size _ rfl,rfl,rfl⟩,hl.push _⟩,fun i v s' Q' E' hP hQ=>?_,fun h' tk hk=>?_⟩
 ·have e:(bs.map Value.bool)[i]?=some v:=by simpa using hP
  rw[B9]at e
  cases e2:bs[i]? with
  | none=>rw[e2]at e;cases e
  | some b=>
   rw[e2]at e
   cases e
   simp only[e2,T2]at hQ
   ~wpAny_truthy_bool hQ
 ·have e:((D4 (bs.map Value.bool).toArray.size).all fun i=>(bs[i]?).getD true)=bs.all id:=by
   rw[C6,B6];~gw bs
  rw[e]
  ~⟨.bl _,H,I.kept (uh hk),rfl,q⟩
B5 aAp{P:Program}{w:World}{kvs:List (Key×V)}{vs:List (Key×Value)}(rel:KV kvs vs){us:List Value}(hl:us.length=vs.length)(hv:∀(j:Nat)(v:Value),us[j]?=some v→∃k x,vs[j]?=some (k,x)∧(iI P w).is k v=true) :
  Vals (kvs.map fun kv=>kV kv.1) us:=by
 have ek:=KV.keys rel
 have e0:(kvs.map fun kv=>kV kv.1)=(vs.map (·.1)).map kV:=by rw[←ek,K7];rfl
 rw[e0]
 clear e0 ek rel
 induction vs generalizing us with
 | nil=>
  cases us with
  | nil=>~.nil
  | cons _ _=>simp at hl
 | cons p r ih=>
  cases us with
  | nil=>simp at hl
  | cons u us=>
   &.cons ?_ (ih (by simpa using hl) fun j v e=>by simpa using hv (j+1) v (by simpa using e))
   B3⟨k,x,e,h⟩:=hv 0 u rfl
   simp at e
   subst e
   ~aEQ h
B5 Bq(hc:X.calm=true):oJ X (.type "list") (fun xs H Q=>∃p kvs,xs=[.ref p]∧Rd H p (.dK kvs)∧∀l,H l=none→Q (.ref l) (upd H l (.lst (kvs.map fun kv=>kV kv.1)))):=by
 intro pins s σ H xs us Q I r h
 B3⟨p,kvs,rfl,hq,q⟩:=h
 B3⟨u,rfl,rx⟩:=vals1 r
 cases rx
 B3⟨hz,hsm,vs,rel,dd⟩:=Ou I.hok hq
 B3⟨ep,hat⟩:=dd.dictAt
 have hl:=KV.length rel
 &PySem.W.kdl_call (PySem.W.kdl_dict (knd:=iI X.prog X.w) (kvs:=vs) (ep:=ep) hsm) (I.ok.hd hc) hat A6 ?_
 intro h' tk acc c kp e hacc
 have hk:=aAp (P:=X.prog) (w:=X.w) rel (us:=acc.toList) (by rw[J9];~hacc.1) fun j v ej=>hacc.2 j v (by rw[←L7];~ej)
 ~⟨.ref s.heap.objs.size,_,I.laid (t':=tk) kp (C5 _) (show jZ X.prog X.w _ h' _ (.lst (kvs.map fun kv=>kV kv.1))from⟨by rw[B6];~hz,acc.toList,c,hk,by simpa using e⟩),rfl,q _ (I.hok.fresh (C5 _))⟩
def rising(ns ms:List Int):Prop:=ms.Perm ns∧ms.Pairwise (·≤·)
B5 QS:oJ X (.builtin "sorted") (fun xs H Q=>∃(p:Addr)(ns:List Int),xs=[.ref p]∧rJ X.K H p (ns.map V.int)∧ns.length<64∧∀l ms,H l=none→rising ns ms→Q (.ref l) (upd H l (.lst (ms.map V.int)))):=by
 intro pins s σ H xs us Q I r h
 B3⟨p,ns,rfl,hq,h64,q⟩:=h
 B3⟨u,rfl,rx⟩:=vals1 r
 cases rx
 B3⟨its,rv,pl,hz⟩:=I.list hq
 have hlen:=rv.length
 rw[B6]at hlen
 &sorted_ints pl.isList (intsAre_of rv) A6 fun out ns' a1 a2 a3=>?_
 B3⟨e,he⟩:=sortedAll_at s.heap its out
 have hl2:ns'.length=ns.length:=a2.length_eq
 have hs:H (s.heap.objs.size+1)=none:=I.hok.fresh (M9 _)
 have I2:=I.laid (t':=s.toks) (a:=s.heap.objs.size+1) (o:=.lst (ns'.map V.int)) (h':=sortedAll s.heap its out) (fun b o e=>sortedAll_old e) (M9 _)
  ⟨by rw[B6];~O5 (xU A6),out.toList,e,Dz a1,by simpa[seqObj]using he⟩
 ~⟨.ref _,_,I2,rfl,q _ _ hs ⟨a2,a3⟩⟩
end
inductive DV where
  | int (i:Int) | non | lst (ds:List DV) | tup (ds:List DV)
mutual
def Reads(K:aJ)(H:Hp):DV→V→Prop
 | .int i,x=>x=.int i
 | .non,x=>x=.non
 | .lst ds,x=>∃a xs,x=.ref a∧rJ K H a xs∧fK K H ds xs
 | .tup ds,x=>∃a xs,x=.ref a∧yV K H a xs∧fK K H ds xs
def fK(K:aJ)(H:Hp):List DV→List V→Prop
 | [],xs=>xs=[]
 | d::ds,xs=>∃y ys,xs=y::ys∧Reads K H d y∧fK K H ds ys
end
mutual
def DV.depth:DV→Nat
 | .int _=>0
 | .non=>0
 | .lst ds=>dH ds+1
 | .tup ds=>dH ds+1
def dH:List DV→Nat
 | []=>0
 | d::ds=>max d.depth (dH ds)
end
B5 fK.length{K:aJ}{H:Hp}:∀{ds:List DV} {xs:List V},fK K H ds xs→xs.length=ds.length
 | [],xs,h=>by
  B4 fK at h
  rw[h]
  rfl
 | d::ds,xs,h=>by
  B4 fK at h
  B3⟨y,ys,rfl,_,h2⟩:=h
  simp[fK.length h2]
B5 fK.get{K:aJ}{H:Hp}:∀{ds:List DV} {xs:List V} {i:Nat} {d:DV},fK K H ds xs→ds[i]?=some d→∃x,xs[i]?=some x∧Reads K H d x
 | [],xs,i,d,h,e=>by simp at e
 | d'::ds,xs,0,d,h,e=>by
  B4 fK at h
  B3⟨y,ys,rfl,h1,_⟩:=h
  simp at e
  subst e
  ~⟨y,rfl,h1⟩
 | d'::ds,xs,i+1,d,h,e=>by
  B4 fK at h
  B3⟨y,ys,rfl,_,h2⟩:=h
  B3⟨x,e1,e2⟩:=fK.get h2 (by simpa using e)
  ~⟨x,by simpa using e1,e2⟩
B5 Sx:∀{ds:List DV} {i:Nat} {d:DV},ds[i]?=some d→d.depth≤dH ds
 | [],i,d,e=>by simp at e
 | d'::ds,0,d,e=>by
  simp at e
  subst e
  B4 dH
  ~Nat.le_max_left _ _
 | d'::ds,i+1,d,e=>by
  have:=Sx (ds:=ds) (i:=i) (d:=d) (by simpa using e)
  B4 dH
  ~G0 this (Nat.le_max_right _ _)
B5 ie(A:Around):A.in1.units=A.units+1:=rfl
section
open SeqAt
open Classical in
noncomputable def Br(d e:DV):Bool:=decide (d=e)
B5 uP{d e:DV}:Br d e=true↔d=e:=by B4 Br;simp
B5 pO(d:DV):Br d d=true:=uP.mpr rfl
B5 lZ{d e:DV}(h:d≠e):Br d e=false:=by B4 Br;simp[h]
B5 aER(a b:Int):Br (.int a) (.int b)=(a==b):=by
 by_cases h:a=b
 ·subst h;simp[pO]
 ·rw[lZ (by simpa using h)];simp[h]
open Classical in
B5 rK{ds es:List DV}(hl:ds.length=es.length):((D4 ds.length).all fun i=>match ds[i]?,es[i]? with | some d,some e=>Br d e | _,_=>true)=decide (ds=es):=by
 rw[L5,L8,decide_eq_true_iff]
 constructor
 ·intro h
  apply X5 hl
  intro i h1 h2
  have:=h i (F9.mpr h1)
  simp only[B7 h1,B7 h2]at this
  ~uP.mp this
 ·rintro rfl i hi
  have hi':=F9.mp hi
  simp only[B7 hi']
  ~pO _
variable{X:Cx}{pins:List (Addr×Obj)}{σ:St}{H:Hp}{s:Shared}
open Classical in
B5 um(ds es:List DV):Br (.lst ds) (.lst es)=decide (ds=es):=by
 by_cases h:ds=es
 ·subst h;simp[pO]
 ·rw[lZ (by intro z;cases z;~h rfl)];simp[h]
open Classical in
B5 uo(ds es:List DV):Br (.tup ds) (.tup es)=decide (ds=es):=by
 by_cases h:ds=es
 ·subst h;simp[pO]
 ·rw[lZ (by intro z;cases z;~h rfl)];simp[h]
B5 Yl(I:Inv X pins σ H s):∀(n:Nat)(d e:DV)(x:V),d.depth≤n→Reads X.K H d x→Reads X.K H e x→d=e:=by
 have lists:∀(n:Nat),(∀(d e:DV)(x:V),d.depth≤n→Reads X.K H d x→Reads X.K H e x→d=e)→∀(ds es:List DV)(xs:List V),dH ds≤n→fK X.K H ds xs→fK X.K H es xs→ds=es:=by
  intro n ih ds
  induction ds with
  | nil=>
   intro es xs _ h1 h2
   have l1:=h1.length
   have l2:=h2.length
   cases es with
   | nil=>rfl
   | cons _ _=>rw[l1]at l2;simp at l2
  | cons d ds ihl=>
   intro es xs hd h1 h2
   have hd1:d.depth≤n:=by B4 dH at hd;omega
   have hd2:dH ds≤n:=by B4 dH at hd;omega
   B4 fK at h1
   B3⟨y,ys,rfl,a1,a2⟩:=h1
   cases es with
   | nil=>have:=h2.length;simp at this
   | cons e es=>
    B4 fK at h2
    B3⟨y',ys',q,b1,b2⟩:=h2
    cases q
    rw[ih d e y hd1 a1 b1,ihl es ys hd2 a2 b2]
 have kinds:∀{a:Addr} {xs ys:List V},rJ X.K H a xs→yV X.K H a ys→False:=fun{a xs ys} h1 h2=>by
  B3⟨_,_,p1,_⟩:=I.list h1
  B3⟨_,_,p2,_⟩:=I.tuple h2
  ~ne_of_list_tuple p1.isList (show s.heap.IsTuple a _ from p2) rfl
 intro n
 induction n with
 | zero=>
  intro d e x hd h1 h2
  cases d with
  | int i=>
   B4 Reads at h1
   subst h1
   cases e with
   | int j=>B4 Reads at h2;cases h2;rfl
   | non=>B4 Reads at h2;cases h2
   | lst es=>B4 Reads at h2;B3⟨_,_,q,_⟩:=h2;cases q
   | tup es=>B4 Reads at h2;B3⟨_,_,q,_⟩:=h2;cases q
  | non=>
   B4 Reads at h1
   subst h1
   cases e with
   | non=>rfl
   | int j=>B4 Reads at h2;cases h2
   | lst es=>B4 Reads at h2;B3⟨_,_,q,_⟩:=h2;cases q
   | tup es=>B4 Reads at h2;B3⟨_,_,q,_⟩:=h2;cases q
  | lst ds=>B4 DV.depth at hd;omega
  | tup ds=>B4 DV.depth at hd;omega
 | succ n ih=>
  intro d e x hd h1 h2
  cases d with
  | int i=>
   B4 Reads at h1
   subst h1
   cases e with
   | int j=>B4 Reads at h2;cases h2;rfl
   | non=>B4 Reads at h2;cases h2
   | lst es=>B4 Reads at h2;B3⟨_,_,q,_⟩:=h2;cases q
   | tup es=>B4 Reads at h2;B3⟨_,_,q,_⟩:=h2;cases q
  | non=>
   B4 Reads at h1
   subst h1
   cases e with
   | non=>rfl
   | int j=>B4 Reads at h2;cases h2
   | lst es=>B4 Reads at h2;B3⟨_,_,q,_⟩:=h2;cases q
   | tup es=>B4 Reads at h2;B3⟨_,_,q,_⟩:=h2;cases q
  | lst ds=>
   B4 Reads at h1
   B3⟨a,xs,rfl,hq,r⟩:=h1
   cases e with
   | int j=>B4 Reads at h2;cases h2
   | non=>B4 Reads at h2;cases h2
   | lst es=>
    B4 Reads at h2
    B3⟨b,ys,q,hq2,r2⟩:=h2
    cases q
    have:=I.PQ hq hq2
    subst this
    rw[lists n ih ds es xs (by B4 DV.depth at hd;omega) r r2]
   | tup es=>
    B4 Reads at h2
    B3⟨b,ys,q,hq2,r2⟩:=h2
    cases q
    ~(kinds hq hq2).elim
  | tup ds=>
   B4 Reads at h1
   B3⟨a,xs,rfl,hq,r⟩:=h1
   cases e with
   | int j=>B4 Reads at h2;cases h2
   | non=>B4 Reads at h2;cases h2
   | lst es=>
    B4 Reads at h2
    B3⟨b,ys,q,hq2,r2⟩:=h2
    cases q
    ~(kinds hq2 hq).elim
   | tup es=>
    B4 Reads at h2
    B3⟨b,ys,q,hq2,r2⟩:=h2
    cases q
    have:=I.Xv hq hq2
    subst this
    rw[lists n ih ds es xs (by B4 DV.depth at hd;omega) r r2]
B5 aB0(I:Inv X pins σ H s)(i:Int)(e:DV)(y:V)(u v:Value)(A:Around)(hu:A.units<cLine)(r2:Reads X.K H e y)(rx:RelV (.int i) u)(ry:RelV y v):RcAt A s u v (Br (.int i) e)∧EqAt A s u v (Br (.int i) e):=by
 B3⟨t,rfl⟩:=rx
 cases e with
 | int j=>
  B4 Reads at r2
  subst r2
  B3⟨t',rfl⟩:=ry
  rw[aER]
  ~⟨RcAt.int_int _ _ _ _,EqAt.int_int _ _ _ _⟩
 | non=>
  B4 Reads at r2
  subst r2
  cases ry
  rw[lZ (by intro z;cases z)]
  ~⟨RcAt.int_none _ _,EqAt.int_none _ _⟩
 | lst es=>
  B4 Reads at r2
  B3⟨b,ys,rfl,hq,_⟩:=r2
  cases ry
  B3⟨its,_,pl,_⟩:=I.list hq
  rw[lZ (by intro z;cases z)]
  ~⟨RcAt.int_list _ _ pl.isList (hu),EqAt.int_list _ _ pl.isList (hu)⟩
 | tup es=>
  B4 Reads at r2
  B3⟨b,ys,rfl,hq,_⟩:=r2
  cases ry
  B3⟨its,_,pl,_⟩:=I.tuple hq
  rw[lZ (by intro z;cases z)]
  ~⟨RcAt.int_tuple _ _ pl (hu),EqAt.int_tuple _ _ pl (hu)⟩
B5 aB1(I:Inv X pins σ H s)(e:DV)(y:V)(u v:Value)(A:Around)(hu:A.units<cLine)(r2:Reads X.K H e y)(rx:RelV .non u)(ry:RelV y v):RcAt A s u v (Br .non e)∧EqAt A s u v (Br .non e):=by
 cases rx
 cases e with
 | non=>
  B4 Reads at r2
  subst r2
  cases ry
  rw[pO]
  ~⟨RcAt.none_none,EqAt.same _⟩
 | int j=>
  B4 Reads at r2
  subst r2
  B3⟨t',rfl⟩:=ry
  rw[lZ (by intro z;cases z)]
  ~⟨RcAt.none_int _ _,EqAt.none_int _ _⟩
 | lst es=>
  B4 Reads at r2
  B3⟨b,ys,rfl,hq,_⟩:=r2
  cases ry
  B3⟨its,_,pl,_⟩:=I.list hq
  rw[lZ (by intro z;cases z)]
  ~⟨RcAt.none_list pl.isList hu,EqAt.none_list pl.isList hu⟩
 | tup es=>
  B4 Reads at r2
  B3⟨b,ys,rfl,hq,_⟩:=r2
  cases ry
  B3⟨its,_,pl,_⟩:=I.tuple hq
  rw[lZ (by intro z;cases z)]
  ~⟨RcAt.none_tuple pl hu,EqAt.none_tuple pl hu⟩
B5 Sy(I:Inv X pins σ H s):∀(n:Nat)(A:Around),(∀(d e:DV)(x y:V)(u v:Value)(A:Around),d.depth≤n→A.units+n<cLine→Reads X.K H d x→Reads X.K H e y→RelV x u→RelV y v→RcAt A s u v (Br d e)∧EqAt A s u v (Br d e)) →
  ∀(ds es:List DV)(xs ys:List V)(us vs:List Value),dH ds≤n→A.units+(n+1)<cLine→fK X.K H ds xs→fK X.K H es ys→Vals xs us→Vals ys vs →
  ∀j (h1:j<us.toArray.size) (h2:j<vs.toArray.size),EqAt A.in1 s us.toArray[j] vs.toArray[j] (match ds[j]?,es[j]? with | some d,some e=>Br d e | _,_=>true):=by
 intro n A ih ds es xs ys us vs hd hu r1 r2 v1 v2 j h1 h2
 have l1:j<ds.length:=by rw[←r1.length,v1.length];simpa using h1
 have l2:j<es.length:=by rw[←r2.length,v2.length];simpa using h2
 B3⟨x,ex,rx⟩:=r1.get (i:=j) (d:=ds[j]) (by simp)
 B3⟨y,ey,ry⟩:=r2.get (i:=j) (d:=es[j]) (by simp)
 B3⟨u,eu,ru⟩:=v1.get ex
 B3⟨v,ev,rv⟩:=v2.get ey
 have e1:us.toArray[j]=u:=by
  rw[D2]at eu
  B3⟨_,eu⟩:=eu
  simpa using eu
 have e2:vs.toArray[j]=v:=by
  rw[D2]at ev
  B3⟨_,ev⟩:=ev
  simpa using ev
 rw[e1,e2]
 simp only[B7 l1,B7 l2]
 ~(ih _ _ x y u v A.in1 (G0 (Sx (i:=j) (by simp)) hd) (by rw[ie];omega) rx ry ru rv).2
B5 GF(I:Inv X pins σ H s):∀(n:Nat)(d e:DV)(x y:V)(u v:Value)(A:Around),d.depth≤n→A.units+n<cLine→Reads X.K H d x→Reads X.K H e y→RelV x u→RelV y v→RcAt A s u v (Br d e)∧EqAt A s u v (Br d e):=by
 have items:=Sy I
 have seqs:∀(n:Nat)(A:Around),(∀(d e:DV)(x y:V)(u v:Value)(A:Around),d.depth≤n→A.units+n<cLine→Reads X.K H d x→Reads X.K H e y→RelV x u→RelV y v→RcAt A s u v (Br d e)∧EqAt A s u v (Br d e)) →
   ∀(d e:DV)(x y:V)(u v:Value),d.depth≤n+1→A.units+(n+1)<cLine→Reads X.K H d x→Reads X.K H e y→RelV x u→RelV y v→RcAt A s u v (Br d e)∧EqAt A s u v (Br d e):=by
  intro n A ih d e x y u v hd hu r1 r2 rx ry
  have of_same:∀{a b:Addr} {k:Bool},(a=b→k=true)→RcAt A s (.ref a) (.ref b) k→EqAt A s (.ref a) (.ref b) k:=fun{a b k} hk h=>by
   by_cases hab:a=b
   ·subst hab
    rw[hk rfl]
    ~EqAt.same _
   ·~EqAt.of_refs hab h
  cases d with
  | int i=>
   B4 Reads at r1
   subst r1
   ~aB0 I i e y u v A A6 r2 rx ry
  | non=>
   B4 Reads at r1
   subst r1
   ~aB1 I e y u v A A6 r2 rx ry
  | lst ds=>
   B4 Reads at r1
   B3⟨a,xs,rfl,hq1,rl1⟩:=r1
   cases rx
   B3⟨Tc,v1,Wq,_⟩:=I.list hq1
   have hd':dH ds≤n:=by B4 DV.depth at hd;omega
   cases e with
   | int j=>
    B4 Reads at r2
    subst r2
    B3⟨t',rfl⟩:=ry
    rw[lZ (by intro z;cases z)]
    ~⟨RcAt.list_int _ _ Wq.isList A6,EqAt.list_int _ _ Wq.isList A6⟩
   | non=>
    B4 Reads at r2
    subst r2
    cases ry
    rw[lZ (by intro z;cases z)]
    ~⟨RcAt.list_none Wq.isList A6,EqAt.list_none Wq.isList A6⟩
   | lst es=>
    B4 Reads at r2
    B3⟨b,ys,rfl,hq2,ig⟩:=r2
    cases ry
    B3⟨its2,v2,QT,_⟩:=I.list hq2
    have e1:Tc.toArray.size=ds.length:=by rw[C6,←v1.length,rl1.length]
    have e2:its2.toArray.size=es.length:=by rw[C6,←v2.length,ig.length]
    have rc:RcAt A s (.ref a) (.ref b) (Br (.lst ds) (.lst es)):=by
     by_cases hl:ds.length=es.length
     ·have q:=RcAt.lists (A:=A) (s:=s) Wq.isList QT.isList (by rw[e1,e2];~hl) A6 (items n A ih ds es xs ys Tc its2 hd' hu rl1 ig v1 v2)
      rw[e1,rK hl]at q
      rw[um]
      ~q
     ·rw[lZ (by intro z;cases z;~hl rfl)]
      ~RcAt.lists_lengths Wq.isList QT.isList (by rw[e1,e2];simpa using hl) A6
    ~⟨rc,of_same (fun hab=>by
     subst hab
     &uP.mpr (Yl I (n+1) _ _ (.ref a) hd ?_ ?_)
     ·B4 Reads
      ~⟨a,xs,rfl,hq1,rl1⟩
     ·B4 Reads
      ~⟨a,ys,rfl,hq2,ig⟩) rc⟩
   | tup es=>
    B4 Reads at r2
    B3⟨b,ys,rfl,hq2,ig⟩:=r2
    cases ry
    B3⟨its2,v2,QT,_⟩:=I.tuple hq2
    rw[lZ (by intro z;cases z)]
    ~⟨RcAt.list_tuple Wq.isList QT A6,EqAt.list_tuple Wq.isList QT A6⟩
  | tup ds=>
   B4 Reads at r1
   B3⟨a,xs,rfl,hq1,rl1⟩:=r1
   cases rx
   B3⟨Tc,v1,Wq,_⟩:=I.tuple hq1
   have hd':dH ds≤n:=by B4 DV.depth at hd;omega
   cases e with
   | int j=>
    B4 Reads at r2
    subst r2
    B3⟨t',rfl⟩:=ry
    rw[lZ (by intro z;cases z)]
    ~⟨RcAt.tuple_int _ _ Wq A6,EqAt.tuple_int _ _ Wq A6⟩
   | non=>
    B4 Reads at r2
    subst r2
    cases ry
    rw[lZ (by intro z;cases z)]
    ~⟨RcAt.tuple_none Wq A6,EqAt.tuple_none Wq A6⟩
   | lst es=>
    B4 Reads at r2
    B3⟨b,ys,rfl,hq2,ig⟩:=r2
    cases ry
    B3⟨its2,v2,QT,_⟩:=I.list hq2
    rw[lZ (by intro z;cases z)]
    ~⟨RcAt.tuple_list Wq QT.isList A6,EqAt.tuple_list Wq QT.isList A6⟩
   | tup es=>
    B4 Reads at r2
    B3⟨b,ys,rfl,hq2,ig⟩:=r2
    cases ry
    B3⟨its2,v2,QT,_⟩:=I.tuple hq2
    have e1:Tc.toArray.size=ds.length:=by rw[C6,←v1.length,rl1.length]
    have e2:its2.toArray.size=es.length:=by rw[C6,←v2.length,ig.length]
    have rc:RcAt A s (.ref a) (.ref b) (Br (.tup ds) (.tup es)):=by
     have q:=RcAt.tuples (A:=A) (s:=s) (l:=a) (b:=b) Wq QT A6 (items n A ih ds es xs ys Tc its2 hd' hu rl1 ig v1 v2)
     rw[e1,e2]at q
     by_cases hl:ds.length=es.length
     ·rw[←hl,f6,rK hl]at q
      rw[uo]
      simpa using q
     ·rw[lZ (by intro z;cases z;~hl rfl)]
      have z:(ds.length==es.length)=false:=by simpa using hl
      rw[z,l6]at q
      ~q
    ~⟨rc,of_same (fun hab=>by
     subst hab
     &uP.mpr (Yl I (n+1) _ _ (.ref a) hd ?_ ?_)
     ·B4 Reads
      ~⟨a,xs,rfl,hq1,rl1⟩
     ·B4 Reads
      ~⟨a,ys,rfl,hq2,ig⟩) rc⟩
 intro n
 induction n with
 | zero=>
  intro d e x y u v A hd hu r1 r2 rx ry
  cases d with
  | int i=>
   B4 Reads at r1
   subst r1
   ~aB0 I i e y u v A A6 r2 rx ry
  | non=>
   B4 Reads at r1
   subst r1
   ~aB1 I e y u v A A6 r2 rx ry
  | lst ds=>B4 DV.depth at hd;omega
  | tup ds=>B4 DV.depth at hd;omega
 | succ n ih=>
  intro d e x y u v A hd hu r1 r2 rx ry
  ~seqs n A ih d e x y u v hd hu r1 r2 rx ry
end
section
variable{X:Cx}
def aHs(K:aJ)(neg:Bool):R2:=fun x y H Q=>∃d e,Reads K H d x∧Reads K H e y∧d.depth≤32∧Q (.bl (if neg then !Br d e else Br d e)) H
B5 aHt(hu:X.A.units+64<cLine):xR X (compareOp .Eq) (aHs X.K false):=by
 intro pins s σ H x y v u Q I rx ry h
 B3⟨d,e,r1,r2,hd,q⟩:=h
 ~(GF I 32 d e x y v u X.A hd A6 r1 r2 rx ry).1 X.prog X.w X.xe _ ⟨.bl _,H,I,rfl,q⟩
open SeqAt in
B5 aHu(hu:X.A.units+64<cLine):xR X (compareOp .NotEq) (fun x y H Q=>∃ds es,Reads X.K H (.lst ds) x∧Reads X.K H (.lst es) y∧dH ds≤32∧Q (.bl (!Br (.lst ds) (.lst es))) H):=by
 intro pins s σ H x y v u Q I rx ry h
 B3⟨ds,es,r1,r2,hd,q⟩:=h
 B4 Reads at r1 r2
 B3⟨a,xs,rfl,hq1,rl1⟩:=r1
 B3⟨b,ys,rfl,hq2,ig⟩:=r2
 cases rx
 cases ry
 B3⟨Tc,v1,Wq,_⟩:=I.list hq1
 B3⟨its2,v2,QT,_⟩:=I.list hq2
 have e1:Tc.toArray.size=ds.length:=by rw[C6,←v1.length,rl1.length]
 have e2:its2.toArray.size=es.length:=by rw[C6,←v2.length,ig.length]
 have rc:RcNeAt X.A s (.ref a) (.ref b) (!Br (.lst ds) (.lst es)):=by
  by_cases hl:ds.length=es.length
  ·have z:=RcNeAt.lists (A:=X.A) (s:=s) Wq.isList QT.isList (by rw[e1,e2];~hl) A6 (Sy I 32 X.A (fun d e x y u v A a1 a2 a3 a4 a5 a6=>GF I 32 d e x y u v A a1 a2 a3 a4 a5 a6) ds es xs ys Tc its2 hd A6 rl1 ig v1 v2)
   rw[e1,rK hl]at z
   rw[um]
   ~z
  ·rw[lZ (by intro z;cases z;~hl rfl)]
   ~RcNeAt.lists_lengths Wq.isList QT.isList (by rw[e1,e2];simpa using hl) A6
 ~rc X.prog X.w X.xe _ ⟨.bl _,H,I,rfl,q⟩
end
end L2


namespace L2
open PySem PySem.Spec PyProof.Rows
structure Raw(K:aJ)(mg:Str→Option Value)(x:Str)(st:Stmt):Prop where
 ex:∃f fd,Fun K x x st f fd∧mg x=some (.ref f)
B5 aHv{K:aJ}{h:Heap}{mg:Str→Option Value}{x:Str}{st:Stmt}{f:Addr}{oc:Value}{od an:Option Addr}{osl:Array (Option Value)}{kV doc pm cdv ct:Value}(X:K.In h)(G:h.Ns mainGlobals mg)
  (a:R3 K mainGlobals x=some (some (.ref f))) (l:K.lookup f=some ⟨oc,od,.func (F8 x x (gD st) (cR st) (aK st) .none kV doc pm an cdv ct),osl⟩)
  (c:K3 K cdv x=true) (k:K2 K (.ref f)=true):Raw K mg x st:=⟨⟨f,_,aHq l c k,c7 X G a⟩⟩
structure lN(P:Program)(w:World)(K:aJ)(mg:Str→Option Value)(base:Heap)(x:Str)(k:Nat)(n:Nat)(sp:Sp):Prop where
 ex:∃f fd ps,ps.length=n∧Fj P w K mg base FZ k f fd ps sp∧Binds K fd ps []∧K2 K (.ref f)=true∧mg x=some (.ref f)
B5 Raw.cal{P:Program}{w:World}{K:aJ}{mg:Str→Option Value}{base:Heap}{x:Str}{st:Stmt}{N ps:List Str}{k:Nat}{sp:Sp}(R:Raw K mg x st)(S:aZ N ps (aK st))(len:∀vs H Q E,sp vs H Q E→vs.length=ps.length)
  (hb:∀(kV doc pm:Value)(an:Option Addr)(cdv ct:Value)(us:List Value),us.length=ps.length→bindArgs (F8 x x (gD st) (cR st) (aK st) .none kV doc pm an cdv ct) ⟨us,[]⟩=pure (ps.zip us))
  (hbody:∀(f:Addr)(cdv:Value)(A:Around)(outer:List Env)(s:Shared)(H:Hp)(vs:List V)(Q:VK)(E:XK),lA k (A.deeper (envOfC x (aK st) s.heap.objs.size f cdv))→sp vs H Q E →
   ∃t,bh (Gw FZ P w K mg base N x (aK st) f cdv A outer s H E).bw (cR st) t∧t {nx:=fun _ H'=>Q .non H',rt:=Q} (start N vs) H):lN P w K mg base x (k+1) ps.length sp:=by
 B3⟨f,fd,F,m⟩:=R.ex
 ~⟨f,fd,ps,rfl,F.ok S len fun cdv A outer s H vs Q E hr h=>hbody f cdv A outer s H vs Q E hr h,F.binds hb,F.kp,m⟩
B5 il{X:Cx}{x:Str}{k n:Nat}{sp:Sp}{e:Expr}{es:List Expr}{p pos:Pos}{t:TA}(C:lN X.prog X.w X.K X.mg X.base x k n sp)(hr:lA k X.A)(hg:Gl X x)
  (ha:PA X (e::es) t) (hdb:(x==("__debug__" : Str))=false:=by decide) (he:starEach (e::es) X.env=(false,eval e X.env)::starEach es X.env:=by rfl) (hpl:(backTo pos (starEach es X.env)).any (·.1)=false:=by rfl) :
  PE X (.Call (.Name x p) (e::es) [] pos) (Sd sp [] E0 t):=by
 B3⟨f,fd,ps,_,F,hb,hk,hm⟩:=C.ex
 ~aEp F hr hg hm hk hb .nil Yk ha hdb he hpl
B5 call_of{sp:Sp}{E:XK}{t:TA}{σ:St}{H:Hp}{Q:VK}(h:t σ H fun vs H1=>sp vs H1 Q E):Sd sp [] E t σ H Q:=by
 B4 Sd
 have e:(fun(vs:List V) (H1:Hp)=>sp (vs++[]) H1 Q E)=fun vs H1=>sp vs H1 Q E:=by funext vs H1;rw[F3]
 rw[e]
 ~h
B5 dI{H:Hp}{p:Addr}(h:H p=none)(o:HO):aV H (upd H p o):=fun b u q=>by rw[bN (gK q h)];~q
B5 aV.tup{K:aJ}{H H':Hp}{a:Addr}{xs:List V}(e:aV H H')(h:yV K H a xs):yV K H' a xs:=by
 rcases h with (h | ⟨o,h⟩) | h
 ·~.inl (.inl (e _ _ h))
 ·~.inl (.inr ⟨o,e _ _ h⟩)
 ·~.inr h
mutual
B5 aV.reads{K:aJ}{H H':Hp}(e:aV H H'):∀(d:DV)(x:V),Reads K H d x→Reads K H' d x
 | .int i,x,h=>by B4 Reads at h ⊢;~h
 | .non,x,h=>by B4 Reads at h ⊢;~h
 | .lst ds,x,h=>by
  B4 Reads at h ⊢
  B3⟨a,xs,r,hq,l⟩:=h
  ~⟨a,xs,r,e.seq hq,aV.ir e ds xs l⟩
 | .tup ds,x,h=>by
  B4 Reads at h ⊢
  B3⟨a,xs,r,hq,l⟩:=h
  ~⟨a,xs,r,e.tup hq,aV.ir e ds xs l⟩
B5 aV.ir{K:aJ}{H H':Hp}(e:aV H H'):∀(ds:List DV)(xs:List V),fK K H ds xs→fK K H' ds xs
 | [],xs,h=>by B4 fK at h ⊢;~h
 | d::ds,xs,h=>by
  B4 fK at h ⊢
  B3⟨y,ys,r,h1,h2⟩:=h
  ~⟨y,ys,r,aV.reads e d y h1,aV.ir e ds ys h2⟩
end
B5 qP:∀ns:List Int,dH (ns.map DV.int)=0
 | []=>by rw[G6];B4 dH;rfl
 | n::ns=>by rw[D3];B4 dH DV.depth;rw[qP ns];rfl
B5 Td{ns ms:List Int}:ns.map DV.int=ms.map DV.int↔ns=ms:=by
 constructor
 ·intro h
  have:∀(a b:Int),DV.int a=DV.int b→a=b:=fun a b e=>by cases e;rfl
  ~(List.map_inj_right this).mp h
 ·rintro rfl;rfl
B5 aKH{xs:List V}{k:Int}{v:V}(h0:0≤k)(h:xs[k.toNat]?=some v):au xs k=some v:=by
 have ek:k=((k.toNat:Nat):Int):=by omega
 rw[ek]
 ~aEw h
B5 aES(z:Int)(ns:List Int):inV (.int z) (ns.map V.int)=decide (z∈ns):=by
 B4 inV
 rw[L5,Q6,decide_eq_true_iff]
 constructor
 ·rintro⟨v,hv,e⟩
  B3⟨m,hm,rfl⟩:=J2.mp hv
  have:m=z:=by simpa[eqV]using e
  subst this
  ~hm
 ·intro h
  ~⟨.int z,J2.mpr ⟨z,h,rfl⟩,by simp[eqV]⟩
B5 aAr(ns:List Int):(ns.map V.int).all Bo=true:=by
 rw[L8]
 intro v hv
 B3⟨m,_,rfl⟩:=J2.mp hv
 rfl
def mk(ns:List Int):List (Key×V):=ns.foldl (fun kvs n=>putK kvs (F4 n) (V.bl true)) []
B5 aET(ns:List Int)(n:Int):mk (ns++[n])=putK (mk ns) (F4 n) (V.bl true):=by
 B4 mk
 rw[h9]
 rfl
B5 zA(ns:List Int):(mk ns).length≤ns.length:=by
 have h:∀(l:List Int),(mk l.reverse).length≤l.length:=by
  intro l
  induction l with
  | nil=>~C5 _
  | cons a l ih=>
   rw[List.reverse_cons,aET,F0]
   ~G0 (wC _ _ _) (T0 ih)
 have q:=h ns.reverse
 rw[List.reverse_reverse,List.length_reverse]at q
 ~q
end L2
namespace L2
B5 mG.at{scope:PySem.Scope}{N:List PySem.Str}{k:Nat}{fr:List Nat}(NZ:PySem.Scope)(oN:List PySem.Str)(h:ug NZ scope oN N k fr=true):mG NZ scope oN N k fr:=mG.of h
end L2
namespace L2
open PySem PySem.Spec PyProof.Rows
def Aw(H:Hp)(p:Addr):Prop:=(∀xs,H p≠some (.tup xs))∧∀o xs,H p≠some (.Jg o (.tup xs))
B5 xW{H:Hp}{p:Addr}{xs:List V}(h:H p=some (.lst xs)):Aw H p:=⟨fun ys e=>(by rw[h]at e;cases e),fun o ys e=>(by rw[h]at e;cases e)⟩
B5 Jl{H:Hp}{p:Addr}{kvs:List (Key×V)}(h:H p=some (.dK kvs)):Aw H p:=⟨fun ys e=>(by rw[h]at e;cases e),fun o ys e=>(by rw[h]at e;cases e)⟩
B5 yV.upd{K:aJ}{H:Hp}{a p:Addr}{xs:List V}{o:HO}(h:yV K H a xs)(n:Aw H p):yV K (upd H p o) a xs:=by
 rcases h with (h | ⟨u,h⟩) | h
 ·~.inl (.inl (by rw[bN (fun z=>n.1 xs (by rw[←z];~h))];~h))
 ·~.inl (.inr ⟨u,by rw[bN (fun z=>n.2 u xs (by rw[←z];~h))];~h⟩)
 ·~.inr h
mutual
def jJ:DV→Bool
 | .int _=>true
 | .non=>true
 | .lst _=>false
 | .tup ds=>fU ds
def fU:List DV→Bool
 | []=>true
 | d::ds=>jJ d&&fU ds
end
mutual
B5 aAs{K:aJ}{H:Hp}{p:Addr}{o:HO}(n:Aw H p):∀(d:DV)(x:V),jJ d=true→Reads K H d x→Reads K (upd H p o) d x
 | .int i,x,_,h=>by B4 Reads at h ⊢;~h
 | .non,x,_,h=>by B4 Reads at h ⊢;~h
 | .lst ds,x,hi,h=>by B4 jJ at hi;cases hi
 | .tup ds,x,hi,h=>by
  B4 jJ at hi
  B4 Reads at h ⊢
  B3⟨a,xs,r,hq,l⟩:=h
  ~⟨a,xs,r,hq.upd n,Te n ds xs hi l⟩
B5 Te{K:aJ}{H:Hp}{p:Addr}{o:HO}(n:Aw H p):∀(ds:List DV)(xs:List V),fU ds=true→fK K H ds xs→fK K (upd H p o) ds xs
 | [],xs,_,h=>by B4 fK at h ⊢;~h
 | d::ds,xs,hi,h=>by
  B4 fU at hi
  rw[G7]at hi
  B4 fK at h ⊢
  B3⟨y,ys,r,h1,h2⟩:=h
  ~⟨y,ys,r,aAs n d y hi.1 h1,Te n ds ys hi.2 h2⟩
end
B5 Tf{n d:Nat}{k:Nat}:HT.Wm n d (some (k:Int))=min k n:=HT.aEs n d k
end L2
namespace L2
open PySem PySem.Spec PyProof.Rows
section
variable{X:Cx}
end
end L2
namespace L2
open PySem PySem.Spec PyProof.Rows
end L2
namespace L2
open PySem PySem.Spec PyProof.Rows
section
variable{X:Cx}
end
B5 rN:∀{l m:List Int},l.Pairwise (·<·)→m.Pairwise (·<·)→(∀j,j∈l↔j∈m)→l=m
  | [],[],_,_,_=>rfl
  | [],b::m,_,_,h=>absurd ((h b).mpr D6) (by simp)
  | a::l,[],_,_,h=>absurd ((h a).mp D6) (by simp)
  | a::l,b::m,h1,h2,h=>by
    B3⟨h1a,h1b⟩:=I0.mp h1
    B3⟨h2a,h2b⟩:=I0.mp h2
    have e:a=b:=by
      rcases D5.mp ((h a).mp D6)with q | q
      · ~q
      · rcases D5.mp ((h b).mpr D6)with q' | q'
        · ~q'.symm
        · have:=h2a a q
          have:=h1a b q'
          omega
    subst e
    rw[rN h1b h2b fun j=>?_]
    constructor
    · intro hj
      rcases D5.mp ((h j).mp (C8 _ hj))with q | q
      · have:=h1a j hj
        omega
      · ~q
    · intro hj
      rcases D5.mp ((h j).mpr (C8 _ hj))with q | q
      · have:=h2a j hj
        omega
      · ~q
B5 Ge:∀{l:List Int},l.Pairwise (·≤·)→l.Nodup→l.Pairwise (·<·)
 | [],_,_=>.nil
 | a::l,h,n=>by
  B3⟨h1,h2⟩:=I0.mp h
  B3⟨n1,n2⟩:=K8.mp n
  &I0.mpr ⟨fun b hb=>?_,Ge h2 n2⟩
  have:=h1 b hb
  have:a≠b:=fun e=>n1 (e▸hb)
  omega
B5 rising.strict{ks ms:List Int}(h:rising ks ms)(n:ks.Nodup):ms.Pairwise (·<·)∧∀j,j∈ms↔j∈ks:=
 ⟨Ge h.2 (h.1.nodup_iff.mpr n),fun j=>h.1.mem_iff⟩
B5 QV{K:aJ}:J7 K (.type "int") (.type "int")=some true:=by B4 J7;rfl
B5 Wr{K:aJ}:J7 K (.type "bool") (.type "bool")=some true:=by B4 J7;rfl
B5 Ws{K:aJ}:J7 K (.type "list") (.type "list")=some true:=by B4 J7;rfl
B5 Qh{K:aJ}:J7 K (.type "tuple") (.type "tuple")=some true:=by B4 J7;rfl
B5 GJ{K:aJ}:J7 K (.type "int") (.type "bool")=some false:=by
  first | rfl | decide | (B4 J7 l7;rfl) | (B4 J7 l7;simp;decide)
end L2


namespace L2
open PySem PySem.Spec PyProof.Rows
section
variable{X:Cx}
def Qz(ns:List Int)(m:Int):Prop:=m∈ns∧∀a∈ns,m≤a
B5 Gf(ns:List Int):∀k,k<ns.length→argBest (fun i j=>decide (ns.getD i 0<ns.getD j 0)) k≤k∧∀i,i≤k→ns.getD (argBest (fun i j=>decide (ns.getD i 0<ns.getD j 0)) k) 0≤ns.getD i 0
 | 0,_=>⟨C5 _,fun i hi=>by
  have:i=0:=by omega
  subst this
  ~S5 _⟩
 | k+1,h=>by
  B3⟨h1,h2⟩:=Gf ns k A6
  B4 argBest
  split
  ·rename_i c
   have c':=of_decide_eq_true c
   &⟨C5 _,fun i hi=>?_⟩
   rcases K4 i (k+1)with q | q
   ·have:=h2 i A6
    omega
   ·have:i=k+1:=by omega
    subst this
    ~S5 _
  ·rename_i c
   have c':=of_decide_eq_false (Bool.eq_false_iff.mpr c)
   &⟨by omega,fun i hi=>?_⟩
   rcases K4 i (k+1)with q | q
   ·~h2 i A6
   ·have:i=k+1:=by omega
    subst this
    omega
B5 aAt(hc:X.calm=true):oJ X (.builtin "min") (fun xs H Q=>∃(p:Addr)(ns:List Int),xs=[.ref p]∧rJ X.K H p (ns.map V.int)∧0<ns.length∧∀m,Qz ns m→Q (.int m) H):=by
 intro pins s σ H xs us Q I r h
 B3⟨p,ns,rfl,hq,hpos,q⟩:=h
 B3⟨u,rfl,rx⟩:=vals1 r
 cases rx
 B3⟨its,rv,pl,hz⟩:=I.list hq
 have hl:=pl.isList
 have hlen:=rv.length
 rw[B6]at hlen
 have hlt:p<s.heap.objs.size:=by B3⟨_,e,_⟩:=hl;~Heap.lt_size e
 have item:∀(i:Nat)(v:Value),its.toArray[i]?=some v→∃t,v=.int (ns.getD i 0) t∧i<ns.length:=fun i v e=>by
  have e':its[i]?=some v:=by simpa using e
  have hi:=(D2.mp e').1
  B3⟨u,eu,ru⟩:=rv.get (i:=i) (x:=.int (ns.getD i 0)) (by rw[B9,B8,B7 A6];rfl)
  rw[e']at eu
  cases eu
  B3⟨t,rfl⟩:=ru
  ~⟨t,rfl,by omega⟩
 &call_min_walk (wpAny_pyIter_list hl ?_)
 &⟨s.heap.objs.size,[s.heap.objs.size,p],[s.heap.objs.size],its.toArray.size,_,_,fun i j=>decide (ns.getD i 0<ns.getD j 0),rfl,Walks.list (A:=X.A.in1) (I.ok.hd hc) _ p (E7 hlt) _,
  ⟨⟨_,Heap.get?_push_size _ rfl,rfl,rfl⟩,hl.push _⟩,fun b hb=>?_,by rw[C6];omega,fun i j vi vj s' Q' E' hi hj hQ=>?_,fun v h' tk hP hk=>?_⟩
 ·show b<(s.heap.push _).objs.size
  rw[Heap.size_push]
  rcases D5.mp hb with e | hb
  ·rw[e];~M7 _
  ·rw[E3.mp hb];~M4 hlt
 ·B3⟨t1,rfl,_⟩:=item i vi hi
  B3⟨t2,rfl,_⟩:=item j vj hj
  ~HT.aBN _ _ _ _ _ _ _ _ _ _ hQ
 ·B3⟨t,rfl,hi⟩:=item _ v hP
  rw[C6,←hlen]at hi ⊢
  B3⟨h1,h2⟩:=Gf ns (ns.length-1) A6
  &⟨.int _,H,I.kept (uh hk),⟨t,rfl⟩,q _ ⟨?_,fun a ha=>?_⟩⟩
  ·rw[B8,B7 hi]
   ~N6 _
  ·B3⟨i,hi',rfl⟩:=K0 ha
   have:=h2 i A6
   rw[show ns.getD i 0=ns[i]from by rw[B8,B7 hi'];rfl]at this
   ~this
open SeqAt in
B5 aHw(hu:X.A.units+64<cLine):xR X (compareOp .NotEq) (fun x y H Q=>∃ds es,Reads X.K H (.tup ds) x∧Reads X.K H (.tup es) y∧dH ds≤32∧Q (.bl (!Br (.tup ds) (.tup es))) H):=by
 intro pins s σ H x y v u Q I rx ry h
 B3⟨ds,es,r1,r2,hd,q⟩:=h
 B4 Reads at r1 r2
 B3⟨a,xs,rfl,hq1,rl1⟩:=r1
 B3⟨b,ys,rfl,hq2,ig⟩:=r2
 cases rx
 cases ry
 B3⟨Tc,v1,Wq,_⟩:=I.tuple hq1
 B3⟨its2,v2,QT,_⟩:=I.tuple hq2
 have e1:Tc.toArray.size=ds.length:=by rw[C6,←v1.length,rl1.length]
 have e2:its2.toArray.size=es.length:=by rw[C6,←v2.length,ig.length]
 have rc:RcNeAt X.A s (.ref a) (.ref b) (!Br (.tup ds) (.tup es)):=by
  have z:=RcNeAt.tuples (A:=X.A) (s:=s) (l:=a) (b:=b) Wq QT A6 (Sy I 32 X.A (fun d e x y u v A a1 a2 a3 a4 a5 a6=>GF I 32 d e x y u v A a1 a2 a3 a4 a5 a6) ds es xs ys Tc its2 hd A6 rl1 ig v1 v2)
  rw[e1,e2]at z
  by_cases hl:ds.length=es.length
  ·rw[←hl,f6,rK hl]at z
   rw[uo]
   simpa using z
  ·rw[lZ (by intro z;cases z;~hl rfl)]
   have zz:(ds.length==es.length)=false:=by simpa using hl
   rw[zz,l6]at z
   ~z
 ~rc X.prog X.w X.xe _ ⟨.bl _,H,I,rfl,q⟩
end
end L2


namespace L2
open PySem PySem.Spec PyProof.Rows
inductive D where
  | non | bl (b:Bool) | int (i:Int) | str (x:Str)
  | lst (ds:List D) | tup (ds:List D)
  | dk (ks:List Key) (ds:List D)
  | dt (ks:List (List Key)) (ds:List D)
  | ins (C:Addr) (nm:List Str) (ds:List D)
abbrev Fp:=Addr→Prop
def Apart(A B:Fp):Prop:=∀x,A x→¬B x
def Is(A B:Fp):Prop:=∀x,A x↔B x
def None(A:Fp):Prop:=∀x,¬A x
abbrev gB(A B:Fp):Fp:=fun x=>A x∨B x
mutual
def Rv(K:aJ)(H:Hp):D→V→Prop
 | .non,v=>v=.non
 | .bl b,v=>v=.bl b
 | .int i,v=>v=.int i
 | .str x,v=>v=.str x
 | .lst ds,v=>∃a xs,v=.ref a∧rJ K H a xs∧fQ K H ds xs
 | .tup ds,v=>∃a xs,v=.ref a∧yV K H a xs∧fQ K H ds xs
 | .dk ks ds,v=>∃a xs,v=.ref a∧Rd H a (.dK (ks.zip xs))∧ks.length=xs.length∧fQ K H ds xs
 | .dt ks ds,v=>∃a xs,v=.ref a∧Rd H a (.dT (ks.zip xs))∧ks.length=xs.length∧fQ K H ds xs
 | .ins C nm ds,v=>∃a dx xs,v=.ref a∧H a=some (.ins C dx (nm.zip xs))∧nm.length=xs.length∧fQ K H ds xs
def fQ(K:aJ)(H:Hp):List D→List V→Prop
 | [],xs=>xs=[]
 | d::ds,xs=>∃y ys,xs=y::ys∧Rv K H d y∧fQ K H ds ys
end
B5 aV.rd{H H':Hp}(e:aV H H'){a:Addr}{u:HO}(h:Rd H a u):Rd H' a u:=by
 rcases h with h | ⟨o,h⟩
 ·~.inl (e _ _ h)
 ·~.inr ⟨o,e _ _ h⟩
mutual
B5 aV.rv{K:aJ}{H H':Hp}(e:aV H H'):∀(d:D)(v:V),Rv K H d v→Rv K H' d v
 | .non,v,h=>by B4 Rv at h ⊢;~h
 | .bl _,v,h=>by B4 Rv at h ⊢;~h
 | .int _,v,h=>by B4 Rv at h ⊢;~h
 | .str _,v,h=>by B4 Rv at h ⊢;~h
 | .lst ds,v,h=>by B4 Rv at h ⊢;B3⟨a,xs,r,hq,l⟩:=h;~⟨a,xs,r,e.seq hq,aV.uq e ds xs l⟩
 | .tup ds,v,h=>by B4 Rv at h ⊢;B3⟨a,xs,r,hq,l⟩:=h;~⟨a,xs,r,e.tup hq,aV.uq e ds xs l⟩
 | .dk ks ds,v,h=>by B4 Rv at h ⊢;B3⟨a,xs,r,hq,hl,l⟩:=h;~⟨a,xs,r,e.rd hq,hl,aV.uq e ds xs l⟩
 | .dt ks ds,v,h=>by B4 Rv at h ⊢;B3⟨a,xs,r,hq,hl,l⟩:=h;~⟨a,xs,r,e.rd hq,hl,aV.uq e ds xs l⟩
 | .ins C nm ds,v,h=>by B4 Rv at h ⊢;B3⟨a,dx,xs,r,hq,hl,l⟩:=h;~⟨a,dx,xs,r,e _ _ hq,hl,aV.uq e ds xs l⟩
B5 aV.uq{K:aJ}{H H':Hp}(e:aV H H'):∀(ds:List D)(xs:List V),fQ K H ds xs→fQ K H' ds xs
 | [],xs,h=>by B4 fQ at h ⊢;~h
 | d::ds,xs,h=>by B4 fQ at h ⊢;B3⟨y,ys,r,h1,h2⟩:=h;~⟨y,ys,r,aV.rv e d y h1,aV.uq e ds ys h2⟩
end
B5 fQ.length{K:aJ}{H:Hp}:∀{ds:List D} {xs:List V},fQ K H ds xs→xs.length=ds.length
 | [],xs,h=>by B4 fQ at h;subst h;rfl
 | d::ds,xs,h=>by B4 fQ at h;B3⟨y,ys,rfl,_,h2⟩:=h;rw[F0,F0,fQ.length h2]
B5 fQ.get{K:aJ}{H:Hp}:∀{ds:List D} {xs:List V} {i:Nat} {d:D},fQ K H ds xs→ds[i]?=some d→∃x,xs[i]?=some x∧Rv K H d x
 | [],xs,i,d,h,e=>by simp at e
 | d'::ds,xs,0,d,h,e=>by B4 fQ at h;B3⟨y,ys,rfl,h1,_⟩:=h;simp at e;subst e;~⟨y,rfl,h1⟩
 | d'::ds,xs,i+1,d,h,e=>by
  B4 fQ at h
  B3⟨y,ys,rfl,_,h2⟩:=h
  B3⟨x,e1,e2⟩:=fQ.get (i:=i) (d:=d) h2 (by simpa using e)
  ~⟨x,by simpa using e1,e2⟩
B5 fQ.of{K:aJ}{H:Hp}:∀{ds:List D} {xs:List V},xs.length=ds.length→(∀(i:Nat)(d:D)(x:V),ds[i]?=some d→xs[i]?=some x→Rv K H d x)→fQ K H ds xs
 | [],xs,hl,_=>by B4 fQ;~F6 hl
 | d::ds,[],hl,_=>by simp at hl
 | d::ds,x::xs,hl,h=>by
  B4 fQ
  ~⟨x,xs,rfl,h 0 d x rfl rfl,fQ.of (by simpa using hl) fun i e y h1 h2=>h (i+1) e y (by simpa using h1) (by simpa using h2)⟩
def eO{α β:Type}(R:α→Fp→β→Prop):List α→Fp→List β→Prop
 | [],A,ys=>None A∧ys=[]
 | d::ds,A,ys=>∃y yt A1 A2,ys=y::yt∧Apart A1 A2∧Is A (gB A1 A2)∧R d A1 y∧eO R ds A2 yt
section
variable{α β:Type}{R R':α→Fp→β→Prop}
B5 eO.congr:∀{ds:List α} {A A':Fp} {ys:List β},eO R ds A ys→Is A A'→eO R ds A' ys
 | [],A,A',ys,h,e=>⟨fun x q=>h.1 x ((e x).mpr q),h.2⟩
 | d::ds,A,A',ys,⟨y,yt,A1,A2,h1,h2,h3,h4⟩,e=>⟨y,yt,A1,A2,h1,h2,fun x=>((e x).symm).trans (h3 x),h4⟩
B5 eO.mono:∀{ds:List α} {A:Fp} {ys:List β},eO R ds A ys→(∀e B z,(∀x,B x→A x)→R e B z→R' e B z)→eO R' ds A ys
 | [],A,ys,h,_=>h
 | d::ds,A,ys,⟨y,yt,A1,A2,h1,h2,h3,h4,h5⟩,m=>
  ⟨y,yt,A1,A2,h1,h2,h3,m _ _ _ (fun x q=>(h3 x).mpr (.inl q)) h4,h5.mono fun e B z hb=>m e B z fun x q=>(h3 x).mpr (.inr (hb x q))⟩
B5 eO.len:∀{ds:List α} {A:Fp} {ys:List β},eO R ds A ys→ys.length=ds.length
 | [],A,ys,h=>by rw[h.2];rfl
 | d::ds,A,ys,⟨y,yt,A1,A2,h1,h2,h3,h4,h5⟩=>by rw[h1,F0,F0,h5.len]
B5 eO.focus:∀{ds:List α} {A:Fp} {ys:List β} {i:Nat} {d:α},eO R ds A ys→ds[i]?=some d→∃y A1 C,ys[i]?=some y∧Apart A1 C∧Is A (gB A1 C)∧R d A1 y ∧
    ∀(R':α→Fp→β→Prop),(∀e B z,(∀x,B x→C x)→R e B z→R' e B z)→∀d' y' az,Apart az C→R' d' az y'→eO R' (ds.set i d') (gB az C) (ys.set i y')
  | [],A,ys,i,d,h,e=>by simp at e
  | d0::ds,A,ys,0,d,⟨y,yt,A1,A2,h1,h2,h3,h4,h5⟩,e=>by
    simp at e
    subst e h1
    ~⟨y,A1,A2,rfl,h2,h3,h4,fun R' m d' y' az ap r=>⟨y',yt,az,A2,rfl,ap,fun x=>Iff.rfl,r,h5.mono m⟩⟩
  | d0::ds,A,ys,i+1,d,⟨y,yt,A1,A2,h1,h2,h3,h4,h5⟩,e=>by
    subst h1
    B3⟨z,B1,C,e1,ap,hA,r,k⟩:=eO.focus (i:=i) (d:=d) h5 (by simpa using e)
    &⟨z,B1,gB A1 C,by simpa using e1,?_,?_,r,fun R' m d' y' az ap' r'=>?_⟩
    · intro x hx hc
      rcases hc with hc | hc
      · ~h2 x hc ((hA x).mpr (.inl hx))
      · ~ap x hx hc
    · intro x
      rw[h3 x]
      constructor
      · rintro(q | q)
        · ~.inr (.inl q)
        · rcases(hA x).mp q with q | q
          · ~.inl q
          · ~.inr (.inr q)
      · rintro(q | q | q)
        · ~.inr ((hA x).mpr (.inl q))
        · ~.inl q
        · ~.inr ((hA x).mpr (.inr q))
    · &⟨y,_,A1,gB az C,rfl,?_,?_,m _ _ _ (fun x q=>.inl q) h4,k R' (fun e B z hb=>m e B z fun x q=>.inr (hb x q)) d' y' az (fun x q q'=>ap' x q (.inr q')) r'⟩
      · intro x q q'
        rcases q' with q' | q'
        · ~ap' x q' (.inl q)
        · ~h2 x q ((hA x).mpr (.inr q'))
      · intro x
        show (az x∨A1 x∨C x)↔(A1 x∨az x∨C x)
        constructor
        · rintro(q | q | q)
          · ~.inr (.inl q)
          · ~.inl q
          · ~.inr (.inr q)
        · rintro(q | q | q)
          · ~.inr (.inl q)
          · ~.inl q
          · ~.inr (.inr q)
B5 eO.snoc:∀{ds:List α} {A A1:Fp} {ys:List β} {d:α} {y:β},eO R ds A ys→R d A1 y→Apart A A1→eO R (ds++[d]) (gB A A1) (ys++[y])
 | [],A,A1,ys,d,y,h,r,ap=>by
  rw[h.2]
  ~⟨y,[],A1,fun _=>False,rfl,fun _ _ z=>z,fun x=>⟨fun q=>q.elim (fun q=>absurd q (h.1 x)) .inl,fun q=>q.elim .inr False.elim⟩,r,fun _ z=>z,rfl⟩
 | d0::ds,A,A1,ys,d,y,⟨y0,yt,B1,B2,h1,h2,h3,h4,h5⟩,r,ap=>by
  subst h1
  &⟨y0,yt++[y],B1,gB B2 A1,rfl,?_,?_,h4,eO.snoc h5 r fun x q=>ap x ((h3 x).mpr (.inr q))⟩
  ·intro x q q'
   rcases q' with q' | q'
   ·~h2 x q q'
   ·~ap x ((h3 x).mpr (.inl q)) q'
  ·intro x
   show (A x∨A1 x)↔(B1 x∨B2 x∨A1 x)
   rw[h3 x]
   ~or_assoc
end
mutual
def Ow(K:aJ)(H:Hp):D→Fp→V→Prop
 | .non,A,v=>None A∧v=.non
 | .bl b,A,v=>None A∧v=.bl b
 | .int i,A,v=>None A∧v=.int i
 | .str x,A,v=>None A∧v=.str x
 | .lst ds,A,v=>∃a xs B,v=.ref a∧H a=some (.lst xs)∧¬B a∧Is A (gB (·=a) B)∧eQ K H ds B xs
 | .tup ds,A,v=>∃a xs,v=.ref a∧yV K H a xs∧eQ K H ds A xs
 | .dk ks ds,A,v=>∃a xs B,v=.ref a∧H a=some (.dK (ks.zip xs))∧ks.length=xs.length∧¬B a∧Is A (gB (·=a) B)∧eQ K H ds B xs
 | .dt ks ds,A,v=>∃a xs B,v=.ref a∧H a=some (.dT (ks.zip xs))∧ks.length=xs.length∧¬B a∧Is A (gB (·=a) B)∧eQ K H ds B xs
 | .ins C nm ds,A,v=>∃a dx xs B,v=.ref a∧H a=some (.ins C dx (nm.zip xs))∧H dx=some (.own a)∧nm.length=xs.length∧¬B a∧¬B dx∧Is A (gB (fun x=>x=a∨x=dx) B)∧eQ K H ds B xs
def eQ(K:aJ)(H:Hp):List D→Fp→List V→Prop
 | [],A,ys=>None A∧ys=[]
 | d::ds,A,ys=>∃y yt A1 A2,ys=y::yt∧Apart A1 A2∧Is A (gB A1 A2)∧Ow K H d A1 y∧eQ K H ds A2 yt
end
B5 cZ{K:aJ}{H:Hp}:∀{ds:List D} {A:Fp} {ys:List V},eQ K H ds A ys↔eO (Ow K H) ds A ys
 | [],A,ys=>by B4 eQ eO;~Iff.rfl
 | d::ds,A,ys=>by
  B4 eQ eO
  constructor
  ·rintro⟨y,yt,A1,A2,h1,h2,h3,h4,h5⟩;~⟨y,yt,A1,A2,h1,h2,h3,h4,cZ.mp h5⟩
  ·rintro⟨y,yt,A1,A2,h1,h2,h3,h4,h5⟩;~⟨y,yt,A1,A2,h1,h2,h3,h4,cZ.mpr h5⟩
def Gz(K:aJ)(H H':Hp):Prop:=∀a xs,yV K H a xs→yV K H' a xs
B5 aV.tk{K:aJ}{H H':Hp}(e:aV H H'):Gz K H H':=fun _ _ h=>e.tup h
B5 Ow.congr{K:aJ}{H:Hp}{d:D}{A A':Fp}{v:V}(h:Ow K H d A v)(e:Is A A'):Ow K H d A' v:=by
 cases d with
 | non=>B4 Ow at h ⊢;~⟨fun x q=>h.1 x ((e x).mpr q),h.2⟩
 | bl b=>B4 Ow at h ⊢;~⟨fun x q=>h.1 x ((e x).mpr q),h.2⟩
 | int b=>B4 Ow at h ⊢;~⟨fun x q=>h.1 x ((e x).mpr q),h.2⟩
 | str b=>B4 Ow at h ⊢;~⟨fun x q=>h.1 x ((e x).mpr q),h.2⟩
 | lst ds=>B4 Ow at h ⊢;B3⟨a,xs,B,h1,h2,h3,h4,h5⟩:=h;~⟨a,xs,B,h1,h2,h3,fun x=>(e x).symm.trans (h4 x),h5⟩
 | tup ds=>B4 Ow at h ⊢;B3⟨a,xs,h1,h2,h3⟩:=h;~⟨a,xs,h1,h2,cZ.mpr ((cZ.mp h3).congr e)⟩
 | dk ks ds=>B4 Ow at h ⊢;B3⟨a,xs,B,h1,h2,h2',h3,h4,h5⟩:=h;~⟨a,xs,B,h1,h2,h2',h3,fun x=>(e x).symm.trans (h4 x),h5⟩
 | dt ks ds=>B4 Ow at h ⊢;B3⟨a,xs,B,h1,h2,h2',h3,h4,h5⟩:=h;~⟨a,xs,B,h1,h2,h2',h3,fun x=>(e x).symm.trans (h4 x),h5⟩
 | ins C nm ds=>B4 Ow at h ⊢;B3⟨a,dx,xs,B,h1,h2,h2',h3,h3',h3'',h4,h5⟩:=h;~⟨a,dx,xs,B,h1,h2,h2',h3,h3',h3'',fun x=>(e x).symm.trans (h4 x),h5⟩
mutual
B5 Ow.frame{K:aJ}{H H':Hp}(t:Gz K H H'):∀(d:D)(A:Fp)(v:V),Ow K H d A v→(∀a,A a→H' a=H a)→Ow K H' d A v
 | .non,A,v,h,f=>by B4 Ow at h ⊢;~h
 | .bl _,A,v,h,f=>by B4 Ow at h ⊢;~h
 | .int _,A,v,h,f=>by B4 Ow at h ⊢;~h
 | .str _,A,v,h,f=>by B4 Ow at h ⊢;~h
 | .lst ds,A,v,h,f=>by
  B4 Ow at h ⊢
  B3⟨a,xs,B,h1,h2,h3,h4,h5⟩:=h
  ~⟨a,xs,B,h1,(f a ((h4 a).mpr (.inl rfl))).trans h2,h3,h4,eQ.frame t ds B xs h5 fun b q=>f b ((h4 b).mpr (.inr q))⟩
 | .tup ds,A,v,h,f=>by B4 Ow at h ⊢;B3⟨a,xs,h1,h2,h3⟩:=h;~⟨a,xs,h1,t _ _ h2,eQ.frame t ds A xs h3 f⟩
 | .dk ks ds,A,v,h,f=>by
  B4 Ow at h ⊢
  B3⟨a,xs,B,h1,h2,h2',h3,h4,h5⟩:=h
  ~⟨a,xs,B,h1,(f a ((h4 a).mpr (.inl rfl))).trans h2,h2',h3,h4,eQ.frame t ds B xs h5 fun b q=>f b ((h4 b).mpr (.inr q))⟩
 | .dt ks ds,A,v,h,f=>by
  B4 Ow at h ⊢
  B3⟨a,xs,B,h1,h2,h2',h3,h4,h5⟩:=h
  ~⟨a,xs,B,h1,(f a ((h4 a).mpr (.inl rfl))).trans h2,h2',h3,h4,eQ.frame t ds B xs h5 fun b q=>f b ((h4 b).mpr (.inr q))⟩
 | .ins C nm ds,A,v,h,f=>by
  B4 Ow at h ⊢
  B3⟨a,dx,xs,B,h1,h2,h2',h3,h3',h3'',h4,h5⟩:=h
  ~⟨a,dx,xs,B,h1,(f a ((h4 a).mpr (.inl (.inl rfl)))).trans h2,(f dx ((h4 dx).mpr (.inl (.inr rfl)))).trans h2',h3,h3',h3'',h4,eQ.frame t ds B xs h5 fun b q=>f b ((h4 b).mpr (.inr q))⟩
B5 eQ.frame{K:aJ}{H H':Hp}(t:Gz K H H'):∀(ds:List D)(A:Fp)(ys:List V),eQ K H ds A ys→(∀a,A a→H' a=H a)→eQ K H' ds A ys
 | [],A,ys,h,f=>by B4 eQ at h ⊢;~h
 | d::ds,A,ys,h,f=>by
  B4 eQ at h ⊢
  B3⟨y,yt,A1,A2,h1,h2,h3,h4,h5⟩:=h
  ~⟨y,yt,A1,A2,h1,h2,h3,Ow.frame t d A1 y h4 fun b q=>f b ((h3 b).mpr (.inl q)),eQ.frame t ds A2 yt h5 fun b q=>f b ((h3 b).mpr (.inr q))⟩
end
mutual
B5 Ow.rv{K:aJ}{H:Hp}:∀(d:D)(A:Fp)(v:V),Ow K H d A v→Rv K H d v
 | .non,A,v,h=>by B4 Ow at h;B4 Rv;~h.2
 | .bl _,A,v,h=>by B4 Ow at h;B4 Rv;~h.2
 | .int _,A,v,h=>by B4 Ow at h;B4 Rv;~h.2
 | .str _,A,v,h=>by B4 Ow at h;B4 Rv;~h.2
 | .lst ds,A,v,h=>by B4 Ow at h;B4 Rv;B3⟨a,xs,B,h1,h2,h3,h4,h5⟩:=h;~⟨a,xs,h1,rJ.of h2,eQ.rv ds B xs h5⟩
 | .tup ds,A,v,h=>by B4 Ow at h;B4 Rv;B3⟨a,xs,h1,h2,h3⟩:=h;~⟨a,xs,h1,h2,eQ.rv ds A xs h3⟩
 | .dk ks ds,A,v,h=>by B4 Ow at h;B4 Rv;B3⟨a,xs,B,h1,h2,h2',h3,h4,h5⟩:=h;~⟨a,xs,h1,.inl h2,h2',eQ.rv ds B xs h5⟩
 | .dt ks ds,A,v,h=>by B4 Ow at h;B4 Rv;B3⟨a,xs,B,h1,h2,h2',h3,h4,h5⟩:=h;~⟨a,xs,h1,.inl h2,h2',eQ.rv ds B xs h5⟩
 | .ins C nm ds,A,v,h=>by B4 Ow at h;B4 Rv;B3⟨a,dx,xs,B,h1,h2,h2',h3,h3',h3'',h4,h5⟩:=h;~⟨a,dx,xs,h1,h2,h3,eQ.rv ds B xs h5⟩
B5 eQ.rv{K:aJ}{H:Hp}:∀(ds:List D)(A:Fp)(ys:List V),eQ K H ds A ys→fQ K H ds ys
 | [],A,ys,h=>by B4 eQ at h;B4 fQ;~h.2
 | d::ds,A,ys,h=>by B4 eQ at h;B4 fQ;B3⟨y,yt,A1,A2,h1,h2,h3,h4,h5⟩:=h;~⟨y,yt,h1,Ow.rv d A1 y h4,eQ.rv ds A2 yt h5⟩
end
def nZ(H:Hp)(a:Addr):Prop:=(∃o,H a=some o)∧Aw H a
mutual
B5 Ow.cells{K:aJ}{H:Hp}:∀(d:D)(A:Fp)(v:V),Ow K H d A v→∀a,A a→nZ H a
 | .non,A,v,h,a,q=>by B4 Ow at h;~absurd q (h.1 a)
 | .bl _,A,v,h,a,q=>by B4 Ow at h;~absurd q (h.1 a)
 | .int _,A,v,h,a,q=>by B4 Ow at h;~absurd q (h.1 a)
 | .str _,A,v,h,a,q=>by B4 Ow at h;~absurd q (h.1 a)
 | .lst ds,A,v,h,a,q=>by
  B4 Ow at h
  B3⟨p,xs,B,h1,h2,h3,h4,h5⟩:=h
  rcases(h4 a).mp q with z | z
  ·cases z;~⟨⟨_,h2⟩,xW h2⟩
  ·~eQ.cells ds B xs h5 a z
 | .tup ds,A,v,h,a,q=>by B4 Ow at h;B3⟨p,xs,h1,h2,h3⟩:=h;~eQ.cells ds A xs h3 a q
 | .dk ks ds,A,v,h,a,q=>by
  B4 Ow at h
  B3⟨p,xs,B,h1,h2,h2',h3,h4,h5⟩:=h
  rcases(h4 a).mp q with z | z
  ·cases z;~⟨⟨_,h2⟩,Jl h2⟩
  ·~eQ.cells ds B xs h5 a z
 | .dt ks ds,A,v,h,a,q=>by
  B4 Ow at h
  B3⟨p,xs,B,h1,h2,h2',h3,h4,h5⟩:=h
  rcases(h4 a).mp q with z | z
  ·cases z;~⟨⟨_,h2⟩,fun ys e=>(by rw[h2]at e;cases e),fun o ys e=>(by rw[h2]at e;cases e)⟩
  ·~eQ.cells ds B xs h5 a z
 | .ins C nm ds,A,v,h,a,q=>by
  B4 Ow at h
  B3⟨p,dx,xs,B,h1,h2,h2',h3,h3',h3'',h4,h5⟩:=h
  rcases(h4 a).mp q with (z | z) | z
  ·cases z;~⟨⟨_,h2⟩,fun ys e=>(by rw[h2]at e;cases e),fun o ys e=>(by rw[h2]at e;cases e)⟩
  ·cases z;~⟨⟨_,h2'⟩,fun ys e=>(by rw[h2']at e;cases e),fun o ys e=>(by rw[h2']at e;cases e)⟩
  ·~eQ.cells ds B xs h5 a z
B5 eQ.cells{K:aJ}{H:Hp}:∀(ds:List D)(A:Fp)(ys:List V),eQ K H ds A ys→∀a,A a→nZ H a
 | [],A,ys,h,a,q=>by B4 eQ at h;~absurd q (h.1 a)
 | d::ds,A,ys,h,a,q=>by
  B4 eQ at h
  B3⟨y,yt,A1,A2,h1,h2,h3,h4,h5⟩:=h
  rcases(h3 a).mp q with z | z
  ·~Ow.cells d A1 y h4 a z
  ·~eQ.cells ds A2 yt h5 a z
end
mutual
def D.jJ:D→Bool
  | .non=>true | .bl _=>true | .int _=>true | .str _=>true
  | .tup ds=>D.fU ds
  | _=>false
def D.fU:List D→Bool
  | []=>true
  | d::ds=>D.jJ d&&D.fU ds
end
abbrev nil:Fp:=fun _=>False
mutual
B5 Bu{K:aJ}{H:Hp}:∀(d:D)(v:V),d.jJ=true→Rv K H d v→Ow K H d nil v
 | .non,v,_,h=>by B4 Rv at h;B4 Ow;~⟨fun _ z=>z,h⟩
 | .bl _,v,_,h=>by B4 Rv at h;B4 Ow;~⟨fun _ z=>z,h⟩
 | .int _,v,_,h=>by B4 Rv at h;B4 Ow;~⟨fun _ z=>z,h⟩
 | .str _,v,_,h=>by B4 Rv at h;B4 Ow;~⟨fun _ z=>z,h⟩
 | .tup ds,v,i,h=>by B4 D.jJ at i;B4 Rv at h;B4 Ow;B3⟨a,xs,h1,h2,h3⟩:=h;~⟨a,xs,h1,h2,Eb ds xs i h3⟩
 | .lst ds,v,i,h=>by B4 D.jJ at i;cases i
 | .dk _ ds,v,i,h=>by B4 D.jJ at i;cases i
 | .dt _ ds,v,i,h=>by B4 D.jJ at i;cases i
 | .ins _ _ ds,v,i,h=>by B4 D.jJ at i;cases i
B5 Eb{K:aJ}{H:Hp}:∀(ds:List D)(ys:List V),D.fU ds=true→fQ K H ds ys→eQ K H ds nil ys
 | [],ys,_,h=>by B4 fQ at h;B4 eQ;~⟨fun _ z=>z,h⟩
 | d::ds,ys,i,h=>by
  B4 D.fU at i
  rw[G7]at i
  B4 fQ at h
  B4 eQ
  B3⟨y,yt,h1,h2,h3⟩:=h
  ~⟨y,yt,nil,nil,h1,fun _ z _=>z,fun x=>⟨False.elim,fun z=>z.elim id id⟩,Bu d y i.1 h2,Eb ds yt i.2 h3⟩
end
open Classical in
noncomputable def out(H:Hp)(A:Fp):Hp:=fun a=>if A a then none else H a
B5 aHx{H:Hp}{A:Fp}{a:Addr}(h:¬A a):out H A a=H a:=by B4 out;rw[if_neg h]
B5 bG{H:Hp}{A:Fp}{a:Addr}{o:HO}:out H A a=some o↔¬A a∧H a=some o:=by
 B4 out
 split
 ·rename_i h;~⟨fun z=>(by cases z),fun z=>absurd h z.1⟩
 ·rename_i h;~⟨fun z=>⟨h,z⟩,fun z=>z.2⟩
B5 mU(H:Hp)(A:Fp):aV (out H A) H:=fun b o h=>(bG.mp h).2
B5 Tg{K:aJ}{H:Hp}{A:Fp}(h:∀a,A a→Aw H a):Gz K H (out H A):=fun a xs q=>by
 rcases q with (q | ⟨o,q⟩) | q
 ·~.inl (.inl (bG.mpr ⟨fun z=>(h a z).1 _ q,q⟩))
 ·~.inl (.inr ⟨o,bG.mpr ⟨fun z=>(h a z).2 _ _ q,q⟩⟩)
 ·~.inr q
B5 Ow.out{K:aJ}{H:Hp}{d:D}{A A':Fp}{v:V}(h:Ow K H d A' v)(ap:Apart A' A)(c:∀a,A a→Aw H a):Rv K (out H A) d v:=
 Ow.rv d A' v (Ow.frame (Tg c) d A' v h fun a q=>aHx (ap a q))
end L2


namespace L2
open PySem PySem.Spec PyProof.Rows
abbrev DE:=List (Option D)
abbrev FE:=DE→Option D
abbrev FA:=DE→Option (List D)
abbrev FT:=DE→Option Bool
def Fq(K:aJ)(H:Hp)(e:DE)(σ:St):Prop:=∀(i:Nat)(d:D),e[i]?=some (some d)→∃v,σ[i]?=some (some v)∧Rv K H d v
B5 Fq.same{K:aJ}{H H':Hp}{e:DE}{σ:St}(h:Fq K H e σ)(s:aV H H'):Fq K H' e σ:=fun i d q=>let ⟨v,h1,h2⟩:=h i d q;⟨v,h1,s.rv _ _ h2⟩
structure Zn(K:aJ)(N:Fp)(Z H:Hp):Prop where
 sm:aV Z H
 tk:Gz K H Z
 no:∀a,N a→Z a=none∧¬H a=none
B5 Zn.self(K:aJ)(H:Hp):Zn K nil H H:=⟨aV.refl _,fun _ _ h=>h,fun _ z=>z.elim⟩
B5 Gz.trans{K:aJ}{H H1 H2:Hp}(a:Gz K H H1)(b:Gz K H1 H2):Gz K H H2:=fun p xs h=>b p xs (a p xs h)
B5 Ow.same{K:aJ}{H H':Hp}{d:D}{A:Fp}{v:V}(h:Ow K H d A v)(s:aV H H'):Ow K H' d A v:=
 Ow.frame s.tk d A v h fun a q=>by
  B3⟨⟨o,e⟩,_⟩:=Ow.cells d A v h a q
  rw[e];~s a o e
B5 eQ.same{K:aJ}{H H':Hp}{ds:List D}{A:Fp}{vs:List V}(h:eQ K H ds A vs)(s:aV H H'):eQ K H' ds A vs:=
 eQ.frame s.tk ds A vs h fun a q=>by
  B3⟨⟨o,e⟩,_⟩:=eQ.cells ds A vs h a q
  rw[e];~s a o e
def Wt(K:aJ)(H H':Hp)(d:D)(v:V):Prop:=∃A,Ow K H' d A v∧∀a,A a→H a=none
def GK(K:aJ)(H H':Hp)(ds:List D)(vs:List V):Prop:=∃A,eQ K H' ds A vs∧∀a,A a→H a=none
B5 Wt.rv{K:aJ}{H H':Hp}{d:D}{v:V}(h:Wt K H H' d v):Rv K H' d v:=let ⟨A,o,_⟩:=h;Ow.rv d A v o
B5 GK.rv{K:aJ}{H H':Hp}{ds:List D}{vs:List V}(h:GK K H H' ds vs):fQ K H' ds vs:=let ⟨A,o,_⟩:=h;eQ.rv ds A vs o
B5 Wt.same{K:aJ}{H H' H2:Hp}{d:D}{v:V}(h:Wt K H H' d v)(s:aV H' H2):Wt K H H2 d v:=let ⟨A,o,f⟩:=h;⟨A,o.same s,f⟩
B5 Wt.back{K:aJ}{H0 H H':Hp}{d:D}{v:V}(h:Wt K H H' d v)(s:aV H0 H):Wt K H0 H' d v:=let ⟨A,o,f⟩:=h;⟨A,o,fun a q=>s.free (f a q)⟩
B5 Wt.jJ{K:aJ}{H H':Hp}{d:D}{v:V}(i:d.jJ=true)(h:Rv K H' d v):Wt K H H' d v:=⟨nil,Bu d v i h,fun _ z=>z.elim⟩
B5 GK.fU{K:aJ}{H H':Hp}{ds:List D}{vs:List V}(i:D.fU ds=true)(h:fQ K H' ds vs):GK K H H' ds vs:=⟨nil,Eb ds vs i h,fun _ z=>z.elim⟩
open Classical in
noncomputable def GP(Z H H':Hp):Hp:=fun a=>if H a=none then H' a else Z a
B5 Jm{Z H H':Hp}{a:Addr}(h:H a=none):GP Z H H' a=H' a:=by B4 GP;rw[if_pos h]
B5 Th{Z H H':Hp}{a:Addr}(h:¬H a=none):GP Z H H' a=Z a:=by B4 GP;rw[if_neg h]
B5 Mf{K:aJ}{N:Fp}{Z H H':Hp}(z:Zn K N Z H):aV Z (GP Z H H'):=fun b o e=>by
 rw[Th (by rw[z.sm b o e];intro q;cases q)];~e
B5 GQ{K:aJ}{N:Fp}{Z H H':Hp}(z:Zn K N Z H)(s:aV H H'):Zn K N (GP Z H H') H' where
  sm:=fun b o e=>by
    by_cases c:H b=none
    · rw[Jm c]at e;~e
    · rw[Th c]at e;~s b o (z.sm b o e)
  tk:=fun a xs h=>by
    by_cases c:H a=none
    · rcases h with (h | ⟨o,h⟩) | h
      · ~.inl (.inl (by rw[Jm c];~h))
      · ~.inl (.inr ⟨o,by rw[Jm c];~h⟩)
      · ~.inr h
    · have q:yV K H a xs:=by
        rcases h with (h | ⟨o,h⟩) | h
        · cases e:H a with
          | none=>~absurd e c
          | some o=>have:=s a o e;rw[h]at this;cases this;~.inl (.inl e)
        · cases e:H a with
          | none=>~absurd e c
          | some o=>have:=s a o e;rw[h]at this;cases this;~.inl (.inr ⟨_,e⟩)
        · ~.inr h
      ~(Mf z).tup (z.tk a xs q)
  no:=fun a q=>⟨by rw[Th (z.no a q).2];~(z.no a q).1,fun h=>(z.no a q).2 (s.free h)⟩
B5 Wt.zone{K:aJ}{N:Fp}{Z H H':Hp}{d:D}{v:V}(h:Wt K H H' d v)(z:Zn K N Z H)(s:aV H H'):Rv K (GP Z H H') d v:=by
 B3⟨A,o,f⟩:=h
 ~Ow.rv d A v (Ow.frame (GQ z s).tk d A v o fun a q=>Jm (f a q))
def Ls(K:aJ)(t:TE)(f:FE):Prop:=∀{N:Fp}(σ:St)(H Z:Hp)(e:DE)(d:D)(Q:VK),Zn K N Z H→Fq K Z e σ→f e=some d →
 (∀v H' Z',aV H H'→aV Z Z'→Zn K N Z' H'→Rv K Z' d v→Q v H')→t σ H Q
def Wk(K:aJ)(t:TE)(f:FE):Prop:=∀(σ:St)(H:Hp)(e:DE)(d:D)(Q:VK),Fq K H e σ→f e=some d →
 (∀v H',aV H H'→Wt K H H' d v→Q v H')→t σ H Q
def iu(K:aJ)(t:TT)(f:FT):Prop:=∀(σ:St)(H:Hp)(e:DE)(b:Bool)(Q:Bool→Hp→Prop),Fq K H e σ→f e=some b→(∀H',aV H H'→Q b H')→t σ H Q
def EvA(K:aJ)(t:TA)(f:FA):Prop:=∀{N:Fp}(σ:St)(H Z:Hp)(e:DE)(ds:List D)(Q:List V→Hp→Prop),Zn K N Z H→Fq K Z e σ→f e=some ds →
 (∀vs H' Z',aV H H'→aV Z Z'→Zn K N Z' H'→fQ K Z' ds vs→Q vs H')→t σ H Q
def EvB(K:aJ)(t:TA)(f:FA):Prop:=∀(σ:St)(H:Hp)(e:DE)(ds:List D)(Q:List V→Hp→Prop),Fq K H e σ→f e=some ds →
 (∀vs H',aV H H'→GK K H H' ds vs→Q vs H')→t σ H Q
B5 Wk.r{K:aJ}{t:TE}{f:FE}(h:Wk K t f):Ls K t f:=fun σ H Z e d Q z r q k=>
 h σ H e d Q (r.same z.sm) q fun v H' s n=>k v H' (GP Z H H') s (Mf z) (GQ z s) (n.zone z s)
def bO(f:FE):FE:=fun e=>(f e).bind fun d=>if d.jJ=true then some d else none
B5 Ym{f:FE}{e:DE}{d:D}:bO f e=some d↔f e=some d∧d.jJ=true:=by
 B4 bO
 cases q:f e with
 | none=>simp
 | some a=>
  simp only[C4]
  split
  ·rename_i h;constructor
   ·intro z;cases z;~⟨rfl,h⟩
   ·rintro⟨z,_⟩;~z
  ·rename_i h;constructor
   ·intro z;cases z
   ·rintro⟨z,z2⟩;cases z;~absurd z2 h
B5 Ls.n{K:aJ}{t:TE}{f:FE}(h:Ls K t f):Wk K t (bO f):=fun σ H e d Q r q k=>by
 B3⟨q1,q2⟩:=Ym.mp q
 ~h σ H H e d Q (Zn.self K H) r q1 fun v H' Z' s1 s2 z' rv=>k v H' s1 (.jJ q2 (z'.sm.rv _ _ rv))
def aD(i:Nat):FE:=fun e=>(e[i]?).getD none
B5 aHz{K:aJ}(i:Nat):Ls K (sE i) (aD i):=fun σ H Z e d Q z r q k=>by
 have e1:e[i]?=some (some d):=by
  B4 aD at q
  cases h:e[i]? with
  | none=>rw[h]at q;cases q
  | some o=>rw[h]at q;cases q;rfl
 B3⟨v,h1,h2⟩:=r i d e1
 ~⟨v,h1,k v H Z (aV.refl _) (aV.refl _) z h2⟩
def fC(d:D):FE:=fun _=>some d
B5 aB2{K:aJ}(i:Int):Wk K (tC (.int i)) (fC (.int i)):=fun σ H e d Q r q k=>by cases q;~k _ H (aV.refl _) (.jJ rfl (by B4 Rv;rfl))
B5 aJh{K:aJ}(i:Bool):Wk K (tC (.bl i)) (fC (.bl i)):=fun σ H e d Q r q k=>by cases q;~k _ H (aV.refl _) (.jJ rfl (by B4 Rv;rfl))
B5 aHA{K:aJ}:Wk K (tC .non) (fC .non):=fun σ H e d Q r q k=>by cases q;~k _ H (aV.refl _) (.jJ rfl (by B4 Rv;rfl))
B5 aHB{K:aJ}(i:Str):Wk K (tC (.str i)) (fC (.str i)):=fun σ H e d Q r q k=>by cases q;~k _ H (aV.refl _) (.jJ rfl (by B4 Rv;rfl))
def f2(φ:D→D→Option D)(f g:FE):FE:=fun e=>(f e).bind fun a=>(g e).bind fun b=>φ a b
B5 Jo{φ:D→D→Option D}{f g:FE}{e:DE}{d:D}(h:f2 φ f g e=some d):∃a b,f e=some a∧g e=some b∧φ a b=some d:=by
 B4 f2 at h
 B3⟨a,h1,h2⟩:=bA h
 B3⟨b,h3,h4⟩:=bA h2
 ~⟨a,b,h1,h3,h4⟩
def OpD(K:aJ)(r:R2)(φ:D→D→Option D):Prop:=∀{N:Fp}(x y:V)(H Z:Hp)(a b d:D)(Q:VK),Zn K N Z H→Rv K Z a x→Rv K Z b y→φ a b=some d →
 (∀v H' Z',aV H H'→aV Z Z'→Zn K N Z' H'→Rv K Z' d v→Q v H')→r x y H Q
def OD(K:aJ)(r:R2)(φ:D→D→Option D):Prop:=∀(x y:V)(H:Hp)(a b d:D)(Q:VK),Rv K H a x→Rv K H b y→φ a b=some d →
 (∀v H',aV H H'→Wt K H H' d v→Q v H')→r x y H Q
B5 aJi{K:aJ}{r:R2}{φ:D→D→Option D}{ta tb:TE}{f g:FE}(o:OpD K r φ)(ha:Ls K ta f)(hb:Ls K tb g):Ls K (Xx r ta tb) (f2 φ f g):=fun σ H Z e d Q z re q k=>by
 B3⟨a,b,h1,h2,h3⟩:=Jo q
 &ha σ H Z e a _ z re h1 fun x H1 Z1 s1 t1 z1 rx=>hb σ H1 Z1 e b _ z1 (re.same t1) h2 fun y H2 Z2 s2 t2 z2 ry=>?_
 ~o x y H2 Z2 a b d Q z2 (t2.rv _ _ rx) ry h3 fun v H3 Z3 s3 t3 z3 rv=>k v H3 Z3 (s1.trans (s2.trans s3)) (t1.trans (t2.trans t3)) z3 rv
B5 aB3{K:aJ}{r:R2}{φ:D→D→Option D}{ta tb:TE}{f g:FE}(o:OD K r φ)(ha:Ls K ta f)(hb:Ls K tb g):Wk K (Xx r ta tb) (f2 φ f g):=fun σ H e d Q re q k=>by
 B3⟨a,b,h1,h2,h3⟩:=Jo q
 &ha σ H H e a _ (Zn.self K H) re h1 fun x H1 Z1 s1 t1 z1 rx=>hb σ H1 Z1 e b _ z1 (re.same t1) h2 fun y H2 Z2 s2 t2 z2 ry=>?_
 ~o x y H2 a b d Q (z2.sm.rv _ _ (t2.rv _ _ rx)) (z2.sm.rv _ _ ry) h3 fun v H3 s3 n=>k v H3 (s1.trans (s2.trans s3)) (n.back (s1.trans s2))
def Ti(C:Int→Int→Prop) [∀i j,Decidable (C i j)] (g:Int→Int→D):D→D→Option D
 | .int i,.int j=>if C i j then some (g i j)else none
 | _,_=>none
B5 Tj{C:Int→Int→Prop} [∀i j,Decidable (C i j)] {g:Int→Int→D} {a b d:D} (h:Ti C g a b=some d):∃i j,a=.int i∧b=.int j∧C i j∧d=g i j:=by
 B4 Ti at h
 split at h
 ·split at h
  ·rename_i i j c;cases h;~⟨i,j,rfl,rfl,c,rfl⟩
  ·cases h
 ·cases h
B5 GR{K:aJ}{C:Int→Int→Prop} [∀i j,Decidable (C i j)] {C':Int→Int→Prop} (hC:∀i j,C i j→C' i j) {g:Int→Int→Int}:OD K (rI C' fun i j=>.int (g i j)) (Ti C fun i j=>.int (g i j)):=fun x y H a b d Q ra rb q k=>by
 B3⟨i,j,rfl,rfl,c,rfl⟩:=Tj q
 B4 Rv at ra rb
 ~⟨i,j,ra,rb,hC i j c,k _ H (aV.refl _) (.jJ rfl (by B4 Rv;rfl))⟩
B5 aEU{K:aJ}{g:Int→Int→Int}:OD K (rI0 fun i j=>.int (g i j)) (Ti (fun _ _=>True) fun i j=>.int (g i j)):=fun x y H a b d Q ra rb q k=>by
 B3⟨i,j,rfl,rfl,c,rfl⟩:=Tj q
 B4 Rv at ra rb
 ~⟨i,j,ra,rb,k _ H (aV.refl _) (.jJ rfl (by B4 Rv;rfl))⟩
B5 uQ{K:aJ}{g:Int→Int→Bool}:OD K (rI0 fun i j=>.bl (g i j)) (Ti (fun _ _=>True) fun i j=>.bl (g i j)):=fun x y H a b d Q ra rb q k=>by
 B3⟨i,j,rfl,rfl,c,rfl⟩:=Tj q
 B4 Rv at ra rb
 ~⟨i,j,ra,rb,k _ H (aV.refl _) (.jJ rfl (by B4 Rv;rfl))⟩
def aM:FA:=fun _=>some []
def aB(f:FE)(fs:FA):FA:=fun e=>(f e).bind fun a=>(fs e).bind fun r=>some (a::r)
B5 Ox{f:FE}{fs:FA}{e:DE}{ds:List D}(h:aB f fs e=some ds):∃a r,f e=some a∧fs e=some r∧ds=a::r:=by
 B4 aB at h
 B3⟨a,h1,h2⟩:=bA h
 B3⟨b,h3,h4⟩:=bA h2
 cases h4
 ~⟨a,b,h1,h3,rfl⟩
B5 aB4{K:aJ}:EvA K oK aM:=fun σ H Z e ds Q z re q k=>by cases q;~k [] H Z (aV.refl _) (aV.refl _) z (by B4 fQ;rfl)
B5 aEV{K:aJ}{te:TE}{t:TA}{f:FE}{fs:FA}(h:Ls K te f)(hs:EvA K t fs):EvA K (gF te t) (aB f fs):=fun σ H Z e ds Q z re q k=>by
 B3⟨a,r,h1,h2,rfl⟩:=Ox q
 &h σ H Z e a _ z re h1 fun x H1 Z1 s1 t1 z1 rx=>hs σ H1 Z1 e r _ z1 (re.same t1) h2 fun vs H2 Z2 s2 t2 z2 rs=>?_
 ~k _ H2 Z2 (s1.trans s2) (t1.trans t2) z2 (by B4 fQ;~⟨x,vs,rfl,t2.rv _ _ rx,rs⟩)
B5 aHC{K:aJ}:EvB K oK aM:=fun σ H e ds Q re q k=>by cases q;~k [] H (aV.refl _) (.fU rfl (by B4 fQ;rfl))
B5 aEW{K:aJ}{te:TE}{t:TA}{f:FE}{fs:FA}(h:Wk K te f)(hs:EvB K t fs):EvB K (gF te t) (aB f fs):=fun σ H e ds Q re q k=>by
 B3⟨a,r,h1,h2,rfl⟩:=Ox q
 &h σ H e a _ re h1 fun x H1 s1 n1=>hs σ H1 e r _ (re.same s1) h2 fun vs H2 s2 n2=>?_
 &k _ H2 (s1.trans s2) ?_
 B3⟨A,oA,fA⟩:=n1
 B3⟨B,oB,fB⟩:=n2
 &⟨gB A B,?_,fun p q=>q.elim (fA p) fun z=>s1.free (fB p z)⟩
 B4 eQ
 &⟨x,vs,A,B,rfl,fun p qa qb=>?_,fun _=>Iff.rfl,oA.same s2,oB⟩
 B3⟨⟨o,e1⟩,_⟩:=Ow.cells _ _ _ oA p qa
 rw[fB p qb]at e1;cases e1
def cap(n:Nat)(d:D):Option D:=if n≤100000 then some d else none
B5 Tn{n:Nat}{d d':D}(h:cap n d=some d'):n≤100000∧d'=d:=by
 B4 cap at h
 split at h
 ·rename_i c;cases h;~⟨c,rfl⟩
 ·cases h
B5 Yn{n:Nat}(h:n≤100000):n≤sizeLine:=by rw[sizeLine_eq];omega
B5 Yo{n:Nat}(h:n≤100000):n<sizeLine:=by rw[sizeLine_eq];omega
def kJ(fs:FA):FE:=fun e=>(fs e).bind fun ds=>cap ds.length (.lst ds)
def pP(fs:FA):FE:=fun e=>(fs e).bind fun ds=>cap ds.length (.tup ds)
B5 wD{K:aJ}{H H1:Hp}{ds:List D}{xs:List V}{p:Addr}(s:aV H H1)(n:GK K H H1 ds xs)(hp:H1 p=none):Wt K H (upd H1 p (.lst xs)) (.lst ds) (.ref p):=by
 B3⟨A,o,f⟩:=n
 &⟨gB (·=p) A,?_,fun a q=>q.elim (fun z=>by cases z;~s.free hp) (f a)⟩
 B4 Ow
 &⟨p,xs,A,rfl,cM,fun z=>?_,fun _=>Iff.rfl,o.same (dI hp _)⟩
 B3⟨⟨u,e⟩,_⟩:=eQ.cells _ _ _ o p z
 rw[hp]at e;cases e
B5 GX{K:aJ}{H H1:Hp}{ds:List D}{xs:List V}{p:Addr}(n:GK K H H1 ds xs)(hp:H1 p=none):Wt K H (upd H1 p (.tup xs)) (.tup ds) (.ref p):=by
 B3⟨A,o,f⟩:=n
 &⟨A,?_,f⟩
 B4 Ow
 ~⟨p,xs,rfl,yV.of cM,o.same (dI hp _)⟩
B5 aHD{K:aJ}{t:TA}{fs:FA}(h:EvB K t fs):Wk K (aBG t) (kJ fs):=fun σ H e d Q re q k=>by
 B4 kJ at q
 B3⟨ds,h1,h2⟩:=bA q
 B3⟨hc,rfl⟩:=Tn h2
 &h σ H e ds _ re h1 fun xs H1 s1 n=>⟨Yn (by rw[n.rv.length];~hc),fun p hp=>?_⟩
 ~k _ _ (s1.trans (dI hp _)) (wD s1 n hp)
B5 aHE{K:aJ}{t:TA}{fs:FA}(h:EvB K t fs):Wk K (aEo t) (pP fs):=fun σ H e d Q re q k=>by
 B4 pP at q
 B3⟨ds,h1,h2⟩:=bA q
 B3⟨hc,rfl⟩:=Tn h2
 &h σ H e ds _ re h1 fun xs H1 s1 n=>⟨Yn (by rw[n.rv.length];~hc),fun p hp=>?_⟩
 ~k _ _ (s1.trans (dI hp _)) (GX n hp)
B5 aB5{K:aJ}{N:Fp}{Z H:Hp}{p:Addr}{o:HO}(z:Zn K N Z H)(hp:H p=none):aV Z (upd Z p o)∧Zn K N (upd Z p o) (upd H p o):=by
 have hz:Z p=none:=z.sm.free hp
 &⟨dI hz o,⟨fun b u e=>?_,fun a xs h=>?_,fun a q=>?_⟩⟩
 ·by_cases c:b=p
  ·subst c;rw[cM]at e;rw[cM];~e
  ·rw[bN c]at e;rw[bN c];~z.sm b u e
 ·by_cases c:a=p
  ·subst c
   rcases h with (h | ⟨u,h⟩) | h
   ·rw[cM]at h;~.inl (.inl (by rw[cM];~h))
   ·rw[cM]at h;~.inl (.inr ⟨u,by rw[cM];~h⟩)
   ·~.inr h
  ·have q:yV K H a xs:=by
    rcases h with (h | ⟨u,h⟩) | h
    ·rw[bN c]at h;~.inl (.inl h)
    ·rw[bN c]at h;~.inl (.inr ⟨u,h⟩)
    ·~.inr h
   ~(dI hz o).tup (z.tk a xs q)
 ·have c:a≠p:=fun z'=>(z.no a q).2 (by rw[z'];~hp)
  rw[bN c,bN c];~z.no a q
B5 aHF{K:aJ}{t:TA}{fs:FA}(h:EvA K t fs):Ls K (aBG t) (kJ fs):=fun σ H Z e d Q z re q k=>by
 B4 kJ at q
 B3⟨ds,h1,h2⟩:=bA q
 B3⟨hc,rfl⟩:=Tn h2
 &h σ H Z e ds _ z re h1 fun xs H1 Z1 s1 t1 z1 rs=>⟨Yn (by rw[rs.length];~hc),fun p hp=>?_⟩
 B3⟨a1,a2⟩:=aB5 (o:=.lst xs) z1 hp
 ~k _ _ _ (s1.trans (dI hp _)) (t1.trans a1) a2 (by B4 Rv;~⟨p,xs,rfl,rJ.of cM,a1.uq _ _ rs⟩)
end L2


namespace L2
open PySem PySem.Spec PyProof.Rows
structure XR(K:aJ)(X:Cx)(e:Expr)(t:TE)(f:FE):Prop where
 hk:X.K=K
 pe:PE X e t
 ev:Ls K t f
structure XN(K:aJ)(X:Cx)(e:Expr)(t:TE)(f:FE):Prop where
 hk:X.K=K
 pe:PE X e t
 ev:Wk K t f
structure XT(K:aJ)(X:Cx)(e:Expr)(t:TT)(f:FT):Prop where
 hk:X.K=K
 pt:PT X e t
 ev:iu K t f
structure XW(K:aJ)(X:Cx)(e:Expr)(t:TT)(f:FT):Prop where
 hk:X.K=K
 pw:PW X e t
 ev:iu K t f
structure XA(K:aJ)(X:Cx)(es:List Expr)(t:TA)(f:FA):Prop where
 hk:X.K=K
 pa:PA X es t
 ev:EvA K t f
structure XB(K:aJ)(X:Cx)(es:List Expr)(t:TA)(f:FA):Prop where
 hk:X.K=K
 pa:PA X es t
 ev:EvB K t f
section
variable{K:aJ}{X:Cx}{e a b c:Expr}{es:List Expr}{t ta tb:TE}{f g:FE}{tA:TA}{fs:FA}{pos:Pos}
B5 XN.r(h:XN K X e t f):XR K X e t f:=⟨h.hk,h.pe,h.ev.r⟩
B5 XR.n(h:XR K X e t f):XN K X e t (bO f):=⟨h.hk,h.pe,Ls.n h.ev⟩
B5 aF{i:Nat}(h:PE X e (sE i))(hk:X.K=K:=by rfl):XR K X e (sE i) (aD i):=⟨hk,h,aHz i⟩
B5 aN{i:Int}{j:Nat}(hk:X.K=K:=by rfl):XN K X (.Constant (.int i) j pos) (tC (.int i)) (fC (.int i)):=⟨hk,aGS,aB2 i⟩
B5 uR{i:Bool}{j:Nat}(hk:X.K=K:=by rfl):XN K X (.Constant (.bool i) j pos) (tC (.bl i)) (fC (.bl i)):=⟨hk,aIR,aJh i⟩
B5 Hf{j:Nat}(hk:X.K=K:=by rfl):XN K X (.Constant .none j pos) (tC .non) (fC .non):=⟨hk,aGT,aHA⟩
B5 bW{x:Str}{j:Nat}(hk:X.K=K:=by rfl):XN K X (.Constant (.str x) j pos) (tC (.str x)) (fC (.str x)):=⟨hk,bj,aHB x⟩
B5 Tp{op:Operator}{r:R2}{φ:D→D→Option D}(ho:xR X (binaryOp op) r)(hd:OD K r φ)(ha:XR K X a ta f)(hb:XR K X b tb g):XN K X (.BinOp a op b pos) (Xx r ta tb) (f2 φ f g):=⟨ha.hk,aI1 ho ha.pe hb.pe,aB3 hd ha.ev hb.ev⟩
def Mg:D→D→Option D:=Ti (fun _ _=>True) fun i j=>.int (i-j)
instance (i j:Int):Decidable (Wl i j):=by B4 Wl;~inferInstance
instance (i j:Int):Decidable (aAd i j):=by B4 aAd;~inferInstance
instance (i j:Int):Decidable (aAe i j):=by B4 aAe;~inferInstance
def vY:D→D→Option D:=Ti Wl fun i j=>.int (i*j)
def pQ:D→D→Option D:=Ti aAd fun i j=>.int (i/j)
def gM:D→D→Option D:=Ti (fun _ j=>0<j) fun i j=>.int (i%j)
def Jp:D→D→Option D:=Ti aAe fun i j=>.int (i ^ j.toNat)
B5 wZ(ha:XR K X a ta f)(hb:XR K X b tb g):XN K X (.BinOp a .Sub b pos) (Xx (rI0 fun i j=>.int (i-j)) ta tb) (f2 Mg f g):=Tp aG8 aEU ha hb
B5 mV(ha:XR K X a ta f)(hb:XR K X b tb g):XN K X (.BinOp a .Mult b pos) (Xx (rI Wl fun i j=>.int (i*j)) ta tb) (f2 vY f g):=Tp aG9 (GR fun _ _ h=>h) ha hb
B5 lB(ha:XR K X a ta f)(hb:XR K X b tb g):XN K X (.BinOp a .FloorDiv b pos) (Xx (rI aAd fun i j=>.int (i/j)) ta tb) (f2 pQ f g):=Tp aEi (GR fun _ _ h=>h) ha hb
B5 bU(ha:XR K X a ta f)(hb:XR K X b tb g):XN K X (.BinOp a .Mod b pos) (Xx (rI (fun _ j=>0<j) fun i j=>.int (i%j)) ta tb) (f2 gM f g):=Tp aHa (GR fun _ _ h=>h) ha hb
B5 Bv(ha:XR K X a ta f)(hb:XR K X b tb g):XN K X (.BinOp a .Pow b pos) (Xx (rI aAe fun i j=>.int (i ^ j.toNat)) ta tb) (f2 Jp f g):=Tp aHb (GR fun _ _ h=>h) ha hb
B5 Hg{op:CmpOp}{r:R2}{φ:D→D→Option D}(ho:xR X (compareOp op) r)(hd:OD K r φ)(ha:XR K X a ta f)(hb:XR K X b tb g)(hm:behindInMarks op b=false):XN K X (.Compare a [op] [b] pos) (Xx r ta tb) (f2 φ f g):=⟨ha.hk,aEk ho ha.pe hb.pe hm,aB3 hd ha.ev hb.ev⟩
def fB(f:FE):FT:=fun e=>(f e).bind fun d=>match d with | .bl b=>some b | _=>none
B5 Jq{f:FE}{e:DE}{b:Bool}(h:fB f e=some b):f e=some (.bl b):=by
 B4 fB at h
 B3⟨d,h1,h2⟩:=bA h
 split at h2
 ·cases h2;~h1
 ·cases h2
B5 aEX(h:Ls K t f):iu K (Xz t) (fB f):=fun σ H e b Q re q k=>h σ H H e _ _ (Zn.self K H) re (Jq q) fun v H' Z' s1 s2 z rv=>by
 B4 Rv at rv
 ~⟨b,rv,k H' s1⟩
B5 aGg(h:Ls K t f):iu K (tB t) (fB f):=fun σ H e b Q re q k=>h σ H H e _ _ (Zn.self K H) re (Jq q) fun v H' Z' s1 s2 z rv=>by
 B4 Rv at rv
 ~⟨b,rv,k H' s1⟩
B5 eV{op:CmpOp}{r:R2}{φ:D→D→Option D}(ho:xR X (compareOp op) r)(hd:OD K r φ)(ha:XR K X a ta f)(hb:XR K X b tb g)(hm:behindInMarks op b=false):XT K X (.Compare a [op] [b] pos) (Xz (Xx r ta tb)) (fB (f2 φ f g)):=⟨ha.hk,tu ho ha.pe hb.pe hm,aEX (aB3 hd ha.ev hb.ev).r⟩
B5 qQ(h:XR K X e t f)(he:∀whole,isTrue e X.env whole=(do let v ←whole;standAt e.pos;holding [v] (truthy v)):=by intro _;rfl):XT K X e (tB t) (fB f):=⟨h.hk,aBn h.pe he,aGg h.ev⟩
def dLt:D→D→Option D:=Ti (fun _ _=>True) fun i j=>.bl (decide (i<j))
def dLe:D→D→Option D:=Ti (fun _ _=>True) fun i j=>.bl (decide (i≤j))
def dGt:D→D→Option D:=Ti (fun _ _=>True) fun i j=>.bl (decide (j<i))
def dGe:D→D→Option D:=Ti (fun _ _=>True) fun i j=>.bl (decide (j≤i))
def toV:D→Option V
  | .non=>some .non | .bl b=>some (.bl b) | .int i=>some (.int i) | .str x=>some (.str x)
  | _=>none
B5 Mh{H:Hp}{d:D}{v x:V}(h:toV d=some v)(r:Rv K H d x):x=v:=by
 cases d<;>B4 toV at h<;>first | (cases h;B4 Rv at r;~r) | cases h
mutual
def iQ:D→Option DV
 | .int i=>some (.int i)
 | .non=>some .non
 | .lst ds=>(lF ds).map DV.lst
 | .tup ds=>(lF ds).map DV.tup
 | _=>none
def lF:List D→Option (List DV)
 | []=>some []
 | d::ds=>(iQ d).bind fun x=>(lF ds).bind fun xs=>some (x::xs)
end
mutual
B5 zB{H:Hp}:∀(d:D)(x:DV)(v:V),iQ d=some x→Rv K H d v→Reads K H x v
 | .int i,x,v,h,r=>by B4 iQ at h;cases h;B4 Rv at r;B4 Reads;~r
 | .lst ds,x,v,h,r=>by
  B4 iQ at h
  B3⟨xs,h1,rfl⟩:=lY h
  B4 Rv at r;B4 Reads
  B3⟨a,vs,r1,r2,r3⟩:=r
  ~⟨a,vs,r1,r2,Tq ds xs vs h1 r3⟩
 | .tup ds,x,v,h,r=>by
  B4 iQ at h
  B3⟨xs,h1,rfl⟩:=lY h
  B4 Rv at r;B4 Reads
  B3⟨a,vs,r1,r2,r3⟩:=r
  ~⟨a,vs,r1,r2,Tq ds xs vs h1 r3⟩
 | .non,x,v,h,r=>by B4 iQ at h;cases h;B4 Rv at r;B4 Reads;~r
 | .bl _,x,v,h,r=>by B4 iQ at h;cases h
 | .str _,x,v,h,r=>by B4 iQ at h;cases h
 | .dk _ _,x,v,h,r=>by B4 iQ at h;cases h
 | .dt _ _,x,v,h,r=>by B4 iQ at h;cases h
 | .ins _ _ _,x,v,h,r=>by B4 iQ at h;cases h
B5 Tq{H:Hp}:∀(ds:List D)(xs:List DV)(vs:List V),lF ds=some xs→fQ K H ds vs→fK K H xs vs
 | [],xs,vs,h,r=>by B4 lF at h;cases h;B4 fQ at r;B4 fK;~r
 | d::ds,xs,vs,h,r=>by
  B4 lF at h
  B3⟨x,h1,h2⟩:=bA h
  B3⟨xt,h3,h4⟩:=bA h2
  cases h4
  B4 fQ at r;B4 fK
  B3⟨y,ys,r1,r2,r3⟩:=r
  ~⟨y,ys,r1,zB d x y h1 r2,Tq ds xt ys h3 r3⟩
end
mutual
B5 aB6:∀(d e:D)(x:DV),iQ d=some x→iQ e=some x→d=e
 | .int i,e,x,h,h'=>by
  B4 iQ at h;cases h
  cases e<;>B4 iQ at h'<;>first | (cases h';rfl) | cases h' | (B3⟨xs,q1,q2⟩:=lY h';cases q2)
 | .lst ds,e,x,h,h'=>by
  B4 iQ at h
  B3⟨xs,h1,rfl⟩:=lY h
  cases e with
  | lst es=>B4 iQ at h';B3⟨ys,q1,q2⟩:=lY h';cases q2;rw[Mi ds es xs h1 q1]
  | tup es=>B4 iQ at h';B3⟨ys,q1,q2⟩:=lY h';cases q2
  | _=>B4 iQ at h';cases h'
 | .tup ds,e,x,h,h'=>by
  B4 iQ at h
  B3⟨xs,h1,rfl⟩:=lY h
  cases e with
  | tup es=>B4 iQ at h';B3⟨ys,q1,q2⟩:=lY h';cases q2;rw[Mi ds es xs h1 q1]
  | lst es=>B4 iQ at h';B3⟨ys,q1,q2⟩:=lY h';cases q2
  | _=>B4 iQ at h';cases h'
 | .non,e,x,h,h'=>by
  B4 iQ at h;cases h
  cases e<;>B4 iQ at h'<;>first | (cases h';rfl) | cases h' | (B3⟨xs,q1,q2⟩:=lY h';cases q2)
 | .bl _,e,x,h,h'=>by B4 iQ at h;cases h
 | .str _,e,x,h,h'=>by B4 iQ at h;cases h
 | .dk _ _,e,x,h,h'=>by B4 iQ at h;cases h
 | .dt _ _,e,x,h,h'=>by B4 iQ at h;cases h
 | .ins _ _ _,e,x,h,h'=>by B4 iQ at h;cases h
B5 Mi:∀(ds es:List D)(xs:List DV),lF ds=some xs→lF es=some xs→ds=es
 | [],[],xs,h,h'=>rfl
 | [],e::es,xs,h,h'=>by
  B4 lF at h h'
  cases h
  B3⟨x,h1,h2⟩:=bA h'
  B3⟨xt,h3,h4⟩:=bA h2
  cases h4
 | d::ds,[],xs,h,h'=>by
  B4 lF at h h'
  cases h'
  B3⟨x,h1,h2⟩:=bA h
  B3⟨xt,h3,h4⟩:=bA h2
  cases h4
 | d::ds,e::es,xs,h,h'=>by
  B4 lF at h h'
  B3⟨x,h1,h2⟩:=bA h
  B3⟨xt,h3,h4⟩:=bA h2
  cases h4
  B3⟨y,k1,k2⟩:=bA h'
  B3⟨yt,k3,k4⟩:=bA k2
  cases k4
  rw[aB6 d e x h1 k1,Mi ds es xt h3 k3]
end
noncomputable def Ft(a b:D):Option D:=match toV a,toV b with
 | some x,some y=>if aEj x y=true then some (.bl (decide (x=y)))else none
 | _,_=>match iQ a,iQ b with
  | some x,some y=>if x.depth≤32 then some (.bl (Br x y))else none
  | _,_=>none
B5 sH:OD K (fun x y H Q=>rEq x y H Q∨aHs K false x y H Q) Ft:=fun x y H a b d Q ra rb q k=>by
 B4 Ft at q
 split at q
 ·rename_i u v h1 h2
  split at q
  ·rename_i hs
   cases q
   rw[Mh h1 ra,Mh h2 rb]
   ~.inl ⟨hs,k _ H (aV.refl _) (.jJ rfl (by B4 Rv;rfl))⟩
  ·cases q
 ·split at q
  ·rename_i u v h1 h2
   split at q
   ·rename_i hs
    cases q
    ~.inr ⟨u,v,zB a u x h1 ra,zB b v y h2 rb,hs,k _ H (aV.refl _) (.jJ rfl (by B4 Rv;rfl))⟩
   ·cases q
  ·cases q
noncomputable def Tr(a b:D):Option D:=match toV a,toV b with
 | some x,some y=>if aEj x y=true then some (.bl (!decide (x=y)))else none
 | _,_=>match iQ a,iQ b with
  | some (.lst x),some (.lst y)=>if dH x≤32 then some (.bl (!Br (.lst x) (.lst y)))else none
  | some (.tup x),some (.tup y)=>if dH x≤32 then some (.bl (!Br (.tup x) (.tup y)))else none
  | _,_=>none
def aJj(K:aJ):R2:=fun x y H Q=>rNe x y H Q∨(∃ds es,Reads K H (.lst ds) x∧Reads K H (.lst es) y∧dH ds≤32∧Q (.bl (!Br (.lst ds) (.lst es))) H)∨(∃ds es,Reads K H (.tup ds) x∧Reads K H (.tup es) y∧dH ds≤32∧Q (.bl (!Br (.tup ds) (.tup es))) H)
B5 Gg:OD K (aJj K) Tr:=fun x y H a b d Q ra rb q k=>by
 B4 Tr at q
 split at q
 ·rename_i u v h1 h2
  split at q
  ·rename_i hs
   cases q
   rw[Mh h1 ra,Mh h2 rb]
   ~.inl ⟨hs,k _ H (aV.refl _) (.jJ rfl (by B4 Rv;rfl))⟩
  ·cases q
 ·split at q
  ·rename_i u v h1 h2
   split at q
   ·rename_i hs
    cases q
    ~.inr (.inl ⟨u,v,zB a _ x h1 ra,zB b _ y h2 rb,hs,k _ H (aV.refl _) (.jJ rfl (by B4 Rv;rfl))⟩)
   ·cases q
  ·rename_i u v h1 h2
   split at q
   ·rename_i hs
    cases q
    ~.inr (.inr ⟨u,v,zB a _ x h1 ra,zB b _ y h2 rb,hs,k _ H (aV.refl _) (.jJ rfl (by B4 Rv;rfl))⟩)
   ·cases q
  ·cases q
B5 or_eq(hu:X.A.units+64<cLine)(hk:X.K=K):xR X (compareOp .Eq) (fun x y H Q=>rEq x y H Q∨aHs K false x y H Q):=by subst hk;~aI4.or (aHt hu)
B5 Gh(hu:X.A.units+64<cLine)(hk:X.K=K):xR X (compareOp .NotEq) (aJj K):=by subst hk;~aI5.or ((aHu hu).or (aHw hu))
def QW:List D→Option (List V)
 | []=>some []
 | d::ds=>(toV d).bind fun x=>(QW ds).bind fun xs=>some (x::xs)
B5 ur{H:Hp}:∀{ds:List D} {vs xs:List V},QW ds=some vs→fQ K H ds xs→xs=vs
 | [],vs,xs,h,r=>by B4 QW at h;cases h;B4 fQ at r;~r
 | d::ds,vs,xs,h,r=>by
  B4 QW at h
  B3⟨x,h1,h2⟩:=bA h
  B3⟨xt,h3,h4⟩:=bA h2
  cases h4
  B4 fQ at r
  B3⟨y,ys,rfl,r2,r3⟩:=r
  rw[Mh h1 r2,ur h3 r3]
def Bf:D→Option (List D)
 | .lst ds=>some ds
 | .tup ds=>some ds
 | _=>none
B5 Ra{H:Hp}{d:D}{ds:List D}{v:V}(h:Bf d=some ds)(r:Rv K H d v):∃p xs,v=.ref p∧(rJ K H p xs∨yV K H p xs)∧fQ K H ds xs:=by
 cases d with
 | lst es=>B4 Bf at h;cases h;B4 Rv at r;B3⟨p,xs,r1,r2,r3⟩:=r;~⟨p,xs,r1,.inl r2,r3⟩
 | tup es=>B4 Bf at h;cases h;B4 Rv at r;B3⟨p,xs,r1,r2,r3⟩:=r;~⟨p,xs,r1,.inr r2,r3⟩
 | _=>B4 Bf at h;cases h
def dIn(neg:Bool)(a b:D):Option D:=(toV a).bind fun x=>(Bf b).bind fun ds=>(QW ds).bind fun xs=>if Bo x=true∧xs.all Bo=true then some (.bl (if neg then !inV x xs else inV x xs))else none
B5 aJl(neg:Bool):OD K (rIn K neg) (dIn neg):=fun x y H a b d Q ra rb q k=>by
 B4 dIn at q
 B3⟨u,h1,q⟩:=bA q
 B3⟨ds,h2,q⟩:=bA q
 B3⟨us,h3,q⟩:=bA q
 split at q
 ·rename_i c
  cases q
  B3⟨p,xs,rfl,r2,r3⟩:=Ra h2 rb
  have:=ur h3 r3
  subst this
  rw[Mh h1 ra]
  ~⟨p,xs,rfl,r2,c.1,c.2,k _ H (aV.refl _) (.jJ rfl (by B4 Rv;rfl))⟩
 ·cases q
B5 aB7(hk:X.K=K):xR X (compareOp .NotIn) (rIn K true):=by subst hk;~DX
end
section
variable{κ:Type} [DecidableEq κ] {K:aJ} {H:Hp}
def posK:List κ→κ→Option Nat
 | [],_=>none
 | a::ks,k=>if a=k then some 0 else(posK ks k).map (·+1)
B5 sI:∀{ks:List κ} {xs:List V} {k:κ},ks.length=xs.length→tG (ks.zip xs) k=(posK ks k).bind fun j=>xs[j]?
 | [],xs,k,h=>by B4 posK;rfl
 | a::ks,[],k,h=>by simp at h
 | a::ks,x::xs,k,h=>by
  have ih:=sI (ks:=ks) (xs:=xs) (k:=k) (by simpa using h)
  B4 posK
  rw[P2]
  B4 tG at ih ⊢
  rw[O0]
  by_cases c:a=k
  ·rw[if_pos c,decide_eq_true c];rfl
  ·rw[if_neg c,decide_eq_false c]
   show Option.map _ (List.find? _ (ks.zip xs))=_
   rw[ih]
   cases posK ks k<;>rfl
B5 uB:∀{ks:List κ} {k:κ} {j:Nat},posK ks k=some j→j<ks.length∧ks[j]?=some k
 | [],k,j,h=>by B4 posK at h;cases h
 | a::ks,k,j,h=>by
  B4 posK at h
  split at h
  ·rename_i c;cases h;~⟨by simp,by simp[c]⟩
  ·B3⟨i,h1,rfl⟩:=lY h
   B3⟨a1,a2⟩:=uB h1
   ~⟨by simpa using a1,by simpa using a2⟩
B5 Ec:∀{ks:List κ} {k:κ},posK ks k=none↔k∉ks
  | [],k=>by B4 posK;simp
  | a::ks,k=>by
    B4 posK
    have ih:=Ec (ks:=ks) (k:=k)
    split
    · rename_i c;simp[c]
    · rename_i c
      rw[Z7,ih,D5]
      constructor
      · rintro h (q | q)
        · ~c q.symm
        · ~h q
      · intro h q;~h (.inr q)
def mL(ks:List κ)(k:κ):List κ:=if(posK ks k).isSome then ks else ks++[k]
def putD{β:Type}(ks:List κ)(ds:List β)(k:κ)(d:β):List β:=if(posK ks k).isSome then P9 (fun k' d'=>if k'=k then d else d') ks ds else ds++[d]
B5 xX{β:Type}{ks:List κ}{ds:List β}{k:κ}{d:β}(h:ks.length=ds.length):(mL ks k).length=(putD ks ds k d).length:=by
 B4 mL putD
 split
 ·rw[List.length_zipWith,h,f6]
 ·rw[C7,C7,h];rfl
B5 QX{ks:List κ}{xs:List V}{k:κ}{v:V}(h:ks.length=xs.length):putK (ks.zip xs) k v=(mL ks k).zip (putD ks xs k v):=by
 have ha:((ks.zip xs).any fun kv=>decide (kv.1=k))=(posK ks k).isSome:=by
  rw[Bp,sI h]
  cases q:posK ks k with
  | none=>rfl
  | some j=>
   B3⟨h1,h2⟩:=uB q
   rw[C4,B7 A6]
   rfl
 B4 putK mL putD
 rw[ha]
 by_cases c:(posK ks k).isSome=true
 ·rw[if_pos c,if_pos c,if_pos c]
  clear ha c
  induction ks generalizing xs with
  | nil=>rfl
  | cons a ks ih=>
   cases xs with
   | nil=>simp at h
   | cons x xs=>
    rw[P2,D3,J6,P2,ih (by simpa using h)]
    split<;>rfl
 ·rw[if_neg c,if_neg c,if_neg c,List.zip_append h]
  rfl
end
def Tt:D→Option Key
 | .int i=>some (.inl i)
 | .str x=>some (.inr x)
 | _=>none
B5 Ed{K:aJ}{H:Hp}{d:D}{k:Key}{v:V}(h:Tt d=some k)(r:Rv K H d v):v=kV k:=by
 cases d<;>B4 Tt at h<;>first | (cases h;B4 Rv at r;~r) | cases h
def kD:Key→D
 | .inl i=>.int i
 | .inr x=>.str x
section
variable{K:aJ}{X:Cx}{e a b c:Expr}{es:List Expr}{t ta tb:TE}{f g:FE}{pos:Pos}
def Fv(neg:Bool)(k d:D):Option D:=match d with
 | .dk ks ds=>(Tt k).bind fun k=>some (.bl (if neg then !(posK ks k).isSome else(posK ks k).isSome))
 | _=>none
def jD(d k:D):Option D:=match d with
 | .dk ks ds=>(Tt k).bind fun k=>(posK ks k).bind fun j=>ds[j]?
 | _=>none
B5 iw{ks:List Key}{xs:List V}{k:Key}(h:ks.length=xs.length):(tG (ks.zip xs) k).isSome=(posK ks k).isSome:=by
 rw[sI h]
 cases q:posK ks k with
 | none=>rfl
 | some j=>
  B3⟨h1,h2⟩:=uB q
  rw[C4,B7 A6]
  rfl
B5 QZ{H:Hp}{x y:V}{ka d r:D}{neg:Bool}(h:Fv neg ka d=some r)(rk:Rv K H ka y)(rd:Rv K H d x):∃p o,x=.ref p∧Jj H p y o∧r=.bl (if neg then !o.isSome else o.isSome):=by
 B4 Fv at h
 split at h
 ·rename_i ks ds
  B3⟨k,h1,h2⟩:=bA h
  cases h2
  B4 Rv at rd
  B3⟨p,xs,r1,r2,r3,r4⟩:=rd
  &⟨p,tG (ks.zip xs) k,r1,.inl ⟨_,k,r2,Ed h1 rk,rfl⟩,?_⟩
  rw[iw r3]
 ·cases h
B5 aB8(hu:X.A.units+1<cLine)(ha:XR K X a ta f)(hb:XR K X b tb g)(h1:behindInMarks .In b=false:=by first | ~nobehind _ A8 A8 | rfl):XN K X (.Compare a [.In] [b] pos) (aEE ta tb) (f2 (Fv false) f g):=
 ⟨ha.hk,bu (gh hu ha.pe hb.pe) h1,fun σ H e d Q re q k=>by
  B3⟨da,db,q1,q2,q3⟩:=Jo q
  &ha.ev σ H H e da _ (Zn.self K H) re q1 fun x H1 Z1 s1 t1 z1 rx=>hb.ev σ H1 Z1 e db _ z1 (re.same t1) q2 fun y H2 Z2 s2 t2 z2 ry=>?_
  B3⟨p,o,e1,e2,e3⟩:=QZ q3 (z2.sm.rv _ _ (t2.rv _ _ rx)) (z2.sm.rv _ _ ry)
  subst e3
  ~⟨p,o,e1,e2,k _ H2 (s1.trans s2) (.jJ rfl (by B4 Rv;rfl))⟩⟩
B5 aAu(hu:X.A.units+1<cLine)(ha:XR K X a ta f)(hb:XR K X b tb g)(h1:behindInMarks .NotIn b=false:=by first | ~nobehind _ A8 A8 | rfl):XN K X (.Compare a [.NotIn] [b] pos) (FN ta tb) (f2 (Fv true) f g):=
 ⟨ha.hk,bu (Yj hu ha.pe hb.pe) h1,fun σ H e d Q re q k=>by
  B3⟨da,db,q1,q2,q3⟩:=Jo q
  &ha.ev σ H H e da _ (Zn.self K H) re q1 fun x H1 Z1 s1 t1 z1 rx=>hb.ev σ H1 Z1 e db _ z1 (re.same t1) q2 fun y H2 Z2 s2 t2 z2 ry=>?_
  B3⟨p,o,e1,e2,e3⟩:=QZ q3 (z2.sm.rv _ _ (t2.rv _ _ rx)) (z2.sm.rv _ _ ry)
  subst e3
  ~⟨p,o,e1,e2,k _ H2 (s1.trans s2) (.jJ rfl (by B4 Rv;rfl))⟩⟩
B5 aGh{op:CmpOp}(h:XN K X (.Compare a [op] [b] pos) t f)(pc:PC X op a b t)(h1:behindInMarks op b=false):XT K X (.Compare a [op] [b] pos) (tB t) (fB f):=⟨h.hk,aGU pc h1,aGg h.ev.r⟩
B5 Mj(hu:X.A.units+1<cLine)(ha:XR K X a ta f)(hb:XR K X b tb g)(h1:behindInMarks .NotIn b=false:=by first | ~nobehind _ A8 A8 | rfl):XT K X (.Compare a [.NotIn] [b] pos) (tB (FN ta tb)) (fB (f2 (Fv true) f g)):=aGh (aAu hu ha hb h1) (Yj hu ha.pe hb.pe) h1
B5 bQ(hu:X.A.units+1<cLine)(ha:XR K X a ta f)(hb:XR K X b tb g)(hs:aBR b):XR K X (.Subscript a b pos) (ue ta tb) (f2 jD f g):=
 ⟨ha.hk,FQ hu ha.pe hb.pe hs,fun σ H Z e d Q z re q k=>by
  B3⟨da,db,q1,q2,q3⟩:=Jo q
  &ha.ev σ H Z e da _ z re q1 fun x H1 Z1 s1 t1 z1 rx=>hb.ev σ H1 Z1 e db _ z1 (re.same t1) q2 fun y H2 Z2 s2 t2 z2 ry=>?_
  have rx2:=t2.rv _ _ rx
  B4 jD at q3
  split at q3
  ·rename_i ks ds
   B3⟨kk,h1,h2⟩:=bA q3
   B3⟨j,h3,h4⟩:=bA h2
   B4 Rv at rx2
   B3⟨p,xs,r1,r2,r3,r4⟩:=rx2
   B3⟨v,e1,e2⟩:=r4.get h4
   &⟨p,v,r1,.inl ⟨_,kk,z2.sm.rd r2,Ed h1 ry,?_⟩,k v H2 Z2 (s1.trans s2) (t1.trans t2) z2 e2⟩
   rw[sI r3,h3]
   ~e1.symm
  ·cases q3⟩
def dU(a i:D):Option D:=match i with
 | .int i=>(Bf a).bind fun ds=>au ds i
 | _=>none
B5 aGi{H:Hp}{ds:List D}{xs:List V}{i:Int}{d:D}(r:fQ K H ds xs)(h:au ds i=some d):∃v,au xs i=some v∧Rv K H d v:=by
 B4 au at h ⊢
 B3⟨j,h1,h2⟩:=bA h
 rw[r.length,h1]
 ~r.get h2
B5 aGj(hk:X.K=K):IxR X (rIx K):=by subst hk;~aHj
B5 bI(ha:XR K X a ta f)(hb:XR K X b tb g)(hs:DQ b):XR K X (.Subscript a b pos) (Xx (rIx K) ta tb) (f2 dU f g):=
 ⟨ha.hk,aGa (aGj ha.hk) ha.pe hb.pe hs,aJi (fun x y H Z da db d Q z ra rb q k=>by
  B4 dU at q
  split at q
  ·rename_i i
   B3⟨ds,h1,h2⟩:=bA q
   B4 Rv at rb
   cases da with
   | lst es=>
    B4 Bf at h1;cases h1
    B4 Rv at ra
    B3⟨p,xs,r1,r2,r3⟩:=ra
    B3⟨v,e1,e2⟩:=aGi r3 h2
    ~.inl ⟨p,xs,i,v,r1,rb,z.sm.seq r2,e1,k v H Z (aV.refl _) (aV.refl _) z e2⟩
   | tup es=>
    B4 Bf at h1;cases h1
    B4 Rv at ra
    B3⟨p,xs,r1,r2,r3⟩:=ra
    B3⟨v,e1,e2⟩:=aGi r3 h2
    ~.inr (.inl ⟨p,xs,i,v,r1,rb,z.sm.tup r2,e1,k v H Z (aV.refl _) (aV.refl _) z e2⟩)
   | _=>B4 Bf at h1;cases h1
  ·cases q) ha.ev hb.ev⟩
end
end L2


namespace L2
open PySem PySem.Spec PyProof.Rows
section
variable{K:aJ}{X:Cx}{e a b c:Expr}{es rest:List Expr}{t ta tb:TE}{f g:FE}{tA:TA}{fs:FA}{pos:Pos}{tc:TT}{fc fd:FT}{td:TT}
B5 aO(hk:X.K=K:=by rfl):XA K X [] oK aM:=⟨hk,jM,aB4⟩
B5 aG(h:XR K X e t f)(hs:XA K X es tA fs)(hst:starEach (e::es) X.env=(false,eval e X.env)::starEach es X.env:=by rfl):XA K X (e::es) (gF t tA) (aB f fs):=⟨h.hk,dG h.pe hs.pa hst,aEV h.ev hs.ev⟩
B5 dY(hk:X.K=K:=by rfl):XB K X [] oK aM:=⟨hk,jM,aHC⟩
B5 aY(h:XN K X e t f)(hs:XB K X es tA fs)(hst:starEach (e::es) X.env=(false,eval e X.env)::starEach es X.env:=by rfl):XB K X (e::es) (gF t tA) (aB f fs):=⟨h.hk,dG h.pe hs.pa hst,aEW h.ev hs.ev⟩
B5 tH(h:XB K X es tA fs):XN K X (.List es pos) (aBG tA) (kJ fs):=⟨h.hk,aBI h.pa,aHD h.ev⟩
B5 jN(h:XA K X es tA fs):XR K X (.List es pos) (aBG tA) (kJ fs):=⟨h.hk,aBI h.pa,aHF h.ev⟩
B5 lC{x1:Nat}(h:XB K X es tA fs):XN K X (.Tuple es x1 pos) (aEo tA) (pP fs):=⟨h.hk,aBH h.pa,aHE h.ev⟩
B5 aEY:Wk K gj (fC (.dk [] [])):=fun σ H e d Q re q k=>by
 cases q
 intro p hp
 &k _ _ (dI hp _) ⟨(·=p),?_,fun a q=>by cases q;~hp⟩
 B4 Ow
 ~⟨p,[],nil,rfl,cM,rfl,fun z=>z,fun x=>⟨.inl,fun z=>z.elim id False.elim⟩,by B4 eQ;~⟨fun _ z=>z,rfl⟩⟩
B5 rO(hk:X.K=K:=by rfl):XN K X (.Dict [] [] pos) gj (fC (.dk [] [])):=⟨hk,aBU,aEY⟩
def Hh(f g:FT):FT:=fun e=>(f e).bind fun c=>if c=true then g e else some false
def fOr(f g:FT):FT:=fun e=>(f e).bind fun c=>if c=true then some true else g e
def xY(f:FT):FT:=fun e=>(f e).map fun c=>!c
B5 aHG(h1:iu K tc fc)(h2:iu K td fd):iu K (aGV tc td) (Hh fc fd):=fun σ H e b Q re q k=>by
 B4 Hh at q
 B3⟨c,q1,q2⟩:=bA q
 &h1 σ H e c _ re q1 fun H1 s1=>?_
 cases c with
 | true=>rw[if_pos rfl]at q2 ⊢;~h2 σ H1 e b Q (re.same s1) q2 fun H2 s2=>k H2 (s1.trans s2)
 | false=>rw[if_neg A8]at q2 ⊢;cases q2;~k H1 s1
B5 aJn(h1:iu K tc fc)(h2:iu K td fd):iu K (tOr tc td) (fOr fc fd):=fun σ H e b Q re q k=>by
 B4 fOr at q
 B3⟨c,q1,q2⟩:=bA q
 &h1 σ H e c _ re q1 fun H1 s1=>?_
 cases c with
 | false=>rw[if_neg A8]at q2 ⊢;~h2 σ H1 e b Q (re.same s1) q2 fun H2 s2=>k H2 (s1.trans s2)
 | true=>rw[if_pos rfl]at q2 ⊢;cases q2;~k H1 s1
B5 aHH(h1:iu K tc fc):iu K (aEd tc) (xY fc):=fun σ H e b Q re q k=>by
 B4 xY at q
 B3⟨c,q1,rfl⟩:=lY q
 ~h1 σ H e c _ re q1 k
B5 XW.xt(h:XW K X e tc fc):XT K X e tc fc:=⟨h.hk,h.pw.pt,h.ev⟩
B5 Jr(h:XT K X a tc fc):XW K X (.BoolOp .And [a] pos) tc fc:=⟨h.hk,aEe h.pt,h.ev⟩
B5 GZ(h:XT K X a tc fc):XW K X (.BoolOp .Or [a] pos) tc fc:=⟨h.hk,aGW h.pt,h.ev⟩
B5 Tu(h:XT K X a tc fc)(h2:XW K X (.BoolOp .And (b::rest) pos) td fd):XW K X (.BoolOp .And (a::b::rest) pos) (aGV tc td) (Hh fc fd):=⟨h.hk,aGX h.pt h2.pw,aHG h.ev h2.ev⟩
B5 Tv(h:XT K X a tc fc)(h2:XW K X (.BoolOp .Or (b::rest) pos) td fd):XW K X (.BoolOp .Or (a::b::rest) pos) (tOr tc td) (fOr fc fd):=⟨h.hk,aIS h.pt h2.pw,aJn h.ev h2.ev⟩
B5 oY(h:XT K X a tc fc):XT K X (.UnaryOp .Not a pos) (aEd tc) (xY fc):=⟨h.hk,aBo h.pt,aHH h.ev⟩
def Ax(f g:FE):FE:=fun e=>(fB f e).bind fun c=>if c=true then g e else some (.bl false)
def Wu(f g:FE):FE:=fun e=>(fB f e).bind fun c=>if c=true then some (.bl true)else g e
def RB(f:FE):FE:=fun e=>(fB f e).map fun c=>.bl (!c)
B5 wF{op:BoolOp}(h:XN K X a t f):XN K X (.BoolOp op [a] pos) t f:=⟨h.hk,aGY h.pe,h.ev⟩
B5 Ml(h:XR K X a ta f)(h2:XN K X (.BoolOp .And (b::rest) pos) tb g):XN K X (.BoolOp .And (a::b::rest) pos) (aFZ ta tb) (Ax f g):=⟨h.hk,aGZ h.pe h2.pe,fun σ H e d Q re q k=>by
 B4 Ax at q
 B3⟨c,q1,q2⟩:=bA q
 &h.ev σ H H e _ _ (Zn.self K H) re (Jq q1) fun v H1 Z1 s1 t1 z1 rv=>?_
 B4 Rv at rv
 &⟨c,rv,?_⟩
 cases c with
 | true=>rw[if_pos rfl]at q2 ⊢;~h2.ev σ H1 e d Q (re.same s1) q2 fun v H2 s2 n=>k v H2 (s1.trans s2) (n.back s1)
 | false=>rw[if_neg A8]at q2 ⊢;cases q2;~k _ H1 s1 (.jJ rfl (by B4 Rv;rfl))⟩
B5 aGk(h:XR K X a ta f)(h2:XN K X (.BoolOp .Or (b::rest) pos) tb g):XN K X (.BoolOp .Or (a::b::rest) pos) (aIT ta tb) (Wu f g):=⟨h.hk,aIU h.pe h2.pe,fun σ H e d Q re q k=>by
 B4 Wu at q
 B3⟨c,q1,q2⟩:=bA q
 &h.ev σ H H e _ _ (Zn.self K H) re (Jq q1) fun v H1 Z1 s1 t1 z1 rv=>?_
 B4 Rv at rv
 &⟨c,rv,?_⟩
 cases c with
 | false=>rw[if_neg A8]at q2 ⊢;~h2.ev σ H1 e d Q (re.same s1) q2 fun v H2 s2 n=>k v H2 (s1.trans s2) (n.back s1)
 | true=>rw[if_pos rfl]at q2 ⊢;cases q2;~k _ H1 s1 (.jJ rfl (by B4 Rv;rfl))⟩
B5 aHI(h:XR K X a ta f):XN K X (.UnaryOp .Not a pos) (aF0 ta) (RB f):=⟨h.hk,aG0 h.pe,fun σ H e d Q re q k=>by
 B4 RB at q
 B3⟨c,q1,rfl⟩:=lY q
 &h.ev σ H H e _ _ (Zn.self K H) re (Jq q1) fun v H1 Z1 s1 t1 z1 rv=>?_
 B4 Rv at rv
 ~⟨c,rv,k _ H1 s1 (.jJ rfl (by B4 Rv;rfl))⟩⟩
def fIf(c:FT)(f g:FE):FE:=fun e=>(c e).bind fun b=>if b=true then f e else g e
B5 aGm(hc:XT K X c tc fc)(ha:XN K X a ta f)(hb:XN K X b tb g):XN K X (.IfExp c a b pos) (tIf tc ta tb) (fIf fc f g):=⟨ha.hk,aBp hc.pt ha.pe hb.pe,fun σ H e d Q re q k=>by
 B4 fIf at q
 B3⟨c,q1,q2⟩:=bA q
 &hc.ev σ H e c _ re q1 fun H1 s1=>?_
 cases c with
 | true=>rw[if_pos rfl]at q2 ⊢;~ha.ev σ H1 e d Q (re.same s1) q2 fun v H2 s2 n=>k v H2 (s1.trans s2) (n.back s1)
 | false=>rw[if_neg A8]at q2 ⊢;~hb.ev σ H1 e d Q (re.same s1) q2 fun v H2 s2 n=>k v H2 (s1.trans s2) (n.back s1)⟩
B5 aHJ(ha:XR K X a ta f):XN K X (.UnaryOp .USub a pos) (tUn (rU fun i=>.int (-i)) ta) (fun e=>(f e).bind fun d=>match d with | .int i=>some (.int (-i)) | _=>none):=⟨ha.hk,aI2 aHc ha.pe,fun σ H e d Q re q k=>by
 B3⟨c,q1,q2⟩:=bA q
 split at q2
 ·rename_i i
  cases q2
  &ha.ev σ H H e _ _ (Zn.self K H) re q1 fun v H1 Z1 s1 t1 z1 rv=>?_
  B4 Rv at rv
  ~⟨i,rv,k _ H1 s1 (.jJ rfl (by B4 Rv;rfl))⟩
 ·cases q2⟩
def fL(φ:List D→Option D)(fs:FA):FE:=fun e=>(fs e).bind φ
def Ay(K:aJ)(r:List V→Hp→VK→Prop)(φ:List D→Option D):Prop:=∀(vs:List V)(H:Hp)(ds:List D)(d:D)(Q:VK),fQ K H ds vs→φ ds=some d →
 (∀v H',aV H H'→Wt K H H' d v→Q v H')→r vs H Q
B5 aGn{r:List V→Hp→VK→Prop}{φ:List D→Option D}(o:Ay K r φ)(h:EvA K tA fs):Wk K (tCB r tA) (fL φ fs):=fun σ H e d Q re q k=>by
 B3⟨ds,q1,q2⟩:=bA q
 ~h σ H H e ds _ (Zn.self K H) re q1 fun vs H1 Z1 s1 t1 z1 rs=>o vs H1 ds d Q (z1.sm.uq _ _ rs) q2 fun v H2 s2 n=>k v H2 (s1.trans s2) (n.back s1)
B5 fV{r:List V→Hp→VK→Prop}{φ:List D→Option D}{x:Str}{id:String}{p:Pos}(o:Ay K r φ)(hc:oJ X (.builtin id) r)(hg:Gl X x)(hm:X.mg x=none)(hv:bootBuiltins x=some (.builtin id))(ha:XA K X (e::es) tA fs)(hn:x ≠ "__name__" := by decide) (hdb:(x==("__debug__" : Str))=false:=by decide)
  (he:starEach (e::es) X.env=(false,eval e X.env)::starEach es X.env:=by rfl) (hpl:(backTo pos (starEach es X.env)).any (·.1)=false:=by rfl):XN K X (.Call (.Name x p) (e::es) [] pos) (tCB r tA) (fL φ fs):=⟨ha.hk,QD hc hg hm hv ha.pa hn hdb he hpl,aGn o ha.ev⟩
B5 Bw{r:List V→Hp→VK→Prop}{φ:List D→Option D}{x:Str}{id:String}{p:Pos}(o:Ay K r φ)(hc:oJ X (.type id) r)(hg:Gl X x)(hm:X.mg x=none)(hv:bootBuiltins x=some (.type id))(ha:XA K X (e::es) tA fs)(hn:x ≠ "__name__" := by decide) (hdb:(x==("__debug__" : Str))=false:=by decide)
  (he:starEach (e::es) X.env=(false,eval e X.env)::starEach es X.env:=by rfl) (hpl:(backTo pos (starEach es X.env)).any (·.1)=false:=by rfl):XN K X (.Call (.Name x p) (e::es) [] pos) (tCB r tA) (fL φ fs):=⟨ha.hk,aAj hc hg hm hv ha.pa hn hdb he hpl,aGn o ha.ev⟩
B5 uT{H:Hp}{d:D}{vs:List V}(h:fQ K H [d] vs):∃v,vs=[v]∧Rv K H d v:=by
 B4 fQ at h
 B3⟨y,ys,rfl,h1,h2⟩:=h
 B4 fQ at h2
 subst h2
 ~⟨y,rfl,h1⟩
B5 iy{H:Hp}{d d':D}{vs:List V}(h:fQ K H [d,d'] vs):∃v v',vs=[v,v']∧Rv K H d v∧Rv K H d' v':=by
 B4 fQ at h
 B3⟨y,ys,rfl,h1,h2⟩:=h
 B3⟨v,rfl,h3⟩:=uT h2
 ~⟨y,v,rfl,h1,h3⟩
def kO:List D→Option D
 | [d]=>(Bf d).map fun ds=>.int ds.length
 | _=>none
def aJo(K:aJ):List V→Hp→VK→Prop:=fun xs H Q=>∃p ys,xs=[.ref p]∧(rJ K H p ys∨yV K H p ys)∧Q (.int ys.length) H
B5 eX:Ay K (aJo K) kO:=fun vs H ds d Q rs q k=>by
 B4 kO at q
 split at q
 ·rename_i d0
  B3⟨es,q1,rfl⟩:=lY q
  B3⟨v,rfl,r⟩:=uT rs
  B3⟨p,xs,rfl,r2,r3⟩:=Ra q1 r
  &⟨p,xs,rfl,r2,k _ H (aV.refl _) (.jJ rfl ?_)⟩
  rw[r3.length];B4 Rv;rfl
 ·cases q
B5 eY(hk:X.K=K):oJ X (.builtin "len") (aJo K):=by subst hk;~DY
def dList:List D→Option D
 | [d]=>(Bf d).bind fun ds=>if D.fU ds=true then some (.lst ds)else none
 | _=>none
def aGo(K:aJ):List V→Hp→VK→Prop:=fun xs H Q=>∃p ys,xs=[.ref p]∧(rJ K H p ys∨yV K H p ys)∧∀l,H l=none→Q (.ref l) (upd H l (.lst ys))
B5 zF:Ay K (aGo K) dList:=fun vs H ds d Q rs q k=>by
 B4 dList at q
 split at q
 ·rename_i d0
  B3⟨es,q1,q2⟩:=bA q
  split at q2
  ·rename_i hi
   cases q2
   B3⟨v,rfl,r⟩:=uT rs
   B3⟨p,xs,rfl,r2,r3⟩:=Ra q1 r
   ~⟨p,xs,rfl,r2,fun l hl=>k _ _ (dI hl _) (wD (aV.refl _) (.fU hi r3) hl)⟩
  ·cases q2
 ·cases q
B5 zG(hk:X.K=K):oJ X (.type "list") (aGo K):=by subst hk;~EY
def Tw:List D→Option D
 | [.dk ks ds]=>some (.lst (ks.map kD))
 | _=>none
B5 Yp:∀ks:List Key,D.fU (ks.map kD)=true
 | []=>by rw[G6];B4 D.fU;rfl
 | k::ks=>by rw[D3];B4 D.fU;rw[Yp ks];cases k<;>(B4 kD D.jJ;rfl)
B5 RC{H:Hp}:∀ks:List Key,fQ K H (ks.map kD) (ks.map kV)
 | []=>by rw[G6,G6];B4 fQ;rfl
 | k::ks=>by rw[D3,D3];B4 fQ;~⟨_,_,rfl,by cases k<;>(B4 kD kV Rv;rfl),RC ks⟩
def aHK:List V→Hp→VK→Prop:=fun xs H Q=>∃p kvs,xs=[.ref p]∧Rd H p (.dK kvs)∧∀l,H l=none→Q (.ref l) (upd H l (.lst (kvs.map fun kv=>kV kv.1)))
B5 aB9{ks:List Key}{xs:List V}(h:ks.length=xs.length):((ks.zip xs).map fun kv=>kV kv.1)=ks.map kV:=by
 have:((ks.zip xs).map fun kv=>kV kv.1)=((ks.zip xs).map Prod.fst).map kV:=by rw[K7];rfl
 rw[this,j5 A6]
B5 RD:Ay K aHK Tw:=fun vs H ds d Q rs q k=>by
 B4 Tw at q
 split at q
 ·rename_i ks es
  cases q
  B3⟨v,rfl,r⟩:=uT rs
  B4 Rv at r
  B3⟨p,xs,rfl,r2,r3,r4⟩:=r
  &⟨p,_,rfl,r2,fun l hl=>?_⟩
  rw[aB9 r3]
  ~k _ _ (dI hl _) (wD (aV.refl _) (.fU (Yp ks) (RC ks)) hl)
 ·cases q
def Mm:List D→Option D
 | [d]=>(Bf d).bind fun ds=>if D.fU ds=true then some (.tup ds)else none
 | _=>none
def aCa(K:aJ):List V→Hp→VK→Prop:=fun xs H Q=>∃p ys,xs=[.ref p]∧((rJ K H p ys∧∀l,H l=none→Q (.ref l) (upd H l (.tup ys)))∨(yV K H p ys∧Q (.ref p) H))
B5 RG:Ay K (aCa K) Mm:=fun vs H ds d Q rs q k=>by
 B4 Mm at q
 split at q
 ·rename_i d0
  B3⟨es,q1,q2⟩:=bA q
  split at q2
  ·rename_i hi
   cases q2
   B3⟨v,rfl,r⟩:=uT rs
   B3⟨p,xs,rfl,r2,r3⟩:=Ra q1 r
   &⟨p,xs,rfl,?_⟩
   rcases r2 with r2 | r2
   ·~.inl ⟨r2,fun l hl=>k _ _ (dI hl _) (GX (.fU hi r3) hl)⟩
   ·~.inr ⟨r2,k _ H (aV.refl _) (.jJ (by B4 D.jJ;~hi) (by B4 Rv;~⟨p,xs,rfl,r2,r3⟩))⟩
  ·cases q2
 ·cases q
B5 RJ(hk:X.K=K):oJ X (.type "tuple") (aCa K):=by subst hk;~Wo
def intsOf:List D→Option (List Int)
 | []=>some []
 | .int i::ds=>(intsOf ds).map (i::·)
 | _=>none
B5 mC:∀ns:List Int,intsOf (ns.map D.int)=some ns
 | []=>rfl
 | n::ns=>by rw[D3];B4 intsOf;rw[mC ns];rfl
B5 sJ:∀{ds:List D} {ns:List Int},intsOf ds=some ns→ds=ns.map D.int
 | [],ns,h=>by B4 intsOf at h;cases h;rfl
 | d::ds,ns,h=>by
  cases d with
  | int i=>
   B4 intsOf at h
   B3⟨ms,h1,rfl⟩:=lY h
   rw[D3,←sJ h1]
  | _=>B4 intsOf at h;cases h
B5 kW{H:Hp}:∀{ns:List Int} {xs:List V},fQ K H (ns.map D.int) xs↔xs=ns.map V.int
 | [],xs=>by rw[G6,G6];B4 fQ;rfl
 | n::ns,xs=>by
  rw[D3,D3]
  B4 fQ
  constructor
  ·rintro⟨y,ys,rfl,h1,h2⟩
   B4 Rv at h1
   rw[h1,kW.mp h2]
  ·rintro rfl
   ~⟨_,_,rfl,by B4 Rv;rfl,kW.mpr rfl⟩
B5 cY:∀ns:List Int,D.fU (ns.map D.int)=true
 | []=>by rw[G6];B4 D.fU;rfl
 | n::ns=>by rw[D3];B4 D.fU D.jJ;rw[cY ns];rfl
B5 By{H:Hp}{ds:List D}{ns:List Int}{v:V}(h:intsOf ds=some ns)(r:Rv K H (.lst ds) v):∃p,v=.ref p∧rJ K H p (ns.map V.int):=by
 rw[sJ h]at r
 B4 Rv at r
 B3⟨p,xs,r1,r2,r3⟩:=r
 rw[kW.mp r3]at r2
 ~⟨p,r1,r2⟩
def sortI(ns:List Int):List Int:=ns.mergeSort fun a b=>decide (a≤b)
B5 iV(ns:List Int):rising ns (sortI ns):=⟨List.mergeSort_perm _ _,by
 have h:=List.pairwise_mergeSort (le:=fun a b:Int=>decide (a≤b)) (fun a b c h1 h2=>decide_eq_true (Int.le_trans (of_decide_eq_true h1) (of_decide_eq_true h2))) (fun a b=>by
  rw[k7,decide_eq_true_iff,decide_eq_true_iff];~Int.le_total a b) ns
 ~h.imp fun h=>of_decide_eq_true h⟩
B5 Yq:∀{l m:List Int},l.Pairwise (·≤·)→m.Pairwise (·≤·)→l.Perm m→l=m
  | [],m,_,_,p=>(List.Perm.nil_eq p)
  | a::l,[],_,_,p=>absurd p.symm (by simp)
  | a::l,b::m,h1,h2,p=>by
    B3⟨h1a,h1b⟩:=I0.mp h1
    B3⟨h2a,h2b⟩:=I0.mp h2
    have e:a=b:=by
      have q1:a∈b::m:=p.mem_iff.mp D6
      have q2:b∈a::l:=p.mem_iff.mpr D6
      rcases D5.mp q1 with q1 | q1
      · ~q1
      · rcases D5.mp q2 with q2 | q2
        · ~q2.symm
        · have:=h1a b q2
          have:=h2a a q1
          omega
    subst e
    rw[Yq h1b h2b (List.Perm.cons_inv p)]
B5 HD{ns ms:List Int}(h:rising ns ms):ms=sortI ns:=Yq h.2 (iV ns).2 (h.1.trans (iV ns).1.symm)
def Rb:List D→Option D
 | [.lst ds]=>(intsOf ds).bind fun ns=>if ns.length<64 then some (.lst ((sortI ns).map D.int))else none
 | _=>none
def uv(K:aJ):List V→Hp→VK→Prop:=fun xs H Q=>∃(p:Addr)(ns:List Int),xs=[.ref p]∧rJ K H p (ns.map V.int)∧ns.length<64∧∀l ms,H l=none→rising ns ms→Q (.ref l) (upd H l (.lst (ms.map V.int)))
B5 aAv:Ay K (uv K) Rb:=fun vs H ds d Q rs q k=>by
 B4 Rb at q
 split at q
 ·B3⟨ns,q1,q2⟩:=bA q
  split at q2
  ·rename_i hl
   cases q2
   B3⟨v,rfl,r⟩:=uT rs
   B3⟨p,rfl,r2⟩:=By q1 r
   &⟨p,ns,rfl,r2,hl,fun l ms hl hr=>?_⟩
   rw[HD hr]
   ~k _ _ (dI hl _) (wD (aV.refl _) (.fU (cY _) (kW.mpr rfl)) hl)
  ·cases q2
 ·cases q
B5 aAw(hk:X.K=K):oJ X (.builtin "sorted") (uv K):=by subst hk;~QS
def Gi:List D→Option (List Bool)
 | []=>some []
 | .bl i::ds=>(Gi ds).map (i::·)
 | _=>none
B5 RK{H:Hp}:∀{ds:List D} {bs:List Bool} {xs:List V},Gi ds=some bs→fQ K H ds xs→xs=bs.map V.bl
 | [],bs,xs,h,r=>by B4 Gi at h;cases h;B4 fQ at r;~r
 | d::ds,bs,xs,h,r=>by
  cases d with
  | bl i=>
   B4 Gi at h
   B3⟨cs,h1,rfl⟩:=lY h
   B4 fQ at r
   B3⟨y,ys,rfl,r1,r2⟩:=r
   B4 Rv at r1
   rw[r1,RK h1 r2]
   rfl
  | _=>B4 Gi at h;cases h
B5 Yr{α:Type}(p:α→Bool):∀l:List α,Gi (l.map fun x=>D.bl (p x))=some (l.map p)
 | []=>rfl
 | a::l=>by rw[D3];B4 Gi;rw[Yr p l];rfl
def iz:List D→Option D
 | [.lst ds]=>(Gi ds).map fun bs=>.bl (bs.all id)
 | _=>none
def aJp(K:aJ):List V→Hp→VK→Prop:=fun xs H Q=>∃(p:Addr)(bs:List Bool),xs=[.ref p]∧rJ K H p (bs.map V.bl)∧Q (.bl (bs.all id)) H
B5 aEZ{H:Hp}{ds:List D}{bs:List Bool}{v:V}(h:Gi ds=some bs)(r:Rv K H (.lst ds) v):∃p,v=.ref p∧rJ K H p (bs.map V.bl):=by
 B4 Rv at r
 B3⟨p,xs,r1,r2,r3⟩:=r
 rw[RK h r3]at r2
 ~⟨p,r1,r2⟩
B5 HF:Ay K (aJp K) iz:=fun vs H ds d Q rs q k=>by
 B4 iz at q
 split at q
 ·B3⟨bs,q1,rfl⟩:=lY q
  B3⟨v,rfl,r⟩:=uT rs
  B3⟨p,rfl,r2⟩:=aEZ q1 r
  ~⟨p,bs,rfl,r2,k _ H (aV.refl _) (.jJ rfl (by B4 Rv;rfl))⟩
 ·cases q
B5 HH(hk:X.K=K)(hc:X.calm=true:=by rfl):oJ X (.builtin "all") (aJp K):=by subst hk;~aBZ hc
def RL:List D→Option D
 | [.int i,.int j]=>some (.int (if j > i then j else i))
 | _=>none
def aLu:List D→Option D
 | [.int i,.int j]=>some (.int (if j<i then j else i))
 | _=>none
B5 aE0:Ay K (fun xs H Q=>∃i j,xs=[.int i,.int j]∧Q (.int (if j > i then j else i)) H) RL:=fun vs H ds d Q rs q k=>by
 B4 RL at q
 split at q
 ·cases q
  B3⟨v,w,rfl,r1,r2⟩:=iy rs
  B4 Rv at r1 r2
  ~⟨_,_,by rw[r1,r2],k _ H (aV.refl _) (.jJ rfl (by B4 Rv;rfl))⟩
 ·cases q
def RM:List Int→Int
 | []=>0
 | [a]=>a
 | a::b::l=>let m:=RM (b::l);if m<a then m else a
B5 Hi:∀{ns:List Int},0<ns.length→Qz ns (RM ns)
 | [],h=>absurd h (by simp)
 | [a],_=>⟨E3.mpr rfl,fun b hb=>by rw[E3.mp hb];~S5 _⟩
 | a::b::l,_=>by
  B3⟨h1,h2⟩:=Hi (ns:=b::l) (by simp)
  B4 RM
  dsimp only
  split
  ·rename_i c
   &⟨C8 _ h1,fun x hx=>?_⟩
   rcases D5.mp hx with q | q
   ·omega
   ·~h2 x q
  ·rename_i c
   &⟨D6,fun x hx=>?_⟩
   rcases D5.mp hx with q | q
   ·omega
   ·have:=h2 x q;omega
B5 Tz{ns:List Int}{m:Int}(h:Qz ns m):m=RM ns:=by
 B3⟨h1,h2⟩:=Hi (List.length_pos_of_mem h.1)
 have:=h.2 _ h1
 have:=h2 _ h.1
 omega
def uw:List D→Option D
 | [.lst ds]=>(intsOf ds).bind fun ns=>if 0<ns.length then some (.int (RM ns))else none
 | _=>none
def aGp(K:aJ):List V→Hp→VK→Prop:=fun xs H Q=>∃(p:Addr)(ns:List Int),xs=[.ref p]∧rJ K H p (ns.map V.int)∧0<ns.length∧∀m,Qz ns m→Q (.int m) H
B5 aE1:Ay K (aGp K) uw:=fun vs H ds d Q rs q k=>by
 B4 uw at q
 split at q
 ·B3⟨ns,q1,q2⟩:=bA q
  split at q2
  ·rename_i hl
   cases q2
   B3⟨v,rfl,r⟩:=uT rs
   B3⟨p,rfl,r2⟩:=By q1 r
   &⟨p,ns,rfl,r2,hl,fun m hm=>?_⟩
   rw[Tz hm]
   ~k _ H (aV.refl _) (.jJ rfl (by B4 Rv;rfl))
  ·cases q2
 ·cases q
B5 aE2(hk:X.K=K)(hc:X.calm=true:=by rfl):oJ X (.builtin "min") (aGp K):=by subst hk;~aAt hc
end
end L2


namespace L2
open PySem PySem.Spec PyProof.Rows
section
variable{K:aJ}{X:Cx}{e a b c:Expr}{es rest:List Expr}{t ta tb:TE}{f g:FE}{tA:TA}{fs:FA}{pos:Pos}{tc:TT}{fc fd:FT}{td:TT}
abbrev FO:=DE→Option (Option Int)
def EvO(K:aJ)(t:TO)(f:FO):Prop:=∀(σ:St)(H:Hp)(e:DE)(o:Option Int)(Q:Option Int→Hp→Prop),Fq K H e σ→f e=some o→(∀H',aV H H'→Q o H')→t σ H Q
structure XO(K:aJ)(X:Cx)(e:Option Expr)(t:TO)(f:FO):Prop where
 po:PO X e t
 ev:EvO K t f
def jb:FO:=fun _=>some none
def tK(f:FE):FO:=fun e=>(f e).bind fun d=>match d with | .int i=>some (some i) | _=>none
B5 aE3:XO K X none uc jb:=⟨aEt,fun σ H e o Q re q k=>by cases q;~k H (aV.refl _)⟩
B5 HJ(h:XR K X e t f):XO K X (some e) (aF9 t) (tK f):=⟨aEu h.pe,fun σ H e o Q re q k=>by
 B4 tK at q
 B3⟨d,q1,q2⟩:=bA q
 split at q2
 ·rename_i i
  cases q2
  &h.ev σ H H e _ _ (Zn.self K H) re q1 fun v H1 Z1 s1 t1 z1 rv=>?_
  B4 Rv at rv
  ~⟨i,rv,k H1 s1⟩
 ·cases q2⟩
def Fw{α:Type}(xs:List α)(lo hi:Option Int):List α:=(xs.drop (HT.Wm xs.length 0 lo)).take (HT.Wm xs.length xs.length hi-HT.Wm xs.length 0 lo)
B5 fQ.drop{H:Hp}:∀{ds:List D} {xs:List V} (n:Nat),fQ K H ds xs→fQ K H (ds.drop n) (xs.drop n)
 | ds,xs,0,h=>h
 | [],xs,n+1,h=>by B4 fQ at h;subst h;simp;B4 fQ;rfl
 | d::ds,xs,n+1,h=>by B4 fQ at h;B3⟨y,ys,rfl,_,h2⟩:=h;simpa using fQ.drop n h2
B5 fQ.take{H:Hp}:∀{ds:List D} {xs:List V} (n:Nat),fQ K H ds xs→fQ K H (ds.take n) (xs.take n)
 | ds,xs,0,h=>by simp;B4 fQ;rfl
 | [],xs,n+1,h=>by B4 fQ at h;subst h;simp;B4 fQ;rfl
 | d::ds,xs,n+1,h=>by B4 fQ at h;B3⟨y,ys,rfl,h1,h2⟩:=h;rw[c8,c8];B4 fQ;~⟨y,_,rfl,h1,fQ.take n h2⟩
B5 ux{H:Hp}{ds:List D}{xs:List V}(lo hi:Option Int)(h:fQ K H ds xs):fQ K H (Fw ds lo hi) (fj xs lo hi):=by
 B4 Fw fj
 rw[h.length]
 ~(h.drop _).take _
def fSl(jJ:Bool)(f:FE)(l h:FO):FE:=fun e=>(f e).bind fun d=>(l e).bind fun lo=>(h e).bind fun hi=>match d with
 | .lst ds=>if jJ=false∨D.fU (Fw ds lo hi)=true then some (.lst (Fw ds lo hi))else none
 | _=>none
B5 RN{jJ:Bool}{f:FE}{l h:FO}{e:DE}{d:D}(q:fSl jJ f l h e=some d):∃ds lo hi,f e=some (.lst ds)∧l e=some lo∧h e=some hi∧(jJ=false∨D.fU (Fw ds lo hi)=true)∧d=.lst (Fw ds lo hi):=by
 B4 fSl at q
 B3⟨d0,q1,q⟩:=bA q
 B3⟨lo,q2,q⟩:=bA q
 B3⟨hi,q3,q⟩:=bA q
 split at q
 ·split at q
  ·rename_i c;cases q;~⟨_,lo,hi,q1,q2,q3,c,rfl⟩
  ·cases q
 ·cases q
B5 uy(hk:X.K=K):SlR X (aEy K):=by subst hk;~aEz
variable{lo hi:Option Expr}{tl th:TO}{fl fh:FO}{p2:Pos}
B5 aCb(h:XR K X e t f)(hl:XO K X lo tl fl)(hu:XO K X hi th fh):XR K X (.Subscript e (.Slice lo hi none p2) pos) (tSl (aEy K) t tl th) (fSl false f fl fh):=⟨h.hk,QF (uy h.hk) h.pe hl.po hu.po,fun σ H Z e d Q z re q k=>by
 B3⟨ds,lo,hi,q1,q2,q3,_,rfl⟩:=RN q
 &h.ev σ H Z e _ _ z re q1 fun v H1 Z1 s1 t1 z1 rv=>hl.ev σ H1 e lo _ (re.same (z.sm.trans s1)) q2 fun H2 s2=>hu.ev σ H2 e hi _ (re.same (z.sm.trans (s1.trans s2))) q3 fun H3 s3=>?_
 have z3:=GQ z1 (s2.trans s3)
 have t3:aV Z1 (GP Z1 H1 H3):=Mf z1
 B4 Rv at rv
 B3⟨p,xs,rfl,r2,r3⟩:=rv
 &⟨p,xs,rfl,z3.sm.seq (t3.seq r2),fun l hl=>?_⟩
 B3⟨a1,a2⟩:=aB5 (o:=.lst (fj xs lo hi)) z3 hl
 ~k _ _ _ (s1.trans (s2.trans (s3.trans (dI hl _)))) (t1.trans (t3.trans a1)) a2 (by B4 Rv;~⟨l,_,rfl,rJ.of cM,a1.uq _ _ (t3.uq _ _ (ux lo hi r3))⟩)⟩
B5 aCc(h:XR K X e t f)(hl:XO K X lo tl fl)(hu:XO K X hi th fh):XN K X (.Subscript e (.Slice lo hi none p2) pos) (tSl (aEy K) t tl th) (fSl true f fl fh):=⟨h.hk,QF (uy h.hk) h.pe hl.po hu.po,fun σ H e d Q re q k=>by
 B3⟨ds,lo,hi,q1,q2,q3,qi,rfl⟩:=RN q
 &h.ev σ H H e _ _ (Zn.self K H) re q1 fun v H1 Z1 s1 t1 z1 rv=>hl.ev σ H1 e lo _ (re.same s1) q2 fun H2 s2=>hu.ev σ H2 e hi _ (re.same (s1.trans s2)) q3 fun H3 s3=>?_
 have rv3:=(z1.sm.trans (s2.trans s3)).rv _ _ rv
 B4 Rv at rv3
 B3⟨p,xs,rfl,r2,r3⟩:=rv3
 &⟨p,xs,rfl,r2,fun l hl=>?_⟩
 have HN:=s1.trans (s2.trans s3)
 ~k _ _ (HN.trans (dI hl _)) (wD HN (.fU (qi.resolve_left A8) (ux lo hi r3)) hl)⟩
def aCd(K:aJ):R2:=fun x y H Q=>∃l b xs zs,x=.ref l∧y=.ref b∧rJ K H l xs∧rJ K H b zs∧xs.length+zs.length≤sizeLine∧∀p,H p=none→Q (.ref p) (upd H p (.lst (xs++zs)))
B5 aE4(hk:X.K=K):xR X (binaryOp .Add) (aCd K):=by
 subst hk
 intro pins s σ H x y v u Q I rx ry h
 B3⟨l,b,xs,zs,rfl,rfl,h1,h2,hz,q⟩:=h
 cases rx
 cases ry
 B3⟨its,r,pl,_⟩:=I.list h1
 B3⟨its2,r2,QT,_⟩:=I.list h2
 B3⟨⟨cl,dd,da,sl⟩,ho,hc,n,hd⟩:=pl.isList
 B3⟨⟨cl2,dd2,da2,sl2⟩,ho2,hc2,n2,hd2⟩:=QT.isList
 dsimp only at hc hd hc2 hd2
 subst hc hd hc2 hd2
 have hlen:its.toArray.size+its2.toArray.size≤sizeLine:=by rw[C6,C6,←r.length,←r2.length];~hz
 have ea:its.toArray++its2.toArray=(its++its2).toArray:=by simp
 &concat_meets ⟨_,ho,rfl⟩ ⟨_,ho2,rfl⟩ noFill_list_add seq_list_add PySem.F.slot_list_add PySem.F.entry_list_add (PySem.F.args_list_add_2 _ _)
  (list_addW l b its.toArray its2.toArray n n2 dd dd2 sl sl2 hlen) ⟨ho,ho2,?_⟩
 rw[ea]
 ~⟨.ref _,_,I.aJc (t':=s.toks) (r.append r2) (by rw[C7];~hz),rfl,q _ I.fresh⟩
def eU(a b:D):Option D:=match a,b with
 | .int i,.int j=>some (.int (i+j))
 | .lst x,.lst y=>if D.fU (x++y)=true∧x.length+y.length≤100000 then some (.lst (x++y))else none
 | _,_=>none
B5 fQ.append{H:Hp}:∀{ds es:List D} {xs ys:List V},fQ K H ds xs→fQ K H es ys→fQ K H (ds++es) (xs++ys)
 | [],es,xs,ys,h,h'=>by B4 fQ at h;subst h;~h'
 | d::ds,es,xs,ys,h,h'=>by B4 fQ at h;B3⟨y,yt,rfl,h1,h2⟩:=h;rw[N7,N7];B4 fQ;~⟨y,_,rfl,h1,fQ.append h2 h'⟩
B5 aE5:OD K (fun x y H Q=>rI0 (fun i j=>.int (i+j)) x y H Q∨aCd K x y H Q) eU:=fun x y H a b d Q ra rb q k=>by
 B4 eU at q
 split at q
 ·cases q;B4 Rv at ra rb;~.inl ⟨_,_,ra,rb,k _ H (aV.refl _) (.jJ rfl (by B4 Rv;rfl))⟩
 ·split at q
  ·rename_i c
   cases q
   B4 Rv at ra rb
   B3⟨p,xs,rfl,r2,r3⟩:=ra
   B3⟨p',xs',rfl,r2',r3'⟩:=rb
   &.inr ⟨p,p',xs,xs',rfl,rfl,r2,r2',Yn (by rw[r3.length,r3'.length];~c.2),fun l hl=>?_⟩
   ~k _ _ (dI hl _) (wD (aV.refl _) (.fU c.1 (r3.append r3')) hl)
  ·cases q
 ·cases q
B5 cG(ha:XR K X a ta f)(hb:XR K X b tb g):XN K X (.BinOp a .Add b pos) (Xx (fun x y H Q=>rI0 (fun i j=>.int (i+j)) x y H Q∨aCd K x y H Q) ta tb) (f2 eU f g):=Tp (aG7.or (aE4 ha.hk)) aE5 ha hb
def EvI(K:aJ)(wi:TI)(fi:FA):Prop:=∀{N:Fp}(σ:St)(H Z:Hp)(e:DE)(ds:List D)(R:It→Hp→Prop),Zn K N Z H→Fq K Z e σ→fi e=some ds →
 (∀J H' Z' P vs,aV H H'→aV Z Z'→Zn K N Z' H'→JIs J P vs→(∀H2,aV Z' H2→P H2)→fQ K Z' ds vs→R J H')→wi σ H R
structure XI(K:aJ)(X:Cx)(tg iter:Expr)(wi:TI)(fi:FA):Prop where
 hk:X.K=K
 pi:PI X tg iter wi
 ev:EvI K wi fi
def mW(f:FE):FA:=fun e=>(f e).bind Bf
def aHL(K:aJ)(t:TE):TI:=fun σ H R=>aF5 K t σ H R∨aIZ K t σ H R
B5 mX{tg:Expr}(h:XR K X e t f):XI K X tg e (aHL K t) (mW f):=⟨h.hk,by
 have hk:=h.hk
 subst hk
 ~fun pins s σ H R I q=>q.elim (rn h.pe pins s σ H R I) (aBw h.pe pins s σ H R I),fun σ H Z e ds R z re q k=>by
 B4 mW at q
 B3⟨d,q1,q2⟩:=bA q
 cases d with
 | lst es=>
  B4 Bf at q2;cases q2
  &.inl (h.ev σ H Z e _ _ z re q1 fun v H1 Z1 s1 t1 z1 rv=>?_)
  B4 Rv at rv
  B3⟨p,xs,rfl,r2,r3⟩:=rv
  ~⟨p,rfl,⟨xs,z1.sm.seq r2⟩,k _ H1 Z1 _ xs s1 t1 z1 QR (fun H2 s=>s.seq r2) r3⟩
 | tup es=>
  B4 Bf at q2;cases q2
  &.inr (h.ev σ H Z e _ _ z re q1 fun v H1 Z1 s1 t1 z1 rv=>?_)
  B4 Rv at rv
  B3⟨p,xs,rfl,r2,r3⟩:=rv
  ~⟨p,rfl,⟨xs,z1.sm.tup r2⟩,k _ H1 Z1 _ xs s1 t1 z1 aEP (fun H2 s=>s.tup r2) r3⟩
 | _=>B4 Bf at q2;cases q2⟩
def jO(lo:Int)(n:Nat):List D:=(D4 n).map fun i:Nat=>D.int (lo+(i:Int))
B5 Ef{H:Hp}(lo:Int)(n:Nat):fQ K H (jO lo n) ((D4 n).map fun i:Nat=>V.int (lo+(i:Int))):=by
 B4 jO
 &fQ.of (by simp) fun i d x h1 h2=>?_
 rw[B9]at h1 h2
 cases q:(D4 n)[i]? with
 | none=>rw[q]at h1;cases h1
 | some j=>rw[q]at h1 h2;cases h1;cases h2;B4 Rv;rfl
def lim(i:Int):Bool:=decide (-100000≤i∧i≤100000)
def sO(fs:FA):FA:=fun e=>(fs e).bind fun ds=>match ds with
 | [.int n]=>if lim n=true then some (jO 0 n.toNat)else none
 | _=>none
def Gj(fs:FA):FA:=fun e=>(fs e).bind fun ds=>match ds with
 | [.int i,.int j]=>if lim i=true∧lim j=true then some (jO i (j-i).toNat)else none
 | _=>none
B5 Mq{i:Int}(h:lim i=true):-100000≤i∧i≤100000:=of_decide_eq_true h
B5 Eg{tg:Expr}{p:Pos}(hg:Gl X "range") (hm:X.mg "range" = none) (ha:XA K X [a] tA fs) (hs:starEach [a] X.env=[(false,eval a X.env)]:=by rfl):XI K X tg (.Call (.Name "range" p) [a] [] pos) (aBx tA) (sO fs):=⟨ha.hk,Xw hg hm ha.pa hs,fun σ H Z e ds R z re q k=>by
 B4 sO at q
 B3⟨es,q1,q2⟩:=bA q
 split at q2
 ·rename_i n
  split at q2
  ·rename_i hl
   cases q2
   have hl:=Mq hl
   &ha.ev σ H Z e _ _ z re q1 fun vs H1 Z1 s1 t1 z1 rs=>?_
   B3⟨v,rfl,r⟩:=uT rs
   B4 Rv at r
   subst r
   ~⟨n,rfl,by omega,by omega,k _ H1 Z1 _ _ s1 t1 z1 Ea (fun _ _=>True.intro) (Ef 0 n.toNat)⟩
  ·cases q2
 ·cases q2⟩
def tW(e:DE)(fr:List Nat):DE:=fr.map fun i=>(e[i]?).getD none
B5 aE6{H:Hp}{e:DE}{σ:St}{fr:List Nat}{d:D}{x:V}(re:Fq K H e σ)(r:Rv K H d x):Fq K H (some d::tW e fr) (some x::gq σ fr):=fun i d' h=>by
 cases i with
 | zero=>simp at h;subst h;~⟨x,rfl,r⟩
 | succ i=>
  rw[List.getElem?_cons_succ]at h ⊢
  B4 tW at h
  B4 gq
  rw[B9]at h ⊢
  cases q:fr[i]? with
  | none=>rw[q]at h;cases h
  | some j=>
   rw[q]at h
   have h:(e[j]?).getD none=some d':=F5 h
   have h2:e[j]?=some (some d'):=by
    cases q2:e[j]? with
    | none=>rw[q2]at h;cases h
    | some o=>rw[q2]at h;rw[show o=some d' from h]
   B3⟨v,h3,h4⟩:=re j d' h2
   &⟨v,?_,h4⟩
   show some (σ.getD j none)=_
   rw[B8,h3]
   rfl
def pR(c:D→Option Bool)(el:D→Option D):List D→Option (List D)
 | []=>some []
 | x::xs=>(c x).bind fun b=>if b=true then(el x).bind fun y=>(pR c el xs).map (y::·)else pR c el xs
def gU(fi:FA)(fr:List Nat)(fc:FT)(fe:FE):FE:=fun e=>(fi e).bind fun xs=>if xs.length≤100000 then(pR (fun x=>fc (some x::tW e fr)) (fun x=>fe (some x::tW e fr)) xs).map D.lst else none
B5 uU{H:Hp}{p:Addr}{o:HO}(n:Aw H p):Gz K H (upd H p o):=fun a xs h=>h.upd n
B5 uz{wi:TI}{fi:FA}{fr:List Nat}{te:TE}{fe:FE}(hi:EvI K wi fi)(hc:iu K tc fc)(he:Wk K te fe):Wk K (QM wi 1 fr (lW 0) tc te) (gU fi fr fc fe):=by
 intro σ H e d Q re q k
 B4 gU at q
 B3⟨xs,q1,q⟩:=bA q
 split at q
 ·rename_i hlen
  B3⟨ds,q2,rfl⟩:=lY q
  &hi σ H H e xs _ (Zn.self K H) re q1 fun J H1 Z1 P vs s1 t1 z1 hJ hP rvs=>?_
  intro D0 hD
  have hl:=rvs.length
  have hHD:H D0=none:=s1.free hD
  generalize hcc:(fun x=>fc (some x::tW e fr))=cc at q2
  generalize hel:(fun x=>fe (some x::tW e fr))=el at q2
  &⟨fun i m ys H2=>∃ds1 ds2 A,m=vs.length-i∧i≤vs.length∧ds=ds1++ds2∧pR cc el (xs.drop i)=some ds2∧aV H1 H2∧H2 D0=some (.lst ys)∧eQ K H2 ds1 A ys∧(∀a,A a→H1 a=none∧a≠D0)∧ys.length≤i,
   ⟨vs.length,[],ds,nil,by simp,M0 _,rfl,by simpa using q2,dI hD _,cM,by B4 eQ;~⟨fun _ z=>z,rfl⟩,fun _ z=>z.elim,C5 _⟩,?_⟩
  rintro i m ys H2 ⟨ds1,ds2,A,rfl,hi',hds,hcl,s2,hD2,ow,fr2,hyl⟩
  B3⟨j1,j2,j3⟩:=hJ i H2 (hP H2 (z1.sm.trans s2))
  &⟨hD2,?_⟩
  by_cases hlt:i<vs.length
  ·&.inr ⟨j1 hlt,fun x H' y=>?_⟩
   B3⟨e1,ex⟩:=j2 x H' y
   subst e1
   have hx:=ex hlt
   have hxi:i<xs.length:=by omega
   have hxs:xs.drop i=xs[i]::xs.drop (i+1):=O2 hxi
   B3⟨x',hx',rx⟩:=rvs.get (B7 hxi)
   rw[hx]at hx'
   cases hx'
   rw[hxs]at hcl
   B4 pR at hcl
   B3⟨bb,c1,c2⟩:=bA hcl
   show Kp 1 σ fr (some x::gq σ fr)∧_
   &⟨⟨by simp[blk],fun j v hv=>?_⟩,?_⟩
   ·cases j with
    | zero=>simp[blk]at hv
    | succ j=>simpa[blk]using hv
   have re2:Fq K H' (some xs[i]::tW e fr) (some x::gq σ fr):=aE6 (re.same (s1.trans s2)) ((z1.sm.trans s2).rv _ _ rx)
   &hc _ H' _ bb _ re2 (by rw[←hcc]at c1;~c1) fun H3 s3=>?_
   have hD3:=s3 _ _ hD2
   cases bb with
   | false=>
    rw[if_neg A8]at c2 ⊢
    ~⟨vs.length-(i+1),by omega,ds1,ds2,A,rfl,by omega,hds,c2,s2.trans s3,hD3,ow.same s3,fr2,by omega⟩
   | true=>
    rw[if_pos rfl]at c2 ⊢
    B3⟨dy,c3,c4⟩:=bA c2
    B3⟨ds3,c5,rfl⟩:=lY c4
    &he _ H3 _ dy _ (re2.same s3) (by rw[←hel]at c3;~c3) fun yv H4 s4 n4=>?_
    have hD4:=s4 _ _ hD3
    &⟨hD4,Yo A6,vs.length-(i+1),by omega,ds1++[dy],ds3,?_⟩
    B3⟨B,oB,fB⟩:=n4
    have hB:∀a,B a→H1 a=none∧a≠D0:=fun a qa=>⟨(s2.trans s3).free (fB a qa),fun z=>by have q0:=fB a qa;rw[z,hD3]at q0;cases q0⟩
    &⟨gB A B,rfl,by omega,by rw[hds];simp,c5,fun b o eb=>?_,cM,?_,fun a qa=>qa.elim (fr2 a) (hB a),by rw[C7];simp;~hyl⟩
    ·rw[bN (gK eb hD)]
     ~(s2.trans (s3.trans s4)) b o eb
    ·have o4:=(ow.same s3).same s4
     have ap:Apart A B:=fun a qa qb=>by
      B3⟨⟨u,eu⟩,_⟩:=eQ.cells _ _ _ (ow.same s3) a qa
      rw[fB a qb]at eu;cases eu
     have all:eQ K H4 (ds1++[dy]) (gB A B) (ys++[yv]):=cZ.mpr ((cZ.mp o4).snoc oB ap)
     ~eQ.frame (uU (xW hD4)) _ _ _ all fun a qa=>bN (qa.elim (fun z=>(fr2 a z).2) fun z=>(hB a z).2)
  ·have ei:i=vs.length:=by omega
   subst ei
   have:xs.drop vs.length=[]:=List.drop_eq_nil_of_le A6
   rw[this]at hcl
   B4 pR at hcl
   cases hcl
   rw[F3]at hds
   subst hds
   &.inl ⟨j3 (C5 _),k _ H2 (s1.trans s2) ⟨gB (·=D0) A,?_,fun a qa=>qa.elim (fun z=>by cases z;~hHD) fun z=>s1.free (fr2 a z).1⟩⟩
   B4 Ow
   ~⟨D0,ys,A,rfl,hD2,fun z=>(fr2 D0 z).2 rfl,fun _=>Iff.rfl,ow⟩
 ·cases q
def lG:FT:=fun _=>some true
structure XTs(K:aJ)(X:Cx)(ifs:List Expr)(t:TT)(f:FT):Prop where
 pts:PTs X ifs t
 ev:iu K t f
B5 nJ:XTs K X [] aJg lG:=⟨aEJ,fun σ H e b Q re q k=>by cases q;~k H (aV.refl _)⟩
B5 Eh(h:XT K X c tc fc):XTs K X [c] tc fc:=⟨aEK h.pt,h.ev⟩
B5 mD{tg elt iter:Expr}{ifs:List Expr}{scope:Scope}{wi:TI}{fi:FA}{te:TE}{fe:FE}(N:List Str)(fr:List Nat)(hcalm:X.calm=true)(B:mG X.env.scope scope X.N N 1 fr)(hi:XI K X tg iter wi fi)
  (hg:∀cl fp s H C,PG (mK X scope N cl fp s H C) tg (lW 0)) (hc:∀cl fp s H C,XTs K (mK X scope N cl fp s H C) ifs tc fc) (he:∀cl fp s H C,XN K (mK X scope N cl fp s H C) elt te fe)
  (hs:∀x,foldedSetIterable iter X.env x=pure x:=by intro _;rfl):XN K X (.ListComp elt [⟨tg,iter,ifs,0⟩] scope pos) (QM wi 1 fr (lW 0) tc te) (gU fi fr fc fe):=
 ⟨hi.hk,aEN N 1 fr hcalm B hi.pi hg (fun cl fp s H C=>(hc cl fp s H C).pts) (fun cl fp s H C=>(he cl fp s H C).pe) hs,
  uz hi.ev (hc [] [] X.s₀ X.H₀ 0).ev (he [] [] X.s₀ X.H₀ 0).ev⟩
def gW(K:aJ)(n:Nat)(F:List D→Option D):Sp:=fun vs H Q _=>∃ds d,ds.length=n∧fQ K H ds vs∧F ds=some d∧∀v H',aV H H'→Wt K H H' d v→Q v H'
def cN(n:Nat)(F:List D→Option D)(fs:FA):FE:=fun e=>(fs e).bind fun ds=>if ds.length=n then F ds else none
B5 bZ{x:Str}{k n:Nat}{F:List D→Option D}{p:Pos}(C:lN X.prog X.w X.K X.mg X.base x k n (gW K n F))(hr:lA k X.A)(hg:Gl X x)(ha:XA K X (e::es) tA fs)(hdb:(x==("__debug__" : Str))=false:=by decide)
  (he:starEach (e::es) X.env=(false,eval e X.env)::starEach es X.env:=by rfl) (hpl:(backTo pos (starEach es X.env)).any (·.1)=false:=by rfl):XN K X (.Call (.Name x p) (e::es) [] pos) (Sd (gW K n F) [] E0 tA) (cN n F fs):=
 ⟨ha.hk,il C hr hg ha.pa hdb he hpl,fun σ H e d Q re q k=>by
  B4 cN at q
  B3⟨ds,q1,q2⟩:=bA q
  split at q2
  ·rename_i hl
   &call_of (ha.ev σ H H e ds _ (Zn.self K H) re q1 fun vs H1 Z1 s1 t1 z1 rs=>?_)
   ~⟨ds,d,hl,z1.sm.uq _ _ rs,q2,fun v H2 s2 n=>k v H2 (s1.trans s2) (n.back s1)⟩
  ·cases q2⟩
end
end L2


namespace L2
open PySem PySem.Spec PyProof.Rows
inductive SD where
  | no | fro (d:D) | own (d:D) | inn (v:V) (d:D)
def SD.z:SD→Option D
 | .fro d=>some d
 | .own d=>if d.jJ=true then some d else none
 | .inn _ d=>if d.jJ=true then some d else none
 | .no=>none
def SD.r:SD→Option D
 | .fro d=>some d
 | .own d=>some d
 | .inn _ d=>some d
 | .no=>none
abbrev EN:=List SD
def zE(env:EN):DE:=env.map SD.z
def rE(env:EN):DE:=env.map SD.r
def gG(K:aJ)(H Z:Hp):SD→Fp→Option V→Prop
 | .no,A,_=>None A
 | .fro d,A,y=>None A∧∃v,y=some v∧Rv K Z d v
 | .own d,A,y=>∃v,y=some v∧Ow K H d A v
 | .inn v d,A,y=>y=some v∧Ow K H d A v
def Rel(K:aJ)(B:Hp)(env:EN)(σ:St)(H:Hp):Prop:=∃A,eO (gG K H (out H A)) env A σ∧aV B (out H A)
section
variable{K:aJ}{B B' H H' Z Z':Hp}{env:EN}{σ:St}{A:Fp}
B5 eO.all{α β:Type}{R:α→Fp→β→Prop}{Pr:Addr→Prop}:∀{ds:List α} {A:Fp} {ys:List β},eO R ds A ys→(∀d B y,R d B y→∀a,B a→Pr a)→∀a,A a→Pr a
 | [],A,ys,h,_,a,q=>absurd q (h.1 a)
 | d::ds,A,ys,⟨y,yt,A1,A2,h1,h2,h3,h4,h5⟩,m,a,q=>((h3 a).mp q).elim (m _ _ _ h4 a) (eO.all h5 m a)
B5 gG.cells{s:SD}{y:Option V}(h:gG K H Z s A y):∀a,A a→nZ H a:=by
 cases s with
 | no=>~fun a q=>absurd q (h a)
 | fro d=>~fun a q=>absurd q (h.1 a)
 | own d=>B3⟨v,_,o⟩:=h;~Ow.cells d A v o
 | inn v d=>~Ow.cells d A v h.2
B5 lO(h:eO (gG K H Z) env A σ):∀a,A a→nZ H a:=eO.all h fun _ _ _ q=>q.cells
B5 Rel.len(h:Rel K B env σ H):σ.length=env.length:=let ⟨_,s,_⟩:=h;s.len
B5 Rel.mono(h:Rel K B' env σ H)(s:aV B B'):Rel K B env σ H:=let ⟨A,a,b⟩:=h;⟨A,a,s.trans b⟩
B5 cH{A A':Fp}(s:aV H H')(h:∀a,A' a→A a∨H a=none):aV (out H A) (out H' A'):=fun b o e=>by
 B3⟨e1,e2⟩:=bG.mp e
 &bG.mpr ⟨fun q=>?_,s b o e2⟩
 rcases h b q with q | q
 ·~e1 q
 ·rw[q]at e2;cases e2
B5 gG.same{s:SD}{y:Option V}(h:gG K H Z s A y)(e:aV H H')(z:aV Z Z'):gG K H' Z' s A y:=by
 cases s with
 | no=>~h
 | fro d=>B3⟨h1,v,h2,h3⟩:=h;~⟨h1,v,h2,z.rv _ _ h3⟩
 | own d=>B3⟨v,h1,h2⟩:=h;~⟨v,h1,h2.same e⟩
 | inn v d=>~⟨h.1,h.2.same e⟩
B5 Rel.same(h:Rel K B env σ H)(s:aV H H'):Rel K B env σ H':=by
 B3⟨A,a,b⟩:=h
 have g:aV (out H A) (out H' A):=cH s fun a q=>.inl q
 ~⟨A,a.mono fun e C z _ q=>q.same s g,b.trans g⟩
B5 HQ(h:eO (gG K H (out H A)) env A σ):Zn K A (out H A) H:=⟨mU H A,Tg fun a q=>(lO h a q).2,fun a q=>⟨by
 B4 out;rw[if_pos q],fun z=>by B3⟨⟨o,e⟩,_⟩:=lO h a q;rw[z]at e;cases e⟩⟩
B5 Rel.r(h:Rel K B env σ H):Fq K H (rE env) σ:=fun i d q=>by
 B3⟨A,a,b⟩:=h
 B4 rE at q
 rw[B9]at q
 cases e:env[i]? with
 | none=>rw[e]at q;cases q
 | some s=>
  rw[e]at q
  B3⟨y,A1,C,h1,h2,h3,h4,_⟩:=a.focus e
  cases s with
  | no=>cases q
  | fro d0=>cases q;B3⟨_,v,rfl,h5⟩:=h4;~⟨v,h1,(mU H A).rv _ _ h5⟩
  | own d0=>cases q;B3⟨v,rfl,h5⟩:=h4;~⟨v,h1,Ow.rv _ _ _ h5⟩
  | inn v d0=>cases q;B3⟨rfl,h5⟩:=h4;~⟨v,h1,Ow.rv _ _ _ h5⟩
B5 aJq(a:eO (gG K H (out H A)) env A σ):Fq K (out H A) (zE env) σ:=fun i d q=>by
 B4 zE at q
 rw[B9]at q
 cases e:env[i]? with
 | none=>rw[e]at q;cases q
 | some s=>
  rw[e]at q
  B3⟨y,A1,C,h1,h2,h3,h4,_⟩:=a.focus e
  cases s with
  | no=>cases q
  | fro d0=>cases q;B3⟨_,v,rfl,h5⟩:=h4;~⟨v,h1,h5⟩
  | own d0=>
   B3⟨v,rfl,h5⟩:=h4
   have q:(if d0.jJ=true then some d0 else none)=some d:=F5 q
   split at q
   ·rename_i im
    cases q
    ~⟨v,h1,(Bu _ v im (Ow.rv _ _ _ h5)).out (fun _ z=>z.elim) fun x hx=>(lO a x hx).2⟩
   ·cases q
  | inn v d0=>
   B3⟨rfl,h5⟩:=h4
   have q:(if d0.jJ=true then some d0 else none)=some d:=F5 q
   split at q
   ·rename_i im
    cases q
    ~⟨v,h1,(Bu _ v im (Ow.rv _ _ _ h5)).out (fun _ z=>z.elim) fun x hx=>(lO a x hx).2⟩
   ·cases q
B5 Rel.own{i:Nat}{d:D}{v:V}(h:Rel K B env σ H)(hi:i<env.length)(s:aV H H')(n:Wt K H H' d v):Rel K B (env.set i (.own d)) (σ.set i (some v)) H':=by
 B3⟨A,a,b⟩:=h
 B3⟨N,o,f⟩:=n
 have cl:=lO a
 B3⟨y,A1,C,h1,h2,h3,h4,k⟩:=a.focus (B7 hi)
 have g:aV (out H A) (out H' (gB N C)):=cH s fun x q=>q.elim (fun q=>.inr (f x q)) fun q=>.inl ((h3 x).mpr (.inr q))
 &⟨gB N C,k (gG K H' (out H' (gB N C))) (fun e D z _ q=>q.same s g) (.own d) (some v) N (fun x q c=>?_) ⟨v,rfl,o⟩,b.trans g⟩
 B3⟨⟨u,e⟩,_⟩:=cl x ((h3 x).mpr (.inr c))
 rw[f x q]at e;cases e
B5 HR{i:Nat}{d:D}{v:V}(a:eO (gG K H (out H A)) env A σ)(b:aV B (out H A))(hi:i<env.length)(s:aV H H')(t:aV (out H A) Z')(z:Zn K A Z' H')(r:Rv K Z' d v):Rel K B (env.set i (.fro d)) (σ.set i (some v)) H':=by
 B3⟨y,A1,C,h1,h2,h3,h4,k⟩:=a.focus (B7 hi)
 have hC:∀x,gB nil C x→A x:=fun x q=>q.elim False.elim fun q=>(h3 x).mpr (.inr q)
 have g:aV (out H A) (out H' (gB nil C)):=cH s fun x q=>.inl (hC x q)
 have g2:aV Z' (out H' (gB nil C)):=fun x o e=>bG.mpr ⟨fun q=>(by rw[(z.no x (hC x q)).1]at e;cases e),z.sm x o e⟩
 ~⟨gB nil C,k (gG K H' (out H' (gB nil C))) (fun e D z _ q=>q.same s g) (.fro d) (some v) nil (fun x q c=>q) ⟨fun _ z=>z,v,rfl,g2.rv _ _ r⟩,b.trans g⟩
def aCe(env:EN)(j:Nat):EN:=match env[j]? with
 | some (.own d)=>env.set j (.fro d)
 | _=>env
def Jg(js:List Nat)(env:EN):EN:=js.foldl aCe env
B5 set_same{α:Type}{l:List α}{i:Nat}{x:α}(h:l[i]?=some x):l.set i x=l:=by
 apply K1
 intro j
 rw[F7]
 by_cases c:i=j
 ·subst c
  rw[if_pos rfl,h]
  split
  ·rfl
  ·rename_i q;rw[E2 A6]at h;cases h
 ·rw[if_neg c]
B5 Rel.aCe{j:Nat}(h:Rel K B env σ H):Rel K B (aCe env j) σ H:=by
 B4 L2.aCe
 cases e:env[j]? with
 | none=>~h
 | some s=>
  cases s with
  | no=>~h
  | fro d=>~h
  | inn v d=>~h
  | own d=>
   B3⟨A,a,b⟩:=h
   have cl:=lO a
   B3⟨y,A1,C,h1,h2,h3,h4,k⟩:=a.focus e
   B3⟨v,rfl,o⟩:=h4
   have g:aV (out H A) (out H (gB nil C)):=cH (aV.refl _) fun x q=>q.elim False.elim fun q=>.inl ((h3 x).mpr (.inr q))
   have:=k (gG K H (out H (gB nil C))) (fun e D z _ q=>q.same (aV.refl _) g) (.fro d) (some v) nil (fun x q c=>q)
    ⟨fun _ z=>z,v,rfl,o.out (fun x q c=>h2 x q (c.elim False.elim id)) fun x q=>(cl x ((h3 x).mpr (.inr (q.elim False.elim id)))).2⟩
   rw[set_same h1]at this
   ~⟨gB nil C,this,b.trans g⟩
B5 Rel.Jg{js:List Nat}(h:Rel K B env σ H):Rel K B (Jg js env) σ H:=by
 B4 L2.Jg
 induction js generalizing env with
 | nil=>~h
 | cons j js ih=>~ih h.aCe
end
inductive SR where
  | next (env:EN) | ret (d:D) | brk (env:EN) | cont (env:EN) | bad | rete (d:D) (env:EN)
def Wv(K:aJ)(B:Hp)(E:Ends):SR→Prop
 | .next env=>∀σ H,Rel K B env σ H→E.nx σ H
 | .ret d=>∀v H A,aV B (out H A)→Ow K H d A v→E.rt v H
 | .brk env=>∀σ H,Rel K B env σ H→E.bk σ H
 | .cont env=>∀σ H,Rel K B env σ H→E.ct σ H
 | .bad=>False
 | .rete d env=>∀v σ H,Rel K B (env++[.own d]) (σ++[some v]) H→E.rt v H
B5 Wv.mono{K:aJ}{B B':Hp}{E:Ends}{r:SR}(h:Wv K B E r)(s:aV B B'):Wv K B' E r:=by
 cases r with
 | next env=>~fun σ H q=>h σ H (q.mono s)
 | ret d=>~fun v H A q=>h v H A (s.trans q)
 | brk env=>~fun σ H q=>h σ H (q.mono s)
 | cont env=>~fun σ H q=>h σ H (q.mono s)
 | bad=>~h
 | rete d env=>~fun v σ H q=>h v σ H (q.mono s)
abbrev GS:=EN→SR
def DS(K:aJ)(t:TS)(g:GS):Prop:=∀(B:Hp)(E:Ends)(σ:St)(H:Hp)(env:EN),Rel K B env σ H→Wv K B E (g env)→t E σ H
def aJr(K:aJ)(B:Hp)(E:Ends)(σ:St):SR→Prop
 | .next env=>∀H,Rel K B env σ H→E.nx σ H
 | r=>Wv K B E r
def DSs(K:aJ)(t:TS)(g:GS):Prop:=∀(B:Hp)(E:Ends)(σ:St)(H:Hp)(env:EN),Rel K B env σ H→aJr K B E σ (g env)→t E σ H
B5 DSs.ds{K:aJ}{t:TS}{g:GS}(h:DSs K t g):DS K t g:=fun B E σ H env r p=>h B E σ H env r (by
 cases q:g env with
 | next e=>rw[q]at p;~fun H' r'=>p σ H' r'
 | ret d=>rw[q]at p;~p
 | brk e=>rw[q]at p;~p
 | cont e=>rw[q]at p;~p
 | bad=>rw[q]at p;~p
 | rete d e=>rw[q]at p;~p)
structure YS(K:aJ)(X:Cx)(st:Stmt)(t:TS)(g:GS):Prop where
 ps:PS X st t
 ev:DS K t g
structure YB(K:aJ)(X:Cx)(st:List Stmt)(t:TS)(g:GS):Prop where
 ps:bh X st t
 ev:DS K t g
section
variable{K:aJ}{X:Cx}{st:Stmt}{sts:List Stmt}{t u:TS}{g g1 g2:GS}{e a b c:Expr}{te ta tb:TE}{f fa fb:FE}{tc:TT}{fc:FT}{pos:Pos}
def aW(g1 g2:GS):GS:=fun env=>match g1 env with
 | .next env'=>g2 env'
 | r=>r
B5 aHM(h1:DS K t g1)(h2:DS K u g2):DS K (aG1 t u) (aW g1 g2):=fun B E σ H env r p=>by
 B4 aW at p
 &h1 B {E with nx:=u E} σ H env r ?_
 cases q:g1 env with
 | next env'=>rw[q]at p;~fun σ' H' r'=>h2 B E σ' H' env' r' p
 | ret d=>rw[q]at p;~p
 | brk d=>rw[q]at p;~p
 | cont d=>rw[q]at p;~p
 | bad=>rw[q]at p;~p
 | rete d e=>rw[q]at p;~p
def gH:GS:=fun env=>.next env
B5 fM:YB K X [] aF1 gH:=⟨aEf,fun B E σ H env r p=>p σ H r⟩
B5 aU(h:YS K X st t g):YB K X [st] t g:=⟨aEg h.ps,h.ev⟩
B5 aL(h:YS K X st t g1)(h2:YB K X sts u g2):YB K X (st::sts) (aG1 t u) (aW g1 g2):=⟨aBq h.ps h2.ps,aHM h.ev h2.ev⟩
def cU(i:Nat)(f:FE):GS:=fun env=>match f (rE env)with
 | some d=>if i<env.length then .next (env.set i (.own d))else .bad
 | none=>.bad
B5 aCf{i:Nat}(h:Wk K te f):DS K (Bm te (lW i)) (cU i f):=fun B E σ H env r p=>by
 B4 cU at p
 split at p
 ·rename_i d q
  split at p
  ·rename_i hi
   ~h σ H (rE env) d _ r.r q fun v H' s n=>p _ _ (r.own hi s n)
  ·~p.elim
 ·~p.elim
B5 bK{i:Nat}{x:Str}{pos':Pos}(h:XN K X e te f)(hp:PE X e te→PS X (.Assign [.Name x pos'] e pos) (Bm te (lW i))):YS K X (.Assign [.Name x pos'] e pos) (Bm te (lW i)) (cU i f):=⟨hp h.pe,aCf h.ev⟩
def gO(f:FE):GS:=fun env=>match f (rE env)with
 | some d=>.ret d
 | none=>.bad
B5 cA(h:XN K X e te f):YS K X (.Return (some e) pos) (zy te) (gO f):=⟨Ru h.pe,fun B E σ H env r p=>by
 B4 gO at p
 split at p
 ·rename_i d q
  &h.ev σ H (rE env) d _ r.r q fun v H' s ⟨N,o,fr⟩=>p v H' N (fun x u ex=>?_) o
  B3⟨A,a,b⟩:=r
  have h1:=(bG.mp (b x u ex)).2
  ~bG.mpr ⟨fun z=>(by rw[fr x z]at h1;cases h1),s x u h1⟩
 ·~p.elim⟩
def Oz(i:Nat):GS:=fun env=>match env[i]? with
 | some (.own d)=>.ret d
 | some (.fro d)=>if d.jJ=true then .ret d else .bad
 | _=>.bad
B5 HS{i:Nat}(h:PE X e (sE i)):YS K X (.Return (some e) pos) (zy (sE i)) (Oz i):=⟨Ru h,fun B E σ H env r p=>by
 B4 Oz at p
 B3⟨A,a,b⟩:=r
 split at p
 ·rename_i d q
  B3⟨y,A1,C,h1,h2,h3,h4,_⟩:=a.focus q
  B3⟨v,rfl,o⟩:=h4
  ~⟨v,h1,p v H A1 (b.trans (cH (aV.refl _) fun x z=>.inl ((h3 x).mpr (.inl z)))) o⟩
 ·rename_i d q
  split at p
  ·rename_i im
   B3⟨y,A1,C,h1,h2,h3,h4,_⟩:=a.focus q
   B3⟨_,v,rfl,rv⟩:=h4
   ~⟨v,h1,p v H nil (b.trans (cH (aV.refl _) fun x z=>z.elim)) (Bu d v im ((mU H A).rv _ _ rv))⟩
  ·~p.elim
 ·~p.elim⟩
def xZ(f:FE):GS:=fun env=>match f (rE env)with
 | some _=>.next env
 | none=>.bad
B5 aE7(h:Ls K te f):DS K (oH te) (xZ f):=fun B E σ H env r p=>by
 B4 xZ at p
 split at p
 ·rename_i d q
  ~h σ H H (rE env) d _ (Zn.self K H) r.r q fun v H' Z' s t z rv=>p _ _ (r.same s)
 ·~p.elim
def uV(f:FT)(g1 g2:GS):GS:=fun env=>match f (rE env)with
 | some true=>g1 env
 | some false=>g2 env
 | none=>.bad
B5 jK{s1 s2:List Stmt}(hc:XT K X c tc fc)(h1:YB K X s1 t g1)(h2:YB K X s2 u g2):YS K X (.If c s1 s2 pos) (aG2 tc t u) (uV fc g1 g2):=⟨aF2 hc.pt h1.ps h2.ps,fun B E σ H env r p=>by
 B4 uV at p
 split at p
 ·rename_i q
  &hc.ev σ H (rE env) true _ r.r q fun H' s=>?_
  rw[if_pos rfl]
  ~h1.ev B E σ H' env (r.same s) p
 ·rename_i q
  &hc.ev σ H (rE env) false _ r.r q fun H' s=>?_
  rw[if_neg A8]
  ~h2.ev B E σ H' env (r.same s) p
 ·~p.elim⟩
def Mr(i:Nat)(g:GS):List D→EN→SR
 | [],env=>.next env
 | x::xs,env=>if i<env.length then match g (env.set i (.fro x))with
   | .next env'=>Mr i g xs env'
   | .cont env'=>Mr i g xs env'
   | .brk env'=>.next env'
   | r=>r
  else .bad
def Ww(js:List Nat)(i:Nat)(fi:FA)(g:GS):GS:=fun env=>match fi (zE (Jg js env))with
 | some xs=>Mr i g xs (Jg js env)
 | none=>.bad
B5 aHN{js:List Nat}{i:Nat}{wi:TI}{fi:FA}{tb:TS}(hi:EvI K wi fi)(h:DS K tb g):DS K (cu wi (lW i) tb) (Ww js i fi g):=fun B E σ H env r p=>by
 B4 Ww at p
 have r':Rel K B (Jg js env) σ H:=r.Jg
 generalize Jg js env=Qi at r' p
 split at p
 ·rename_i xs q
  B3⟨A,a,b⟩:=r'
  &hi σ H (out H A) (zE Qi) xs _ (HQ a) (aJq a) q fun J H1 Z1 P vs s t z hJ hP rvs=>?_
  have hl:=rvs.length
  have g0:aV Z1 (out H1 A):=fun x o e=>bG.mpr ⟨fun qa=>(by rw[(z.no x qa).1]at e;cases e),z.sm x o e⟩
  have aKM:Rel K Z1 Qi σ H1:=⟨A,a.mono fun e D y _ qq=>qq.same s (cH s fun x q=>.inl q),g0⟩
  have bz:aV B Z1:=b.trans t
  have p':=p.mono bz
  &GD hJ (fun k σ2 H2=>∃fW,Rel K Z1 fW σ2 H2∧Wv K Z1 E (Mr i g (xs.drop k) fW)) ⟨Qi,aKM,by simpa using p'⟩ (fun k σ2 H2 _ ⟨fW,⟨A2,a2,b2⟩,_⟩=>hP H2 (b2.trans (mU H2 A2))) ?_ ?_
  ·rintro k x σ2 H2 hx ⟨fW,r2,p2⟩
   have hk:k<xs.length:=by
    have:=D2.mp hx
    B3⟨h1,_⟩:=this
    omega
   rw[O2 hk]at p2
   B4 Mr at p2
   B3⟨x',hx',rx⟩:=rvs.get (B7 hk)
   rw[hx]at hx'
   cases hx'
   split at p2
   ·rename_i hlen
    B3⟨A2,a2,b2⟩:=r2
    have r3:Rel K Z1 (fW.set i (.fro xs[k])) (σ2.set i (some x)) H2:=HR a2 b2 hlen (aV.refl _) (aV.refl _) (HQ a2) (b2.rv _ _ rx)
    &h Z1 _ _ H2 _ r3 ?_
    split at p2
    ·rename_i env' q2;rw[q2];~fun σ' H' r'=>⟨env',r',p2⟩
    ·rename_i env' q2;rw[q2];~fun σ' H' r'=>⟨env',r',p2⟩
    ·rename_i env' q2;rw[q2];~p2
    ·rename_i n1 n2 n3
     cases q2:g (fW.set i (.fro xs[k]))with
     | next e=>~absurd q2 (n1 e)
     | cont e=>~absurd q2 (n2 e)
     | brk e=>~absurd q2 (n3 e)
     | ret d=>rw[q2]at p2;~p2
     | bad=>rw[q2]at p2;~p2
     | rete d e=>rw[q2]at p2;~p2
   ·~p2.elim
  ·rintro σ2 H2 ⟨fW,r2,p2⟩
   rw[hl,T3]at p2
   ~p2 σ2 H2 r2
 ·~p.elim
def qR(c:FT)(g:GS):Nat→EN→SR
 | 0,_=>.bad
 | n+1,env=>match c (rE env)with
  | some true=>(match g env with
   | .next env'=>qR c g n env'
   | .cont env'=>qR c g n env'
   | .brk env'=>.next env'
   | r=>r)
  | some false=>.next env
  | none=>.bad
B5 aCg{n:Nat}{tb:TS}(hc:iu K tc fc)(h:DS K tb g):DS K (bx tc tb) (qR fc g n):=fun B E σ H env r p=>by
 &⟨fun m σ2 H2=>∃fW,Rel K B fW σ2 H2∧Wv K B E (qR fc g m fW),⟨n,env,r,p⟩,?_⟩
 rintro m σ2 H2 ⟨fW,r2,p2⟩
 cases m with
 | zero=>~p2.elim
 | succ m=>
  B4 qR at p2
  split at p2
  ·rename_i q
   &hc σ2 H2 (rE fW) true _ r2.r q fun H3 s=>?_
   rw[if_pos rfl]
   &⟨fun σ' H'=>∃env',Rel K B env' σ' H'∧Wv K B E (qR fc g m env'),fun σ' H' ⟨env',a1,a2⟩=>⟨m,M7 m,env',a1,a2⟩,?_⟩
   &h B _ σ2 H3 fW (r2.same s) ?_
   split at p2
   ·rename_i env' q2;rw[q2];~fun σ' H' r'=>⟨env',r',p2⟩
   ·rename_i env' q2;rw[q2];~fun σ' H' r'=>⟨env',r',p2⟩
   ·rename_i env' q2;rw[q2];~p2
   ·rename_i n1 n2 n3
    cases q2:g fW with
    | next e=>~absurd q2 (n1 e)
    | cont e=>~absurd q2 (n2 e)
    | brk e=>~absurd q2 (n3 e)
    | ret d=>rw[q2]at p2;~p2
    | bad=>rw[q2]at p2;~p2
    | rete d e=>rw[q2]at p2;~p2
  ·rename_i q
   &hc σ2 H2 (rE fW) false _ r2.r q fun H3 s=>?_
   rw[if_neg A8]
   ~p2 σ2 H3 (r2.same s)
  ·~p2.elim
B5 HW{tg iter:Expr}{body:List Stmt}{wi:TI}{fi:FA}{tb:TS}{i:Nat}(js:List Nat)(hp:PassesOwn (model X.prog X.w) X.A X.env X.xe)(aCh:X.calm=true)(hi:XI K X tg iter wi fi)(hg:PG X tg (lW i))(hb:YB K X body tb g)
  (hs:∀x,foldedSetIterable iter X.env x=pure x:=by intro _;rfl):YS K X (.For tg iter body [] pos) (cu wi (lW i) tb) (Ww js i fi g):=⟨cz hp aCh hi.pi hg hb.ps hs,aHN hi.ev hb.ev⟩
B5 RP{body:List Stmt}{tb:TS}(n:Nat)(hp:PassesOwn (model X.prog X.w) X.A X.env X.xe)(hc:XT K X c tc fc)(hb:YB K X body tb g):YS K X (.While c body [] pos) (bx tc tb) (qR fc g n):=⟨aBu hp hc.pt hb.ps,aCg hc.ev hb.ev⟩
end
end L2


namespace L2
open PySem PySem.Spec PyProof.Rows
inductive Step where
  | ix (k:Nat) | key (k:Key) | fld (C:Addr) (f:Str)
def kids:D→List D
 | .lst ds=>ds
 | .dk _ ds=>ds
 | .ins _ _ ds=>ds
 | _=>[]
def Js:D→List D→D
 | .lst _,ds=>.lst ds
 | .dk ks _,ds=>.dk ks ds
 | .ins C nm _,ds=>.ins C nm ds
 | d,_=>d
def Fx:Step→D→Option Nat
 | .ix k,.lst ds=>some k
 | .key k,.dk ks _=>posK ks k
 | .fld C f,.ins C' nm _=>if C'=C then posK nm f else none
 | _,_=>none
def gC:List Step→D→Option D
 | [],d=>some d
 | s::p,d=>(Fx s d).bind fun j=>((kids d)[j]?).bind (gC p)
def fG:List Step→D→D→D
 | [],_,d'=>d'
 | s::p,d,d'=>match Fx s d with
  | some j=>(match (kids d)[j]? with
   | some c=>Js d ((kids d).set j (fG p c d'))
   | none=>d)
  | none=>d
def stepV(H:Hp)(s:Step)(v:V):Option V:=match v with
 | .ref a=>(match s,H a with
  | .ix k,some (.lst xs)=>xs[k]?
  | .key k,some (.dK kvs)=>tG kvs k
  | .fld C f,some (.ins C' _ fs)=>if C'=C then fs.lookup f else none
  | _,_=>none)
 | _=>none
def Qj(H:Hp):List Step→V→Option V
 | [],v=>some v
 | s::p,v=>(stepV H s v).bind (Qj H p)
B5 jc{H H':Hp}(e:aV H H'){s:Step}{v w:V}(h:stepV H s v=some w):stepV H' s v=some w:=by
 cases v with
 | ref a=>
  B4 stepV at h ⊢
  dsimp only at h ⊢
  cases q:H a with
  | none=>rw[q]at h;cases s<;>cases h
  | some o=>rw[e a o q];rw[q]at h;~h
 | _=>B4 stepV at h;cases h
B5 Ca{H H':Hp}(e:aV H H'):∀{p:List Step} {v w:V},Qj H p v=some w→Qj H' p v=some w
 | [],v,w,h=>h
 | s::p,v,w,h=>by
  B4 Qj at h ⊢
  B3⟨u,h1,h2⟩:=bA h
  rw[jc e h1]
  ~Ca e h2
B5 Hj{nm:List Str}{xs:List V}{f:Str}(h:nm.length=xs.length):(nm.zip xs).lookup f=(posK nm f).bind fun j=>xs[j]?:=by
 induction nm generalizing xs with
 | nil=>B4 posK;rfl
 | cons a nm ih=>
  cases xs with
  | nil=>simp at h
  | cons x xs=>
   have ih:=ih (xs:=xs) (by simpa using h)
   B4 posK
   rw[P2,T1]
   by_cases c:a=f
   ·subst c;simp
   ·have c2:(f==a)=false:=by
     rw[beq_eq_false_iff_ne];~fun z=>c z.symm
    rw[c2,if_neg c,ih]
    cases posK nm f<;>rfl
B5 Ow.kids{K:aJ}{H:Hp}{d:D}{A:Fp}{v:V}{s:Step}{j:Nat}(h:Ow K H d A v)(q:Fx s d=some j):∃xs T Bt,(∀x,xs[j]?=some x→stepV H s v=some x)∧eQ K H (kids d) Bt xs∧Is A (gB T Bt)∧Apart T Bt ∧
  ∀H' ds' B',ds'.length=(kids d).length→eQ K H' ds' B' xs→(∀a,T a→H' a=H a)→Apart T B'→Ow K H' (Js d ds') (gB T B') v:=by
 cases d with
 | lst ds=>
  B4 Ow at h
  B3⟨a,xs,B,rfl,h2,h3,h4,h5⟩:=h
  cases s with
  | ix k=>
   B4 Fx at q
   cases q
   &⟨xs,(·=a),B,fun x hx=>?_,h5,h4,fun x qx qb=>h3 (qx▸qb),fun H' ds' B' hl o f ap=>?_⟩
   ·B4 stepV;dsimp only;rw[h2];~hx
   ·show Ow K H' (.lst ds') _ _
    B4 Ow
    ~⟨a,xs,B',rfl,(f a rfl).trans h2,ap a rfl,fun _=>Iff.rfl,o⟩
  | _=>B4 Fx at q;cases q
 | dk ks ds=>
  B4 Ow at h
  B3⟨a,xs,B,rfl,h2,h2',h3,h4,h5⟩:=h
  cases s with
  | key k=>
   have q:posK ks k=some j:=q
   &⟨xs,(·=a),B,fun x hx=>?_,h5,h4,fun x qx qb=>h3 (qx▸qb),fun H' ds' B' hl o f ap=>?_⟩
   ·B4 stepV;dsimp only;rw[h2];show tG (ks.zip xs) k=_;rw[sI h2',q];~hx
   ·show Ow K H' (.dk ks ds') _ _
    B4 Ow
    ~⟨a,xs,B',rfl,(f a rfl).trans h2,h2',ap a rfl,fun _=>Iff.rfl,o⟩
  | _=>B4 Fx at q;cases q
 | ins C nm ds=>
  B4 Ow at h
  B3⟨a,dx,xs,B,rfl,h2,h2',h3,h3',h3'',h4,h5⟩:=h
  cases s with
  | fld C0 k=>
   have q:(if C=C0 then posK nm k else none)=some j:=q
   by_cases hc:C=C0
   rotate_left
   ·rw[if_neg hc]at q;cases q
   rw[if_pos hc]at q
   &⟨xs,(fun x=>x=a∨x=dx),B,fun x hx=>?_,h5,h4,fun x qx qb=>qx.elim (fun z=>h3' (z▸qb)) fun z=>h3'' (z▸qb),fun H' ds' B' hl o f ap=>?_⟩
   ·B4 stepV;dsimp only;rw[h2];show (if C=C0 then(nm.zip xs).lookup k else none)=_;rw[if_pos hc,Hj h3,q];~hx
   ·show Ow K H' (.ins C nm ds') _ _
    B4 Ow
    ~⟨a,dx,xs,B',rfl,(f a (.inl rfl)).trans h2,(f dx (.inr rfl)).trans h2',h3,ap a (.inl rfl),ap dx (.inr rfl),fun _=>Iff.rfl,o⟩
  | _=>B4 Fx at q;cases q
 | _=>cases s<;>(B4 Fx at q;cases q)
B5 Ow.at{K:aJ}{H:Hp}:∀{p:List Step} {d d1:D} {A:Fp} {v:V},Ow K H d A v→gC p d=some d1→∃w A1 C,Qj H p v=some w∧Apart A1 C∧Is A (gB A1 C)∧Ow K H d1 A1 w ∧
    ∀H' d' A',Apart A' C→(∀a,C a→H' a=H a)→Gz K H H'→Ow K H' d' A' w→Ow K H' (fG p d d') (gB A' C) v
  | [],d,d1,A,v,h,q=>by
    B4 gC at q
    cases q
    ~⟨v,A,nil,rfl,fun _ _ z=>z,fun x=>⟨.inl,fun z=>z.elim id False.elim⟩,h,fun H' d' A' _ _ _ o=>o.congr fun x=>⟨.inl,fun z=>z.elim id False.elim⟩⟩
  | s::p,d,d1,A,v,h,q=>by
    B4 gC at q
    B3⟨j,q1,q2⟩:=bA q
    B3⟨c,q3,q4⟩:=bA q2
    B3⟨xs,T,Bt,k1,k2,k3,k4,k5⟩:=h.kids q1
    B3⟨y,B1,C1,f1,f2,f3,f4,f5⟩:=(cZ.mp k2).focus q3
    B3⟨w,A1,C2,g1,g2,g3,g4,g5⟩:=Ow.at f4 q4
    &⟨w,A1,gB T (gB C1 C2),?_,?_,?_,g4,fun H' d' A' ap fr tk o=>?_⟩
    · B4 Qj
      rw[k1 y f1]
      ~g1
    · intro x qx qc
      have b1:B1 x:=(g3 x).mpr (.inl qx)
      rcases qc with qc | qc | qc
      · ~k4 x qc ((f3 x).mpr (.inl b1))
      · ~f2 x b1 qc
      · ~g2 x qx qc
    · intro x
      rw[k3 x]
      constructor
      · rintro(z | z)
        · ~.inr (.inl z)
        · rcases(f3 x).mp z with z | z
          · rcases(g3 x).mp z with z | z
            · ~.inl z
            · ~.inr (.inr (.inr z))
          · ~.inr (.inr (.inl z))
      · rintro(z | z | z | z)
        · ~.inr ((f3 x).mpr (.inl ((g3 x).mpr (.inl z))))
        · ~.inl z
        · ~.inr ((f3 x).mpr (.inr z))
        · ~.inr ((f3 x).mpr (.inl ((g3 x).mpr (.inr z))))
    · have o1:Ow K H' (fG p c d') (gB A' C2) y:=g5 H' d' A' (fun x a b=>ap x a (.inr (.inr b))) (fun a z=>fr a (.inr (.inr z))) tk o
      have ap1:Apart (gB A' C2) C1:=fun x a b=>a.elim (fun z=>ap x z (.inr (.inl b))) fun z=>f2 x ((g3 x).mpr (.inr z)) b
      have o2:=f5 (Ow K H') (fun e B z hb qq=>Ow.frame tk e B z qq fun a za=>fr a (.inr (.inl (hb a za)))) (fG p c d') y (gB A' C2) ap1 o1
      rw[set_same f1]at o2
      have o3:=k5 H' ((L2.kids d).set j (fG p c d')) _ (by rw[K9]) (cZ.mpr o2) (fun a z=>fr a (.inl z)) (fun x a b=>by
        rcases b with (b | b) | b
        · ~ap x b (.inl a)
        · ~k4 x a ((f3 x).mpr (.inl ((g3 x).mpr (.inr b))))
        · ~k4 x a ((f3 x).mpr (.inr b)))
      have e:fG (s::p) d d'=Js d ((L2.kids d).set j (fG p c d')):=by
        show (match Fx s d with | some j=>_ | none=>_)=_
        rw[q1]
        show (match (L2.kids d)[j]? with | some c=>_ | none=>_)=_
        rw[q3]
      rw[e]
      &o3.congr fun x=>?_
      show (T x∨(A' x∨C2 x)∨C1 x)↔(A' x∨T x∨C1 x∨C2 x)
      constructor
      · rintro(z | (z | z) | z)
        · ~.inr (.inl z)
        · ~.inl z
        · ~.inr (.inr (.inr z))
        · ~.inr (.inr (.inl z))
      · rintro(z | z | z | z)
        · ~.inr (.inl (.inl z))
        · ~.inl z
        · ~.inr (.inr z)
        · ~.inr (.inl (.inr z))
section
variable{K:aJ}{B H:Hp}{env:EN}{σ:St}
B5 Rel.at{i:Nat}{p:List Step}{d0 d:D}(h:Rel K B env σ H)(e:env[i]?=some (.own d0))(q:gC p d0=some d):∃v0 w A1 C,σ[i]?=some (some v0)∧Qj H p v0=some w∧Ow K H d A1 w∧Apart A1 C∧(∀a,C a→nZ H a) ∧
    ∀H' d' A',Apart A' C→(∀a,C a→H' a=H a)→Gz K H H'→Ow K H' d' A' w→aV (out H (gB A1 C)) (out H' (gB A' C))→Rel K B (env.set i (.own (fG p d0 d'))) σ H':=by
  B3⟨A,a,b⟩:=h
  have cl:=lO a
  B3⟨y,A1,C,h1,h2,h3,h4,k⟩:=a.focus e
  B3⟨v0,rfl,o⟩:=h4
  B3⟨w,B1,C1,g1,g2,g3,g4,g5⟩:=o.at q
  &⟨v0,w,B1,gB C1 C,h1,g1,g4,fun x z1 z2=>?_,fun x z=>?_,fun H' d' A' ap fr tk o' sm=>?_⟩
  · ~z2.elim (g2 x z1) (h2 x ((g3 x).mpr (.inl z1)))
  · ~cl x ((h3 x).mpr (z.elim (fun z=>.inl ((g3 x).mpr (.inr z))) .inr))
  · have o2:=g5 H' d' A' (fun x z1 z2=>ap x z1 (.inl z2)) (fun x z=>fr x (.inl z)) tk o'
    have ap2:Apart (gB A' C1) C:=fun x z1 z2=>z1.elim (fun z=>ap x z (.inr z2)) fun z=>h2 x ((g3 x).mpr (.inr z)) z2
    have hA:Is A (gB B1 (gB C1 C)):=fun x=>by
      rw[h3 x]
      constructor
      · rintro(z | z)
        · ~((g3 x).mp z).elim .inl fun z=>.inr (.inl z)
        · ~.inr (.inr z)
      · rintro(z | z | z)
        · ~.inl ((g3 x).mpr (.inl z))
        · ~.inl ((g3 x).mpr (.inr z))
        · ~.inr z
    have g:aV (out H A) (out H' (gB (gB A' C1) C)):=fun x u ex=>by
      B3⟨e1,e2⟩:=bG.mp ex
      have:=sm x u (bG.mpr ⟨fun z=>e1 ((hA x).mpr z),e2⟩)
      B3⟨e3,e4⟩:=bG.mp this
      ~bG.mpr ⟨fun z=>e3 (z.elim (fun z=>z.elim .inl fun z=>.inr (.inl z)) fun z=>.inr (.inr z)),e4⟩
    have s:=k (gG K H' (out H' (gB (gB A' C1) C))) (fun s D z hb qq=>by
      cases s with
      | no=>~qq
      | fro d=>B3⟨q1,v,q2,q3⟩:=qq;~⟨q1,v,q2,g.rv _ _ q3⟩
      | inn v d=>~⟨qq.1,Ow.frame tk _ _ _ qq.2 fun x zx=>fr x (.inr (hb x zx))⟩
      | own d=>B3⟨v,q1,q2⟩:=qq;~⟨v,q1,Ow.frame tk _ _ _ q2 fun x zx=>fr x (.inr (hb x zx))⟩) (.own (fG p d0 d')) (some v0) (gB A' C1) ap2 ⟨v0,rfl,o2⟩
    rw[set_same h1]at s
    ~⟨_,s,b.trans g⟩
B5 Rel.RQ{i:Nat}{p:List Step}{d0:D}{ds:List D}(h:Rel K B env σ H)(e:env[i]?=some (.own d0))(q:gC p d0=some (.lst ds)):∃v0 a xs Bs,σ[i]?=some (some v0)∧Qj H p v0=some (.ref a)∧H a=some (.lst xs)∧¬Bs a∧eQ K H ds Bs xs ∧
    ∀H2 ds' xs' Bn,aV H H2→eQ K H2 ds' Bn xs'→(∀b,Bn b→Bs b∨H b=none)→Rel K B (env.set i (.own (fG p d0 (.lst ds')))) σ (upd H2 a (.lst xs')):=by
  B3⟨v0,w,A1,C,h1,h2,h3,h4,h5,h6⟩:=h.at e q
  B4 Ow at h3
  B3⟨a,xs,Bs,rfl,o2,o3,o4,o5⟩:=h3
  &⟨v0,a,xs,Bs,h1,h2,o2,o3,o5,fun H2 ds' xs' Bn s o hb=>?_⟩
  have nBa:¬Bn a:=fun z=>(hb a z).elim o3 fun z=>by rw[o2]at z;cases z
  have hC:∀x,C x→¬x=a:=fun x z y=>h4 x ((o4 x).mpr (.inl y)) z
  have Wx:H2 a=some (.lst xs):=s a _ o2
  &h6 _ (.lst ds') (gB (·=a) Bn) (fun x z1 z2=>?_) (fun x z=>?_) (s.tk.trans (uU (xW Wx))) ?_ (fun x u ex=>?_)
  · rcases z1 with z1 | z1
    · ~hC x z2 z1
    · rcases hb x z1 with z | z
      · ~h4 x ((o4 x).mpr (.inr z)) z2
      · B3⟨⟨u,eu⟩,_⟩:=h5 x z2
        rw[z]at eu;cases eu
  · B3⟨⟨u,eu⟩,_⟩:=h5 x z
    rw[bN (hC x z),eu,s x u eu]
  · B4 Ow
    &⟨a,xs',Bn,rfl,cM,nBa,fun _=>Iff.rfl,eQ.frame (uU (xW Wx)) _ _ _ o fun x zx=>bN fun y=>nBa (y▸zx)⟩
  · B3⟨e1,e2⟩:=bG.mp ex
    have na:x≠a:=fun y=>e1 (.inl ((o4 x).mpr (.inl y)))
    &bG.mpr ⟨fun z=>?_,by rw[bN na];~s x u e2⟩
    rcases z with (z | z) | z
    · ~na z
    · rcases hb x z with z | z
      · ~e1 (.inl ((o4 x).mpr (.inr z)))
      · rw[z]at e2;cases e2
    · ~e1 (.inr z)
B5 Rel.aKN{i:Nat}{p:List Step}{d0:D}{ks:List Key}{ds:List D}(h:Rel K B env σ H)(e:env[i]?=some (.own d0))(q:gC p d0=some (.dk ks ds)):∃v0 a xs Bs,σ[i]?=some (some v0)∧Qj H p v0=some (.ref a)∧H a=some (.dK (ks.zip xs))∧ks.length=xs.length∧¬Bs a∧eQ K H ds Bs xs ∧
    ∀H2 ks' ds' xs' Bn,aV H H2→ks'.length=xs'.length→eQ K H2 ds' Bn xs'→(∀b,Bn b→Bs b∨H b=none)→Rel K B (env.set i (.own (fG p d0 (.dk ks' ds')))) σ (upd H2 a (.dK (ks'.zip xs'))):=by
  B3⟨v0,w,A1,C,h1,h2,h3,h4,h5,h6⟩:=h.at e q
  B4 Ow at h3
  B3⟨a,xs,Bs,rfl,o2,o2',o3,o4,o5⟩:=h3
  &⟨v0,a,xs,Bs,h1,h2,o2,o2',o3,o5,fun H2 ks' ds' xs' Bn s hl o hb=>?_⟩
  have nBa:¬Bn a:=fun z=>(hb a z).elim o3 fun z=>by rw[o2]at z;cases z
  have hC:∀x,C x→¬x=a:=fun x z y=>h4 x ((o4 x).mpr (.inl y)) z
  have Wx:H2 a=some (.dK (ks.zip xs)):=s a _ o2
  &h6 _ (.dk ks' ds') (gB (·=a) Bn) (fun x z1 z2=>?_) (fun x z=>?_) (s.tk.trans (uU (Jl Wx))) ?_ (fun x u ex=>?_)
  · rcases z1 with z1 | z1
    · ~hC x z2 z1
    · rcases hb x z1 with z | z
      · ~h4 x ((o4 x).mpr (.inr z)) z2
      · B3⟨⟨u,eu⟩,_⟩:=h5 x z2
        rw[z]at eu;cases eu
  · B3⟨⟨u,eu⟩,_⟩:=h5 x z
    rw[bN (hC x z),eu,s x u eu]
  · B4 Ow
    &⟨a,xs',Bn,rfl,cM,hl,nBa,fun _=>Iff.rfl,eQ.frame (uU (Jl Wx)) _ _ _ o fun x zx=>bN fun y=>nBa (y▸zx)⟩
  · B3⟨e1,e2⟩:=bG.mp ex
    have na:x≠a:=fun y=>e1 (.inl ((o4 x).mpr (.inl y)))
    &bG.mpr ⟨fun z=>?_,by rw[bN na];~s x u e2⟩
    rcases z with (z | z) | z
    · ~na z
    · rcases hb x z with z | z
      · ~e1 (.inl ((o4 x).mpr (.inr z)))
      · rw[z]at e2;cases e2
    · ~e1 (.inr z)
end
end L2


namespace L2
open PySem PySem.Spec PyProof.Rows
abbrev FP:=DE→Option (List Step)
def EvP(K:aJ)(t:TE)(i:Nat)(π:FP):Prop:=∀(σ:St)(H:Hp)(e:DE)(v0:V)(p:List Step)(v:V)(Q:VK),Fq K H e σ→σ[i]?=some (some v0)→π e=some p→Qj H p v0=some v→(∀H',aV H H'→Q v H')→t σ H Q
structure XP(K:aJ)(X:Cx)(e:Expr)(t:TE)(i:Nat)(π:FP):Prop where
 hk:X.K=K
 pe:PE X e t
 ev:EvP K t i π
B5 Jt{H:Hp}{s:Step}:∀{p:List Step} {v0 v:V},Qj H (p++[s]) v0=some v→∃w,Qj H p v0=some w∧stepV H s w=some v
 | [],v0,v,h=>by
  rw[P4]at h
  B4 Qj at h
  B3⟨w,h1,h2⟩:=bA h
  B4 Qj at h2
  cases h2
  ~⟨v0,rfl,h1⟩
 | s'::p,v0,v,h=>by
  rw[N7]at h
  B4 Qj at h
  B3⟨u,h1,h2⟩:=bA h
  B3⟨w,h3,h4⟩:=Jt h2
  &⟨w,?_,h4⟩
  B4 Qj
  rw[h1]
  ~h3
B5 aCj{H:Hp}{k:Nat}{w v:V}(h:stepV H (.ix k) w=some v):∃a xs,w=.ref a∧H a=some (.lst xs)∧xs[k]?=some v:=by
 cases w with
 | ref a=>
  B4 stepV at h
  dsimp only at h
  cases q:H a with
  | none=>rw[q]at h;cases h
  | some o=>
   rw[q]at h
   cases o with
   | lst xs=>~⟨a,xs,rfl,q,h⟩
   | _=>cases h
 | _=>B4 stepV at h;cases h
def dD:FP:=fun _=>some []
def vd(π:FP)(g:FE):FP:=fun e=>(π e).bind fun p=>(g e).bind fun d=>match d with
 | .int k=>if 0≤k then some (p++[.ix k.toNat])else none
 | _=>none
section
variable{K:aJ}{X:Cx}{e a b c:Expr}{es:List Expr}{t ta tb te:TE}{f g:FE}{tA:TA}{fs:FA}{pos:Pos}{i j:Nat}{π:FP}{st:Stmt}
B5 gP(h:PE X e (sE i))(hk:X.K=K:=by rfl):XP K X e (sE i) i dD:=⟨hk,h,fun σ H e v0 p v Q re h1 h2 h3 k=>by
 cases h2
 B4 Qj at h3
 cases h3
 ~⟨v0,h1,k H (aV.refl _)⟩⟩
B5 RT(h:XP K X a ta i π)(hb:XR K X b tb g)(hs:DQ b):XP K X (.Subscript a b pos) (Xx (rIx K) ta tb) i (vd π g):=⟨h.hk,aGa (aGj h.hk) h.pe hb.pe hs,fun σ H e v0 p v Q re h1 h2 h3 k=>by
 B4 vd at h2
 B3⟨p0,q1,q2⟩:=bA h2
 B3⟨d,q3,q4⟩:=bA q2
 split at q4
 ·rename_i n
  split at q4
  ·rename_i hn
   cases q4
   B3⟨w,w1,w2⟩:=Jt h3
   B3⟨ad,xs,rfl,w3,w4⟩:=aCj w2
   &h.ev σ H e v0 p0 _ _ re h1 q1 w1 fun H1 s1=>hb.ev σ H1 H1 e _ _ (Zn.self K H1) (re.same s1) q3 fun y H2 Z2 s2 t2 z2 ry=>?_
   B4 Rv at ry
   ~.inl ⟨ad,xs,n,v,rfl,ry,rJ.of (s2 _ _ (s1 _ _ w3)),aKH hn w4,k H2 (s1.trans s2)⟩
  ·cases q4
 ·cases q4⟩
def zH(i:Nat)(π:FP)(f:FE):GS:=fun env=>match env[i]?,π (rE env),f (rE env)with
 | some (.own d0),some p,some d=>(match gC p d0 with
  | some (.lst ds)=>if ds.length<100000 then .next (env.set i (.own (fG p d0 (.lst (ds++[d])))))else .bad
  | _=>.bad)
 | _,_,_=>.bad
B5 HX{H H1:Hp}{A:Fp}{ds:List D}{xs:List V}{N:Fp}(o:eQ K H ds A xs)(fr:∀a,N a→H a=none):Apart A N:=fun x q1 q2=>by
 B3⟨⟨u,eu⟩,_⟩:=eQ.cells _ _ _ o x q1
 rw[fr x q2]at eu;cases eu
B5 aCk(h:EvP K ta i π)(he:Wk K te f):DSs K (oH (Sh K "list" uA ta (gF te oK))) (zH i π f):=fun B E σ H env r p=>by
 B4 zH at p
 split at p
 ·rename_i d0 pp d q1 q2 q3
  split at p
  ·rename_i ds q4
   split at p
   ·rename_i hl
    B3⟨v0,a,xs,Bs,k1,k2,k3,k4,k5,k6⟩:=r.RQ q1 q4
    &h σ H (rE env) v0 pp _ _ r.r k1 q2 k2 fun H1 s1=>⟨.inl ⟨rfl,xs,rJ.of (s1 _ _ k3)⟩,?_⟩
    &he σ H1 (rE env) d _ (r.r.same s1) q3 fun y H2 s2 n=>?_
    B3⟨N,o,fr⟩:=n.back s1
    have s12:=s1.trans s2
    &⟨a,xs,y,rfl,rfl,s12 _ _ k3,Yo (by rw[(eQ.rv _ _ _ k5).length];omega),p _ ?_⟩
    ~k6 H2 (ds++[d]) (xs++[y]) (gB Bs N) s12 (cZ.mpr ((cZ.mp (k5.same s12)).snoc o (HX (H1:=H) k5 fr))) fun b z=>z.imp id (fr b)
   ·~p.elim
  ·~p.elim
 ·~p.elim
B5 Ua{m:Str}{apos cpos:Pos}(h:XP K X a ta i π)(he:XN K X e te f)(hp:PE X a ta→PE X e te→PS X (.Expr (.Call (.Attribute a m apos) [e] [] cpos) pos) (oH (Sh K "list" uA ta (gF te oK)))):YS K X (.Expr (.Call (.Attribute a m apos) [e] [] cpos) pos) (oH (Sh K "list" uA ta (gF te oK))) (zH i π f):=⟨hp h.pe he.pe,(aCk h.ev he.ev).ds⟩
def wG(i:Nat)(π:FP)(g f:FE):GS:=fun env=>match env[i]?,π (rE env),g (rE env),f (rE env)with
 | some (.own d0),some p,some (.int k),some d=>(match gC p d0 with
  | some (.lst ds)=>(match aq ds.length k with
   | some j=>.next (env.set i (.own (fG p d0 (.lst (ds.set j d)))))
   | none=>.bad)
  | _=>.bad)
 | _,_,_,_=>.bad
B5 aHO{n:Nat}{k:Int}{j:Nat}(h:aq n k=some j):j<n:=by
 B4 aq at h
 split at h
 ·split at h
  ·cases h;omega
  ·cases h
 ·split at h
  ·cases h;omega
  ·cases h
B5 vf(h:EvP K ta i π)(hx:Ls K tb g)(he:Wk K te f):DSs K (Bm te (aAa ta tb Yh)) (wG i π g f):=fun B E σ H env r p=>by
 B4 wG at p
 split at p
 ·rename_i d0 pp k d q1 q2 q3 q3'
  split at p
  ·rename_i ds q4
   split at p
   ·rename_i j q5
    B3⟨v0,a,xs,Bs,k1,k2,k3,k4,k5,k6⟩:=r.RQ q1 q4
    &he σ H (rE env) d _ r.r q3' fun y H1 s1 n=>?_
    &h σ H1 (rE env) v0 pp _ _ (r.r.same s1) k1 q2 (Ca s1 k2) fun H2 s2=>hx σ H2 H2 (rE env) _ _ (Zn.self K H2) (r.r.same (s1.trans s2)) q3 fun y' H3 Z3 s3 t3 z3 ry=>?_
    B4 Rv at ry
    have HN:=s1.trans (s2.trans s3)
    B3⟨N,o,fr⟩:=n.same (s2.trans s3)
    have hlen:=(eQ.rv _ _ _ k5).length
    &⟨a,xs,k,j,rfl,ry,HN _ _ k3,by rw[hlen];~q5,p _ ?_⟩
    B3⟨y0,A1,C,f1,f2,f3,f4,f5⟩:=(cZ.mp (k5.same HN)).focus (B7 (aHO q5))
    have ap:Apart N C:=fun x q1 q2=>HX (H1:=H) k5 fr x ((f3 x).mpr (.inr q2)) q1
    ~k6 H3 (ds.set j d) (xs.set j y) (gB N C) HN (cZ.mpr (f5 (Ow K H3) (fun _ _ _ _ qq=>qq) d y N ap o)) fun b z=>z.elim (fun z=>.inr (fr b z)) fun z=>.inl ((f3 b).mpr (.inr z))
   ·~p.elim
  ·~p.elim
 ·~p.elim
B5 vg{pos':Pos}(h:XP K X a ta i π)(hx:XR K X b tb g)(he:XN K X e te f)(hp:PE X a ta→PE X b tb→PE X e te→PS X (.Assign [.Subscript a b pos'] e pos) (Bm te (aAa ta tb Yh))):YS K X (.Assign [.Subscript a b pos'] e pos) (Bm te (aAa ta tb Yh)) (wG i π g f):=⟨hp h.pe hx.pe he.pe,(vf h.ev hx.ev he.ev).ds⟩
def pF(i:Nat)(π:FP)(g f:FE):GS:=fun env=>match env[i]?,π (rE env),g (rE env),f (rE env)with
 | some (.own d0),some p,some k,some d=>(match gC p d0,Tt k with
  | some (.dk ks ds),some k=>if d.jJ=true∧ks.length<100000 then .next (env.set i (.own (fG p d0 (.dk (mL ks k) (putD ks ds k d)))))else .bad
  | _,_=>.bad)
 | _,_,_,_=>.bad
B5 RV{H:Hp}{d:D}{v:V}(o:Ow K H d nil v)(k:Key):∀{ks:List Key} {ds:List D} {A:Fp} {xs:List V},ks.length=xs.length→eQ K H ds A xs→∃A',(∀x,A' x→A x)∧eQ K H (P9 (fun k' d'=>if k'=k then d else d') ks ds) A' (P9 (fun k' d'=>if k'=k then v else d') ks xs)
 | [],ds,A,xs,hl,h=>by
  cases xs with
  | nil=>~⟨nil,fun _ z=>z.elim,by rw[Q1,Q1];B4 eQ;~⟨fun _ z=>z,rfl⟩⟩
  | cons x xs=>simp at hl
 | k0::ks,[],A,xs,hl,h=>by B4 eQ at h;rw[h.2]at hl;simp at hl
 | k0::ks,d0::ds,A,xs,hl,h=>by
  B4 eQ at h
  B3⟨y,yt,A1,A2,rfl,h2,h3,h4,h5⟩:=h
  B3⟨A',a1,a2⟩:=RV o k (by simpa using hl) h5
  by_cases c:k0=k
  ·&⟨A',fun x q=>(h3 x).mpr (.inr (a1 x q)),?_⟩
   rw[J6,J6,if_pos c,if_pos c]
   B4 eQ
   ~⟨v,_,nil,A',rfl,fun _ z=>z.elim,fun x=>⟨.inr,fun z=>z.elim False.elim id⟩,o,a2⟩
  ·&⟨gB A1 A',fun x q=>(h3 x).mpr (q.imp id (a1 x)),?_⟩
   rw[J6,J6,if_neg c,if_neg c]
   B4 eQ
   ~⟨y,_,A1,A',rfl,fun x z1 z2=>h2 x z1 (a1 x z2),fun _=>Iff.rfl,h4,a2⟩
B5 vh(h:EvP K ta i π)(hx:Ls K tb g)(he:Ls K te f):DSs K (Jk ta tb te) (pF i π g f):=fun B E σ H env r p=>by
 B4 pF at p
 split at p
 ·rename_i d0 pp kd d q1 q2 q3 q3'
  split at p
  ·rename_i ks ds k q4 q5
   split at p
   ·rename_i hc
    B3⟨v0,a,xs,Bs,k1,k2,k3,k3',k4,k5,k6⟩:=r.aKN q1 q4
    &he σ H H (rE env) d _ (Zn.self K H) r.r q3' fun y H1 Z1 s1 t1 z1 ry=>?_
    &h σ H1 (rE env) v0 pp _ _ (r.r.same s1) k1 q2 (Ca s1 k2) fun H2 s2=>hx σ H2 H2 (rE env) _ _ (Zn.self K H2) (r.r.same (s1.trans s2)) q3 fun y' H3 Z3 s3 t3 z3 ry'=>?_
    have HN:=s1.trans (s2.trans s3)
    have o:Ow K H3 d nil y:=Bu d y hc.1 ((z1.sm.trans (s2.trans s3)).rv _ _ ry)
    have ek:=Ed q5 (z3.sm.rv _ _ ry')
    &⟨a,_,rfl,.inl ⟨ks.zip xs,k,HN _ _ k3,ek,Yo (by rw[U3];omega),rfl⟩,p _ ?_⟩
    rw[QX k3']
    have ow3:=k5.same HN
    have hl3:=(eQ.rv _ _ _ k5).length
    by_cases c:(posK ks k).isSome=true
    ·B3⟨A',a1,a2⟩:=RV o k k3' ow3
     &k6 H3 (mL ks k) (putD ks ds k d) (putD ks xs k y) A' HN (xX k3') ?_ fun b z=>.inl (a1 b z)
     B4 putD
     rw[if_pos c,if_pos c]
     ~a2
    ·&k6 H3 (mL ks k) (putD ks ds k d) (putD ks xs k y) (gB Bs nil) HN (xX k3') ?_ fun b z=>z.elim .inl False.elim
     B4 putD
     rw[if_neg c,if_neg c]
     ~cZ.mpr ((cZ.mp ow3).snoc o fun _ _ z=>z)
   ·~p.elim
  ·~p.elim
 ·~p.elim
B5 HY{pos':Pos}(h:XP K X a ta i π)(hx:XR K X b tb g)(he:XR K X e te f)(hp:PE X a ta→PE X b tb→PE X e te→PS X (.Assign [.Subscript a b pos'] e pos) (Jk ta tb te)):YS K X (.Assign [.Subscript a b pos'] e pos) (Jk ta tb te) (pF i π g f):=⟨hp h.pe hx.pe he.pe,(vh h.ev hx.ev he.ev).ds⟩
B5 Ys{α β:Type}{R:α→Fp→β→Prop}:∀{ds:List α} {A:Fp} {ys:List β} (k:Nat),eO R ds A ys→∃A',(∀x,A' x→A x)∧eO R (ds.eraseIdx k) A' (ys.eraseIdx k)
 | [],A,ys,k,h=>⟨A,fun _ z=>z,by rw[h.2];~⟨h.1,rfl⟩⟩
 | d::ds,A,ys,0,⟨y,yt,A1,A2,h1,h2,h3,h4,h5⟩=>⟨A2,fun x z=>(h3 x).mpr (.inr z),by rw[h1];~h5⟩
 | d::ds,A,ys,k+1,⟨y,yt,A1,A2,h1,h2,h3,h4,h5⟩=>by
  B3⟨A',a1,a2⟩:=Ys k h5
  &⟨gB A1 A',fun x z=>(h3 x).mpr (z.imp id (a1 x)),?_⟩
  rw[h1,M3,M3]
  ~⟨y,_,A1,A',rfl,fun x z1 z2=>h2 x z1 (a1 x z2),fun _=>Iff.rfl,h4,a2⟩
def Ei(i j:Nat)(f:FE):GS:=fun env=>match env[i]?,env[j]?,f (rE env)with
 | some (.own (.lst ds)),some (.own (.lst es)),some (.int k)=>if i≠j∧ds.length<100000∧0≤k∧k<es.length∧es.length≤100000 then(match es[k.toNat]? with
   | some d=>if d.jJ=true then .next ((env.set j (.own (.lst (es.eraseIdx k.toNat)))).set i (.own (.lst (ds++[d]))))else .bad
   | none=>.bad)else .bad
 | _,_,_=>.bad
B5 aAy(he:Ls K te f):DS K (oH (Sh K "list" uA (sE i) (gF (Sh K "list" Gx (sE j) (gF te oK)) oK))) (Ei i j f):=fun B E σ H env r p=>by
 B4 Ei at p
 split at p
 ·rename_i ds es k q1 q2 q3
  split at p
  ·rename_i hc
   B3⟨c1,c2,c3,c4,c5⟩:=hc
   split at p
   ·rename_i d q4
    split at p
    ·rename_i im
     B3⟨w0,b,ys,Cs,m1,m2,m3,m4,m5,m6⟩:=r.RQ (p:=[]) q2 rfl
     B3⟨v0,a,xs,Bs,k1,k2,k3,k4,k5,k6⟩:=r.RQ (p:=[]) q1 rfl
     have e1:v0=.ref a:=by B4 Qj at k2;~F5 k2
     have e2:w0=.ref b:=by B4 Qj at m2;~F5 m2
     subst e1 e2
     &⟨_,k1,.inl ⟨rfl,xs,rJ.of k3⟩,⟨_,m1,.inl ⟨rfl,ys,rJ.of m3⟩,?_⟩⟩
     &he σ H H (rE env) _ _ (Zn.self K H) r.r q3 fun y H1 Z1 s1 t1 z1 ry=>?_
     B4 Rv at ry
     have hly:=(eQ.rv _ _ _ m5).length
     have hlx:=(eQ.rv _ _ _ k5).length
     B3⟨x',hx',rx'⟩:=(eQ.rv _ _ _ m5).get q4
     &⟨b,ys,k,k.toNat,x',rfl,by rw[ry],s1 _ _ m3,by omega,by omega,seqIndex_of c3 (by rw[hly];~c4),hx',?_⟩
     have o1:=m5.same s1
     B3⟨A',a1,a2⟩:=Ys k.toNat (cZ.mp o1)
     have r1:=m6 H1 (es.eraseIdx k.toNat) (ys.eraseIdx k.toNat) A' s1 (cZ.mpr a2) fun x z=>.inl (a1 x z)
     have r1':Rel K B (env.set j (.own (.lst (es.eraseIdx k.toNat)))) σ (upd H1 b (.lst (ys.eraseIdx k.toNat))):=r1
     have q1':(env.set j (.own (.lst (es.eraseIdx k.toNat))))[i]?=some (.own (.lst ds)):=by rw[F7,if_neg (Ne.symm c1)];~q1
     B3⟨v0',a',xs',Bs',n1,n2,n3,n4,n5,n6⟩:=r1'.RQ (p:=[]) q1' rfl
     rw[k1]at n1
     cases n1
     have e3:a'=a:=by B4 Qj at n2;cases n2;rfl
     subst e3
     have ne:a'≠b:=by
      intro z
      subst z
      B3⟨A0,sA,_⟩:=r
      B3⟨y1,A1,C,f1,f2,f3,f4,f5⟩:=sA.focus q1
      B3⟨v1,ev1,o1⟩:=f4
      have g1:=f5 (gG K H (out H A0)) (fun _ _ _ _ qq=>qq) (.own (.lst ds)) (some v1) A1 f2 ⟨v1,rfl,o1⟩
      rw[k1]at f1
      cases f1
      cases ev1
      B4 Ow at o1
      B3⟨p1,_,_,ep1,_,_,ip1,_⟩:=o1
      cases ep1
      have other:∀{l:EN} {A:Fp} {ys:St} (i j:Nat),eO (gG K H (out H A0)) l A ys→i≠j→∀s s',l[i]?=some s→l[j]?=some s'→∃y y' A1 A2,ys[i]?=some y∧ys[j]?=some y'∧gG K H (out H A0) s A1 y∧gG K H (out H A0) s' A2 y'∧Apart A1 A2:=by
       intro l
       induction l with
       | nil=>intro A ys i j _ _ s s' h1 _;simp at h1
       | cons d l ih=>
        rintro A ys i j ⟨y,yt,B1,B2,rfl,h2,h3,h4,h5⟩ hij s s' h6 h7
        cases i with
        | zero=>
         cases j with
         | zero=>~absurd rfl hij
         | succ j=>
          simp at h6
          subst h6
          B3⟨y2,A3,C3,w1,w2,w3,w4,_⟩:=h5.focus (i:=j) (d:=s') (by simpa using h7)
          ~⟨y,y2,B1,A3,rfl,by simpa using w1,h4,w4,fun x z1 z2=>h2 x z1 ((w3 x).mpr (.inl z2))⟩
        | succ i=>
         cases j with
         | zero=>
          simp at h7
          subst h7
          B3⟨y2,A3,C3,w1,w2,w3,w4,_⟩:=h5.focus (i:=i) (d:=s) (by simpa using h6)
          ~⟨y2,y,A3,B1,by simpa using w1,rfl,w4,h4,fun x z1 z2=>h2 x z2 ((w3 x).mpr (.inl z1))⟩
         | succ j=>
          B3⟨y2,y3,A3,A4,w1,w2,w3,w4,w5⟩:=ih i j h5 (fun z=>hij (by rw[z])) s s' (by simpa using h6) (by simpa using h7)
          ~⟨y2,y3,A3,A4,by simpa using w1,by simpa using w2,w3,w4,w5⟩
      B3⟨y2,y3,A3,A4,w1,w2,w3,w4,w5⟩:=other i j sA c1 _ _ q1 q2
      rw[k1]at w1;cases w1
      rw[m1]at w2;cases w2
      B3⟨_,ea,oa⟩:=w3
      B3⟨_,eb,ob⟩:=w4
      cases ea
      cases eb
      B4 Ow at oa ob
      B3⟨p1,_,_,e1,_,_,i1,_⟩:=oa
      B3⟨p2,_,_,e2,_,_,i2,_⟩:=ob
      cases e1
      cases e2
      ~w5 _ ((i1 _).mpr (.inl rfl)) ((i2 _).mpr (.inl rfl))
     have n3':H1 a'=some (.lst xs'):=by rw[bN ne]at n3;~n3
     have exx:xs'=xs:=by have:=s1 _ _ k3;rw[n3']at this;cases this;rfl
     subst exx
     have imo:Ow K (upd H1 b (.lst (ys.eraseIdx k.toNat))) d nil x':=Ow.frame (uU (xW (s1 _ _ m3))) _ _ _ (Bu d x' im (s1.rv _ _ rx')) fun _ z=>z.elim
     &⟨a',xs',x',rfl,rfl,n3,Yo A6,p _ _ ?_⟩
     ~n6 _ (ds++[d]) (xs'++[x']) (gB Bs' nil) (aV.refl _) (cZ.mpr ((cZ.mp n5).snoc imo fun _ _ z=>z)) fun x z=>z.elim .inl False.elim
    ·~p.elim
   ·~p.elim
  ·~p.elim
 ·~p.elim
end
end L2


namespace L2
open PySem PySem.Spec PyProof.Rows
def jd(K:aJ)(B:Hp)(R:Fp)(env:EN)(σ:St)(H:Hp):Prop:=∃A,eO (gG K H (out H (gB A R))) env A σ∧Apart A R∧aV B (out H (gB A R))
section
variable{K:aJ}{B H H':Hp}{env:EN}{σ:St}{R R' A1:Fp}
B5 Rel.x(h:Rel K B env σ H)(s:aV H H')(f:∀a,R a→H a=none):jd K B R env σ H':=by
 B3⟨A,a,b⟩:=h
 have cl:=lO a
 have g:aV (out H A) (out H' (gB A R)):=cH s fun x q=>q.imp id (f x)
 &⟨A,a.mono fun e C z _ q=>q.same s g,fun x q1 q2=>?_,b.trans g⟩
 B3⟨⟨u,eu⟩,_⟩:=cl x q1
 rw[f x q2]at eu;cases eu
B5 jd.own{i:Nat}{d:D}{v:V}(h:jd K B R env σ H)(e:Is R (gB A1 R'))(ap:Apart A1 R')(o:Ow K H d A1 v)(hi:i<env.length):jd K B R' (env.set i (.own d)) (σ.set i (some v)) H:=by
 B3⟨A,a,aR,b⟩:=h
 B3⟨y,A0,C,h1,h2,h3,h4,k⟩:=a.focus (B7 hi)
 have g:aV (out H (gB A R)) (out H (gB (gB A1 C) R')):=cH (aV.refl _) fun x q=>by
  rcases q with (q | q) | q
  ·~.inl (.inr ((e x).mpr (.inl q)))
  ·~.inl (.inl ((h3 x).mpr (.inr q)))
  ·~.inl (.inr ((e x).mpr (.inr q)))
 &⟨gB A1 C,k _ (fun s D z _ q=>q.same (aV.refl _) g) (.own d) (some v) A1 (fun x q1 q2=>aR x ((h3 x).mpr (.inr q2)) ((e x).mpr (.inl q1))) ⟨v,rfl,o⟩,fun x q1 q2=>?_,b.trans g⟩
 rcases q1 with q1 | q1
 ·~ap x q1 q2
 ·~aR x ((h3 x).mpr (.inr q1)) ((e x).mpr (.inr q2))
B5 jd.done(h:jd K B R env σ H)(e:None R):Rel K B env σ H:=by
 B3⟨A,a,aR,b⟩:=h
 have g:aV (out H (gB A R)) (out H A):=cH (aV.refl _) fun x q=>.inl (.inl q)
 ~⟨A,a.mono fun s D z _ q=>q.same (aV.refl _) g,b.trans g⟩
end
def Hl:List Nat→TGs
 | []=>aIW
 | i::is=>aF4 (lW i) (Hl is)
def wH:EN→List Nat→List D→EN
 | env,i::is,d::ds=>wH (env.set i (.own d)) is ds
 | env,_,_=>env
B5 RW{K:aJ}{B H:Hp}{Q:St→Hp→Prop}:∀{is:List Nat} {ds:List D} {xs:List V} {R:Fp} {env:EN} {σ:St},jd K B R env σ H→eQ K H ds R xs→is.length=ds.length→(∀i∈is,i<env.length) →
  (∀σ',Rel K B (wH env is ds) σ' H→Q σ' H)→Hl is xs σ H Q
 | [],ds,xs,R,env,σ,r,o,hl,hi,k=>by
  cases ds with
  | cons d ds=>simp at hl
  | nil=>
   B4 eQ at o
   B4 Hl
   ~⟨o.2,k σ (by B4 wH;~r.done o.1)⟩
 | i::is,ds,xs,R,env,σ,r,o,hl,hi,k=>by
  cases ds with
  | nil=>simp at hl
  | cons d ds=>
   B4 eQ at o
   B3⟨y,yt,A1,A2,rfl,h2,h3,h4,h5⟩:=o
   B4 Hl
   &⟨y,yt,rfl,?_⟩
   have hi0:=hi i D6
   ~RW (r.own h3 h2 h4 hi0) h5 (by simpa using hl) (fun j hj=>by rw[K9];~hi j (C8 _ hj)) fun σ' r'=>k σ' (by B4 wH;~r')
def wI(is:List Nat)(f:FE):GS:=fun env=>match f (rE env)with
 | some (.tup ds)=>if is.length=ds.length∧is.all (fun i=>decide (i<env.length))=true then .next (wH env is ds)else .bad
 | _=>.bad
section
variable{K:aJ}{X:Cx}{e a b c:Expr}{es:List Expr}{t ta tb te:TE}{f g:FE}{tA:TA}{fs:FA}{pos:Pos}{i j:Nat}{π:FP}{st:Stmt}
B5 aAz{is:List Nat}{n:Nat}(h:Wk K te f)(hn:n=is.length):DS K (Bm te (aEh K n (Hl is))) (wI is f):=fun B E σ H env r p=>by
 B4 wI at p
 split at p
 ·rename_i ds q
  split at p
  ·rename_i hc
   &h σ H (rE env) _ _ r.r q fun v H' s ⟨N,o,fr⟩=>?_
   B4 Ow at o
   B3⟨ad,xs,rfl,o1,o2⟩:=o
   &⟨ad,xs,rfl,o1,by rw[(eQ.rv _ _ _ o2).length,hn,hc.1],?_⟩
   ~RW (r.x s fr) o2 hc.1 (fun i hi=>of_decide_eq_true (L8.mp hc.2 i hi)) fun σ' r'=>p σ' H' r'
  ·~p.elim
 ·~p.elim
B5 Yt{is:List Nat}{n:Nat}{tg:Expr}(h:XN K X e te f)(hp:PE X e te→PS X (.Assign [tg] e pos) (Bm te (aEh K n (Hl is))))(hn:n=is.length:=by rfl):YS K X (.Assign [tg] e pos) (Bm te (aEh K n (Hl is))) (wI is f):=⟨hp h.pe,aAz h.ev hn⟩
def xF:EN→List Nat→Option (List D)
 | _,[]=>some []
 | env,i::is=>(match env[i]? with
  | some (.own d)=>(xF env is).map (d::·)
  | _=>none)
B5 Ub:∀{is:List Nat} {env:EN} {i:Nat} {s:SD},i∉is→xF (env.set i s) is=xF env is
 | [],env,i,s,h=>by B4 xF;rfl
 | j::is,env,i,s,h=>by
  have hj:i≠j:=fun z=>h (z▸D6)
  B4 xF
  rw[F7,if_neg hj,Ub fun z=>h (C8 _ z)]
B5 RX{H Z:Hp}:∀{is:List Nat} {ds:List D} {env:EN} {A:Fp} {σ:St},is.Nodup→xF env is=some ds→eO (gG K H Z) env A σ→∃xs A',(∀x,A' x→A x)∧eQ K H ds A' xs∧xs.length=is.length∧∀(k i:Nat),is[k]?=some i→∃x,xs[k]?=some x∧σ[i]?=some (some x)
 | [],ds,env,A,σ,nd,q,h=>by
  B4 xF at q
  cases q
  ~⟨[],nil,fun _ z=>z.elim,by B4 eQ;~⟨fun _ z=>z,rfl⟩,rfl,fun k i e=>by simp at e⟩
 | i::is,ds,env,A,σ,nd,q,h=>by
  B4 xF at q
  split at q
  ·rename_i d q1
   B3⟨ds',q2,rfl⟩:=lY q
   B3⟨n1,n2⟩:=K8.mp nd
   B3⟨y,A1,C,h1,h2,h3,h4,k⟩:=h.focus q1
   B3⟨v,rfl,o⟩:=h4
   have h':=k (gG K H Z) (fun _ _ _ _ qq=>qq) .no none nil (fun _ z=>z.elim) (fun _ z=>z)
   B3⟨xs,A',a1,a2,a3,a4⟩:=RX (env:=env.set i .no) n2 (by rw[Ub n1];~q2) h'
   have hC:∀x,A' x→C x:=fun x z=>(a1 x z).elim False.elim id
   &⟨v::xs,gB A1 A',fun x z=>(h3 x).mpr (z.imp id (hC x)),?_,by simp[a3],fun k j e=>?_⟩
   ·B4 eQ
    ~⟨v,xs,A1,A',rfl,fun x z1 z2=>h2 x z1 (hC x z2),fun _=>Iff.rfl,o,a2⟩
   ·cases k with
    | zero=>simp at e;subst e;~⟨v,rfl,h1⟩
    | succ k=>
     have e:is[k]?=some j:=by simpa using e
     B3⟨x,b1,b2⟩:=a4 k j e
     &⟨x,by simpa using b1,?_⟩
     have hj:i≠j:=fun z=>n1 (z▸E6 e)
     rw[F7,if_neg hj]at b2
     ~b2
  ·cases q
inductive TyS(K:aJ)(H:Hp):V→Value→Prop where
 | bl (x:Bool):TyS K H (.bl x) (.type "bool")
 | int (i:Int):TyS K H (.int i) (.type "int")
 | lst {a:Addr} {xs:List V} (e:rJ K H a xs):TyS K H (.ref a) (.type "list")
 | tup {a:Addr} {xs:List V} (e:yV K H a xs):TyS K H (.ref a) (.type "tuple")
B5 IK:oJ X (.builtin "isinstance") (fun xs H Q=>∃x T t b,xs=[x,.ty T]∧TyS X.K H x t∧J7 X.K t (.type T)=some b∧Q (.bl b) H):=by
 intro pins s σ H xs us Q I r h
 B3⟨x,T,t,b,rfl,ty,hk,q⟩:=h
 B3⟨u,w',rfl,rx,rt⟩:=vals2 r
 cases rt
 cases ty with
 | bl y=>~Yb I rx (.bl y) hk fun tk=>⟨.bl b,H,I.tok _,rfl,q⟩
 | int i=>~Yb I rx (.int i) hk fun tk=>⟨.bl b,H,I.tok _,rfl,q⟩
 | @lst a xs e=>
  cases(show u=Value.ref a from rx)
  B3⟨its,_,pl,_⟩:=I.list e
  B3⟨o,n,h1,h2,_⟩:=pl
  ~J8 W8 I.Lw ⟨o,h1,h2⟩ hk (fun z=>nomatch z) fun tk=>⟨.bl b,H,I.tok _,rfl,q⟩
 | @tup a xs e=>
  cases(show u=Value.ref a from rx)
  B3⟨its,_,pl,_⟩:=I.tuple e
  B3⟨o,h1,h2,_⟩:=pl
  ~J8 e8 I.Lw ⟨o,h1,h2⟩ hk (fun z=>nomatch z) fun tk=>⟨.bl b,H,I.tok _,rfl,q⟩
def RZ(T:String)(d:D):Option D:=match d with
 | .int _=>if T = "int" then some (.bl true)else if T = "bool" then some (.bl false)else none
 | .bl _=>if T = "bool" then some (.bl true)else none
 | .lst _=>if T = "list" then some (.bl true)else none
 | .tup _=>if T = "tuple" then some (.bl true)else none
 | _=>none
def Wy(T:String)(f:FE):FE:=fun e=>(f e).bind (RZ T)
def aJu(K:aJ):List V→Hp→VK→Prop:=fun xs H Q=>∃x T t b,xs=[x,.ty T]∧TyS K H x t∧J7 K t (.type T)=some b∧Q (.bl b) H
B5 aHR{H:Hp}{T:String}{d r:D}{v:V}(h:RZ T d=some r)(rv:Rv K H d v):∃t b,TyS K H v t∧J7 K t (.type T)=some b∧r=.bl b:=by
 cases d with
 | int i=>
  B4 RZ at h
  dsimp only at h
  B4 Rv at rv
  subst rv
  split at h
  ·rename_i c;cases h;subst c;~⟨_,_,.int i,QV,rfl⟩
  ·split at h
   ·rename_i c;cases h;subst c;~⟨_,_,.int i,GJ,rfl⟩
   ·cases h
 | bl b=>
  B4 RZ at h
  dsimp only at h
  B4 Rv at rv
  subst rv
  split at h
  ·rename_i c;cases h;subst c;~⟨_,_,.bl b,Wr,rfl⟩
  ·cases h
 | lst ds=>
  B4 RZ at h
  dsimp only at h
  B4 Rv at rv
  B3⟨a,xs,rfl,r2,_⟩:=rv
  split at h
  ·rename_i c;cases h;subst c;~⟨_,_,.lst r2,Ws,rfl⟩
  ·cases h
 | tup ds=>
  B4 RZ at h
  dsimp only at h
  B4 Rv at rv
  B3⟨a,xs,rfl,r2,_⟩:=rv
  split at h
  ·rename_i c;cases h;subst c;~⟨_,_,.tup r2,Qh,rfl⟩
  ·cases h
 | _=>B4 RZ at h;cases h
B5 aHS(hk:X.K=K):oJ X (.builtin "isinstance") (aJu K):=by subst hk;~IK
B5 Ms{T:String}{p:Pos}{eT:Expr}(h:XR K X e t f)(hT:PE X eT (tC (.ty T)))(hg:Gl X "isinstance") (hm:X.mg "isinstance" = none) (hst:starEach (e::[eT]) X.env=(false,eval e X.env)::starEach [eT] X.env:=by rfl) (hst2:starEach [eT] X.env=(false,eval eT X.env)::starEach [] X.env:=by rfl)
  (hpl:(backTo pos (starEach [eT] X.env)).any (·.1)=false:=by rfl):XN K X (.Call (.Name "isinstance" p) [e,eT] [] pos) (tCB (aJu K) (gF t (gF (tC (.ty T)) oK))) (Wy T f):=
 ⟨h.hk,QD (aHS h.hk) hg hm PyProof.Rows.boot_isinstance (dG h.pe (dG hT jM hst2) hst) A8 A8 hst hpl,fun σ H e d Q re q k=>by
  B4 Wy at q
  B3⟨d0,q1,q2⟩:=bA q
  &h.ev σ H H e d0 _ (Zn.self K H) re q1 fun v H1 Z1 s1 t1 z1 rv=>?_
  B3⟨ty,b,b1,b2,rfl⟩:=aHR q2 (z1.sm.rv _ _ rv)
  ~⟨v,T,ty,b,rfl,b1,b2,k _ H1 s1 (.jJ rfl (by B4 Rv;rfl))⟩⟩
structure jL(mg:Str→Option Value)(x:Str)(i:Int):Prop where
 ex:∃t,mg x=some (.int i t)
structure aLz(K:aJ)(mg:Str→Option Value)(x:Str)(ns:List Int):Prop where
 ex:∃a,mg x=some (.ref a)∧∀H:Hp,yV K H a (ns.map V.int)
B5 pG{x:Str}{i:Int}(G:jL X.mg x i)(hg:Gl X x)(hd:(x==("__debug__" : Str))=false:=by decide) (hk:X.K=K:=by rfl):XN K X (.Name x pos) (tC (.int i)) (fC (.int i)):=by
 B3⟨t,h⟩:=G.ex
 ~⟨hk,aEc hg h ⟨t,rfl⟩ hd,aB2 i⟩
def dTup(ns:List Int):D:=.tup (ns.map D.int)
end
def oZ(n m:Nat)(g:GS):List D→Option D:=fun ds=>if ds.length=m then(match g (ds.map SD.fro++E4 (n-m) SD.no)with
  | .ret d=>some d
  | .next _=>some .non
  | _=>none)else none
B5 Uc{K:aJ}{H Z:Hp}{k:Nat}:∀{ds:List D} {vs:List V},fQ K Z ds vs→eO (gG K H Z) (ds.map SD.fro++E4 k SD.no) nil (vs.map some++E4 k none)
 | [],vs,h=>by
  B4 fQ at h
  subst h
  simp only[G6,P4]
  induction k with
  | zero=>~⟨fun _ z=>z,rfl⟩
  | succ k ih=>
   rw[c9,c9]
   ~⟨none,_,nil,nil,rfl,fun _ z=>z.elim,fun x=>⟨.inl,fun z=>z.elim id id⟩,fun _ z=>z,ih⟩
 | d::ds,vs,h=>by
  B4 fQ at h
  B3⟨y,ys,rfl,h1,h2⟩:=h
  rw[D3,D3,N7,N7]
  ~⟨some y,_,nil,nil,rfl,fun _ z=>z.elim,fun x=>⟨.inl,fun z=>z.elim id id⟩,⟨fun _ z=>z,y,rfl,h1⟩,Uc h2⟩
B5 Mt{K:aJ}{H:Hp}{k:Nat}{ds:List D}{vs:List V}(h:fQ K H ds vs):Rel K H (ds.map SD.fro++E4 k SD.no) (vs.map some++E4 k none) H:=by
 have g:aV H (out H nil):=fun x u e=>bG.mpr ⟨fun z=>z,e⟩
 ~⟨nil,Uc (g.uq _ _ h),g⟩
B5 Raw.uW{P:Program}{w:World}{K:aJ}{mg:Str→Option Value}{base:Heap}{x:Str}{st:Stmt}{N ps:List Str}{k:Nat}{g:GS}(R:Raw K mg x st)(S:aZ N ps (aK st))
  (hb:∀(kV doc pm:Value)(an:Option Addr)(cdv ct:Value)(us:List Value),us.length=ps.length→bindArgs (F8 x x (gD st) (cR st) (aK st) .none kV doc pm an cdv ct) ⟨us,[]⟩=pure (ps.zip us))
  (hbody:∀(f:Addr)(cdv:Value)(A:Around)(outer:List Env)(s:Shared)(H:Hp)(E:XK),lA k (A.deeper (envOfC x (aK st) s.heap.objs.size f cdv)) →
   ∃t,YB K (Gw FZ P w K mg base N x (aK st) f cdv A outer s H E).bw (cR st) t g):lN P w K mg base x (k+1) ps.length (gW K ps.length (oZ N.length ps.length g)):=by
 &R.cal S (fun vs H Q E h=>?_) hb (fun f cdv A outer s H vs Q E hr h=>?_)
 ·B3⟨ds,d,h1,h2,_⟩:=h
  rw[h2.length];~h1
 B3⟨ds,d,h1,h2,h3,kk⟩:=h
 B3⟨t,yb⟩:=hbody f cdv A outer s H E hr
 &⟨t,yb.ps,yb.ev H _ _ H (ds.map SD.fro++E4 (N.length-ps.length) SD.no) ?_ ?_⟩
 ·have hl:vs.length=ps.length:=by rw[h2.length];~h1
  have:=Mt (k:=N.length-ps.length) h2
  B4 start
  rw[hl]
  ~this
 ·B4 oZ at h3
  rw[if_pos h1]at h3
  cases q:g (ds.map SD.fro++E4 (N.length-ps.length) SD.no)with
  | ret d'=>
   rw[q]at h3
   cases h3
   &fun v H' A' s' o=>kk v H' (s'.trans (mU _ _)) ⟨A',o,fun a qa=>?_⟩
   cases e:H a with
   | none=>rfl
   | some u=>~absurd qa (bG.mp (s' a u e)).1
  | next env'=>
   rw[q]at h3
   cases h3
   &fun σ' H' ⟨A',_,s'⟩=>kk .non H' (s'.trans (mU _ _)) (.jJ rfl (by B4 Rv;rfl))
  | brk env'=>rw[q]at h3;cases h3
  | cont env'=>rw[q]at h3;cases h3
  | bad=>rw[q]at h3;cases h3
  | rete d e=>rw[q]at h3;cases h3
end L2


namespace L2
open PySem PySem.Spec PyProof.Rows
section
variable{K:aJ}{X:Cx}{e a b c:Expr}{es:List Expr}{t ta tb te:TE}{f g:FE}{tA:TA}{fs:FA}{pos:Pos}{i j:Nat}{π:FP}{st:Stmt}{gb:GS}{tc:TT}{fc:FT}
def Cd(f:FE):FE:=fun e=>(f e).bind fun d=>match d with | .int i=>some (.int (-i)) | _=>none
B5 uC(ha:XR K X a ta f):XN K X (.UnaryOp .USub a pos) (tUn (rU fun i=>.int (-i)) ta) (Cd f):=aHJ ha
B5 Rc{tg elt iter:Expr}{ifs:List Expr}{scope:Scope}{spos py:Pos}{y:Str}{wi:TI}{fi:FA}{fe:FE}(N:List Str)(fr:List Nat)(hcalm:X.calm=true)(B:mG X.env.scope scope X.N N 1 fr)(hN:X.N.Nodup)(hy:X.N[i]?=some y)(hx:Loc X.env.scope y)(hi:XI K X tg iter wi fi)
  (hg:∀cl fp s H C,PG (mK X scope N cl fp s H C) tg (lW 0)) (hc:∀cl fp s H C,XTs K (mK X scope N cl fp s H C) ifs tc fc) (he:∀cl fp s H C,XN K (mK X scope N cl fp s H C) elt te fe)
  (hsw:swapsWith (.ListComp elt [⟨tg,iter,ifs,0⟩] scope pos) (some (.Name y py)) spos.line X.env=pure true:=by rfl)
  (hs:∀x,foldedSetIterable iter X.env x=pure x:=by intro _;rfl) (hf:X.fn y=true∨X.env.scope.names.lookup y=some .local:=by first | ~.inl rfl | ~.inr rfl | assumption) :
  YS K X (.Assign [.Name y py] (.ListComp elt [⟨tg,iter,ifs,0⟩] scope pos) spos) (Bm (QM wi 1 fr (lW 0) tc te) (lW i)) (cU i (gU fi fr fc fe)):=
 ⟨aEO N 1 fr hcalm B hN hy hx hi.pi hg (fun cl fp s H C=>(hc cl fp s H C).pts) (fun cl fp s H C=>(he cl fp s H C).pe) hsw hs hf,aCf (uz hi.ev (hc [] [] X.s₀ X.H₀ 0).ev (he [] [] X.s₀ X.H₀ 0).ev)⟩
def EvJ(K:aJ)(wi:TI)(fi:FA):Prop:=∀(σ:St)(H:Hp)(e:DE)(ds:List D)(R:It→Hp→Prop),Fq K H e σ→fi e=some ds →
 (∀J H' P vs,aV H H'→JIs J P vs→(∀H2,P H2)→(∀Z,fQ K Z ds vs)→R J H')→wi σ H R
structure XJ(K:aJ)(X:Cx)(tg iter:Expr)(wi:TI)(fi:FA):Prop where
 pi:PI X tg iter wi
 ev:EvJ K wi fi
B5 Ej{tg:Expr}{p:Pos}(hg:Gl X "range") (hm:X.mg "range" = none) (ha:XA K X [a] tA fs) (hs:starEach [a] X.env=[(false,eval a X.env)]:=by rfl):XJ K X tg (.Call (.Name "range" p) [a] [] pos) (aBx tA) (sO fs):=⟨Xw hg hm ha.pa hs,fun σ H e ds R re q k=>by
 B4 sO at q
 B3⟨es,q1,q2⟩:=bA q
 split at q2
 ·rename_i n
  split at q2
  ·rename_i hl
   cases q2
   have hl:=Mq hl
   &ha.ev σ H H e _ _ (Zn.self K H) re q1 fun vs H1 Z1 s1 t1 z1 rs=>?_
   B3⟨v,rfl,r⟩:=uT rs
   B4 Rv at r
   subst r
   ~⟨n,rfl,by omega,by omega,k _ H1 _ _ s1 Ea (fun _=>True.intro) fun Z=>Ef 0 n.toNat⟩
  ·cases q2
 ·cases q2⟩
B5 aAA{tg:Expr}{p:Pos}(hp:PA X [a,b] tA→PI X tg (.Call (.Name "range" p) [a,b] [] pos) (QB tA)) (ha:XA K X [a,b] tA fs):XJ K X tg (.Call (.Name "range" p) [a,b] [] pos) (QB tA) (Gj fs):=⟨hp ha.pa,fun σ H e ds R re q k=>by
 B4 Gj at q
 B3⟨es,q1,q2⟩:=bA q
 split at q2
 ·rename_i i j
  split at q2
  ·rename_i hl
   cases q2
   have hl1:=Mq hl.1
   have hl2:=Mq hl.2
   &ha.ev σ H H e _ _ (Zn.self K H) re q1 fun vs H1 Z1 s1 t1 z1 rs=>?_
   B3⟨v,w,rfl,r,r'⟩:=iy rs
   B4 Rv at r r'
   subst r r'
   ~⟨i,j,rfl,⟨by omega,by omega,by omega,by omega⟩,k _ H1 _ _ s1 Ea (fun _=>True.intro) fun Z=>Ef i (j-i).toNat⟩
  ·cases q2
 ·cases q2⟩
B5 aGq{tg:Expr}{p:Pos}(hp:PA X [a,b] tA→PI X tg (.Call (.Name "range" p) [a,b] [] pos) (QB tA)) (ha:XA K X [a,b] tA fs):XI K X tg (.Call (.Name "range" p) [a,b] [] pos) (QB tA) (Gj fs):=⟨ha.hk,hp ha.pa,fun σ H Z e ds R z re q k=>by
 B4 Gj at q
 B3⟨es,q1,q2⟩:=bA q
 split at q2
 ·rename_i i j
  split at q2
  ·rename_i hl
   cases q2
   have hl1:=Mq hl.1
   have hl2:=Mq hl.2
   &ha.ev σ H Z e _ _ z re q1 fun vs H1 Z1 s1 t1 z1 rs=>?_
   B3⟨v,w,rfl,r,r'⟩:=iy rs
   B4 Rv at r r'
   subst r r'
   ~⟨i,j,rfl,⟨by omega,by omega,by omega,by omega⟩,k _ H1 Z1 _ _ s1 t1 z1 Ea (fun _ _=>True.intro) (Ef i (j-i).toNat)⟩
  ·cases q2
 ·cases q2⟩
def yC(i:Nat)(fi:FA)(g:GS):GS:=fun env=>match fi (rE env)with
 | some xs=>Mr i g xs env
 | none=>.bad
B5 aE8{wi:TI}{fi:FA}{tb:TS}(hi:EvJ K wi fi)(h:DS K tb gb):DS K (cu wi (lW i) tb) (yC i fi gb):=fun B E σ H env r p=>by
 B4 yC at p
 split at p
 ·rename_i xs q
  &hi σ H (rE env) xs _ r.r q fun J H1 P vs s hJ hP rvs=>?_
  have hl:=(rvs H).length
  &GD hJ (fun k σ2 H2=>∃fW,Rel K B fW σ2 H2∧Wv K B E (Mr i gb (xs.drop k) fW)) ⟨env,r.same s,by simpa using p⟩ (fun k σ2 H2 _ _=>hP H2) ?_ ?_
  ·rintro k x σ2 H2 hx ⟨fW,r2,p2⟩
   have hk:k<xs.length:=by
    B3⟨h1,_⟩:=D2.mp hx
    omega
   rw[O2 hk]at p2
   B4 Mr at p2
   split at p2
   ·rename_i hlen
    B3⟨A2,a2,b2⟩:=r2
    B3⟨x',hx',rx⟩:=(rvs (out H2 A2)).get (B7 hk)
    rw[hx]at hx'
    cases hx'
    have r3:Rel K B (fW.set i (.fro xs[k])) (σ2.set i (some x)) H2:=HR a2 b2 hlen (aV.refl _) (aV.refl _) (HQ a2) rx
    &h B _ _ H2 _ r3 ?_
    split at p2
    ·rename_i env' q2;rw[q2];~fun σ' H' r'=>⟨env',r',p2⟩
    ·rename_i env' q2;rw[q2];~fun σ' H' r'=>⟨env',r',p2⟩
    ·rename_i env' q2;rw[q2];~p2
    ·rename_i n1 n2 n3
     cases q2:gb (fW.set i (.fro xs[k]))with
     | next e=>~absurd q2 (n1 e)
     | cont e=>~absurd q2 (n2 e)
     | brk e=>~absurd q2 (n3 e)
     | ret d=>rw[q2]at p2;~p2
     | bad=>rw[q2]at p2;~p2
     | rete d e=>rw[q2]at p2;~p2
   ·~p2.elim
  ·rintro σ2 H2 ⟨fW,r2,p2⟩
   rw[hl,T3]at p2
   ~p2 σ2 H2 r2
 ·~p.elim
B5 Ju{tg iter:Expr}{body:List Stmt}{wi:TI}{fi:FA}{tb:TS}(hp:PassesOwn (model X.prog X.w) X.A X.env X.xe)(aCh:X.calm=true)(hi:XJ K X tg iter wi fi)(hg:PG X tg (lW i))(hb:YB K X body tb gb)
  (hs:∀x,foldedSetIterable iter X.env x=pure x:=by intro _;rfl):YS K X (.For tg iter body [] pos) (cu wi (lW i) tb) (yC i fi gb):=⟨cz hp aCh hi.pi hg hb.ps hs,aE8 hi.ev hb.ev⟩
B5 aAB{m m':Str}{apos cpos aGr aGs:Pos}(he:XR K X e te f)(hp:PE X e te→PS X (.Expr (.Call (.Attribute a m apos) [.Call (.Attribute b m' aGr) [e] [] aGs] [] cpos) pos) (oH (Sh K "list" uA (sE i) (gF (Sh K "list" Gx (sE j) (gF te oK)) oK)))):YS K X (.Expr (.Call (.Attribute a m apos) [.Call (.Attribute b m' aGr) [e] [] aGs] [] cpos) pos) (oH (Sh K "list" uA (sE i) (gF (Sh K "list" Gx (sE j) (gF te oK)) oK))) (Ei i j f):=⟨hp he.pe,aAy he.ev⟩
end
B5 je{K:aJ}{st:Stmt}{f:Addr}{fd:FuncData}(F:Fun K "law" "law" st f fd) (hb:∀(kV doc pm:Value)(an:Option Addr)(cdv ct:Value)(u:Value),bindArgs (F8 "law" "law" (gD st) (cR st) (aK st) .none kV doc pm an cdv ct) ⟨[u],[]⟩=pure [(("script" : Str),u)]):∀(s:Shared)(u:Value),BindsTo s fd ⟨[u],[]⟩ [("script", u)]:=by
 B3⟨oc,od,kV,doc,pm,an,cdv,ct,osl,rfl,lk,hcd⟩:=F.ex
 ~fun s u=>.of_eq (hb kV doc pm an cdv ct u)
B5 oM{K:aJ}{h:Heap}{mg:Str→Option Value}{x:Str}{i:Int}{t:Tok}(X:K.In h)(G:h.Ns mainGlobals mg)(a:R3 K mainGlobals x=some (some (.int i t))):jL mg x i:=⟨t,c7 X G a⟩
end L2


namespace L2
open PySem PySem.Spec PyProof.Rows
section
variable{K:aJ}{X:Cx}{e a b c:Expr}{es:List Expr}{t ta tb te:TE}{f g:FE}{tA:TA}{fs:FA}{pos:Pos}{i j:Nat}{π:FP}{st:Stmt}
variable{lo hi:Option Expr}{tl th:TO}{fl fh:FO}{p2:Pos}
def aCl(K:aJ):R2:=fun x y H Q=>∃a b xs ys,x=.ref a∧y=.ref b∧yV K H a xs∧yV K H b ys∧xs.length+ys.length≤sizeLine ∧
 (xs=[]→Q (.ref b) H)∧(xs≠[]→ys=[]→Q (.ref a) H)∧(xs≠[]→ys≠[]→∀p,H p=none→Q (.ref p) (upd H p (.tup (xs++ys))))
B5 aCm{s:Shared}{A:Around}{prog:Program}{w:World}{E:Value→Shared→Prop}{x y:Addr}{us ws:List Value}{Q:Value→Shared→Prop}(hx:IsTup s.heap x us.toArray)(hy:IsTup s.heap y ws.toArray)(hu:us=[])(q:Q (.ref y) s):wpAny (model prog w) A (binaryOp .Add (.ref x) (.ref y)) Q E s:=by
 B3⟨⟨k1,f1,g1,l1⟩,a1,b1,n1,c1⟩:=hx
 B3⟨⟨k2,f2,g2,l2⟩,a2,b2,n2,c2⟩:=hy
 dsimp only at b1 c1 b2 c2
 subst b1 c1 b2 c2
 ~concat_meets ⟨_,a1,rfl⟩ ⟨_,a2,rfl⟩ noFill_tuple_add seq_tuple_add S0 R8 (R1 _ _) (tuple_addW0 x y us.toArray ws.toArray n1 n2 f1 f2 l1 l2 (by simp[hu])) ⟨a1,a2,q⟩
B5 aE9(hk:X.K=K):xR X (binaryOp .Add) (aCl K):=by
 subst hk
 intro pins s σ H x y v u Q I rx ry h
 B3⟨a,b,xs,ys,rfl,rfl,ha,hb,hz,q0,q1,q2⟩:=h
 by_cases hx:xs=[]
 ·cases rx
  cases ry
  B3⟨its,r1,p1,_⟩:=I.tuple ha
  B3⟨its2,r2,p2,_⟩:=I.tuple hb
  ~aCm p1 p2 (r1.Qx.mpr hx) ⟨.ref b,H,I,rfl,q0 hx⟩
 ·~aEv pins s σ H (.ref a) (.ref b) v u Q I rx ry ⟨a,b,xs,ys,rfl,rfl,ha,hb,hx,hz,q1 hx,q2 hx⟩
def Yu(a b:D):Option D:=match a,b with
 | .tup x,.tup y=>if D.fU x=true∧D.fU y=true∧x.length+y.length≤100000 then some (.tup (x++y))else none
 | _,_=>none
B5 aFa:OD K (aCl K) Yu:=fun x y H a b d Q ra rb q k=>by
 B4 Yu at q
 split at q
 ·rename_i u v
  split at q
  ·rename_i c
   cases q
   B4 Rv at ra rb
   B3⟨p,xs,rfl,r2,r3⟩:=ra
   B3⟨p',xs',rfl,r2',r3'⟩:=rb
   &⟨p,p',xs,xs',rfl,rfl,r2,r2',Yn (by rw[r3.length,r3'.length];~c.2.2),fun z=>?_,fun _ z=>?_,fun _ _ l hl=>?_⟩
   ·have hu:u=[]:=F6 (by rw[←r3.length,z];rfl)
    rw[hu,P4]at k
    ~k _ H (aV.refl _) (.jJ (by B4 D.jJ;~c.2.1) (by B4 Rv;~⟨p',xs',rfl,r2',r3'⟩))
   ·have hv:v=[]:=F6 (by rw[←r3'.length,z];rfl)
    rw[hv,F3]at k
    ~k _ H (aV.refl _) (.jJ (by B4 D.jJ;~c.1) (by B4 Rv;~⟨p,xs,rfl,r2,r3⟩))
   ·have hi:D.fU (u++v)=true:=by
     have:∀(u v:List D),D.fU u=true→D.fU v=true→D.fU (u++v)=true:=by
      intro u v h1 h2
      induction u with
      | nil=>~h2
      | cons x u ih=>
       B4 D.fU at h1
       rw[G7]at h1
       rw[N7]
       B4 D.fU
       rw[G7]
       ~⟨h1.1,ih h1.2⟩
     ~this u v c.1 c.2.1
    ~k _ _ (dI hl _) (GX (.fU hi (r3.append r3')) hl)
  ·cases q
 ·cases q
B5 aFb(ha:XR K X a ta f)(hb:XR K X b tb g):XN K X (.BinOp a .Add b pos) (Xx (aCl K) ta tb) (f2 Yu f g):=Tp (aE9 ha.hk) aFa ha hb
end
end L2


namespace L2
open PySem PySem.Spec PyProof.Rows
B5 bgo(xs:Array Nat)(j:Nat):∀(fuel lo hi:Nat),hi-lo≤fuel→lo≤hi→hi≤xs.size→xs.toList.Pairwise (·<·) →
  (∀i,i<lo→xs.getD i 0<j)→(∀i,hi≤i→i<xs.size→j≤xs.getD i 0) →
  SetTable.below.go xs j fuel lo hi≤xs.size∧(∀i,i<SetTable.below.go xs j fuel lo hi→xs.getD i 0<j)∧(∀i,SetTable.below.go xs j fuel lo hi≤i→i<xs.size→j≤xs.getD i 0)
 | 0,lo,hi,h1,h2,h3,up,h4,h5=>by
  B4 SetTable.below.go
  have e:lo=hi:=by omega
  subst e
  ~⟨h3,h4,h5⟩
 | fuel+1,lo,hi,h1,h2,h3,up,h4,h5=>by
  B4 SetTable.below.go
  have mono:∀a b,a<b→b<xs.size→xs.getD a 0<xs.getD b 0:=fun a b q q'=>by
   have:=K5.mp up a b (by simp;omega) (by simpa using q') q
   simp only[U4]at this
   simpa[O3,q',show a<xs.size by omega]using this
  split
  ·rename_i c
   have hm:(lo+hi)/2<xs.size:=by omega
   have e:xs.getD ((lo+hi)/2) j=xs.getD ((lo+hi)/2) 0:=by simp[O3,hm]
   dsimp only
   rw[e]
   by_cases c2:xs.getD ((lo+hi)/2) 0<j
   ·rw[if_pos c2]
    &bgo xs j fuel ((lo+hi)/2+1) hi A6 A6 h3 up (fun i hi'=>?_) h5
    rcases K4 i ((lo+hi)/2)with z | z
    ·have:=mono i _ z hm
     omega
    ·have z':i=(lo+hi)/2:=by omega
     subst z'
     ~c2
   ·rw[if_neg c2]
    &bgo xs j fuel lo ((lo+hi)/2) A6 A6 A6 up h4 fun i hi' hs=>?_
    rcases K4 ((lo+hi)/2) i with z | z
    ·have:=mono _ i z hs
     omega
    ·have z':i=(lo+hi)/2:=by omega
     subst z'
     omega
  ·have e:lo=hi:=by omega
   subst e
   ~⟨h3,h4,h5⟩
B5 below_at{xs:Array Nat}(up:xs.toList.Pairwise (·<·))(j:Nat) :
  SetTable.below xs j≤xs.size∧(∀i,i<SetTable.below xs j→xs.getD i 0<j)∧(∀i,SetTable.below xs j≤i→i<xs.size→j≤xs.getD i 0):=by
 B4 SetTable.below
 ~bgo xs j xs.size 0 xs.size A6 (M0 _) (C5 _) up (fun i h=>absurd h (L6 _)) fun i h h'=>by omega
def Led(b:Bool)(t:SetTable):Prop:=t.led=b∧(t.plain=true→t.place.toList.Pairwise (·<·)∧t.dummies=#[])
B5 Led.fresh(b:Bool):Led b (.fresh 0 0 b):=⟨rfl,fun _=>⟨by simp[SetTable.fresh],rfl⟩⟩
B5 Led.standIn{b:Bool}{t:SetTable}(h:Led b t)(n:Nat):Led b (t.standIn n):=⟨h.1,fun q=>by simp[SetTable.standIn]at q⟩
B5 Led.off{b:Bool}{t:SetTable}(h:Led b t):Led b {t with plain:=false}:=⟨h.1,fun q=>by simp at q⟩
B5 pgo{t:SetTable}(hd:t.dummies=#[]){g:Nat→Int}{h:Int}:∀(fuel:Nat)(p:SetTable.Probe)(j:Nat)(d:Option Nat),p.dummy=none→SetTable.probe.go t g h fuel p=some (.empty j d)→d=none∧t.slot j=.empty
 | 0,p,j,d,_,q=>by simp[SetTable.probe.go]at q
 | fuel+1,p,j,d,e,q=>by
  B4 SetTable.probe.go at q
  have adv:(t.advance p).dummy=none:=by
   B4 SetTable.advance
   split
   ·~e
   ·~e
  split at q
  ·rename_i c
   injection q with q
   injection q with q1 q2
   rw[←q1,←q2]
   ~⟨e,c⟩
  ·rename_i c
   exfalso
   B4 SetTable.slot at c
   dsimp only at c
   split at c
   ·cases c
   ·split at c
    ·rename_i z
     rw[hd]at z
     simp[SetTable.has]at z
    ·cases c
  ·split at q
   ·cases q
   ·~pgo hd fuel _ j d adv q
B5 Yv{t:SetTable}(hd:t.dummies=#[]){h:Int}{j:Nat}{w:Bool}(q:t.freeSlot h=some (j,w)):t.slot j=.empty∧w=false:=by
 B4 SetTable.freeSlot at q
 split at q
 ·rename_i j' d e
  B3⟨rfl,e2⟩:=pgo hd _ _ _ _ (by rfl) e
  simp at q
  B3⟨rfl,rfl⟩:=q
  ~⟨e2,rfl⟩
 ·cases q
B5 aCn{t:SetTable}(hd:t.dummies=#[])(up:t.place.toList.Pairwise (·<·)){j:Nat}(q:t.slot j=.empty):(t.put j).1.place.toList.Pairwise (·<·)∧(t.put j).1.dummies=#[]:=by
 B3⟨b1,b2,b3⟩:=below_at up j
 &⟨?_,?_⟩
 ·show (SetTable.insertAt t.place (SetTable.below t.place j) j).toList.Pairwise (·<·)
  rw[SetTable.toList_insertAt]
  have ne:t.place[SetTable.below t.place j]?≠some j:=fun z=>by
   B4 SetTable.slot at q
   dsimp only at q
   rw[z]at q
   simp at q
  have lo:∀x∈t.place.toList.take (SetTable.below t.place j),x<j:=fun x hx=>by
   B3⟨i,hi,rfl⟩:=K0 hx
   rw[J4]at hi
   have hs:i<t.place.size:=by simp at hi;omega
   have:=b2 i A6
   simpa[O3,hs]using this
  have hi:∀x∈t.place.toList.drop (SetTable.below t.place j),j<x:=fun x hx=>by
   B3⟨i,hi,rfl⟩:=K0 hx
   rw[Q5,J9]at hi
   have hs:SetTable.below t.place j+i<t.place.size:=by omega
   have h1:=b3 (SetTable.below t.place j+i) A6 hs
   have e:(t.place.toList.drop (SetTable.below t.place j))[i]=t.place.getD (SetTable.below t.place j+i) 0:=by simp[O3,hs]
   rw[e]
   rcases W0 i with z | z
   ·subst z
    rcases K4 j (t.place.getD (SetTable.below t.place j+0) 0)with y | y
    ·~y
    ·&absurd ?_ ne
     have e2:t.place.getD (SetTable.below t.place j) 0=j:=by simp only[Nat.add_zero]at y h1;omega
     rw[M8 A6]
     simpa[O3,show SetTable.below t.place j<t.place.size by omega]using e2
   ·have h0:=b3 (SetTable.below t.place j) (C5 _) A6
    have:=K5.mp up (SetTable.below t.place j) (SetTable.below t.place j+i) (by simp;omega) (by simpa using hs) A6
    simp only[U4]at this
    have e3:t.place.getD (SetTable.below t.place j) 0<t.place.getD (SetTable.below t.place j+i) 0:=by simpa[O3,hs,show SetTable.below t.place j<t.place.size by omega]using this
    omega
  &N3.mpr ⟨up.sublist (O1 _ _),I0.mpr ⟨hi,up.sublist (i3 _ _)⟩,fun x hx y hy=>?_⟩
  have h1:=lo x hx
  rcases D5.mp hy with z | z
  ·omega
  ·have:=hi y z
   omega
 ·show (if SetTable.has t.dummies j then _ else t.dummies)=#[]
  rw[hd]
  simp[SetTable.has]
B5 Led.lay{b:Bool}{t:SetTable}(h:Led b t)(es:Array (Int×Value))(k:Int)(x:Value):Led b (layNew t es k x).2.1:=by
 B4 layNew
 split
 ·rename_i j w e
  dsimp only
  B4 SetTable.orStandIn
  split
  ·&⟨h.1,fun q=>?_⟩
   B3⟨u,d⟩:=h.2 q
   ~aCn d u (Yv d e).1
  ·~Led.standIn (t:=(t.put j).1) ⟨h.1,fun q=>by
    B3⟨u,d⟩:=h.2 q
    ~aCn d u (Yv d e).1⟩ _
 ·~h.standIn _
B5 aGt{β:Type}(f:Nat→Option β):∀l:List Nat,l.Pairwise (·<·)→((l.filterMap fun j=>(f j).map fun y=>(j,y)).map (·.1)).Pairwise (·<·)∧∀x∈((l.filterMap fun j=>(f j).map fun y=>(j,y)).map (·.1)),x∈l
 | [],_=>⟨.nil,fun x h=>by simp at h⟩
 | a::l,h=>by
  B3⟨h1,h2⟩:=I0.mp h
  B3⟨i1,i2⟩:=aGt f l h2
  rw[Q8]
  cases e:f a with
  | none=>~⟨i1,fun x hx=>C8 _ (i2 x hx)⟩
  | some y=>
   &⟨I0.mpr ⟨fun x hx=>h1 x (i2 x hx),i1⟩,fun x hx=>?_⟩
   rcases D5.mp hx with z | z
   ·~z▸D6
   ·~C8 _ (i2 x z)
B5 Led.aJv{b:Bool}{t:SetTable}(h:Led b t)(es:Array (Int×Value))(n:Nat):Led b (relayAll t es n).2.1:=by
 B4 relayAll
 split
 ·rename_i t' order e
  dsimp only
  split
  ·dsimp only
   B4 SetTable.relaid SetTable.laid at e
   B3⟨ow,e1,e2⟩:=bA e
   injection e2 with e2
   injection e2 with e3 e4
   rw[←e3]
   ~⟨h.1,fun _=>⟨by simpa using (aGt (fun j=>ow.getD j none) _ S6).1,rfl⟩⟩
  ·~h.standIn _
 ·~h.standIn _
B5 Ho{α:Type}:∀(l:List α)(i:Nat)(h:i<l.length),(l[i]::l.eraseIdx i).Perm l
 | [],i,h=>absurd h (by simp)
 | a::l,0,h=>R6 _
 | a::l,i+1,h=>by
  have:=Ho l i (by simpa using h)
  simp only[List.getElem_cons_succ,M3]
  ~(l8 a _ _).trans (this.cons a)
B5 vm{α:Type}(next:Nat→Nat):∀(n:Nat)(left:List α)(k:Nat)(out:Array α),left.length=n→((pickOrder.go next n k left out).toList).Perm (out.toList++left)
 | 0,left,k,out,hn=>by
  have:left=[]:=F6 hn
  subst this
  simp[pickOrder.go]
 | n+1,left,k,out,hn=>by
  B4 pickOrder.go
  have hl:next k%left.length<left.length:=U5 _ A6
  rw[B7 hl]
  dsimp only
  &(vm next n (left.eraseIdx (next k%left.length)) (k+1) _ (by rw[W5 hl];omega)).trans ?_
  rw[i4,P6]
  ~a9 _ (Ho _ _ hl)
B5 aAC{α:Type}(next:Nat→Nat)(xs:Array α):(pickOrder next xs).toList.Perm xs.toList:=by
 have:=vm next xs.size xs.toList 0 #[] (by simp)
 simpa[pickOrder]using this
end L2


namespace L2
open PySem PySem.Spec PyProof.Rows
section
variable{prog:Program}{w:World}{A:Around}{E:Value→Shared→Prop}{s:Shared}{b:Bool}
def Hq(prog:Program)(w:World)(b:Bool)(h:Heap)(a:Addr)(S:Int→Bool)(n:Nat):Prop:=
 ∃o es ep t,h.get? a=some o∧o.ExactSet∧o.data=.set es ep t∧ElemsOf (intKind prog w) es.toList∧(∀k,S k=true↔∃e∈es.toList,(intKind prog w).is k e.2=true)∧es.size<scanBound∧t.fits es.size=true∧es.size=n∧Led b t
B5 Hq.at_{h h':Heap}{a:Addr}{S:Int→Bool}{n:Nat}(x:Hq prog w b h a S n)(e:∀o,h.get? a=some o→h'.get? a=some o):Hq prog w b h' a S n:=
 let ⟨o,es,ep,t,ho,r⟩:=x;⟨o,es,ep,t,e o ho,r⟩
B5 Hq.to{h:Heap}{a:Addr}{S S':Int→Bool}{n n':Nat}(x:Hq prog w b h a S n)(e:∀k,S k=S' k)(en:n=n'):Hq prog w b h a S' n':=by
 subst en
 have:S=S':=funext e
 rw[←this]
 ~x
B5 aGu{h:Heap}{a:Addr}{o:Obj}{es es':Array (Int×Value)}{ep:Nat}{t t':SetTable}{S':Int→Bool}(ho:h.get? a=some o)(hex:o.ExactSet)(hd:o.data=.set es ep t)(hel:ElemsOf (intKind prog w) es'.toList)
  (hm:∀k,S' k=true↔∃e∈es'.toList,(intKind prog w).is k e.2=true) (hz:es'.size<scanBound) (hf:t'.fits es'.size=true) (hl:Led b t') :
  (h.update a (Obj.putSet es' t')).get? a=some {o with data:=.set es' (ep+1) t'}∧Hq prog w b (h.update a (Obj.putSet es' t')) a S' es'.size:=
 have g:=(SetOf_store (knd:=intKind prog w) ho hex hd hel hm hz hf).1
 ⟨g,_,es',ep+1,t',g,hex,rfl,hel,hm,hz,hf,rfl,hl⟩
B5 aCo{g:Bool→Sem Unit}(hg:∀(c:Bool)(s₁:Shared)(Q':Unit→Shared→Prop),Q' () s₁→wpAny (model prog w) A (g c) Q' E s₁){a:Addr}{o:Obj}{es e1:Array (Int×Value)}{ep:Nat}{t t2:SetTable}{S':Int→Bool}
  (ho:s.heap.get? a=some o) (hex:o.ExactSet) (hd:o.data=.set es ep t) (hel:ElemsOf (intKind prog w) e1.toList) (hm:∀k,S' k=true↔∃e∈e1.toList,(intKind prog w).is k e.2=true) (hz:e1.size<scanBound) (hf:t2.fits e1.size=true) (hl:Led b t2)
  {wd:Bool} {R:Option Bool→Shared→Prop} (h:∀h',Heap.SameBut a s.heap h'→Hq prog w b h' a S' e1.size→R (some true) {s with heap:=h'}) :
  wpAny (model prog w) A (do
    storeSet a e1 t2
    if(!wd&&t2.tooFull)=true then do
      g (relayAll t2 e1 (SetTable.grown e1.size)).2.2
      storeSet a (relayAll t2 e1 (SetTable.grown e1.size)).1 (relayAll t2 e1 (SetTable.grown e1.size)).2.1
      pure (some true)
     else pure (some true)) R E s:=by
 B3⟨g1,s1⟩:=aGu (prog:=prog) (w:=w) ho hex hd hel hm hz hf hl
 &wpAny_bind (wpAny_storeSet_of ho hd ?_ (fits_of_scanBound hz))
 have sb:=Heap.SameBut.update s.heap a (Obj.putSet e1 t2)
 split
 ·have pm:=relayAll_perm t2 e1 (SetTable.grown e1.size)
  have ff:=relayAll_fits t2 e1 (SetTable.grown e1.size)
  have ll:=hl.aJv e1 (SetTable.grown e1.size)
  have sz:(relayAll t2 e1 (SetTable.grown e1.size)).1.size=e1.size:=by rw[←J9,pm.length_eq,J9]
  have zz:(relayAll t2 e1 (SetTable.grown e1.size)).1.size<scanBound:=by rw[sz];~hz
  &wpAny_bind (hg _ _ _ (wpAny_bind (wpAny_storeSet_of g1 rfl ?_ (fits_of_scanBound zz))))
  B3⟨_,s2⟩:=aGu (prog:=prog) (w:=w) (S':=S') g1 hex rfl (hel.perm pm) (fun k=>(hm k).trans ⟨fun⟨e,he,q⟩=>⟨e,pm.mem_iff.mpr he,q⟩,fun⟨e,he,q⟩=>⟨e,pm.mem_iff.mp he,q⟩⟩) zz ff ll
  rw[sz]at s2
  ~wpAny_pure (h _ (sb.trans (Heap.SameBut.update _ a _)) s2)
 ·~wpAny_pure (h _ sb s1)
B5 aJw{a:Addr}{S:Int→Bool}{n:Nat}{k:Int}{tk:Tok}{Q:Bool→Shared→Prop}(hS:Hq prog w b s.heap a S n)(room:n+1<scanBound)
  (h:∀h',Heap.SameBut a s.heap h'→Hq prog w b h' a (fun j=>S j||decide (j=k)) (if S k then n else n+1)→Q (!S k) {s with heap:=h'}) :
  wpAny (model prog w) A (setAddHashed a (.int k tk) ((intKind prog w).hash k)) Q E s:=by
 B3⟨o,es,ep,t,ho,hex,hd,hel,hm,hb,hf,hn,hl⟩:=hS
 have key:(intKind prog w).is k (.int k tk)=true:=intKind_is _ _ _ _
 have sc:(Value.int k tk).scannable=true:=rfl
 B4 setAddHashed setAddHashedIn
 &wpAny_holding (wpAny_bind (wpAny_setState_of ho hd hf ?_))
 dsimp only
 rw[byScan_of sc hb hel]
 simp only[↓reduceIte]
 B4 setAddByScan
 &wpAny_bind (wpAny_bind (wpAny_rule (wpAny_bind (wpAny_setScan_of key ho hd hf hel ?_))))
 cases hr:List.findIdx? (fun e=>(intKind prog w).is k e.2) es.toList with
 | some j=>
  dsimp only
  B3⟨hj,pj,_⟩:=List.findIdx?_eq_some_iff_getElem.mp hr
  have hk:S k=true:=(hm k).mpr ⟨es.toList[j],N6 hj,pj⟩
  have z:=h s.heap (Heap.SameBut.refl a s.heap) ⟨o,es,ep,t,ho,hex,hd,hel,fun j=>by
   rw[k7,decide_eq_true_eq,←hm j]
   ~⟨fun q=>q.elim id fun e=>by rw[e];~hk,.inl⟩,hb,hf,by rw[hk];~hn,hl⟩
  rw[hk]at z
  ~wpAny_pure (wpAny_pure z)
 | none=>
  dsimp only
  have hk:S k=false:=by
   cases e:S k with
   | false=>rfl
   | true=>
    B3⟨x,hx,px⟩:=(hm k).mp e
    have:=List.findIdx?_eq_none_iff.mp hr x hx
    rw[px]at this
    cases this
  have hgw:∀(c:Bool) {s₁:Shared} {Q':Unit→Shared→Prop},Q' () s₁→wpAny (model prog w) A (match c with | true=>rule "set.scan.the-table-gave-way" | false=>pure ()) Q' E s₁:=fun c s₁ Q' q=>by
   cases c
   ·~wpAny_pure q
   ·~wpAny_rule q
  have pm:=layNew_perm t es ((intKind prog w).hash k) (.int k tk)
  have ff:=layNew_fits t es ((intKind prog w).hash k) (.int k tk)
  have ll:=hl.lay es ((intKind prog w).hash k) (.int k tk)
  generalize layNew t es ((intKind prog w).hash k) (.int k tk)=Y at pm ff ll ⊢
  B3⟨e1,t1,wd,gave⟩:=Y
  dsimp only at pm ff ll ⊢
  rw[i4]at pm
  have sz:e1.size=n+1:=by rw[←J9,pm.length_eq,C7,J9,hn];rfl
  have zz:e1.size<scanBound:=by omega
  have el1:=(hel.push key sc).perm pm
  have m1:=mem_push_iff (k:=k) key hm pm
  &wpAny_bind (hgw _ ?_)
  have fin:∀h',Heap.SameBut a s.heap h'→Hq prog w b h' a (fun j=>S j||decide (j=k)) e1.size→Q true {s with heap:=h'}:=fun h' q1 q2=>by
   have z:=h h' q1
   rw[hk]at z
   rw[sz]at q2
   ~z q2
  split
  ·rw[hashByValue_scannable 8 sc]
   &wpAny_bind (wpAny_pure ?_)
   &aCo (b:=b) (fun c s₁ Q' q=>hgw c q) ho hex hd el1 m1 zz ?_ ?_ fun h' q1 q2=>?_
   ·split
    ·~ff
    ·~SetTable.fits_plain_off ff
   ·split
    ·~ll
    ·~ll.off
   ·dsimp only
    ~wpAny_pure (fin h' q1 q2)
  ·&wpAny_bind (wpAny_pure ?_)
   simp only[↓reduceIte]
   &aCo (b:=b) (fun c s₁ Q' q=>hgw c q) ho hex hd el1 m1 zz ff ll fun h' q1 q2=>?_
   dsimp only
   ~wpAny_pure (fin h' q1 q2)
end
section
variable{prog:Program}{w:World}{A:Around}{R:Result→Shared→Prop}{I:Addr}{fp wr:List Addr}{G:Array GenState→Array GenState→Prop}{n:Nat}{P:Nat→Value→Prop}{St:Nat→Shared→Prop}{b:Bool}
abbrev jf(prog:Program)(w:World)(b:Bool)(h:Heap)(a:Addr)(val:Nat→Int)(i:Nat):Prop:=Hq prog w b h a (fun k=>(firstMet val i).any (·==k)) (firstMet val i).length
B5 aHT(W:WalksS prog w A.in1 I fp wr G n P St)(a:Addr)(hf:a∉fp)(val:Nat→Int)(hval:∀i v,P i v→∃t,v=.int (val i) t)(hz:n+1<scanBound) :
  ∀(m i:Nat)(s:Shared),n-i=m→i≤n→St i s→jf prog w b s.heap a val i→(∀s',Moved (a::wr) G s s'→jf prog w b s'.heap a val n→R (.ok (.ret .none)) s') →
   codeAny (model prog w) A (.builtin "set.update.loop" ⟨[.ref a,.ref I],[]⟩) R s:=by
 have hw:a∉wr:=fun z=>hf (W.sub _ z)
 have sub:∀c∈wr,c∈a::wr:=fun c hc=>C8 _ hc
 intro m
 induction m with
 | zero=>
  intro i s hk hi hst hS hR
  have e:i=n:=by omega
  subst e
  &codeAny_builtin R4 ?_
  rw[Around.under_plainId N8 _]
  show wpAny _ A.in1 (pyNext (.ref I) >>= _) _ _ s
  &wpAny_bind (W.done s _ _ hst fun s' mv=>?_)
  show wpAny _ A.in1 (ret Value.none) _ _ s'
  ~wpAny_pure (hR s' (mv.mono sub) (hS.at_ fun o e=>mv.heap a o hw e))
 | succ m ih=>
  intro i s hk hi hst hS hR
  have lt:i<n:=by omega
  &codeAny_builtin R4 ?_
  rw[Around.under_plainId N8 _]
  show wpAny _ A.in1 (pyNext (.ref I) >>= _) _ _ s
  &wpAny_bind (W.item i s _ _ lt hst fun v s1 hP st1 mv=>?_)
  B3⟨tk,rfl⟩:=hval i v hP
  have S1:jf prog w b s1.heap a val i:=hS.at_ fun o e=>mv.heap a o hw e
  show wpAny _ A.in1 (holding [Value.int (val i) tk] (setAdd a (.int (val i) tk)) >>= _) _ _ s1
  B4 setAdd
  &wpAny_bind (wpAny_holding (wpAny_holding (wpAny_bind ((intKind prog w).pyHash (k:=val i) (intKind_is _ _ _ _) ?_))))
  have room:(firstMet val i).length+1<scanBound:=by have:=firstMet_length_le val i;omega
  &aJw (s:={s1 with toks:=s1.toks+1}) S1 room fun h' sb S2=>?_
  have S3:jf prog w b h' a val (i+1):=S2.to (fun j=>by rw[firstMet_succ,step_any]) (by rw[firstMet_succ,step_length])
  &wpAny_pure ⟨plainId_quiet N8 _,ih (i+1) _ A6 lt (W.frame _ s1 _ _ st1 (M9 _) fun c hc o e=>?_) S3 fun s2 mv2 S4=>?_⟩
  ·rw[sb.2 c fun z=>hf (by rw[←z];~hc)]
   ~e
  ·&hR s2 (Moved.trans W.gtrans ((mv.mono sub).then_heap (M9 _) fun c o hc e=>?_) mv2) S4
   rw[sb.2 c fun z=>hc (by rw[z];~D6)]
   ~e
end
end L2


namespace L2
open PySem PySem.Spec PyProof.Rows
section
variable{prog:Program}{w:World}{A:Around}{E:Value→Shared→Prop}{s:Shared}
abbrev xG(b:Bool):Obj:={cls:=.type "set", dict:=none,data:=.set #[] 0 (.fresh 0 0 b)}
abbrev xH(w:World):Bool:=!w.params.followText "set-order"
B5 aJx(a:Value){Q:Value→Shared→Prop}(h:Q (.ref s.heap.objs.size) {s with heap:=s.heap.push (xG (xH w))}) :
  codeAny (model prog w) A (.call (.builtin "set.__new__") ⟨[.type "set", a],[]⟩) (wants Q E) s:=by
 &codeAny_of_tree ?_
 show wpAny _ A.in1 (checkBuiltinCall "set.__new__" ⟨[.type "set", a],[]⟩ >>= fun _=>again (.builtin "set.__new__" ⟨[.type "set", a],[]⟩)) _ _ s
 &wpAny_bind (wpAny_of_eq (PySem.F.newCall_set_1 a) (wpAny_pure ⟨plainId_quiet b4 _,codeAny_builtin PySem.F.entry_set_new ?_⟩))
 rw[Around.under_plainId b4 _]
 B4 Builtin.«set.__new__» Builtin.Frozenset.newClass
 have sub:=sub_set_self
 B3⟨hp,g,d,tk,os⟩:=s
 dsimp only
 wp_walk
 &wpAny_askSetting (wpAny_pure ?_)
 dsimp only
 simp only[newObj]
 ~wpAny_bind (wpAny_alloc (wpAny_pure (wpAny_pure h)))
B5 aFc(b:Bool){h:Heap}{a:Addr}{val:Nat→Int}(e:h.get? a=some (xG b)):jf prog w b h a val 0:=
 ⟨_,#[],0,_,e,⟨rfl,rfl,rfl⟩,rfl,fun x hx=>by simp at hx,fun k=>by simp[firstMet_zero],by decide,by rfl,rfl,Led.fresh b⟩
B5 aJy{l:Addr}{its:Array Value}{ns:List Int}{Q:Value→Shared→Prop}(hh:A.handled=none)(hl:s.heap.IsList l its)(hi:IntsAre its.toList ns)(hz:its.size+1<scanBound)
  (h:∀(h':Heap)(tk:Nat),jf prog w (xH w) h' s.heap.objs.size (fun i=>ns.getD i 0) its.size→(∀b o,s.heap.get? b=some o→h'.get? b=some o)→Q (.ref s.heap.objs.size) {s with heap:=h',toks:=tk}) :
  wpAny (model prog w) A (call (.type "set") [.ref l]) Q E s:=by
 B3⟨c,tl,hmro⟩:=L9.mro
 have hmade:=L9.made
 have hsub:=L9.sub
 &wpAny_call (codeAny_of_tree ?_)
 show wpAny _ _ (callAny (.type "set") _) _ _ _
 &wpAny_pure ⟨Code.quiet_builtin _ A7,codeAny_builtin PySem.F.entry_type_call ?_⟩
 rw[Around.under_plain (weight_type_call_type "set" [.ref l] []) rfl]
 have h1:=L9.notType
 have h2:=L9.canCreate
 have hct:=PySem.F.typeCall_set_1 (.ref l)
 repeat (any_goals (first | assumption | wp_step))
 &codeAny_mono (aJx (.ref l) (E:=E) (Q:=fun v s1=>v=.ref s.heap.objs.size∧s1={s with heap:=s.heap.push (xG (xH w))}) ⟨rfl,rfl⟩) fun r s1 hr=>?_
 cases r with
 | error e=>~hr
 | ok fl=>
  cases fl with
  | ret obj=>
   B3⟨rfl,rfl⟩:=hr
   have g0:(s.heap.push (xG (xH w))).get? s.heap.objs.size=some (xG (xH w)):=Heap.get?_push_size _ rfl
   have hT:Shared.TypeIs {s with heap:=s.heap.push (xG (xH w))} (.ref s.heap.objs.size) "set" := ⟨_,g0,rfl⟩
   have hli:=L9.init.lookup
   have hbi:=L9.init.bind (.ref s.heap.objs.size)
   repeat (any_goals (first | assumption | wp_step))
   &codeAny_mono (codeAny_call_builtin (R:=wants (fun r s2=>r=.none∧∃h' tk,s2={s with heap:=h',toks:=tk}∧jf prog w (xH w) h' s.heap.objs.size (fun i=>ns.getD i 0) its.size∧(∀b o,s.heap.get? b=some o→h'.get? b=some o)) E) L9.init.plain PySem.F.entry_set_init (check_set_init_1 hT ?_)) fun r2 s2 hr2=>?_
   ·B3⟨ol,hol,hcl,nl,hdl⟩:=hl
    B3⟨ocls,odict,odata,oslots⟩:=ol
    simp only at hcl hdl
    subst hcl hdl
    have hol':(s.heap.push (xG (xH w))).get? l=some {cls:=.type "list", dict:=odict,data:=.seq its nl,slots:=oslots}:=Heap.get?_push_of_some _ hol
    have q1:=PySem.F.sub_list_set
    have q2:=PySem.F.sub_list_frozenset
    have q3:(Value.type "list" == Value.type "dict")=false:=by decide
    have L1:(s.heap.push (xG (xH w))).IsList l its:=⟨_,hol',rfl,nl,rfl⟩
    B4 Builtin.«set.__init__» noKeywords Builtin.Frozenset.updateFrom
    generalize hPI:pyIter=PI
    wp_walk
    subst hPI
    &wpAny_pyIter_list L1 (wpAny_bind (wpAny_runValue ?_))
    have lt:=Heap.lt_size hol
    have hh3:A.in1.in1.in1.handled=none:=by simp[hh]
    have ne:l≠(s.heap.push (xG (xH w))).objs.size:=by rw[Heap.size_push];~E7 (M4 lt)
    have nf:s.heap.objs.size∉[(s.heap.push (xG (xH w))).objs.size,l]:=by
     rw[Heap.size_push]
     intro z
     rcases D5.mp z with z | z
     ·~absurd z (E7 (M7 _))
     ·~absurd (E3.mp z) (O6 lt)
    have hval:∀(i:Nat)(v:Value),its[i]?=some v→∃t,v=.int ((fun i=>ns.getD i 0) i) t:=fun i v hv=>hi.int_at i v (by rw[L7];~hv)
    &aHT ((Walks.list hh3 _ l ne its).toS) s.heap.objs.size nf (fun i=>ns.getD i 0) hval hz (its.size-0) 0 _ A6 (M0 _) ⟨⟨_,Heap.get?_push_size _ rfl,rfl,rfl⟩,(L1.push _)⟩ (aFc (xH w) (Heap.get?_push_of_some _ g0)) fun s' mv S'=>?_
    B3⟨h',g',d',tk',os'⟩:=s'
    have eg:g'=s.gens:=mv.gens
    have ed:d'=s.drawn:=mv.drawn
    have eo:os'=s.os:=mv.os
    subst eg ed eo
    show wpAny _ _ _ _ _ _
    &wpAny_pure ?_
    show wpAny _ _ (ret Value.none) _ _ _
    &wpAny_pure ⟨rfl,h',tk',rfl,S',fun b o e=>?_⟩
    have lb:=Heap.lt_size e
    &mv.heap b o (fun z=>?_) (Heap.get?_push_of_some _ (Heap.get?_push_of_some _ e))
    rcases D5.mp z with z | z
    ·~absurd z (E7 lb)
    ·have:=E3.mp z
     rw[Heap.size_push]at this
     ~absurd this (E7 (M4 lb))
   ·cases r2 with
    | error e=>~hr2
    | ok f2=>
     cases f2 with
     | ret r=>
      B3⟨rfl,h',tk,rfl,S',kp⟩:=hr2
      repeat (any_goals (first | assumption | wp_step))
      ~h _ _ S' kp
     | _=>~hr2.elim
  | _=>~hr.elim
end
end L2


namespace L2
open PySem PySem.Spec PyProof.Rows
B5 aCp:Manifest.owners.lookup (String.ofList ['r','o','t','a','r','e','t','i','_','t','e','s'].reverse)=some Manifest.sig_set_iterator:=by kernel_rfl
B5 pU:Slot "set_iterator" "__next__" "set_iterator.__next__" := Slot.of (owner := "set_iterator") (n := "__next__") (by rw[typeLookup_type,builtinLookup_eq_fast];kernel_rfl) A7 A7 A7 (by first | ~.inl A7 | ~.inr A7) (by rw[isSubtype_type];kernel_rfl)
B5 Ek:entryFor table "set_iterator.__next__" = some Builtin.«set_iterator.__next__»:=entryFor_of_tree (by kernel_rfl)
B5 El(a:Value):argsOk "set_iterator.__next__" ⟨[a],[]⟩:=by
 B4 argsOk;rw[signature?_of (id := "set_iterator.__next__") (n:=['_','_','t','x','e','n','_','_']) (o:=['r','o','t','a','r','e','t','i','_','t','e','s']) (by kernel_rfl) aCp];kernel_rfl
B5 vo:Slot "set_iterator" "__iter__" "set_iterator.__iter__" := Slot.of (owner := "set_iterator") (n := "__iter__") (by rw[typeLookup_type,builtinLookup_eq_fast];kernel_rfl) A7 A7 A7 (by first | ~.inl A7 | ~.inr A7) (by rw[isSubtype_type];kernel_rfl)
B5 aAD(a:Value):argsOk "set_iterator.__iter__" ⟨[a],[]⟩:=by
 B4 argsOk;rw[signature?_of (id := "set_iterator.__iter__") (n:=['_','_','r','e','t','i','_','_']) (o:=['r','o','t','a','r','e','t','i','_','t','e','s']) (by kernel_rfl) aCp];kernel_rfl
B5 aAE:entryFor table "set_iterator.__iter__" = some Builtin.«dict_keyiterator.__iter__»:=entryFor_alias (id' := "dict_keyiterator.__iter__") (by kernel_rfl) (by first | rfl | decide +kernel | (B4 String.splitOn;simp +decide [String.splitOnAux])) A7 (by kernel_rfl)
B5 aAF:entryFor table "set.__iter__" = some Builtin.«frozenset.__iter__»:=entryFor_alias (id' := "frozenset.__iter__") (by kernel_rfl) rfl A7 (by kernel_rfl)
def vp(h:Heap)(I:Addr)(f:Value)(i:Nat)(a:Addr)(n ep:Nat):Prop:=∃o,h.get? I=some o∧o.cls=.type "set_iterator" ∧ o.data=.fields #[f,.int (i:Int) 0,.ref a,.int (n:Int) 0,.int (ep:Int) 0]
def jg(h:Heap)(a:Addr)(es:Array (Int×Value))(ep:Nat)(t:SetTable):Prop:=∃o,h.get? a=some o∧o.cls=.type "set" ∧ o.data=.set es ep t∧t.fits es.size=true
B5 vp.at_{h h':Heap}{I a:Addr}{f:Value}{i n ep:Nat}(x:vp h I f i a n ep)(e:∀o,h.get? I=some o→h'.get? I=some o):vp h' I f i a n ep:=let ⟨o,ho,r⟩:=x;⟨o,e o ho,r⟩
B5 jg.at_{h h':Heap}{a:Addr}{es:Array (Int×Value)}{ep:Nat}{t:SetTable}(x:jg h a es ep t)(e:∀o,h.get? a=some o→h'.get? a=some o):jg h' a es ep t:=let ⟨o,ho,r⟩:=x;⟨o,e o ho,r⟩
section
variable{prog:Program}{w:World}{A:Around}{E:Value→Shared→Prop}{s:Shared}{I a T:Addr}{f:Value}{i n ep:Nat}{es:Array (Int×Value)}{t:SetTable}
B5 vp.ty(x:vp s.heap I f i a n ep):s.TypeIs (.ref I) "set_iterator" := let ⟨o,ho,hc,_⟩:=x;⟨o,ho,hc⟩
B5 jg.ty(x:jg s.heap a es ep t):s.TypeIs (.ref a) "set" := let ⟨o,ho,hc,_⟩:=x;⟨o,ho,hc⟩
B5 vq{Q:Value→Shared→Prop}(x:vp s.heap I f i a n ep)(h:Q (.ref I) s):wpAny (model prog w) A (pyIter (.ref I)) Q E s:=by
 &wpAny_pyIter_slot x.ty vo (wpAny_call_entry vo x.ty aAE ?_ (aAD _))
 show wpAny _ _ (ret (.ref I)) _ _ s
 ~wpAny_pure ⟨_,rfl, "set_iterator", _,x.ty,pU.lookup,h⟩
B5 SJ{α:Type}{h1:Heap}{Q0:α→Shared→Prop}{E':Value→Shared→Prop}(hh:A.handled=none)(hQ:∀(v:Value) h',Shared.TypeIs {s with heap:=h'} v "StopIteration" → (∀b o,h1.get? b=some o→h'.get? b=some o)→E' v {s with heap:=h'}) :
  wpAny (model prog w) A.in1 (newExc (.type "StopIteration") [] >>= fun e=>(raiseNew e:Sem α)) Q0 E' {s with heap:=h1}:=by
 &wpAny_bind ?_
 simp only[newExc,newTuple]
 &wpAny_bind (wpAny_newObj_type (wpAny_bind (m:=firstArgMember _ _) (wpAny_of_eq (a:=Value.none) (by first | rfl | (simp only[firstArgMember];rfl)) (wpAny_newObj_type ?_ (by size_fits)))) (by size_fits))
 simp only[raiseNew]
 &wpAny_bind (wpAny_handled ?_)
 rw[show A.in1.handled=none from hh]
 &wpAny_bind (wpAny_pure (wpAny_throw ?_))
 &hQ (.ref _) _ ?_ fun b o e=>Heap.get?_push_of_some _ (Heap.get?_push_of_some _ e)
 ~⟨_,Heap.get?_push_size _ rfl,rfl⟩
B5 aFd{slot nxt:Nat}{x:Value}{Q:Option Value→Shared→Prop}(hit:vp s.heap I (.int (slot:Int) 0) i a es.size ep)(hs:jg s.heap a es ep t)
  (hN:∀(Q':Option (Value×Nat)→Shared→Prop) E',Q' (some (x,nxt)) s→wpAny (model prog w) A.in1 (setNext a slot i ep) Q' E' s)
  (hQ:∀h',vp h' I (.int (nxt:Int) 0) (i+1) a es.size ep→Heap.SameBut I s.heap h'→Q (some x) {s with heap:=h'}):wpAny (model prog w) A (pyNext (.ref I)) Q E s:=by
 B3⟨o,ho,hc,hd⟩:=id hit
 B3⟨oa,ha,_,hda,hf⟩:=id hs
 B4 pyNext
 &wpAny_bind (wpAny_attempt (wpAny_callSpecial?_slot (name:=Str.ofString "__next__") hit.ty pU (wpAny_call_entry pU hit.ty Ek ?_ (El _))))
 B4 Builtin.«set_iterator.__next__»
 &wpAny_bind (wpAny_of_eq (a:=(Value.ref I,[])) rfl ?_)
 dsimp only
 &wpAny_bind (wpAny_fieldsOf ho hd ?_)
 dsimp only
 &wpAny_bind (wpAny_setEntries_of ha hda hf ?_)
 rw[if_neg (by simp)]
 dsimp only[D7]
 &wpAny_bind (hN _ _ ?_)
 dsimp only
 &wpAny_bind (wpAny_setField ho hd (by simp) ?_)
 have g1:=Heap.get?_update_self (Obj.mapFields (·.setIfInBounds 0 (rawInt (nxt:Int)))) ho (Obj.isFreed_of_fields (Obj.data_mapFields hd _))
 have d1:=Obj.data_mapFields hd (·.setIfInBounds 0 (rawInt (nxt:Int)))
 &wpAny_bind (wpAny_setField g1 d1 (by simp) (wpAny_pure ⟨x,rfl,wpAny_pure (hQ _ ?_ ((Heap.SameBut.update ..).trans (Heap.SameBut.update ..)))⟩))
 &⟨_,Heap.get?_update_self _ g1 (Obj.isFreed_of_fields (Obj.data_mapFields d1 _)),(Obj.cls_mapFields ..).trans ((Obj.cls_mapFields ..).trans hc),?_⟩
 rw[Obj.data_mapFields d1]
 simp[rawInt]
B5 aHU{slot:Nat}{Q:Option Value→Shared→Prop}(hh:A.handled=none)(hit:vp s.heap I (.int (slot:Int) 0) i a es.size ep)(hs:jg s.heap a es ep t)
  (hN:∀(Q':Option (Value×Nat)→Shared→Prop) E',Q' none s→wpAny (model prog w) A.in1 (setNext a slot i ep) Q' E' s)
  (hQ:∀h',(∀b o,b≠I→s.heap.get? b=some o→h'.get? b=some o)→Q none {s with heap:=h'}):wpAny (model prog w) A (pyNext (.ref I)) Q E s:=by
 B3⟨o,ho,hc,hd⟩:=id hit
 B3⟨oa,ha,_,hda,hf⟩:=id hs
 B4 pyNext
 &wpAny_bind (wpAny_attempt (wpAny_callSpecial?_slot (name:=Str.ofString "__next__") hit.ty pU (wpAny_call_entry pU hit.ty Ek ?_ (El _))))
 B4 Builtin.«set_iterator.__next__»
 &wpAny_bind (wpAny_of_eq (a:=(Value.ref I,[])) rfl ?_)
 dsimp only
 &wpAny_bind (wpAny_fieldsOf ho hd ?_)
 dsimp only
 &wpAny_bind (wpAny_setEntries_of ha hda hf ?_)
 rw[if_neg (by simp)]
 dsimp only[D7]
 &wpAny_bind (hN _ _ ?_)
 dsimp only
 &wpAny_bind (wpAny_setField ho hd (by simp) ?_)
 &SJ hh fun v h' ty kp=>wpAny_bind (wpAny_isInstance ty isSubtype_stop ?_)
 ~wpAny_pure (hQ h' fun b o nb e=>kp b o ((Heap.SameBut.update s.heap I _).extBut b o nb e))
B5 aFe{ps:Array Value}{c p:Nat}{tk:Tok}{hx:Int}{x:Value}{oT:Obj}{Q:Option Value→Shared→Prop}(hit:vp s.heap I (.ref T) i a es.size ep)(hs:jg s.heap a es ep t)(hT:s.heap.get? T=some oT)(hTd:oT.data=.seq ps c)(hp:ps[i]?=some (.int (p:Int) tk))(he:es[p]?=some (hx,x))
  (hQ:∀h',vp h' I (.ref T) (i+1) a es.size ep→Heap.SameBut I s.heap h'→Q (some x) {s with heap:=h'}):wpAny (model prog w) A (pyNext (.ref I)) Q E s:=by
 B3⟨o,ho,hc,hd⟩:=id hit
 B3⟨oa,ha,_,hda,hf⟩:=id hs
 B4 pyNext
 &wpAny_bind (wpAny_attempt (wpAny_callSpecial?_slot (name:=Str.ofString "__next__") hit.ty pU (wpAny_call_entry pU hit.ty Ek ?_ (El _))))
 B4 Builtin.«set_iterator.__next__»
 &wpAny_bind (wpAny_of_eq (a:=(Value.ref I,[])) rfl ?_)
 dsimp only
 &wpAny_bind (wpAny_fieldsOf ho hd ?_)
 dsimp only
 &wpAny_bind (wpAny_setEntries_of ha hda hf ?_)
 rw[if_neg (by simp)]
 dsimp only[D7]
 &wpAny_bind (wpAny_seqItems hT hTd ?_)
 dsimp only
 rw[hp]
 dsimp only[D7]
 B4 setNextDrawn
 &wpAny_bind (wpAny_bind (wpAny_setState_of ha hda hf ?_))
 dsimp only
 rw[if_neg (by simp),he]
 dsimp only
 &wpAny_pure (wpAny_bind (wpAny_setField ho hd (by simp) (wpAny_pure ⟨x,rfl,wpAny_pure (hQ _ ?_ (Heap.SameBut.update ..))⟩)))
 &⟨_,Heap.get?_update_self _ ho (Obj.isFreed_of_fields (Obj.data_mapFields hd _)),(Obj.cls_mapFields ..).trans hc,?_⟩
 rw[Obj.data_mapFields hd]
 simp[rawInt]
B5 aHV{ps:Array Value}{c:Nat}{oT:Obj}{Q:Option Value→Shared→Prop}(hh:A.handled=none)(hit:vp s.heap I (.ref T) i a es.size ep)(hs:jg s.heap a es ep t)(hT:s.heap.get? T=some oT)(hTd:oT.data=.seq ps c)(hp:ps[i]?=none)
  (hQ:∀h',(∀b o,b≠I→s.heap.get? b=some o→h'.get? b=some o)→Q none {s with heap:=h'}):wpAny (model prog w) A (pyNext (.ref I)) Q E s:=by
 B3⟨o,ho,hc,hd⟩:=id hit
 B3⟨oa,ha,_,hda,hf⟩:=id hs
 B4 pyNext
 &wpAny_bind (wpAny_attempt (wpAny_callSpecial?_slot (name:=Str.ofString "__next__") hit.ty pU (wpAny_call_entry pU hit.ty Ek ?_ (El _))))
 B4 Builtin.«set_iterator.__next__»
 &wpAny_bind (wpAny_of_eq (a:=(Value.ref I,[])) rfl ?_)
 dsimp only
 &wpAny_bind (wpAny_fieldsOf ho hd ?_)
 dsimp only
 &wpAny_bind (wpAny_setEntries_of ha hda hf ?_)
 rw[if_neg (by simp)]
 dsimp only[D7]
 &wpAny_bind (wpAny_seqItems hT hTd ?_)
 dsimp only
 rw[hp]
 dsimp only
 &wpAny_bind (wpAny_setField ho hd (by simp) ?_)
 have g1:=Heap.get?_update_self (Obj.mapFields (·.setIfInBounds 0 (rawInt 0))) ho (Obj.isFreed_of_fields (Obj.data_mapFields hd _))
 have d1:=Obj.data_mapFields hd (·.setIfInBounds 0 (rawInt 0))
 &wpAny_bind (wpAny_setField g1 d1 (by simp) ?_)
 &SJ hh fun v h' ty kp=>wpAny_bind (wpAny_isInstance ty isSubtype_stop ?_)
 ~wpAny_pure (hQ h' fun b o nb e=>kp b o (((Heap.SameBut.update s.heap I _).trans (Heap.SameBut.update _ I _)).extBut b o nb e))
B5 aHW{slot:Nat}{Q:Option (Value×Nat)→Shared→Prop}(hb:xH w=false)(hs:jg s.heap a es ep t)(h:Q (((pickOrder (w.params.setOrder a ep) es)[i]?).map fun e=>(e.2,slot)) s):wpAny (model prog w) A (setNext a slot i ep) Q E s:=by
 B3⟨oa,ha,_,hda,hf⟩:=id hs
 have ft:w.params.followText "set-order" = true:=by simpa using hb
 B4 setNext
 &wpAny_bind (wpAny_setState_of ha hda hf ?_)
 dsimp only
 B4 setsByText
 &wpAny_bind (wpAny_bind (wpAny_askSetting (wpAny_pure ?_)))
 dsimp only
 rw[show (model prog w).w.params.followText "set-order" = true from ft,if_pos rfl,if_neg (by simp)]
 B4 setWalk setsByText
 &wpAny_bind (wpAny_bind (wpAny_setState_of ha hda hf ?_))
 dsimp only
 &wpAny_bind (wpAny_bind (wpAny_askSetting (wpAny_pure ?_)))
 dsimp only
 rw[show (model prog w).w.params.followText "set-order" = true from ft,if_pos rfl]
 &wpAny_bind (wpAny_askSetting (wpAny_pure (wpAny_pure ?_)))
 ~h
def Jv(t:SetTable):Nat→Nat
 | 0=>0
 | i+1=>t.place.getD i 0+1
B5 jh(up:t.place.toList.Pairwise (·<·))(hi:i≤t.place.size):SetTable.below t.place (Jv t i)=i:=by
 B3⟨b1,b2,b3⟩:=below_at up (Jv t i)
 have mono:∀a b,a<b→b<t.place.size→t.place.getD a 0<t.place.getD b 0:=fun a b q q'=>by
  have:=K5.mp up a b (by simp;omega) (by simpa using q') q
  simp only[U4]at this
  simpa[O3,q',show a<t.place.size by omega]using this
 rcases Nat.lt_trichotomy (SetTable.below t.place (Jv t i)) i with z | z | z
 ·cases i with
  | zero=>omega
  | succ i=>
   have h1:=b3 i A6 A6
   rw[show Jv t (i+1)=t.place.getD i 0+1 from rfl]at h1
   omega
 ·~z
 ·have h1:=b2 i z
  cases i with
  | zero=>~absurd h1 (L6 _)
  | succ i=>
   rw[show Jv t (i+1)=t.place.getD i 0+1 from rfl]at h1
   have:=mono i (i+1) A6 A6
   omega
B5 aHX{Q:Option (Value×Nat)→Shared→Prop}(hb:xH w=true)(hs:jg s.heap a es ep t)(hl:Led (xH w) t)(hdr:(!t.plain&&decide (es.size > 1))=false)(hi:i≤es.size)(h:Q ((es[i]?).map fun e=>(e.2,Jv t (i+1))) s):wpAny (model prog w) A (setNext a (Jv t i) i ep) Q E s:=by
 B3⟨oa,ha,_,hda,hf⟩:=id hs
 have ft:w.params.followText "set-order" = false:=by simpa using hb
 have hz:t.place.size=es.size:=by
  simp only[SetTable.fits,G7,beq_iff_eq]at hf
  ~hf.1
 have up:t.place.toList.Pairwise (·<·):=by
  cases e:t.plain with
  | true=>~(hl.2 e).1
  | false=>
   rw[e]at hdr
   have:es.size≤1:=by simpa using hdr
   match h:t.place.toList with
   | []=>~.nil
   | [x]=>simp
   | x::y::r=>
    have:=congrArg i8 h
    simp at this
    omega
 B4 setNext
 &wpAny_bind (wpAny_setState_of ha hda hf ?_)
 dsimp only
 B4 setsByText
 &wpAny_bind (wpAny_bind (wpAny_askSetting (wpAny_pure ?_)))
 dsimp only
 rw[show (model prog w).w.params.followText "set-order" = false from ft,if_neg (by simp)]
 &wpAny_ite_split (fun q=>?_) fun _=>?_
 ·exfalso
  have q':(!t.plain&&decide (es.size > 1))=true:=q
  rw[hdr]at q'
  cases q'
 ·&wpAny_bind ?_
  &wpAny_ite_split (fun q=>?_) fun _=>wpAny_pure ?_
  ·exfalso
   have:t.led=true:=by rw[hl.1,hb]
   rw[this]at q
   simp at q
  ·rw[jh up A6]
   &wpAny_pure ?_
   rcases K4 i es.size with z | z
   ·rw[M8 z]at h ⊢
    rw[M8 A6]
    have e:t.place[i]'(by omega)=t.place.getD i 0:=by simp[O3,show i<t.place.size by omega]
    simpa[Jv,e]using h
   ·rw[Array.getElem?_eq_none z]at h ⊢
    ~h
end
end L2


namespace L2
open PySem PySem.Spec PyProof.Rows
section
variable{prog:Program}{w:World}{A:Around}{E:Value→Shared→Prop}{s:Shared}{I a T:Addr}{f:Value}{i n ep:Nat}{es:Array (Int×Value)}{t:SetTable}
B5 aFf{M:Model}{src:Source}{m:Nat}{Q:Nat→Shared→Prop}(hm:m≠0)(h:∀i dr,i<m→Q i {s with drawn:=dr}):wpAny M A (choose src m) Q E s:=fun _ _ _=>⟨hm,h _ _ (U5 _ (Nat.pos_of_ne_zero hm))⟩
B5 Yw{M:Model}{α:Type}:∀(m:Nat)(xs:List α)(s:Shared)(Q:List α→Shared→Prop),xs.length=m→(∀ys dr,ys.Perm xs→Q ys {s with drawn:=dr})→wpAny M A (drawOrder m xs) Q E s
 | 0,xs,s,Q,hn,h=>by
  have:xs=[]:=F6 hn
  subst this
  B4 drawOrder
  ~wpAny_pure (h [] s.drawn (R6 _))
 | m+1,[],s,Q,hn,h=>absurd hn (by simp)
 | m+1,x::xs,s,Q,hn,h=>by
  B4 drawOrder
  &wpAny_bind (aFf (by simp) fun i dr hi=>?_)
  rw[B7 hi]
  dsimp only
  &wpAny_bind (Yw m ((x::xs).eraseIdx i) _ _ (by rw[W5 hi];omega) fun ys dr' pm=>wpAny_pure ?_)
  ~h _ dr' ((pm.cons _).trans (Ho _ _ hi))
def Ord(S:Int→Bool)(n:Nat)(ord:List Value):Prop:=ord.length=n∧∃ns,IntsAre ord ns∧∀k,S k=true↔k∈ns
B5 ji{S:Int→Bool}{l:List (Int×Value)}{ord:List Value}(hel:ElemsOf (intKind prog w) l)(hm:∀k,S k=true↔∃e∈l,(intKind prog w).is k e.2=true)(hn:l.length=n)(pm:ord.Perm (l.map (·.2))):Ord S n ord:=by
  &⟨by rw[pm.length_eq,B6,hn],?_⟩
  have allI:∀v∈ord,∃k t,v=Value.int k t:=fun v hv=>by
    B3⟨e,he,rfl⟩:=J2.mp (pm.mem_iff.mp hv)
    B3⟨⟨k,hk,_⟩,_⟩:=hel e he
    B3⟨t,ht⟩:=Value.isInt_shape hk
    ~⟨k,t,ht⟩
  have mk:∀vs:List Value,(∀v∈vs,∃k t,v=Value.int k t)→∃ns,IntsAre vs ns∧∀k,k∈ns↔∃t,Value.int k t∈vs:=by
    intro vs
    induction vs with
    | nil=>~fun _=>⟨[],.nil,fun k=>by simp⟩
    | cons v vs ih=>
      intro hv
      B3⟨ns,h1,h2⟩:=ih fun v q=>hv v (C8 _ q)
      B3⟨k,t,rfl⟩:=hv v D6
      &⟨k::ns,.cons k t h1,fun j=>?_⟩
      rw[D5,h2]
      constructor
      · rintro(rfl | ⟨t',q⟩)
        · ~⟨t,D6⟩
        · ~⟨t',C8 _ q⟩
      · rintro⟨t',q⟩
        rcases D5.mp q with q | q
        · injection q with q
          ~.inl q
        · ~.inr ⟨t',q⟩
  B3⟨ns,h1,h2⟩:=mk ord allI
  &⟨ns,h1,fun k=>?_⟩
  rw[hm,h2]
  constructor
  · rintro⟨e,he,hk⟩
    B3⟨t,ht⟩:=Value.isInt_shape hk
    ~⟨t,pm.mem_iff.mpr (J2.mpr ⟨e,he,ht⟩)⟩
  · rintro⟨t,q⟩
    B3⟨e,he,q⟩:=J2.mp (pm.mem_iff.mp q)
    ~⟨e,he,by rw[q];~intKind_is _ _ _ _⟩
B5 Ud(hh:A.handled=none)(ne:a≠I){slot:Nat→Nat}{ord:List Value}(hz:ord.length=es.size)
  (hN:∀(s:Shared)(i:Nat)(Q':Option (Value×Nat)→Shared→Prop) E',i≤es.size→jg s.heap a es ep t→Q' ((ord[i]?).map fun v=>(v,slot (i+1))) s→wpAny (model prog w) A.in1 (setNext a (slot i) i ep) Q' E' s) :
  Walks prog w A I [I,a] [I] es.size (fun i v=>ord[i]?=some v) (fun i h=>vp h I (.int (slot i:Int) 0) i a es.size ep∧jg h a es ep t) where
 sub:=fun b hb=>by simp at hb;simp[hb]
 frame:=fun _ _ _ x kp=>⟨x.1.at_ fun o e=>kp I (by simp) o e,x.2.at_ fun o e=>kp a (by simp) o e⟩
 item:=fun i s Q E hi x hQ=>by
  have e:ord[i]?=some (ord[i]'(by omega)):=B7 A6
  &aFd (x:=ord[i]'(by omega)) (nxt:=slot (i+1)) x.1 x.2 (fun Q' E' q=>hN s i Q' E' A6 x.2 (by rw[e];~q)) fun h' st sb=>?_
  ~hQ _ h' s.toks e ⟨st,x.2.at_ fun o eo=>sb.extBut a o ne eo⟩ fun b o hb eo=>sb.extBut b o (fun z=>hb (by simp[z])) eo
 done:=fun s Q E x hQ=>aHU hh x.1 x.2 (fun Q' E' q=>hN s es.size Q' E' (C5 _) x.2 (by rw[E2 A6];~q)) fun h' kp=>hQ h' s.toks fun b o hb e=>kp b o (fun z=>hb (by simp[z])) e
 self:=fun _ _ _ _ x hQ=>vq x.1 hQ
B5 jj(hh:A.handled=none)(ne:a≠I)(neT:T≠I){ps:List Nat}(hz:ps.length=es.size)(hp:∀p∈ps,p<es.size) :
  Walks prog w A I [I,a,T] [I] es.size (fun i v=>(ps.map fun p=>(es.getD p (0,.none)).2)[i]?=some v) (fun i h=>vp h I (.ref T) i a es.size ep∧jg h a es ep t∧∃o c,h.get? T=some o∧o.data=.seq (ps.map fun(p:Nat)=>rawInt p).toArray c) where
 sub:=fun b hb=>by simp at hb;simp[hb]
 frame:=fun _ _ _ x kp=>⟨x.1.at_ fun o e=>kp I (by simp) o e,x.2.1.at_ fun o e=>kp a (by simp) o e,let ⟨o,c,ho,hd⟩:=x.2.2;⟨o,c,kp T (by simp) o ho,hd⟩⟩
 item:=fun i s Q E hi x hQ=>by
  B3⟨h1,h2,oT,c,hT,hTd⟩:=x
  have lt:i<ps.length:=by omega
  have lp:=hp ps[i] (N6 lt)
  &aFe (p:=ps[i]) (tk:=0) (hx:=es[ps[i]].1) (x:=es[ps[i]].2) h1 h2 hT hTd (by simp[lt,rawInt]) (by rw[M8 lp]) fun h' st sb=>?_
  ~hQ _ h' s.toks (by simp[lt,O3,lp]) ⟨st,h2.at_ fun o eo=>sb.extBut a o ne eo,oT,c,sb.extBut T oT neT hT,hTd⟩ fun b o hb eo=>sb.extBut b o (fun z=>hb (by simp[z])) eo
 done:=fun s Q E x hQ=>by
  B3⟨h1,h2,oT,c,hT,hTd⟩:=x
  ~aHV hh h1 h2 hT hTd (by simp[hz]) fun h' kp=>hQ h' s.toks fun b o hb e=>kp b o (fun z=>hb (by simp[z])) e
 self:=fun _ _ _ _ x hQ=>vq x.1 hQ
B5 aCq{S:Int→Bool}{Q:Value→Shared→Prop}(hh:A.handled=none)(hs:Hq prog w (xH w) s.heap a S n)
    (h:∀(h1:Heap)(dr:Drawn)(I:Addr)(fp:List Addr)(ord:List Value)(St:Nat→Heap→Prop),(∀b o,s.heap.get? b=some o→h1.get? b=some o)→Walks prog w A I fp [I] n (fun i v=>ord[i]?=some v) St→St 0 h1→(∀x∈fp,x=a∨s.heap.objs.size≤x)→s.heap.objs.size≤I→Ord S n ord→Q (.ref I) {s with heap:=h1,drawn:=dr}) :
    wpAny (model prog w) A (pyIter (.ref a)) Q E s:=by
  B3⟨o,es,ep,t,ho,hex,hd,hel,hm,hz,hf,hn,hl⟩:=hs
  have sat:jg s.heap a es ep t:=⟨o,ho,hex.1,hd,hf⟩
  have lt:=Heap.lt_size ho
  subst hn
  &wpAny_pyIter_slot sat.ty b5 (wpAny_call_entry b5 sat.ty aAF ?_ (PySem.F.args_set_iter_1 _))
  B4 Builtin.«frozenset.__iter__» Builtin.Frozenset.slot0
  &wpAny_bind (wpAny_bind (wpAny_of_eq (a:=(Value.ref a,[])) rfl ?_))
  B4 Builtin.Frozenset.addrOf Builtin.Frozenset.sizeOf
  &wpAny_pure (wpAny_bind (wpAny_bind (wpAny_setEntries_of ho hd hf (wpAny_pure ?_))))
  B4 setDrawn setsByText
  &wpAny_bind (wpAny_bind (wpAny_setState_of ho hd hf ?_))
  dsimp only
  &wpAny_bind (wpAny_bind (wpAny_askSetting (wpAny_pure ?_)))
  &wpAny_pure ?_
  &wpAny_ite_split (fun c=>?_) fun c=>?_
  · have c':(xH w&&(!t.plain&&decide (es.size > 1)))=true:=c
    rw[G7]at c'
    &wpAny_bind (Yw es.size (D4 es.size) s _ (by simp) fun ps dr pm=>?_)
    have lps:ps.length=es.size:=by rw[pm.length_eq,D8]
    have hp:∀p∈ps,p<es.size:=fun p hp=>F9.mp (pm.mem_iff.mp hp)
    &wpAny_bind (wpAny_newTuple ?_ (by rw[B6,lps];~fits_of_scanBound hz))
    have g1:(s.heap.push {cls:=.type "tuple", data:=.seq (ps.map fun(i:Nat)=>rawInt i).toArray}).get? a=some o:=Heap.get?_push_of_some _ ho
    &wpAny_bind (wpAny_setEpoch_of g1 hd hf ?_)
    &wpAny_bind (wpAny_newObj_type (wpAny_pure ⟨_,rfl, "set_iterator", _,⟨_,Heap.get?_push_size _ rfl,rfl⟩,pU.lookup,?_⟩))
    &h _ dr _ _ (ps.map fun p=>(es.getD p (0,.none)).2) _ (fun b o e=>Heap.get?_push_of_some _ (Heap.get?_push_of_some _ e)) (jj (T:=s.heap.objs.size) (t:=t) (ep:=ep) hh ?_ ?_ lps hp) ⟨⟨_,Heap.get?_push_size _ rfl,rfl,rfl⟩,sat.at_ fun o e=>Heap.get?_push_of_some _ (Heap.get?_push_of_some _ e),_,_,Heap.get?_push_of_some _ (Heap.get?_push_size _ rfl),rfl⟩ ?_ ?_ ?_
    · show a≠(s.heap.push _).objs.size
      rw[Heap.size_push]
      ~E7 (M4 lt)
    · show s.heap.objs.size≠(s.heap.push _).objs.size
      rw[Heap.size_push]
      ~E7 (M7 _)
    · intro x hx
      rcases D5.mp hx with z | z
      · rw[z]
        show _∨s.heap.objs.size≤(s.heap.push _).objs.size
        rw[Heap.size_push]
        ~.inr (M9 _)
      · rcases D5.mp z with z | z
        · ~.inl z
        · rw[E3.mp z]
          ~.inr (C5 _)
    · show s.heap.objs.size≤(s.heap.push _).objs.size
      rw[Heap.size_push]
      ~M9 _
    · &ji (prog:=prog) (w:=w) hel hm (by simp) ?_
      have e:es.toList.map (·.2)=(D4 es.size).map fun p=>(es.getD p (0,.none)).2:=by
        &X5 (by simp) fun k k1 k2=>?_
        simp at k1
        simp[O3,k1]
      rw[e]
      ~pm.map _
  · &wpAny_bind (wpAny_pure ?_)
    &wpAny_bind (wpAny_setEpoch_of ho hd hf ?_)
    &wpAny_bind (wpAny_newObj_type (wpAny_pure ⟨_,rfl, "set_iterator", _,⟨_,Heap.get?_push_size _ rfl,rfl⟩,pU.lookup,?_⟩))
    have ne:a≠s.heap.objs.size:=E7 lt
    have fp':∀x∈[s.heap.objs.size,a],x=a∨s.heap.objs.size≤x:=fun x hx=>by
      rcases D5.mp hx with z | z
      · ~.inr (d9 z.symm)
      · ~.inl (E3.mp z)
    cases hb:xH w with
    | false=>
      have pm:=aAC (w.params.setOrder a ep) es
      &h _ s.drawn _ _ ((pickOrder (w.params.setOrder a ep) es).toList.map (·.2)) _ (fun b o e=>Heap.get?_push_of_some _ e) (Ud (t:=t) (ep:=ep) (slot:=fun _=>0) hh ne (by rw[B6,pm.length_eq,J9]) fun s i Q' E' hi x q=>?_) ⟨⟨_,Heap.get?_push_size _ rfl,rfl,rfl⟩,sat.at_ fun o e=>Heap.get?_push_of_some _ e⟩ fp' (C5 _) (ji (prog:=prog) (w:=w) hel hm (by simp) (pm.map _))
      &aHW hb x ?_
      rw[B9,L7,l9]at q
      ~q
    | true=>
      have c':(!t.plain&&decide (es.size > 1))=false:=by
        have c2:¬(xH w&&(!t.plain&&decide (es.size > 1)))=true:=c
        rw[hb,Bool.true_and]at c2
        simpa using c2
      &h _ s.drawn _ _ (es.toList.map (·.2)) _ (fun b o e=>Heap.get?_push_of_some _ e) (Ud (t:=t) (ep:=ep) (slot:=Jv t) hh ne (by simp) fun s i Q' E' hi x q=>?_) ⟨⟨_,Heap.get?_push_size _ rfl,rfl,rfl⟩,sat.at_ fun o e=>Heap.get?_push_of_some _ e⟩ fp' (C5 _) (ji (prog:=prog) (w:=w) hel hm (by simp) (R6 _))
      &aHX hb x hl c' hi ?_
      rw[B9,L7,l9]at q
      ~q
end
end L2


namespace L2
open PySem PySem.Spec PySem.Calls PyProof.Rows PyProof.V
section
variable{prog:Program}{w:World}{A:Around}{E:Value→Shared→Prop}{s:Shared}{I a T:Addr}{n:Nat}{S:Int→Bool}
B5 aCr{Q:Bool→Shared→Prop}(hT:s.TypeIs (.ref a) "set") (h:Q false s):wpAny (model prog w) A (Builtin.List.listLengthHint (.ref a)) Q E s:=by
 B4 Builtin.List.listLengthHint
 &wpAny_bind (wpAny_specialOf hT PySem.F.slot_set_len.lookup ?_)
 generalize hid:("set.__len__" : String)=id0
 wp_delta
 rw[show splitId id0=some ("set", "__len__")from by subst hid;decide +kernel]
 subst hid
 &wpAny_bind (wpAny_isInstance (T := "set") (b:=true) hT (by rw[isSubtype_type];kernel_rfl) (wpAny_ite_split (fun z=>absurd z A8) fun _=>wpAny_ite_split (fun _=>?_) fun z=>absurd A7 z))
 ~wpAny_bind (wpAny_typeOf hT (wpAny_pure h))
B5 aFg{R:Result→Shared→Prop}(hh:A.handled=none)(hs:Hq prog w (xH w) s.heap a S n)(hz:n≤sizeLine)(L:Addr)(ne:L≠a)(hL:s.heap.get? L=some {cls:=.type "list", data:=.seq #[] 0})
    (hR:∀h' dr tk acc c,(∀b o,b≠L→s.heap.get? b=some o→h'.get? b=some o)→h'.get? L=some {cls:=.type "list", dict:=none,data:=.seq acc c,slots:=#[]}→Ord S n acc.toList→R (.ok (.ret (.ref L))) {s with heap:=h',drawn:=dr,toks:=tk}) :
    wpAny (model prog w) A.in1 (Builtin.List.listExtendWith (.ref L) (.ref a) (.ref L)) (fun fin s'=>match fin with | .done f=>R (.ok f) s' | .again c'=>c'.quiet=true∧codeAny (model prog w) A c' R s') (fun e s'=>R (.error e) s') s:=by
  have lt:L<s.heap.objs.size:=Heap.lt_size hL
  have ty:s.TypeIs (.ref a) "set" := let ⟨o,_,_,_,ho,hex,_⟩:=hs;⟨o,ho,hex.1⟩
  B4 Builtin.List.listExtendWith
  &wpAny_bind (wpAny_typeOf (T := "set") ty ?_)
  have h1:Builtin.List.listSameRef (.ref L) (.ref a)=false:=by simp[Builtin.List.listSameRef,ne]
  have h2:(Value.type "set" == Value.type "list")=false:=by decide
  have h3:(Value.type "set" == Value.type "tuple")=false:=by decide
  simp only[h1,h2,h3,m9,V8,if_false]
  &wpAny_bind (aCq (A:=A.in1) hh hs fun h0 dr I fp ord St kp W st fpo lI od=>?_)
  have hL1:=kp _ _ hL
  have nf:L∉fp:=fun z=>by
    rcases fpo L z with z | z
    · ~ne z
    · ~absurd lt (Nat.not_lt.mpr z)
  have nI:∀b o,s.heap.get? b=some o→b≠I:=fun b o e=>E7 (E1 (Heap.lt_size e) lI)
  have key:∀(h:Heap)(c1 tk:Nat),St 0 h→(∀b o,b≠L→s.heap.get? b=some o→h.get? b=some o)→h.get? L=some {cls:=.type "list", data:=.seq #[] c1}→codeAny (model prog w) A (.builtin "list.extend.loop" ⟨[.ref L,.ref I,.ref L],[]⟩) R {s with heap:=h,drawn:=dr,toks:=tk}:=by
    intro h c1 tk st0 k0 g0
    &codeAny_extend_loopS W.toS hz L nf (.ref L) n 0 _ #[] c1 rfl (M0 _) st0 g0 (ItemsOf.nil _) fun s' acc c mv g' it=>?_
    rw[Moved.eq_with mv]
    &hR s'.heap dr s'.toks acc c (fun b o nb e=>mv.heap b o (fun z=>?_) (k0 b o nb e)) g' ?_
    · rcases D5.mp z with z | z
      · ~nb z
      · ~nI b o e (E3.mp z)
    · have e:acc.toList=ord:=by
        &K1 fun j=>?_
        rcases K4 j acc.size with z | z
        · have e1:acc[j]?=some acc[j]:=M8 z
          rw[L7,e1,it.2 j _ e1]
        · rw[E2 (by simpa using z),E2 (by have:=it.1;have:=od.1;omega)]
      rw[e]
      ~od
  &wpAny_bind (wpAny_holding (aCr (hT:=let ⟨o,ho,hc⟩:=ty;⟨o,kp _ _ ho,hc⟩) ?_))
  &wpAny_ite_split (fun _=>?_) fun _=>wpAny_pure ⟨plainId_quiet X1 _,key _ 0 _ st (fun b o _ e=>kp b o e) hL1⟩
  &wpAny_bind (wpAny_rule (wpAny_bind ?_))
  show wpAny _ _ (updateSeq L (·.push .none) >>= fun _=>updateSeq L (·.pop)) _ _ _
  &wpAny_bind (wpAny_updateSeq hL1 rfl ?_)
  have g2:=Heap.get?_update_self (Obj.mapSeq (·.push Value.none)) hL1 rfl
  &wpAny_updateSeq (hz:=by seq_fits) g2 rfl ?_
  have g3:=Heap.get?_update_self (Obj.mapSeq (·.pop)) g2 rfl
  &wpAny_pure ⟨plainId_quiet X1 _,key _ _ _ (W.frame 0 _ _ st fun b hb o e=>?_) (fun b o hb e=>?_) g3⟩
  · have nb:b≠L:=fun z=>nf (z▸hb)
    ~(Heap.get?_update_other _ _ (Ne.symm nb)).trans ((Heap.get?_update_other _ _ (Ne.symm nb)).trans e)
  · ~(Heap.get?_update_other _ _ (Ne.symm hb)).trans ((Heap.get?_update_other _ _ (Ne.symm hb)).trans (kp b o e))
B5 SM{R:List Value→Shared→Prop}(hh:A.handled=none)(hs:Hq prog w (xH w) s.heap a S n)(hz:n≤sizeLine)
  (h:∀(h':Heap)(dr:Drawn)(tk:Nat)(acc:List Value),(∀b o,s.heap.get? b=some o→h'.get? b=some o)→Ord S n acc→R acc {s with heap:=h',drawn:=dr,toks:=tk}):wpAny (model prog w) A (collect (.ref a)) R E s:=by
 have lt:a<s.heap.objs.size:=let ⟨o,_,_,_,ho,_⟩:=hs;Heap.lt_size ho
 B4 collect
 &wpAny_bind (wpAny_runValue (codeAny_builtin entry_proto_collect' ?_))
 rw[Around.under_plainId PySem.F.plain_proto_collect _]
 show wpAny _ A.in1 (newList [] >>= fun l=>again (.builtin "list.__iadd__" ⟨[l,.ref a],[]⟩)) _ _ s
 &wpAny_bind (wpAny_newObj_type (wpAny_pure ⟨plainId_quiet Y4 _,codeAny_builtin entry_list_iadd' ?_⟩))
 rw[Around.under_plainId Y4 _]
 have g1:(s.heap.push {cls:=.type "list", data:=.seq ([]:List Value).toArray}).get? s.heap.objs.size=some {cls:=.type "list", data:=.seq #[]}:=Heap.get?_push_size _ rfl
 show wpAny _ A.in1 (Builtin.List.listExtendWith (.ref s.heap.objs.size) (.ref a) (.ref s.heap.objs.size)) _ _ _
 have key:=aFg (A:=A) (s:={s with heap:=s.heap.push {cls:=.type "list", data:=.seq ([]:List Value).toArray}})
  (R:=fun(q:Result) (s':Shared)=>∃(h':Heap)(dr:Drawn)(tk:Nat)(acc:Array Value)(c:Nat),q=.ok (.ret (.ref s.heap.objs.size))∧s'={s with heap:=h',drawn:=dr,toks:=tk}∧(∀b o,s.heap.get? b=some o→h'.get? b=some o)∧h'.get? s.heap.objs.size=some {cls:=.type "list", dict:=none,data:=.seq acc c,slots:=#[]}∧Ord S n acc.toList)
  hh (hs.at_ fun o e=>Heap.get?_push_of_some _ e) hz s.heap.objs.size (O6 lt) g1 fun h' dr tk acc c kp g od=>⟨h',dr,tk,acc,c,rfl,rfl,fun b o e=>kp b o (E7 (Heap.lt_size e)) (Heap.get?_push_of_some _ e),g,od⟩
 &wpAny_mono key (fun fin s' x=>?_) fun e s' x=>?_
 ·cases fin with
  | done f=>
   B3⟨h',dr,tk,acc,c,e,rfl,kp,g,od⟩:=x
   cases e
   show wpAny _ A (load s.heap.objs.size >>= _) _ _ _
   ~wpAny_bind (wpAny_load g (wpAny_pure (h h' dr tk acc.toList kp od)))
  | again c1=>
   &⟨x.1,codeAny_mono x.2 fun q s2 y=>?_⟩
   B3⟨h',dr,tk,acc,c,rfl,rfl,kp,g,od⟩:=y
   show wpAny _ A (load s.heap.objs.size >>= _) _ _ _
   ~wpAny_bind (wpAny_load g (wpAny_pure (h h' dr tk acc.toList kp od)))
 ·B3⟨_,_,_,_,_,e',_⟩:=x
  cases e'
end
end L2


namespace L2
open PySem PySem.Spec PySem.Calls PyProof.Rows PyProof.V
def Ue(k:Int):List Int→List Int
 | []=>[k]
 | a::l=>if k<a then k::a::l else if k=a then a::l else a::Ue k l
B5 Ug(k j:Int):∀l:List Int,j∈Ue k l↔j=k∨j∈l
  | []=>by simp[Ue]
  | a::l=>by
    B4 Ue
    split
    · simp
    · split
      · rename_i e
        subst e
        simp
      · rw[D5,Ug k j l,D5]
        constructor
        · rintro(h | h | h)
          · ~.inr (.inl h)
          · ~.inl h
          · ~.inr (.inr h)
        · rintro(h | h | h)
          · ~.inr (.inl h)
          · ~.inl h
          · ~.inr (.inr h)
B5 vy(k:Int):∀l:List Int,l.Pairwise (·<·)→(Ue k l).Pairwise (·<·)
 | [],_=>by simp[Ue]
 | a::l,h=>by
  B3⟨h1,h2⟩:=I0.mp h
  B4 Ue
  split
  ·rename_i c
   &I0.mpr ⟨fun x hx=>?_,h⟩
   rcases D5.mp hx with z | z
   ·omega
   ·have:=h1 x z
    omega
  ·split
   ·~h
   ·&I0.mpr ⟨fun x hx=>?_,vy k l h2⟩
    rcases(Ug k x l).mp hx with z | z
    ·omega
    ·~h1 x z
def bc:List Int→List Int
 | []=>[]
 | a::l=>Ue a (bc l)
B5 Rg(j:Int):∀ns:List Int,j∈bc ns↔j∈ns
 | []=>Iff.rfl
 | a::l=>by
  rw[bc,Ug,Rg j l,D5]
B5 IV:∀ns:List Int,(bc ns).Pairwise (·<·)
 | []=>.nil
 | a::l=>vy a _ (IV l)
B5 aCs{ns ms:List Int}(h:ms.Pairwise (·<·))(m:∀k,k∈ms↔k∈ns):ms=bc ns:=rN h (IV ns) fun j=>(m j).trans (Rg j ns).symm
B5 SN(k:Int):∀l:List Int,(Ue k l).length≤l.length+1
 | []=>by simp[Ue]
 | a::l=>by
  B4 Ue
  split
  ·simp
  ·split
   ·simp
   ·have:=SN k l
    simp only[F0]
    omega
B5 vz:∀ns:List Int,(bc ns).length≤ns.length
 | []=>C5 _
 | a::l=>by
  have:=SN a (bc l)
  have:=vz l
  simp only[bc,F0]
  omega
B5 Uh{α:Type} [DecidableEq α]:∀{l m:List α},l.Nodup→(∀x∈l,x∈m)→m.length≤l.length→l.Perm m
 | [],m,_,_,h=>by
  have:m=[]:=F6 (by simpa using h)
  subst this
  ~R6 _
 | a::l,m,hn,hs,hl=>by
  B3⟨h1,h2⟩:=K8.mp hn
  have ha:=hs a D6
  have e:=List.perm_cons_erase ha
  &List.Perm.trans (List.Perm.cons a (Uh h2 (fun x hx=>?_) ?_)) e.symm
  ·have ne:x≠a:=fun z=>by
    rw[z]at hx
    ~h1 hx
   ~(List.mem_erase_of_ne ne).mpr (hs x (C8 _ hx))
  ·rw[X6 ha]
   simp only[F0]at hl
   omega
B5 uX(val:Nat→Int):∀i,(firstMet val i).Nodup
 | 0=>by rw[firstMet_zero];~a8
 | i+1=>by
  rw[firstMet_succ]
  B4 step_dedup
  have ih:=uX val i
  split
  ·~ih
  ·rename_i c
   &N4.mpr ⟨ih,by simp,fun x hx y hy=>?_⟩
   rw[E3.mp hy]
   intro z
   subst z
   ~c (Q6.mpr ⟨_,hx,by simp⟩)
B5 aAG{ns ks ms:List Int}(hk:∀k,(firstMet (fun i=>ns.getD i 0) ns.length).any (·==k)=true↔k∈ks)(hl:ks.length=(firstMet (fun i=>ns.getD i 0) ns.length).length)(hm:ms.Perm ks)(hs:ms.Pairwise (·≤·)):ms=bc ns:=by
 have hmem:∀k,k∈ks↔k∈ns:=fun k=>by
  rw[←hk,firstMet_any]
  have e:(D4 ns.length).map (fun i=>ns.getD i 0)=ns:=by
   &X5 (by simp) fun i h1 h2=>?_
   simp[B8,h2]
  rw[e,Q6]
  ~⟨fun⟨x,hx,q⟩=>by rw[←(beq_iff_eq.mp q)];~hx,fun h=>⟨k,h,by simp⟩⟩
 have nd:ks.Nodup:=by
  have p:=Uh (uX (fun i=>ns.getD i 0) ns.length) (m:=ks) (fun x hx=>(hk x).mp (Q6.mpr ⟨x,hx,by simp⟩)) A6
  ~p.nodup_iff.mp (uX _ _)
 &aCs ?_ fun k=>(hm.mem_iff).trans (hmem k)
 have ndm:=hm.nodup_iff.mpr nd
 ~(hs.and ndm).imp fun q=>by have:=q.1;have:=q.2;omega
section
variable{X:Cx}{e:Expr}{t:TE}{x y:Str}{p p2 pos pos2:Pos}
B5 aFh{T id:String}{r:V→Hp→VK→Prop}(hc:∀(pins:List (Addr×Obj))(s:Shared)(σ:St)(H:Hp)(v:V)(u:Value)(Q:VK),Inv X pins σ H s→RelV v u→r v H Q→wpAny (model X.prog X.w) X.A (call (.type T) [u]) (fun u' s'=>wpAny (model X.prog X.w) X.A (call (.builtin id) [u']) (EP X pins σ Q) X.xe s') X.xe s)
  (ha:PE X e t) (hg:Gl X x) (hm:X.mg x=none) (hv:bootBuiltins x=some (.builtin id)) (hg2:Gl X y) (hm2:X.mg y=none) (hv2:bootBuiltins y=some (.type T)) (hn:x ≠ "__name__" := by decide) (hdb:(x==("__debug__" : Str))=false:=by decide) (hn2:y ≠ "__name__" := by decide) (jk:(y==("__debug__" : Str))=false:=by decide)
  (he:starEach [e] X.env=[(false,eval e X.env)]:=by rfl) (he2:starEach [.Call (.Name y p2) [e] [] pos2] X.env=[(false,eval (.Call (.Name y p2) [e] [] pos2) X.env)]:=by rfl) :
  PE X (.Call (.Name x p) [.Call (.Name y p2) [e] [] pos2] [] pos) (tUn r t):=by
 intro pins s σ H Q I h
 &wpAny_Call_Name_kw (yW I hg hm hv ?_ hn hdb)
 &U2 ?_ he2 rfl
 rw[he2]
 &Calls.spliced_cons (wpAny_Call_Name_kw (yW I hg2 hm2 hv2 ?_ hn2 jk))
 &L0 ?_ he rfl
 rw[he]
 ~Calls.spliced_cons (jG (ha pins s σ H _ I h) fun u s1 ⟨v,H1,I1,r1,q1⟩=>Calls.spliced_nil (jG (hc pins s1 σ H1 v u Q I1 r1 q1) fun u' s' z=>Calls.spliced_nil z))
B5 Inv.drew{pins:List (Addr×Obj)}{σ:St}{H:Hp}{s:Shared}(J:Inv X pins σ H s)(dr:Drawn):Inv X pins σ H {s with drawn:=dr}:=⟨J.ok,J.os,J.bare,J.base,J.loc,J.cell,J.free,J.Av,J.pin,J.hok,J.len⟩
def aGv(K:aJ):V→Hp→VK→Prop:=fun v H Q=>∃(p:Addr)(ns:List Int),v=.ref p∧rJ K H p (ns.map V.int)∧ns.length<64∧∀l,H l=none→Q (.ref l) (upd H l (.lst ((bc ns).map V.int)))
B5 aHY(hc:X.calm=true)(pins:List (Addr×Obj))(s:Shared)(σ:St)(H:Hp)(v:V)(u:Value)(Q:VK)(I:Inv X pins σ H s)(rv:RelV v u)(h:aGv X.K v H Q) :
  wpAny (model X.prog X.w) X.A (call (.type "set") [u]) (fun u' s'=>wpAny (model X.prog X.w) X.A (call (.builtin "sorted") [u']) (EP X pins σ Q) X.xe s') X.xe s:=by
 B3⟨p,ns,rfl,hq,h64,q⟩:=h
 cases rv
 B3⟨its,r,pl,hz⟩:=I.list hq
 have hlen:=r.length
 rw[B6]at hlen
 &aJy (its:=its.toArray) (ns:=ns) (I.ok.hd hc) pl.isList (by simpa using intsAre_of r) (by rw[C6];B4 scanBound;omega) fun h1 tk1 S1 kp1=>?_
 have I1:Inv X pins σ H {s with heap:=h1,toks:=tk1}:=I.kept (t':=tk1) kp1
 have ez:its.toArray.size=ns.length:=by simp[hlen]
 rw[ez]at S1
 have hfl:=firstMet_length_le (fun i=>ns.getD i 0) ns.length
 &Calls.call_function_entry kind_sorted plain_sorted entry_sorted (args_sorted1 _) ?_
 B4 Builtin.«sorted»
 &wpAny_bind (m:=checkCount "sorted" 1 1 _) (wpAny_pure (wpAny_bind (SM (A:=X.A.in1) (I.ok.hd hc) S1 (O5 (xU A6)) fun h2 dr tk2 acc kp2 od=>?_)))
 B3⟨al,ks,ik,mk⟩:=od
 have hla:ks.length=acc.length:=(IntsAre.length ik).symm
 &wpAny_bind (wpAny_newList ?_ (by rw[al];~O5 (xU A6)))
 have hoL:(h2.push (seqObj "list" acc.toArray 0)).get? h2.objs.size=some (seqObj "list" acc.toArray 0):=Heap.get?_push_size _ rfl
 &wpAny_bind (wpAny_holding (wpAny_call_entry slot_list_sort ⟨_,hoL,rfl⟩ entry_list_sort (list_sort_tree hoL ik A6 fun out ns' a1 a2 a3=>⟨_,rfl,?_⟩) (args_list_sort _)))
 &wpAny_pure ⟨_,rfl,?_⟩
 B3⟨e,he⟩:=sortedHeap_at (out:=out) hoL
 have I2:Inv X pins σ H {s with heap:=h2,drawn:=dr,toks:=tk2}:=(I1.kept (t':=tk2) kp2).drew dr
 have hs:H h2.objs.size=none:=I2.hok.fresh (C5 _)
 have hl2:ns'.length=ks.length:=a2.length_eq
 have I3:=I2.laid (t':=tk2) (a:=h2.objs.size) (o:=.lst (ns'.map V.int)) (h':=sortedHeap (h2.push (seqObj "list" acc.toArray 0)) h2.objs.size acc out)
  (fun b o eb=>by
   have hlt:=Heap.lt_size eb
   rw[sortedHeap_old (E7 hlt) (by rw[Heap.size_push];~M4 hlt)]
   ~Heap.get?_push_of_some _ eb) (C5 _)
  ⟨by rw[B6];~O5 (xU A6),out.toList,e,Dz a1,by simpa[seqObj]using he⟩
 rw[aAG mk A6 a2 a3]at I3
 ~⟨.ref _,_,I3,rfl,q _ hs⟩
end
end L2


namespace L2
open PySem PySem.Spec PySem.Calls PyProof.Rows PyProof.V
section
variable{prog:Program}{w:World}{A:Around}{E:Value→Shared→Prop}{s:Shared}{I l:Addr}
end
section
variable{K:aJ}{X:Cx}{e:Expr}{t:TE}{f:FE}{x y:Str}{p p2 pos pos2:Pos}
def tL(φ:D→Option D)(f:FE):FE:=fun e=>(f e).bind φ
def SQ:D→Option D
 | .lst ds=>(intsOf ds).bind fun ns=>if ns.length<64 then some (.lst ((bc ns).map D.int))else none
 | _=>none
B5 wg(h:XR K X e t f)(hg:Gl X x)(hm:X.mg x=none)(hv:bootBuiltins x=some (.builtin "sorted")) (hg2:Gl X y) (hm2:X.mg y=none) (hv2:bootBuiltins y=some (.type "set")) (hc:X.calm=true:=by rfl) (hn:x ≠ "__name__" := by decide) (hdb:(x==("__debug__" : Str))=false:=by decide) (hn2:y ≠ "__name__" := by decide) (jk:(y==("__debug__" : Str))=false:=by decide)
  (he:starEach [e] X.env=[(false,eval e X.env)]:=by rfl) (he2:starEach [.Call (.Name y p2) [e] [] pos2] X.env=[(false,eval (.Call (.Name y p2) [e] [] pos2) X.env)]:=by rfl) :
  XN K X (.Call (.Name x p) [.Call (.Name y p2) [e] [] pos2] [] pos) (tUn (aGv K) t) (tL SQ f):=⟨h.hk,aFh (by have:=h.hk;subst this;~aHY hc) h.pe hg hm hv hg2 hm2 hv2 hn hdb hn2 jk he he2,fun σ H e d Q re q k=>by
 B3⟨d0,q1,q2⟩:=bA q
 B4 SQ at q2
 split at q2
 ·B3⟨ns,q3,q4⟩:=bA q2
  split at q4
  ·rename_i hl
   cases q4
   &h.ev σ H H e _ _ (Zn.self K H) re q1 fun v H1 Z1 s1 t1 z1 rv=>?_
   B3⟨p,rfl,r2⟩:=By q3 (z1.sm.rv _ _ rv)
   ~⟨p,ns,rfl,r2,hl,fun l hl=>k _ _ (s1.trans (dI hl _)) ((wD (aV.refl _) (.fU (cY _) (kW.mpr rfl)) hl).back s1)⟩
  ·cases q4
 ·cases q2⟩
end
end L2


namespace L2
open PySem PySem.Spec PySem.Calls PyProof.Rows PyProof.V PySem.W Att
abbrev Small(k:Int):Prop:=Builtin.Int.intBits k≤1048576
B5 aCt{ns:List Int}(h:WData.layableAll [WData.list (ns.map WData.int)]=true):∀k∈ns,Small k:=fun k hk=>by
 have h1:(WData.list (ns.map WData.int)).layable=true:=by simpa[WData.layableAll]using h
 B3⟨c,_,w⟩:=layableW_iff.mp h1
 have c':WData.canLayAll (ns.map WData.int)=true:=by simpa[WData.canLay]using c
 have w':WData.weightAll (ns.map WData.int)≤2 ^ 20:=by simpa[WData.weight]using w
 have:=(items_part (J2.mpr ⟨k,hk,rfl⟩) c').2.2
 have e:(WData.int k).weight=Builtin.Int.intBits k:=by simp only[WData.weight,Builtin.Int.intBits]
 rw[e]at this
 ~G0 this w'
B5 SX{l:OpenLaw}{n:Nat}{q:Program}{loose:List Str}{XP:(Str→Option Value)→Heap→Prop}{YP:World→Heap→Prop}{d:DefRec}(hn:l.most=some n)(hdf:d.params.defaults=[])
  (call:∀(w:World)(s₀ s₁:Shared)(mg mb:Str→Option Value)(fa:Addr)(o:Obj)(pm cd doc:Value)(a:Addr)(vs:List Value)(ns:List Int),Ground q loose [] XP w s₀ mg mb s₁.heap→YP w s₁.heap →
   s₁.heap.get? fa=some o→o.data=.func (docDef d.name d.params d.body d.scope pm cd doc)→s₁.heap.CodeRec cd d.name→mg d.name=some (.ref fa) →
   s₁.heap.get? a=some {cls:=.type "list", data:=.seq vs.toArray}→IntsAre vs ns→ns.length≤n→(∀k∈ns,Small k)→s₁.gens=#[] →
   codeAny (model l.prog w) callerA (.call (.ref fa) ⟨[.ref a],[]⟩) (fun r s'=>r=.ok (.ret (.bool true))∧OldK s₁.heap s'.heap∧s'.os=s₁.os∧AllBare s'.gens) s₁) :
  WalkO q loose XP YP l.row.toRowW d [] (fun f vs=>k8 f vs):=by
 intro w s₀ s₁ mg mb G Y fa o pm cd doc dV kV ho hd hcd hD hmg hg args vals as hpre hlay hrd hwl hlo
 B3 rfl:dV=.none:=Dflts.none hD hdf
 B3 rfl:kV=.none:=Dflts.noKw hD
 B3⟨a,vs,ns,rfl,rfl,hobj,hints,hlen⟩:=aAn hn hpre hwl
 &enter_call (codeAny_mono (call w s₀ s₁ mg mb fa o pm cd doc a vs ns G Y ho (fd_plain hd) hcd hmg hobj hints hlen (aCt hlay) hg) fun r s' hq=>?_)
 B3⟨rfl,h2,h3,h4⟩:=hq
 ~⟨.inl ⟨.bool true,.bool true,[],rfl,fun _=>rfl,.bool true,aAo l _,fun _=>⟨List.Pairwise.nil,fun _ hm=>(nomatch hm)⟩⟩,h2,h3,h4⟩
B5 aAH{l:k9}{n k:Nat}{q:Program}{loose:List Str}{XP:(Str→Option Value)→Heap→Prop}{YP:World→Heap→Prop}{d:DefRec}{K:Params→aJ}{CX:World→CXT}{sp:World→Sp}{x:Str}(hn:l.most=some n)(hn2:n≤sizeLine)(hdf:d.params.defaults=[])(hr:lA k callerA)
  (hY:∀(w:World)(h:Heap),YP w h→(K w.params).In h)
  (F:∀(w:World)(mg:Str→Option Value)(fa:Addr)(h:Heap),(K w.params).In h→h.Ns mainGlobals mg→mg d.name=some (.ref fa)→∃fd:FuncData,(∀(s:Shared)(u:Value),BindsTo s fd ⟨[u],[]⟩ [(x,u)])∧∀base:Heap,(K w.params).In base→base.Ns mainGlobals mg→Fj l.prog w (K w.params) mg base (CX w) k fa fd [x] (sp w))
  (hsp:∀(w:World)(H:Hp)(a:Addr)(ns:List Int),ns.length≤n→(∀k∈ns,Small k)→Only H→rJ (K w.params) H a (ns.map V.int)→sp w [.ref a] H (fun v _=>v=.bl true) fun _ _ _=>False)
  (hCX:∀(w:World)(H:Hp)(s:Shared)(e:Value)(s':Shared),CX w [] H s (fun _ _ _=>False) e s'→False) :
  n9 q loose XP YP l.row.toRowW d [] (fun f vs=>k8 f vs):=by
 &SX hn hdf fun w s₀ s₁ mg mb fa o pm cd doc a vs ns G Y ho hd hcd hmg hobj hints hlen hsm hg=>?_
 have KX:=hY w _ Y
 B3⟨fd,hb,hF⟩:=F w mg fa _ KX G.T.g hmg
 ~aBY KX G.T.g G.T.b G.T.builtins G.T.nolimit hg hobj hints (G0 hlen hn2) hr hF hb (fun H hO hS=>hsp w H a ns hlen hsm hO hS) fun H e s'=>hCX w H s₁ e s'
def spB(K:aJ):Sp:=fun vs H Q _=>∃(a:Addr)(ns:List Int),vs=[.ref a]∧rJ K H a (ns.map V.int)∧ns.length≤63∧(∀k∈ns,Small k)∧∀H',Q (.bl true) H'
B5 Fun.okB{P:Program}{w:World}{K:aJ}{mg:Str→Option Value}{base:Heap}{x:Str}{st:Stmt}{N:List Str}{k:Nat}{g:GS}{f:Addr}{fd:FuncData}(F:Fun K x x st f fd)(S:aZ N ["script"] (aK st))
  (hbody:∀(cdv:Value)(A:Around)(outer:List Env)(s:Shared)(H:Hp)(E:XK),lA k (A.deeper (envOfC x (aK st) s.heap.objs.size f cdv))→∃t,YB K (Gw FZ P w K mg base N x (aK st) f cdv A outer s H E).bw (cR st) t g)
  (aHZ:∀ns:List Int,ns.length≤63→(∀k∈ns,Small k)→oZ N.length 1 g [.lst (ns.map D.int)]=some (.bl true)):Fj P w K mg base FZ (k+1) f fd ["script"] (spB K):=by
 &F.ok S (fun vs H Q E h=>?_) (fun cdv A outer s H vs Q E hr h=>?_)
 ·B3⟨a,ns,rfl,_⟩:=h
  rfl
 B3⟨a,ns,rfl,hS,hl,hb,q⟩:=h
 B3⟨t,yb⟩:=hbody cdv A outer s H E hr
 have h3:=aHZ ns hl hb
 have rv:fQ K H [.lst (ns.map D.int)] [.ref a]:=by
  B4 fQ
  ~⟨_,_,rfl,by B4 Rv;~⟨a,_,rfl,hS,kW.mpr rfl⟩,by B4 fQ;rfl⟩
 &⟨t,yb.ps,yb.ev H _ _ H ([D.lst (ns.map D.int)].map SD.fro++E4 (N.length-1) SD.no) (Mt rv) ?_⟩
 B4 oZ at h3
 rw[if_pos (show [D.lst (ns.map D.int)].length=1 from rfl)]at h3
 cases qq:g ([D.lst (ns.map D.int)].map SD.fro++E4 (N.length-1) SD.no)with
 | ret d'=>
  rw[qq]at h3
  cases h3
  &fun v H' A' s' o=>?_
  have:=Ow.rv _ _ _ o
  B4 Rv at this
  subst this
  ~q _
 | _=>
  rw[qq]at h3
  cases h3
section
variable{K:aJ}{X:Cx}{e a b c:Expr}{es:List Expr}{t ta tb te:TE}{f g:FE}{pos:Pos}
def aCu(i j:Int):Prop:=Builtin.Int.intBits i≤4000000∧Builtin.Int.intBits j≤4000000
instance (i j:Int):Decidable (aCu i j):=by B4 aCu;~inferInstance
def aLE:D→D→Option D:=Ti aCu fun i j=>.int (i*j)
variable{lo hi:Option Expr}{tl th:TO}{fl fh:FO}{p2:Pos}
end
end L2


namespace L2
open PySem PySem.Spec PySem.Calls PyProof.Rows PyProof.V
section
variable{K:aJ}{X:Cx}
def aLF:List D→Option D
 | [.bl c]=>some (.int (if c then 1 else 0))
 | _=>none
end
end L2


namespace L2
open PySem PySem.Spec PySem.Calls PyProof.Rows PyProof.V
section
variable{X:Cx}{pins:List (Addr×Obj)}{σ:St}{H:Hp}{s:Shared}{h':Heap}
end
section
variable{K:aJ}{X:Cx}{e a b c:Expr}{es:List Expr}{t ta tb te:TE}{f g fe:FE}{tc:TT}{fc:FT}{pos p p2:Pos}{x:Str}
end
end L2


namespace L2
open PySem PySem.Spec PySem.Calls PyProof.Rows PyProof.V
section
variable{K:aJ}{B H:Hp}{env:EN}{σ:St}{i:Nat}{v:V}{d:D}
B5 Rel.aCv(h:Rel K B env σ H)(e:env[i]?=some (.inn v d)):Rel K B (env.set i (.own d)) σ H∧σ[i]?=some (some v):=by
 B3⟨A,a,b⟩:=h
 B3⟨y,A1,C,h1,h2,h3,h4,k⟩:=a.focus e
 B3⟨rfl,o⟩:=h4
 have eA:A=gB A1 C:=funext fun x=>propext (h3 x)
 subst eA
 have s:=k _ (fun _ _ _ _ q=>q) (.own d) (some v) A1 h2 ⟨v,rfl,o⟩
 rw[set_same h1]at s
 ~⟨⟨_,s,b⟩,h1⟩
B5 Rel.aCw(h:Rel K B env σ H)(e:env[i]?=some (.own d))(hv:σ[i]?=some (some v)):Rel K B (env.set i (.inn v d)) σ H:=by
 B3⟨A,a,b⟩:=h
 B3⟨y,A1,C,h1,h2,h3,h4,k⟩:=a.focus e
 B3⟨v',rfl,o⟩:=h4
 rw[hv]at h1
 cases h1
 have eA:A=gB A1 C:=funext fun x=>propext (h3 x)
 subst eA
 have s:=k _ (fun _ _ _ _ q=>q) (.inn v d) (some v) A1 h2 ⟨rfl,o⟩
 rw[set_same hv]at s
 ~⟨_,s,b⟩
end
section
variable{K:aJ}{X:Cx}{st:Stmt}{sts:List Stmt}{t u tb:TS}{g g1 g2:GS}{e a b c:Expr}{es:List Expr}{te ta t0:TE}{f f0 fa fb:FE}{gk:FE}{tA:TA}{fs:FA}{tc:TT}{fc:FT}{pos:Pos}{i:Nat}{π:FP}
end
end L2


namespace L2
open PySem PySem.Spec PySem.Calls PyProof.Rows PyProof.V
section
variable{α β:Type}{R:α→Fp→β→Prop}
B5 eO.Mu:∀{ds:List α} {A:Fp} {ys:List β} {d:α} {y:β},eO R (ds++[d]) A (ys++[y])→∃A0 A1,eO R ds A0 ys∧R d A1 y∧Apart A0 A1∧Is A (gB A0 A1)
  | [],A,ys,d,y,h=>by
    B3⟨y0,yt,A1,A2,h1,h2,h3,h4,h5,h6⟩:=h
    subst h6
    cases ys with
    | nil=>
      cases h1
      ~⟨nil,A1,⟨fun _ z=>z,rfl⟩,h4,fun _ z=>z.elim,fun x=>⟨fun q=>((h3 x).mp q).elim .inr fun z=>absurd z (h5 x),fun q=>q.elim False.elim fun z=>(h3 x).mpr (.inl z)⟩⟩
    | cons z zs=>
      injection h1 with _ h1
      cases zs<;>cases h1
  | d0::ds,A,ys,d,y,h=>by
    B3⟨y0,yt,A1,A2,h1,h2,h3,h4,h5⟩:=h
    have hl:=h5.len
    cases ys with
    | nil=>
      injection h1 with _ h1
      subst h1
      have hl:0=(ds++[d]).length:=hl
      rw[C7]at hl
      simp at hl
    | cons z zs=>
      injection h1 with e1 e2
      subst e1 e2
      B3⟨B0,B1,k1,k2,k3,k4⟩:=eO.Mu h5
      &⟨gB A1 B0,B1,⟨z,zs,A1,B0,rfl,fun x q q'=>h2 x q ((k4 x).mpr (.inl q')),fun x=>Iff.rfl,h4,k1⟩,k2,fun x q q'=>?_,fun x=>?_⟩
      · rcases q with q | q
        · ~h2 x q ((k4 x).mpr (.inr q'))
        · ~k3 x q q'
      · rw[h3 x]
        constructor
        · rintro(q | q)
          · ~.inl (.inl q)
          · ~((k4 x).mp q).elim (fun z=>.inl (.inr z)) .inr
        · rintro((q | q) | q)
          · ~.inl q
          · ~.inr ((k4 x).mpr (.inl q))
          · ~.inr ((k4 x).mpr (.inr q))
end
section
variable{K:aJ}{B H H':Hp}{env:EN}{σ:St}{i:Nat}{v:V}{d:D}
B5 Rel.snoc(h:Rel K B env σ H)(s:aV H H')(n:Wt K H H' d v):Rel K B (env++[.own d]) (σ++[some v]) H':=by
 B3⟨A,a,b⟩:=h
 B3⟨N,o,f⟩:=n
 have cl:=lO a
 have g:aV (out H A) (out H' (gB A N)):=cH s fun x q=>q.elim .inl fun q=>.inr (f x q)
 &⟨gB A N,eO.snoc (a.mono fun e D z _ q=>q.same s g) ⟨v,rfl,o⟩ fun x q1 q2=>?_,b.trans g⟩
 B3⟨⟨u,e⟩,_⟩:=cl x q1
 rw[f x q2]at e;cases e
B5 Rel.pop{s:SD}{y:Option V}(h:Rel K B (env++[s]) (σ++[y]) H):Rel K B env σ H:=by
 B3⟨A,a,b⟩:=h
 B3⟨A0,A1,k1,k2,k3,k4⟩:=a.Mu
 have g:aV (out H A) (out H A0):=cH (aV.refl _) fun x q=>.inl ((k4 x).mpr (.inl q))
 ~⟨A0,k1.mono fun e D z _ q=>q.same (aV.refl _) g,b.trans g⟩
B5 Rel.jl(h:Rel K B (env++[.own d]) (σ++[some v]) H):Rv K H d v:=by
 B3⟨A,a,b⟩:=h
 B3⟨A0,A1,k1,⟨v',e,o⟩,k3,k4⟩:=a.Mu
 cases e
 ~Ow.rv _ _ _ o
B5 Rel.move(h:Rel K B (env++[.own d]) (σ++[some v]) H)(hi:i<env.length):Rel K B (env.set i (.own d)) (σ.set i (some v)) H:=by
 B3⟨A,a,b⟩:=h
 B3⟨A0,A1,k1,⟨v',e,o⟩,k3,k4⟩:=a.Mu
 cases e
 B3⟨y,B1,C,f1,f2,f3,f4,f5⟩:=k1.focus (B7 hi)
 have g:aV (out H A) (out H (gB A1 C)):=cH (aV.refl _) fun x q=>.inl ((k4 x).mpr (q.elim .inr fun q=>.inl ((f3 x).mpr (.inr q))))
 ~⟨gB A1 C,f5 (gG K H (out H (gB A1 C))) (fun e D z _ q=>q.same (aV.refl _) g) (.own d) (some v) A1 (fun x q q'=>k3 x ((f3 x).mpr (.inr q')) q) ⟨v,rfl,o⟩,b.trans g⟩
B5 Rel.give(h:Rel K B env σ H)(e:env[i]?=some (.own d)):∃v,σ[i]?=some (some v)∧Rel K B (env.set i .no++[.own d]) (σ++[some v]) H:=by
 B3⟨A,a,b⟩:=h
 B3⟨y,A1,C,h1,h2,h3,h4,k⟩:=a.focus e
 B3⟨v,rfl,o⟩:=h4
 have eA:A=gB A1 C:=funext fun x=>propext (h3 x)
 subst eA
 have s:=k _ (fun _ _ _ _ q=>q) .no (some v) nil (fun _ z=>z.elim) (fun _ z=>z)
 rw[set_same h1]at s
 have s2:=eO.snoc (d:=SD.own d) (y:=some v) (A1:=A1) s ⟨v,rfl,o⟩ (fun x q q'=>q.elim False.elim (h2 x q'))
 have eA2:(gB (gB nil C) A1)=gB A1 C:=funext fun x=>propext ⟨fun q=>q.elim (fun q=>q.elim False.elim .inr) .inl,fun q=>q.elim .inr fun q=>.inl (.inr q)⟩
 rw[eA2]at s2
 ~⟨v,h1,_,s2,b⟩
end
def iW(i:Nat)(g:GS):GS:=fun env=>match env[i]? with
 | some (.inn v d)=>(match g (env.set i (.own d))with
  | .next env'=>(match env'[i]? with
   | some (.own d')=>.next (env'.set i (.inn v d'))
   | _=>.bad)
  | _=>.bad)
 | _=>.bad
B5 aCx{K:aJ}{t:TS}{g:GS}{i:Nat}(h:DSs K t g):DSs K t (iW i g):=fun B E σ H env r p=>by
 B4 iW at p
 split at p
 ·rename_i v d q1
  B3⟨r',hσ⟩:=r.aCv q1
  &h B E σ H _ r' ?_
  split at p
  ·rename_i env' q2
   rw[q2]
   split at p
   ·rename_i d' q3
    ~fun H' r2=>p H' (r2.aCw q3 hσ)
   ·~p.elim
  ·~p.elim
 ·~p.elim
B5 Hr{K:aJ}{X:Cx}{st:Stmt}{t:TS}{g:GS}(i:Nat)(hp:PS X st t)(h:DSs K t g):YS K X st t (iW i g):=⟨hp,(aCx h).ds⟩
def aCy:GS:=fun _=>.bad
B5 IW{K:aJ}{X:Cx}{st:Stmt}:YS K X st aBr aCy:=⟨aBs,fun _ _ _ _ _ _ p=>p.elim⟩
section
variable{K:aJ}{X:Cx}{st:Stmt}{sts:List Stmt}{t u tb:TS}{g g1 g2:GS}{e a b c o:Expr}{es:List Expr}{te ta t0 tv:TE}{f f0 fa fb:FE}{gk:FE}{tA:TA}{fs:FA}{tc:TT}{fc:FT}{pos apos:Pos}{i:Nat}{π:FP}
structure jE(K:aJ)(C:Addr)(nm:List Str):Prop where
 cl:Cls K C
 no:∀f∈nm,Gv K C f
def fO(C:Addr)(x:Str)(d:D):Option D:=match d with
 | .ins C' nm ds=>if C'=C then(posK nm x).bind fun j=>ds[j]? else none
 | _=>none
B5 aFi{H:Hp}{C:Addr}{x:Str}{d r:D}{v:V}(q:fO C x d=some r)(rv:Rv K H d v):∃a dx fs y,v=.ref a∧H a=some (.ins C dx fs)∧fs.lookup x=some y∧Rv K H r y:=by
 B4 fO at q
 split at q
 ·rename_i C' nm ds
  split at q
  ·rename_i hc
   subst hc
   B3⟨j,q1,q2⟩:=bA q
   B4 Rv at rv
   B3⟨a,dx,xs,rfl,h1,h2,h3⟩:=rv
   B3⟨y,h4,h5⟩:=h3.get q2
   ~⟨a,dx,_,y,rfl,h1,by rw[Hj h2,q1];~h4,h5⟩
  ·cases q
 ·cases q
B5 dM{C:Addr}{nm:List Str}{x:Str}(F:jE K C nm)(h:XR K X e ta f)(hx:x∈nm)(hb:attributeBase e x X.env (eval e X.env)=eval e X.env):XR K X (.Attribute e x pos) (aHd K ta x) (tL (fO C x) f):=⟨h.hk,by have:=h.hk;subst this;~aBF h.pe hb,fun σ H Z e d Q z re q k=>by
 B3⟨d0,q1,q2⟩:=bA q
 &h.ev σ H Z e d0 _ z re q1 fun v H1 Z1 s1 t1 z1 rv=>?_
 B3⟨a,dx,fs,y,rfl,h1,h2,h3⟩:=aFi q2 rv
 ~⟨a,C,dx,fs,y,rfl,z1.sm _ _ h1,F.cl,F.no x hx,h2,k y H1 Z1 s1 t1 z1 h3⟩⟩
B5 aAI{H:Hp}{C:Addr}{x:Str}{w v:V}(h:stepV H (.fld C x) w=some v):∃a dx fs,w=.ref a∧H a=some (.ins C dx fs)∧fs.lookup x=some v:=by
 cases w with
 | ref a=>
  cases q:H a with
  | none=>B4 stepV at h;dsimp only at h;rw[q]at h;cases h
  | some u=>
   B4 stepV at h
   dsimp only at h
   rw[q]at h
   cases u with
   | ins C' dx fs=>
    have h2:(if C'=C then fs.lookup x else none)=some v:=h
    by_cases hc:C'=C
    ·rw[if_pos hc]at h2
     rw[←hc]
     ~⟨a,dx,fs,rfl,q,h2⟩
    ·rw[if_neg hc]at h2
     cases h2
   | _=>cases h
 | _=>B4 stepV at h;cases h
def Ce(C:Addr)(x:Str)(π:FP):FP:=fun e=>(π e).bind fun p=>some (p++[.fld C x])
B5 pA{C:Addr}{nm:List Str}{x:Str}(F:jE K C nm)(h:XP K X a ta i π)(hx:x∈nm)(hb:attributeBase a x X.env (eval a X.env)=eval a X.env):XP K X (.Attribute a x pos) (aHd K ta x) i (Ce C x π):=⟨h.hk,by have:=h.hk;subst this;~aBF h.pe hb,fun σ H e v0 p v Q re h1 h2 h3 k=>by
 B4 Ce at h2
 B3⟨p0,q1,q2⟩:=bA h2
 cases q2
 B3⟨w,w1,w2⟩:=Jt h3
 B3⟨ad,dx,fs,rfl,w3,w4⟩:=aAI w2
 ~h.ev σ H e v0 p0 _ _ re h1 q1 w1 fun H1 s1=>⟨ad,C,dx,fs,v,rfl,s1 _ _ w3,F.cl,F.no x hx,w4,k H1 s1⟩⟩
end
B5 TF{x:Str}{y:V}:∀{nm:List Str} {xs:List V},nm.length=xs.length→Be x y (nm.zip xs)=(match posK nm x with | some j=>nm.zip (xs.set j y) | none=>(nm++[x]).zip (xs++[y]))
 | [],xs,h=>by
  cases xs with
  | nil=>rfl
  | cons=>simp at h
 | a::nm,[],h=>by simp at h
 | a::nm,z::xs,h=>by
  have ih:=TF (x:=x) (y:=y) (nm:=nm) (xs:=xs) (by simpa using h)
  rw[P2]
  B4 Be posK
  by_cases c:a=x
  ·rw[if_pos c,if_pos c]
   rfl
  ·rw[if_neg c,if_neg c,ih]
   cases q:posK nm x with
   | none=>rfl
   | some j=>rfl
section
variable{K:aJ}{B H:Hp}{env:EN}{σ:St}
B5 aAJ{H:Hp}{a C dx:Addr}{fs:List (Str×V)}(h:H a=some (.ins C dx fs)):Aw H a:=⟨fun ys e=>(by rw[h]at e;cases e),fun o ys e=>(by rw[h]at e;cases e)⟩
B5 Rel.aKS{i:Nat}{p:List Step}{d0:D}{C:Addr}{nm:List Str}{ds:List D}(h:Rel K B env σ H)(e:env[i]?=some (.own d0))(q:gC p d0=some (.ins C nm ds)):∃v0 a dx xs Bs,σ[i]?=some (some v0)∧Qj H p v0=some (.ref a)∧H a=some (.ins C dx (nm.zip xs))∧nm.length=xs.length∧eQ K H ds Bs xs ∧
    ∀H2 nm' ds' xs' Bn,aV H H2→nm'.length=xs'.length→eQ K H2 ds' Bn xs'→(∀b,Bn b→Bs b∨H b=none)→Rel K B (env.set i (.own (fG p d0 (.ins C nm' ds')))) σ (upd H2 a (.ins C dx (nm'.zip xs'))):=by
  B3⟨v0,w,A1,Cc,h1,h2,h3,h4,h5,h6⟩:=h.at e q
  have hc:=Ow.cells _ _ _ h3
  B4 Ow at h3
  B3⟨a,dx,xs,Bs,rfl,o2,o2',o3,o3',aKT,o4,o5⟩:=h3
  &⟨v0,a,dx,xs,Bs,h1,h2,o2,o3,o5,fun H2 nm' ds' xs' Bn s hl o hb=>?_⟩
  have nad:dx≠a:=fun z=>by rw[z,o2]at o2';cases o2'
  have nBa:¬Bn a:=fun z=>(hb a z).elim o3' fun z=>by rw[o2]at z;cases z
  have nBd:¬Bn dx:=fun z=>(hb dx z).elim aKT fun z=>by rw[o2']at z;cases z
  have hC:∀x,Cc x→¬(x=a∨x=dx):=fun x z y=>h4 x ((o4 x).mpr (.inl y)) z
  have Wx:H2 a=some (.ins C dx (nm.zip xs)):=s a _ o2
  have nt:Aw H2 a:=aAJ Wx
  &h6 _ (.ins C nm' ds') (gB (fun x=>x=a∨x=dx) Bn) (fun x z1 z2=>?_) (fun x z=>?_) (s.tk.trans (uU nt)) ?_ (fun x u ex=>?_)
  · rcases z1 with z1 | z1
    · ~hC x z2 z1
    · rcases hb x z1 with z | z
      · ~h4 x ((o4 x).mpr (.inr z)) z2
      · B3⟨⟨u,eu⟩,_⟩:=h5 x z2
        rw[z]at eu;cases eu
  · B3⟨⟨u,eu⟩,_⟩:=h5 x z
    rw[bN (fun y=>hC x z (.inl y)),eu,s x u eu]
  · B4 Ow
    &⟨a,dx,xs',Bn,rfl,cM,by rw[bN nad];~s dx _ o2',hl,nBa,nBd,fun _=>Iff.rfl,eQ.frame (uU nt) _ _ _ o fun x zx=>bN fun y=>nBa (y▸zx)⟩
  · B3⟨e1,e2⟩:=bG.mp ex
    have na:x≠a:=fun y=>e1 (.inl ((o4 x).mpr (.inl (.inl y))))
    &bG.mpr ⟨fun z=>?_,by rw[bN na];~s x u e2⟩
    rcases z with (z | z) | z
    · ~e1 (.inl ((o4 x).mpr (.inl z)))
    · rcases hb x z with z | z
      · ~e1 (.inl ((o4 x).mpr (.inr z)))
      · rw[z]at e2;cases e2
    · ~e1 (.inr z)
end
section
variable{K:aJ}{X:Cx}{st:Stmt}{sts:List Stmt}{t u tb:TS}{g g1 g2:GS}{e a b c o:Expr}{es:List Expr}{te ta t0 tv:TE}{f f0 fa fb:FE}{gk:FE}{tA:TA}{fs:FA}{tc:TT}{fc:FT}{pos apos:Pos}{i:Nat}{π:FP}
def Yx(nm:List Str)(ds:List D)(x:Str)(d:D):List Str×List D:=match posK nm x with
 | some j=>(nm,ds.set j d)
 | none=>(nm++[x],ds++[d])
def yD(C:Addr)(i:Nat)(π:FP)(x:Str)(f:FE):GS:=fun env=>match env[i]?,π (rE env),f (rE env)with
 | some (.own d0),some p,some d=>(match gC p d0 with
  | some (.ins C' nm ds)=>if C'=C∧nm.length<900 then .next (env.set i (.own (fG p d0 (.ins C' (Yx nm ds x d).1 (Yx nm ds x d).2))))else .bad
  | _=>.bad)
 | _,_,_=>.bad
B5 aH0{C:Addr}{nm0:List Str}{x:Str}(F:jE K C nm0)(hx:x∈nm0)(h:EvP K ta i π)(he:Wk K te f):DSs K (aHe K ta te x) (yD C i π x f):=fun B E σ H env r p=>by
 B4 yD at p
 split at p
 ·rename_i d0 pp d q1 q2 q3
  split at p
  ·rename_i C' nm ds q4
   split at p
   ·rename_i hc
    B3⟨rfl,hl⟩:=hc
    B3⟨v0,a,dx,xs,Bs,k1,k2,k3,k4,k5,k6⟩:=r.aKS q1 q4
    &he σ H (rE env) d _ r.r q3 fun y H1 s1 n=>?_
    &h σ H1 (rE env) v0 pp _ _ (r.r.same s1) k1 q2 (Ca s1 k2) fun H2 s2=>?_
    have s12:=s1.trans s2
    B3⟨N,o,fr⟩:=n.same s2
    &⟨a,C',dx,_,rfl,s12 _ _ k3,F.cl,F.no x hx,by rw[U3];omega,p _ ?_⟩
    rw[TF k4]
    B4 Yx
    cases qj:posK nm x with
    | none=>~k6 H2 (nm++[x]) (ds++[d]) (xs++[y]) (gB Bs N) s12 (by simp[k4]) (cZ.mpr ((cZ.mp (k5.same s12)).snoc o (HX (H1:=H) k5 fr))) fun b z=>z.imp id (fr b)
    | some j=>
     have hj:=(uB qj).1
     have hlen:=(eQ.rv _ _ _ k5).length
     B3⟨y0,A1,Cc,f1,f2,f3,f4,f5⟩:=(cZ.mp (k5.same s12)).focus (B7 (show j<ds.length by omega))
     have ap:Apart N Cc:=fun x q1 q2=>HX (H1:=H) k5 fr x ((f3 x).mpr (.inr q2)) q1
     ~k6 H2 nm (ds.set j d) (xs.set j y) (gB N Cc) s12 (by rw[K9];~k4) (cZ.mpr (f5 (Ow K H2) (fun _ _ _ _ qq=>qq) d y N ap o)) fun b z=>z.elim (fun z=>.inr (fr b z)) fun z=>.inl ((f3 b).mpr (.inr z))
   ·~p.elim
  ·~p.elim
 ·~p.elim
end
end L2


namespace L2
open PySem PySem.Spec PySem.Calls PyProof.Rows PyProof.V
section
variable{K:aJ}{B H H':Hp}{env:EN}{σ:St}{i:Nat}{p:List Step}{d0 d:D}
B5 nZ.same{a:Addr}(h:nZ H a)(s:aV H H'):nZ H' a:=by
 B3⟨⟨o,e⟩,n⟩:=h
 have e':=s _ _ e
 ~⟨⟨o,e'⟩,fun xs z=>n.1 xs (by rw[e,←e'];~z),fun u xs z=>n.2 u xs (by rw[e,←e'];~z)⟩
B5 aCz{A:Fp}(c:∀x,A x→nZ H x):Zn K A (out H A) H:=⟨mU H A,Tg fun x q=>(c x q).2,fun x q=>⟨by B4 out;rw[if_pos q],fun z=>by B3⟨⟨o,e⟩,_⟩:=c x q;rw[z]at e;cases e⟩⟩
B5 aGw{A:Fp}{Z:Hp}(z:Zn K A Z H):aV Z (out H A):=fun x o e=>bG.mpr ⟨fun q=>(by rw[(z.no x q).1]at e;cases e),z.sm x o e⟩
B5 Rel.atR(h:Rel K B env σ H)(e:env[i]?=some (.own d0))(q:gC p d0=some d):∃v0 w A1 C,σ[i]?=some (some v0)∧Qj H p v0=some w∧Ow K H d A1 w∧Apart A1 C∧(∀a,C a→nZ H a)∧Fq K (out H A1) (rE (env.set i .no)) σ ∧
    ∀H' d' r x A' A2,Apart A' C→Apart A2 C→Apart A' A2→(∀a,C a→H' a=H a)→Gz K H H'→Ow K H' d' A' w→Ow K H' r A2 x→aV (out H (gB A1 C)) (out H' (gB (gB A' A2) C))→Rel K B (env.set i (.own (fG p d0 d'))++[.own r]) (σ++[some x]) H':=by
  B3⟨A,a,b⟩:=h
  have cl:=lO a
  B3⟨y,A1,C,h1,h2,h3,h4,k⟩:=a.focus e
  B3⟨v0,rfl,o⟩:=h4
  B3⟨w,B1,C1,g1,g2,g3,g4,g5⟩:=o.at q
  &⟨v0,w,B1,gB C1 C,h1,g1,g4,fun x z1 z2=>?_,fun x z=>?_,?_,fun H' d' r x A' A2 ap apr apx fr tk o' o'' sm=>?_⟩
  · ~z2.elim (g2 x z1) (h2 x ((g3 x).mpr (.inl z1)))
  · ~cl x ((h3 x).mpr (z.elim (fun z=>.inl ((g3 x).mpr (.inr z))) .inr))
  · intro j dj qj
    B4 rE at qj
    rw[B9]at qj
    cases ej:(env.set i .no)[j]? with
    | none=>rw[ej]at qj;cases qj
    | some sd=>
      rw[ej]at qj
      have ne:i≠j:=fun z=>by
        subst z
        rw[J5 (D2.mp e).1]at ej
        cases ej
        cases qj
      have S':=k (gG K H (out H A)) (fun _ _ _ _ q=>q) .no none nil (fun _ z=>z.elim) fun _ z=>z
      B3⟨y,Ak,Ck,f1,f2,f3,f4,_⟩:=S'.focus ej
      rw[F7,if_neg ne]at f1
      have hB:∀x,B1 x→A x:=fun x z=>(h3 x).mpr (.inl ((g3 x).mpr (.inl z)))
      have apk:Apart Ak B1:=fun x z1 z2=>h2 x ((g3 x).mpr (.inl z2)) (((f3 x).mpr (.inl z1)).elim False.elim id)
      cases sd with
      | no=>cases qj
      | fro d1=>
        cases qj
        B3⟨_,v1,rfl,f5⟩:=f4
        ~⟨v1,f1,(cH (aV.refl _) fun x q=>.inl (hB x q):aV (out H A) (out H B1)).rv _ _ f5⟩
      | own d1=>
        cases qj
        B3⟨v1,rfl,f5⟩:=f4
        ~⟨v1,f1,f5.out apk fun x q=>(cl x (hB x q)).2⟩
      | inn v1 d1=>
        cases qj
        B3⟨rfl,f5⟩:=f4
        ~⟨v1,f1,f5.out apk fun x q=>(cl x (hB x q)).2⟩
  · have o2:=g5 H' d' A' (fun x z1 z2=>ap x z1 (.inl z2)) (fun x z=>fr x (.inl z)) tk o'
    have ap2:Apart (gB A' C1) C:=fun x z1 z2=>z1.elim (fun z=>ap x z (.inr z2)) fun z=>h2 x ((g3 x).mpr (.inr z)) z2
    have hA:Is A (gB B1 (gB C1 C)):=fun x=>by
      rw[h3 x]
      constructor
      · rintro(z | z)
        · ~((g3 x).mp z).elim .inl fun z=>.inr (.inl z)
        · ~.inr (.inr z)
      · rintro(z | z | z)
        · ~.inl ((g3 x).mpr (.inl z))
        · ~.inl ((g3 x).mpr (.inr z))
        · ~.inr z
    have g:aV (out H A) (out H' (gB (gB (gB A' C1) C) A2)):=fun x u ex=>by
      B3⟨e1,e2⟩:=bG.mp ex
      have:=sm x u (bG.mpr ⟨fun z=>e1 ((hA x).mpr z),e2⟩)
      B3⟨e3,e4⟩:=bG.mp this
      &bG.mpr ⟨fun z=>e3 ?_,e4⟩
      rcases z with ((z | z) | z) | z
      · ~.inl (.inl z)
      · ~.inr (.inl z)
      · ~.inr (.inr z)
      · ~.inl (.inr z)
    have s:=k (gG K H' (out H' (gB (gB (gB A' C1) C) A2))) (fun s D z hb qq=>by
      cases s with
      | no=>~qq
      | fro d=>B3⟨q1,v,q2,q3⟩:=qq;~⟨q1,v,q2,g.rv _ _ q3⟩
      | inn v d=>~⟨qq.1,Ow.frame tk _ _ _ qq.2 fun x zx=>fr x (.inr (hb x zx))⟩
      | own d=>B3⟨v,q1,q2⟩:=qq;~⟨v,q1,Ow.frame tk _ _ _ q2 fun x zx=>fr x (.inr (hb x zx))⟩) (.own (fG p d0 d')) (some v0) (gB A' C1) ap2 ⟨v0,rfl,o2⟩
    rw[set_same h1]at s
    &⟨_,eO.snoc s ⟨x,rfl,o''⟩ fun y z1 z2=>?_,b.trans g⟩
    rcases z1 with (z | z) | z
    · ~apx y z z2
    · ~apr y z2 (.inl z)
    · ~apr y z2 (.inr z)
def spS(K:aJ)(m:Nat)(F:List D→Option (D×D)):Sp:=fun vs H Q _=>∃d es v ws A r d',vs=v::ws∧es.length+1=m∧Ow K H d A v∧fQ K (out H A) es ws∧F (d::es)=some (r,d')∧∀w H' A' A2,Ow K H' d' A' v→Ow K H' r A2 w→Apart A' A2→aV (out H A) (out H' (gB A' A2))→Q w H'
B5 TJ{m:Nat}{F:List D→Option (D×D)}{E:XK}{Q:VK}{es:List D}{r d':D}(h:Rel K B env σ H)(e:env[i]?=some (.own d0))(q:gC p d0=some d)(hl:es.length+1=m)(hF:F (d::es)=some (r,d'))(k:∀w H',Rel K B (env.set i (.own (fG p d0 d'))++[.own r]) (σ++[some w]) H'→Q w H') :
  ∃v0 w0 A1,σ[i]?=some (some v0)∧Qj H p v0=some w0∧Ow K H d A1 w0∧Fq K (out H A1) (rE (env.set i .no)) σ∧∀H2 vs,aV H H2→fQ K (out H2 A1) es vs→spS K m F (w0::vs) H2 Q E:=by
 B3⟨v0,w,A1,C,h1,h2,h3,h4,h5,h6,h7⟩:=h.atR e q
 have c1:=Ow.cells _ _ _ h3
 &⟨v0,w,A1,h1,h2,h3,h6,fun H2 vs s rvs=>⟨d,es,w,vs,A1,r,d',rfl,hl,h3.same s,rvs,hF,fun x H3 A' A2 o1 o2 ap sm=>k x H3 ?_⟩⟩
 have hC:∀y,C y→¬A' y∧¬A2 y∧H3 y=H y:=fun y hy=>by
  B3⟨⟨u,eu⟩,_⟩:=h5 y hy
  B3⟨n1,n2⟩:=bG.mp (sm y u (bG.mpr ⟨fun z=>h4 y z hy,s y u eu⟩))
  ~⟨fun z=>n1 (.inl z),fun z=>n1 (.inr z),n2.trans eu.symm⟩
 have tk:Gz K H H3:=(Tg fun x q=>(c1 x q).2).trans ((cH s fun x q=>.inl q:aV (out H A1) (out H2 A1)).trans (sm.trans (mU _ _))).tk
 &h7 H3 d' r x A' A2 (fun y z1 z2=>(hC y z2).1 z1) (fun y z1 z2=>(hC y z2).2.1 z1) ap (fun y hy=>(hC y hy).2.2) tk o1 o2 fun y u ey=>?_
 B3⟨e1,e2⟩:=bG.mp ey
 B3⟨n1,n2⟩:=bG.mp (sm y u (bG.mpr ⟨fun z=>e1 (.inl z),s y u e2⟩))
 ~bG.mpr ⟨fun z=>z.elim n1 fun z=>e1 (.inr z),n2⟩
def SD.hold:SD→Option (D×(D→SD))
 | .own d=>some (d,.own)
 | .inn v d=>some (d,.inn v)
 | _=>none
B5 TQ{m:Nat}{F:List D→Option (D×D)}{E:XK}{Q:VK}{es:List D}{r d':D}{back:D→SD}(h:Rel K B env σ H)(e:env[i]?.bind SD.hold=some (d0,back))(q:gC p d0=some d)(hl:es.length+1=m)(hF:F (d::es)=some (r,d'))(k:∀w H',Rel K B (env.set i (back (fG p d0 d'))++[.own r]) (σ++[some w]) H'→Q w H') :
  ∃v0 w0 A1,σ[i]?=some (some v0)∧Qj H p v0=some w0∧Ow K H d A1 w0∧Fq K (out H A1) (rE (env.set i .no)) σ∧∀H2 vs,aV H H2→fQ K (out H2 A1) es vs→spS K m F (w0::vs) H2 Q E:=by
 B3⟨s,e1,e2⟩:=bA e
 cases s with
 | no=>cases e2
 | fro d=>cases e2
 | own d=>cases e2;~TJ h e1 q hl hF k
 | inn v d=>
  cases e2
  B3⟨r',hσ⟩:=h.aCv e1
  have hi:i<env.length:=(D2.mp e1).1
  have:=TJ (E:=E) (Q:=Q) r' (J5 hi) q hl hF fun w H' rr=>by
   rw[X7]at rr
   have r2:=rr.aCw (i:=i) (v:=v) (d:=fG p d0 d') (by rw[G4 (by rw[K9];~hi)];~J5 hi) (by
    have hl:=h.len
    rw[G4 A6]
    ~hσ)
   rw[List.set_append_left _ _ (by rw[K9];~hi),X7]at r2
   ~k w H' r2
  rw[X7]at this
  ~this
end
abbrev GM:=EN→Option (D×EN)
def EvM(K:aJ)(t:TE)(g:GM):Prop:=∀(B:Hp)(σ:St)(H:Hp)(env:EN)(d:D)(env':EN)(Q:VK),Rel K B env σ H→g env=some (d,env')→(∀v H',Rel K B (env'++[.own d]) (σ++[some v]) H'→Q v H')→t σ H Q
structure XM(K:aJ)(X:Cx)(e:Expr)(t:TE)(g:GM):Prop where
 hk:X.K=K
 pe:PE X e t
 ev:EvM K t g
abbrev GB:=EN→Option (Bool×EN)
def aJA(K:aJ)(t:TT)(g:GB):Prop:=∀(B:Hp)(σ:St)(H:Hp)(env:EN)(b:Bool)(env':EN)(Q:Bool→Hp→Prop),Rel K B env σ H→g env=some (b,env')→(∀H',Rel K B env' σ H'→Q b H')→t σ H Q
structure XTM(K:aJ)(X:Cx)(e:Expr)(t:TT)(g:GB):Prop where
 hk:X.K=K
 pt:PT X e t
 ev:aJA K t g
structure XWM(K:aJ)(X:Cx)(e:Expr)(t:TT)(g:GB):Prop where
 hk:X.K=K
 pw:PW X e t
 ev:aJA K t g
abbrev FA2:=DE→DE→Option (List D)
def aJC(K:aJ)(t:TA)(fs:FA2):Prop:=∀(A1:Fp)(σ:St)(H:Hp)(eF eZ:DE)(ds:List D)(Q:List V→Hp→Prop),(∀x,A1 x→nZ H x)→Fq K H eF σ→Fq K (out H A1) eZ σ→fs eF eZ=some ds →
 (∀vs H',aV H H'→fQ K (out H' A1) ds vs→Q vs H')→t σ H Q
structure XAB(K:aJ)(X:Cx)(es:List Expr)(t:TA)(fs:FA2):Prop where
 hk:X.K=K
 pa:PA X es t
 ev:aJC K t fs
section
variable{K:aJ}{X:Cx}{st:Stmt}{sts:List Stmt}{t u tb:TS}{g:GM}{g1 g2:GS}{e a b c o:Expr}{es rest:List Expr}{te ta t0 tv:TE}{f f0 fa fb:FE}{tA:TA}{fs:FA2}{tc td:TT}{fc:FT}{gb gc:GB}{pos apos:Pos}{i:Nat}{π:FP}
def iY:FA2:=fun _ _=>some []
def qO(f:FE)(fs:FA2):FA2:=fun eF eZ=>(f eZ).bind fun d=>(fs eF eZ).map fun r=>d::r
def faN(f:FE)(fs:FA2):FA2:=fun eF eZ=>(f eF).bind fun d=>(fs eF eZ).map fun r=>d::r
B5 gY(hk:X.K=K:=by rfl):XAB K X [] oK iY:=⟨hk,jM,fun A1 σ H eF eZ ds Q c re rz q k=>by
 cases q
 ~k [] H (aV.refl _) (by B4 fQ;rfl)⟩
B5 dF(h:XR K X e te f)(hs:XAB K X es tA fs)(hst:starEach (e::es) X.env=(false,eval e X.env)::starEach es X.env:=by rfl):XAB K X (e::es) (gF te tA) (qO f fs):=⟨h.hk,dG h.pe hs.pa hst,fun A1 σ H eF eZ ds Q c re rz q k=>by
 B3⟨d,q1,q2⟩:=bA q
 B3⟨ds',q3,rfl⟩:=lY q2
 &h.ev σ H (out H A1) eZ d _ (aCz c) rz q1 fun v H1 Z1 s1 t1 z1 rv=>?_
 &hs.ev A1 σ H1 eF eZ ds' _ (fun x q=>(c x q).same s1) (re.same s1) (rz.same (cH s1 fun x q=>.inl q)) q3 fun vs H2 s2 rvs=>?_
 &k (v::vs) H2 (s1.trans s2) ?_
 B4 fQ
 ~⟨v,vs,rfl,((aGw z1).trans (cH s2 fun x q=>.inl q)).rv _ _ rv,rvs⟩⟩
B5 Gk(h:XN K X e te f)(hs:XAB K X es tA fs)(hst:starEach (e::es) X.env=(false,eval e X.env)::starEach es X.env:=by rfl):XAB K X (e::es) (gF te tA) (faN f fs):=⟨h.hk,dG h.pe hs.pa hst,fun A1 σ H eF eZ ds Q c re rz q k=>by
 B3⟨d,q1,q2⟩:=bA q
 B3⟨ds',q3,rfl⟩:=lY q2
 &h.ev σ H eF d _ re q1 fun v H1 s1 n=>?_
 have c1:∀x,A1 x→nZ H1 x:=fun x q=>(c x q).same s1
 &hs.ev A1 σ H1 eF eZ ds' _ c1 (re.same s1) (rz.same (cH s1 fun x q=>.inl q)) q3 fun vs H2 s2 rvs=>?_
 &k (v::vs) H2 (s1.trans s2) ?_
 B3⟨N,o,fr⟩:=n
 B4 fQ
 &⟨v,vs,rfl,(cH s2 fun x q=>.inl q:aV (out H1 A1) (out H2 A1)).rv _ _ (o.out (fun x z1 z2=>?_) fun x q=>(c1 x q).2),rvs⟩
 B3⟨⟨u,eu⟩,_⟩:=c x z2
 rw[fr x z1]at eu;cases eu⟩
structure dO(P:Program)(w:World)(K:aJ)(mg:Str→Option Value)(base:Heap)(C:Addr)(m:Str)(k n:Nat)(df:Bool)(sp:Sp):Prop where
 ex:∃f fd ps,ps.length=n∧Fj P w K mg base FZ k f fd ps sp∧Binds K fd ps []∧(df=true→Binds K fd ps [Value.none])∧Meth K C m f
B5 Yy{nm:List Str}{xs:List V}{m:Str}(h:nm.length=xs.length)(n:m∉nm):(nm.zip xs).lookup m=none:=by
 rw[Hj h,Ec.mpr n]
 rfl
def pW(C:Addr)(m:Str)(i:Nat)(π:FP)(F:List D→Option (D×D))(fs:FA2):GM:=fun env=>match env[i]?.bind SD.hold,π (rE env),fs (rE env) (rE (env.set i .no))with
 | some (d0,back),some p,some es=>(match gC p d0 with
  | some (.ins C' nm ds)=>if C'=C∧m∉nm then(F (.ins C' nm ds::es)).map fun rd=>(rd.1,env.set i (back (fG p d0 rd.2)))else none
  | _=>none)
 | _,_,_=>none
B5 wj{C:Addr}{m:Str}{n:Nat}{F:List D→Option (D×D)}{Lr:List V}{dds:List D}(hF:∀d es p,F (d::es)=some p→es.length+1=n)(hd:∀H,fQ K H dds Lr)(ho:EvP K ta i π)(ha:aJC K tA fs):EvM K (Ot C m (spS K n F) Lr E0 ta tA) (pW C m i π F (fun eF eZ=>(fs eF eZ).map (·++dds))):=fun B σ H env d env' Q r q k=>by
 B4 pW at q
 split at q
 ·rename_i d0 back p es' q1 q2 q3
  B3⟨es,q3a,rfl⟩:=lY q3
  split at q
  ·rename_i C' nm ds q4
   split at q
   ·rename_i hc
    B3⟨rfl,hm⟩:=hc
    B3⟨⟨r1,d1⟩,q5,q6⟩:=lY q
    cases q6
    B3⟨v0,w0,A1,k1,k2,k3,k4,k5⟩:=TQ (E:=E0) (Q:=Q) r q1 q4 (hF _ _ _ q5) q5 k
    have c1:=Ow.cells _ _ _ k3
    have k3':=k3
    B4 Ow at k3
    B3⟨a,dx,xs,Bs,rfl,o2,o2',o3,_⟩:=k3
    &ho σ H (rE env) v0 p _ _ r.r k1 q2 k2 fun H1 s1=>⟨a,dx,_,rfl,s1 _ _ o2,Yy o3 hm,?_⟩
    &ha A1 σ H1 (rE env) (rE (env.set i .no)) es _ (fun x q=>(c1 x q).same s1) (r.r.same s1) (k4.same (cH s1 fun x q=>.inl q)) q3a fun vs H2 s2 rvs=>?_
    ~k5 H2 (vs++Lr) (s1.trans s2) (rvs.append (hd _))
   ·cases q
  ·cases q
 ·cases q
B5 uD{C:Addr}{m:Str}{k n:Nat}{df:Bool}{F:List D→Option (D×D)}{nm0:List Str}{pl:Sem Bool}(Cm:dO X.prog X.w X.K X.mg X.base C m k n df (spS K n F))(Fc:jE K C nm0)(hF:∀d es p,F (d::es)=some p→es.length+1=n)(hr:lA k X.A)(ho:XP K X o ta i π)(ha:XAB K X (e::es) tA fs)
  (hst:starEach (e::es) X.env=(false,eval e X.env)::starEach es X.env:=by rfl) (hpl:(backTo pos (starEach es X.env)).any (·.1)=false:=by rfl)
  (ht:eval (.Call (.Attribute o m apos) (e::es) [] pos) X.env=(do
   let ov ←eval o X.env
   standAt apos.atName
   let (f,first) ←holding [ov] (getMethod ov m pl)
   callWith pos f first (backTo pos (starEach (e::es) X.env)) (backToKw pos (keywordEach [] X.env))):=by rfl):XM K X (.Call (.Attribute o m apos) (e::es) [] pos) (Ot C m (spS K n F) [] E0 ta tA) (pW C m i π F (fun eF eZ=>(fs eF eZ).map (·++[]))):=by
 have hk:=ho.hk
 subst hk
 B3⟨f,fd,ps,_,Fo,hb,_,hm⟩:=Cm.ex
 ~⟨rfl,DN (pl:=pl) ho.pe Fc.cl hm Fo hr hb .nil Yk ha.pa hst hpl ht,wj hF (fun H=>by B4 fQ;rfl) ho.ev ha.ev⟩
B5 Jw{C:Addr}{m:Str}{k n:Nat}{F:List D→Option (D×D)}{nm0:List Str}{pl:Sem Bool}(Cm:dO X.prog X.w X.K X.mg X.base C m k n true (spS K n F))(Fc:jE K C nm0)(hF:∀d es p,F (d::es)=some p→es.length+1=n)(hr:lA k X.A)(ho:XP K X o ta i π)(ha:XAB K X (e::es) tA fs)
  (hst:starEach (e::es) X.env=(false,eval e X.env)::starEach es X.env:=by rfl) (hpl:(backTo pos (starEach es X.env)).any (·.1)=false:=by rfl)
  (ht:eval (.Call (.Attribute o m apos) (e::es) [] pos) X.env=(do
   let ov ←eval o X.env
   standAt apos.atName
   let (f,first) ←holding [ov] (getMethod ov m pl)
   callWith pos f first (backTo pos (starEach (e::es) X.env)) (backToKw pos (keywordEach [] X.env))):=by rfl):XM K X (.Call (.Attribute o m apos) (e::es) [] pos) (Ot C m (spS K n F) [.non] E0 ta tA) (pW C m i π F (fun eF eZ=>(fs eF eZ).map (·++[.non]))):=by
 have hk:=ho.hk
 subst hk
 B3⟨f,fd,ps,_,Fo,_,hb,hm⟩:=Cm.ex
 ~⟨rfl,DN (pl:=pl) ho.pe Fc.cl hm Fo hr (hb rfl) (.cons rfl .nil) Yk ha.pa hst hpl ht,wj hF (fun H=>by B4 fQ;~⟨_,_,rfl,by B4 Rv;rfl,by B4 fQ;rfl⟩) ho.ev ha.ev⟩
def Qk(i:Nat)(F:List D→Option (D×D))(fs:FA2):GM:=fun env=>match env[i]?.bind SD.hold,fs (rE env) (rE (env.set i .no))with
 | some (d0,back),some es=>(F (d0::es)).map fun rd=>(rd.1,env.set i (back rd.2))
 | _,_=>none
B5 Cg{x y:Str}{k n:Nat}{F:List D→Option (D×D)}{pf py:Pos}(C:lN X.prog X.w X.K X.mg X.base x k n (spS K n F))(hF:∀d es p,F (d::es)=some p→es.length+1=n)(hr:lA k X.A)(hg:Gl X x)(hv:PE X (.Name y py) (sE i))(ha:XAB K X es tA fs)(hdb:(x==("__debug__" : Str))=false:=by decide)
  (he:starEach (.Name y py::es) X.env=(false,eval (.Name y py) X.env)::starEach es X.env:=by rfl) (hpl:(backTo pos (starEach es X.env)).any (·.1)=false:=by rfl):XM K X (.Call (.Name x pf) (.Name y py::es) [] pos) (Sd (spS K n F) [] E0 (gF (sE i) tA)) (Qk i F fs):=⟨ha.hk,il C hr hg (dG hv ha.pa he) hdb he hpl,fun B σ H env d env' Q r q k=>by
 B4 Qk at q
 split at q
 ·rename_i d0 back es' q1 q3
  B3⟨⟨r1,d1⟩,q5,q6⟩:=lY q
  cases q6
  B3⟨v0,w0,A1,k1,k2,k3,k4,k5⟩:=TQ (E:=E0) (Q:=Q) (p:=[]) r q1 rfl (hF _ _ _ q5) q5 k
  have c1:=Ow.cells _ _ _ k3
  cases k2
  &⟨v0,k1,ha.ev A1 σ H (rE env) (rE (env.set i .no)) es' _ c1 r.r k4 q3 fun vs H2 s2 rvs=>?_⟩
  show spS K n F ((v0::vs)++[]) H2 Q E0
  rw[F3]
  ~k5 H2 vs s2 rvs
 ·cases q⟩
def gJ(C:Addr)(m:Str)(n:Nat)(F:List D→Option D)(fo:FE)(fs:FA)(dds:List D):FE:=fun e=>(fo e).bind fun d0=>match d0 with
 | .ins C' nm ds=>if C'=C∧m∉nm then(fs e).bind fun es=>if es.length+dds.length+1=n then F (.ins C' nm ds::(es++dds))else none else none
 | _=>none
B5 wk{fsA:FA}{C:Addr}{m:Str}{n:Nat}{F:List D→Option D}{Lr:List V}{dds:List D}(hd:∀H,fQ K H dds Lr)(ho:Ls K ta f)(ha:EvA K tA fsA):Wk K (Ot C m (gW K n F) Lr E0 ta tA) (gJ C m n F f fsA dds):=fun σ H e d Q re q k=>by
 B3⟨d0,q1,q2⟩:=bA q
 split at q2
 ·rename_i C' nm ds
  split at q2
  ·rename_i hc
   B3⟨rfl,hm⟩:=hc
   B3⟨es,q3,q4⟩:=bA q2
   split at q4
   ·rename_i hl
    &ho σ H H e _ _ (Zn.self K H) re q1 fun v H1 Z1 s1 t1 z1 rv=>?_
    have rv1:=z1.sm.rv _ _ rv
    have aKV:=rv1
    B4 Rv at rv1
    B3⟨a,dx,xs,rfl,h1,h2,h3⟩:=rv1
    &⟨a,dx,_,rfl,h1,Yy h2 hm,?_⟩
    &ha σ H1 H1 e es _ (Zn.self K H1) (re.same s1) q3 fun vs H2 Z2 s2 t2 z2 rvs=>?_
    &⟨_::(es++dds),d,by rw[F0,C7];omega,?_,q4,fun w H3 s3 nw=>k w H3 (s1.trans (s2.trans s3)) (nw.back (s1.trans s2))⟩
    B4 fQ
    ~⟨_,_,rfl,s2.rv _ _ aKV,(z2.sm.uq _ _ rvs).append (hd _)⟩
   ·cases q4
  ·cases q2
 ·cases q2
B5 eE{fsA:FA}{C:Addr}{m:Str}{k n:Nat}{df:Bool}{F:List D→Option D}{nm0:List Str}{pl:Sem Bool}(Cm:dO X.prog X.w X.K X.mg X.base C m k n df (gW K n F))(Fc:jE K C nm0)(hr:lA k X.A)(ho:XR K X o ta f)(ha:XA K X (e::es) tA fsA)
  (hst:starEach (e::es) X.env=(false,eval e X.env)::starEach es X.env:=by rfl) (hpl:(backTo pos (starEach es X.env)).any (·.1)=false:=by rfl)
  (ht:eval (.Call (.Attribute o m apos) (e::es) [] pos) X.env=(do
   let ov ←eval o X.env
   standAt apos.atName
   let (f,first) ←holding [ov] (getMethod ov m pl)
   callWith pos f first (backTo pos (starEach (e::es) X.env)) (backToKw pos (keywordEach [] X.env))):=by rfl):XN K X (.Call (.Attribute o m apos) (e::es) [] pos) (Ot C m (gW K n F) [] E0 ta tA) (gJ C m n F f fsA []):=by
 have hk:=ho.hk
 subst hk
 B3⟨f,fd,ps,_,Fo,hb,_,hm⟩:=Cm.ex
 ~⟨rfl,DN (pl:=pl) ho.pe Fc.cl hm Fo hr hb .nil Yk ha.pa hst hpl ht,wk (fun H=>by B4 fQ;rfl) ho.ev ha.ev⟩
B5 Cj{C:Addr}{m:Str}{k n:Nat}{df:Bool}{F:List D→Option D}{nm0:List Str}{pl:Sem Bool}(Cm:dO X.prog X.w X.K X.mg X.base C m k n df (gW K n F))(Fc:jE K C nm0)(hr:lA k X.A)(ho:XR K X o ta f)
  (ht:eval (.Call (.Attribute o m apos) [] [] pos) X.env=(do
   let ov ←eval o X.env
   standAt apos.atName
   let (f,first) ←holding [ov] (getMethod ov m pl)
   callWith pos f first (backTo pos (starEach [] X.env)) (backToKw pos (keywordEach [] X.env))):=by rfl):XN K X (.Call (.Attribute o m apos) [] [] pos) (Ot C m (gW K n F) [] E0 ta oK) (gJ C m n F f aM []):=by
 have hk:=ho.hk
 subst hk
 B3⟨f,fd,ps,_,Fo,hb,_,hm⟩:=Cm.ex
 ~⟨rfl,aBK (pl:=pl) ho.pe Fc.cl hm Fo hr hb .nil Yk ht,wk (fun H=>by B4 fQ;rfl) ho.ev aB4⟩
structure aAN(P:Program)(w:World)(K:aJ)(mg:Str→Option Value)(base:Heap)(x:Str)(C:Addr)(k n:Nat)(sp:Sp):Prop where
 ex:∃f fd ps,ps.length=n∧Fj P w K mg base FZ k f fd ps sp∧Binds K fd ps []∧Mk K C f∧mg x=some (.ref C)
def TV(C:Addr)(F:List D→Option (D×D))(fs:FA):FE:=fun e=>(fs e).bind fun es=>match F (.ins C [] []::es)with
 | some (.non,d')=>some d'
 | _=>none
B5 wu{fsA:FA}{x:Str}{C:Addr}{k n:Nat}{F:List D→Option (D×D)}{p:Pos}(Ci:aAN X.prog X.w X.K X.mg X.base x C k n (spS K n F))(hF:∀d es p,F (d::es)=some p→es.length+1=n)(hr:lA (k+1) X.A)(hg:Gl X x)(ha:XA K X (e::es) tA fsA)(hdb:(x==("__debug__" : Str))=false:=by decide)
  (he:starEach (e::es) X.env=(false,eval e X.env)::starEach es X.env:=by rfl) (hpl:(backTo pos (starEach es X.env)).any (·.1)=false:=by rfl):XN K X (.Call (.Name x p) (e::es) [] pos) (aF7 C (spS K n F) [] E0 tA) (TV C F fsA):=by
 have hk:=ha.hk
 subst hk
 B3⟨f,fd,ps,_,Fo,hb,M,hm⟩:=Ci.ex
 &⟨rfl,aEq M Fo hr hg hm hb .nil Yk ha.pa hdb he hpl,fun σ H e d Q re q k=>?_⟩
 B3⟨es,q1,q2⟩:=bA q
 split at q2
 ·rename_i d' q3
  cases q2
  &ha.ev σ H H e es _ (Zn.self _ H) re q1 fun vs H1 Z1 s1 t1 z1 rvs=>fun x dx nx ndx ne=>?_
  have s0:aV H1 (upd (upd H1 dx (.own x)) x (.ins C dx [])):=fun b o eb=>by
   rw[bN (gK eb nx),bN (gK eb ndx)]
   ~eb
  have so:aV H1 (out (upd (upd H1 dx (.own x)) x (.ins C dx [])) (fun y=>y=x∨y=dx)):=fun b o eb=>bG.mpr ⟨fun z=>z.elim (gK eb nx) (gK eb ndx),s0 b o eb⟩
  &⟨.ins C [] [],es,.ref x,vs++[],(fun y=>y=x∨y=dx),.non,_,rfl,hF _ _ _ q3,?_,?_,q3,fun w H2 A' A2 o1 o2 ap sm=>⟨?_,k (.ref x) H2 (fun b o eb=>?_) ⟨A',o1,fun b hb=>?_⟩⟩⟩
  ·B4 Ow
   &⟨x,dx,[],nil,rfl,cM,by rw[bN ne,cM],rfl,fun z=>z,fun z=>z,fun y=>⟨.inl,fun z=>z.elim id False.elim⟩,?_⟩
   B4 eQ
   ~⟨fun _ z=>z,rfl⟩
  ·rw[F3]
   ~(z1.sm.trans so).uq _ _ rvs
  ·have:=Ow.rv _ _ _ o2
   B4 Rv at this
   ~this
  ·~(bG.mp (sm b o ((s1.trans so) b o eb))).2
  ·cases eb:H b with
   | none=>rfl
   | some o=>~absurd (.inl hb) (bG.mp (sm b o ((s1.trans so) b o eb))).1
 ·cases q2
B5 aKW(h:XN K X e te f):XM K X e te (fun env=>(f (rE env)).map fun d=>(d,env)):=⟨h.hk,h.pe,fun B σ H env d env' Q r q k=>by
 B3⟨d0,q1,q2⟩:=lY q
 cases q2
 ~h.ev σ H (rE env) d Q r.r q1 fun v H' s n=>k v H' (r.snoc s n)⟩
def gbV(g:GM):GB:=fun env=>(g env).bind fun de=>match de.1 with
 | .bl b=>some (b,de.2)
 | _=>none
B5 wy(h:XM K X e te g)(he:∀whole,isTrue e X.env whole=(do let v ←whole;standAt e.pos;holding [v] (truthy v)):=by intro _;rfl):XTM K X e (tB te) (gbV g):=⟨h.hk,aBn h.pe he,fun B σ H env b env' Q r q k=>by
 B3⟨⟨d,e1⟩,q1,q2⟩:=bA q
 dsimp only at q2
 split at q2
 ·rename_i b'
  cases q2
  &h.ev B σ H env _ _ _ r q1 fun v H' r'=>?_
  have:=r'.jl
  B4 Rv at this
  ~⟨b,this,k H' r'.pop⟩
 ·cases q2⟩
def gbT(f:FT):GB:=fun env=>(f (rE env)).map fun b=>(b,env)
def TX(g:GB):GB:=fun env=>(g env).map fun be=>(!be.1,be.2)
B5 wz(h:XTM K X a tc gb):XTM K X (.UnaryOp .Not a pos) (aEd tc) (TX gb):=⟨h.hk,aBo h.pt,fun B σ H env b env' Q r q k=>by
 B3⟨⟨b0,e0⟩,q1,q2⟩:=lY q
 cases q2
 ~h.ev B σ H env b0 e0 _ r q1 fun H' r'=>k H' r'⟩
def aLH(g h:GB):GB:=fun env=>(g env).bind fun be=>if be.1=true then h be.2 else some (false,be.2)
def aMs(g h:GB):GB:=fun env=>(g env).bind fun be=>if be.1=true then some (true,be.2)else h be.2
def aCA(φ:D→D→Option D)(g:GM)(f:FE):GM:=fun env=>(g env).bind fun de=>(f (rE de.2)).bind fun d2=>(φ de.1 d2).bind fun r=>if r.jJ=true then some (r,de.2)else none
B5 aJD{r:R2}{φ:D→D→Option D}(hd:OD K r φ)(ha:EvM K ta g)(hb:Ls K te f):EvM K (Xx r ta te) (aCA φ g f):=fun B σ H env d env' Q rr q k=>by
 B3⟨⟨d1,e1⟩,q1,q2⟩:=bA q
 B3⟨d2,q3,q4⟩:=bA q2
 B3⟨d3,q5,q6⟩:=bA q4
 split at q6
 ·rename_i im
  cases q6
  &ha B σ H env d1 _ _ rr q1 fun x H1 r1=>?_
  have p1:=r1.pop
  &hb σ H1 H1 _ d2 _ (Zn.self K H1) p1.r q3 fun y H2 Z2 s2 t2 z2 ry=>?_
  &hd x y H2 d1 d2 _ _ (s2.rv _ _ r1.jl) (z2.sm.rv _ _ ry) q5 fun v H3 s3 n=>k v H3 ?_
  ~(p1.same s2).snoc s3 n
 ·cases q6
B5 aFj{op:CmpOp}{r:R2}{φ:D→D→Option D}(ho:xR X (compareOp op) r)(hd:OD K r φ)(ha:XM K X a ta g)(hb:XR K X b te f)(hm:behindInMarks op b=false):XTM K X (.Compare a [op] [b] pos) (Xz (Xx r ta te)) (gbV (aCA φ g f)):=⟨ha.hk,tu ho ha.pe hb.pe hm,fun B σ H env b env' Q rr q k=>by
 B3⟨⟨d,e1⟩,q1,q2⟩:=bA q
 dsimp only at q2
 split at q2
 ·rename_i b'
  cases q2
  &aJD hd ha.ev hb.ev B σ H env _ _ _ rr q1 fun v H' r'=>?_
  have:=r'.jl
  B4 Rv at this
  ~⟨b,this,k H' r'.pop⟩
 ·cases q2⟩
def tX(i:Nat)(g:GM):GS:=fun env=>match g env with
 | some (d,env')=>if i<env'.length then .next (env'.set i (.own d))else .bad
 | none=>.bad
B5 pX{x:Str}{pos':Pos}(h:XM K X e te g)(hp:PE X e te→PS X (.Assign [.Name x pos'] e pos) (Bm te (lW i))):YS K X (.Assign [.Name x pos'] e pos) (Bm te (lW i)) (tX i g):=⟨hp h.pe,fun B E σ H env r p=>by
 B4 tX at p
 split at p
 ·rename_i d env' q
  split at p
  ·rename_i hi
   ~h.ev B σ H env d env' _ r q fun v H' r'=>p _ _ (r'.move hi)
  ·~p.elim
 ·~p.elim⟩
def zJ(g:GM):GS:=fun env=>match g env with
 | some (_,env')=>.next env'
 | none=>.bad
B5 Jx(h:XM K X e te g)(hs:swapsWith e none pos.line X.env=pure false:=by rfl):YS K X (.Expr e pos) (oH te) (zJ g):=⟨kE h.pe hs,fun B E σ H env r p=>by
 B4 zJ at p
 split at p
 ·rename_i d env' q
  ~h.ev B σ H env d env' _ r q fun v H' r'=>p _ _ r'.pop
 ·~p.elim⟩
def pY(g:GM):GS:=fun env=>match g env with
 | some (d,env')=>.rete d env'
 | none=>.bad
B5 oW(h:XM K X e te g):YS K X (.Return (some e) pos) (zy te) (pY g):=⟨Ru h.pe,fun B E σ H env r p=>by
 B4 pY at p
 split at p
 ·rename_i d env' q
  ~h.ev B σ H env d env' _ r q fun v H' r'=>p v σ H' r'
 ·~p.elim⟩
def tM(i:Nat):GS:=fun env=>match env[i]? with
 | some (.own d)=>.rete d (env.set i .no)
 | some (.fro d)=>if d.jJ=true then .rete d env else .bad
 | _=>.bad
B5 uY(h:PE X e (sE i)):YS K X (.Return (some e) pos) (zy (sE i)) (tM i):=⟨Ru h,fun B E σ H env r p=>by
 B4 tM at p
 split at p
 ·rename_i d q
  B3⟨v,hv,r'⟩:=r.give q
  ~⟨v,hv,p v σ H r'⟩
 ·rename_i d q
  split at p
  ·rename_i im
   B3⟨v,hv,rv⟩:=r.r i d (by B4 rE;rw[B9,q];rfl)
   ~⟨v,hv,p v σ H (r.snoc (aV.refl _) (.jJ im rv))⟩
  ·~p.elim
 ·~p.elim⟩
def TY(g:GB)(g1 g2:GS):GS:=fun env=>match g env with
 | some (true,env')=>g1 env'
 | some (false,env')=>g2 env'
 | none=>.bad
B5 jm{s1 s2:List Stmt}(hc:XTM K X c tc gb)(h1:YB K X s1 t g1)(h2:YB K X s2 u g2):YS K X (.If c s1 s2 pos) (aG2 tc t u) (TY gb g1 g2):=⟨aF2 hc.pt h1.ps h2.ps,fun B E σ H env r p=>by
 B4 TY at p
 split at p
 ·rename_i env' q
  ~hc.ev B σ H env true env' _ r q fun H' r'=>by
   rw[if_pos rfl]
   ~h1.ev B E σ H' env' r' p
 ·rename_i env' q
  ~hc.ev B σ H env false env' _ r q fun H' r'=>by
   rw[if_neg A8]
   ~h2.ev B E σ H' env' r' p
 ·~p.elim⟩
end
end L2


namespace L2
open PySem PySem.Spec PySem.Calls PyProof.Rows PyProof.V
def aJE(K:aJ)(dN:Bool)(dV:Value):Prop:=match dN with
 | false=>dV=.none
 | true=>∃T o n,dV=.ref T∧K.lookup T=some o∧o.data=.seq #[.none] n
structure UG(K:aJ)(f:Addr)(m q:Str)(st:Stmt)(dN:Bool):Prop where
 ex:∃(oc:Value)(od:Option Addr)(dV kV doc pm:Value)(an:Option Addr)(cdv ct:Value)(osl:Array (Option Value)),
  K.lookup f=some ⟨oc,od,.func (F8 m q (gD st) (cR st) (aK st) dV kV doc pm an cdv ct),osl⟩∧K3 K cdv q=true∧aJE K dN dV
structure gZ(K:aJ)(C:Addr)(m q:Str)(st:Stmt)(dN:Bool):Prop where
 ex:∃f,UG K f m q st dN∧Meth K C m f
structure UJ(K:aJ)(mg:Str→Option Value)(x:Str)(C:Addr)(q:Str)(st:Stmt):Prop where
 ex:∃f,UG K f "__init__" q st false∧Mk K C f∧mg x=some (.ref C)
def HB(x q:Str)(st:Stmt)(ps:List Str):Prop:=∀(kV doc pm:Value)(an:Option Addr)(cdv ct:Value)(us:List Value),us.length=ps.length→bindArgs (F8 x q (gD st) (cR st) (aK st) .none kV doc pm an cdv ct) ⟨us,[]⟩=pure (ps.zip us)
def HBD(x q:Str)(st:Stmt)(ps:List Str):Prop:=∀(T:Addr)(kV doc pm:Value)(an:Option Addr)(cdv ct:Value)(us:List Value),(us.length=ps.length→∃k,bindArgs (F8 x q (gD st) (cR st) (aK st) (.ref T) kV doc pm an cdv ct) ⟨us,[]⟩=seqItems? (Value.ref T) >>= k∧k (some #[Value.none])=pure (ps.zip us)) ∧
 (us.length+1=ps.length→∃k,bindArgs (F8 x q (gD st) (cR st) (aK st) (.ref T) kV doc pm an cdv ct) ⟨us,[]⟩=seqItems? (Value.ref T) >>= k∧k (some #[Value.none])=pure (ps.zip (us++[Value.none])))
def HBs(dN:Bool)(x q:Str)(st:Stmt)(ps:List Str):Prop:=match dN with
 | false=>HB x q st ps
 | true=>HBD x q st ps
section
variable{P:Program}{w:World}{K:aJ}{mg:Str→Option Value}{base:Heap}
B5 UG.binds{f:Addr}{m q:Str}{st:Stmt}{dN:Bool}{ps:List Str}{oc:Value}{od:Option Addr}{dV kV doc pm:Value}{an:Option Addr}{cdv ct:Value}(hd:aJE K dN dV)(h:HBs dN m q st ps) :
  Binds K (F8 m q (gD st) (cR st) (aK st) dV kV doc pm an cdv ct) ps []∧(dN=true→Binds K (F8 m q (gD st) (cR st) (aK st) dV kV doc pm an cdv ct) ps [Value.none]):=by
 cases dN with
 | false=>
  cases hd
  ~⟨.all (h kV doc pm an cdv ct),fun z=>by cases z⟩
 | true=>
  B3⟨T,o,n,rfl,h1,h2⟩:=hd
  &⟨fun s us kin hl=>?_,fun _ s us kin hl=>?_⟩
  ·rw[F3]at hl ⊢
   B3⟨k,e1,e2⟩:=(h T kV doc pm an cdv ct us).1 hl
   ~.of_defaults rfl (kin _ _ h1) h2 e1 e2
  ·rw[C7]at hl
   B3⟨k,e1,e2⟩:=(h T kV doc pm an cdv ct us).2 hl
   ~.of_defaults rfl (kin _ _ h1) h2 e1 e2
abbrev aAO(n m:Nat)(d:D)(es:List D)(v:V):EN:=.inn v d::(es.map SD.fro++E4 (n-m) SD.no)
def UL(r d':D)(v:V)(o:SR):Prop:=∃env',(o=.rete r env'∨(o=.next env'∧r=.non))∧env'[0]?=some (.inn v d')
open Classical in
noncomputable def lQ(n m:Nat)(g:GS):List D→Option (D×D)
 | d::es=>if h:∃p:D×D,es.length+1=m∧∀v,UL p.1 p.2 v (g (aAO n m d es v))then some h.choose else none
 | _=>none
B5 aCB{r d' r2 d2:D}{v:V}{o:SR}(h1:UL r d' v o)(h2:UL r2 d2 v o):r=r2∧d'=d2:=by
  B3⟨e1,a1,a2⟩:=h1
  B3⟨e2,b1,b2⟩:=h2
  rcases a1 with a1 | ⟨a1,rfl⟩
  · rcases b1 with b1 | ⟨b1,rfl⟩
    · rw[a1]at b1
      injection b1 with c1 c2
      subst c2
      rw[a2]at b2
      injection b2 with b2
      injection b2 with _ b2
      ~⟨c1,b2⟩
    · rw[a1]at b1;cases b1
  · rcases b1 with b1 | ⟨b1,rfl⟩
    · rw[a1]at b1;cases b1
    · rw[a1]at b1
      injection b1 with c2
      subst c2
      rw[a2]at b2
      injection b2 with b2
      injection b2 with _ b2
      ~⟨rfl,b2⟩
B5 aCC{n m:Nat}{g:GS}{d r d':D}{es:List D}(hl:es.length+1=m)(h:∀v,UL r d' v (g (aAO n m d es v))):lQ n m g (d::es)=some (r,d'):=by
 have ex:∃p:D×D,es.length+1=m∧∀v,UL p.1 p.2 v (g (aAO n m d es v)):=⟨(r,d'),hl,h⟩
 B4 lQ
 dsimp only
 rw[dif_pos ex]
 B3⟨e1,e2⟩:=aCB (ex.choose_spec.2 .non) (h .non)
 ~congrArg some (j6 e1 e2)
B5 UT{n m:Nat}{g:GS}{d r d':D}{es:List D}(h:lQ n m g (d::es)=some (r,d'))(v:V):es.length+1=m∧UL r d' v (g (aAO n m d es v)):=by
 B4 lQ at h
 dsimp only at h
 split at h
 ·rename_i ex
  have:=ex.choose_spec
  rw[F5 h]at this
  ~⟨this.1,this.2 v⟩
 ·cases h
B5 cO{n m:Nat}{g:GS}(d:D)(es:List D)(p:D×D)(h:lQ n m g (d::es)=some p):es.length+1=m:=(UT (r:=p.1) (d':=p.2) h .non).1
B5 aGz{X:Cx}{N ps:List Str}{g:GS}{body:List Stmt}{t:TS}{vs:List V}{H:Hp}{Q:VK}{E:XK}(yb:YB K X body t g)(h:spS K ps.length (lQ N.length ps.length g) vs H Q E):t {nx:=fun _ H'=>Q .non H',rt:=Q} (start N vs) H:=by
  B3⟨d,es,v,ws,A1,r,d',rfl,hl,ho,hrs,hF,kk⟩:=h
  B3⟨_,env',q1,q2⟩:=UT hF v
  have hw:=hrs.length
  &yb.ev (out H A1) _ _ H (aAO N.length ps.length d es v) ?_ ?_
  · have sa:=Uc (K:=K) (H:=H) (k:=N.length-ps.length) hrs
    have e:start N (v::ws)=some v::(ws.map some++E4 (N.length-ps.length) none):=by
      B4 start
      rw[D3,F0,show N.length-(ws.length+1)=N.length-ps.length by omega]
      rfl
    rw[e]
    ~⟨A1,⟨_,_,A1,nil,rfl,fun _ _ z=>z,fun x=>⟨.inl,fun z=>z.elim id False.elim⟩,⟨rfl,ho⟩,sa⟩,aV.refl _⟩
  · rcases q1 with q1 | ⟨q1,rfl⟩
    · rw[q1]
      intro w σ' H' ⟨A2,a2,b2⟩
      B3⟨A3,A4,k1,⟨w',ew,o⟩,k3,k4⟩:=a2.Mu
      cases ew
      B3⟨y,A5,C,h1,h2,h3,h4,_⟩:=k1.focus q2
      ~kk w H' A5 A4 h4.2 o (fun x z1 z2=>k3 x ((h3 x).mpr (.inl z1)) z2) (b2.trans (cH (aV.refl _) fun x z=>.inl ((k4 x).mpr (z.elim (fun z=>.inl ((h3 x).mpr (.inl z))) .inr))))
    · rw[q1]
      intro σ' H' ⟨A2,a2,b2⟩
      B3⟨y,A5,C,h1,h2,h3,h4,_⟩:=a2.focus q2
      ~kk .non H' A5 nil h4.2 (by B4 Ow;~⟨fun _ z=>z,rfl⟩) (fun x z1 z2=>z2) (b2.trans (cH (aV.refl _) fun x z=>.inl ((h3 x).mpr (.inl (z.elim id False.elim)))))
B5 aJF{ps:List Str}{F:List D→Option (D×D)}(vs:List V)(H:Hp)(Q:VK)(E:XK)(h:spS K ps.length F vs H Q E):vs.length=ps.length:=by
 B3⟨d,es,v,ws,A,r,d',rfl,hl,_,rs,_⟩:=h
 have:=rs.length
 rw[F0]
 omega
B5 Raw.Hs{x:Str}{st:Stmt}{N ps:List Str}{k:Nat}{g:GS}(R:Raw K mg x st)(S:aZ N ps (aK st))(hb:HB x x st ps)
  (hbody:∀(f:Addr)(cdv:Value)(A:Around)(outer:List Env)(s:Shared)(H:Hp)(E:XK),lA k (A.deeper (envOfC x (aK st) s.heap.objs.size f cdv))→∃t,YB K (Gw FZ P w K mg base N x (aK st) f cdv A outer s H E).bw (cR st) t g):lN P w K mg base x (k+1) ps.length (spS K ps.length (lQ N.length ps.length g)):=by
 &R.cal S aJF hb (fun f cdv A outer s H vs Q E hr h=>?_)
 B3⟨t,yb⟩:=hbody f cdv A outer s H E hr
 ~⟨t,yb.ps,aGz yb h⟩
B5 UG.okS{f:Addr}{m q:Str}{st:Stmt}{dN:Bool}{N ps:List Str}{k:Nat}{g:GS}(R:UG K f m q st dN)(S:aZ N ps (aK st))(hb:HBs dN m q st ps)
  (hbody:∀(f:Addr)(cdv:Value)(A:Around)(outer:List Env)(s:Shared)(H:Hp)(E:XK),lA k (A.deeper (envOfC q (aK st) s.heap.objs.size f cdv))→∃t,YB K (Gw FZ P w K mg base N q (aK st) f cdv A outer s H E).bw (cR st) t g) :
  ∃fd,Fj P w K mg base FZ (k+1) f fd ps (spS K ps.length (lQ N.length ps.length g))∧Binds K fd ps []∧(dN=true→Binds K fd ps [Value.none]):=by
 B3⟨oc,od,dV,kV,doc,pm,an,cdv,ct,osl,lk,hcd,hd⟩:=R.ex
 &⟨_,aBM lk hcd S aJF fun A outer s H vs Q E hr hsp=>?_,UG.binds (f:=f) (oc:=oc) (od:=od) hd hb⟩
 B3⟨t,yb⟩:=hbody f cdv A outer s H E hr
 ~⟨t,yb.ps.bw,aGz yb hsp⟩
B5 gZ.Hs{C:Addr}{m q:Str}{st:Stmt}{dN:Bool}{N ps:List Str}{k:Nat}{g:GS}(R:gZ K C m q st dN)(S:aZ N ps (aK st))(hb:HBs dN m q st ps)
  (hbody:∀(f:Addr)(cdv:Value)(A:Around)(outer:List Env)(s:Shared)(H:Hp)(E:XK),lA k (A.deeper (envOfC q (aK st) s.heap.objs.size f cdv))→∃t,YB K (Gw FZ P w K mg base N q (aK st) f cdv A outer s H E).bw (cR st) t g):dO P w K mg base C m (k+1) ps.length dN (spS K ps.length (lQ N.length ps.length g)):=by
 B3⟨f,Rf,M⟩:=R.ex
 B3⟨fd,F,b1,b2⟩:=Rf.okS (P:=P) (w:=w) (mg:=mg) (base:=base) S hb hbody
 ~⟨f,fd,ps,rfl,F,b1,b2,M⟩
B5 UJ.aJG{C:Addr}{x q:Str}{st:Stmt}{N ps:List Str}{k:Nat}{g:GS}(R:UJ K mg x C q st)(S:aZ N ps (aK st))(hb:HB "__init__" q st ps)
  (hbody:∀(f:Addr)(cdv:Value)(A:Around)(outer:List Env)(s:Shared)(H:Hp)(E:XK),lA k (A.deeper (envOfC q (aK st) s.heap.objs.size f cdv))→∃t,YB K (Gw FZ P w K mg base N q (aK st) f cdv A outer s H E).bw (cR st) t g):aAN P w K mg base x C (k+1) ps.length (spS K ps.length (lQ N.length ps.length g)):=by
 B3⟨f,Rf,M,hm⟩:=R.ex
 B3⟨fd,F,b1,b2⟩:=Rf.okS (P:=P) (w:=w) (mg:=mg) (base:=base) S hb hbody
 ~⟨f,fd,ps,rfl,F,b1,M,hm⟩
def nW(n m:Nat)(g:GS):List D→Option D:=fun ds=>if ds.length=m then(match g (ds.map SD.fro++E4 (n-m) SD.no)with
 | .ret d=>some d
 | .next _=>some .non
 | _=>none)else none
B5 aJH{X:Cx}{N ps:List Str}{g:GS}{body:List Stmt}{t:TS}{vs:List V}{H:Hp}{Q:VK}{E:XK}(yb:YB K X body t g)(h:gW K ps.length (nW N.length ps.length g) vs H Q E):t {nx:=fun _ H'=>Q .non H',rt:=Q} (start N vs) H:=by
 B3⟨ds,d,h1,h2,h3,kk⟩:=h
 &yb.ev H _ _ H (ds.map SD.fro++E4 (N.length-ps.length) SD.no) ?_ ?_
 ·have hl:vs.length=ps.length:=by rw[h2.length];~h1
  have:=Mt (k:=N.length-ps.length) h2
  B4 start
  rw[hl]
  ~this
 ·B4 nW at h3
  rw[if_pos h1]at h3
  cases q:g (ds.map SD.fro++E4 (N.length-ps.length) SD.no)with
  | ret d'=>
   rw[q]at h3
   cases h3
   &fun v H' A' s' o=>kk v H' (s'.trans (mU _ _)) ⟨A',o,fun a qa=>?_⟩
   cases e:H a with
   | none=>rfl
   | some u=>~absurd qa (bG.mp (s' a u e)).1
  | next env'=>
   rw[q]at h3
   cases h3
   intro σ' H' ⟨A,a,b⟩
   ~kk .non H' (b.trans (mU _ _)) (.jJ rfl (by B4 Rv;rfl))
  | bad=>rw[q]at h3;cases h3
  | brk e=>rw[q]at h3;cases h3
  | cont e=>rw[q]at h3;cases h3
  | rete d e=>rw[q]at h3;cases h3
B5 gZ.Jy{C:Addr}{m q:Str}{st:Stmt}{dN:Bool}{N ps:List Str}{k:Nat}{g:GS}(R:gZ K C m q st dN)(S:aZ N ps (aK st))(hb:HBs dN m q st ps)
  (hbody:∀(f:Addr)(cdv:Value)(A:Around)(outer:List Env)(s:Shared)(H:Hp)(E:XK),lA k (A.deeper (envOfC q (aK st) s.heap.objs.size f cdv))→∃t,YB K (Gw FZ P w K mg base N q (aK st) f cdv A outer s H E).bw (cR st) t g):dO P w K mg base C m (k+1) ps.length dN (gW K ps.length (nW N.length ps.length g)):=by
 B3⟨f,Rf,M⟩:=R.ex
 B3⟨oc,od,dV,kV,doc,pm,an,cdv,ct,osl,lk,hcd,hd⟩:=Rf.ex
 B3⟨b1,b2⟩:=UG.binds (f:=f) (oc:=oc) (od:=od) (kV:=kV) (doc:=doc) (pm:=pm) (an:=an) (cdv:=cdv) (ct:=ct) hd hb
 &⟨f,_,ps,rfl,aBM lk hcd S (fun vs H Q E h=>?_) fun A outer s H vs Q E hr hsp=>?_,b1,b2,M⟩
 ·B3⟨ds,d,h1,h2,_⟩:=h
  rw[h2.length];~h1
 B3⟨t,yb⟩:=hbody f cdv A outer s H E hr
 ~⟨t,yb.ps.bw,aJH yb hsp⟩
B5 xf{f:Addr}{m q:Str}{st:Stmt}{oc:Value}{od an:Option Addr}{osl:Array (Option Value)}{kV doc pm cdv ct:Value}(l:K.lookup f=some ⟨oc,od,.func (F8 m q (gD st) (cR st) (aK st) .none kV doc pm an cdv ct),osl⟩)(c:K3 K cdv q=true):UG K f m q st false:=⟨⟨oc,od,.none,kV,doc,pm,an,cdv,ct,osl,l,c,rfl⟩⟩
B5 aFk{C f:Addr}{m q:Str}{st:Stmt}{oc:Value}{od an:Option Addr}{osl:Array (Option Value)}{kV doc pm cdv ct:Value}(a:G2 K (.ref C) m=some (some (.ref f)))(i:O7 K (.ref f)=true)(l:K.lookup f=some ⟨oc,od,.func (F8 m q (gD st) (cR st) (aK st) .none kV doc pm an cdv ct),osl⟩)(c:K3 K cdv q=true)(k:K2 K (.ref f)=true):gZ K C m q st false:=⟨⟨f,xf l c,⟨a,i,k⟩⟩⟩
B5 aCD{C f T:Addr}{m q:Str}{st:Stmt}{oc oc2:Value}{od an od2:Option Addr}{osl aKX:Array (Option Value)}{kV doc pm cdv ct:Value}{n:Nat}(a:G2 K (.ref C) m=some (some (.ref f)))(i:O7 K (.ref f)=true)(l:K.lookup f=some ⟨oc,od,.func (F8 m q (gD st) (cR st) (aK st) (.ref T) kV doc pm an cdv ct),osl⟩)(c:K3 K cdv q=true)(k:K2 K (.ref f)=true)(t:K.lookup T=some ⟨oc2,od2,.seq #[.none] n,aKX⟩):gZ K C m q st true:=⟨⟨f,⟨⟨oc,od,.ref T,kV,doc,pm,an,cdv,ct,osl,l,c,T,_,n,rfl,t,rfl⟩⟩,⟨a,i,k⟩⟩⟩
B5 aFl{h:Heap}{x q:Str}{C f:Addr}{st:Stmt}{oc:Value}{od an:Option Addr}{osl:Array (Option Value)}{kV doc pm cdv ct:Value}(X:K.In h)(G:h.Ns mainGlobals mg)(aC:R3 K mainGlobals x=some (some (.ref C)))(a:G2 K (.ref C) "__init__" = some (some (.ref f))) (i:O7 K (.ref f)=true) (l:K.lookup f=some ⟨oc,od,.func (F8 "__init__" q (gD st) (cR st) (aK st) .none kV doc pm an cdv ct),osl⟩) (c:K3 K cdv q=true) (mk:U1 K C=true) (kc:K2 K (.ref C)=true):UJ K mg x C q st:=⟨⟨f,xf l c,⟨mk,a,i,kc⟩,c7 X G aC⟩⟩
end
section
variable{K:aJ}{X:Cx}{st:Stmt}{g g1 g2 gb:GS}{e a b c o:Expr}{es rest:List Expr}{te ta tb tc t0 tv:TE}{f f0 fa fb fc:FE}{tA:TA}{fs:FA}{pos apos:Pos}{i j:Nat}{π:FP}{tbs:TS}
def aAP(φ φ':D→D→Option D)(f g h:FE):FT:=fun e=>(f e).bind fun a=>(g e).bind fun b=>(φ a b).bind fun r=>match r with
  | .bl true=>(h e).bind fun c=>(φ' b c).bind fun r2=>match r2 with | .bl k=>some k | _=>none
  | .bl false=>some false
  | _=>none
B5 Ui{op op':CmpOp}{r r':R2}{φ φ':D→D→Option D}(ho:xR X (compareOp op) r)(ho':xR X (compareOp op') r')(hd:OD K r φ)(hd':OD K r' φ')(ha:XR K X a ta fa)(hb:XR K X b tb fb)(hc:XR K X c tc fc)(hm:lastMarks [op,op'] [b,c]=false:=by with_unfolding_all rfl):XT K X (.Compare a [op,op'] [b,c] pos) (Xz (aBA r r' ta tb tc)) (aAP φ φ' fa fb fc):=⟨ha.hk,aBB ho ho' ha.pe hb.pe hc.pe hm,fun σ H e k Q re q kk=>by
 B3⟨d1,q1,q⟩:=bA q
 B3⟨d2,q2,q⟩:=bA q
 B3⟨d3,q3,q⟩:=bA q
 &ha.ev σ H H e d1 _ (Zn.self K H) re q1 fun x H1 Z1 s1 t1 z1 rx=>hb.ev σ H1 H1 e d2 _ (Zn.self K H1) (re.same s1) q2 fun y H2 Z2 s2 t2 z2 ry=>?_
 &hd x y H2 d1 d2 d3 _ (s2.rv _ _ (z1.sm.rv _ _ rx)) (z2.sm.rv _ _ ry) q3 fun z H3 s3 n=>?_
 have rz:=n.rv
 split at q
 ·B3⟨d4,q4,q⟩:=bA q
  B3⟨d5,q5,q⟩:=bA q
  B4 Rv at rz
  &⟨true,rz,?_⟩
  rw[if_pos rfl]
  &hc.ev σ H3 H3 e d4 _ (Zn.self K H3) (re.same (s1.trans (s2.trans s3))) q4 fun w H4 Z4 s4 t4 z4 Qy=>?_
  &hd' y w H4 d2 d4 d5 _ ((s3.trans s4).rv _ _ (z2.sm.rv _ _ ry)) (z4.sm.rv _ _ Qy) q5 fun v H5 s5 n5=>?_
  have r5:=n5.rv
  split at q
  ·cases q
   B4 Rv at r5
   ~⟨_,r5,kk H5 (s1.trans (s2.trans (s3.trans (s4.trans s5))))⟩
  ·cases q
 ·cases q
  B4 Rv at rz
  &⟨false,rz,?_⟩
  rw[if_neg A8]
  ~⟨_,rfl,kk H3 (s1.trans (s2.trans s3))⟩
 ·cases q⟩
open Classical in
noncomputable def Bg(j i:Nat)(g:GS)(v:V)(all:List D):List D→EN→SR
 | [],env=>if env[j]?=some (.inn v (.lst all))then .next env else .bad
 | x::xs,env=>if i<env.length∧env[j]?=some (.inn v (.lst all))then(match g (env.set i (.fro x))with
  | .next e=>Bg j i g v all xs e
  | .cont e=>Bg j i g v all xs e
  | _=>.bad)else .bad
open Classical in
noncomputable def Gm(j i:Nat)(g:GS):GS:=fun env=>match env[j]? with
 | some (.own (.lst xs))=>if h:(intsOf xs).isSome=true∧∃env':EN,env'[j]?=some (.own (.lst xs))∧∀v,Bg j i g v xs xs (env.set j (.inn v (.lst xs)))=.next (env'.set j (.inn v (.lst xs)))then .next h.2.choose else .bad
 | _=>.bad
B5 aFm{α:Type}{l m:List α}{j:Nat}{s:α}(h1:l.set j s=m.set j s)(h2:l[j]?=m[j]?):l=m:=by
 apply K1
 intro k
 by_cases c:j=k
 ·subst c;~h2
 ·have:=congrArg (fun x=>x[k]?) h1
  simp only[F7,if_neg c]at this
  ~this
B5 aCE{env env':EN}{ns:List Int}(h:env[j]?=some (.own (.lst (ns.map D.int))))(h1:env'[j]?=some (.own (.lst (ns.map D.int))))(h2:∀v,Bg j i g v (ns.map D.int) (ns.map D.int) (env.set j (.inn v (.lst (ns.map D.int))))=.next (env'.set j (.inn v (.lst (ns.map D.int))))):Gm j i g env=.next env':=by
 have ex:(intsOf (ns.map D.int)).isSome=true∧∃env':EN,env'[j]?=some (.own (.lst (ns.map D.int)))∧∀v,Bg j i g v (ns.map D.int) (ns.map D.int) (env.set j (.inn v (.lst (ns.map D.int))))=.next (env'.set j (.inn v (.lst (ns.map D.int)))):=⟨by rw[mC];rfl,env',h1,h2⟩
 B4 Gm
 rw[h]
 dsimp only
 rw[dif_pos ex]
 have c:=ex.2.choose_spec
 have e:=(c.2 .non).symm.trans (h2 .non)
 injection e with e
 rw[aFm e (c.1.trans h1.symm)]
B5 aAQ{xs:List D}{ns:List Int}(h:intsOf xs=some ns):xs=ns.map D.int:=by
 induction xs generalizing ns with
 | nil=>B4 intsOf at h;cases h;rfl
 | cons x xs ih=>
  B4 intsOf at h
  cases x with
  | int i=>
   B3⟨ms,h1,h2⟩:=lY h
   subst h2
   rw[D3,ih h1]
  | _=>cases h
B5 aFn(hb:DS K tbs g):DS K (cu (aHL K (sE j)) (lW i) tbs) (Gm j i g):=fun B E σ H env r p=>by
 B4 Gm at p
 split at p
 ·rename_i xs q
  split at p
  ·rename_i ex
   B3⟨ns,hns⟩:=X4.mp ex.1
   have exx:=aAQ hns
   B3⟨c1,c2⟩:=ex.2.choose_spec
   generalize ex.2.choose=env' at *
   subst exx
   have hj:j<env'.length:=(D2.mp c1).1
   B3⟨v,hσ,rv⟩:=r.r j _ (by B4 rE;rw[B9,q];rfl)
   have c2:=c2 v
   have r1:=r.aCw q hσ
   have lst:∀{fW:EN} {σ2:St} {H2:Hp},Rel K B fW σ2 H2→fW[j]?=some (.inn v (.lst (ns.map D.int)))→∃a,v=.ref a∧rJ K H2 a (ns.map V.int):=by
    rintro fW σ2 H2 ⟨A,aa,bb⟩ e2
    B3⟨y,A1,C,h1,h2,h3,h4,_⟩:=aa.focus e2
    have:=Ow.rv _ _ _ h4.2
    B4 Rv at this
    B3⟨a,ys,e,sq,l⟩:=this
    rw[kW.mp l]at sq
    ~⟨a,e,sq⟩
   B3⟨a,rfl,sq0⟩:=lst r1 (J5 (D2.mp q).1)
   &.inl ⟨.ref a,hσ,a,rfl,⟨_,sq0⟩,?_⟩
   &GD QR (fun k σ2 H2=>∃fW,Rel K B fW σ2 H2∧fW[j]?=some (.inn (.ref a) (.lst (ns.map D.int)))∧Bg j i g (.ref a) (ns.map D.int) ((ns.map D.int).drop k) fW=.next (env'.set j (.inn (.ref a) (.lst (ns.map D.int))))) ⟨_,r1,J5 (D2.mp q).1,by rw[m7];~c2⟩ (fun k σ2 H2 _ ⟨fW,r2,e2,_⟩=>by
    B3⟨a',e,sq⟩:=lst r2 e2
    cases e
    ~sq) ?_ ?_
   ·rintro k x σ2 H2 hx ⟨fW,r2,e2,f2⟩
    have hk:k<ns.length:=by
     have:=(D2.mp hx).1
     rwa [B6]at this
    rw[O2 (by rw[B6];~hk)]at f2
    rw[B9,B7 hk]at hx
    cases hx
    rw[List.getElem_map]at f2
    B4 Bg at f2
    split at f2
    ·rename_i hlen
     have r3:Rel K B (fW.set i (.fro (.int ns[k]))) (σ2.set i (some (.int ns[k]))) H2:=by
      B3⟨A2,a2,b2⟩:=r2
      ~HR a2 b2 hlen.1 (aV.refl _) (aV.refl _) (HQ a2) (by B4 Rv;rfl)
     &hb B _ _ H2 _ r3 ?_
     have fin:∀{o:SR},o=g (fW.set i (.fro (.int ns[k])))→(match o with | .next e=>Bg j i g (.ref a) (ns.map D.int) ((ns.map D.int).drop (k+1)) e | .cont e=>Bg j i g (.ref a) (ns.map D.int) ((ns.map D.int).drop (k+1)) e | _=>.bad)=.next (env'.set j (.inn (.ref a) (.lst (ns.map D.int))))→Wv K B {E with nx:=fun σ3 H3=>∃fW,Rel K B fW σ3 H3∧fW[j]?=some (.inn (.ref a) (.lst (ns.map D.int)))∧Bg j i g (.ref a) (ns.map D.int) ((ns.map D.int).drop (k+1)) fW=.next (env'.set j (.inn (.ref a) (.lst (ns.map D.int)))),ct:=fun σ3 H3=>∃fW,Rel K B fW σ3 H3∧fW[j]?=some (.inn (.ref a) (.lst (ns.map D.int)))∧Bg j i g (.ref a) (ns.map D.int) ((ns.map D.int).drop (k+1)) fW=.next (env'.set j (.inn (.ref a) (.lst (ns.map D.int)))),bk:=E.nx} o:=by
      intro o _ ho
      have there:∀{e3:EN} {xs:List D},Bg j i g (.ref a) (ns.map D.int) xs e3=.next (env'.set j (.inn (.ref a) (.lst (ns.map D.int))))→e3[j]?=some (.inn (.ref a) (.lst (ns.map D.int))):=by
       intro e3 xs h3
       cases xs with
       | nil=>
        B4 Bg at h3
        split at h3
        ·rename_i z;~z
        ·cases h3
       | cons y ys=>
        B4 Bg at h3
        split at h3
        ·rename_i z;~z.2
        ·cases h3
      cases o with
      | next e3=>~fun σ3 H3 r4=>⟨e3,r4,there ho,ho⟩
      | cont e3=>~fun σ3 H3 r4=>⟨e3,r4,there ho,ho⟩
      | ret d=>cases ho
      | brk d=>cases ho
      | bad=>cases ho
      | rete d e=>cases ho
     ~fin rfl f2
    ·cases f2
   ·rintro σ2 H2 ⟨fW,r2,e2,f2⟩
    rw[B6]at f2
    rw[show ns.length=(ns.map D.int).length by rw[B6],T3]at f2
    B4 Bg at f2
    rw[if_pos e2]at f2
    injection f2 with f2
    rw[f2]at r2
    B3⟨r3,_⟩:=r2.aCv (J5 hj)
    rw[X7,set_same c1]at r3
    ~p σ2 H2 r3
  ·~p.elim
 ·~p.elim
B5 JB{tg:Expr}{body:List Stmt}(hp:PassesOwn (model X.prog X.w) X.A X.env X.xe)(aCh:X.calm=true)(hv:PE X e (sE j))(hg:PG X tg (lW i))(hb:YB K X body tbs g)(hs:∀x,foldedSetIterable e X.env x=pure x:=by intro _;rfl)(hk:X.K=K:=by rfl):YS K X (.For tg e body [] pos) (cu (aHL K (sE j)) (lW i) tbs) (Gm j i g):=by
 subst hk
 &⟨cz hp aCh (fun pins s σ H R I h=>?_) hg hb.ps hs,aFn hb.ev⟩
 rcases h with h | h
 ·~rn hv pins s σ H R I h
 ·~aBw hv pins s σ H R I h
end
end L2


namespace L2
open PySem PySem.Spec PySem.Calls PyProof.Rows PyProof.V
B5 UW{H:Hp}{p:Addr}{kvs:List (List Key×V)}(h:H p=some (.dT kvs)):Aw H p:=⟨fun ys e=>(by rw[h]at e;cases e),fun o ys e=>(by rw[h]at e;cases e)⟩
section
variable{K:aJ}{B H:Hp}{env:EN}{σ:St}
B5 Rel.aKY{i:Nat}{p:List Step}{d0:D}{ks:List (List Key)}{ds:List D}(h:Rel K B env σ H)(e:env[i]?=some (.own d0))(q:gC p d0=some (.dt ks ds)):∃v0 a xs Bs,σ[i]?=some (some v0)∧Qj H p v0=some (.ref a)∧H a=some (.dT (ks.zip xs))∧ks.length=xs.length∧¬Bs a∧eQ K H ds Bs xs ∧
    ∀H2 ks' ds' xs' Bn,aV H H2→ks'.length=xs'.length→eQ K H2 ds' Bn xs'→(∀b,Bn b→Bs b∨H b=none)→Rel K B (env.set i (.own (fG p d0 (.dt ks' ds')))) σ (upd H2 a (.dT (ks'.zip xs'))):=by
  B3⟨v0,w,A1,C,h1,h2,h3,h4,h5,h6⟩:=h.at e q
  B4 Ow at h3
  B3⟨a,xs,Bs,rfl,o2,o2',o3,o4,o5⟩:=h3
  &⟨v0,a,xs,Bs,h1,h2,o2,o2',o3,o5,fun H2 ks' ds' xs' Bn s hl o hb=>?_⟩
  have nBa:¬Bn a:=fun z=>(hb a z).elim o3 fun z=>by rw[o2]at z;cases z
  have hC:∀x,C x→¬x=a:=fun x z y=>h4 x ((o4 x).mpr (.inl y)) z
  have Wx:H2 a=some (.dT (ks.zip xs)):=s a _ o2
  &h6 _ (.dt ks' ds') (gB (·=a) Bn) (fun x z1 z2=>?_) (fun x z=>?_) (s.tk.trans (uU (UW Wx))) ?_ (fun x u ex=>?_)
  · rcases z1 with z1 | z1
    · ~hC x z2 z1
    · rcases hb x z1 with z | z
      · ~h4 x ((o4 x).mpr (.inr z)) z2
      · B3⟨⟨u,eu⟩,_⟩:=h5 x z2
        rw[z]at eu;cases eu
  · B3⟨⟨u,eu⟩,_⟩:=h5 x z
    rw[bN (hC x z),eu,s x u eu]
  · B4 Ow
    &⟨a,xs',Bn,rfl,cM,hl,nBa,fun _=>Iff.rfl,eQ.frame (uU (UW Wx)) _ _ _ o fun x zx=>bN fun y=>nBa (y▸zx)⟩
  · B3⟨e1,e2⟩:=bG.mp ex
    have na:x≠a:=fun y=>e1 (.inl ((o4 x).mpr (.inl y)))
    &bG.mpr ⟨fun z=>?_,by rw[bN na];~s x u e2⟩
    rcases z with (z | z) | z
    · ~na z
    · rcases hb x z with z | z
      · ~e1 (.inl ((o4 x).mpr (.inr z)))
      · rw[z]at e2;cases e2
    · ~e1 (.inr z)
end
def VB:List D→Option (List Key)
 | []=>some []
 | d::ds=>(Tt d).bind fun k=>(VB ds).map fun r=>k::r
B5 VD{K:aJ}{H:Hp}:∀{ds:List D} {ks:List Key} {vs:List V},VB ds=some ks→fQ K H ds vs→vs=ks.map kV
 | [],ks,vs,h,r=>by
  B4 VB at h
  cases h
  B4 fQ at r
  ~r
 | d::ds,ks,vs,h,r=>by
  B4 VB at h
  B3⟨k,h1,h2⟩:=bA h
  B3⟨ks',h3,rfl⟩:=lY h2
  B4 fQ at r
  B3⟨y,ys,rfl,r1,r2⟩:=r
  rw[Ed h1 r1,VD h3 r2]
  rfl
abbrev FK:=DE→Option (List Key)
def EvK(K:aJ)(t:TE)(fk:FK):Prop:=∀(σ:St)(H:Hp)(e:DE)(k:List Key)(Q:VK),Fq K H e σ→fk e=some k→(∀b H',aV H H'→H' b=some (.tup (k.map kV))→Q (.ref b) H')→t σ H Q
structure XKt(K:aJ)(X:Cx)(e:Expr)(t:TE)(fk:FK):Prop where
 hk:X.K=K
 pe:PE X e t
 ev:EvK K t fk
section
variable{K:aJ}{X:Cx}{st:Stmt}{e a b c o:Expr}{es rest:List Expr}{te ta tb tc t0 tv:TE}{f fa fb:FE}{g:FK}{gd:FE}{tA:TA}{fs:FA}{pos apos:Pos}{i j:Nat}{π:FP}{tbs:TS}
def Mv(fs:FA):FK:=fun e=>(fs e).bind fun ds=>if ds.length≤100 then VB ds else none
B5 Uj{x1:Nat}(h:XA K X es tA fs):XKt K X (.Tuple es x1 pos) (aEo tA) (Mv fs):=⟨h.hk,aBH h.pa,fun σ H e k Q re q kk=>by
 B3⟨ds,q1,q2⟩:=bA q
 split at q2
 ·rename_i hl
  &h.ev σ H H e ds _ (Zn.self K H) re q1 fun vs H1 Z1 s1 t1 z1 rvs=>⟨Yn (by rw[rvs.length];omega),fun p hp=>kk p _ (s1.trans (dI hp _)) ?_⟩
  rw[cM,VD q2 rvs]
 ·cases q2⟩
def Wz(neg:Bool)(fk:FK)(f:FE):FE:=fun e=>(fk e).bind fun k=>(f e).bind fun d=>match d with
 | .dt ks _=>some (.bl (if neg then !(posK ks k).isSome else(posK ks k).isSome))
 | _=>none
B5 jn{ks:List (List Key)}{xs:List V}{k:List Key}(h:ks.length=xs.length):(tG (ks.zip xs) k).isSome=(posK ks k).isSome:=by
 rw[sI h]
 cases q:posK ks k with
 | none=>rfl
 | some j=>
  B3⟨h1,h2⟩:=uB q
  rw[C4,B7 A6]
  rfl
B5 aH2{neg:Bool}{d:D}{σ:St}{H:Hp}{e:DE}{Q:VK}(ha:EvK K ta g)(hb:Ls K tb f)(re:Fq K H e σ)(q:Wz neg g f e=some d)(k:∀v H',aV H H'→Wt K H H' d v→Q v H') :
  ta σ H fun y H1=>tb σ H1 fun x H2=>∃a o,x=.ref a∧Jj H2 a y o∧Q (.bl (if neg then !o.isSome else o.isSome)) H2:=by
 B3⟨kk,q1,q⟩:=bA q
 B3⟨d1,q2,q⟩:=bA q
 split at q
 ·rename_i ks ds
  cases q
  &ha σ H e kk _ re q1 fun bb H1 s1 hb1=>hb σ H1 H1 e _ _ (Zn.self K H1) (re.same s1) q2 fun x H2 Z2 s2 t2 z2 rx=>?_
  have rx:=z2.sm.rv _ _ rx
  B4 Rv at rx
  B3⟨p,xs,r1,r2,r3,r4⟩:=rx
  &⟨p,tG (ks.zip xs) kk,r1,.inr ⟨_,kk,bb,r2,rfl,s2 _ _ hb1,rfl⟩,?_⟩
  rw[jn r3]
  ~k _ H2 (s1.trans s2) (.jJ rfl (by B4 Rv;rfl))
 ·cases q
B5 aFo(hu:X.A.units+1<cLine)(ha:XKt K X a ta g)(hb:XR K X b tb f)(h1:behindInMarks .In b=false:=by first | ~nobehind _ A8 A8 | rfl):XN K X (.Compare a [.In] [b] pos) (aEE ta tb) (Wz false g f):=
 ⟨ha.hk,bu (gh hu ha.pe hb.pe) h1,fun σ H e d Q re q k=>aH2 (neg:=false) ha.ev hb.ev re q k⟩
B5 xg(hu:X.A.units+1<cLine)(ha:XKt K X a ta g)(hb:XR K X b tb f)(h1:behindInMarks .In b=false:=by first | ~nobehind _ A8 A8 | rfl):XT K X (.Compare a [.In] [b] pos) (tB (aEE ta tb)) (fB (Wz false g f)):=aGh (aFo hu ha hb h1) (gh hu ha.pe hb.pe) h1
def Uk(f:FE)(fk:FK):FE:=fun e=>(f e).bind fun d=>(fk e).bind fun k=>match d with
 | .dt ks ds=>(posK ks k).bind fun j=>(ds[j]?).bind fun r=>if r.jJ=true then some r else none
 | _=>none
B5 VF(hu:X.A.units+1<cLine)(ha:XR K X a ta f)(hb:XKt K X b tb g)(hs:aBR b):XN K X (.Subscript a b pos) (ue ta tb) (Uk f g):=
 ⟨ha.hk,FQ hu ha.pe hb.pe hs,fun σ H e d Q re q k=>by
  B3⟨d1,q1,q⟩:=bA q
  B3⟨kk,q2,q⟩:=bA q
  split at q
  ·rename_i ks ds
   B3⟨j,q3,q⟩:=bA q
   B3⟨r,q4,q⟩:=bA q
   split at q
   ·rename_i im
    cases q
    &ha.ev σ H H e _ _ (Zn.self K H) re q1 fun x H1 Z1 s1 t1 z1 rx=>hb.ev σ H1 e kk _ (re.same s1) q2 fun bb H2 s2 hb2=>?_
    have rx:=s2.rv _ _ (z1.sm.rv _ _ rx)
    B4 Rv at rx
    B3⟨p,xs,r1,r2,r3,r4⟩:=rx
    B3⟨v,e1,e2⟩:=r4.get q4
    &⟨p,v,r1,.inr ⟨_,kk,bb,r2,rfl,hb2,?_⟩,k v H2 (s1.trans s2) (.jJ im e2)⟩
    rw[sI r3,q3,C4,e1]
   ·cases q
  ·cases q⟩
B5 aCF(hk:X.K=K:=by rfl):XN K X (.Dict [] [] pos) aBT (fC (.dt [] [])):=⟨hk,aBV,fun σ H e d Q re q k=>by
 cases q
 intro p hp
 &k _ _ (dI hp _) ⟨(·=p),?_,fun a q=>by cases q;~hp⟩
 B4 Ow
 ~⟨p,[],nil,rfl,cM,rfl,fun z=>z,fun x=>⟨.inl,fun z=>z.elim id False.elim⟩,by B4 eQ;~⟨fun _ z=>z,rfl⟩⟩⟩
def Yz(i:Nat)(π:FP)(g:FK)(f:FE):GS:=fun env=>match env[i]?,π (rE env),g (rE env),f (rE env)with
 | some (.own d0),some p,some k,some d=>(match gC p d0 with
  | some (.dt ks ds)=>if d.jJ=true∧ks.length<100000 then .next (env.set i (.own (fG p d0 (.dt (mL ks k) (putD ks ds k d)))))else .bad
  | _=>.bad)
 | _,_,_,_=>.bad
B5 VG{H:Hp}{d:D}{v:V}(o:Ow K H d nil v)(k:List Key):∀{ks:List (List Key)} {ds:List D} {A:Fp} {xs:List V},ks.length=xs.length→eQ K H ds A xs→∃A',(∀x,A' x→A x)∧eQ K H (P9 (fun k' d'=>if k'=k then d else d') ks ds) A' (P9 (fun k' d'=>if k'=k then v else d') ks xs)
 | [],ds,A,xs,hl,h=>by
  cases xs with
  | nil=>~⟨nil,fun _ z=>z.elim,by rw[Q1,Q1];B4 eQ;~⟨fun _ z=>z,rfl⟩⟩
  | cons x xs=>simp at hl
 | k0::ks,[],A,xs,hl,h=>by B4 eQ at h;rw[h.2]at hl;simp at hl
 | k0::ks,d0::ds,A,xs,hl,h=>by
  B4 eQ at h
  B3⟨y,yt,A1,A2,rfl,h2,h3,h4,h5⟩:=h
  B3⟨A',a1,a2⟩:=VG o k (by simpa using hl) h5
  by_cases c:k0=k
  ·&⟨A',fun x q=>(h3 x).mpr (.inr (a1 x q)),?_⟩
   rw[J6,J6,if_pos c,if_pos c]
   B4 eQ
   ~⟨v,_,nil,A',rfl,fun _ z=>z.elim,fun x=>⟨.inr,fun z=>z.elim False.elim id⟩,o,a2⟩
  ·&⟨gB A1 A',fun x q=>(h3 x).mpr (q.imp id (a1 x)),?_⟩
   rw[J6,J6,if_neg c,if_neg c]
   B4 eQ
   ~⟨y,_,A1,A',rfl,fun x z1 z2=>h2 x z1 (a1 x z2),fun _=>Iff.rfl,h4,a2⟩
B5 aFp(h:EvP K ta i π)(hx:EvK K tb g)(he:Ls K te f):DSs K (Jk ta tb te) (Yz i π g f):=fun B E σ H env r p=>by
 B4 Yz at p
 split at p
 ·rename_i d0 pp k d q1 q2 q3 q3'
  split at p
  ·rename_i ks ds q4
   split at p
   ·rename_i hc
    B3⟨v0,a,xs,Bs,k1,k2,k3,k3',k4,k5,k6⟩:=r.aKY q1 q4
    &he σ H H (rE env) d _ (Zn.self K H) r.r q3' fun y H1 Z1 s1 t1 z1 ry=>?_
    &h σ H1 (rE env) v0 pp _ _ (r.r.same s1) k1 q2 (Ca s1 k2) fun H2 s2=>hx σ H2 (rE env) _ _ (r.r.same (s1.trans s2)) q3 fun bb H3 s3 hb3=>?_
    have HN:=s1.trans (s2.trans s3)
    have o:Ow K H3 d nil y:=Bu d y hc.1 ((z1.sm.trans (s2.trans s3)).rv _ _ ry)
    &⟨a,_,rfl,.inr ⟨ks.zip xs,k,bb,HN _ _ k3,rfl,hb3,Yo (by rw[U3];omega),rfl⟩,p _ ?_⟩
    rw[QX k3']
    have ow3:=k5.same HN
    by_cases c:(posK ks k).isSome=true
    ·B3⟨A',a1,a2⟩:=VG o k k3' ow3
     &k6 H3 (mL ks k) (putD ks ds k d) (putD ks xs k y) A' HN (xX k3') ?_ fun b z=>.inl (a1 b z)
     B4 putD
     rw[if_pos c,if_pos c]
     ~a2
    ·&k6 H3 (mL ks k) (putD ks ds k d) (putD ks xs k y) (gB Bs nil) HN (xX k3') ?_ fun b z=>z.elim .inl False.elim
     B4 putD
     rw[if_neg c,if_neg c]
     ~cZ.mpr ((cZ.mp ow3).snoc o fun _ _ z=>z)
   ·~p.elim
  ·~p.elim
 ·~p.elim
def aK0(K:aJ)(t:TA)(fs:FA)(i:Nat):Prop:=∀(σ:St)(H:Hp)(e:DE)(ds:List D)(v:V)(Q:List V→Hp→Prop),Fq K H e σ→fs e=some ds→σ[i]?=some (some v)→(∀vs H',aV H H'→GK K H H' ds vs→Q (vs++[v]) H')→t σ H Q
structure XBm(K:aJ)(X:Cx)(es:List Expr)(t:TA)(fs:FA)(i:Nat):Prop where
 hk:X.K=K
 pa:PA X es t
 ev:aK0 K t fs i
end
end L2


namespace L2
open PySem PySem.Spec PySem.Calls PyProof.Rows PyProof.V
section
variable{K:aJ}{X:Cx}{st:Stmt}{e a b c o:Expr}{es rest:List Expr}{te ta tb tc t0 tv:TE}{f fa fb g:FE}{gk:FK}{gd:FE}{tA:TA}{fs:FA}{pos apos:Pos}{i j:Nat}{π:FP}{tbs:TS}{gm:GM}
def gmN(f:FE):GM:=fun env=>(f (rE env)).map fun d=>(d,env)
B5 zK(h:XN K X e te f):XM K X e te (gmN f):=aKW h
B5 zL(h:XR K X e te f)(hs:swapsWith e none pos.line X.env=pure false:=by rfl):YS K X (.Expr e pos) (oH te) (xZ f):=⟨kE h.pe hs,aE7 h.ev⟩
B5 oX{C:Addr}{nm0:List Str}{x:Str}{pos':Pos}(F:jE K C nm0)(hx:x∈nm0)(h:XP K X a ta i π)(he:XN K X e te f)(hs:swapsWith e (some (.Attribute a x pos')) pos.line X.env=pure false:=by rfl):YS K X (.Assign [.Attribute a x pos'] e pos) (aHe K ta te x) (iW i (yD C i π x f)):=⟨by have:=h.hk;subst this;~aHf h.pe he.pe hs,(aCx (aH0 F hx h.ev he.ev)).ds⟩
B5 Rh{m:Str}{apos cpos:Pos}(h:XP K X a ta i π)(he:XN K X e te f)(hp:PE X a ta→PE X e te→PS X (.Expr (.Call (.Attribute a m apos) [e] [] cpos) pos) (oH (Sh K "list" uA ta (gF te oK)))):YS K X (.Expr (.Call (.Attribute a m apos) [e] [] cpos) pos) (oH (Sh K "list" uA ta (gF te oK))) (iW i (zH i π f)):=Hr i (hp h.pe he.pe) (aCk h.ev he.ev)
B5 Ul{pos':Pos}(h:XP K X a ta i π)(hx:XR K X b tb g)(he:XN K X e te f)(hp:PE X a ta→PE X b tb→PE X e te→PS X (.Assign [.Subscript a b pos'] e pos) (Bm te (aAa ta tb Yh))):YS K X (.Assign [.Subscript a b pos'] e pos) (Bm te (aAa ta tb Yh)) (iW i (wG i π g f)):=Hr i (hp h.pe hx.pe he.pe) (vf h.ev hx.ev he.ev)
B5 uZ{pos':Pos}(h:XP K X a ta i π)(hx:XR K X b tb g)(he:XR K X e te f)(hp:PE X a ta→PE X b tb→PE X e te→PS X (.Assign [.Subscript a b pos'] e pos) (Jk ta tb te)):YS K X (.Assign [.Subscript a b pos'] e pos) (Jk ta tb te) (iW i (pF i π g f)):=Hr i (hp h.pe hx.pe he.pe) (vh h.ev hx.ev he.ev)
B5 aCG{pos':Pos}(h:XP K X a ta i π)(hx:XKt K X b tb gk)(he:XR K X e te f)(hp:PE X a ta→PE X b tb→PE X e te→PS X (.Assign [.Subscript a b pos'] e pos) (Jk ta tb te)):YS K X (.Assign [.Subscript a b pos'] e pos) (Jk ta tb te) (iW i (Yz i π gk f)):=Hr i (hp h.pe hx.pe he.pe) (aFp h.ev hx.ev he.ev)
end
end L2
namespace L2
open PySem PySem.Spec PySem.Calls PyProof.Rows PyProof.V
def D.VH:D→Bool
 | .non=>true
 | _=>false
B5 VJ{K:aJ}{H:Hp}{d:D}{v:V}(r:Rv K H d v):decide (v=.non)=d.VH:=by
 cases d with
 | non=>B4 Rv at r;subst r;rfl
 | bl b=>B4 Rv at r;subst r;rfl
 | int b=>B4 Rv at r;subst r;rfl
 | str b=>B4 Rv at r;subst r;rfl
 | lst ds=>B4 Rv at r;B3⟨a,xs,rfl,_⟩:=r;rfl
 | tup ds=>B4 Rv at r;B3⟨a,xs,rfl,_⟩:=r;rfl
 | dk ks ds=>B4 Rv at r;B3⟨a,xs,rfl,_⟩:=r;rfl
 | dt ks ds=>B4 Rv at r;B3⟨a,xs,rfl,_⟩:=r;rfl
 | ins C nm ds=>B4 Rv at r;B3⟨a,dx,xs,rfl,_⟩:=r;rfl
def Jz(neg:Bool)(a b:D):Option D:=match b with
 | .non=>some (.bl (if neg then !a.VH else a.VH))
 | _=>none
B5 jo{K:aJ}:OD K (fun x y H Q=>y=.non∧Q (.bl (decide (x=.non))) H) (Jz false):=fun x y H a b d Q ra rb q k=>by
 B4 Jz at q
 split at q
 ·cases q
  B4 Rv at rb
  &⟨rb,?_⟩
  rw[VJ ra]
  ~k _ H (aV.refl _) (.jJ rfl (by B4 Rv;rfl))
 ·cases q
B5 Mw{K:aJ}:OD K (fun x y H Q=>y=.non∧Q (.bl (!decide (x=.non))) H) (Jz true):=fun x y H a b d Q ra rb q k=>by
 B4 Jz at q
 split at q
 ·cases q
  B4 Rv at rb
  &⟨rb,?_⟩
  rw[VJ ra]
  ~k _ H (aV.refl _) (.jJ rfl (by B4 Rv;rfl))
 ·cases q
end L2


namespace L2
open PySem PySem.Spec PySem.Calls PyProof.Rows PyProof.V
section
variable{K:aJ}{X:Cx}{e stx:Expr}{te ts:TE}{f g:FE}{pos p2:Pos}
end
end L2


namespace L2
open PySem PySem.Spec PySem.Calls PyProof.Rows PyProof.V
abbrev FE2:=DE→DE→Option D
def EvZ(K:aJ)(t:TE)(f:FE2):Prop:=∀{N:Fp}(σ:St)(H Z:Hp)(eF eZ:DE)(d:D)(Q:VK),Zn K N Z H→Fq K H eF σ→Fq K Z eZ σ→f eF eZ=some d →
 (∀v H' Z',aV H H'→aV Z Z'→Zn K N Z' H'→Rv K Z' d v→Q v H')→t σ H Q
def aK1(K:aJ)(t:TA)(f:FA2):Prop:=∀{N:Fp}(σ:St)(H Z:Hp)(eF eZ:DE)(ds:List D)(Q:List V→Hp→Prop),Zn K N Z H→Fq K H eF σ→Fq K Z eZ σ→f eF eZ=some ds →
 (∀vs H' Z',aV H H'→aV Z Z'→Zn K N Z' H'→fQ K Z' ds vs→Q vs H')→t σ H Q
structure XZ(K:aJ)(X:Cx)(e:Expr)(t:TE)(f:FE2):Prop where
 hk:X.K=K
 pe:PE X e t
 ev:EvZ K t f
structure XZA(K:aJ)(X:Cx)(es:List Expr)(t:TA)(f:FA2):Prop where
 hk:X.K=K
 pa:PA X es t
 ev:aK1 K t f
section
variable{K:aJ}{X:Cx}{e a b:Expr}{es:List Expr}{te ta tb:TE}{f:FE}{g h:FE2}{tA:TA}{fs:FA2}{pos:Pos}{i:Nat}
def faZ(g:FE2)(fs:FA2):FA2:=fun eF eZ=>(g eF eZ).bind fun d=>(fs eF eZ).map fun r=>d::r
def aLJ(fs:FA2):FE2:=fun eF eZ=>(fs eF eZ).bind fun ds=>cap ds.length (.lst ds)
def aJJ(a b:D):Option D:=match a,b with
 | .lst x,.lst y=>if x.length+y.length≤100000 then some (.lst (x++y))else none
 | _,_=>none
def aLK(g h:FE2):FE2:=fun eF eZ=>(g eF eZ).bind fun a=>(h eF eZ).bind fun b=>aJJ a b
def aK2(js:List Nat)(i:Nat)(g:FE2):GS:=fun env=>match g (rE (Jg js env)) (zE (Jg js env))with
 | some d=>if i<(Jg js env).length then .next ((Jg js env).set i (.fro d))else .bad
 | none=>.bad
end
end L2


namespace L2
open PySem PySem.Spec PySem.Calls PyProof.Rows PyProof.V
inductive Ar where
  | ch (i:Nat) | rd (f:FE) | nw (f:FE)
def chA:List Ar→List Nat
 | []=>[]
 | .ch i::as=>i::chA as
 | .rd _::as=>chA as
 | .nw _::as=>chA as
def sS:List Ar→List Bool
 | []=>[]
 | .ch _::as=>true::sS as
 | .rd _::as=>false::sS as
 | .nw _::as=>false::sS as
def rdA:List Ar→DE→DE→Option (List D)
 | [],_,_=>some []
 | .ch _::as,eF,eZ=>rdA as eF eZ
 | .rd f::as,eF,eZ=>(f eZ).bind fun d=>(rdA as eF eZ).map fun r=>d::r
 | .nw f::as,eF,eZ=>(f eF).bind fun d=>(rdA as eF eZ).map fun r=>d::r
def xJ:List Bool→List D→List D→List D
 | true::m,c::cs,rs=>c::xJ m cs rs
 | false::m,cs,r::rs=>r::xJ m cs rs
 | _,_,_=>[]
def aAR:List Bool→List V→List V
 | true::m,v::vs=>v::aAR m vs
 | false::m,_::vs=>aAR m vs
 | _,_=>[]
def aCH:List Bool→List D→List V→EN
 | true::m,d::ds,v::vs=>.inn v d::aCH m ds vs
 | false::m,d::ds,_::vs=>.fro d::aCH m ds vs
 | _,_,_=>[]
def VL(K:aJ)(Z:Hp)(σ:St):List Ar→List D→List V→Prop
 | [],ds,vs=>ds=[]∧vs=[]
 | .ch i::as,ds,vs=>∃v r,vs=v::r∧σ[i]?=some (some v)∧VL K Z σ as ds r
 | .rd _::as,ds,vs=>∃d dr v r,ds=d::dr∧vs=v::r∧Rv K Z d v∧VL K Z σ as dr r
 | .nw _::as,ds,vs=>∃d dr v r,ds=d::dr∧vs=v::r∧Rv K Z d v∧VL K Z σ as dr r
def VsA(σ:St):List Nat→List V→Prop
 | [],vs=>vs=[]
 | j::js,vs=>∃v r,vs=v::r∧σ[j]?=some (some v)∧VsA σ js r
def takes:List Nat→EN→Option (List D×EN)
 | [],env=>some ([],env)
 | j::js,env=>(env[j]?.bind SD.hold).bind fun db=>(takes js (env.set j .no)).map fun de=>(db.1::de.1,de.2)
def Xa:List Nat→List D→EN→EN
 | j::js,d::ds,env=>(match env[j]?.bind SD.hold with
  | some db=>(Xa js ds (env.set j .no)).set j (db.2 d)
  | none=>env)
 | _,_,env=>env
section
variable{K:aJ}{X:Cx}{e:Expr}{es:List Expr}{te:TE}{f:FE}{tA:TA}{as:List Ar}{pos:Pos}{i:Nat}
def aK3(K:aJ)(t:TA)(as:List Ar):Prop:=∀(A1:Fp)(σ:St)(H:Hp)(eF eZ:DE)(ds:List D)(cv:List V)(Q:List V→Hp→Prop),(∀x,A1 x→nZ H x)→Fq K H eF σ→Fq K (out H A1) eZ σ→VsA σ (chA as) cv→rdA as eF eZ=some ds →
 (∀vs H',aV H H'→VL K (out H' A1) σ as ds vs→Q vs H')→t σ H Q
structure XAC(K:aJ)(X:Cx)(es:List Expr)(t:TA)(as:List Ar):Prop where
 hk:X.K=K
 pa:PA X es t
 ev:aK3 K t as
B5 xj(hk:X.K=K:=by rfl):XAC K X [] oK []:=⟨hk,jM,fun A1 σ H eF eZ ds cv Q c re rz va q k=>by
 cases q
 ~k [] H (aV.refl _) ⟨rfl,rfl⟩⟩
B5 JC{y:Str}{py:Pos}(hv:PE X (.Name y py) (sE i))(hs:XAC K X es tA as)(hst:starEach (.Name y py::es) X.env=(false,eval (.Name y py) X.env)::starEach es X.env:=by rfl):XAC K X (.Name y py::es) (gF (sE i) tA) (.ch i::as):=⟨hs.hk,dG hv hs.pa hst,fun A1 σ H eF eZ ds cv Q c re rz va q k=>by
 B3⟨v,r,rfl,h1,h2⟩:=va
 ~⟨v,h1,hs.ev A1 σ H eF eZ ds r _ c re rz h2 q fun vs H' s a=>k (v::vs) H' s ⟨v,vs,rfl,h1,a⟩⟩⟩
B5 aGA(h:XR K X e te f)(hs:XAC K X es tA as)(hst:starEach (e::es) X.env=(false,eval e X.env)::starEach es X.env:=by rfl):XAC K X (e::es) (gF te tA) (.rd f::as):=⟨h.hk,dG h.pe hs.pa hst,fun A1 σ H eF eZ ds cv Q c re rz va q k=>by
 B3⟨d,q1,q2⟩:=bA q
 B3⟨ds',q3,rfl⟩:=lY q2
 &h.ev σ H (out H A1) eZ d _ (aCz c) rz q1 fun v H1 Z1 s1 t1 z1 rv=>?_
 &hs.ev A1 σ H1 eF eZ ds' cv _ (fun x q=>(c x q).same s1) (re.same s1) (rz.same (cH s1 fun x q=>.inl q)) va q3 fun vs H2 s2 rvs=>?_
 ~k (v::vs) H2 (s1.trans s2) ⟨d,ds',v,vs,rfl,rfl,((aGw z1).trans (cH s2 fun x q=>.inl q)).rv _ _ rv,rvs⟩⟩
end
section
variable{K:aJ}{H H' Z Z' B:Hp}{σ:St}
B5 xn:∀(js:List Nat)(ds:List D)(env:EN)(p:List D×EN)(j:Nat),takes js env=some p→env[j]?=some .no→(Xa js ds env)[j]?=some .no
 | [],ds,env,p,j,_,h=>by B4 Xa;~h
 | i::js,[],env,p,j,_,h=>by B4 Xa;~h
 | i::js,d::ds,env,p,j,q,h=>by
  B4 takes at q
  B3⟨db,q1,q2⟩:=bA q
  B3⟨de,q3,_⟩:=lY q2
  have ne:i≠j:=fun z=>by
   subst z
   rw[h]at q1
   cases q1
  B4 Xa
  rw[q1]
  dsimp only
  rw[F7,if_neg ne]
  ~xn js ds _ _ j q3 (by rw[F7,if_neg ne];~h)
B5 eO.fp{α β:Type}{R:α→Fp→β→Prop}{ds:List α}{A A':Fp}{ys:List β}(h:eO R ds A ys)(e:Is A A'):eO R ds A' ys:=by
 have:A=A':=funext fun x=>propext (e x)
 rw[←this]
 ~h
B5 VM:∀(js:List Nat)(env:EN)(A:Fp)(ds:List D)(e0:EN),eO (gG K H Z) env A σ→takes js env=some (ds,e0)→∃A0 A1 vs,Apart A0 A1∧Is A (gB A0 A1)∧eO (gG K H Z) e0 A0 σ∧eQ K H ds A1 vs∧VsA σ js vs ∧
    ∀(H' Z':Hp)(ds':List D)(A0' az:Fp),eO (gG K H' Z') e0 A0' σ→eQ K H' ds' az vs→Apart A0' az→eO (gG K H' Z') (Xa js ds' env) (gB A0' az) σ
  | [],env,A,ds,e0,h,q=>by
    cases q
    &⟨A,nil,[],fun _ _ z=>z,fun x=>⟨.inl,fun z=>z.elim id False.elim⟩,h,by B4 eQ;~⟨fun _ z=>z,rfl⟩,rfl,fun H' Z' ds' A0' az s o ap=>?_⟩
    cases ds' with
    | nil=>
      B4 eQ at o
      B4 Xa
      ~s.fp fun x=>⟨.inl,fun z=>z.elim id fun z=>absurd z (o.1 x)⟩
    | cons d dr=>
      B4 eQ at o
      B3⟨y,yt,_,_,z,_⟩:=o
      cases z
  | j::js,env,A,ds,e0,h,q=>by
    B4 takes at q
    B3⟨db,q1,q2⟩:=bA q
    B3⟨⟨dr,e1⟩,q3,q4⟩:=lY q2
    cases q4
    B3⟨s,e,hs⟩:=bA q1
    B3⟨y,A1,C,h1,h2,h3,h4,k⟩:=h.focus e
    have key:∃v,y=some v∧Ow K H db.1 A1 v∧∀(H' Z':Hp)(d':D)(A':Fp),Ow K H' d' A' v→gG K H' Z' (db.2 d') A' (some v):=by
      cases s with
      | no=>cases hs
      | fro d=>cases hs
      | own d=>cases hs;B3⟨v,rfl,o⟩:=h4;~⟨v,rfl,o,fun H' Z' d' A' o'=>⟨v,rfl,o'⟩⟩
      | inn v d=>cases hs;B3⟨rfl,o⟩:=h4;~⟨v,rfl,o,fun H' Z' d' A' o'=>⟨rfl,o'⟩⟩
    B3⟨v,rfl,o,bk⟩:=key
    have s0:=k _ (fun _ _ _ _ q=>q) .no (some v) nil (fun _ z=>z.elim) (fun _ z=>z)
    rw[set_same h1]at s0
    B3⟨A0,A1r,vs,k1,k2,k3,k4,k5,k6⟩:=VM js (env.set j .no) _ dr e1 s0 q3
    have hC:∀x,C x↔A0 x∨A1r x:=fun x=>⟨fun z=>(k2 x).mp (.inr z),fun z=>((k2 x).mpr z).elim False.elim id⟩
    &⟨A0,gB A1 A1r,v::vs,fun x z1 z2=>z2.elim (fun z=>h2 x z ((hC x).mpr (.inl z1))) (k1 x z1),fun x=>?_,k3,?_,⟨v,vs,rfl,h1,k5⟩,fun H' Z' ds' A0' az s' o' ap=>?_⟩
    · rw[h3 x]
      constructor
      · rintro(z | z)
        · ~.inr (.inl z)
        · ~((hC x).mp z).elim .inl fun z=>.inr (.inr z)
      · rintro(z | z | z)
        · ~.inr ((hC x).mpr (.inl z))
        · ~.inl z
        · ~.inr ((hC x).mpr (.inr z))
    · B4 eQ
      ~⟨v,vs,A1,A1r,rfl,fun x z1 z2=>h2 x z1 ((hC x).mpr (.inr z2)),fun x=>Iff.rfl,o,k4⟩
    · cases ds' with
      | nil=>
        B4 eQ at o'
        cases o'.2
      | cons d' dr'=>
        B4 eQ at o'
        B3⟨y',yt,Aj,Ar',z1,a1,a2,o1,o2⟩:=o'
        cases z1
        have s1:=k6 H' Z' dr' A0' Ar' s' o2 fun x w1 w2=>ap x w1 ((a2 x).mpr (.inr w2))
        have n1:=xn js dr' (env.set j .no) _ j q3 (J5 (D2.mp e).1)
        B3⟨y2,Bx,C2,f1,f2,f3,f4,f5⟩:=s1.focus n1
        have f4:∀x,¬Bx x:=f4
        have hC2:∀x,C2 x↔A0' x∨Ar' x:=fun x=>⟨fun z=>(f3 x).mpr (.inr z),fun z=>((f3 x).mp z).elim (fun w=>absurd w (f4 x)) id⟩
        have s2:=f5 _ (fun _ _ _ _ q=>q) (db.2 d') (some v) Aj (fun x w1 w2=>((hC2 x).mp w2).elim (fun w=>ap x w ((a2 x).mpr (.inl w1))) (a1 x w1)) (bk H' Z' d' Aj o1)
        rw[set_same h1]at s2
        B4 Xa
        rw[q1]
        dsimp only
        &s2.fp fun x=>?_
        constructor
        · rintro(z | z)
          · ~.inr ((a2 x).mpr (.inl z))
          · ~((hC2 x).mp z).elim .inl fun z=>.inr ((a2 x).mpr (.inr z))
        · rintro(z | z)
          · ~.inr ((hC2 x).mpr (.inl z))
          · ~((a2 x).mp z).elim .inl fun z=>.inr ((hC2 x).mpr (.inr z))
B5 Em:∀(as:List Ar)(Ql OJ:List D)(A:Fp)(xq vs:List V),eQ K H Ql A xq→VsA σ (chA as) xq→VL K Z σ as OJ vs→eO (gG K H Z) (aCH (sS as) (xJ (sS as) Ql OJ) vs) A (vs.map some)∧aAR (sS as) vs=xq∧(xJ (sS as) Ql OJ).length=(sS as).length∧vs.length=(sS as).length
 | [],Ql,OJ,A,xq,vs,o,va,ar=>by
  B3⟨rfl,rfl⟩:=ar
  have va:xq=[]:=va
  subst va
  cases Ql with
  | nil=>B4 eQ at o;~⟨⟨o.1,rfl⟩,rfl,rfl,rfl⟩
  | cons d dr=>B4 eQ at o;B3⟨_,_,_,_,z,_⟩:=o;cases z
 | .ch i::as,Ql,OJ,A,xq,vs,o,va,ar=>by
  B3⟨v,r,rfl,h1,h2⟩:=va
  B3⟨v',r',rfl,g1,g2⟩:=ar
  rw[h1]at g1
  cases g1
  cases Ql with
  | nil=>B4 eQ at o;cases o.2
  | cons d dr=>
   B4 eQ at o
   B3⟨y,yt,A1,A2,z,a1,a2,o1,o2⟩:=o
   cases z
   B3⟨m1,m2,m3,m4⟩:=Em as dr OJ A2 r r' o2 h2 g2
   ~⟨⟨some v,r'.map some,A1,A2,rfl,a1,a2,⟨rfl,o1⟩,m1⟩,congrArg (v::·) m2,congrArg (·+1) m3,congrArg (·+1) m4⟩
 | .rd f::as,Ql,OJ,A,xq,vs,o,va,ar=>by
  B3⟨d,dr,v,r,rfl,rfl,g1,g2⟩:=ar
  B3⟨m1,m2,m3,m4⟩:=Em as Ql dr A xq r o va g2
  have e:xJ (sS (.rd f::as)) Ql (d::dr)=d::xJ (sS as) Ql dr:=by
   cases Ql<;>rfl
  rw[e]
  ~⟨⟨some v,r.map some,nil,A,rfl,fun _ z=>z.elim,fun x=>⟨.inr,fun z=>z.elim False.elim id⟩,⟨fun _ z=>z,v,rfl,g1⟩,m1⟩,m2,congrArg (·+1) m3,congrArg (·+1) m4⟩
 | .nw f::as,Ql,OJ,A,xq,vs,o,va,ar=>by
  B3⟨d,dr,v,r,rfl,rfl,g1,g2⟩:=ar
  B3⟨m1,m2,m3,m4⟩:=Em as Ql dr A xq r o va g2
  have e:xJ (sS (.nw f::as)) Ql (d::dr)=d::xJ (sS as) Ql dr:=by
   cases Ql<;>rfl
  rw[e]
  ~⟨⟨some v,r.map some,nil,A,rfl,fun _ z=>z.elim,fun x=>⟨.inr,fun z=>z.elim False.elim id⟩,⟨fun _ z=>z,v,rfl,g1⟩,m1⟩,m2,congrArg (·+1) m3,congrArg (·+1) m4⟩
B5 aJK{A A0 A1:Fp}{e0:EN}(h:eO (gG K H (out H A)) e0 A0 σ)(h0:Apart A0 A1)(hA:∀x,A1 x→A x)(c:∀x,A1 x→nZ H x):Fq K (out H A1) (rE e0) σ:=fun j d q=>by
 B4 rE at q
 rw[B9]at q
 cases ej:e0[j]? with
 | none=>rw[ej]at q;cases q
 | some sd=>
  rw[ej]at q
  B3⟨y,Ak,Ck,f1,f2,f3,f4,_⟩:=h.focus ej
  have apk:Apart Ak A1:=fun x z1 z2=>h0 x ((f3 x).mpr (.inl z1)) z2
  cases sd with
  | no=>cases q
  | fro d1=>
   cases q
   B3⟨_,v1,rfl,f5⟩:=f4
   ~⟨v1,f1,(cH (aV.refl _) fun x q=>.inl (hA x q):aV (out H A) (out H A1)).rv _ _ f5⟩
  | own d1=>
   cases q
   B3⟨v1,rfl,f5⟩:=f4
   ~⟨v1,f1,f5.out apk fun x q=>(c x q).2⟩
  | inn v1 d1=>
   cases q
   B3⟨rfl,f5⟩:=f4
   ~⟨v1,f1,f5.out apk fun x q=>(c x q).2⟩
end
def spG(K:aJ)(mask:List Bool)(F:List D→Option (D×List D)):Sp:=fun vs H Q _=>∃A ds r ds',ds.length=mask.length∧vs.length=mask.length∧eO (gG K H (out H A)) (aCH mask ds vs) A (vs.map some)∧F ds=some (r,ds')∧∀w H' A' A2,eQ K H' ds' A' (aAR mask vs)→Ow K H' r A2 w→Apart A' A2→aV (out H A) (out H' (gB A' A2))→Q w H'
def Um(as:List Ar)(F:List D→Option (D×List D)):GM:=fun env=>(takes (chA as) env).bind fun ce=>(rdA as (rE env) (rE ce.2)).bind fun OJ=>(F (xJ (sS as) ce.1 OJ)).map fun rd=>(rd.1,Xa (chA as) rd.2 env)
section
variable{K:aJ}{X:Cx}{e:Expr}{es:List Expr}{tA:TA}{as:List Ar}{pos pf:Pos}
B5 xu{x:Str}{k n:Nat}{mask:List Bool}{F:List D→Option (D×List D)}(C:lN X.prog X.w X.K X.mg X.base x k n (spG K mask F))(hm:sS as=mask)(hr:lA k X.A)(hg:Gl X x)(ha:XAC K X (e::es) tA as)(hdb:(x==("__debug__" : Str))=false:=by decide)
  (he:starEach (e::es) X.env=(false,eval e X.env)::starEach es X.env:=by rfl) (hpl:(backTo pos (starEach es X.env)).any (·.1)=false:=by rfl):XM K X (.Call (.Name x pf) (e::es) [] pos) (Sd (spG K mask F) [] E0 tA) (Um as F):=⟨ha.hk,il C hr hg ha.pa hdb he hpl,fun B σ H env d env' Q r q k=>by
 subst hm
 B3⟨⟨Ql,e0⟩,q1,q⟩:=bA q
 B3⟨OJ,q2,q⟩:=bA q
 B3⟨⟨r1,ds'⟩,q3,q4⟩:=lY q
 cases q4
 have rr:=r.r
 B3⟨A,a,b⟩:=r
 B3⟨A0,A1,xq,t1,t2,t3,t4,t5,t6⟩:=VM _ _ _ _ _ a q1
 have cl:=lO a
 have c1:∀x,A1 x→nZ H x:=fun x z=>cl x ((t2 x).mpr (.inr z))
 have c0:∀x,A0 x→nZ H x:=fun x z=>cl x ((t2 x).mpr (.inl z))
 &ha.ev A1 σ H (rE env) (rE e0) OJ xq _ c1 rr (aJK t3 t1 (fun x z=>(t2 x).mpr (.inr z)) c1) t5 q2 fun vs H2 s2 ar=>?_
 show spG K (sS as) F (vs++[]) H2 Q E0
 rw[F3]
 have o2:eQ K H2 Ql A1 xq:=cZ.mpr ((cZ.mp t4).mono fun _ _ _ _ z=>z.same s2)
 B3⟨m1,m2,m3,m4⟩:=Em as Ql OJ A1 xq vs o2 t5 ar
 &⟨A1,_,r1,ds',m3,m4,m1,q3,fun w H3 A' A2 p1 p2 ap sm=>k w H3 ?_⟩
 rw[m2]at p1
 have hC:∀y,A0 y→¬A' y∧¬A2 y∧H3 y=H y:=fun y hy=>by
  B3⟨⟨u,eu⟩,_⟩:=c0 y hy
  B3⟨n1,n2⟩:=bG.mp (sm y u (bG.mpr ⟨fun z=>t1 y hy z,s2 y u eu⟩))
  ~⟨fun z=>n1 (.inl z),fun z=>n1 (.inr z),n2.trans eu.symm⟩
 have tk:Gz K H H3:=(Tg fun x q=>(c1 x q).2).trans ((cH s2 fun x q=>.inl q:aV (out H A1) (out H2 A1)).trans (sm.trans (mU _ _))).tk
 have g:aV (out H A) (out H3 (gB (gB A0 A') A2)):=fun y u ey=>by
  B3⟨e1,e2⟩:=bG.mp ey
  B3⟨n1,n2⟩:=bG.mp (sm y u (bG.mpr ⟨fun z=>e1 ((t2 y).mpr (.inr z)),s2 y u e2⟩))
  &bG.mpr ⟨fun z=>?_,n2⟩
  rcases z with (z | z) | z
  ·~e1 ((t2 y).mpr (.inl z))
  ·~n1 (.inl z)
  ·~n1 (.inr z)
 have f0:eO (gG K H3 (out H3 (gB (gB A0 A') A2))) e0 A0 σ:=t3.mono fun s D z hb qq=>by
  cases s with
  | no=>~qq
  | fro d=>B3⟨q1,v,q2,q3⟩:=qq;~⟨q1,v,q2,g.rv _ _ q3⟩
  | inn v d=>~⟨qq.1,Ow.frame tk _ _ _ qq.2 fun x zx=>(hC x (hb x zx)).2.2⟩
  | own d=>B3⟨v,q1,q2⟩:=qq;~⟨v,q1,Ow.frame tk _ _ _ q2 fun x zx=>(hC x (hb x zx)).2.2⟩
 have s3:=t6 H3 _ ds' A0 A' f0 p1 fun y z1 z2=>(hC y z1).1 z2
 ~⟨_,eO.snoc s3 ⟨w,rfl,p2⟩ fun y z1 z2=>z1.elim (fun z=>(hC y z).2.1 z2) fun z=>ap y z z2,b.trans g⟩⟩
end
def Za:List Bool→List V→EN→List D→Prop
 | true::m,v::vs,s::e,ds=>∃d r,s=.inn v d∧ds=d::r∧Za m vs e r
 | false::m,_::vs,_::e,ds=>Za m vs e ds
 | [],_,_,ds=>ds=[]
 | _,_,_,_=>False
def Xb(mask:List Bool)(r:D)(ds':List D)(vs:List V)(o:SR):Prop:=∃env',(o=.rete r env'∨(o=.next env'∧r=.non))∧Za mask vs env' ds'
B5 En:∀{m:List Bool} {vs:List V} {e:EN} {a b:List D},Za m vs e a→Za m vs e b→a=b
 | true::m,v::vs,s::e,a,b,⟨d,r,h1,h2,h3⟩,⟨d',r',g1,g2,g3⟩=>by
  rw[h1]at g1
  injection g1 with _ g1
  rw[h2,g2,En h3 g3,g1]
 | false::m,v::vs,s::e,a,b,h,g=>En (m:=m) (vs:=vs) (e:=e) h g
 | [],vs,e,a,b,h,g=>by
  have h:a=[]:=h
  have g:b=[]:=g
  rw[h,g]
 | true::m,[],e,a,b,h,g=>h.elim
 | false::m,[],e,a,b,h,g=>h.elim
 | true::m,v::vs,[],a,b,h,g=>h.elim
 | false::m,v::vs,[],a,b,h,g=>h.elim
B5 aCI{mask:List Bool}{r r2:D}{a b:List D}{vs:List V}{o:SR}(h1:Xb mask r a vs o)(h2:Xb mask r2 b vs o):r=r2∧a=b:=by
  B3⟨e1,a1,a2⟩:=h1
  B3⟨e2,b1,b2⟩:=h2
  rcases a1 with a1 | ⟨a1,rfl⟩
  · rcases b1 with b1 | ⟨b1,rfl⟩
    · rw[a1]at b1
      injection b1 with c1 c2
      subst c2
      ~⟨c1,En a2 b2⟩
    · rw[a1]at b1;cases b1
  · rcases b1 with b1 | ⟨b1,rfl⟩
    · rw[a1]at b1;cases b1
    · rw[a1]at b1
      injection b1 with c2
      subst c2
      ~⟨rfl,En a2 b2⟩
abbrev VN(n:Nat)(mask:List Bool)(ds:List D)(vs:List V):EN:=aCH mask ds vs++E4 (n-mask.length) SD.no
open Classical in
noncomputable def Pa(n:Nat)(mask:List Bool)(g:GS):List D→Option (D×List D):=fun ds=>if h:∃p:D×List D,ds.length=mask.length∧∀vs:List V,vs.length=mask.length→Xb mask p.1 p.2 vs (g (VN n mask ds vs))then some h.choose else none
B5 Ka{n:Nat}{mask:List Bool}{g:GS}{ds ds':List D}{r:D}(hl:ds.length=mask.length)(h:∀vs:List V,vs.length=mask.length→Xb mask r ds' vs (g (VN n mask ds vs))):Pa n mask g ds=some (r,ds'):=by
 have ex:∃p:D×List D,ds.length=mask.length∧∀vs:List V,vs.length=mask.length→Xb mask p.1 p.2 vs (g (VN n mask ds vs)):=⟨(r,ds'),hl,h⟩
 B4 Pa
 rw[dif_pos ex]
 have hz:(E4 mask.length V.non).length=mask.length:=P8
 B3⟨e1,e2⟩:=aCI (ex.choose_spec.2 _ hz) (h _ hz)
 ~congrArg some (j6 e1 e2)
B5 aCJ{n:Nat}{mask:List Bool}{g:GS}{ds ds':List D}{r:D}(h:Pa n mask g ds=some (r,ds'))(vs:List V)(hv:vs.length=mask.length):Xb mask r ds' vs (g (VN n mask ds vs)):=by
 B4 Pa at h
 split at h
 ·rename_i ex
  have:=ex.choose_spec
  rw[F5 h]at this
  ~this.2 vs hv
 ·cases h
section
variable{P:Program}{w:World}{K:aJ}{mg:Str→Option Value}{base:Heap}
B5 Ri{H Z:Hp}:∀(m:List Bool)(vs:List V)(env:EN)(ds:List D)(A:Fp)(σ:St),eO (gG K H Z) env A σ→Za m vs env ds→vs.length=m.length→∃A',(∀x,A' x→A x)∧eQ K H ds A' (aAR m vs)
 | true::m,v::vs,s::e,ds,A,σ,h,⟨d,r,h1,h2,h3⟩,hl=>by
  B3⟨y,yt,A1,A2,k1,k2,k3,k4,k5⟩:=h
  subst h1 h2
  B3⟨A',g1,g2⟩:=Ri m vs e r A2 yt k5 h3 (o9 hl)
  &⟨gB A1 A',fun x z=>(k3 x).mpr (z.elim .inl fun z=>.inr (g1 x z)),?_⟩
  B4 eQ
  ~⟨v,aAR m vs,A1,A',rfl,fun x z1 z2=>k2 x z1 (g1 x z2),fun x=>Iff.rfl,k4.2,g2⟩
 | false::m,v::vs,s::e,ds,A,σ,h,h3,hl=>by
  B3⟨y,yt,A1,A2,k1,k2,k3,k4,k5⟩:=h
  B3⟨A',g1,g2⟩:=Ri m vs e ds A2 yt k5 h3 (o9 hl)
  ~⟨A',fun x z=>(k3 x).mpr (.inr (g1 x z)),g2⟩
 | [],vs,e,ds,A,σ,h,g,hl=>by
  have g:ds=[]:=g
  subst g
  &⟨nil,fun _ z=>z.elim,?_⟩
  B4 eQ
  &⟨fun _ z=>z,?_⟩
  cases vs<;>rfl
 | true::m,[],e,ds,A,σ,h,g,hl=>g.elim
 | false::m,[],e,ds,A,σ,h,g,hl=>g.elim
 | true::m,v::vs,[],ds,A,σ,h,g,hl=>g.elim
 | false::m,v::vs,[],ds,A,σ,h,g,hl=>g.elim
B5 xx{H Z:Hp}:∀(n:Nat) {env:EN} {A:Fp} {σ:St},eO (gG K H Z) env A σ→eO (gG K H Z) (env++E4 n SD.no) A (σ++E4 n none)
 | 0,env,A,σ,h=>by
  show eO _ (env++[]) A (σ++[])
  rw[F3,F3]
  ~h
 | n+1,env,A,σ,h=>by
  have s:=xx n (eO.snoc (d:=SD.no) (y:=none) (A1:=nil) h (fun _ z=>z) fun _ _ z=>z)
  rw[P6,P6]at s
  ~s.fp fun x=>⟨fun z=>z.elim id False.elim,.inl⟩
B5 aJL{X:Cx}{N:List Str}{mask:List Bool}{g:GS}{body:List Stmt}{t:TS}{vs:List V}{H:Hp}{Q:VK}{E:XK}(yb:YB K X body t g)(h:spG K mask (Pa N.length mask g) vs H Q E):t {nx:=fun _ H'=>Q .non H',rt:=Q} (start N vs) H:=by
  B3⟨A,ds,r,ds',hl,hv,hs,hF,kk⟩:=h
  B3⟨env',q1,q2⟩:=aCJ hF vs hv
  &yb.ev (out H A) _ _ H (VN N.length mask ds vs) ?_ ?_
  · have s:=xx (N.length-mask.length) hs
    have e:start N vs=vs.map some++E4 (N.length-mask.length) none:=by
      B4 start
      rw[hv]
    rw[e]
    ~⟨A,s,aV.refl _⟩
  · rcases q1 with q1 | ⟨q1,rfl⟩
    · rw[q1]
      intro w σ' H' ⟨A2,a2,b2⟩
      B3⟨A3,A4,k1,⟨w',ew,o⟩,k3,k4⟩:=a2.Mu
      cases ew
      B3⟨A5,g1,g2⟩:=Ri mask vs env' ds' A3 σ' k1 q2 hv
      ~kk w H' A5 A4 g2 o (fun x z1 z2=>k3 x (g1 x z1) z2) (b2.trans (cH (aV.refl _) fun x z=>.inl ((k4 x).mpr (z.elim (fun z=>.inl (g1 x z)) .inr))))
    · rw[q1]
      intro σ' H' ⟨A2,a2,b2⟩
      B3⟨A5,g1,g2⟩:=Ri mask vs env' ds' A2 σ' a2 q2 hv
      ~kk .non H' A5 nil g2 (by B4 Ow;~⟨fun _ z=>z,rfl⟩) (fun x z1 z2=>z2) (b2.trans (cH (aV.refl _) fun x z=>.inl (z.elim (g1 x) False.elim)))
B5 Raw.aJM{x:Str}{st:Stmt}{N ps:List Str}{k:Nat}{g:GS}{mask:List Bool}(R:Raw K mg x st)(S:aZ N ps (aK st))(hb:HB x x st ps)(hm:mask.length=ps.length)
  (hbody:∀(f:Addr)(cdv:Value)(A:Around)(outer:List Env)(s:Shared)(H:Hp)(E:XK),lA k (A.deeper (envOfC x (aK st) s.heap.objs.size f cdv))→∃t,YB K (Gw FZ P w K mg base N x (aK st) f cdv A outer s H E).bw (cR st) t g):lN P w K mg base x (k+1) mask.length (spG K mask (Pa N.length mask g)):=by
 rw[hm]
 &R.cal S (fun vs H Q E h=>by B3⟨A,ds,r,ds',hl,hv,_⟩:=h;~hv.trans hm) hb (fun f cdv A outer s H vs Q E hr h=>?_)
 B3⟨t,yb⟩:=hbody f cdv A outer s H E hr
 ~⟨t,yb.ps,aJL yb h⟩
end
section
variable{K:aJ}{X:Cx}{a b:Expr}{rest:List Expr}{ta tb:TE}{g h:GM}{f:FE}{pos:Pos}
def aLM(g h:GM):GM:=fun env=>(g env).bind fun de=>match de.1 with
 | .bl true=>h de.2
 | .bl false=>some (.bl false,de.2)
 | _=>none
def aKn(f:FE):GS:=fun env=>match f (rE env)with
 | some (.lst _)=>.next env
 | _=>.bad
end
end L2


namespace L2
open PySem PySem.Spec PySem.Calls PyProof.Rows PyProof.V
section
variable{prog:Program}{w:World}{A:Around}{R:Result→Shared→Prop}{I:Addr}{fp wr:List Addr}{n:Nat}{P:Nat→Value→Prop}{St:Nat→Heap→Prop}{kw:List (Str×Value)}
end
section
variable{prog:Program}{w:World}{A:Around}{E:Value→Shared→Prop}{s:Shared}
end
section
variable{K:aJ}{X:Cx}{e e2:Expr}{te t2:TE}{f g:FE}{x:Str}{p pos kp:Pos}
end
end L2


namespace L2
open PySem PySem.Spec PySem.Calls PyProof.Rows PyProof.V
section
variable{X:Cx}
def Rj:V→List V→Hp→VK→Prop:=fun x vs H Q=>∃l xs i y,x=.ref l∧vs=[.int i,y]∧H l=some (.lst xs)∧0≤i∧i.toNat≤xs.length∧xs.length<sizeLine∧Q .non (upd H l (.lst (xs.take i.toNat++y::xs.drop i.toNat)))
B5 Zb:MtM X "list.insert" Rj:=by
 intro pins s σ H x vs v us Q I rx rv h
 B3⟨l,xs,i,y,rfl,rfl,hH,h0,h1,hz,q⟩:=h
 cases rx
 B3⟨u1,u2,rfl,ru1,ru2⟩:=rv.two
 B3⟨t,rfl⟩:=ru1
 B3⟨z,its,n,r,hl,e⟩:=I.aEB hH
 have hsl:sizeLine<2 ^ 62:=by decide
 &call_meets F.slot_list_insert ⟨_,e,rfl⟩ F.entry_list_insert (F.args_list_insert_3 _ _ _) (AutoSeq1.list_insert_list_int_val_1 l its.toArray n i t u2 (by rw[fitsIndex_both A6 A6];decide) (by rw[C6];omega)) ⟨e,?_⟩
 &⟨.non,_,I.aEA (its':=its.take i.toNat++u2::its.drop i.toNat) hH e ?_ ((r.take _).append (.cons ru2 (r.drop _))) ?_,rfl,q⟩
 ·show (its.toArray.extract 0 (if i<0 then(i+(its.toArray.size:Int)).toNat else min i.toNat its.toArray.size)).push u2++its.toArray.extract (if i<0 then(i+(its.toArray.size:Int)).toNat else min i.toNat its.toArray.size)=_
  rw[if_neg A6,C6,show min i.toNat its.length=i.toNat by omega]
  apply Array.ext'
  simp
  ~S7 (by rw[Q5];omega)
 ·rw[C7,F0,J4,Q5]
  omega
B5 JD{i:Int}{t:Tok}:∀{ns:List Int} {us:List Value},Vals (ns.map V.int) us→∀y∈us,MeetsSeq.EqGives y (.int i t) (eqU (.int i) y)
 | [],_,.nil=>fun y hy=>by cases hy
 | n::ns,u::us,.cons r rs=>fun y hy=>by
  rcases D5.mp hy with rfl | hy
  ·B3⟨t',rfl⟩:=r
   ~MeetsSeq.EqGives.int n i t' t
  ·~JD rs y hy
B5 Ht{i:Int}:∀{ns:List Int} {m:Nat} (h:m<ns.length),m<ns.idxOf i→ns[m]≠i
 | [],m,h,_=>absurd h (L6 _)
 | a::ns,0,h,hl=>fun e=>by
  have e:a=i:=e
  rw[Y9,e,beq_self_eq_true]at hl
  ~absurd hl (K6 _)
 | a::ns,m+1,h,hl=>by
  rw[Y9]at hl
  cases q:a==i with
  | true=>rw[q]at hl;~absurd hl (L6 _)
  | false=>
   rw[q]at hl
   have hl:m+1<ns.idxOf i+1:=hl
   ~Ht (ns:=ns) (m:=m) (by simpa using h) A6
B5 aCK{α β:Type}(φ:α→β):∀(l:List α)(k:Nat),(l.map φ).eraseIdx k=(l.eraseIdx k).map φ
 | [],_=>rfl
 | _::_,0=>rfl
 | a::l,k+1=>congrArg (φ a::·) (aCK φ l k)
B5 int_at{ns:List Int}{us:List Value}(h:Vals (ns.map V.int) us)(i:Int){m:Nat}(hm:m<us.toArray.size):∃hn:m<ns.length,eqU (.int i) us.toArray[m]=(ns[m]==i):=by
 have hl:=h.length
 rw[B6]at hl
 have hm':m<us.length:=by simpa using hm
 B3⟨u,eu,ru⟩:=h.get (i:=m) (x:=.int (ns[m]'(by omega))) (by rw[B9,B7 A6];rfl)
 B3⟨t,rfl⟩:=ru
 have e:us.toArray[m]=.int (ns[m]'(by omega)) t:=by
  have:=B7 hm'
  rw[eu]at this
  simpa using (F5 this).symm
 &⟨by omega,?_⟩
 rw[e]
 rfl
def Rk:V→List V→Hp→VK→Prop:=fun x vs H Q=>∃(l:Addr)(ns:List Int)(i:Int),x=.ref l∧vs=[.int i]∧H l=some (.lst (ns.map V.int))∧i∈ns∧Q .non (upd H l (.lst ((ns.eraseIdx (ns.idxOf i)).map V.int)))
B5 Zc:MtM X "list.remove" Rk:=by
 intro pins s σ H x vs v us Q I rx rv h
 B3⟨l,ns,i,rfl,rfl,hH,hi,q⟩:=h
 cases rx
 B3⟨u,rfl,ru⟩:=rv.one
 B3⟨t,rfl⟩:=ru
 B3⟨z,its,n,r,hl,e⟩:=I.aEB hH
 rw[B6]at hl
 have hj:ns.idxOf i<ns.length:=W3 hi
 have hz:its.length≤sizeLine:=by rw[B6]at z;omega
 &call_meets F.slot_list_remove ⟨_,e,rfl⟩ F.entry_list_remove (F.args_list_remove_2 _ _) (MeetsSeq.list_remove l its.toArray n (.int i t) (eqU (.int i)) (fun y hy=>JD r y (by simpa using hy)) (ns.idxOf i) (by rw[C6];omega) ?_ ?_ (by rw[C6];~hz)) ⟨e,?_⟩
 ·B3⟨h1,h2⟩:=int_at r i (m:=ns.idxOf i) (by rw[C6];omega)
  rw[h2,f7]
  ~beq_self_eq_true i
 ·intro m hm hlt
  B3⟨h1,h2⟩:=int_at r i hm
  rw[h2]
  ~beq_eq_false_iff_ne.mpr (Ht h1 hlt)
 ·&⟨.non,_,I.aEA (its':=its.eraseIdx (ns.idxOf i)) hH e ?_ ?_ ?_,rfl,q⟩
  ·rw[T9]
  ·have:=r.eraseIdx (ns.idxOf i)
   rw[aCK]at this
   ~this
  ·rw[B6]
   have:=Lz ns (ns.idxOf i)
   omega
def jq(K:aJ):V→List V→Hp→VK→Prop:=fun x vs H Q=>∃(l:Addr)(ns:List Int)(i:Int),x=.ref l∧vs=[.int i]∧rJ K H l (ns.map V.int)∧i∈ns∧Q (.int (ns.idxOf i)) H
B5 aCL:MtM X "list.index" (jq X.K):=by
 intro pins s σ H x vs v us Q I rx rv h
 B3⟨l,ns,i,rfl,rfl,hq,hi,q⟩:=h
 cases rx
 B3⟨u,rfl,ru⟩:=rv.one
 B3⟨t,rfl⟩:=ru
 B3⟨its,r,pl,z⟩:=I.list hq
 have hl:=r.length
 rw[B6]at hl z
 have hj:ns.idxOf i<ns.length:=W3 hi
 have hsl:sizeLine<2 ^ 62:=by decide
 B3⟨⟨cls,dd,data,sl⟩,ho,hc,n,hd⟩:=pl.isList
 dsimp only at hc hd
 subst hc hd
 &call_meets F.slot_list_index ⟨_,ho,rfl⟩ F.entry_list_index (F.args_list_index_2 _ _) (SeqAt.list_indexAt l its.toArray n dd sl (.int i t) (eqU (.int i)) (ns.idxOf i) (by rw[C6];omega) A6 ?_ ?_) ⟨ho,fun y hy=>MeetsSeq.EqGives.at (JD r y (by simpa using hy)) _ _,?_⟩
 ·B3⟨h1,h2⟩:=int_at r i (m:=ns.idxOf i) (by rw[C6];omega)
  rw[h2,f7]
  ~beq_self_eq_true i
 ·intro m hm hlt
  B3⟨h1,h2⟩:=int_at r i hm
  rw[h2]
  ~beq_eq_false_iff_ne.mpr (Ht h1 hlt)
 ·~⟨.int (ns.idxOf i),H,I.tok _,⟨_,rfl⟩,q⟩
end
section
variable{K:aJ}{X:Cx}{a b e:Expr}{ta tb te:TE}{f g:FE}{i:Nat}{π:FP}{pos apos cpos:Pos}{m:Str}
def jr(i:Nat)(π:FP)(g f:FE):GS:=fun env=>match env[i]?,π (rE env),g (rE env),f (rE env)with
 | some (.own d0),some p,some (.int k),some (.int y)=>(match gC p d0 with
  | some (.lst ds)=>(match intsOf ds with
   | some ns=>if 0≤k∧k.toNat≤ns.length∧ns.length<1000 then .next (env.set i (.own (fG p d0 (.lst ((ns.take k.toNat++y::ns.drop k.toNat).map D.int)))))else .bad
   | none=>.bad)
  | _=>.bad)
 | _,_,_,_=>.bad
B5 aH4(h:EvP K ta i π)(hx:Ls K tb g)(he:Ls K te f):DSs K (oH (Sh K "list" Rj ta (gF tb (gF te oK)))) (jr i π g f):=fun B E σ H env r p=>by
 B4 jr at p
 split at p
 ·rename_i d0 pp k y q1 q2 q3 q3'
  split at p
  ·rename_i ds q4
   split at p
   ·rename_i ns q5
    split at p
    ·rename_i hc
     B3⟨c0,c1,c2⟩:=hc
     B3⟨v0,a,xs,Bs,k1,k2,k3,k4,k5,k6⟩:=r.RQ q1 q4
     have ed:=sJ q5
     subst ed
     have ex:=kW.mp (eQ.rv _ _ _ k5)
     subst ex
     &h σ H (rE env) v0 pp _ _ r.r k1 q2 k2 fun H1 s1=>⟨.inl ⟨rfl,_,rJ.of (s1 _ _ k3)⟩,?_⟩
     &hx σ H1 H1 (rE env) _ _ (Zn.self K H1) (r.r.same s1) q3 fun u H2 Z2 s2 t2 z2 ru=>he σ H2 H2 (rE env) _ _ (Zn.self K H2) (r.r.same (s1.trans s2)) q3' fun w H3 Z3 s3 t3 z3 Qy=>?_
     B4 Rv at ru Qy
     subst ru Qy
     have HN:=s1.trans (s2.trans s3)
     &⟨a,_,k,.int y,rfl,rfl,HN _ _ k3,c0,by rw[B6];~c1,Yo (by rw[B6];omega),p _ ?_⟩
     have e:(ns.map V.int).take k.toNat++V.int y::(ns.map V.int).drop k.toNat=(ns.take k.toNat++y::ns.drop k.toNat).map V.int:=by rw[J3,D3,o0,o6]
     rw[e]
     ~k6 H3 _ _ nil HN (Eb _ _ (cY _) (kW.mpr rfl)) fun b z=>z.elim
    ·~p.elim
   ·~p.elim
  ·~p.elim
 ·~p.elim
def jt(i:Nat)(π:FP)(f:FE):GS:=fun env=>match env[i]?,π (rE env),f (rE env)with
 | some (.own d0),some p,some (.int y)=>(match gC p d0 with
  | some (.lst ds)=>(match intsOf ds with
   | some ns=>if y∈ns then .next (env.set i (.own (fG p d0 (.lst ((ns.eraseIdx (ns.idxOf y)).map D.int)))))else .bad
   | none=>.bad)
  | _=>.bad)
 | _,_,_=>.bad
B5 aH5(h:EvP K ta i π)(he:Ls K te f):DSs K (oH (Sh K "list" Rk ta (gF te oK))) (jt i π f):=fun B E σ H env r p=>by
 B4 jt at p
 split at p
 ·rename_i d0 pp y q1 q2 q3
  split at p
  ·rename_i ds q4
   split at p
   ·rename_i ns q5
    split at p
    ·rename_i hc
     B3⟨v0,a,xs,Bs,k1,k2,k3,k4,k5,k6⟩:=r.RQ q1 q4
     have ed:=sJ q5
     subst ed
     have ex:=kW.mp (eQ.rv _ _ _ k5)
     subst ex
     &h σ H (rE env) v0 pp _ _ r.r k1 q2 k2 fun H1 s1=>⟨.inl ⟨rfl,_,rJ.of (s1 _ _ k3)⟩,?_⟩
     &he σ H1 H1 (rE env) _ _ (Zn.self K H1) (r.r.same s1) q3 fun w H2 Z2 s2 t2 z2 Qy=>?_
     B4 Rv at Qy
     subst Qy
     have s12:=s1.trans s2
     &⟨a,ns,y,rfl,rfl,s12 _ _ k3,hc,p _ ?_⟩
     ~k6 H2 _ _ nil s12 (Eb _ _ (cY _) (kW.mpr rfl)) fun b z=>z.elim
    ·~p.elim
   ·~p.elim
  ·~p.elim
 ·~p.elim
B5 yc(h:XP K X a ta i π)(hx:XR K X b tb g)(he:XR K X e te f)(hp:PE X a ta→PE X b tb→PE X e te→PS X (.Expr (.Call (.Attribute a m apos) [b,e] [] cpos) pos) (oH (Sh K "list" Rj ta (gF tb (gF te oK))))):YS K X (.Expr (.Call (.Attribute a m apos) [b,e] [] cpos) pos) (oH (Sh K "list" Rj ta (gF tb (gF te oK)))) (iW i (jr i π g f)):=Hr i (hp h.pe hx.pe he.pe) (aH4 h.ev hx.ev he.ev)
B5 yd(h:XP K X a ta i π)(he:XR K X e te f)(hp:PE X a ta→PE X e te→PS X (.Expr (.Call (.Attribute a m apos) [e] [] cpos) pos) (oH (Sh K "list" Rk ta (gF te oK)))):YS K X (.Expr (.Call (.Attribute a m apos) [e] [] cpos) pos) (oH (Sh K "list" Rk ta (gF te oK))) (iW i (jt i π f)):=Hr i (hp h.pe he.pe) (aH5 h.ev he.ev)
def Uo(a b:D):Option D:=match a,b with
 | .lst ds,.int i=>(intsOf ds).bind fun ns=>if i∈ns then some (.int (ns.idxOf i))else none
 | _,_=>none
B5 aCM(ha:XR K X a ta f)(he:XR K X e te g)(hp:PE X a ta→PE X e te→PE X (.Call (.Attribute a m apos) [e] [] pos) (Sh X.K "list" (jq X.K) ta (gF te oK))):XN K X (.Call (.Attribute a m apos) [e] [] pos) (Sh K "list" (jq K) ta (gF te oK)) (f2 Uo f g):=⟨ha.hk,by have:=ha.hk;subst this;~hp ha.pe he.pe,fun σ H e d Q re q k=>by
 B3⟨d1,q1,q⟩:=bA q
 B3⟨d2,q2,q⟩:=bA q
 B4 Uo at q
 split at q
 ·B3⟨ns,q3,q⟩:=bA q
  split at q
  ·rename_i hi
   cases q
   &ha.ev σ H H e _ _ (Zn.self K H) re q1 fun v H1 Z1 s1 t1 z1 rv=>?_
   have rv:=z1.sm.rv _ _ rv
   B3⟨p,rfl,r2⟩:=By q3 rv
   &⟨.inl ⟨rfl,_,r2⟩,he.ev σ H1 H1 e _ _ (Zn.self K H1) (re.same s1) q2 fun u H2 Z2 s2 t2 z2 ru=>?_⟩
   B4 Rv at ru
   subst ru
   B3⟨p',e',r3⟩:=By q3 (s2.rv _ _ rv)
   cases e'
   ~⟨p,ns,_,rfl,rfl,r3,hi,k _ H2 (s1.trans s2) (.jJ rfl (by B4 Rv;rfl))⟩
  ·cases q
 ·cases q⟩
def vA(a b:D):Option D:=match a with
 | .dk ks ds=>(Tt b).bind fun k=>match posK ks k with
  | none=>some .non
  | some j=>(ds[j]?).bind fun r=>if r.jJ=true then some r else none
 | _=>none
B5 mY(hu:X.A.units+1<cLine)(ha:XR K X a ta f)(he:XR K X e te g)(mm:M1 X a "get" apos e cpos):XN K X (.Call (.Attribute a "get" apos) [e] [] cpos) (aBW ta te) (f2 vA f g):=⟨ha.hk,aBX hu ha.pe he.pe mm,fun σ H e d Q re q k=>by
 B3⟨d1,q1,q⟩:=bA q
 B3⟨d2,q2,q⟩:=bA q
 B4 vA at q
 split at q
 ·rename_i ks ds _
  B3⟨kk,h1,q⟩:=bA q
  &ha.ev σ H H e _ _ (Zn.self K H) re q1 fun x H1 Z1 s1 t1 z1 rx=>?_
  have rx:=z1.sm.rv _ _ rx
  have rx':=rx
  B4 Rv at rx
  B3⟨p,xs,r1,r2,r3,r4⟩:=rx
  &⟨p,r1,.inl ⟨_,r2⟩,he.ev σ H1 H1 e _ _ (Zn.self K H1) (re.same s1) q2 fun u H2 Z2 s2 t2 z2 ru=>?_⟩
  have ru:=z2.sm.rv _ _ ru
  have rx2:=s2.rv _ _ rx'
  B4 Rv at rx2
  B3⟨p',xs',e1,r2',r3',r4'⟩:=rx2
  rw[r1]at e1
  cases e1
  &⟨tG (ks.zip xs') kk,.inl ⟨_,kk,r2',Ed h1 ru,rfl⟩,?_⟩
  rw[sI r3']
  split at q
  ·rename_i hn
   cases q
   rw[hn]
   ~k _ H2 (s1.trans s2) (.jJ rfl (by B4 Rv;rfl))
  ·rename_i j hj
   B3⟨r,q4,q⟩:=bA q
   split at q
   ·rename_i im
    cases q
    B3⟨v,e1,e2⟩:=r4'.get q4
    rw[hj,C4,e1]
    ~k v H2 (s1.trans s2) (.jJ im e2)
   ·cases q
 ·cases q⟩
def JF(π:FP)(g:FE):FP:=fun e=>(π e).bind fun p=>(g e).bind fun d=>(Tt d).map fun k=>p++[.key k]
B5 aAS{H:Hp}{k:Key}{w v:V}(h:stepV H (.key k) w=some v):∃a kvs,w=.ref a∧H a=some (.dK kvs)∧tG kvs k=some v:=by
 cases w with
 | ref a=>
  B4 stepV at h
  dsimp only at h
  cases q:H a with
  | none=>rw[q]at h;cases h
  | some o=>
   rw[q]at h
   cases o with
   | dK kvs=>~⟨a,kvs,rfl,q,h⟩
   | _=>cases h
 | _=>B4 stepV at h;cases h
B5 Hu(hu:X.A.units+1<cLine)(h:XP K X a ta i π)(hb:XR K X b tb g)(hs:aBR b):XP K X (.Subscript a b pos) (ue ta tb) i (JF π g):=⟨h.hk,FQ hu h.pe hb.pe hs,fun σ H e v0 p v Q re h1 h2 h3 k=>by
 B4 JF at h2
 B3⟨p0,q1,q2⟩:=bA h2
 B3⟨d,q3,q4⟩:=bA q2
 B3⟨kk,q5,q6⟩:=lY q4
 subst q6
 B3⟨w,w1,w2⟩:=Jt h3
 B3⟨ad,kvs,rfl,w3,w4⟩:=aAS w2
 &h.ev σ H e v0 p0 _ _ re h1 q1 w1 fun H1 s1=>hb.ev σ H1 H1 e _ _ (Zn.self K H1) (re.same s1) q3 fun y H2 Z2 s2 t2 z2 ry=>?_
 have ry:=z2.sm.rv _ _ ry
 &⟨ad,v,rfl,?_,k H2 (s1.trans s2)⟩
 rw[Ed q5 ry,←w4]
 ~Jj.k (s2 _ _ (s1 _ _ w3))⟩
def aFs:List D→Option D
 | [.int a]=>some (.int (if a<0 then -a else a))
 | _=>none
def aJN:List V→Hp→VK→Prop:=fun xs H Q=>∃a:Int,xs=[.int a]∧Q (.int (if a<0 then -a else a)) H
B5 aH6:Ay K aJN aFs:=fun vs H ds d Q rs q k=>by
 B4 aFs at q
 split at q
 ·cases q
  B3⟨v,rfl,r⟩:=uT rs
  B4 Rv at r
  subst r
  ~⟨_,rfl,k _ H (aV.refl _) (.jJ rfl (by B4 Rv;rfl))⟩
 ·cases q
B5 aH7:oJ X (.builtin "abs") aJN:=by
 intro pins s σ H xs us Q I r h
 B3⟨a,rfl,q⟩:=h
 B3⟨u,rfl,rx⟩:=vals1 r
 B3⟨t,rfl⟩:=rx
 ~call_abs_int fun u tk=>⟨.int _,H,I.tok _,⟨u,rfl⟩,q⟩
end
end L2


namespace L2
open PySem PySem.Spec PySem.Calls PyProof.Rows PyProof.V
B5 eO.append{α β:Type}{R:α→Fp→β→Prop}:∀{ds es:List α} {A A1:Fp} {ys zs:List β},eO R ds A ys→eO R es A1 zs→Apart A A1→eO R (ds++es) (gB A A1) (ys++zs)
 | [],es,A,A1,ys,zs,h,h1,ap=>by
  B3⟨n,rfl⟩:=h
  ~eO.congr h1 fun x=>⟨.inr,fun z=>z.elim (fun z=>(n x z).elim) id⟩
 | d::ds,es,A,A1,ys,zs,⟨y,yt,B1,B2,e1,e2,e3,e4,e5⟩,h1,ap=>by
  subst e1
  have ap2:Apart B2 A1:=fun x z=>ap x ((e3 x).mpr (.inr z))
  &⟨y,yt++zs,B1,gB B2 A1,rfl,fun x z1 z2=>z2.elim (e2 x z1) (ap x ((e3 x).mpr (.inl z1))),fun x=>?_,e4,eO.append e5 h1 ap2⟩
  show (A x∨A1 x)↔(B1 x∨B2 x∨A1 x)
  rw[e3 x]
  ~or_assoc
B5 Zd:∀(more kvs:List (Key×V)),(kvs.map (·.1)++more.map (·.1)).Nodup→yZ kvs more=kvs++more
 | [],kvs,_=>by simp[yZ]
 | p::r,kvs,h=>by
  show yZ (putK kvs p.1 p.2) r=_
  have hn:tG kvs p.1=none:=by
   cases e:tG kvs p.1 with
   | none=>rfl
   | some v=>
    have h1:=aEI e
    rw[N4]at h
    ~absurd rfl (h.2.2 p.1 h1 p.1 (by simp))
  rw[aBP _ hn,Zd r (kvs++[(p.1,p.2)]) (by simpa using h)]
  simp
def aH8(ks:List Key)(vs:List V):List (V×V):=(ks.zip vs).map fun kv=>(kV kv.1,kv.2)
def aK5(K:aJ)(t:List (TE×TE))(ks:List Key)(is:List Nat)(fs:FA):Prop:=∀(σ:St)(H:Hp)(e:DE)(ds:List D)(xs:List V)(Q:List (V×V)→Hp→Prop),Fq K H e σ→fs e=some ds→xs.length=is.length →
 (∀(k i:Nat),is[k]?=some i→∃x,xs[k]?=some x∧σ[i]?=some (some x))→(∀vs H',aV H H'→GK K H H' ds vs→Q (aH8 ks (xs++vs)) H')→FW t σ H Q
structure XDm(K:aJ)(X:Cx)(p:Pos)(keys:List (Option Expr))(vals:List Expr)(t:List (TE×TE))(ks:List Key)(is:List Nat)(fs:FA):Prop where
 hk:X.K=K
 pps:PPs X p keys vals t
 ev:aK5 K t ks is fs
section
variable{K:aJ}{X:Cx}{st:Stmt}{e:Expr}{vals:List Expr}{keys:List (Option Expr)}{te:TE}{f:FE}{fs:FA}{pos p p1:Pos}{i j:Nat}{t:List (TE×TE)}{ks:List Key}{is:List Nat}{x:Str}
B5 aFt(hk:X.K=K:=by rfl):XDm K X p [] [] [] [] [] aM:=⟨hk,aEG,fun σ H e ds xs Q re q hl h k=>by
 cases q
 have hx:xs=[]:=F6 hl
 subst hx
 ~k [] H (aV.refl _) ⟨nil,by B4 eQ;~⟨fun _ z=>z,rfl⟩,fun _ z=>z.elim⟩⟩
B5 Kc(h:XN K X e te f)(hs:XDm K X p keys vals t ks [] fs):XDm K X p (some (.Constant (.str x) j p1)::keys) (e::vals) ((tC (.str x),te)::t) (.inr x::ks) [] (aB f fs):=⟨h.hk,QL bj h.pe hs.pps,fun σ H e ds xs Q re q hl hx k=>by
 have hx0:xs=[]:=F6 hl
 subst hx0
 B4 aB at q
 B3⟨d,q1,q2⟩:=bA q
 B3⟨r,q3,q4⟩:=bA q2
 cases q4
 show te σ H _
 &h.ev σ H e d _ re q1 fun y H1 s1 n=>hs.ev σ H1 e r [] _ (re.same s1) q3 rfl (fun k i z=>by simp at z) fun vs H2 s2 n2=>k (y::vs) H2 (s1.trans s2) ?_
 B3⟨A1,o1,f1⟩:=n
 B3⟨A2,o2,f2⟩:=n2
 &⟨gB A1 A2,?_,fun a z=>z.elim (f1 a) fun z=>s1.free (f2 a z)⟩
 B4 eQ
 &⟨y,vs,A1,A2,rfl,fun x z1 z2=>?_,fun _=>Iff.rfl,o1.same s2,o2⟩
 B3⟨⟨u,eu⟩,_⟩:=Ow.cells _ _ _ o1 x z1
 rw[f2 x z2]at eu;cases eu⟩
B5 aCN(h:PE X e (sE i))(hs:XDm K X p keys vals t ks is fs):XDm K X p (some (.Constant (.str x) j p1)::keys) (e::vals) ((tC (.str x),sE i)::t) (.inr x::ks) (i::is) fs:=⟨hs.hk,QL bj h hs.pps,fun σ H e ds xs Q re q hl hx k=>by
 cases xs with
 | nil=>simp at hl
 | cons y ys=>
  B3⟨y',b1,b2⟩:=hx 0 i rfl
  cases b1
  ~⟨y,b2,hs.ev σ H e ds ys _ re q (by simpa using hl) (fun k j z=>by
   B3⟨u,c1,c2⟩:=hx (k+1) j (by simpa using z)
   ~⟨u,by simpa using c1,c2⟩) fun vs H' s n=>k vs H' s n⟩⟩
def VP(ks:List Key)(is:List Nat)(fs:FA):GS:=fun env=>match fs (rE env),xF env is with
 | some ds,some os=>if decide is.Nodup=true∧decide ks.Nodup=true∧ks.length=os.length+ds.length∧ks.length≤15 then .ret (.dk ks (os++ds))else .bad
 | _,_=>.bad
B5 aFu(h:XDm K X p keys vals t ks is fs)(hall:keys.all (·.isSome)=true:=by rfl)(hl:keys.length=vals.length:=by rfl)(h0:keys≠[]:=by simp)(h15:keys.length≤15:=by decide) :
  YS K X (.Return (some (.Dict keys vals p)) pos) (zy (aGd t)) (VP ks is fs):=⟨Ru (aEH h.pps hall hl h0 h15),fun B E σ H env r p=>by
 B4 VP at p
 split at p
 ·rename_i ds os q1 q2
  split at p
  ·rename_i hc
   B3⟨c1,c2,c3,c4⟩:=hc
   have rr:=r.r
   B3⟨A,a,b⟩:=r
   B3⟨xs,A',a1,a2,a3,a4⟩:=RX (of_decide_eq_true c1) q2 a
   intro l hl
   &h.ev σ (upd H l (.dK [])) (rE env) ds xs _ (rr.same (dI hl _)) q1 a3 a4 fun vs H1 s1 n=>?_
   have s0:aV H H1:=(dI hl _).trans s1
   have el:H1 l=some (.dK []):=s1 _ _ cM
   have lv:=n.rv.length
   B3⟨N,on,fn⟩:=n
   have lx:xs.length=os.length:=by
    have:=(eQ.rv _ _ _ a2).length
    ~this
   have len:ks.length=(xs++vs).length:=by rw[C7,lx,lv];~c3
   &⟨el,ks.zip (xs++vs),rfl,by rw[U3];omega,?_⟩
   have em:yZ [] (ks.zip (xs++vs))=ks.zip (xs++vs):=by
    rw[Zd _ _ (by rw[G6,P4,j5 A6];~of_decide_eq_true c2),P4]
   rw[em]
   have hA':∀x,A' x→∃u,H x=some u:=fun x z=>by
    B3⟨⟨u,eu⟩,_⟩:=eQ.cells _ _ _ a2 x z
    ~⟨u,eu⟩
   have nA:¬A' l:=fun z=>by
    B3⟨u,eu⟩:=hA' l z
    rw[hl]at eu;cases eu
   have nN:¬N l:=fun z=>by
    have:=fn l z
    rw[cM]at this;cases this
   have ap:Apart A' N:=fun x z1 z2=>by
    B3⟨u,eu⟩:=hA' x z1
    have e2:=fn x z2
    rw[bN (gK eu hl),eu]at e2
    cases e2
   &p _ _ (gB (·=l) (gB A' N)) (fun x u ex=>?_) ?_
   ·B3⟨e1,e2⟩:=bG.mp (b x u ex)
    have nl:x≠l:=gK e2 hl
    &bG.mpr ⟨fun z=>?_,by rw[bN nl];~s0 _ _ e2⟩
    rcases z with z | z | z
    ·~nl z
    ·~e1 (a1 x z)
    ·have e3:=fn x z
     rw[bN nl,e2]at e3
     cases e3
   ·B4 Ow
    &⟨l,xs++vs,gB A' N,rfl,cM,len,fun z=>z.elim nA nN,fun _=>Iff.rfl,?_⟩
    ~eQ.frame (uU (Jl el)) _ _ _ (cZ.mpr ((cZ.mp (a2.same s0)).append (cZ.mp on) ap)) fun x z=>bN fun y=>(z.elim (fun z=>nA (y▸z)) (fun z=>nN (y▸z)))
  ·~p.elim
 ·~p.elim⟩
end
section
variable{X:Cx}{K:aJ}{x y:Str}{p p2 pos pos2:Pos}{a b:Expr}{t:TA}{fs:FA}
B5 VR(lo:Int):∀(m:Nat)(us:List Value)(s:Nat),us.length=m→(∀(j:Nat)(w:Value),us[j]?=some w→∃t,w=.int (lo+((s+j:Nat):Int)) t)→Vals ((List.range' s m).map fun k=>V.int (lo+((k:Nat):Int))) us
 | 0,us,s,hl,_=>by
  have:us=[]:=F6 hl
  subst this
  ~.nil
 | m+1,us,s,hl,hw=>by
  cases us with
  | nil=>cases hl
  | cons w us=>
   rw[List.range'_succ,D3]
   B3⟨t0,e0⟩:=hw 0 w rfl
   &.cons ⟨t0,by rw[e0];rfl⟩ (VR lo m us (s+1) (by simpa using hl) fun j w' hj=>?_)
   B3⟨t1,e1⟩:=hw (j+1) w' (by simpa using hj)
   ~⟨t1,by rw[e1,show s+(j+1)=s+1+j by omega]⟩
def JG:List V→Hp→VK→Prop:=fun vs H Q=>∃lo hi:Int,vs=[.int lo,.int hi]∧0≤lo∧lo≤1000∧0≤hi∧hi≤1000∧∀l,H l=none→Q (.ref l) (upd H l (.lst ((D4 (hi-lo).toNat).map fun k=>V.int (lo+((k:Nat):Int)))))
B5 aCO(hc:X.calm=true)(pins:List (Addr×Obj))(s:Shared)(σ:St)(H:Hp)(vs:List V)(us:List Value)(Q:VK)(I:Inv X pins σ H s)(rv:Vals vs us)(h:JG vs H Q) :
  wpAny (model X.prog X.w) X.A (call (.type "range") us) (fun u' s'=>wpAny (model X.prog X.w) X.A (call (.type "list") [u']) (EP X pins σ Q) X.xe s') X.xe s:=by
 B3⟨lo,hi,rfl,h0,h1,h2,h3,q⟩:=h
 cases rv with
 | cons r rr=>
  cases rr with
  | cons r' rr=>
   cases rr
   B3⟨t,rfl⟩:=r
   B3⟨t',rfl⟩:=r'
   &call_range_2 ?_
   &call_list_range (n:=(hi-lo).toNat) (I.ok.hd hc) (IsRange.new _ _ _ _ _ _ _) (small_one A6 A6 A6 A6) (by rw[rangeSize_one];split<;>omega) A6 fun h' tk acc c kp g it=>?_
   have I1:Inv X pins σ H {s with heap:=s.heap.push {cls:=.type "range", data:=.fields #[.int lo t,.int hi t',.int 1 s.toks]},toks:=s.toks+1}:=I.kept (t':=s.toks+1) fun b o e=>Heap.get?_push_of_some _ e
   generalize hg':s.heap.push {cls:=.type "range", data:=.fields #[.int lo t,.int hi t',.int 1 s.toks]}=hp at *
   have hs:H hp.objs.size=none:=I1.hok.fresh (C5 _)
   have rr:Vals ((D4 (hi-lo).toNat).map fun k=>V.int (lo+((k:Nat):Int))) acc.toList:=by
    rw[List.range_eq_range']
    &VR lo _ acc.toList 0 (by rw[J9];~it.1) fun j w hj=>?_
    B3⟨t1,e1⟩:=it.2 j w (by rw[←L7];~hj)
    ~⟨t1,by rw[e1,show lo+(j:Int)*1=lo+((0+j:Nat):Int) by omega]⟩
   ~⟨.ref _,_,I1.laid (t':=tk) (a:=hp.objs.size) (o:=.lst ((D4 (hi-lo).toNat).map fun k=>V.int (lo+((k:Nat):Int)))) kp (C5 _) ⟨by rw[B6,D8];~O5 (xU A6),acc.toList,c,rr,by simpa[seqObj]using g⟩,rfl,q _ hs⟩
B5 aAT(hc:X.calm=true)(ha:PA X [a,b] t)(hg:Gl X x)(hm:X.mg x=none)(hv:bootBuiltins x=some (.type "list")) (hg2:Gl X y) (hm2:X.mg y=none) (hv2:bootBuiltins y=some (.type "range")) (hn:x ≠ "__name__" := by decide) (hdb:(x==("__debug__" : Str))=false:=by decide) (hn2:y ≠ "__name__" := by decide) (jk:(y==("__debug__" : Str))=false:=by decide)
  (he:starEach [a,b] X.env=[(false,eval a X.env),(false,eval b X.env)]:=by rfl) (he1:starEach [b] X.env=[(false,eval b X.env)]:=by rfl) (he2:starEach [.Call (.Name y p2) [a,b] [] pos2] X.env=[(false,eval (.Call (.Name y p2) [a,b] [] pos2) X.env)]:=by rfl) :
  PE X (.Call (.Name x p) [.Call (.Name y p2) [a,b] [] pos2] [] pos) (tCB JG t):=by
 intro pins s σ H Q I h
 &wpAny_Call_Name_kw (yW I hg hm hv ?_ hn hdb)
 &L0 ?_ he2 rfl
 rw[he2]
 &Calls.spliced_cons (wpAny_Call_Name_kw (yW I hg2 hm2 hv2 ?_ hn2 jk))
 ~L0 (jG (ha pos2 pins s σ H _ I h) fun us s1 ⟨vs,H1,I1,r1,q1⟩=>jG (aCO hc pins s1 σ H1 vs us Q I1 r1 q1) fun u' s' z=>Calls.spliced_nil z) (by rw[he,he1]) (by rw[he1];rfl)
def Kd:List D→Option D
 | [.int lo,.int hi]=>if 0≤lo∧lo≤1000∧0≤hi∧hi≤1000 then some (.lst ((D4 (hi-lo).toNat).map fun k=>D.int (lo+((k:Nat):Int))))else none
 | _=>none
B5 aAU(h:XA K X [a,b] t fs)(hg:Gl X x)(hm:X.mg x=none)(hv:bootBuiltins x=some (.type "list")) (hg2:Gl X y) (hm2:X.mg y=none) (hv2:bootBuiltins y=some (.type "range")) (hc:X.calm=true:=by rfl) (hn:x ≠ "__name__" := by decide) (hdb:(x==("__debug__" : Str))=false:=by decide) (hn2:y ≠ "__name__" := by decide) (jk:(y==("__debug__" : Str))=false:=by decide)
  (he:starEach [a,b] X.env=[(false,eval a X.env),(false,eval b X.env)]:=by rfl) (he1:starEach [b] X.env=[(false,eval b X.env)]:=by rfl) (he2:starEach [.Call (.Name y p2) [a,b] [] pos2] X.env=[(false,eval (.Call (.Name y p2) [a,b] [] pos2) X.env)]:=by rfl) :
  XN K X (.Call (.Name x p) [.Call (.Name y p2) [a,b] [] pos2] [] pos) (tCB JG t) (fL Kd fs):=⟨h.hk,aAT hc h.pa hg hm hv hg2 hm2 hv2 hn hdb hn2 jk he he1 he2,fun σ H e d Q re q k=>by
 B3⟨ds,q1,q2⟩:=bA q
 B4 Kd at q2
 split at q2
 ·rename_i lo hi
  split at q2
  ·rename_i hl
   cases q2
   &h.ev σ H H e _ _ (Zn.self K H) re q1 fun vs H1 Z1 s1 t1 z1 rvs=>?_
   B4 fQ at rvs
   B3⟨v1,r1,rfl,e1,rvs⟩:=rvs
   B4 fQ at rvs
   B3⟨v2,r2,rfl,e2,rvs⟩:=rvs
   B4 fQ at rvs
   subst rvs
   B4 Rv at e1 e2
   subst e1 e2
   &⟨lo,hi,rfl,hl.1,hl.2.1,hl.2.2.1,hl.2.2.2,fun l hl=>k _ _ (s1.trans (dI hl _)) ((wD (aV.refl _) (.fU ?_ ?_) hl).back s1)⟩
   ·have:=cY ((D4 (hi-lo).toNat).map fun k=>lo+((k:Nat):Int))
    rw[K7]at this
    ~this
   ·have:=kW (K:=K) (H:=H1) (ns:=(D4 (hi-lo).toNat).map fun k=>lo+((k:Nat):Int)) |>.mpr rfl
    rw[K7]at this
    rw[show (fun k:Nat=>V.int (lo+(k:Int)))=V.int∘fun k:Nat=>lo+(k:Int)from rfl,←K7]
    ~this
  ·cases q2
 ·cases q2⟩
end
end L2


namespace L2
open PySem PySem.Spec PySem.Calls PyProof.Rows PyProof.V
section
variable{K:aJ}{X:Cx}{a e:Expr}{ta te:TE}{f:FE}{π:FP}{i:Nat}{m:Str}{apos cpos pos:Pos}
def Ze(i:Nat)(π:FP)(f:FE):GS:=fun env=>match env[i]?,π (rE env),f (rE env)with
 | some (.own d0),some p,some (.int k)=>(match gC p d0 with
  | some (.lst ds)=>(match intsOf ds with
   | some ns=>if 0≤k∧k.toNat<ns.length∧ns.length<1000 then .next (env.set i (.own (fG p d0 (.lst ((ns.eraseIdx k.toNat).map D.int)))))else .bad
   | none=>.bad)
  | _=>.bad)
 | _,_,_=>.bad
B5 Up{α β:Type}(φ:α→β):∀(l:List α)(k:Nat),(l.map φ).eraseIdx k=(l.eraseIdx k).map φ
 | [],k=>by simp
 | a::l,0=>by simp
 | a::l,k+1=>by simp[Up φ l k]
B5 aFv(h:EvP K ta i π)(he:Ls K te f):DSs K (oH (Sh K "list" Gx ta (gF te oK))) (Ze i π f):=fun B E σ H env r p=>by
 B4 Ze at p
 split at p
 ·rename_i d0 pp k q1 q2 q3
  split at p
  ·rename_i ds q4
   split at p
   ·rename_i ns q5
    split at p
    ·rename_i hc
     B3⟨c0,c1,c2⟩:=hc
     B3⟨v0,a,xs,Bs,k1,k2,k3,k4,k5,k6⟩:=r.RQ q1 q4
     have ed:=sJ q5
     subst ed
     have ex:=kW.mp (eQ.rv _ _ _ k5)
     subst ex
     &h σ H (rE env) v0 pp _ _ r.r k1 q2 k2 fun H1 s1=>⟨.inl ⟨rfl,_,rJ.of (s1 _ _ k3)⟩,?_⟩
     &he σ H1 H1 (rE env) _ _ (Zn.self K H1) (r.r.same s1) q3 fun w H2 Z2 s2 t2 z2 Qy=>?_
     B4 Rv at Qy
     subst Qy
     have s12:=s1.trans s2
     &⟨a,ns.map V.int,k,k.toNat,.int (ns.getD k.toNat 0),rfl,rfl,s12 _ _ k3,by omega,by omega,?_,?_,p _ ?_⟩
     ·~seqIndex_of c0 (by rw[B6];omega)
     ·rw[B9,B8,B7 c1]
      rfl
     ·rw[Up]
      ~k6 H2 _ _ nil s12 (Eb _ _ (cY _) (kW.mpr rfl)) fun b z=>z.elim
    ·~p.elim
   ·~p.elim
  ·~p.elim
 ·~p.elim
B5 aCP(h:XP K X a ta i π)(he:XR K X e te f)(hp:PE X a ta→PE X e te→PS X (.Expr (.Call (.Attribute a m apos) [e] [] cpos) pos) (oH (Sh K "list" Gx ta (gF te oK)))):YS K X (.Expr (.Call (.Attribute a m apos) [e] [] cpos) pos) (oH (Sh K "list" Gx ta (gF te oK))) (iW i (Ze i π f)):=Hr i (hp h.pe he.pe) (aFv h.ev he.ev)
end
end L2


namespace L2
open PySem PySem.Spec PyProof.Rows
abbrev aP(ns:List Int):D:=.lst (ns.map D.int)
B5 Eo{i:Nat}{g:GS}(I:Nat→EN→Prop):∀(xs:List D)(env:EN)(n:Nat),I n env→(∀k x env,xs[k]?=some x→I (n+k) env→i<env.length∧∃env',g (env.set i (.fro x))=.next env'∧I (n+k+1) env')→∃env',Mr i g xs env=.next env'∧I (n+xs.length) env'
 | [],env,n,h,_=>⟨env,by B4 Mr;rfl,h⟩
 | x::xs,env,n,h,st=>by
  B3⟨h1,env',h2,h3⟩:=st 0 x env rfl h
  B3⟨fW,a1,a2⟩:=Eo I xs env' (n+1) h3 fun k y e hk hi=>by
   have:=st (k+1) y e (by simpa using hk) (by rw[show n+(k+1)=n+1+k by omega];~hi)
   rw[show n+(k+1)+1=n+1+k+1 by omega]at this
   ~this
  &⟨fW,?_,?_⟩
  ·B4 Mr
   rw[if_pos h1,h2]
   ~a1
  ·rw[F0,show n+(xs.length+1)=n+1+xs.length by omega]
   ~a2
B5 fH{g1 g2:GS}{env env':EN}(h:g1 env=.next env'):aW g1 g2 env=g2 env':=by B4 aW;rw[h]
B5 WD{g1 g2:GS}{env:EN}{d:D}(h:g1 env=.ret d):aW g1 g2 env=.ret d:=by B4 aW;rw[h]
B5 Cp{f:FT}{g1 g2:GS}{env:EN}(h:f (rE env)=some true):uV f g1 g2 env=g1 env:=by B4 uV;rw[h]
B5 pH{f:FT}{g1 g2:GS}{env:EN}(h:f (rE env)=some false):uV f g1 g2 env=g2 env:=by B4 uV;rw[h]
B5 wJ{i:Nat}{f:FE}{env:EN}{d:D}(h:f (rE env)=some d)(hi:i<env.length):cU i f env=.next (env.set i (.own d)):=by B4 cU;rw[h];dsimp only;rw[if_pos hi]
B5 iB{f:FE}{env:EN}{d:D}(h:f (rE env)=some d):gO f env=.ret d:=by B4 gO;rw[h]
B5 WK{i:Nat}{fi:FA}{g:GS}{env:EN}{xs:List D}(h:fi (rE env)=some xs):yC i fi g env=Mr i g xs env:=by B4 yC;rw[h]
B5 aFw{js:List Nat}{i:Nat}{fi:FA}{g:GS}{env Qi:EN}{xs:List D}(h0:Jg js env=Qi)(h:fi (zE Qi)=some xs):Ww js i fi g env=Mr i g xs Qi:=by B4 Ww;rw[h0,h]
B5 oO{n m:Nat}{g:GS}{ds:List D}{d:D}(hl:ds.length=m)(h:g (ds.map SD.fro++E4 (n-m) SD.no)=.ret d):oZ n m g ds=some d:=by B4 oZ;rw[if_pos hl,h]
B5 aH{φ:D→D→Option D}{f g:FE}{e:DE}{a b d:D}(h1:f e=some a)(h2:g e=some b)(h:φ a b=some d):f2 φ f g e=some d:=by B4 f2;rw[h1,h2];~h
B5 cT{φ:List D→Option D}{fs:FA}{e:DE}{ds:List D}{d:D}(h1:fs e=some ds)(h:φ ds=some d):fL φ fs e=some d:=by B4 fL;rw[h1];~h
B5 aA{f:FE}{fs:FA}{e:DE}{a:D}{r:List D}(h1:f e=some a)(h2:fs e=some r):aB f fs e=some (a::r):=by B4 aB;rw[h1,h2];rfl
B5 bH{n:Nat}{F:List D→Option D}{fs:FA}{e:DE}{ds:List D}{d:D}(h1:fs e=some ds)(hl:ds.length=n)(h:F ds=some d):cN n F fs e=some d:=by B4 cN;rw[h1];dsimp only[C4];rw[if_pos hl];~h
B5 bR{f:FE}{e:DE}{b:Bool}(h:f e=some (.bl b)):fB f e=some b:=by B4 fB;rw[h];rfl
B5 lH{f:FT}{e:DE}{b:Bool}(h:f e=some b):xY f e=some (!b):=by B4 xY;rw[h];rfl
B5 aCQ{f g:FT}{e:DE}(h:f e=some true):Hh f g e=g e:=by B4 Hh;rw[h];rfl
B5 aCR{f g:FT}{e:DE}(h:f e=some false):Hh f g e=some false:=by B4 Hh;rw[h];rfl
B5 aX{f:FE}{e:DE}{d:D}(h:f e=some d)(i:d.jJ=true):bO f e=some d:=Ym.mpr ⟨h,i⟩
B5 cP(i j:Int):eU (.int i) (.int j)=some (.int (i+j)):=rfl
B5 lR(i j:Int):Mg (.int i) (.int j)=some (.int (i-j)):=by B4 Mg Ti;~if_pos True.intro
B5 iG{i j:Int}(h:Wl i j):vY (.int i) (.int j)=some (.int (i*j)):=by B4 vY Ti;~if_pos h
B5 dW{i j:Int}(h:0<j)(h2:j<1073741824):pQ (.int i) (.int j)=some (.int (i/j)):=by B4 pQ Ti;~if_pos (show aAd i j from⟨h,h2⟩)
B5 bC{i j:Int}(h:0<j):gM (.int i) (.int j)=some (.int (i%j)):=by B4 gM Ti;~if_pos h
B5 yE{i j:Int}(h:aAe i j):Jp (.int i) (.int j)=some (.int (i ^ j.toNat)):=by B4 Jp Ti;~if_pos h
B5 Ep(i j:Int):dLt (.int i) (.int j)=some (.bl (decide (i<j))):=by B4 dLt Ti;~if_pos True.intro
B5 Rm(i j:Int):dGt (.int i) (.int j)=some (.bl (decide (j<i))):=by B4 dGt Ti;~if_pos True.intro
B5 JH(i j:Int):dLe (.int i) (.int j)=some (.bl (decide (i≤j))):=by B4 dLe Ti;~if_pos True.intro
B5 yf(i j:Int):decide (V.int i=V.int j)=decide (i=j):=by
 by_cases c:i=j
 ·subst c;simp
 ·rw[decide_eq_false c,decide_eq_false (fun z=>c (by cases z;rfl))]
B5 mQ(i j:Int):Ft (.int i) (.int j)=some (.bl (decide (i=j))):=by
 B4 Ft toV
 dsimp only
 rw[if_pos (by rfl),yf]
B5 rP(i j:Int):Tr (.int i) (.int j)=some (.bl (!decide (i=j))):=by
 B4 Tr toV
 dsimp only
 rw[if_pos (by rfl),yf]
B5 ju{α:Type}{xs:List α}{i:Int}{x:α}(h0:0≤i)(h:xs[i.toNat]?=some x):au xs i=some x:=by
 have h1:i.toNat<xs.length:=by
  B3⟨h1,_⟩:=D2.mp h
  ~h1
 B4 au aq
 rw[if_pos h0,if_pos A6]
 ~h
B5 aFx{α:Type}{xs:List α}{x:α}(h:xs.getLast?=some x):au xs (-1)=some x:=by
 have hl:0<xs.length:=by
  cases xs with
  | nil=>simp at h
  | cons=>simp
 B4 au aq
 rw[if_neg A6,if_pos A6]
 show xs[((-1:Int)+(xs.length:Int)).toNat]?=some x
 rw[X2]at h
 rw[show ((-1:Int)+(xs.length:Int)).toNat=xs.length-1 by omega]
 ~h
B5 rQ{ds:List D}{i:Int}{d:D}(h0:0≤i)(h:ds[i.toNat]?=some d):dU (.lst ds) (.int i)=some d:=ju h0 h
B5 uE{ds:List D}{i:Int}{d:D}(h0:0≤i)(h:ds[i.toNat]?=some d):dU (.tup ds) (.int i)=some d:=ju h0 h
B5 fJ{ns:List Int}{i:Int}(h0:0≤i)(h:i<ns.length):dU (aP ns) (.int i)=some (.int (ns.getD i.toNat 0)):=ju h0 (by
 rw[B9,B8,B7 (show i.toNat<ns.length by omega)];rfl)
B5 Uq(ds:List D):kO [.lst ds]=some (.int ds.length):=rfl
B5 jP(ns:List Int):kO [aP ns]=some (.int ns.length):=by show some (D.int ((ns.map D.int).length:Nat))=_;rw[B6]
B5 Zf{c:D→Option Bool}{el:D→Option D}{φ:D→D}:∀{xs:List D},(∀x∈xs,c x=some true)→(∀x∈xs,el x=some (φ x))→pR c el xs=some (xs.map φ)
 | [],_,_=>by B4 pR;rfl
 | x::xs,hc,he=>by
  B4 pR
  rw[hc x D6,he x D6,Zf (xs:=xs) (fun y hy=>hc y (C8 _ hy)) fun y hy=>he y (C8 _ hy)]
  rfl
B5 Ke{c:D→Option Bool}{el:D→Option D}{p:D→Bool}{φ:D→D}:∀{xs:List D},(∀x∈xs,c x=some (p x))→(∀x∈xs,p x=true→el x=some (φ x))→pR c el xs=some ((xs.filter p).map φ)
 | [],_,_=>by B4 pR;rfl
 | x::xs,hc,he=>by
  have ih:=Ke (xs:=xs) (p:=p) (φ:=φ) (fun y hy=>hc y (C8 _ hy)) fun y hy=>he y (C8 _ hy)
  B4 pR
  rw[hc x D6,C4,j7]
  cases q:p x with
  | true=>rw[if_pos rfl,if_pos rfl,he x D6 q,ih];rfl
  | false=>rw[if_neg A8,if_neg A8];~ih
B5 Cq{fi:FA}{fr:List Nat}{fc:FT}{fe:FE}{e:DE}{xs ys:List D}(h1:fi e=some xs)(hl:xs.length≤100000)(h:pR (fun x=>fc (some x::tW e fr)) (fun x=>fe (some x::tW e fr)) xs=some ys):gU fi fr fc fe e=some (.lst ys):=by
 B4 gU
 rw[h1,C4,if_pos hl,h]
 rfl
B5 zM(lo:Int)(n:Nat):(jO lo n).length=n:=by B4 jO;rw[B6,D8]
B5 Hv{lo:Int}{n k:Nat}{x:D}(h:(jO lo n)[k]?=some x):k<n∧x=.int (lo+k):=by
 B4 jO at h
 rw[B9]at h
 cases q:(D4 n)[k]? with
 | none=>rw[q]at h;cases h
 | some j=>
  rw[q]at h
  B3⟨h1,h2⟩:=D2.mp q
  rw[D8]at h1
  rw[List.getElem_range]at h2
  subst h2
  ~⟨h1,(F5 h).symm⟩
B5 Hw{lo:Int}{n:Nat}{x:D}(h:x∈jO lo n):∃k:Nat,k<n∧x=.int (lo+k):=by
 B3⟨k,hk,e⟩:=K0 h
 B3⟨a1,a2⟩:=Hv (k:=k) (x:=x) (by rw[B7 hk,e])
 ~⟨k,a1,a2⟩
B5 Ur{fs:FA}{e:DE}{n:Int}(h:fs e=some [.int n])(h1:-100000≤n)(h2:n≤100000):sO fs e=some (jO 0 n.toNat):=by
 B4 sO
 rw[h]
 dsimp only[C4]
 rw[if_pos (show lim n=true from decide_eq_true ⟨h1,h2⟩)]
B5 Us{fs:FA}{e:DE}{i j:Int}(h:fs e=some [.int i,.int j])(h1:-100000≤i)(h2:i≤100000)(h3:-100000≤j)(h4:j≤100000):Gj fs e=some (jO i (j-i).toNat):=by
 B4 Gj
 rw[h]
 dsimp only[C4]
 rw[if_pos ⟨show lim i=true from decide_eq_true ⟨h1,h2⟩,show lim j=true from decide_eq_true ⟨h3,h4⟩⟩]
B5 Hx{i j:Int}(h1:-18446744073709551616<i)(h2:i<18446744073709551616):Wl i j:=.inl ⟨h1,h2⟩
B5 aJO{i j:Int}(h1:-18446744073709551616<j)(h2:j<18446744073709551616):Wl i j:=.inr ⟨h1,h2⟩
B5 jw{i:Nat}{f:FE}{env:EN}{ds:List D}{d:D}(h1:env[i]?=some (.own (.lst ds)))(h2:f (rE env)=some d)(hl:ds.length<100000):zH i dD f env=.next (env.set i (.own (.lst (ds++[d])))):=by
 B4 zH dD
 rw[h1,h2]
 dsimp only[gC]
 rw[if_pos hl]
 rfl
end L2


namespace L2
open PySem PySem.Spec PyProof.Rows
section
variable{i j:Nat}{f:FE}{c:FT}{g1 g2 g:GS}{env env':EN}{d:D}{r:SR}{ds:List D}
B5 aCS(h:f (rE env)=some d)(hi:i<env.length)(k:g (env.set i (.own d))=r):aW (cU i f) g env=r:=(fH (wJ h hi)).trans k
B5 aGB{b:Bool}(h:c (rE env)=some b)(k1:b=true→aW g1 g env=r)(k2:b=false→aW g2 g env=r):aW (uV c g1 g2) g env=r:=by
 cases b with
 | true=>have k:=k1 rfl;B4 aW at k ⊢;rw[Cp h];~k
 | false=>have k:=k2 rfl;B4 aW at k ⊢;rw[pH h];~k
B5 aH9{b:Bool}(h:c (rE env)=some b)(hb:b=false)(k:aW g2 g env=r):aW (uV c g1 g2) g env=r:=aGB h (fun z=>by rw[hb]at z;cases z) fun _=>k
B5 aIa{b:Bool}(h:c (rE env)=some b)(hb:b=true)(k:aW g1 g env=r):aW (uV c g1 g2) g env=r:=aGB h (fun _=>k) (fun z=>by rw[hb]at z;cases z)
B5 aJP(k:g env=r):aW gH g env=r:=k
B5 aJQ(h:f (rE env)=some d)(k:SR.ret d=r):aW (gO f) g env=r:=(WD (iB h)).trans k
B5 aGC(h:g1 env=.next env')(k:g env'=r):aW g1 g env=r:=(fH h).trans k
B5 aAV(h:env[i]?=some (.own d)):Oz i env=.ret d:=by B4 Oz;rw[h]
B5 iC{fs:FA}{e:DE}(h:fs e=some ds)(hl:ds.length≤100000):pP fs e=some (.tup ds):=by B4 pP cap;rw[h];dsimp only[C4];rw[if_pos hl]
B5 iD{fs:FA}{e:DE}(h:fs e=some ds)(hl:ds.length≤100000):kJ fs e=some (.lst ds):=by B4 kJ cap;rw[h];dsimp only[C4];rw[if_pos hl]
B5 rR{e:DE}{z:Int}(h:f e=some (.int z)):Cd f e=some (.int (-z)):=by B4 Cd;rw[h];rfl
B5 Er{e:DE}{T:String}{d':D}(h:f e=some d)(k:RZ T d=some d'):Wy T f e=some d':=by B4 Wy;rw[h];~k
B5 aCT{e:DE}{b:Bool}(h:f e=some (.bl b)):RB f e=some (.bl (!b)):=by B4 RB;rw[bR h];rfl
B5 Kf{e:DE}{f':FE}(h:f e=some (.bl true))(k:f' e=some d):Ax f f' e=some d:=by B4 Ax;rw[bR h];~k
B5 aCU{e:DE}{f':FE}{a b:Bool}(h:f e=some (.bl a))(k:f' e=some (.bl b)):Ax f f' e=some (.bl (a&&b)):=by
 B4 Ax;rw[bR h]
 cases a with
 | true=>~k
 | false=>rfl
B5 zN{e:DE}{c':FT}{a b:Bool}(h:c e=some a)(k:c' e=some b):Hh c c' e=some (a&&b):=by
 B4 Hh;rw[h]
 cases a with
 | true=>~k
 | false=>rfl
B5 Cr{e:DE}{c':FT}{a b:Bool}(h:c e=some a)(k:c' e=some b):fOr c c' e=some (a||b):=by
 B4 fOr;rw[h]
 cases a with
 | true=>rfl
 | false=>~k
B5 jF{e:DE}(h:f e=some (.lst ds)):mW f e=some ds:=by B4 mW;rw[h];rfl
B5 aCV{e:DE}(h:f e=some (.tup ds)):mW f e=some ds:=by B4 mW;rw[h];rfl
B5 Zg{a b:List D}(h:D.fU (a++b)=true)(hl:a.length+b.length≤100000):eU (.lst a) (.lst b)=some (.lst (a++b)):=by
 show (if D.fU (a++b)=true∧a.length+b.length≤100000 then some (D.lst (a++b))else none)=_
 rw[if_pos ⟨h,hl⟩]
B5 uM(d:D)(ds:List D):D.fU (d::ds)=(d.jJ&&D.fU ds):=by rw[D.fU]
B5 WL{a b:List D}:D.fU (a++b)=(D.fU a&&D.fU b):=by
 induction a with
 | nil=>rw[P4,D.fU];rfl
 | cons x a ih=>rw[N7,uM,uM,ih,Bool.and_assoc]
B5 Kg{ds:List D}(h:∀d∈ds,d.jJ=true):D.fU ds=true:=by
 induction ds with
 | nil=>B4 D.fU;rfl
 | cons d ds ih=>B4 D.fU;rw[h d D6,ih fun e he=>h e (C8 _ he)];rfl
B5 iR(ns:List Int):(dTup ns).jJ=true:=by B4 dTup D.jJ;~cY ns
B5 qT(h:D.fU ds=true):dList [.lst ds]=some (.lst ds):=by
 show (if D.fU ds=true then some (D.lst ds)else none)=_
 rw[if_pos h]
B5 qU(ns:List Int):lF (ns.map D.int)=some (ns.map DV.int):=by
 induction ns with
 | nil=>B4 lF;rfl
 | cons n ns ih=>rw[D3];B4 lF iQ;rw[C4,ih];rfl
B5 aFy(ns ms:List Int):Ft (dTup ns) (dTup ms)=some (.bl (decide (ns=ms))):=by
 B4 Ft dTup toV
 dsimp only
 B4 iQ
 rw[qU,qU]
 dsimp only[G1]
 rw[if_pos (by B4 DV.depth;rw[qP];decide)]
 congr 2
 rw[L5,uP,decide_eq_true_iff]
 constructor
 ·intro z;injection z with z;~Td.mp z
 ·intro z;rw[z]
B5 Ut(ns ms:List Int):Ft (aP ns) (aP ms)=some (.bl (decide (ns=ms))):=by
 B4 Ft toV
 dsimp only
 B4 iQ
 rw[qU,qU]
 dsimp only[G1]
 rw[if_pos (by B4 DV.depth;rw[qP];decide)]
 congr 2
 rw[L5,uP,decide_eq_true_iff]
 constructor
 ·intro z;injection z with z;~Td.mp z
 ·intro z;rw[z]
end
end L2
namespace L2
B5 JK{i:Nat}{e:DE}{d:D}(h:e[i]?=some (some d)):aD i e=some d:=by B4 aD;rw[h];rfl
B5 aJR{e:DE}{d:D}:fC d e=some d:=rfl
B5 aCW{e:DE}:aM e=some []:=rfl
end L2
namespace L2
B5 aCX{i:Nat}{fi:FA}{gb:GS}{env:EN}{n:Nat}(I:Nat→EN→Prop)(h:fi (rE env)=some (jO 0 n))(h0:I 0 env)
  (st:∀(k:Nat) env,k<n→I k env→i<env.length∧∃env',gb (env.set i (.fro (.int k)))=.next env'∧I (k+1) env'):∃env',yC i fi gb env=.next env'∧I n env':=by
 B3⟨env',h1,h2⟩:=Eo (i:=i) (g:=gb) I (jO 0 n) env 0 h0 fun k x e hx hi=>by
  rw[N9]at hi ⊢
  B3⟨hk,rfl⟩:=Hv hx
  rw[f9]
  ~st k e hk hi
 rw[N9,zM]at h2
 ~⟨env',(WK h).trans h1,h2⟩
B5 Zh{α β:Type}(φ:α→β):∀(l:List α)(k:Nat),(l.map φ).eraseIdx k=(l.eraseIdx k).map φ
 | [],k=>by simp
 | a::l,0=>by simp
 | a::l,k+1=>by rw[D3,M3,M3,D3,Zh φ l k]
B5 JL{i j:Nat}{f:FE}{env:EN}{ns ms:List Int}{k:Int}(h1:env[i]?=some (.own (aP ns)))(h2:env[j]?=some (.own (aP ms)))(h3:f (rE env)=some (.int k))(hij:i≠j)(hn:ns.length<1000)(hm:ms.length<1000)(k0:0≤k)(k1:k<ms.length) :
  Ei i j f env=.next ((env.set j (.own (aP (ms.eraseIdx k.toNat)))).set i (.own (aP (ns++[ms.getD k.toNat 0])))):=by
 have hk:k.toNat<ms.length:=by omega
 B4 Ei
 rw[h1,h2,h3]
 dsimp only
 rw[if_pos ⟨hij,by rw[B6];omega,k0,by rw[B6];~k1,by rw[B6];omega⟩]
 have e:(ms.map D.int)[k.toNat]?=some (.int (ms.getD k.toNat 0)):=by
  rw[B9,B8,B7 hk];rfl
 rw[e]
 dsimp only
 rw[if_pos (show D.jJ (.int (ms.getD k.toNat 0))=true from rfl)]
 have e1:(ms.map D.int).eraseIdx k.toNat=(ms.eraseIdx k.toNat).map D.int:=by
  rw[Zh]
 have e2:ns.map D.int++[D.int (ms.getD k.toNat 0)]=(ns++[ms.getD k.toNat 0]).map D.int:=by rw[J3];rfl
 rw[e1,e2]
B5 vB(ns:List Int)(n:Int):D.lst (ns.map D.int++[.int n])=aP (ns++[n]):=by B4 aP;rw[J3];rfl
end L2


namespace L2
open PySem PySem.Spec PyProof.Rows
def Qs(Pr:SR→Prop)(r:SR):Prop:=Pr r
section
variable{i j:Nat}{f:FE}{c:FT}{g1 g2 g gb:GS}{env env':EN}{d:D}{ds:List D}{Pr:SR→Prop}
B5 cC(h:f (rE env)=some d)(hi:i<env.length)(k:Qs Pr (g (env.set i (.own d)))):Qs Pr (aW (cU i f) g env):=by rw[fH (wJ h hi)];~k
B5 aCY(h:f (rE env)=some d)(hi:i<env.length)(k:Pr (.next (env.set i (.own d)))):Qs Pr (cU i f env):=by rw[wJ h hi];~k
B5 aAW(h:g1 env=.next env')(k:Qs Pr (g env')):Qs Pr (aW g1 g env):=by rw[fH h];~k
B5 Bh(k:Qs Pr (g env)):Qs Pr (aW gH g env):=k
B5 aJS(k:Pr (.next env)):Qs Pr (gH env):=k
B5 Xc{b:Bool}(h:c (rE env)=some b)(k1:b=true→Qs Pr (aW g1 g env))(k2:b=false→Qs Pr (aW g2 g env)):Qs Pr (aW (uV c g1 g2) g env):=by
 cases b with
 | true=>have k:=k1 rfl;B4 aW at k ⊢;rw[Cp h];~k
 | false=>have k:=k2 rfl;B4 aW at k ⊢;rw[pH h];~k
B5 yg{b:Bool}(h:c (rE env)=some b)(k1:b=true→Qs Pr (g1 env))(k2:b=false→Qs Pr (g2 env)):Qs Pr (uV c g1 g2 env):=by
 cases b with
 | true=>rw[Cp h];~k1 rfl
 | false=>rw[pH h];~k2 rfl
B5 Az{b:Bool}(h:c (rE env)=some b)(hb:b=false)(k:Qs Pr (aW g2 g env)):Qs Pr (aW (uV c g1 g2) g env):=Xc h (fun z=>by rw[hb]at z;cases z) fun _=>k
B5 aCZ{b:Bool}(h:c (rE env)=some b)(hb:b=true)(k:Qs Pr (aW g1 g env)):Qs Pr (aW (uV c g1 g2) g env):=Xc h (fun _=>k) (fun z=>by rw[hb]at z;cases z)
B5 aC0{b:Bool}(h:c (rE env)=some b)(hb:b=false)(k:Qs Pr (g2 env)):Qs Pr (uV c g1 g2 env):=yg h (fun z=>by rw[hb]at z;cases z) fun _=>k
B5 WM(h:f (rE env)=some d)(k:Pr (.ret d)):Qs Pr (aW (gO f) g env):=by rw[WD (iB h)];~k
B5 pZ(h:f (rE env)=some d)(k:Pr (.ret d)):Qs Pr (gO f env):=by rw[iB h];~k
B5 JM(h:env[i]?=some (.own d))(k:Pr (.ret d)):Qs Pr (Oz i env):=by rw[aAV h];~k
B5 aGD(h1:env[i]?=some (.own (.lst ds)))(h2:f (rE env)=some d)(hl:ds.length<100000)(k:Qs Pr (g (env.set i (.own (.lst (ds++[d])))))):Qs Pr (aW (zH i dD f) g env):=by rw[fH (jw h1 h2 hl)];~k
B5 Rn{fi:FA}{n:Nat}(I:Nat→EN→Prop)(h:fi (rE env)=some (jO 0 n))(h0:I 0 env)
  (st:∀(k:Nat) env,k<n→I k env→i<env.length∧Qs (fun r=>∃env',r=.next env'∧I (k+1) env') (gb (env.set i (.fro (.int k))))) (k:∀env',I n env'→Qs Pr (g env')):Qs Pr (aW (yC i fi gb) g env):=by
 B3⟨env',h1,h2⟩:=aCX (gb:=gb) I h h0 fun k env hk hi=>⟨(st k env hk hi).1,let ⟨e,a,b⟩:=(st k env hk hi).2;⟨e,a,b⟩⟩
 rw[fH h1]
 ~k env' h2
B5 yh{js:List Nat}{fi:FA}{Qi:EN}{xs:List D}(I:Nat→EN→Prop)(hf:Jg js env=Qi)(h:fi (zE Qi)=some xs)(h0:I 0 Qi)
  (st:∀(k:Nat) x env,xs[k]?=some x→I k env→i<env.length∧Qs (fun r=>∃env',r=.next env'∧I (k+1) env') (gb (env.set i (.fro x)))) (k:∀env',I xs.length env'→Qs Pr (g env')):Qs Pr (aW (Ww js i fi gb) g env):=by
 B3⟨env',h1,h2⟩:=Eo (i:=i) (g:=gb) I xs Qi 0 h0 fun k x e hx hi=>by
  rw[N9]at hi ⊢
  ~⟨(st k x e hx hi).1,let ⟨e,a,b⟩:=(st k x e hx hi).2;⟨e,a,b⟩⟩
 rw[N9]at h2
 rw[fH ((aFw hf h).trans h1)]
 ~k env' h2
B5 aGE{is:List Nat}(h:f (rE env)=some (.tup ds))(hl:is.length=ds.length)(hi:is.all (fun i=>decide (i<env.length))=true)(k:Qs Pr (g (wH env is ds))):Qs Pr (aW (wI is f) g env):=by
 have:wI is f env=.next (wH env is ds):=by B4 wI;rw[h];dsimp only;rw[if_pos ⟨hl,hi⟩]
 rw[fH this]
 ~k
B5 oE{n m:Nat}{Pd:D→Prop}(hl:ds.length=m)(h:Qs (fun r=>∃d,r=.ret d∧Pd d) (g (ds.map SD.fro++E4 (n-m) SD.no))):∃d,oZ n m g ds=some d∧Pd d:=by
 B3⟨d,h1,h2⟩:=h
 ~⟨d,oO hl h1,h2⟩
B5 Es{fs:FA}{e:DE}{n:Nat}(h:fs e=some [.int (n:Int)])(hn:n≤100000):sO fs e=some (jO 0 n):=by
 rw[Ur h A6 A6,D7]
end
end L2
namespace L2
B5 zO{fi:FA}{fr:List Nat}{fe:FE}{e:DE}{n:Nat}{φ:Nat→D}(h1:fi e=some (jO 0 n))(hn:n≤1000)(he:∀k:Nat,k<n→fe (some (.int k)::tW e fr)=some (φ k)):gU fi fr lG fe e=some (.lst ((D4 n).map φ)):=by
 &Cq h1 (by rw[zM];omega) ?_
 &(Zf (c:=fun x=>lG (some x::tW e fr)) (φ:=fun x=>match x with | .int i=>φ i.toNat | d=>d) (fun _ _=>rfl) ?_).trans ?_
 rotate_left
 ·congr 1
  B4 jO
  rw[K7]
  apply Q9
  intro k _
  show φ ((0:Int)+(k:Int)).toNat=φ k
  rw[f9,D7]
 ·intro x hx
  B3⟨k,hk,rfl⟩:=Hw hx
  rw[f9]
  show _=some (φ ((k:Int)).toNat)
  rw[D7]
  ~he k hk
B5 Et{fi:FA}{fr:List Nat}{fe:FE}{e:DE}{α:Type}{xs:List α}{ψ φ:α→D}(h1:fi e=some (xs.map ψ))(hn:xs.length≤1000)(he:∀x∈xs,fe (some (ψ x)::tW e fr)=some (φ x)):gU fi fr lG fe e=some (.lst (xs.map φ)):=by
 &Cq h1 (by rw[B6];omega) ?_
 clear h1 hn
 induction xs with
 | nil=>rw[G6,G6];B4 pR;rfl
 | cons x xs ih=>
  rw[D3]
  B4 pR
  show (some true).bind _=_
  rw[C4,if_pos rfl,he x D6,C4,ih fun y hy=>he y (C8 _ hy)]
  rfl
B5 Uu{α:Type} [Inhabited α]:∀(l:List α)(k:Nat)(d:α),k<l.length→(l.getD k d::l.eraseIdx k).Perm l
 | [],k,d,h=>absurd h (by simp)
 | a::l,0,d,_=>by simp
 | a::l,k+1,d,h=>by
  rw[M3,V3]
  ~(l8 _ _ _).trans ((Uu l k d (by simpa using h)).cons a)
B5 qC{α:Type}{l:List α}{k:Nat}{x d:α}(h:l[k]?=some x):l.getD k d=x:=by rw[B8,h];rfl
B5 oR{α:Type}{l:List α}{k:Nat}{d:α}(h:k<l.length):l[k]?=some (l.getD k d):=by rw[B8,B7 h];rfl
B5 aIb{b:Bool}{f:FE}{l h:FO}{e:DE}{ds:List D}{lo hi:Option Int}(h1:f e=some (.lst ds))(h2:l e=some lo)(h3:h e=some hi)(h4:b=false∨D.fU (Fw ds lo hi)=true):fSl b f l h e=some (.lst (Fw ds lo hi)):=by
 B4 fSl
 rw[h1,h2,h3]
 dsimp only[C4]
 rw[if_pos h4]
B5 zP(ns ms:List Int)(h:ns.length+ms.length≤100000):eU (aP ns) (aP ms)=some (aP (ns++ms)):=by
 have:=Zg (a:=ns.map D.int) (b:=ms.map D.int) (by rw[WL,cY,cY];rfl) (by rw[B6,B6];~h)
 rw[←J3]at this
 ~this
end L2


namespace L2
open PySem PySem.Spec PyProof.Rows
section
variable{i j:Nat}{f:FE}{c:FT}{g1 g2 g gb:GS}{env env':EN}{d:D}{ds:List D}{Pr:SR→Prop}
B5 aFz{x:D}(h:ds.getLast?=some x):dU (.lst ds) (.int (-1))=some x:=aFx h
B5 Zi{fc:FT}(I:Nat→EN→Prop)(hs:∀n env,I n env→(fc (rE env)=some false)∨(fc (rE env)=some true∧0<n∧∃env',gb env=.next env'∧I (n-1) env')):∀(fuel n:Nat)(env:EN),n<fuel→I n env→∃env' n',qR fc gb fuel env=.next env'∧I n' env'∧fc (rE env')=some false
 | 0,n,env,h,_=>absurd h A6
 | fuel+1,n,env,h,hi=>by
  rcases hs n env hi with q | ⟨q,hn,env',h1,h2⟩
  ·~⟨env,n,by B4 qR;rw[q],hi,q⟩
  ·B3⟨e2,n2,a1,a2,a3⟩:=Zi I hs fuel (n-1) env' A6 h2
   &⟨e2,n2,?_,a2,a3⟩
   B4 qR
   rw[q,h1]
   ~a1
end
end L2
namespace L2
B5 yj{l:List Int}{b:Int}:(F4 b:Key)∈l.map (F4:Int→Key)↔b∈l:=by
 rw[J2]
 constructor
 ·rintro⟨a,h1,h2⟩;cases h2;~h1
 ·intro h;~⟨b,h,rfl⟩
B5 Cu{l:List Int}{b:Int}(h:b∉l):posK (l.map (F4:Int→Key)) (F4 b)=none:=Ec.mpr fun z=>h (yj.mp z)
B5 aFA{i:Nat}{f f':FE}{env:EN}{ks:List Key}{ds:List D}{kd d:D}{k:Key}(h1:env[i]?=some (.own (.dk ks ds)))(h2:f (rE env)=some kd)(h3:f' (rE env)=some d)(h4:Tt kd=some k)(h5:posK ks k=none)(im:d.jJ=true)(hl:ks.length<100000):pF i dD f f' env=.next (env.set i (.own (.dk (ks++[k]) (ds++[d])))):=by
 have e1:mL ks k=ks++[k]:=by B4 mL;rw[h5];rfl
 have e2:putD ks ds k d=ds++[d]:=by B4 putD;rw[h5];rfl
 B4 pF dD
 rw[h1,h2,h3]
 dsimp only[gC]
 rw[h4]
 dsimp only
 rw[if_pos ⟨im,hl⟩,e1,e2]
 rfl
B5 Zj(l:List Int):D.lst ((l.map (F4:Int→Key)).map kD)=aP l:=by
 B4 aP
 rw[K7]
 rfl
B5 yl{fc:FT}{gb g:GS}{env:EN}{Pr:SR→Prop}{fuel n:Nat}(I:Nat→EN→Prop)(h0:I n env)(hn:n<fuel)(hs:∀n env,I n env→(fc (rE env)=some false)∨(fc (rE env)=some true∧0<n∧∃env',gb env=.next env'∧I (n-1) env'))
  (k:∀env' n',I n' env'→fc (rE env')=some false→Qs Pr (g env')):Qs Pr (aW (qR fc gb fuel) g env):=by
 B3⟨env',n',a1,a2,a3⟩:=Zi I hs fuel n env hn h0
 rw[fH a1]
 ~k env' n' a2 a3
end L2
namespace L2
B5 aAX(ns:List Int):QW (ns.map D.int)=some (ns.map V.int):=by
 induction ns with
 | nil=>B4 QW;rfl
 | cons n ns ih=>rw[D3];B4 QW toV;rw[C4,ih];rfl
B5 aC1(neg:Bool)(i:Int)(ns:List Int):dIn neg (.int i) (aP ns)=some (.bl (if neg then !decide (i∈ns)else decide (i∈ns))):=by
 B4 dIn
 show (some (V.int i)).bind _=_
 rw[C4]
 show (some (ns.map D.int)).bind _=_
 rw[C4,aAX,C4,if_pos ⟨rfl,aAr ns⟩,aES]
B5 JN{ns:List Int}(h:ns.length<64):Rb [aP ns]=some (aP (sortI ns)):=by
 show (intsOf (ns.map D.int)).bind _=_
 rw[mC,C4,if_pos h]
end L2


namespace L2
open PySem PySem.Spec PyProof.Rows
def Qm(ks:List Int):D:=.dk (ks.map F4) (ks.map fun _=>.bl true)
B5 aC2(i:Int)(ks:List Int):(posK (ks.map (F4:Int→Key)) (F4 i)).isSome=decide (i∈ks):=by
 by_cases c:i∈ks
 ·rw[decide_eq_true c]
  cases q:posK (ks.map (F4:Int→Key)) (F4 i)with
  | some j=>rfl
  | none=>~absurd (yj.mpr c) (Ec.mp q)
 ·rw[decide_eq_false c,Cu c]
  rfl
B5 Uv(neg:Bool)(i:Int)(ks:List Int):Fv neg (.int i) (Qm ks)=some (.bl (if neg then !decide (i∈ks)else decide (i∈ks))):=by
 show some (D.bl (if neg then !(posK (ks.map (F4:Int→Key)) (F4 i)).isSome else(posK (ks.map (F4:Int→Key)) (F4 i)).isSome))=_
 rw[aC2]
def Qn(ks:List Int)(k:Int):List Int:=if k∈ks then ks else ks++[k]
B5 aC3(ks:List Int)(k j:Int):j∈Qn ks k↔j∈ks∨j=k:=by
 B4 Qn
 split
 ·rename_i c
  ~⟨.inl,fun z=>z.elim id fun e=>by rw[e];~c⟩
 ·simp
B5 aC4(ks:List Int)(k:Int):(Qn ks k).length≤ks.length+1:=by
 B4 Qn
 split
 ·omega
 ·simp
B5 Zk(k:Key):∀ks:List Int,P9 (fun(k':Key) (d':D)=>if k'=k then D.bl true else d') (ks.map F4) (ks.map fun _=>D.bl true)=ks.map fun _=>D.bl true
 | []=>rfl
 | a::ks=>by
  rw[D3,D3,J6,Zk k ks]
  split<;>rfl
B5 aGF{i:Nat}{f f':FE}{env:EN}{ks:List Int}{k:Int}(h1:env[i]?=some (.own (Qm ks)))(h2:f (rE env)=some (.int k))(h3:f' (rE env)=some (.bl true))(hl:ks.length<1000):pF i dD f f' env=.next (env.set i (.own (Qm (Qn ks k)))):=by
 B4 pF dD
 rw[h1,h2,h3]
 dsimp only[gC,Qm]
 show (if D.jJ (.bl true)=true∧(ks.map (F4:Int→Key)).length<100000 then _ else _)=_
 rw[if_pos ⟨rfl,by rw[B6];omega⟩]
 have e1:mL (ks.map (F4:Int→Key)) (F4 k)=(Qn ks k).map F4:=by
  B4 mL Qn
  rw[aC2]
  by_cases c:k∈ks
  ·simp[c]
  ·simp[c]
 have e2:putD (ks.map (F4:Int→Key)) (ks.map fun _=>D.bl true) (F4 k) (.bl true)=(Qn ks k).map fun _=>D.bl true:=by
  B4 putD Qn
  rw[aC2]
  by_cases c:k∈ks
  ·rw[decide_eq_true c,if_pos rfl,if_pos c,Zk]
  ·rw[decide_eq_false c,if_neg A8,if_neg c,J3]
   rfl
 rw[e1,e2]
 rfl
B5 yF{fi:FA}{fr:List Nat}{fc:FT}{fe:FE}{e:DE}{ms:List Int}(p:Int→Bool)(φ:Int→D)(h1:fi e=some (ms.map D.int))(hn:ms.length≤1000)(hc:∀m∈ms,fc (some (.int m)::tW e fr)=some (p m))(he:∀m∈ms,p m=true→fe (some (.int m)::tW e fr)=some (φ m)) :
  gU fi fr fc fe e=some (.lst ((ms.filter p).map φ)):=by
 &Cq h1 (by rw[B6];omega) ?_
 clear h1 hn
 induction ms with
 | nil=>rw[G6];B4 pR;rfl
 | cons m ms ih=>
  have ih:=ih (fun y hy=>hc y (C8 _ hy)) fun y hy=>he y (C8 _ hy)
  rw[D3]
  B4 pR
  rw[hc m D6,C4,j7]
  cases q:p m with
  | true=>rw[if_pos rfl,if_pos rfl,he m D6 q,C4,ih];rfl
  | false=>rw[if_neg A8,if_neg A8];~ih
B5 zQ{fi:FA}{fr:List Nat}{fc:FT}{fe:FE}{e:DE}{ms:List Int}(p:Int→Bool)(φ:Int→Int)(h1:fi e=some (ms.map D.int))(hn:ms.length≤1000)(hc:∀m∈ms,fc (some (.int m)::tW e fr)=some (p m))(he:∀m∈ms,p m=true→fe (some (.int m)::tW e fr)=some (.int (φ m))) :
  gU fi fr fc fe e=some (aP ((ms.filter p).map φ)):=by
 rw[yF p (fun m=>.int (φ m)) h1 hn hc he]
 B4 aP
 rw[K7]
 rfl
B5 dJ{φ:D→Option D}{f:FE}{e:DE}{a d:D}(h1:f e=some a)(h:φ a=some d):tL φ f e=some d:=by B4 tL;rw[h1];~h
B5 Uw{ns:List Int}(h:ns.length<64):SQ (aP ns)=some (aP (bc ns)):=by
 show (intsOf (ns.map D.int)).bind _=_
 rw[mC,C4,if_pos h]
B5 Pb(ns:List Int):Mm [aP ns]=some (dTup ns):=by
 B4 Mm
 dsimp only
 rw[show Bf (aP ns)=some (ns.map D.int)from by B4 aP Bf;rfl,C4,if_pos (cY _)]
 rfl
B5 jx{ns:List Int}(h:0<ns.length):uw [aP ns]=some (.int (RM ns)):=by
 show (intsOf (ns.map D.int)).bind _=_
 rw[mC,C4,if_pos h]
B5 WN{α β:Type}(φ:α→β)(l:List α)(lo hi:Option Int):Fw (l.map φ) lo hi=(Fw l lo hi).map φ:=by
 B4 Fw
 rw[B6,←o6,←o0]
B5 WQ{b:Bool}{f:FE}{l h:FO}{e:DE}{ns:List Int}{lo hi:Option Int}(h1:f e=some (aP ns))(h2:l e=some lo)(h3:h e=some hi):fSl b f l h e=some (aP (Fw ns lo hi)):=by
 rw[aIb h1 h2 h3 (.inr (by rw[WN];~cY _)),WN]
B5 aIc{α:Type}(l:List α)(c:Nat):Fw l none (some (c:Int))=l.take c:=by
 B4 Fw
 show (l.drop 0).take (HT.Wm l.length l.length (some (c:Int))-0)=_
 rw[Tf,m7,U6]
 rcases K4 c l.length with z | z
 ·rw[show min c l.length=c by omega]
 ·rw[show min c l.length=l.length by omega,S7 (C5 _),S7 z]
B5 aC5{α:Type}(l:List α)(a b:Nat):Fw l (some (a:Int)) (some (b:Int))=(l.drop a).take (b-a):=by
 B4 Fw
 rw[Tf,Tf]
 &K1 fun k=>?_
 rw[g6,V9,g6,V9]
 rcases K4 a l.length with z | z
 ·rw[show min a l.length=a by omega]
  by_cases c:k<min b l.length-a
  ·rw[if_pos c,if_pos A6]
  ·rw[if_neg c]
   by_cases c2:k<b-a
   ·rw[if_pos c2,E2 A6]
   ·rw[if_neg c2]
 ·rw[show min a l.length=l.length by omega,E2 (show l.length≤l.length+k by omega),E2 (show l.length≤a+k by omega)]
  split<;>split<;>rfl
structure tY where
 fP:Int
 place:Int
 thing:List Int
 needs:List Int
 deriving Inhabited
def Bj(c:tY):D:=.tup [.int c.fP,.int c.place,dTup c.thing,dTup c.needs]
def sU(cs:List tY):D:=.lst (cs.map Bj)
B5 jy(c:tY):(Bj c).jJ=true:=by
 B4 Bj D.jJ
 rw[uM,uM,uM,uM,iR,iR]
 rfl
B5 aC6(cs:List tY):D.fU (cs.map Bj)=true:=Kg fun d h=>by
 B3⟨c,_,rfl⟩:=J2.mp h
 ~jy c
abbrev at_(cs:List tY)(k:Nat):tY:=cs.getD k default
B5 Mx{cs:List tY}{k:Nat}(h:k<cs.length):dU (sU cs) (.int k)=some (Bj (at_ cs k)):=rQ A6 (by
 rw[D7,B9,oR (d:=default) h]
 rfl)
B5 JP(c:tY):dU (Bj c) (.int 0)=some (.int c.fP):=uE A8 rfl
B5 Ux(c:tY):dU (Bj c) (.int 1)=some (.int c.place):=uE A8 rfl
B5 Cv(c:tY):dU (Bj c) (.int 2)=some (dTup c.thing):=uE A8 rfl
B5 Kh(c:tY):dU (Bj c) (.int 3)=some (dTup c.needs):=uE A8 rfl
B5 qD(cs:List tY):kO [sU cs]=some (.int cs.length):=by show some (D.int ((cs.map Bj).length:Nat))=_;rw[B6]
def Good(cs:List tY):Prop:=cs.length≤124∧∀k,k<cs.length→(∀m∈(at_ cs k).needs,0≤m∧m<k)∧(at_ cs k).needs.Pairwise (·<·)∧(at_ cs k).needs.length≤9
def chV(c:tY):DV:=.tup [.int c.fP,.int c.place,.tup (c.thing.map DV.int),.tup (c.needs.map DV.int)]
B5 Uy(ns:List Int):iQ (dTup ns)=some (.tup (ns.map DV.int)):=by
 B4 dTup iQ
 rw[qU]
 rfl
B5 yo(c:tY):iQ (Bj c)=some (chV c):=by
 have i1:∀i:Int,iQ (.int i)=some (.int i):=fun i=>by B4 iQ;rfl
 B4 Bj iQ lF
 rw[i1,C4]
 B4 lF
 rw[i1,C4]
 B4 lF
 rw[Uy,C4]
 B4 lF
 rw[Uy,C4]
 B4 lF
 rfl
B5 Zm:∀cs:List tY,lF (cs.map Bj)=some (cs.map chV)
 | []=>by rw[G6];B4 lF;rfl
 | c::cs=>by rw[D3];B4 lF;rw[yo,C4,Zm cs];rfl
B5 WR(c:tY):(chV c).depth≤2:=by
 B4 chV DV.depth dH
 have e:∀i:Int,(DV.int i).depth=0:=fun i=>by B4 DV.depth;rfl
 have t:∀ns:List Int,(DV.tup (ns.map DV.int)).depth=1:=fun ns=>by B4 DV.depth;rw[qP]
 rw[e]
 B4 dH
 rw[e]
 B4 dH
 rw[t]
 B4 dH
 rw[t]
 B4 dH
 decide
B5 Uz:∀cs:List tY,dH (cs.map chV)≤2
 | []=>by rw[G6];B4 dH;decide
 | c::cs=>by
  rw[D3]
  B4 dH
  have:=WR c
  have:=Uz cs
  omega
B5 aAY{ds:List D}{xs:List DV}(h:lF ds=some xs)(hd:dH xs≤32):Tr (.lst ds) (.lst ds)=some (.bl false):=by
 have e:iQ (.lst ds)=some (.lst xs):=by B4 iQ;rw[h];rfl
 B4 Tr toV
 dsimp only
 rw[e]
 dsimp only
 rw[if_pos hd,pO]
 rfl
B5 WT(ns ms:List Int):Tr (aP ns) (aP ms)=some (.bl (!decide (ns=ms))):=by
 have e:∀l:List Int,iQ (aP l)=some (.lst (l.map DV.int)):=fun l=>by B4 aP iQ;rw[qU];rfl
 B4 Tr
 rw[e,e]
 B4 toV
 dsimp only
 rw[if_pos (by rw[qP];decide)]
 congr 3
 rw[L5,uP,decide_eq_true_iff]
 constructor
 ·intro z;injection z with z;~Td.mp z
 ·intro z;rw[z]
end L2
namespace L2
B5 My{f:FE}{e:DE}{i:Int}(h:f e=some (.int i)):tK f e=some (some i):=by B4 tK;rw[h];rfl
B5 aC7(ks:List Int):Tw [Qm ks]=some (aP ks):=by
 show some (D.lst ((ks.map (F4:Int→Key)).map kD))=_
 rw[Zj]
B5 vC{cs:List tY}{c:tY}{k:Nat}(h:k<cs.length):at_ (cs++[c]) k=at_ cs k:=by
 B4 at_
 rw[B8,B8,G4 h]
B5 zR(cs:List tY)(c:tY):at_ (cs++[c]) cs.length=c:=by
 B4 at_
 rw[B8,L3 (C5 _)]
 simp
B5 Zo(cs:List tY)(c:tY):D.lst (cs.map Bj++[Bj c])=sU (cs++[c]):=by B4 sU;rw[J3];rfl
B5 Zq{f:FE}{e:DE}{ns:List Int}(h:f e=some (dTup ns)):mW f e=some (ns.map D.int):=aCV h
end L2
namespace L2
B5 Zr(i j:Int):RL [.int i,.int j]=some (.int (if j > i then j else i)):=rfl
end L2


namespace L2
open PySem PySem.Spec PyProof.Rows
B5 yp{e:DE}{f f':FE}{a b:Bool}(h:f e=some (.bl a))(k:f' e=some (.bl b)):Wu f f' e=some (.bl (a||b)):=by
 B4 Wu;rw[bR h]
 cases a with
 | true=>rfl
 | false=>~k
B5 Kl{α:Type}(p:α→Bool)(l:List α):iz [.lst (l.map fun x=>D.bl (p x))]=some (.bl (l.all p)):=by
 show (Gi (l.map fun x=>D.bl (p x))).map _=_
 rw[Yr]
 show some (D.bl ((l.map p).all id))=_
 rw[List.all_map]
 rfl
end L2


namespace L2
open PySem PySem.Spec PyProof.Rows
B5 qW:∀(n:Nat)(l:List Int),l.Nodup→(∀x∈l,0≤x∧x<(n:Int))→l.length≤n
 | 0,l,_,h=>by
  cases l with
  | nil=>~C5 _
  | cons a l=>
   have:=h a D6
   omega
 | n+1,l,hn,h=>by
  by_cases c:(n:Int)∈l
  ·have e:=X6 c
   have:=qW n (l.erase (n:Int)) (hn.erase _) fun x hx=>by
    B3⟨h1,h2⟩:=(hn.mem_erase_iff).mp hx
    have:=h x h2
    omega
   omega
  ·have:=qW n l hn fun x hx=>by
    have:=h x hx
    have ne:x≠(n:Int):=fun z=>c (by rw[←z];~hx)
    omega
   omega
section
variable{i j:Nat}{f f':FE}{c:FT}{g1 g2 g gb:GS}{env env':EN}{d d0 d' r:D}{ds:List D}{Pr:SR→Prop}{v:V}{π:FP}{p:List Step}
B5 mH{n m:Nat}(hl:ds.length=m)(h:g (ds.map SD.fro++E4 (n-m) SD.no)=.ret d):nW n m g ds=some d:=by B4 nW;rw[if_pos hl,h]
B5 Hy{n m:Nat}(hl:ds.length=m)(h:g (ds.map SD.fro++E4 (n-m) SD.no)=.next env'):nW n m g ds=some .non:=by B4 nW;rw[if_pos hl,h]
B5 yq{n m:Nat}{Pd:D→Prop}(hl:ds.length=m)(h:Qs (fun r=>∃d,r=.ret d∧Pd d) (g (ds.map SD.fro++E4 (n-m) SD.no))):∃d,nW n m g ds=some d∧Pd d:=by
 B3⟨d,h1,h2⟩:=h
 ~⟨d,mH hl h1,h2⟩
B5 lJ{n m:Nat}{es:List D}(hl:es.length+1=m)(h:∀v,Qs (UL r d' v) (g (aAO n m d es v))):lQ n m g (d::es)=some (r,d'):=aCC hl h
B5 yr(h1:env[i]?=some (.inn v d))(h2:g1 (env.set i (.own d))=.next env')(h3:env'[i]?=some (.own d')):iW i g1 env=.next (env'.set i (.inn v d')):=by
 B4 iW
 rw[h1]
 dsimp only
 rw[h2]
 dsimp only
 rw[h3]
B5 mR(h1:env[i]?=some (.inn v d))(h2:g1 (env.set i (.own d))=.next env')(h3:env'[i]?=some (.own d'))(k:Qs Pr (g (env'.set i (.inn v d')))):Qs Pr (aW (iW i g1) g env):=by rw[fH (yr h1 h2 h3)];~k
B5 jz(h1:env[i]?=some (.inn v d))(h2:g1 (env.set i (.own d))=.next env')(h3:env'[i]?=some (.own d'))(k:Pr (.next (env'.set i (.inn v d')))):Qs Pr (iW i g1 env):=by rw[yr h1 h2 h3];~k
B5 Cw(h:f (rE env)=some d):xZ f env=.next env:=by B4 xZ;rw[h]
B5 kh(h:f (rE env)=some d)(k:Qs Pr (g env)):Qs Pr (aW (xZ f) g env):=by rw[fH (Cw h)];~k
B5 Va(h1:env[i]?=some (.own d0))(h2:π (rE env)=some p)(h3:gC p d0=some (.lst ds))(h4:f (rE env)=some d)(hl:ds.length<100000):zH i π f env=.next (env.set i (.own (fG p d0 (.lst (ds++[d]))))):=by
 B4 zH
 rw[h1,h2,h4]
 dsimp only
 rw[h3]
 dsimp only
 rw[if_pos hl]
B5 JQ{k:Int}(h1:env[i]?=some (.own d0))(h2:π (rE env)=some p)(h3:gC p d0=some (.lst ds))(h4:f (rE env)=some (.int k))(h5:f' (rE env)=some d)(k0:0≤k)(k1:k<ds.length):wG i π f f' env=.next (env.set i (.own (fG p d0 (.lst (ds.set k.toNat d))))):=by
 B4 wG
 rw[h1,h2,h4,h5]
 dsimp only
 rw[h3]
 dsimp only
 have:aq ds.length k=some k.toNat:=by B4 aq;rw[if_pos k0,if_pos k1]
 rw[this]
B5 zT{ks:List Key}{k:Key}{kd:D}(h1:env[i]?=some (.own d0))(h2:π (rE env)=some p)(h3:gC p d0=some (.dk ks ds))(h4:f (rE env)=some kd)(h5:Tt kd=some k)(h6:f' (rE env)=some d)(im:d.jJ=true)(hl:ks.length<100000):pF i π f f' env=.next (env.set i (.own (fG p d0 (.dk (mL ks k) (putD ks ds k d))))):=by
 B4 pF
 rw[h1,h2,h4,h6]
 dsimp only
 rw[h3,h5]
 dsimp only
 rw[if_pos ⟨im,hl⟩]
B5 aFB{ks:List (List Key)}{k:List Key}{fk:FK}(h1:env[i]?=some (.own d0))(h2:π (rE env)=some p)(h3:gC p d0=some (.dt ks ds))(h4:fk (rE env)=some k)(h6:f' (rE env)=some d)(im:d.jJ=true)(hl:ks.length<100000):Yz i π fk f' env=.next (env.set i (.own (fG p d0 (.dt (mL ks k) (putD ks ds k d))))):=by
 B4 Yz
 rw[h1,h2,h4,h6]
 dsimp only
 rw[h3]
 dsimp only
 rw[if_pos ⟨im,hl⟩]
B5 aIe{C:Addr}{nm:List Str}{x:Str}(h1:env[i]?=some (.own d0))(h2:π (rE env)=some p)(h3:gC p d0=some (.ins C nm ds))(h4:f (rE env)=some d)(hl:nm.length<900):yD C i π x f env=.next (env.set i (.own (fG p d0 (.ins C (Yx nm ds x d).1 (Yx nm ds x d).2)))):=by
 B4 yD
 rw[h1,h2,h4]
 dsimp only
 rw[h3]
 dsimp only
 rw[if_pos ⟨rfl,hl⟩]
B5 bY{C:Addr}{m:Str}{n:Nat}{F:List D→Option D}{fo:FE}{fs:FA}{dds es:List D}{e:DE}{nm:List Str}(h1:fo e=some (.ins C nm ds))(hm:m∉nm)(h2:fs e=some es)(hl:es.length+dds.length+1=n)(h3:F (.ins C nm ds::(es++dds))=some r):gJ C m n F fo fs dds e=some r:=by
 B4 gJ
 rw[h1]
 dsimp only[C4]
 rw[if_pos ⟨rfl,hm⟩,h2]
 dsimp only[C4]
 rw[if_pos hl]
 ~h3
B5 lU{C:Addr}{m:Str}{F:List D→Option (D×D)}{fs:FA2}{es:List D}{nm:List Str}{back:D→SD}(h1:env[i]?.bind SD.hold=some (d0,back))(h2:π (rE env)=some p)(h3:gC p d0=some (.ins C nm ds))(hm:m∉nm)(h4:fs (rE env) (rE (env.set i .no))=some es)(h5:F (.ins C nm ds::es)=some (r,d')):pW C m i π F fs env=some (r,env.set i (back (fG p d0 d'))):=by
 B4 pW
 rw[h1,h2,h4]
 dsimp only
 rw[h3]
 dsimp only
 rw[if_pos ⟨rfl,hm⟩,h5]
 rfl
B5 wK{F:List D→Option (D×D)}{fs:FA2}{es:List D}{back:D→SD}(h1:env[i]?.bind SD.hold=some (d0,back))(h4:fs (rE env) (rE (env.set i .no))=some es)(h5:F (d0::es)=some (r,d')):Qk i F fs env=some (r,env.set i (back d')):=by
 B4 Qk
 rw[h1,h4]
 dsimp only
 rw[h5]
 rfl
B5 WW{C:Addr}{F:List D→Option (D×D)}{fs:FA}{e:DE}{es:List D}(h1:fs e=some es)(h2:F (.ins C [] []::es)=some (.non,d')):TV C F fs e=some d':=by
 B4 TV
 rw[h1]
 dsimp only[C4]
 rw[h2]
B5 cB{fs:FA2}{eF eZ:DE}{es:List D}(h1:f eZ=some d)(h2:fs eF eZ=some es):qO f fs eF eZ=some (d::es):=by B4 qO;rw[h1,h2];rfl
B5 xK{fs:FA2}{eF eZ:DE}{es:List D}(h1:f eF=some d)(h2:fs eF eZ=some es):faN f fs eF eZ=some (d::es):=by B4 faN;rw[h1,h2];rfl
B5 vD{gm:GM}(h:gm env=some (d,env'))(hi:i<env'.length)(k:Qs Pr (g (env'.set i (.own d)))):Qs Pr (aW (tX i gm) g env):=by
 have:tX i gm env=.next (env'.set i (.own d)):=by B4 tX;rw[h];dsimp only;rw[if_pos hi]
 rw[fH this];~k
B5 Zt{gm:GM}(h:gm env=some (d,env')):zJ gm env=.next env':=by B4 zJ;rw[h]
B5 JR{gm:GM}(h:gm env=some (d,env'))(k:Qs Pr (g env')):Qs Pr (aW (zJ gm) g env):=by rw[fH (Zt h)];~k
B5 rT{gm:GM}(h:gm env=some (d,env'))(k:Pr (.rete d env')):Qs Pr (pY gm env):=by
 have:pY gm env=.rete d env':=by B4 pY;rw[h]
 rw[this];~k
B5 zU(h:env[i]?=some (.own d))(k:Pr (.rete d (env.set i .no))):Qs Pr (tM i env):=by
 have:tM i env=.rete d (env.set i .no):=by B4 tM;rw[h]
 rw[this];~k
B5 Mz(h:f (rE env)=some d):gmN f env=some (d,env):=by B4 gmN;rw[h];rfl
B5 JS{f1 f2 f3:FE}{e:DE}{a b c:Int}(h1:f1 e=some (.int a))(h2:f2 e=some (.int b))(h3:f3 e=some (.int c)):aAP dLe dLt f1 f2 f3 e=some (decide (a≤b)&&decide (b<c)):=by
 B4 aAP
 rw[h1,h2,h3]
 dsimp only[C4]
 rw[JH,C4]
 by_cases q:a≤b
 ·rw[decide_eq_true q]
  dsimp only
  rw[Ep,C4]
  simp
 ·rw[decide_eq_false q]
  simp
B5 Zu{all:List D}(I:Nat→EN→Prop)(hI:∀k env,I k env→env[j]?=some (.inn v (.lst all))):∀(xs:List D)(n:Nat)(env:EN),I n env→(∀k x env,xs[k]?=some x→I (n+k) env→i<env.length∧∃fW,g (env.set i (.fro x))=.next fW∧I (n+k+1) fW)→∃fW,Bg j i g v all xs env=.next fW∧I (n+xs.length) fW
 | [],n,env,h,_=>⟨env,by B4 Bg;rw[if_pos (hI _ _ h)],h⟩
 | x::xs,n,env,h,st=>by
  B3⟨h1,fW,h2,h3⟩:=st 0 x env rfl h
  B3⟨e3,a1,a2⟩:=Zu I hI xs (n+1) fW h3 fun k y e hk hi=>by
   have:=st (k+1) y e (by simpa using hk) (by rw[show n+(k+1)=n+1+k by omega];~hi)
   rw[show n+(k+1)+1=n+1+k+1 by omega]at this
   ~this
  &⟨e3,?_,?_⟩
  ·B4 Bg
   rw[if_pos ⟨h1,hI _ _ h⟩,h2]
   ~a1
  ·rw[F0,show n+(xs.length+1)=n+1+xs.length by omega]
   ~a2
def lv(ns:List Int)(o:SD):Nat→SD
 | 0=>o
 | k+1=>.fro (.int (ns.getD k 0))
B5 kj{ns:List Int}(env':EN)(h:env[j]?=some (.own (aP ns)))(h1:env'[j]?=some (.own (aP ns)))(I:V→Nat→EN→Prop)(h0:∀v,I v 0 (env.set j (.inn v (aP ns))))(hI:∀v k env,I v k env→env[j]?=some (.inn v (aP ns)))(st:∀v k x env,ns[k]?=some x→I v k env→i<env.length∧∃fW,gb (env.set i (.fro (.int x)))=.next fW∧I v (k+1) fW)(fin:∀v fW,I v ns.length fW→fW=env'.set j (.inn v (aP ns)))(k:Qs Pr (g env')):Qs Pr (aW (Gm j i gb) g env):=by
 have:Gm j i gb env=.next env':=aCE h h1 fun v=>by
  B3⟨e2,a1,a2⟩:=Zu (i:=i) (g:=gb) (I v) (hI v) (ns.map D.int) 0 _ (h0 v) fun k x e hx hi=>by
   rw[N9]at hi ⊢
   rw[B9]at hx
   cases q:ns[k]? with
   | none=>rw[q]at hx;cases hx
   | some y=>
    rw[q]at hx
    cases hx
    ~st v k y e q hi
  rw[N9,B6]at a2
  rw[a1,fin v e2 a2]
 rw[fH this]
 ~k
B5 Eu(neg:Bool)(a:D):Jz neg a .non=some (.bl (if neg then !a.VH else a.VH)):=rfl
B5 aGG{f g:FE}{e:DE}(h:c e=some true)(h2:f e=some d):fIf c f g e=some d:=by B4 fIf;rw[h];~h2
B5 aGH{f g:FE}{e:DE}(h:c e=some false)(h2:g e=some d):fIf c f g e=some d:=by B4 fIf;rw[h];~h2
end
end L2


local macro_rules | `(tactic| walk_at "fs")=>`(tactic| ~⟨rfl,rfl,rfl,by decide +kernel,rfl,by decide +kernel,by decide +kernel⟩)
namespace Rs
open PySem L2
def top(i:Nat):Stmt:=PySem.Challenge.pw_ripestone_k28_leave.main.body.getD i (.Pass ⟨0,0,0,0⟩)
def jH:List Str:=["panes", "asked", "newest", "held", "unsettled"]
def dX:List Str:=["bench", "spots", "string", "loose", "lasts", "comings", "goings"]
abbrev Vb:Stmt:=top 33
noncomputable def WX:GS:=aW (uV (fB (f2 dLt (aD 1) (fL kO (aB (aD 0) aM)))) (gO (bO (f2 dU (aD 0) (aD 1)))) gH)
 (gO (fC (.int 0)))
noncomputable def mZ:List D→Option D:=oZ 2 2 (WX)
abbrev Nb:Stmt:=top 37
noncomputable def Zv:GS:=aW (cU 1 (cN 2 mZ (aB (aD 0) (aB (fC (.int 0)) aM))))
 (aW (uV (fB (f2 Ft (f2 gM (f2 pQ (aD 1) (fC (.int 30))) (fC (.int 8))) (fC (.int 1)))) (gO (pP (aB (f2 eU (fC (.int 1)) (f2 gM (aD 1) (fC (.int 8)))) (aB (f2 eU (fC (.int 1)) (f2 gM (f2 pQ (aD 1) (fC (.int 240))) (fC (.int 8)))) aM)))) gH)
 (gO (pP (aB (f2 eU (fC (.int 1)) (f2 gM (aD 1) (fC (.int 5)))) (aB (f2 eU (fC (.int 1)) (f2 gM (f2 pQ (aD 1) (fC (.int 5))) (fC (.int 6)))) aM)))))
noncomputable def yG:List D→Option D:=oZ 2 1 (Zv)
abbrev Nf:Stmt:=top 36
noncomputable def Zw:GS:=aW (cU 2 (f2 gM (f2 vY (f2 eU (f2 gM (aD 0) (fC (.int 2147483629))) (fC (.int 1))) (f2 eU (fC (.int 48271)) (f2 vY (f2 vY (fC (.int 2)) (aD 1)) (aD 1)))) (fC (.int 2147483629))))
 (gO (f2 gM (f2 vY (aD 2) (aD 2)) (fC (.int 2147483587))))
noncomputable def mJ:List D→Option D:=oZ 3 2 (Zw)
abbrev Hz:Stmt:=top 38
noncomputable def Vc:GS:=aW (cU 4 (cN 2 mJ (aB (aD 0) (aB (f2 vY (fC (.int 5)) (aD 1)) aM))))
 (aW (cU 5 (bO (f2 dU (kJ (aB (fC (.int 0)) (aB (fC (.int 1)) (aB (fC (.int 2)) (aB (f2 vY (cN 2 mJ (aB (aD 0) (aB (f2 eU (f2 vY (fC (.int 5)) (aD 1)) (fC (.int 1))) aM))) (f2 Jp (fC (.int 10)) (fC (.int 40)))) (aB (Cd (fC (.int 1))) aM)))))) (f2 gM (aD 4) (fC (.int 5))))))
 (aW (cU 6 (fC (.int 0)))
 (aW (uV (fB (f2 Ft (f2 gM (f2 pQ (aD 4) (fC (.int 5))) (fC (.int 2))) (fC (.int 1)))) (cU 6 (f2 eU (fC (.int 1)) (f2 gM (f2 pQ (aD 4) (fC (.int 10))) (fC (.int 9))))) gH)
 (aW (uV (fB (f2 Ft (aD 6) (fC (.int 0)))) (cU 5 (fL aFs (aB (aD 5) aM))) gH)
 (gO (pP (aB (bO (aD 2)) (aB (bO (aD 3)) (aB (bO (f2 dU (kJ (aB (Cd (fC (.int 1))) (aB (fC (.int 0)) (aB (fC (.int 5)) (aB (aD 4) aM))))) (f2 gM (f2 pQ (aD 4) (fC (.int 90))) (fC (.int 4))))) (aB (bO (aD 5)) (aB (bO (aD 6)) aM)))))))))))
noncomputable def qX:List D→Option D:=oZ 7 4 (Vc)
abbrev yH:Stmt:=top 39
noncomputable def Zx:GS:=aW (wI [1,2] (cN 1 yG (aB (aD 0) aM)))
 (aW (cU 3 (fL Kd (aB (fC (.int 1)) (aB (f2 vY (aD 1) (aD 2)) aM))))
 (aW (cU 4 (kJ (aB (fC (.int 0)) aM)))
 (aW (yC 5 (sO (aB (f2 gM (cN 2 mZ (aB (aD 0) (aB (fC (.int 1)) aM))) (f2 vY (aD 1) (aD 2))) aM)) (Ei 4 3 (f2 gM (cN 2 mJ (aB (cN 2 mZ (aB (aD 0) (aB (fC (.int 1)) aM))) (aB (aD 5) aM))) (fL kO (aB (aD 3) aM)))))
 (aW (cU 6 (gU (sO (aB (aD 1) aM)) [2] lG (gU (sO (aB (aD 1) aM)) [] lG (pP (aB (fC (.int 0)) (aB (fC (.int 0)) (aB (Cd (fC (.int 1))) (aB (Cd (fC (.int 1))) (aB (fC (.int 0)) aM)))))))))
 (aW (cU 7 (cN 2 mZ (aB (aD 0) (aB (fC (.int 2)) aM))))
 (aW (Ww [3] 8 (mW (aD 3)) (wG 6 (vd dD (f2 gM (aD 8) (aD 1))) (f2 pQ (aD 8) (aD 1)) (cN 4 qX (aB (aD 7) (aB (aD 8) (aB (f2 gM (aD 7) (f2 Jp (fC (.int 10)) (fC (.int 9)))) (aB (f2 gM (f2 vY (aD 8) (aD 8)) (f2 vY (aD 1) (aD 2))) aM)))))))
 (aW (cU 9 (f2 gM (aD 7) (f2 Jp (fC (.int 10)) (fC (.int 58)))))
 (aW (yC 5 (sO (aB (fL kO (aB (aD 4) aM)) aM)) (aW (cU 8 (bO (f2 dU (aD 4) (aD 5))))
 (aW (wG 6 (vd dD (f2 gM (aD 8) (aD 1))) (f2 pQ (aD 8) (aD 1)) (cN 4 qX (aB (aD 7) (aB (f2 eU (aD 5) (fC (.int 100))) (aB (aD 9) (aB (f2 dU (f2 eU (aD 4) (kJ (aB (fC (.int 0)) aM))) (f2 eU (aD 5) (fC (.int 1)))) aM))))))
 (cU 9 (f2 eU (f2 eU (aD 9) (fC (.int 1))) (f2 vY (f2 gM (cN 2 mJ (aB (aD 7) (aB (f2 eU (aD 5) (fC (.int 7))) aM))) (fC (.int 3))) (f2 dU (kJ (aB (fC (.int 1)) (aB (f2 Jp (fC (.int 10)) (fC (.int 40))) aM))) (f2 gM (aD 7) (fC (.int 2))))))))))
 (aW (yC 10 (sO (aB (aD 1) aM)) (zH 6 (vd dD (aD 10)) (pP (aB (f2 gM (cN 2 mJ (aB (aD 7) (aB (f2 eU (aD 10) (fC (.int 70))) aM))) (fC (.int 10))) aM))))
 (Oz 6))))))))))
noncomputable def yI:List D→Option D:=oZ 11 1 (Zx)
abbrev vG:Stmt:=inClass (top 13) 0
noncomputable def Vd(κ:Nat→Addr):GS:=aW (iW 0 (yD (κ 0) 0 dD "panes" (gU (mW (aD 1)) [] lG (fL dList (aB (aD 0) aM)))))
 (aW (iW 0 (yD (κ 0) 0 dD "asked" (kJ aM)))
 (aW (iW 0 (yD (κ 0) 0 dD "newest" (fC (.dt [] []))))
 (aW (iW 0 (yD (κ 0) 0 dD "held" (fC (.dk [] []))))
 (iW 0 (yD (κ 0) 0 dD "unsettled" (gU (mW (aD 1)) [] lG (kJ aM)))))))
noncomputable def vH(κ:Nat→Addr):List D→Option (D×D):=lQ 2 2 (Vd κ)
abbrev Ve:Stmt:=top 21
noncomputable def WY:GS:=gO (bO (f2 dU (f2 dU (aD 0) (f2 dU (aD 1) (fC (.int 0)))) (f2 dU (aD 1) (fC (.int 1)))))
noncomputable def Cy:List D→Option D:=oZ 2 2 (WY)
abbrev JT:Stmt:=top 20
noncomputable def yu:GS:=gO (pP (aB (f2 gM (aD 1) (fL kO (aB (aD 0) aM))) (aB (f2 pQ (aD 1) (fL kO (aB (aD 0) aM))) aM)))
noncomputable def zV:List D→Option D:=oZ 2 2 (yu)
abbrev Ng:Stmt:=top 22
noncomputable def Zy:GS:=gO (cN 2 Cy (aB (aD 0) (aB (cN 2 zV (aB (aD 0) (aB (aD 1) aM))) aM)))
noncomputable def nM:List D→Option D:=oZ 2 2 (Zy)
abbrev Nh:Stmt:=top 26
noncomputable def Zz:GS:=aW (cU 1 (fC (.dk [] [])))
 (aW (cU 2 (bO (f2 dU (cN 2 nM (aB (aD 0) (aB (fC (.int (0))) aM))) (fC (.int (1))))))
 (aW (qR (Hh (fB (f2 Tr (aD 2) (fC (.int (0))))) (fB (f2 (Fv true) (aD 2) (aD 1)))) (aW (pF 1 dD (aD 2) (fC (.bl true)))
 (cU 2 (bO (f2 dU (cN 2 nM (aB (aD 0) (aB (aD 2) aM))) (fC (.int (1))))))) 400)
 (gO (fL Tw (aB (aD 1) aM)))))
noncomputable def qY:List D→Option D:=oZ 3 1 (Zz)
abbrev Ib:Stmt:=top 25
noncomputable def Ie:GS:=gO (f2 vY (fL kO (aB (aD 0) aM)) (f2 Mg (fL kO (aB (f2 dU (aD 0) (fC (.int 0))) aM)) (fC (.int 1))))
noncomputable def pB:List D→Option D:=oZ 1 1 (Ie)
abbrev wL:Stmt:=top 27
noncomputable def Pg:GS:=aW (cU 1 (cN 1 qY (aB (aD 0) aM)))
 (gO (gU (Gj (aB (f2 eU (fC (.int (0))) (fC (.int 1))) (aB (cN 1 pB (aB (aD 0) aM)) aM))) [1] (fB (f2 (dIn true) (aD 0) (aD 1))) (bO (aD 0))))
noncomputable def sV:List D→Option D:=oZ 2 1 (Pg)
abbrev wM:Stmt:=inClass (top 30) 0
noncomputable def Cz(κ:Nat→Addr):GS:=aW (iW 0 (yD (κ 1) 0 dD "bench" (TV (κ 0) (vH κ) (aB (aD 1) aM))))
 (aW (iW 0 (yD (κ 1) 0 dD "spots" (gU (sO (aB (cN 1 pB (aB (aD 1) aM)) aM)) [1] lG (cN 2 zV (aB (aD 1) (aB (aD 0) aM))))))
 (aW (iW 0 (yD (κ 1) 0 dD "string" (cN 1 qY (aB (aD 1) aM))))
 (aW (iW 0 (yD (κ 1) 0 dD "loose" (cN 1 sV (aB (aD 1) aM))))
 (aW (iW 0 (yD (κ 1) 0 dD "lasts" (fC (.dk [] []))))
 (aW (iW 0 (yD (κ 1) 0 dD "comings" (fC (.dk [] []))))
 (iW 0 (yD (κ 1) 0 dD "goings" (fC (.dk [] [])))))))))
noncomputable def wN(κ:Nat→Addr):List D→Option (D×D):=lQ 2 2 (Cz κ)
abbrev Km:Stmt:=top 40
noncomputable def XC:GS:=aW (cU 1 (fL kO (aB (aD 0) aM)))
 (aW (cU 2 (gU (sO (aB (f2 vY (aD 1) (f2 Mg (fL kO (aB (f2 dU (aD 0) (fC (.int 0))) aM)) (fC (.int 1)))) aM)) [0,1] lG (bO (f2 dU (f2 dU (aD 1) (f2 gM (aD 0) (aD 2))) (f2 pQ (aD 0) (aD 2))))))
 (aW (cU 3 (kJ aM))
 (aW (cU 4 (bO (f2 dU (f2 dU (aD 2) (fC (.int 0))) (fC (.int 1)))))
 (aW (qR (fB (f2 Tr (aD 4) (fC (.int 0)))) (aW (zH 3 dD (bO (aD 4)))
 (cU 4 (bO (f2 dU (f2 dU (aD 2) (aD 4)) (fC (.int 1)))))) 400)
 (VP [.inr "recs", .inr "order", .inr "ins", .inr "outs", .inr "lasts", .inr "due", .inr "panes"] [2,3] (aB (fC (.dk [] [])) (aB (fC (.dk [] [])) (aB (fC (.dk [] [])) (aB (kJ aM) (aB (bO (aD 1)) aM))))))))))
noncomputable def Dc:List D→Option D:=oZ 5 1 (XC)
abbrev xM:Stmt:=inClass (top 13) 10
noncomputable def Xd(κ:Nat→Addr):GS:=gO (fL dList (aB (tL (fO (κ 0) "asked") (aD 0)) aM))
noncomputable def rW(κ:Nat→Addr):List D→Option D:=nW 1 1 (Xd κ)
abbrev Ig:Stmt:=top 32
noncomputable def Vf:GS:=aW (cU 1 (f2 gM (f2 vY (f2 eU (f2 gM (aD 0) (fC (.int 2147483629))) (fC (.int 1))) (fC (.int 48271))) (fC (.int 2147483629))))
 (gO (f2 eU (f2 gM (f2 vY (aD 1) (aD 1)) (fC (.int 2147483587))) (f2 vY (f2 gM (aD 0) (f2 Jp (fC (.int 10)) (fC (.int 50)))) (fC (.int 2147483587)))))
noncomputable def nC:List D→Option D:=oZ 2 1 (Vf)
abbrev tO:Stmt:=inClass (top 13) 1
noncomputable def Ba(κ:Nat→Addr):GS:=uV (xY (aAP dLe dLt (fC (.int 0)) (aD 1) (fL kO (aB (tL (fO (κ 0) "panes") (aD 0)) aM)))) aCy gH
noncomputable def jQ(κ:Nat→Addr):List D→Option D:=nW 2 2 (Ba κ)
abbrev zW:Stmt:=top 6
noncomputable def Vg:GS:=aW (cU 3 (fC (.dk [] [])))
 (aW (Ww [] 4 (mW (aD 2)) (uV (fB (fL iz (aB (gU (mW (f2 dU (f2 dU (aD 0) (aD 4)) (fC (.int (3))))) [1,3] lG (Wu (f2 (Fv false) (aD 0) (aD 1)) (f2 (Fv false) (aD 0) (aD 2)))) aM))) (pF 3 dD (aD 4) (fC (.bl true))) gH))
 (gO (fL Tw (aB (aD 3) aM))))
noncomputable def vI:List D→Option D:=oZ 5 3 (Vg)
abbrev zX:Stmt:=inClass (top 13) 6
noncomputable def Ko(κ:Nat→Addr):GS:=aW (cU 2 (bO (f2 dU (tL (fO (κ 0) "asked") (aD 0)) (aD 1))))
 (aW (iW 0 (wG 0 (vd (Ce (κ 0) "panes" dD) (f2 dU (aD 2) (fC (.int (0))))) (f2 dU (aD 2) (fC (.int (1)))) (bO (f2 dU (aD 2) (fC (.int (2)))))))
 (iW 0 (pF 0 (Ce (κ 0) "held" dD) (aD 1) (fC (.bl true)))))
noncomputable def uF(κ:Nat→Addr):List D→Option (D×D):=lQ 3 2 (Ko κ)
abbrev wO:Stmt:=inClass (top 13) 7
noncomputable def Ph(κ:Nat→Addr):GS:=aW (xZ (gJ (κ 0) "check_pane" 2 (jQ κ) (aD 0) (aB (aD 1) aM) []))
 (aW (cU 3 (cN 3 vI (aB (tL (fO (κ 0) "asked") (aD 0)) (aB (tL (fO (κ 0) "held") (aD 0)) (aB (f2 dU (tL (fO (κ 0) "unsettled") (aD 0)) (aD 1)) aM)))))
 (aW (uV (fB (f2 (Jz true) (aD 2) (fC .non))) (cU 3 (fSl true (aD 3) (jb) (tK (fL RL (aB (aD 2) (aB (fC (.int 0)) aM)))))) gH)
 (aW (Gm 3 4 (zJ (pW (κ 0) "strike" 0 dD (uF κ) (fun eF eZ=>((qO (aD 4) iY) eF eZ).map (·++[])))))
 (aW (iW 0 (wG 0 (Ce (κ 0) "unsettled" dD) (aD 1) (gU (mW (f2 dU (tL (fO (κ 0) "unsettled") (aD 0)) (aD 1))) [0] (fB (f2 (Fv true) (aD 0) (tL (fO (κ 0) "held") (aD 1)))) (bO (aD 0)))))
 (tM 3)))))
noncomputable def wQ(κ:Nat→Addr):List D→Option (D×D):=lQ 5 3 (Ph κ)
abbrev tQ:Stmt:=inClass (top 30) 5
noncomputable def Qo(κ:Nat→Addr):GS:=gO (f2 vA (tL (fO (κ 1) "comings") (aD 0)) (aD 1))
noncomputable def jR(κ:Nat→Addr):List D→Option D:=nW 2 2 (Qo κ)
abbrev tR:Stmt:=inClass (top 30) 6
noncomputable def Qp(κ:Nat→Addr):GS:=gO (f2 vA (tL (fO (κ 1) "goings") (aD 0)) (aD 1))
noncomputable def jT(κ:Nat→Addr):List D→Option D:=nW 2 2 (Qp κ)
abbrev qF:Stmt:=inClass (top 30) 7
noncomputable def Kq(κ:Nat→Addr):GS:=gO (f2 vA (tL (fO (κ 1) "lasts") (aD 0)) (aD 1))
noncomputable def iJ(κ:Nat→Addr):List D→Option D:=nW 2 2 (Kq κ)
abbrev qZ:Stmt:=inClass (top 13) 2
noncomputable def yJ(κ:Nat→Addr):GS:=aW (xZ (gJ (κ 0) "check_pane" 2 (jQ κ) (aD 0) (aB (aD 1) aM) []))
 (uV (xY (aAP dLe dLt (fC (.int 0)) (aD 2) (fL kO (aB (f2 dU (tL (fO (κ 0) "panes") (aD 0)) (aD 1)) aM)))) aCy gH)
noncomputable def jA(κ:Nat→Addr):List D→Option D:=nW 3 3 (yJ κ)
abbrev Ih:Stmt:=inClass (top 13) 5
noncomputable def Vh(κ:Nat→Addr):GS:=aW (xZ (gJ (κ 0) "check_place" 3 (jA κ) (aD 0) (aB (aD 1) (aB (aD 2) aM)) []))
 (aW (uV (fB (Wz false (Mv (aB (aD 1) (aB (aD 2) aM))) (tL (fO (κ 0) "newest") (aD 0)))) (gO (bO (f2 dU (f2 dU (tL (fO (κ 0) "asked") (aD 0)) (Uk (tL (fO (κ 0) "newest") (aD 0)) (Mv (aB (aD 1) (aB (aD 2) aM))))) (fC (.int (2)))))) gH)
 (gO (bO (f2 dU (f2 dU (tL (fO (κ 0) "panes") (aD 0)) (aD 1)) (aD 2)))))
noncomputable def vJ(κ:Nat→Addr):List D→Option D:=nW 3 3 (Vh κ)
abbrev tU:Stmt:=inClass (top 30) 1
noncomputable def Bb(κ:Nat→Addr):GS:=aW (cU 2 (bO (f2 dU (tL (fO (κ 1) "spots") (aD 0)) (aD 1))))
 (gO (gJ (κ 0) "seen" 3 (vJ κ) (tL (fO (κ 1) "bench") (aD 0)) (aB (f2 dU (aD 2) (fC (.int 0))) (aB (f2 dU (aD 2) (fC (.int 1))) aM)) []))
noncomputable def bV(κ:Nat→Addr):List D→Option D:=nW 3 2 (Bb κ)
abbrev Ni:Stmt:=top 34
noncomputable def aAZ:GS:=gO (Ax (Wy "int" (aD 0)) (RB (Wy "bool" (aD 0))))
noncomputable def gQ:List D→Option D:=oZ 1 1 (aAZ)
abbrev Ew:Stmt:=top 50
noncomputable def BJ(κ:Nat→Addr):GS:=aW (cU 3 (kJ (aB (gJ (κ 1) "coming_in" 2 (jR κ) (aD 0) (aB (aD 2) aM) []) (aB (gJ (κ 1) "going_out" 2 (jT κ) (aD 0) (aB (aD 2) aM) []) (aB (gJ (κ 1) "last_change" 2 (iJ κ) (aD 0) (aB (aD 2) aM) []) aM)))))
 (aW (uV (xY (fB (fL iz (aB (gU (mW (aD 3)) [] lG (Wu (f2 (Jz false) (aD 0) (fC .non)) (cN 1 gQ (aB (aD 0) aM)))) aM)))) (gO (fC (.bl false))) gH)
 (aW (uV (fB (f2 Tr (aD 3) (kJ (aB (f2 vA (f2 jD (aD 1) (fC (.str "ins"))) (aD 2)) (aB (f2 vA (f2 jD (aD 1) (fC (.str "outs"))) (aD 2)) (aB (f2 vA (f2 jD (aD 1) (fC (.str "lasts"))) (aD 2)) aM)))))) (gO (fC (.bl false))) gH)
 (gO (f2 Ft (gJ (κ 1) "record_of" 2 (bV κ) (aD 0) (aB (aD 2) aM) []) (f2 dU (f2 jD (aD 1) (fC (.str "recs"))) (aD 2))))))
noncomputable def pI(κ:Nat→Addr):List D→Option D:=oZ 4 3 (BJ κ)
abbrev Dd:Stmt:=top 47
noncomputable def Pj:GS:=aW (cU 2 (kJ aM))
 (aW (uV (fB (f2 dGt (aD 1) (fC (.int 0)))) (aW (cU 3 (f2 pQ (aD 0) (fC (.int 3))))
 (yC 4 (sO (aB (f2 gM (aD 0) (fC (.int 3))) aM)) (aW (zH 2 dD (f2 gM (aD 3) (aD 1)))
 (cU 3 (f2 pQ (aD 3) (aD 1)))))) gH)
 (Oz 2))
noncomputable def sW:List D→Option D:=oZ 5 2 (Pj)
abbrev wR:Stmt:=top 41
noncomputable def Pk:GS:=aW (cU 4 (fL kO (aB (f2 jD (aD 0) (fC (.str "due"))) aM)))
 (aW (cU 5 (gU (mW (f2 eU (aD 3) (kJ (aB (f2 vA (f2 jD (aD 0) (fC (.str "lasts"))) (aD 1)) aM)))) [] (fB (f2 (Jz true) (aD 0) (fC .non))) (bO (aD 0))))
 (aW (iW 0 (zH 0 (JF dD (fC (.str "due"))) (pP (aB (f2 gM (aD 1) (f2 jD (aD 0) (fC (.str "panes")))) (aB (f2 pQ (aD 1) (f2 jD (aD 0) (fC (.str "panes")))) (aB (bO (aD 2)) (aB (fL Mm (aB (tL SQ (aD 5)) aM)) aM)))))))
 (aW (iW 0 (wG 0 (JF dD (fC (.str "recs"))) (aD 1) (bO (aD 2))))
 (aW (iW 0 (pF 0 (JF dD (fC (.str "lasts"))) (aD 1) (aD 4)))
 (tM 4)))))
noncomputable def lX:List D→Option (D×D):=lQ 6 4 (Pk)
abbrev De:Stmt:=top 43
noncomputable def Pn:GS:=aW (cU 4 (bO (f2 dU (f2 jD (aD 0) (fC (.str "recs"))) (aD 1))))
 (pY (Qk 0 lX (qO (aD 1) (qO (pP (aB (bO (f2 dU (aD 4) (fC (.int 0)))) (aB (bO (aD 2)) (aB (bO (f2 dU (aD 4) (fC (.int 2)))) (aB (bO (f2 dU (aD 4) (fC (.int 3)))) (aB (bO (f2 dU (aD 4) (fC (.int 4)))) aM)))))) (faN (f2 eU (aD 3) (kJ (aB (f2 vA (f2 jD (aD 0) (fC (.str "ins"))) (aD 1)) aM))) iY)))))
noncomputable def nD:List D→Option (D×D):=lQ 5 4 (Pn)
abbrev Vi:Stmt:=top 45
noncomputable def XD:GS:=aW (cU 3 (bO (f2 dU (f2 jD (aD 0) (fC (.str "order"))) (aD 1))))
 (aW (cU 4 (bO (f2 dU (f2 eU (kJ (aB (fC (.int 0)) aM)) (f2 jD (aD 0) (fC (.str "order")))) (aD 1))))
 (aW (tX 5 (Qk 0 nD (qO (aD 4) (faN (bO (f2 dU (f2 dU (f2 jD (aD 0) (fC (.str "recs"))) (aD 3)) (fC (.int 1)))) (faN (f2 eU (kJ (aB (f2 vA (f2 jD (aD 0) (fC (.str "lasts"))) (aD 3)) aM)) (aD 2)) iY)))))
 (aW (iW 0 (pF 0 (JF dD (fC (.str "outs"))) (aD 3) (aD 5)))
 (aW (iW 0 (Ze 0 (JF dD (fC (.str "order"))) (aD 1)))
 (tM 5)))))
noncomputable def Kr:List D→Option (D×D):=lQ 6 3 (XD)
abbrev tV:Stmt:=inClass (top 30) 9
noncomputable def Qq(κ:Nat→Addr):GS:=gO (bO (f2 dU (f2 eU (kJ (aB (fC (.int (0))) aM)) (tL (fO (κ 1) "string") (aD 0))) (aD 1)))
noncomputable def jU(κ:Nat→Addr):List D→Option D:=nW 2 2 (Qq κ)
abbrev qG:Stmt:=inClass (top 13) 3
noncomputable def wU(κ:Nat→Addr):GS:=uV (xY (aAP dLe dLt (fC (.int 0)) (aD 1) (fL kO (aB (tL (fO (κ 0) "asked") (aD 0)) aM)))) aCy gH
noncomputable def eG(κ:Nat→Addr):List D→Option D:=nW 2 2 (wU κ)
abbrev Nj:Stmt:=inClass (top 13) 4
noncomputable def BK(κ:Nat→Addr):GS:=aW (xZ (gJ (κ 0) "check_place" 3 (jA κ) (aD 0) (aB (aD 1) (aB (aD 2) aM)) []))
 (aW (cU 5 (fIf (fB (f2 (Jz false) (aD 4) (fC .non))) (kJ aM) (fL dList (aB (aD 4) aM))))
 (aW (Gm 5 6 (xZ (gJ (κ 0) "check_change" 2 (eG κ) (aD 0) (aB (aD 6) aM) [])))
 (aW (uV (fB (Wz false (Mv (aB (aD 1) (aB (aD 2) aM))) (tL (fO (κ 0) "newest") (aD 0)))) (zH 5 dD (Uk (tL (fO (κ 0) "newest") (aD 0)) (Mv (aB (aD 1) (aB (aD 2) aM))))) gH)
 (aW (cU 7 (fL kO (aB (tL (fO (κ 0) "asked") (aD 0)) aM)))
 (aW (iW 0 (zH 0 (Ce (κ 0) "asked" dD) (pP (aB (bO (aD 1)) (aB (bO (aD 2)) (aB (bO (aD 3)) (aB (fL Mm (aB (tL SQ (aD 5)) aM)) aM)))))))
 (aW (iW 0 (Yz 0 (Ce (κ 0) "newest" dD) (Mv (aB (aD 1) (aB (aD 2) aM))) (aD 7)))
 (aW (iW 0 (zH 0 (vd (Ce (κ 0) "unsettled" dD) (aD 1)) (bO (aD 7))))
 (tM 7))))))))
noncomputable def Ex(κ:Nat→Addr):List D→Option (D×D):=lQ 8 5 (BK κ)
abbrev JV:Stmt:=top 29
noncomputable def aIf:GS:=gO (gU (mW (aD 0)) [] (fB (f2 (Jz true) (aD 0) (fC .non))) (bO (aD 0)))
noncomputable def JW:List D→Option D:=oZ 1 1 (aIf)
abbrev zY:Stmt:=inClass (top 30) 10
noncomputable def Ks(κ:Nat→Addr):GS:=aW (cU 4 (bO (f2 dU (tL (fO (κ 1) "spots") (aD 0)) (aD 1))))
 (aW (tX 5 (pW (κ 0) "put" 0 (Ce (κ 1) "bench" dD) (Ex κ) (fun eF eZ=>((qO (f2 dU (aD 4) (fC (.int 0))) (qO (f2 dU (aD 4) (fC (.int 1))) (qO (aD 2) (qO (cN 1 JW (aB (aD 3) aM)) iY)))) eF eZ).map (·++[]))))
 (aW (iW 0 (pF 0 (Ce (κ 1) "lasts" dD) (aD 1) (aD 5)))
 (tM 5)))
noncomputable def nO(κ:Nat→Addr):List D→Option (D×D):=lQ 6 4 (Ks κ)
abbrev rA:Stmt:=inClass (top 30) 11
noncomputable def yK(κ:Nat→Addr):GS:=pY (pW (κ 1) "write" 0 dD (nO κ) (fun eF eZ=>((qO (aD 1) (qO (aD 2) (faN (f2 eU (kJ (aB (gJ (κ 1) "coming_in" 2 (jR κ) (aD 0) (aB (aD 1) aM) []) aM)) (aD 3)) iY))) eF eZ).map (·++[])))
noncomputable def gR(κ:Nat→Addr):List D→Option (D×D):=lQ 4 4 (yK κ)
abbrev Df:Stmt:=inClass (top 30) 12
noncomputable def Pq(κ:Nat→Addr):GS:=aW (cU 4 (gJ (κ 1) "record_of" 2 (bV κ) (aD 0) (aB (aD 1) aM) []))
 (pY (pW (κ 1) "write_tied" 0 dD (gR κ) (fun eF eZ=>((qO (aD 1) (qO (pP (aB (bO (f2 dU (aD 4) (fC (.int (0))))) (aB (bO (aD 2)) (aB (bO (f2 dU (aD 4) (fC (.int (2))))) (aB (bO (f2 dU (aD 4) (fC (.int (3))))) (aB (bO (f2 dU (aD 4) (fC (.int (4))))) aM)))))) (qO (aD 3) iY))) eF eZ).map (·++[]))))
noncomputable def nF(κ:Nat→Addr):List D→Option (D×D):=lQ 5 4 (Pq κ)
abbrev oF:Stmt:=inClass (top 30) 8
noncomputable def tZ(κ:Nat→Addr):GS:=aW (cU 2 (fIf (fB (f2 (Jz false) (aD 1) (fC .non))) (kJ aM) (fL dList (aB (aD 1) aM))))
 (aW (Gm 2 3 (xZ (gJ (κ 0) "check_change" 2 (eG κ) (tL (fO (κ 1) "bench") (aD 0)) (aB (aD 3) aM) [])))
 (Oz 2))
noncomputable def cJ(κ:Nat→Addr):List D→Option D:=nW 4 2 (tZ κ)
abbrev zZ:Stmt:=inClass (top 30) 15
noncomputable def Ku(κ:Nat→Addr):GS:=aW (cU 3 (gJ (κ 1) "box_ahead" 2 (jU κ) (aD 0) (aB (f2 Uo (tL (fO (κ 1) "string") (aD 0)) (aD 1)) aM) []))
 (aW (cU 4 (f2 eU (kJ (aB (gJ (κ 1) "last_change" 2 (iJ κ) (aD 0) (aB (aD 1) aM) []) aM)) (gJ (κ 1) "further_needs" 2 (cJ κ) (aD 0) (aB (aD 2) aM) [])))
 (aW (tX 5 (pW (κ 1) "link" 0 dD (nF κ) (fun eF eZ=>((qO (aD 3) (faN (bO (f2 dU (gJ (κ 1) "record_of" 2 (bV κ) (aD 0) (aB (aD 1) aM) []) (fC (.int (1))))) (qO (aD 4) iY))) eF eZ).map (·++[]))))
 (aW (iW 0 (jt 0 (Ce (κ 1) "string" dD) (aD 1)))
 (aW (iW 0 (zH 0 (Ce (κ 1) "loose" dD) (bO (aD 1))))
 (aW (iW 0 (pF 0 (Ce (κ 1) "goings" dD) (aD 1) (aD 5)))
 (tM 5))))))
noncomputable def nP(κ:Nat→Addr):List D→Option (D×D):=lQ 6 3 (Ku κ)
abbrev Nk:Stmt:=top 51
noncomputable def BL(κ:Nat→Addr):GS:=aW (cU 4 (fL dList (aB (aD 2) aM)))
 (aW (uV (Hh (fB (f2 Ft (aD 4) (kJ aM))) (fB (f2 Ft (aD 3) (fC (.int 0))))) (pY (pW (κ 1) "leave" 0 dD (nP κ) (fun eF eZ=>((qO (aD 1) iY) eF eZ).map (·++[.non])))) gH)
 (aW (tX 5 (pW (κ 1) "leave" 0 dD (nP κ) (fun eF eZ=>((qO (aD 1) (qO (aD 4) iY)) eF eZ).map (·++[]))))
 (aW (uV (fB (f2 Tr (aD 4) (aD 2))) (pY (gmN (fC .non))) gH)
 (aW (zH 4 dD (fC (.int 0)))
 (tM 5)))))
noncomputable def Ey(κ:Nat→Addr):List D→Option (D×D):=lQ 6 4 (BL κ)
abbrev Aa:Stmt:=top 48
noncomputable def Vj:GS:=aW (uV (fOr (xY (fB (Wy "tuple" (aD 0)))) (fOr (fB (f2 Tr (fL kO (aB (aD 0) aM)) (fC (.int 4)))) (fOr (xY (fB (cN 1 gQ (aB (f2 dU (aD 0) (fC (.int 0))) aM)))) (xY (fB (cN 1 gQ (aB (f2 dU (aD 0) (fC (.int 1))) aM))))))) (gO (fC (.bl false))) gH)
 (aW (uV (fOr (xY (fB (Wy "tuple" (f2 dU (aD 0) (fC (.int 2)))))) (xY (fB (Wy "tuple" (f2 dU (aD 0) (fC (.int 3))))))) (gO (fC (.bl false))) gH)
 (gO (Ax (fL iz (aB (gU (mW (f2 Yu (f2 dU (aD 0) (fC (.int 2))) (f2 dU (aD 0) (fC (.int 3))))) [] lG (cN 1 gQ (aB (aD 0) aM))) aM)) (f2 Ft (aD 0) (aD 1)))))
noncomputable def vK:List D→Option D:=oZ 2 2 (Vj)
abbrev wV:Stmt:=top 35
noncomputable def XF:GS:=gO (Ax (Wy "list" (aD 0)) (fL iz (aB (gU (mW (aD 0)) [] lG (cN 1 gQ (aB (aD 0) aM))) aM)))
noncomputable def sX:List D→Option D:=oZ 1 1 (XF)
abbrev Ab:Stmt:=inClass (top 30) 2
noncomputable def JX(κ:Nat→Addr):GS:=gO (fL dList (aB (tL (fO (κ 1) "string") (aD 0)) aM))
noncomputable def qH(κ:Nat→Addr):List D→Option D:=nW 1 1 (JX κ)
abbrev Dg:Stmt:=inClass (top 30) 3
noncomputable def XH(κ:Nat→Addr):GS:=gO (fL Rb (aB (tL (fO (κ 1) "loose") (aD 0)) aM))
noncomputable def sY(κ:Nat→Addr):List D→Option D:=nW 1 1 (XH κ)
abbrev Kv:Stmt:=top 42
noncomputable def XQ:GS:=aW (cU 1 (fC (.dk [] [])))
 (aW (Ww [] 2 (mW (f2 jD (aD 0) (fC (.str "order")))) (pF 1 dD (aD 2) (fC (.bl true))))
 (gO (gU (Gj (aB (fC (.int 1)) (aB (fL kO (aB (f2 jD (aD 0) (fC (.str "recs"))) aM)) aM))) [1] (fB (f2 (Fv true) (aD 0) (aD 1))) (bO (aD 0)))))
noncomputable def qI:List D→Option D:=oZ 3 1 (XQ)
abbrev Ac:Stmt:=inClass (top 13) 9
noncomputable def Kw(κ:Nat→Addr):GS:=aW (xZ (gJ (κ 0) "check_change" 2 (eG κ) (aD 0) (aB (aD 1) aM) []))
 (gO (bO (f2 dU (tL (fO (κ 0) "asked") (aD 0)) (aD 1))))
noncomputable def uG(κ:Nat→Addr):List D→Option D:=nW 2 2 (Kw κ)
abbrev Vk:Stmt:=top 49
noncomputable def XS(κ:Nat→Addr):GS:=aW (yC 3 (Gj (aB (aD 2) (aB (fL kO (aB (f2 jD (aD 1) (fC (.str "due"))) aM)) aM))) (uV (xY (fB (cN 2 vK (aB (gJ (κ 0) "change" 2 (uG κ) (tL (fO (κ 1) "bench") (aD 0)) (aB (aD 3) aM) []) (aB (f2 dU (f2 jD (aD 1) (fC (.str "due"))) (aD 3)) aM))))) (gO (fC (.bl false))) gH))
 (aW (uV (fOr (xY (fB (cN 1 sX (aB (gJ (κ 1) "order" 1 (qH κ) (aD 0) aM []) aM)))) (xY (fB (cN 1 sX (aB (gJ (κ 1) "free" 1 (sY κ) (aD 0) aM []) aM))))) (gO (fC (.bl false))) gH)
 (gO (Ax (f2 Ft (gJ (κ 1) "order" 1 (qH κ) (aD 0) aM []) (f2 jD (aD 1) (fC (.str "order")))) (f2 Ft (gJ (κ 1) "free" 1 (sY κ) (aD 0) aM []) (cN 1 qI (aB (aD 1) aM))))))
noncomputable def vL(κ:Nat→Addr):List D→Option D:=oZ 4 3 (XS κ)
abbrev Vl:Stmt:=top 52
noncomputable def Vm(κ:Nat→Addr):GS:=aW (cU 3 (fL kO (aB (f2 jD (aD 1) (fC (.str "due"))) aM)))
 (aW (cU 4 (f2 gM (aD 2) (fL kO (aB (f2 jD (aD 1) (fC (.str "order"))) aM))))
 (aW (cU 5 (f2 pQ (aD 2) (fL kO (aB (f2 jD (aD 1) (fC (.str "order"))) aM))))
 (aW (cU 6 (bO (f2 dU (f2 jD (aD 1) (fC (.str "order"))) (aD 4))))
 (aW (cU 7 (bO (f2 dU (f2 eU (kJ (aB (fC (.int 0)) aM)) (f2 jD (aD 1) (fC (.str "order")))) (aD 4))))
 (aW (cU 8 (cN 2 sW (aB (f2 pQ (aD 5) (fC (.int 2))) (aB (aD 3) aM))))
 (aW (tX 9 (Qk 1 Kr (qO (aD 4) (qO (aD 8) iY))))
 (aW (tX 10 (Qk 0 (Ey κ) (qO (aD 6) (qO (aD 8) (qO (f2 gM (aD 5) (fC (.int 2))) iY)))))
 (aW (uV (fOr (xY (fB (cN 1 gQ (aB (aD 10) aM)))) (fOr (fB (f2 Tr (aD 10) (aD 9))) (xY (fB (cN 3 (vL κ) (aB (aD 0) (aB (aD 1) (aB (aD 3) aM)))))))) (pY (gmN (fC (.bl false)))) gH)
 (pY (gmN (Ax (cN 3 (pI κ) (aB (aD 0) (aB (aD 1) (aB (aD 6) aM)))) (cN 3 (pI κ) (aB (aD 0) (aB (aD 1) (aB (aD 7) aM)))))))))))))))
noncomputable def Dh(κ:Nat→Addr):List D→Option (D×List D):=Pa 11 [true,true,false] (Vm κ)
abbrev vM:Stmt:=inClass (top 30) 14
noncomputable def Di(κ:Nat→Addr):GS:=aW (cU 6 (gJ (κ 1) "record_of" 2 (bV κ) (aD 0) (aB (aD 1) aM) []))
 (pY (pW (κ 1) "write_tied" 0 dD (gR κ) (fun eF eZ=>((qO (aD 1) (qO (pP (aB (bO (f2 dU (aD 6) (fC (.int (0))))) (aB (bO (f2 dU (aD 6) (fC (.int (1))))) (aB (bO (aD 2)) (aB (bO (aD 3)) (aB (bO (aD 4)) aM)))))) (faN (gJ (κ 1) "further_needs" 2 (cJ κ) (aD 0) (aB (aD 5) aM) []) iY))) eF eZ).map (·++[]))))
noncomputable def qJ(κ:Nat→Addr):List D→Option (D×D):=lQ 7 6 (Di κ)
abbrev Ro:Stmt:=top 46
noncomputable def yw:GS:=aW (cU 3 (gU (mW (f2 jD (aD 0) (fC (.str "order")))) [0] lG (bO (f2 dU (f2 dU (f2 jD (aD 1) (fC (.str "recs"))) (aD 0)) (fC (.int 0))))))
 (aW (uV (fB (f2 Ft (aD 3) (kJ aM))) (gO (pP (aB (f2 gM (aD 2) (f2 Jp (fC (.int 10)) (fC (.int 58)))) (aB (fC (.int 0)) aM)))) gH)
 (aW (uV (fB (f2 Ft (aD 1) (fC (.int 0)))) (gO (pP (aB (f2 Mg (f2 Mg (f2 dU (aD 3) (fC (.int 0))) (fC (.int 1))) (f2 gM (aD 2) (f2 Jp (fC (.int 10)) (fC (.int 50))))) (aB (fC (.int 0)) aM)))) gH)
 (aW (uV (Hh (fB (f2 dLt (aD 1) (fL kO (aB (aD 3) aM)))) (fB (f2 dGt (f2 Mg (f2 dU (aD 3) (aD 1)) (f2 dU (aD 3) (f2 Mg (aD 1) (fC (.int 1))))) (fC (.int 1))))) (gO (pP (aB (f2 eU (f2 eU (f2 dU (aD 3) (f2 Mg (aD 1) (fC (.int 1)))) (fC (.int 1))) (f2 gM (aD 2) (f2 Mg (f2 Mg (f2 dU (aD 3) (aD 1)) (f2 dU (aD 3) (f2 Mg (aD 1) (fC (.int 1))))) (fC (.int 1))))) (aB (bO (aD 1)) aM)))) gH)
 (gO (pP (aB (f2 eU (f2 eU (f2 dU (aD 3) (Cd (fC (.int 1)))) (fC (.int 1))) (f2 gM (aD 2) (f2 Jp (fC (.int 10)) (fC (.int 50))))) (aB (fL kO (aB (aD 3) aM)) aM)))))))
noncomputable def Ky:List D→Option D:=oZ 4 3 (yw)
abbrev Dj:Stmt:=top 44
noncomputable def Pu:GS:=aW (cU 4 (bO (f2 dU (cN 1 qI (aB (aD 0) aM)) (fC (.int 0)))))
 (aW (cU 5 (bO (f2 dU (f2 eU (kJ (aB (fC (.int 0)) aM)) (f2 jD (aD 0) (fC (.str "order")))) (aD 1))))
 (aW (cU 6 (pP (aB (bO (f2 dU (aD 2) (fC (.int 0)))) (aB (bO (f2 dU (f2 dU (f2 jD (aD 0) (fC (.str "recs"))) (aD 5)) (fC (.int 1)))) (aB (bO (f2 dU (aD 2) (fC (.int 1)))) (aB (bO (f2 dU (aD 2) (fC (.int 2)))) (aB (bO (f2 dU (aD 2) (fC (.int 3)))) aM)))))))
 (aW (tX 7 (Qk 0 lX (qO (aD 4) (qO (aD 6) (faN (kJ (aB (f2 vA (f2 jD (aD 0) (fC (.str "outs"))) (aD 4)) aM)) iY)))))
 (aW (tX 8 (Qk 0 nD (qO (aD 5) (qO (aD 4) (qO (f2 eU (kJ (aB (aD 7) aM)) (aD 3)) iY)))))
 (aW (iW 0 (pF 0 (JF dD (fC (.str "ins"))) (aD 4) (aD 8)))
 (aW (iW 0 (jr 0 (JF dD (fC (.str "order"))) (aD 1) (aD 4)))
 (pY (gmN (pP (aB (bO (aD 4)) (aB (bO (aD 8)) aM)))))))))))
noncomputable def wW:List D→Option (D×D):=lQ 9 4 (Pu)
abbrev uH:Stmt:=inClass (top 30) 13
noncomputable def Kz(κ:Nat→Addr):GS:=aW (uV (fB (f2 Ft (fL kO (aB (tL (fO (κ 1) "loose") (aD 0)) aM)) (fC (.int 0)))) aCy gH)
 (aW (cU 6 (gJ (κ 1) "further_needs" 2 (cJ κ) (aD 0) (aB (aD 5) aM) []))
 (aW (cU 7 (fL kO (aB (gU (mW (tL (fO (κ 1) "string") (aD 0))) [0,1] (fB (f2 dLt (f2 dU (gJ (κ 1) "record_of" 2 (bV κ) (aD 1) (aB (aD 0) aM) []) (fC (.int (0)))) (aD 2))) (bO (aD 0))) aM)))
 (aW (cU 8 (gJ (κ 1) "box_ahead" 2 (jU κ) (aD 0) (aB (aD 7) aM) []))
 (aW (cU 9 (fL uw (aB (tL (fO (κ 1) "loose") (aD 0)) aM)))
 (aW (tX 10 (pW (κ 1) "write" 0 dD (nO κ) (fun eF eZ=>((qO (aD 9) (faN (pP (aB (bO (aD 1)) (aB (bO (f2 dU (gJ (κ 1) "record_of" 2 (bV κ) (aD 0) (aB (aD 8) aM) []) (fC (.int (1))))) (aB (bO (aD 2)) (aB (bO (aD 3)) (aB (bO (aD 4)) aM)))))) (faN (kJ (aB (gJ (κ 1) "going_out" 2 (jT κ) (aD 0) (aB (aD 9) aM) []) aM)) iY))) eF eZ).map (·++[]))))
 (aW (tX 11 (pW (κ 1) "link" 0 dD (nF κ) (fun eF eZ=>((qO (aD 8) (qO (aD 9) (qO (f2 eU (kJ (aB (aD 10) aM)) (aD 6)) iY))) eF eZ).map (·++[]))))
 (aW (iW 0 (jr 0 (Ce (κ 1) "string" dD) (aD 7) (aD 9)))
 (aW (iW 0 (jt 0 (Ce (κ 1) "loose" dD) (aD 9)))
 (aW (iW 0 (pF 0 (Ce (κ 1) "comings" dD) (aD 9) (aD 11)))
 (pY (gmN (pP (aB (bO (aD 9)) (aB (bO (aD 11)) aM))))))))))))))
noncomputable def qK(κ:Nat→Addr):List D→Option (D×D):=lQ 12 6 (Kz κ)
abbrev Nm:Stmt:=top 53
noncomputable def rB(κ:Nat→Addr):GS:=aW (cU 3 (fL kO (aB (f2 jD (aD 1) (fC (.str "due"))) aM)))
 (aW (uV (Hh (fB (f2 Ft (f2 gM (aD 2) (fC (.int 3))) (fC (.int 0)))) (fB (f2 Tr (f2 jD (aD 1) (fC (.str "order"))) (kJ aM)))) (aW (cU 4 (bO (f2 dU (f2 jD (aD 1) (fC (.str "order"))) (f2 gM (f2 pQ (aD 2) (fC (.int 3))) (fL kO (aB (f2 jD (aD 1) (fC (.str "order"))) aM))))))
 (aW (cU 5 (bO (f2 dU (f2 jD (aD 1) (fC (.str "recs"))) (aD 4))))
 (aW (zJ (Qk 1 lX (qO (aD 4) (qO (pP (aB (bO (f2 dU (aD 5) (fC (.int 0)))) (aB (bO (f2 dU (aD 5) (fC (.int 1)))) (aB (Cd (fC (.int 1))) (aB (f2 gM (aD 2) (fC (.int 5))) (aB (fC (.int 0)) aM)))))) (faN (kJ (aB (f2 vA (f2 jD (aD 1) (fC (.str "ins"))) (aD 4)) aM)) iY)))))
 (zJ (pW (κ 1) "rewrite" 0 dD (qJ κ) (fun eF eZ=>((qO (aD 4) (qO (Cd (fC (.int 1))) (qO (f2 gM (aD 2) (fC (.int 5))) (qO (fC (.int 0)) iY)))) eF eZ).map (·++[.non]))))))) (uV (fB (f2 Tr (cN 1 qI (aB (aD 1) aM)) (kJ aM))) (aW (wI [6,7] (cN 3 Ky (aB (aD 1) (aB (f2 gM (aD 2) (f2 eU (fL kO (aB (f2 jD (aD 1) (fC (.str "order"))) aM)) (fC (.int 1)))) (aB (f2 pQ (aD 2) (fC (.int 5))) aM)))))
 (aW (tX 8 (Qk 1 wW (qO (aD 7) (qO (pP (aB (bO (aD 6)) (aB (Cd (fC (.int 1))) (aB (f2 gM (aD 2) (fC (.int 7))) (aB (fC (.int 0)) aM))))) (qO (kJ aM) iY)))))
 (TY (gbV (aCA Tr (pW (κ 1) "enter" 0 dD (qK κ) (fun eF eZ=>((qO (aD 6) (qO (Cd (fC (.int 1))) (qO (f2 gM (aD 2) (fC (.int 7))) (qO (fC (.int 0)) iY)))) eF eZ).map (·++[.non]))) (aD 8))) (pY (gmN (fC (.bl false)))) gH))) gH))
 (pY (gmN (cN 3 (vL κ) (aB (aD 0) (aB (aD 1) (aB (aD 3) aM)))))))
noncomputable def yL(κ:Nat→Addr):List D→Option (D×List D):=Pa 9 [true,true,false] (rB κ)
abbrev aC8:Stmt:=top 54
noncomputable def aJU(κ:Nat→Addr):GS:=aW (cU 1 (cN 1 yI (aB (aD 0) aM)))
 (aW (cU 2 (TV (κ 1) (wN κ) (aB (gU (mW (aD 1)) [] lG (fL dList (aB (aD 0) aM))) aM)))
 (aW (cU 3 (cN 1 Dc (aB (aD 1) aM)))
 (aW (Ww [] 4 (mW (gU (mW (fSl false (aD 0) (tK (fC (.int 3))) (tK (fC (.int 63))))) [] lG (cN 1 nC (aB (aD 0) aM)))) (uV (fB (f2 Ft (f2 gM (aD 4) (fC (.int 8))) (fC (.int 7)))) (aW (zJ (pW (κ 0) "carve" 2 (Ce (κ 1) "bench" dD) (wQ κ) (fun eF eZ=>((qO (f2 gM (f2 pQ (aD 4) (fC (.int 8))) (fL kO (aB (aD 1) aM))) iY) eF eZ).map (·++[.non]))))
 (uV (xY (fB (cN 3 (pI κ) (aB (aD 2) (aB (aD 3) (aB (f2 gM (f2 pQ (aD 4) (fC (.int 64))) (fL kO (aB (f2 jD (aD 3) (fC (.str "recs"))) aM))) aM)))))) (gO (fC (.bl false))) gH)) (uV (Hh (fB (f2 Ft (f2 gM (aD 4) (fC (.int 2))) (fC (.int 0)))) (fB (f2 Tr (f2 jD (aD 3) (fC (.str "order"))) (kJ aM)))) (TY (TX (gbV (Um (.ch 2::.ch 3::.rd (f2 pQ (aD 4) (fC (.int 2)))::[]) (Dh κ)))) (gO (fC (.bl false))) gH) (TY (TX (gbV (Um (.ch 2::.ch 3::.rd (f2 pQ (aD 4) (fC (.int 2)))::[]) (yL κ)))) (gO (fC (.bl false))) gH))))
 (aW (cU 5 (gJ (κ 0) "changes" 1 (rW κ) (tL (fO (κ 1) "bench") (aD 2)) aM []))
 (gO (Ax (f2 Ft (fL kO (aB (aD 5) aM)) (fL kO (aB (f2 jD (aD 3) (fC (.str "due"))) aM))) (f2 Ft (aD 5) (f2 jD (aD 3) (fC (.str "due"))))))))))
noncomputable def aIg(κ:Nat→Addr):List D→Option D:=oZ 6 1 (aJU κ)
section
variable{P:Program}{w:World}{K:aJ}{mg:Str→Option Value}{base:Heap}
B5 aA0:aZ ["script", "k"] ["script", "k"] (aK Vb):=by walk_at "fs"
B5 km(R:Raw K mg "_law_cell" Vb) (dZ:mg "len" = none):lN P w K mg base "_law_cell" 1 2 (gW K 2 mZ):=by
 &R.uW aA0 (fun _ _ _ _ _ _ us hl=>match us,hl with | [_,_],_=>rfl) (fun _ _ _ _ _ _ _ hr=>?_)
 have cQ:=hr.units
 have hu:=cI hr
 ~⟨_,aL (jK (eV Xy uQ (aF (pv 1)) (XN.r (fV eX (eY rfl) rfl dZ D9 (aG (aF (pv 0)) aO))) (cV _)) (aU (cA (XR.n (bI (aF (pv 0)) (aF (pv 1)) (fun _ _=>rfl))))) fM)
  (aU (cA aN))⟩
B5 Vn:aZ ["script", "head"] ["script"] (aK Nb):=by walk_at "fs"
B5 XX(R:Raw K mg "_law_sizes" Nb) (sZ:lN P w K mg base "_law_cell" 1 2 (gW K 2 mZ)):lN P w K mg base "_law_sizes" 2 1 (gW K 1 yG):=by
 &R.uW Vn (fun _ _ _ _ _ _ us hl=>match us,hl with | [_],_=>rfl) (fun _ _ _ _ _ _ _ hr=>?_)
 have cQ:=hr.units
 have hu:=cI hr
 ~⟨_,aL (bK (i:=1) (bZ sZ (hr.mono A8) rfl (aG (aF (pv 0)) (aG (XN.r (aN)) aO))) (fun h=>bB Vn.nd rfl (by first | ~D1 rfl | ~C9 rfl) h))
  (aL (jK (eV (or_eq cQ rfl) sH (XN.r (bU (XN.r (lB (aF (pv 1)) (XN.r (aN)))) (XN.r (aN)))) (XN.r (aN)) (cV _)) (aU (cA (lC (aY (cG (XN.r (aN)) (XN.r (bU (aF (pv 1)) (XN.r (aN))))) (aY (cG (XN.r (aN)) (XN.r (bU (XN.r (lB (aF (pv 1)) (XN.r (aN)))) (XN.r (aN))))) dY))))) fM)
  (aU (cA (lC (aY (cG (XN.r (aN)) (XN.r (bU (aF (pv 1)) (XN.r (aN))))) (aY (cG (XN.r (aN)) (XN.r (bU (XN.r (lB (aF (pv 1)) (XN.r (aN)))) (XN.r (aN))))) dY))))))⟩
B5 Vo:aZ ["cell", "k", "number"] ["cell", "k"] (aK Nf):=by walk_at "fs"
B5 YC(R:Raw K mg "_law_mixed" Nf):lN P w K mg base "_law_mixed" 1 2 (gW K 2 mJ):=by
 &R.uW Vo (fun _ _ _ _ _ _ us hl=>match us,hl with | [_,_],_=>rfl) (fun _ _ _ _ _ _ _ hr=>?_)
 have cQ:=hr.units
 have hu:=cI hr
 ~⟨_,aL (bK (i:=2) (bU (XN.r (mV (XN.r (cG (XN.r (bU (aF (pv 0)) (XN.r (aN)))) (XN.r (aN)))) (XN.r (cG (XN.r (aN)) (XN.r (mV (XN.r (mV (XN.r (aN)) (aF (pv 1)))) (aF (pv 1)))))))) (XN.r (aN))) (fun h=>bB Vo.nd rfl (by first | ~D1 rfl | ~C9 rfl) h))
  (aU (cA (bU (XN.r (mV (aF (pv 2)) (aF (pv 2)))) (XN.r (aN)))))⟩
B5 pJ:aZ ["cell", "k", "key", "following", "pick", "now", "age"] ["cell", "k", "key", "following"] (aK Hz):=by walk_at "fs"
B5 JZ(R:Raw K mg "_law_record" Hz) (nQ:lN P w K mg base "_law_mixed" 1 2 (gW K 2 mJ)) (aIh:mg "abs" = none):lN P w K mg base "_law_record" 2 4 (gW K 4 qX):=by
 &R.uW pJ (fun _ _ _ _ _ _ us hl=>match us,hl with | [_,_,_,_],_=>rfl) (fun _ _ _ _ _ _ _ hr=>?_)
 have cQ:=hr.units
 have hu:=cI hr
 ~⟨_,aL (bK (i:=4) (bZ nQ (hr.mono A8) rfl (aG (aF (pv 0)) (aG (XN.r (mV (XN.r (aN)) (aF (pv 1)))) aO))) (fun h=>bB pJ.nd rfl (by first | ~D1 rfl | ~C9 rfl) h))
  (aL (bK (i:=5) (XR.n (bI (jN (aG (XN.r (aN)) (aG (XN.r (aN)) (aG (XN.r (aN)) (aG (XN.r (mV (XN.r (bZ nQ (hr.mono A8) rfl (aG (aF (pv 0)) (aG (XN.r (cG (XN.r (mV (XN.r (aN)) (aF (pv 1)))) (XN.r (aN)))) aO)))) (XN.r (Bv (XN.r (aN)) (XN.r (aN)))))) (aG (XN.r (uC (XN.r (aN)))) aO)))))) (XN.r (bU (aF (pv 4)) (XN.r (aN)))) (fun _ _=>rfl))) (fun h=>bB pJ.nd rfl (by first | ~D1 rfl | ~C9 rfl) h))
  (aL (bK (i:=6) aN (fun h=>bB pJ.nd rfl (by first | ~D1 rfl | ~C9 rfl) h))
  (aL (jK (eV (or_eq cQ rfl) sH (XN.r (bU (XN.r (lB (aF (pv 4)) (XN.r (aN)))) (XN.r (aN)))) (XN.r (aN)) (cV _)) (aU (bK (i:=6) (cG (XN.r (aN)) (XN.r (bU (XN.r (lB (aF (pv 4)) (XN.r (aN)))) (XN.r (aN))))) (fun h=>bB pJ.nd rfl (by first | ~D1 rfl | ~C9 rfl) h))) fM)
  (aL (jK (eV (or_eq cQ rfl) sH (aF (pv 6)) (XN.r (aN)) (cV _)) (aU (bK (i:=5) (fV aH6 aH7 rfl aIh PyProof.Rows.boot_abs (aG (aF (pv 5)) aO)) (fun h=>bB pJ.nd rfl (by first | ~D1 rfl | ~C9 rfl) h))) fM)
  (aU (cA (lC (aY (XR.n (aF (pv 2))) (aY (XR.n (aF (pv 3))) (aY (XR.n (bI (jN (aG (XN.r (uC (XN.r (aN)))) (aG (XN.r (aN)) (aG (XN.r (aN)) (aG (aF (pv 4)) aO))))) (XN.r (bU (XN.r (lB (aF (pv 4)) (XN.r (aN)))) (XN.r (aN)))) (fun _ _=>rfl))) (aY (XR.n (aF (pv 5))) (aY (XR.n (aF (pv 6))) dY))))))))))))⟩
B5 fX:aZ ["script", "panes", "rows", "spare", "boxes", "k", "stone", "cell", "box", "key", "pane"] ["script"] (aK yH):=by walk_at "fs"
B5 YD(R:Raw K mg "_law_built" yH) (Np:lN P w K mg base "_law_sizes" 2 1 (gW K 1 yG)) (sZ:lN P w K mg base "_law_cell" 1 2 (gW K 2 mZ)) (nQ:lN P w K mg base "_law_mixed" 1 2 (gW K 2 mJ)) (Ad:lN P w K mg base "_law_record" 2 4 (gW K 4 qX)) (iT:mg "list" = none) (iH:mg "range" = none) (dZ:mg "len" = none):lN P w K mg base "_law_built" 3 1 (gW K 1 yI):=by
 &R.uW fX (fun _ _ _ _ _ _ us hl=>match us,hl with | [_],_=>rfl) (fun _ _ _ _ _ _ _ hr=>?_)
 have cQ:=hr.units
 have hu:=cI hr
 ~⟨_,aL (Yt (is:=[1,2]) (n:=2) (bZ Np (hr.mono A8) rfl (aG (aF (pv 0)) aO)) (fun h=>Gu h (aBt rfl (Jh (kI (i:=1) fX.nd rfl (by first | ~D1 rfl | ~C9 rfl)) (Jh (kI (i:=2) fX.nd rfl (by first | ~D1 rfl | ~C9 rfl)) (rm))))))
  (aL (bK (i:=3) (aAU (aG (XN.r (aN)) (aG (XN.r (mV (aF (pv 1)) (aF (pv 2)))) aO)) rfl iT G5 rfl iH PyProof.Rows.boot_range) (fun h=>bB fX.nd rfl (by first | ~D1 rfl | ~C9 rfl) h))
  (aL (bK (i:=4) (tH (aY aN dY)) (fun h=>bB fX.nd rfl (by first | ~D1 rfl | ~C9 rfl) h))
  (aL (Ju PassesOwn.never rfl (Ej rfl iH (aG (XN.r (bU (XN.r (bZ sZ (hr.mono A8) rfl (aG (aF (pv 0)) (aG (XN.r (aN)) aO)))) (XN.r (mV (aF (pv 1)) (aF (pv 2)))))) aO)) (kI (i:=5) fX.nd rfl (by first | ~D1 rfl | ~C9 rfl)) (aU (aAB (i:=4) (j:=3) (XN.r (bU (XN.r (bZ nQ (hr.mono A8) rfl (aG (XN.r (bZ sZ (hr.mono A8) rfl (aG (aF (pv 0)) (aG (XN.r (aN)) aO)))) (aG (aF (pv 5)) aO)))) (XN.r (fV eX (eY rfl) rfl dZ D9 (aG (aF (pv 3)) aO))))) (fun h=>kE (sG E5 G8 G9 lM (pv 4) (dG (sG E5 b6 b7 QH (pv 3) (dG h jM)) jM))))))
  (aL (Rc (i:=6) ["pane", "rows"] [2] rfl (.at (aK yH) ["script", "panes", "rows", "spare", "boxes", "k", "stone", "cell", "box", "key", "pane"] A7) fX.nd rfl (by first | ~D1 rfl | ~C9 rfl) (Eg rfl iH (aG (aF (pv 1)) aO)) (iU A7 rfl rfl) (fun _ _ _ _ _=>nJ) (fun _ _ _ _ _=>mD ["place"] [] rfl (mG.of (by show ug (xV _ (aK yH)) _ ["pane", "rows"] _ _ _=true;decide +kernel)) (Eg rfl iH (aG (aF (pv 1)) aO)) (iU A7 rfl rfl) (fun _ _ _ _ _=>nJ) (fun _ _ _ _ _=>lC (aY aN (aY aN (aY (uC (XN.r (aN))) (aY (uC (XN.r (aN))) (aY aN dY))))))))
  (aL (bK (i:=7) (bZ sZ (hr.mono A8) rfl (aG (aF (pv 0)) (aG (XN.r (aN)) aO))) (fun h=>bB fX.nd rfl (by first | ~D1 rfl | ~C9 rfl) h))
  (aL (HW [3] PassesOwn.never rfl (mX (aF (pv 3))) (kI (i:=8) fX.nd rfl (by first | ~D1 rfl | ~C9 rfl)) (aU (vg (RT (gP (pv 6)) (XN.r (bU (aF (pv 8)) (aF (pv 1)))) (fun _ _=>rfl)) (XN.r (lB (aF (pv 8)) (aF (pv 1)))) (bZ Ad (hr.mono A8) rfl (aG (aF (pv 7)) (aG (aF (pv 8)) (aG (XN.r (bU (aF (pv 7)) (XN.r (Bv (XN.r (aN)) (XN.r (aN)))))) (aG (XN.r (bU (XN.r (mV (aF (pv 8)) (aF (pv 8)))) (XN.r (mV (aF (pv 1)) (aF (pv 2)))))) aO))))) (fun a b c=>Gu c (Rw a b set_list)))))
  (aL (bK (i:=9) (bU (aF (pv 7)) (XN.r (Bv (XN.r (aN)) (XN.r (aN))))) (fun h=>bB fX.nd rfl (by first | ~D1 rfl | ~C9 rfl) h))
  (aL (Ju PassesOwn.never rfl (Ej rfl iH (aG (XN.r (fV eX (eY rfl) rfl dZ D9 (aG (aF (pv 4)) aO))) aO)) (kI (i:=5) fX.nd rfl (by first | ~D1 rfl | ~C9 rfl)) (aL (bK (i:=8) (XR.n (bI (aF (pv 4)) (aF (pv 5)) (fun _ _=>rfl))) (fun h=>bB fX.nd rfl (by first | ~D1 rfl | ~C9 rfl) h))
  (aL (vg (RT (gP (pv 6)) (XN.r (bU (aF (pv 8)) (aF (pv 1)))) (fun _ _=>rfl)) (XN.r (lB (aF (pv 8)) (aF (pv 1)))) (bZ Ad (hr.mono A8) rfl (aG (aF (pv 7)) (aG (XN.r (cG (aF (pv 5)) (XN.r (aN)))) (aG (aF (pv 9)) (aG (bI (XN.r (cG (aF (pv 4)) (jN (aG (XN.r (aN)) aO)))) (XN.r (cG (aF (pv 5)) (XN.r (aN)))) (fun _ _=>rfl)) aO))))) (fun a b c=>Gu c (Rw a b set_list)))
  (aU (bK (i:=9) (cG (XN.r (cG (aF (pv 9)) (XN.r (aN)))) (XN.r (mV (XN.r (bU (XN.r (bZ nQ (hr.mono A8) rfl (aG (aF (pv 7)) (aG (XN.r (cG (aF (pv 5)) (XN.r (aN)))) aO)))) (XN.r (aN)))) (bI (jN (aG (XN.r (aN)) (aG (XN.r (Bv (XN.r (aN)) (XN.r (aN)))) aO))) (XN.r (bU (aF (pv 7)) (XN.r (aN)))) (fun _ _=>rfl))))) (fun h=>bB fX.nd rfl (by first | ~D1 rfl | ~C9 rfl) h))))))
  (aL (Ju PassesOwn.never rfl (Ej rfl iH (aG (aF (pv 1)) aO)) (kI (i:=10) fX.nd rfl (by first | ~D1 rfl | ~C9 rfl)) (aU (Ua (RT (gP (pv 6)) (aF (pv 10)) (fun _ _=>rfl)) (lC (aY (bU (XN.r (bZ nQ (hr.mono A8) rfl (aG (aF (pv 7)) (aG (XN.r (cG (aF (pv 10)) (XN.r (aN)))) aO)))) (XN.r (aN))) dY)) (fun a b=>kE (sG E5 G8 G9 lM a (dG b jM))))))
  (aU (HS (pv 6))))))))))))⟩
B5 YF:aZ ["self", "stone"] ["self", "stone"] (aK vG):=by walk_at "fs"
B5 KC{κ:Nat→Addr}(R:UJ K mg "Bench" (κ 0) "Bench.__init__" vG) (bD:jE K (κ 0) jH) (iT:mg "list" = none):aAN P w K mg base "Bench" (κ 0) 1 2 (spS K 2 (vH κ)):=by
 &R.aJG YF (fun _ _ _ _ _ _ us hl=>match us,hl with | [_,_],_=>rfl) (fun _ _ _ _ _ _ _ hr=>?_)
 have cQ:=hr.units
 have hu:=cI hr
 ~⟨_,aL (oX bD A7 (gP (pv 0)) (mD ["pane"] [] rfl (.at (aK vG) ["self", "stone"] A7) (mX (aF (pv 1))) (iU A7 rfl rfl) (fun _ _ _ _ _=>nJ) (fun _ _ _ _ _=>Bw zF (zG rfl) rfl iT G5 (aG (aF (pv 0)) aO))))
  (aL (oX bD A7 (gP (pv 0)) (tH dY))
  (aL (oX bD A7 (gP (pv 0)) (aCF))
  (aL (oX bD A7 (gP (pv 0)) (rO))
  (aU (oX bD A7 (gP (pv 0)) (mD ["pane"] [] rfl (.at (aK vG) ["self", "stone"] A7) (mX (aF (pv 1))) (iU A7 rfl rfl) (fun _ _ _ _ _=>nJ) (fun _ _ _ _ _=>tH dY)))))))⟩
B5 aA1:aZ ["stone", "spot"] ["stone", "spot"] (aK Ve):=by walk_at "fs"
B5 lg(R:Raw K mg "thing_at" Ve):lN P w K mg base "thing_at" 1 2 (gW K 2 Cy):=by
 &R.uW aA1 (fun _ _ _ _ _ _ us hl=>match us,hl with | [_,_],_=>rfl) (fun _ _ _ _ _ _ _ hr=>?_)
 have cQ:=hr.units
 have hu:=cI hr
 ~⟨_,aU (cA (XR.n (bI (bI (aF (pv 0)) (bI (aF (pv 1)) (XN.r (aN)) (fun _ _=>rfl)) (fun _ _=>rfl)) (bI (aF (pv 1)) (XN.r (aN)) (fun _ _=>rfl)) (fun _ _=>rfl))))⟩
B5 aC9:aZ ["stone", "box"] ["stone", "box"] (aK JT):=by walk_at "fs"
B5 aA2(R:Raw K mg "spot_of" JT) (dZ:mg "len" = none):lN P w K mg base "spot_of" 1 2 (gW K 2 zV):=by
 &R.uW aC9 (fun _ _ _ _ _ _ us hl=>match us,hl with | [_,_],_=>rfl) (fun _ _ _ _ _ _ _ hr=>?_)
 have cQ:=hr.units
 have hu:=cI hr
 ~⟨_,aU (cA (lC (aY (bU (aF (pv 1)) (XN.r (fV eX (eY rfl) rfl dZ D9 (aG (aF (pv 0)) aO)))) (aY (lB (aF (pv 1)) (XN.r (fV eX (eY rfl) rfl dZ D9 (aG (aF (pv 0)) aO)))) dY))))⟩
B5 lq:aZ ["stone", "box"] ["stone", "box"] (aK Ng):=by walk_at "fs"
B5 YG(R:Raw K mg "record_at" Ng) (Ez:lN P w K mg base "spot_of" 1 2 (gW K 2 zV)) (Vp:lN P w K mg base "thing_at" 1 2 (gW K 2 Cy)):lN P w K mg base "record_at" 2 2 (gW K 2 nM):=by
 &R.uW lq (fun _ _ _ _ _ _ us hl=>match us,hl with | [_,_],_=>rfl) (fun _ _ _ _ _ _ _ hr=>?_)
 have cQ:=hr.units
 have hu:=cI hr
 ~⟨_,aU (cA (bZ Vp (hr.mono A8) rfl (aG (aF (pv 0)) (aG (XN.r (bZ Ez (hr.mono A8) rfl (aG (aF (pv 0)) (aG (aF (pv 1)) aO)))) aO))))⟩
B5 Ae:aZ ["stone", "found", "box"] ["stone"] (aK Nh):=by walk_at "fs"
B5 YH(R:Raw K mg "string_of" Nh) (Fb:lN P w K mg base "record_at" 2 2 (gW K 2 nM)) (iT:mg "list" = none) (Gn:jL mg "HEAD" (0)) (yM:jL mg "NEXT" (1)):lN P w K mg base "string_of" 3 1 (gW K 1 qY):=by
 &R.uW Ae (fun _ _ _ _ _ _ us hl=>match us,hl with | [_],_=>rfl) (fun _ _ _ _ _ _ _ hr=>?_)
 have cQ:=hr.units
 have hu:=cI hr
 ~⟨_,aL (bK (i:=1) (rO) (fun h=>bB Ae.nd rfl (by first | ~D1 rfl | ~C9 rfl) h))
  (aL (bK (i:=2) (XR.n (bI (XN.r (bZ Fb (hr.mono A8) rfl (aG (aF (pv 0)) (aG (XN.r (pG Gn rfl)) aO)))) (XN.r (pG yM rfl)) (fun _ _=>rfl))) (fun h=>bB Ae.nd rfl (by first | ~D1 rfl | ~C9 rfl) h))
  (aL (RP 400 PassesOwn.never (XW.xt (Tu (eV (Gh cQ rfl) Gg (aF (pv 2)) (XN.r (pG Gn rfl)) (cV _)) (Jr (Mj hu (aF (pv 2)) (aF (pv 1)))))) (aL (HY (gP (pv 1)) (aF (pv 2)) (XN.r (uR)) (fun a b c=>pN hu a b c rfl))
  (aU (bK (i:=2) (XR.n (bI (XN.r (bZ Fb (hr.mono A8) rfl (aG (aF (pv 0)) (aG (aF (pv 2)) aO)))) (XN.r (pG yM rfl)) (fun _ _=>rfl))) (fun h=>bB Ae.nd rfl (by first | ~D1 rfl | ~C9 rfl) h)))))
  (aU (cA (Bw RD (Bq rfl) rfl iT G5 (aG (aF (pv 1)) aO))))))⟩
B5 YJ:aZ ["stone"] ["stone"] (aK Ib):=by walk_at "fs"
B5 KD(R:Raw K mg "many_boxes" Ib) (dZ:mg "len" = none):lN P w K mg base "many_boxes" 1 1 (gW K 1 pB):=by
 &R.uW YJ (fun _ _ _ _ _ _ us hl=>match us,hl with | [_],_=>rfl) (fun _ _ _ _ _ _ _ hr=>?_)
 have cQ:=hr.units
 have hu:=cI hr
 ~⟨_,aU (cA (mV (XN.r (fV eX (eY rfl) rfl dZ D9 (aG (aF (pv 0)) aO))) (XN.r (wZ (XN.r (fV eX (eY rfl) rfl dZ D9 (aG (bI (aF (pv 0)) (XN.r (aN)) (fun _ _=>rfl)) aO))) (XN.r (aN))))))⟩
B5 La:aZ ["stone", "tied"] ["stone"] (aK wL):=by walk_at "fs"
B5 Xe(R:Raw K mg "loose_boxes" wL) (uN:lN P w K mg base "string_of" 3 1 (gW K 1 qY)) (rC:lN P w K mg base "many_boxes" 1 1 (gW K 1 pB)) (iH:mg "range" = none) (Gn:jL mg "HEAD" (0)):lN P w K mg base "loose_boxes" 4 1 (gW K 1 sV):=by
 &R.uW La (fun _ _ _ _ _ _ us hl=>match us,hl with | [_],_=>rfl) (fun _ _ _ _ _ _ _ hr=>?_)
 have cQ:=hr.units
 have hu:=cI hr
 ~⟨_,aL (bK (i:=1) (bZ uN (hr.mono A8) rfl (aG (aF (pv 0)) aO)) (fun h=>bB La.nd rfl (by first | ~D1 rfl | ~C9 rfl) h))
  (aU (cA (mD ["box", "tied"] [1] rfl (.at (aK wL) ["stone", "tied"] A7) (aGq (fun h=>Lx rfl iH h) (aG (XN.r (cG (XN.r (pG Gn rfl)) (XN.r (aN)))) (aG (XN.r (bZ rC (hr.mono A8) rfl (aG (aF (pv 0)) aO))) aO))) (iU A7 rfl rfl) (fun _ _ _ _ _=>Eh (eV (aB7 rfl) (aJl true) (aF (pv 0)) (aF (pv 1)) (by with_unfolding_all rfl))) (fun _ _ _ _ _=>XR.n (aF (pv 0))))))⟩
B5 KH:aZ ["self", "stone"] ["self", "stone"] (aK wM):=by walk_at "fs"
B5 Xf{κ:Nat→Addr}(R:UJ K mg "Weaver" (κ 1) "Weaver.__init__" wM) (bD:jE K (κ 0) jH) (aQ:jE K (κ 1) dX) (Ii:aAN P w K mg base "Bench" (κ 0) 1 2 (spS K 2 (vH κ))) (rC:lN P w K mg base "many_boxes" 1 1 (gW K 1 pB)) (Ez:lN P w K mg base "spot_of" 1 2 (gW K 2 zV)) (uN:lN P w K mg base "string_of" 3 1 (gW K 1 qY)) (Dk:lN P w K mg base "loose_boxes" 4 1 (gW K 1 sV)) (iH:mg "range" = none):aAN P w K mg base "Weaver" (κ 1) 5 2 (spS K 2 (wN κ)):=by
 &R.aJG KH (fun _ _ _ _ _ _ us hl=>match us,hl with | [_,_],_=>rfl) (fun _ _ _ _ _ _ _ hr=>?_)
 have cQ:=hr.units
 have hu:=cI hr
 ~⟨_,aL (oX aQ A7 (gP (pv 0)) (wu Ii cO (hr.mono A8) rfl (aG (aF (pv 1)) aO)))
  (aL (oX aQ A7 (gP (pv 0)) (mD ["box", "stone"] [1] rfl (.at (aK wM) ["self", "stone"] A7) (Eg rfl iH (aG (XN.r (bZ rC (hr.mono A8) rfl (aG (aF (pv 1)) aO))) aO)) (iU A7 rfl rfl) (fun _ _ _ _ _=>nJ) (fun _ _ _ _ _=>bZ Ez (hr.mono A8) rfl (aG (aF (pv 1)) (aG (aF (pv 0)) aO)))))
  (aL (oX aQ A7 (gP (pv 0)) (bZ uN (hr.mono A8) rfl (aG (aF (pv 1)) aO)))
  (aL (oX aQ A7 (gP (pv 0)) (bZ Dk (hr.mono A8) rfl (aG (aF (pv 1)) aO)))
  (aL (oX aQ A7 (gP (pv 0)) (rO))
  (aL (oX aQ A7 (gP (pv 0)) (rO))
  (aU (oX aQ A7 (gP (pv 0)) (rO))))))))⟩
B5 uO:aZ ["stone", "panes", "recs", "order", "box"] ["stone"] (aK Km):=by walk_at "fs"
B5 lr(R:Raw K mg "_law_book" Km) (dZ:mg "len" = none) (iH:mg "range" = none):lN P w K mg base "_law_book" 1 1 (gW K 1 Dc):=by
 &R.uW uO (fun _ _ _ _ _ _ us hl=>match us,hl with | [_],_=>rfl) (fun _ _ _ _ _ _ _ hr=>?_)
 have cQ:=hr.units
 have hu:=cI hr
 ~⟨_,aL (bK (i:=1) (fV eX (eY rfl) rfl dZ D9 (aG (aF (pv 0)) aO)) (fun h=>bB uO.nd rfl (by first | ~D1 rfl | ~C9 rfl) h))
  (aL (Rc (i:=2) ["box", "stone", "panes"] [0,1] rfl (.at (aK Km) ["stone", "panes", "recs", "order", "box"] A7) uO.nd rfl (by first | ~D1 rfl | ~C9 rfl) (Eg rfl iH (aG (XN.r (mV (aF (pv 1)) (XN.r (wZ (XN.r (fV eX (eY rfl) rfl dZ D9 (aG (bI (aF (pv 0)) (XN.r (aN)) (fun _ _=>rfl)) aO))) (XN.r (aN)))))) aO)) (iU A7 rfl rfl) (fun _ _ _ _ _=>nJ) (fun _ _ _ _ _=>XR.n (bI (bI (aF (pv 1)) (XN.r (bU (aF (pv 0)) (aF (pv 2)))) (fun _ _=>rfl)) (XN.r (lB (aF (pv 0)) (aF (pv 2)))) (fun _ _=>rfl))))
  (aL (bK (i:=3) (tH dY) (fun h=>bB uO.nd rfl (by first | ~D1 rfl | ~C9 rfl) h))
  (aL (bK (i:=4) (XR.n (bI (bI (aF (pv 2)) (XN.r (aN)) (fun _ _=>rfl)) (XN.r (aN)) (fun _ _=>rfl))) (fun h=>bB uO.nd rfl (by first | ~D1 rfl | ~C9 rfl) h))
  (aL (RP 400 PassesOwn.never (eV (Gh cQ rfl) Gg (aF (pv 4)) (XN.r (aN)) (cV _)) (aL (Ua (gP (pv 3)) (XR.n (aF (pv 4))) (fun a b=>kE (sG E5 G8 G9 lM a (dG b jM))))
  (aU (bK (i:=4) (XR.n (bI (bI (aF (pv 2)) (aF (pv 4)) (fun _ _=>rfl)) (XN.r (aN)) (fun _ _=>rfl))) (fun h=>bB uO.nd rfl (by first | ~D1 rfl | ~C9 rfl) h)))))
  (aU (aFu (aCN (pv 2) (aCN (pv 3) (Kc (rO) (Kc (rO) (Kc (rO) (Kc (tH dY) (Kc (XR.n (aF (pv 1))) (aFt))))))))))))))⟩
B5 Vq:aZ ["self"] ["self"] (aK xM):=by walk_at "fs"
B5 Qt{κ:Nat→Addr}(R:gZ K (κ 0) "changes" "Bench.changes" xM false) (bD:jE K (κ 0) jH) (iT:mg "list" = none):dO P w K mg base (κ 0) "changes" 1 1 false (gW K 1 (rW κ)):=by
 &R.Jy Vq (fun _ _ _ _ _ _ us hl=>match us,hl with | [_],_=>rfl) (fun _ _ _ _ _ _ _ hr=>?_)
 have cQ:=hr.units
 have hu:=cI hr
 ~⟨_,aU (cA (Bw zF (zG rfl) rfl iT G5 (aG (dM bD (aF (pv 0)) A7 rfl) aO)))⟩
B5 Px:aZ ["cell", "number"] ["cell"] (aK Ig):=by walk_at "fs"
B5 KJ(R:Raw K mg "_law_spread" Ig):lN P w K mg base "_law_spread" 1 1 (gW K 1 nC):=by
 &R.uW Px (fun _ _ _ _ _ _ us hl=>match us,hl with | [_],_=>rfl) (fun _ _ _ _ _ _ _ hr=>?_)
 have cQ:=hr.units
 have hu:=cI hr
 ~⟨_,aL (bK (i:=1) (bU (XN.r (mV (XN.r (cG (XN.r (bU (aF (pv 0)) (XN.r (aN)))) (XN.r (aN)))) (XN.r (aN)))) (XN.r (aN))) (fun h=>bB Px.nd rfl (by first | ~D1 rfl | ~C9 rfl) h))
  (aU (cA (cG (XN.r (bU (XN.r (mV (aF (pv 1)) (aF (pv 1)))) (XN.r (aN)))) (XN.r (mV (XN.r (bU (aF (pv 0)) (XN.r (Bv (XN.r (aN)) (XN.r (aN)))))) (XN.r (aN)))))))⟩
B5 Nq:aZ ["self", "pane"] ["self", "pane"] (aK tO):=by walk_at "fs"
B5 Lb{κ:Nat→Addr}(R:gZ K (κ 0) "check_pane" "Bench.check_pane" tO false) (bD:jE K (κ 0) jH) (dZ:mg "len" = none):dO P w K mg base (κ 0) "check_pane" 1 2 false (gW K 2 (jQ κ)):=by
 &R.Jy Nq (fun _ _ _ _ _ _ us hl=>match us,hl with | [_,_],_=>rfl) (fun _ _ _ _ _ _ _ hr=>?_)
 have cQ:=hr.units
 have hu:=cI hr
 ~⟨_,aU (jK (oY (Ui aBz Xy uQ uQ (XN.r (aN)) (aF (pv 1)) (XN.r (fV eX (eY rfl) rfl dZ D9 (aG (dM bD (aF (pv 0)) A7 rfl) aO))))) (aU (IW)) fM)⟩
B5 Dl:aZ ["changes", "held", "numbers", "found", "number"] ["changes", "held", "numbers"] (aK zW):=by walk_at "fs"
B5 KN(R:Raw K mg "ripe_among" zW) (Qu:mg "all" = none) (iT:mg "list" = none) (lu:jL mg "NEEDS" (3)):lN P w K mg base "ripe_among" 1 3 (gW K 3 vI):=by
 &R.uW Dl (fun _ _ _ _ _ _ us hl=>match us,hl with | [_,_,_],_=>rfl) (fun _ _ _ _ _ _ _ hr=>?_)
 have cQ:=hr.units
 have hu:=cI hr
 ~⟨_,aL (bK (i:=3) (rO) (fun h=>bB Dl.nd rfl (by first | ~D1 rfl | ~C9 rfl) h))
  (aL (HW [] PassesOwn.never rfl (mX (aF (pv 2))) (kI (i:=4) Dl.nd rfl (by first | ~D1 rfl | ~C9 rfl)) (aU (jK (qQ (XN.r (fV HF (HH rfl) rfl Qu Q2 (aG (XN.r (mD ["need", "held", "found"] [1,3] rfl (.at (aK zW) ["changes", "held", "numbers", "found", "number"] A7) (mX (bI (bI (aF (pv 0)) (aF (pv 4)) (fun _ _=>rfl)) (XN.r (pG lu rfl)) (fun _ _=>rfl))) (iU A7 rfl rfl) (fun _ _ _ _ _=>nJ) (fun _ _ _ _ _=>aGk (XN.r (aB8 hu (aF (pv 0)) (aF (pv 1)))) (wF (aB8 hu (aF (pv 0)) (aF (pv 2))))))) aO)))) (aU (HY (gP (pv 3)) (aF (pv 4)) (XN.r (uR)) (fun a b c=>pN hu a b c rfl))) fM)))
  (aU (cA (Bw RD (Bq rfl) rfl iT G5 (aG (aF (pv 3)) aO)))))⟩
B5 Gp:aZ ["self", "number", "change"] ["self", "number"] (aK zX):=by walk_at "fs"
B5 Vr{κ:Nat→Addr}(R:gZ K (κ 0) "strike" "Bench.strike" zX false) (bD:jE K (κ 0) jH) (aDa:jL mg "PANE" (0)) (lz:jL mg "PLACE" (1)) (Nr:jL mg "THING" (2)):dO P w K mg base (κ 0) "strike" 1 2 false (spS K 2 (uF κ)):=by
 &R.Hs Gp (fun _ _ _ _ _ _ us hl=>match us,hl with | [_,_],_=>rfl) (fun _ _ _ _ _ _ _ hr=>?_)
 have cQ:=hr.units
 have hu:=cI hr
 ~⟨_,aL (bK (i:=2) (XR.n (bI (dM bD (aF (pv 0)) A7 rfl) (aF (pv 1)) (fun _ _=>rfl))) (fun h=>bB Gp.nd rfl (by first | ~D1 rfl | ~C9 rfl) h))
  (aL (Ul (RT (pA bD (gP (pv 0)) A7 rfl) (bI (aF (pv 2)) (XN.r (pG aDa rfl)) (fun _ _=>rfl)) (fun _ _=>rfl)) (bI (aF (pv 2)) (XN.r (pG lz rfl)) (fun _ _=>rfl)) (XR.n (bI (aF (pv 2)) (XN.r (pG Nr rfl)) (fun _ _=>rfl))) (fun a b c=>Gu c (Rw a b set_list)))
  (aU (uZ (pA bD (gP (pv 0)) A7 rfl) (aF (pv 1)) (XN.r (uR)) (fun a b c=>pN hu a b c rfl))))⟩
B5 uI:aZ ["self", "pane", "most", "taken", "number"] ["self", "pane", "most"] (aK wO):=by walk_at "fs"
B5 Xg{κ:Nat→Addr}(R:gZ K (κ 0) "carve" "Bench.carve" wO true) (bD:jE K (κ 0) jH) (jV:dO P w K mg base (κ 0) "check_pane" 1 2 false (gW K 2 (jQ κ))) (Ij:lN P w K mg base "ripe_among" 1 3 (gW K 3 vI)) (Af:dO P w K mg base (κ 0) "strike" 1 2 false (spS K 2 (uF κ))) (aIi:mg "max" = none):dO P w K mg base (κ 0) "carve" 2 3 true (spS K 3 (wQ κ)):=by
 &R.Hs uI (fun T _ _ _ _ _ _ us=>⟨fun hl=>match us,hl with | [_,_,_],_=>⟨_,rfl,rfl⟩,fun hl=>match us,hl with | [_,_],_=>⟨_,rfl,rfl⟩⟩) (fun _ _ _ _ _ _ _ hr=>?_)
 have cQ:=hr.units
 have hu:=cI hr
 ~⟨_,aL (zL (XN.r (eE jV bD (hr.mono A8) (aF (pv 0)) (aG (aF (pv 1)) aO))))
  (aL (bK (i:=3) (bZ Ij (hr.mono A8) rfl (aG (dM bD (aF (pv 0)) A7 rfl) (aG (dM bD (aF (pv 0)) A7 rfl) (aG (bI (dM bD (aF (pv 0)) A7 rfl) (aF (pv 1)) (fun _ _=>rfl)) aO)))) (fun h=>bB uI.nd rfl (by first | ~D1 rfl | ~C9 rfl) h))
  (aL (jK (eV DK Mw (aF (pv 2)) (XN.r (Hf)) (cV _)) (aU (bK (i:=3) (aCc (aF (pv 3)) (aE3) (HJ (XN.r (fV aE0 (aAf rfl) rfl aIi PyProof.Rows.boot_max (aG (aF (pv 2)) (aG (XN.r (aN)) aO)))))) (fun h=>bB uI.nd rfl (by first | ~D1 rfl | ~C9 rfl) h))) fM)
  (aL (JB PassesOwn.never rfl (pv 3) (kI (i:=4) uI.nd rfl (by first | ~D1 rfl | ~C9 rfl)) (aU (Jx (uD Af bD cO (hr.mono A8) (gP (pv 0)) (dF (aF (pv 4)) gY)))))
  (aL (Ul (pA bD (gP (pv 0)) A7 rfl) (aF (pv 1)) (mD ["number", "self"] [0] rfl (.at (aK wO) ["self", "pane", "most", "taken", "number"] A7) (mX (bI (dM bD (aF (pv 0)) A7 rfl) (aF (pv 1)) (fun _ _=>rfl))) (iU A7 rfl rfl) (fun _ _ _ _ _=>Eh (Mj hu (aF (pv 0)) (dM bD (aF (pv 1)) A7 rfl))) (fun _ _ _ _ _=>XR.n (aF (pv 0)))) (fun a b c=>Gu c (Rw a b set_list)))
  (aU (uY (pv 3)))))))⟩
B5 Nt:aZ ["self", "box"] ["self", "box"] (aK tQ):=by walk_at "fs"
B5 Ld{κ:Nat→Addr}(R:gZ K (κ 1) "coming_in" "Weaver.coming_in" tQ false) (aQ:jE K (κ 1) dX):dO P w K mg base (κ 1) "coming_in" 1 2 false (gW K 2 (jR κ)):=by
 &R.Jy Nt (fun _ _ _ _ _ _ us hl=>match us,hl with | [_,_],_=>rfl) (fun _ _ _ _ _ _ _ hr=>?_)
 have cQ:=hr.units
 have hu:=cI hr
 ~⟨_,aU (cA (mY hu (dM aQ (aF (pv 0)) A7 rfl) (aF (pv 1)) ⟨rfl,rfl,rfl,rfl⟩))⟩
B5 Nu:aZ ["self", "box"] ["self", "box"] (aK tR):=by walk_at "fs"
B5 Le{κ:Nat→Addr}(R:gZ K (κ 1) "going_out" "Weaver.going_out" tR false) (aQ:jE K (κ 1) dX):dO P w K mg base (κ 1) "going_out" 1 2 false (gW K 2 (jT κ)):=by
 &R.Jy Nu (fun _ _ _ _ _ _ us hl=>match us,hl with | [_,_],_=>rfl) (fun _ _ _ _ _ _ _ hr=>?_)
 have cQ:=hr.units
 have hu:=cI hr
 ~⟨_,aU (cA (mY hu (dM aQ (aF (pv 0)) A7 rfl) (aF (pv 1)) ⟨rfl,rfl,rfl,rfl⟩))⟩
B5 Ik:aZ ["self", "box"] ["self", "box"] (aK qF):=by walk_at "fs"
B5 Fy{κ:Nat→Addr}(R:gZ K (κ 1) "last_change" "Weaver.last_change" qF false) (aQ:jE K (κ 1) dX):dO P w K mg base (κ 1) "last_change" 1 2 false (gW K 2 (iJ κ)):=by
 &R.Jy Ik (fun _ _ _ _ _ _ us hl=>match us,hl with | [_,_],_=>rfl) (fun _ _ _ _ _ _ _ hr=>?_)
 have cQ:=hr.units
 have hu:=cI hr
 ~⟨_,aU (cA (mY hu (dM aQ (aF (pv 0)) A7 rfl) (aF (pv 1)) ⟨rfl,rfl,rfl,rfl⟩))⟩
B5 Lf:aZ ["self", "pane", "place"] ["self", "pane", "place"] (aK qZ):=by walk_at "fs"
B5 Il{κ:Nat→Addr}(R:gZ K (κ 0) "check_place" "Bench.check_place" qZ false) (bD:jE K (κ 0) jH) (jV:dO P w K mg base (κ 0) "check_pane" 1 2 false (gW K 2 (jQ κ))) (dZ:mg "len" = none):dO P w K mg base (κ 0) "check_place" 2 3 false (gW K 3 (jA κ)):=by
 &R.Jy Lf (fun _ _ _ _ _ _ us hl=>match us,hl with | [_,_,_],_=>rfl) (fun _ _ _ _ _ _ _ hr=>?_)
 have cQ:=hr.units
 have hu:=cI hr
 ~⟨_,aL (zL (XN.r (eE jV bD (hr.mono A8) (aF (pv 0)) (aG (aF (pv 1)) aO))))
  (aU (jK (oY (Ui aBz Xy uQ uQ (XN.r (aN)) (aF (pv 2)) (XN.r (fV eX (eY rfl) rfl dZ D9 (aG (bI (dM bD (aF (pv 0)) A7 rfl) (aF (pv 1)) (fun _ _=>rfl)) aO))))) (aU (IW)) fM))⟩
B5 YK:aZ ["self", "pane", "place"] ["self", "pane", "place"] (aK Ih):=by walk_at "fs"
B5 KQ{κ:Nat→Addr}(R:gZ K (κ 0) "seen" "Bench.seen" Ih false) (bD:jE K (κ 0) jH) (jB:dO P w K mg base (κ 0) "check_place" 2 3 false (gW K 3 (jA κ))) (Nr:jL mg "THING" (2)):dO P w K mg base (κ 0) "seen" 3 3 false (gW K 3 (vJ κ)):=by
 &R.Jy YK (fun _ _ _ _ _ _ us hl=>match us,hl with | [_,_,_],_=>rfl) (fun _ _ _ _ _ _ _ hr=>?_)
 have cQ:=hr.units
 have hu:=cI hr
 ~⟨_,aL (zL (XN.r (eE jB bD (hr.mono A8) (aF (pv 0)) (aG (aF (pv 1)) (aG (aF (pv 2)) aO)))))
  (aL (jK (xg hu (Uj (aG (aF (pv 1)) (aG (aF (pv 2)) aO))) (dM bD (aF (pv 0)) A7 rfl)) (aU (cA (XR.n (bI (bI (dM bD (aF (pv 0)) A7 rfl) (XN.r (VF hu (dM bD (aF (pv 0)) A7 rfl) (Uj (aG (aF (pv 1)) (aG (aF (pv 2)) aO))) (fun _ _=>rfl))) (fun _ _=>rfl)) (XN.r (pG Nr rfl)) (fun _ _=>rfl))))) fM)
  (aU (cA (XR.n (bI (bI (dM bD (aF (pv 0)) A7 rfl) (aF (pv 1)) (fun _ _=>rfl)) (aF (pv 2)) (fun _ _=>rfl))))))⟩
B5 yN:aZ ["self", "box", "spot"] ["self", "box"] (aK tU):=by walk_at "fs"
B5 Lg{κ:Nat→Addr}(R:gZ K (κ 1) "record_of" "Weaver.record_of" tU false) (aQ:jE K (κ 1) dX) (bD:jE K (κ 0) jH) (Im:dO P w K mg base (κ 0) "seen" 3 3 false (gW K 3 (vJ κ))):dO P w K mg base (κ 1) "record_of" 4 2 false (gW K 2 (bV κ)):=by
 &R.Jy yN (fun _ _ _ _ _ _ us hl=>match us,hl with | [_,_],_=>rfl) (fun _ _ _ _ _ _ _ hr=>?_)
 have cQ:=hr.units
 have hu:=cI hr
 ~⟨_,aL (bK (i:=2) (XR.n (bI (dM aQ (aF (pv 0)) A7 rfl) (aF (pv 1)) (fun _ _=>rfl))) (fun h=>bB yN.nd rfl (by first | ~D1 rfl | ~C9 rfl) h))
  (aU (cA (eE Im bD (hr.mono A8) (dM aQ (aF (pv 0)) A7 rfl) (aG (bI (aF (pv 2)) (XN.r (aN)) (fun _ _=>rfl)) (aG (bI (aF (pv 2)) (XN.r (aN)) (fun _ _=>rfl)) aO)))))⟩
B5 mj:aZ ["thing"] ["thing"] (aK Ni):=by walk_at "fs"
B5 YL(R:Raw K mg "_law_whole" Ni) (fZ:mg "isinstance" = none) (aDb:mg "bool" = none) (aIj:mg "int" = none):lN P w K mg base "_law_whole" 1 1 (gW K 1 gQ):=by
 &R.uW mj (fun _ _ _ _ _ _ us hl=>match us,hl with | [_],_=>rfl) (fun _ _ _ _ _ _ _ hr=>?_)
 have cQ:=hr.units
 have hu:=cI hr
 ~⟨_,aU (cA (Ml (XN.r (Ms (aF (pv 0)) (Dy (v:=.ty "int") rfl aIj PyProof.Rows.boot_int rfl) rfl fZ)) (wF (aHI (XN.r (Ms (aF (pv 0)) (Dy (v:=.ty "bool") rfl aDb PyProof.Rows.boot_bool rfl) rfl fZ))))))⟩
B5 Vs:aZ ["weaver", "book", "box", "told"] ["weaver", "book", "box"] (aK Ew):=by walk_at "fs"
B5 YM{κ:Nat→Addr}(R:Raw K mg "_law_known" Ew) (aQ:jE K (κ 1) dX) (jW:dO P w K mg base (κ 1) "coming_in" 1 2 false (gW K 2 (jR κ))) (jX:dO P w K mg base (κ 1) "going_out" 1 2 false (gW K 2 (jT κ))) (iK:dO P w K mg base (κ 1) "last_change" 1 2 false (gW K 2 (iJ κ))) (iM:lN P w K mg base "_law_whole" 1 1 (gW K 1 gQ)) (bL:dO P w K mg base (κ 1) "record_of" 4 2 false (gW K 2 (bV κ))) (Qu:mg "all" = none):lN P w K mg base "_law_known" 5 3 (gW K 3 (pI κ)):=by
 &R.uW Vs (fun _ _ _ _ _ _ us hl=>match us,hl with | [_,_,_],_=>rfl) (fun _ _ _ _ _ _ _ hr=>?_)
 have cQ:=hr.units
 have hu:=cI hr
 ~⟨_,aL (bK (i:=3) (tH (aY (eE jW aQ (hr.mono A8) (aF (pv 0)) (aG (aF (pv 2)) aO)) (aY (eE jX aQ (hr.mono A8) (aF (pv 0)) (aG (aF (pv 2)) aO)) (aY (eE iK aQ (hr.mono A8) (aF (pv 0)) (aG (aF (pv 2)) aO)) dY)))) (fun h=>bB Vs.nd rfl (by first | ~D1 rfl | ~C9 rfl) h))
  (aL (jK (oY (qQ (XN.r (fV HF (HH rfl) rfl Qu Q2 (aG (XN.r (mD ["one"] [] rfl (.at (aK Ew) ["weaver", "book", "box", "told"] A7) (mX (aF (pv 3))) (iU A7 rfl rfl) (fun _ _ _ _ _=>nJ) (fun _ _ _ _ _=>aGk (XN.r (Hg dg jo (aF (pv 0)) (XN.r (Hf)) (cV _))) (wF (bZ iM (hr.mono A8) rfl (aG (aF (pv 0)) aO)))))) aO))))) (aU (cA (uR))) fM)
  (aL (jK (eV (Gh cQ rfl) Gg (aF (pv 3)) (jN (aG (XN.r (mY hu (bQ hu (aF (pv 1)) (XN.r (bW)) (fun _ _=>rfl)) (aF (pv 2)) ⟨rfl,rfl,rfl,rfl⟩)) (aG (XN.r (mY hu (bQ hu (aF (pv 1)) (XN.r (bW)) (fun _ _=>rfl)) (aF (pv 2)) ⟨rfl,rfl,rfl,rfl⟩)) (aG (XN.r (mY hu (bQ hu (aF (pv 1)) (XN.r (bW)) (fun _ _=>rfl)) (aF (pv 2)) ⟨rfl,rfl,rfl,rfl⟩)) aO)))) (cV _)) (aU (cA (uR))) fM)
  (aU (cA (Hg (or_eq cQ rfl) sH (XN.r (eE bL aQ (hr.mono A8) (aF (pv 0)) (aG (aF (pv 2)) aO))) (bI (bQ hu (aF (pv 1)) (XN.r (bW)) (fun _ _=>rfl)) (aF (pv 2)) (fun _ _=>rfl)) (cV _))))))⟩
B5 qL:aZ ["cell", "count", "needs", "rest", "turn"] ["cell", "count"] (aK Dd):=by walk_at "fs"
B5 Xh(R:Raw K mg "_law_further" Dd) (iH:mg "range" = none):lN P w K mg base "_law_further" 1 2 (gW K 2 sW):=by
 &R.uW qL (fun _ _ _ _ _ _ us hl=>match us,hl with | [_,_],_=>rfl) (fun _ _ _ _ _ _ _ hr=>?_)
 have cQ:=hr.units
 have hu:=cI hr
 ~⟨_,aL (bK (i:=2) (tH dY) (fun h=>bB qL.nd rfl (by first | ~D1 rfl | ~C9 rfl) h))
  (aL (jK (eV aF6 uQ (aF (pv 1)) (XN.r (aN)) (cV _)) (aL (bK (i:=3) (lB (aF (pv 0)) (XN.r (aN))) (fun h=>bB qL.nd rfl (by first | ~D1 rfl | ~C9 rfl) h))
  (aU (Ju PassesOwn.never rfl (Ej rfl iH (aG (XN.r (bU (aF (pv 0)) (XN.r (aN)))) aO)) (kI (i:=4) qL.nd rfl (by first | ~D1 rfl | ~C9 rfl)) (aL (Ua (gP (pv 2)) (bU (aF (pv 3)) (aF (pv 1))) (fun a b=>kE (sG E5 G8 G9 lM a (dG b jM))))
  (aU (bK (i:=3) (lB (aF (pv 3)) (aF (pv 1))) (fun h=>bB qL.nd rfl (by first | ~D1 rfl | ~C9 rfl) h))))))) fM)
  (aU (HS (pv 2))))⟩
B5 Ag:aZ ["book", "box", "some", "wanted", "number", "needs"] ["book", "box", "some", "wanted"] (aK wR):=by walk_at "fs"
B5 Xi(R:Raw K mg "_law_changed" wR) (dZ:mg "len" = none) (uJ:mg "sorted" = none) (aA3:mg "set" = none) (vN:mg "tuple" = none):lN P w K mg base "_law_changed" 1 4 (spS K 4 lX):=by
 &R.Hs Ag (fun _ _ _ _ _ _ us hl=>match us,hl with | [_,_,_,_],_=>rfl) (fun _ _ _ _ _ _ _ hr=>?_)
 have cQ:=hr.units
 have hu:=cI hr
 ~⟨_,aL (bK (i:=4) (fV eX (eY rfl) rfl dZ D9 (aG (bQ hu (aF (pv 0)) (XN.r (bW)) (fun _ _=>rfl)) aO)) (fun h=>bB Ag.nd rfl (by first | ~D1 rfl | ~C9 rfl) h))
  (aL (Rc (i:=5) ["other"] [] rfl (.at (aK wR) ["book", "box", "some", "wanted", "number", "needs"] A7) Ag.nd rfl (by first | ~D1 rfl | ~C9 rfl) (mX (XN.r (cG (aF (pv 3)) (jN (aG (XN.r (mY hu (bQ hu (aF (pv 0)) (XN.r (bW)) (fun _ _=>rfl)) (aF (pv 1)) ⟨rfl,rfl,rfl,rfl⟩)) aO))))) (iU A7 rfl rfl) (fun _ _ _ _ _=>Eh (eV DK Mw (aF (pv 0)) (XN.r (Hf)) (cV _))) (fun _ _ _ _ _=>XR.n (aF (pv 0))))
  (aL (Rh (Hu hu (gP (pv 0)) (XN.r (bW)) (fun _ _=>rfl)) (lC (aY (bU (aF (pv 1)) (bQ hu (aF (pv 0)) (XN.r (bW)) (fun _ _=>rfl))) (aY (lB (aF (pv 1)) (bQ hu (aF (pv 0)) (XN.r (bW)) (fun _ _=>rfl))) (aY (XR.n (aF (pv 2))) (aY (Bw RG (RJ rfl) rfl vN N5 (aG (XN.r (wg (aF (pv 5)) rfl uJ R5 rfl aA3 b8)) aO)) dY))))) (fun a b=>kE (sG E5 G8 G9 lM a (dG b jM))))
  (aL (Ul (Hu hu (gP (pv 0)) (XN.r (bW)) (fun _ _=>rfl)) (aF (pv 1)) (XR.n (aF (pv 2))) (fun a b c=>Gu c (Rw a b set_list)))
  (aL (uZ (Hu hu (gP (pv 0)) (XN.r (bW)) (fun _ _=>rfl)) (aF (pv 1)) (aF (pv 4)) (fun a b c=>pN hu a b c rfl))
  (aU (uY (pv 4)))))))⟩
B5 Lh:aZ ["book", "ahead", "box", "wanted", "old"] ["book", "ahead", "box", "wanted"] (aK De):=by walk_at "fs"
B5 Xj(R:Raw K mg "_law_pointed" De) (kY:lN P w K mg base "_law_changed" 1 4 (spS K 4 lX)):lN P w K mg base "_law_pointed" 2 4 (spS K 4 nD):=by
 &R.Hs Lh (fun _ _ _ _ _ _ us hl=>match us,hl with | [_,_,_,_],_=>rfl) (fun _ _ _ _ _ _ _ hr=>?_)
 have cQ:=hr.units
 have hu:=cI hr
 ~⟨_,aL (bK (i:=4) (XR.n (bI (bQ hu (aF (pv 0)) (XN.r (bW)) (fun _ _=>rfl)) (aF (pv 1)) (fun _ _=>rfl))) (fun h=>bB Lh.nd rfl (by first | ~D1 rfl | ~C9 rfl) h))
  (aU (oW (Cg kY cO (hr.mono A8) rfl (pv 0) (dF (aF (pv 1)) (dF (XN.r (lC (aY (XR.n (bI (aF (pv 4)) (XN.r (aN)) (fun _ _=>rfl))) (aY (XR.n (aF (pv 2))) (aY (XR.n (bI (aF (pv 4)) (XN.r (aN)) (fun _ _=>rfl))) (aY (XR.n (bI (aF (pv 4)) (XN.r (aN)) (fun _ _=>rfl))) (aY (XR.n (bI (aF (pv 4)) (XN.r (aN)) (fun _ _=>rfl))) dY))))))) (Gk (cG (aF (pv 3)) (jN (aG (XN.r (mY hu (bQ hu (aF (pv 0)) (XN.r (bW)) (fun _ _=>rfl)) (aF (pv 1)) ⟨rfl,rfl,rfl,rfl⟩)) aO))) gY))))))⟩
B5 Fd:aZ ["book", "at", "further", "box", "ahead", "number"] ["book", "at", "further"] (aK Vi):=by walk_at "fs"
B5 mq(R:Raw K mg "_law_left" Vi) (pK:lN P w K mg base "_law_pointed" 2 4 (spS K 4 nD)):lN P w K mg base "_law_left" 3 3 (spS K 3 Kr):=by
 &R.Hs Fd (fun _ _ _ _ _ _ us hl=>match us,hl with | [_,_,_],_=>rfl) (fun _ _ _ _ _ _ _ hr=>?_)
 have cQ:=hr.units
 have hu:=cI hr
 ~⟨_,aL (bK (i:=3) (XR.n (bI (bQ hu (aF (pv 0)) (XN.r (bW)) (fun _ _=>rfl)) (aF (pv 1)) (fun _ _=>rfl))) (fun h=>bB Fd.nd rfl (by first | ~D1 rfl | ~C9 rfl) h))
  (aL (bK (i:=4) (XR.n (bI (XN.r (cG (jN (aG (XN.r (aN)) aO)) (bQ hu (aF (pv 0)) (XN.r (bW)) (fun _ _=>rfl)))) (aF (pv 1)) (fun _ _=>rfl))) (fun h=>bB Fd.nd rfl (by first | ~D1 rfl | ~C9 rfl) h))
  (aL (pX (i:=5) (Cg pK cO (hr.mono A8) rfl (pv 0) (dF (aF (pv 4)) (Gk (XR.n (bI (bI (bQ hu (aF (pv 0)) (XN.r (bW)) (fun _ _=>rfl)) (aF (pv 3)) (fun _ _=>rfl)) (XN.r (aN)) (fun _ _=>rfl))) (Gk (cG (jN (aG (XN.r (mY hu (bQ hu (aF (pv 0)) (XN.r (bW)) (fun _ _=>rfl)) (aF (pv 3)) ⟨rfl,rfl,rfl,rfl⟩)) aO)) (aF (pv 2))) gY)))) (fun h=>bB Fd.nd rfl (by first | ~D1 rfl | ~C9 rfl) h))
  (aL (uZ (Hu hu (gP (pv 0)) (XN.r (bW)) (fun _ _=>rfl)) (aF (pv 3)) (aF (pv 5)) (fun a b c=>pN hu a b c rfl))
  (aL (aCP (Hu hu (gP (pv 0)) (XN.r (bW)) (fun _ _=>rfl)) (aF (pv 1)) (fun a b=>kE (sG E5 b6 b7 QH a (dG b jM))))
  (aU (uY (pv 5)))))))⟩
B5 Nv:aZ ["self", "place"] ["self", "place"] (aK tV):=by walk_at "fs"
B5 Li{κ:Nat→Addr}(R:gZ K (κ 1) "box_ahead" "Weaver.box_ahead" tV false) (aQ:jE K (κ 1) dX) (Gn:jL mg "HEAD" (0)):dO P w K mg base (κ 1) "box_ahead" 1 2 false (gW K 2 (jU κ)):=by
 &R.Jy Nv (fun _ _ _ _ _ _ us hl=>match us,hl with | [_,_],_=>rfl) (fun _ _ _ _ _ _ _ hr=>?_)
 have cQ:=hr.units
 have hu:=cI hr
 ~⟨_,aU (cA (XR.n (bI (XN.r (cG (jN (aG (XN.r (pG Gn rfl)) aO)) (dM aQ (aF (pv 0)) A7 rfl))) (aF (pv 1)) (fun _ _=>rfl))))⟩
B5 Io:aZ ["self", "number"] ["self", "number"] (aK qG):=by walk_at "fs"
B5 Fz{κ:Nat→Addr}(R:gZ K (κ 0) "check_change" "Bench.check_change" qG false) (bD:jE K (κ 0) jH) (dZ:mg "len" = none):dO P w K mg base (κ 0) "check_change" 1 2 false (gW K 2 (eG κ)):=by
 &R.Jy Io (fun _ _ _ _ _ _ us hl=>match us,hl with | [_,_],_=>rfl) (fun _ _ _ _ _ _ _ hr=>?_)
 have cQ:=hr.units
 have hu:=cI hr
 ~⟨_,aU (jK (oY (Ui aBz Xy uQ uQ (XN.r (aN)) (aF (pv 1)) (XN.r (fV eX (eY rfl) rfl dZ D9 (aG (dM bD (aF (pv 0)) A7 rfl) aO))))) (aU (IW)) fM)⟩
B5 Ah:aZ ["self", "pane", "place", "thing", "needs", "needed", "need", "number"] ["self", "pane", "place", "thing", "needs"] (aK Nj):=by walk_at "fs"
B5 YQ{κ:Nat→Addr}(R:gZ K (κ 0) "put" "Bench.put" Nj true) (bD:jE K (κ 0) jH) (jB:dO P w K mg base (κ 0) "check_place" 2 3 false (gW K 3 (jA κ))) (dB:dO P w K mg base (κ 0) "check_change" 1 2 false (gW K 2 (eG κ))) (iT:mg "list" = none) (dZ:mg "len" = none) (uJ:mg "sorted" = none) (aA3:mg "set" = none) (vN:mg "tuple" = none):dO P w K mg base (κ 0) "put" 3 5 true (spS K 5 (Ex κ)):=by
 &R.Hs Ah (fun T _ _ _ _ _ _ us=>⟨fun hl=>match us,hl with | [_,_,_,_,_],_=>⟨_,rfl,rfl⟩,fun hl=>match us,hl with | [_,_,_,_],_=>⟨_,rfl,rfl⟩⟩) (fun _ _ _ _ _ _ _ hr=>?_)
 have cQ:=hr.units
 have hu:=cI hr
 ~⟨_,aL (zL (XN.r (eE jB bD (hr.mono A8) (aF (pv 0)) (aG (aF (pv 1)) (aG (aF (pv 2)) aO)))))
  (aL (bK (i:=5) (aGm (eV dg jo (aF (pv 4)) (XN.r (Hf)) (cV _)) (tH dY) (Bw zF (zG rfl) rfl iT G5 (aG (aF (pv 4)) aO))) (fun h=>bB Ah.nd rfl (by first | ~D1 rfl | ~C9 rfl) h))
  (aL (JB PassesOwn.never rfl (pv 5) (kI (i:=6) Ah.nd rfl (by first | ~D1 rfl | ~C9 rfl)) (aU (zL (XN.r (eE dB bD (hr.mono A8) (aF (pv 0)) (aG (aF (pv 6)) aO))))))
  (aL (jK (xg hu (Uj (aG (aF (pv 1)) (aG (aF (pv 2)) aO))) (dM bD (aF (pv 0)) A7 rfl)) (aU (Ua (gP (pv 5)) (VF hu (dM bD (aF (pv 0)) A7 rfl) (Uj (aG (aF (pv 1)) (aG (aF (pv 2)) aO))) (fun _ _=>rfl)) (fun a b=>kE (sG E5 G8 G9 lM a (dG b jM))))) fM)
  (aL (bK (i:=7) (fV eX (eY rfl) rfl dZ D9 (aG (dM bD (aF (pv 0)) A7 rfl) aO)) (fun h=>bB Ah.nd rfl (by first | ~D1 rfl | ~C9 rfl) h))
  (aL (Rh (pA bD (gP (pv 0)) A7 rfl) (lC (aY (XR.n (aF (pv 1))) (aY (XR.n (aF (pv 2))) (aY (XR.n (aF (pv 3))) (aY (Bw RG (RJ rfl) rfl vN N5 (aG (XN.r (wg (aF (pv 5)) rfl uJ R5 rfl aA3 b8)) aO)) dY))))) (fun a b=>kE (sG E5 G8 G9 lM a (dG b jM))))
  (aL (aCG (pA bD (gP (pv 0)) A7 rfl) (Uj (aG (aF (pv 1)) (aG (aF (pv 2)) aO))) (aF (pv 7)) (fun a b c=>pN hu a b c rfl))
  (aL (Rh (RT (pA bD (gP (pv 0)) A7 rfl) (aF (pv 1)) (fun _ _=>rfl)) (XR.n (aF (pv 7))) (fun a b=>kE (sG E5 G8 G9 lM a (dG b jM))))
  (aU (uY (pv 7))))))))))⟩
B5 aFC:aZ ["numbers"] ["numbers"] (aK JV):=by walk_at "fs"
B5 aDc(R:Raw K mg "known" JV):lN P w K mg base "known" 1 1 (gW K 1 JW):=by
 &R.uW aFC (fun _ _ _ _ _ _ us hl=>match us,hl with | [_],_=>rfl) (fun _ _ _ _ _ _ _ hr=>?_)
 have cQ:=hr.units
 have hu:=cI hr
 ~⟨_,aU (cA (mD ["number"] [] rfl (.at (aK JV) ["numbers"] A7) (mX (aF (pv 0))) (iU A7 rfl rfl) (fun _ _ _ _ _=>Eh (eV DK Mw (aF (pv 0)) (XN.r (Hf)) (cV _))) (fun _ _ _ _ _=>XR.n (aF (pv 0)))))⟩
B5 xN:aZ ["self", "box", "record", "needed", "spot", "number"] ["self", "box", "record", "needed"] (aK zY):=by walk_at "fs"
B5 Vt{κ:Nat→Addr}(R:gZ K (κ 1) "write" "Weaver.write" zY false) (aQ:jE K (κ 1) dX) (bD:jE K (κ 0) jH) (Nx:dO P w K mg base (κ 0) "put" 3 5 true (spS K 5 (Ex κ))) (my:lN P w K mg base "known" 1 1 (gW K 1 JW)):dO P w K mg base (κ 1) "write" 4 4 false (spS K 4 (nO κ)):=by
 &R.Hs xN (fun _ _ _ _ _ _ us hl=>match us,hl with | [_,_,_,_],_=>rfl) (fun _ _ _ _ _ _ _ hr=>?_)
 have cQ:=hr.units
 have hu:=cI hr
 ~⟨_,aL (bK (i:=4) (XR.n (bI (dM aQ (aF (pv 0)) A7 rfl) (aF (pv 1)) (fun _ _=>rfl))) (fun h=>bB xN.nd rfl (by first | ~D1 rfl | ~C9 rfl) h))
  (aL (pX (i:=5) (uD Nx bD cO (hr.mono A8) (pA aQ (gP (pv 0)) A7 rfl) (dF (bI (aF (pv 4)) (XN.r (aN)) (fun _ _=>rfl)) (dF (bI (aF (pv 4)) (XN.r (aN)) (fun _ _=>rfl)) (dF (aF (pv 2)) (dF (XN.r (bZ my (hr.mono A8) rfl (aG (aF (pv 3)) aO))) gY))))) (fun h=>bB xN.nd rfl (by first | ~D1 rfl | ~C9 rfl) h))
  (aL (uZ (pA aQ (gP (pv 0)) A7 rfl) (aF (pv 1)) (aF (pv 5)) (fun a b c=>pN hu a b c rfl))
  (aU (uY (pv 5)))))⟩
B5 Lj:aZ ["self", "box", "record", "needed"] ["self", "box", "record", "needed"] (aK rA):=by walk_at "fs"
B5 Ip{κ:Nat→Addr}(R:gZ K (κ 1) "write_tied" "Weaver.write_tied" rA false) (aQ:jE K (κ 1) dX) (nR:dO P w K mg base (κ 1) "write" 4 4 false (spS K 4 (nO κ))) (jW:dO P w K mg base (κ 1) "coming_in" 1 2 false (gW K 2 (jR κ))):dO P w K mg base (κ 1) "write_tied" 5 4 false (spS K 4 (gR κ)):=by
 &R.Hs Lj (fun _ _ _ _ _ _ us hl=>match us,hl with | [_,_,_,_],_=>rfl) (fun _ _ _ _ _ _ _ hr=>?_)
 have cQ:=hr.units
 have hu:=cI hr
 ~⟨_,aU (oW (uD nR aQ cO (hr.mono A8) (gP (pv 0)) (dF (aF (pv 1)) (dF (aF (pv 2)) (Gk (cG (jN (aG (XN.r (eE jW aQ (hr.mono A8) (aF (pv 0)) (aG (aF (pv 1)) aO))) aO)) (aF (pv 3))) gY)))))⟩
B5 Lk:aZ ["self", "box", "following", "needed", "record"] ["self", "box", "following", "needed"] (aK Df):=by walk_at "fs"
B5 Xk{κ:Nat→Addr}(R:gZ K (κ 1) "link" "Weaver.link" Df false) (aQ:jE K (κ 1) dX) (bL:dO P w K mg base (κ 1) "record_of" 4 2 false (gW K 2 (bV κ))) (jC:dO P w K mg base (κ 1) "write_tied" 5 4 false (spS K 4 (gR κ))) (KR:jL mg "KEY" (0)) (aIk:jL mg "WAS" (2)) (aIl:jL mg "NOW" (3)) (aIm:jL mg "AGE" (4)):dO P w K mg base (κ 1) "link" 6 4 false (spS K 4 (nF κ)):=by
 &R.Hs Lk (fun _ _ _ _ _ _ us hl=>match us,hl with | [_,_,_,_],_=>rfl) (fun _ _ _ _ _ _ _ hr=>?_)
 have cQ:=hr.units
 have hu:=cI hr
 ~⟨_,aL (bK (i:=4) (eE bL aQ (hr.mono A8) (aF (pv 0)) (aG (aF (pv 1)) aO)) (fun h=>bB Lk.nd rfl (by first | ~D1 rfl | ~C9 rfl) h))
  (aU (oW (uD jC aQ cO (hr.mono A8) (gP (pv 0)) (dF (aF (pv 1)) (dF (XN.r (lC (aY (XR.n (bI (aF (pv 4)) (XN.r (pG KR rfl)) (fun _ _=>rfl))) (aY (XR.n (aF (pv 2))) (aY (XR.n (bI (aF (pv 4)) (XN.r (pG aIk rfl)) (fun _ _=>rfl))) (aY (XR.n (bI (aF (pv 4)) (XN.r (pG aIl rfl)) (fun _ _=>rfl))) (aY (XR.n (bI (aF (pv 4)) (XN.r (pG aIm rfl)) (fun _ _=>rfl))) dY))))))) (dF (aF (pv 3)) gY))))))⟩
B5 nG:aZ ["self", "needs", "further", "need"] ["self", "needs"] (aK oF):=by walk_at "fs"
B5 Bk{κ:Nat→Addr}(R:gZ K (κ 1) "further_needs" "Weaver.further_needs" oF false) (bD:jE K (κ 0) jH) (aQ:jE K (κ 1) dX) (dB:dO P w K mg base (κ 0) "check_change" 1 2 false (gW K 2 (eG κ))) (iT:mg "list" = none):dO P w K mg base (κ 1) "further_needs" 2 2 false (gW K 2 (cJ κ)):=by
 &R.Jy nG (fun _ _ _ _ _ _ us hl=>match us,hl with | [_,_],_=>rfl) (fun _ _ _ _ _ _ _ hr=>?_)
 have cQ:=hr.units
 have hu:=cI hr
 ~⟨_,aL (bK (i:=2) (aGm (eV dg jo (aF (pv 1)) (XN.r (Hf)) (cV _)) (tH dY) (Bw zF (zG rfl) rfl iT G5 (aG (aF (pv 1)) aO))) (fun h=>bB nG.nd rfl (by first | ~D1 rfl | ~C9 rfl) h))
  (aL (JB PassesOwn.never rfl (pv 2) (kI (i:=3) nG.nd rfl (by first | ~D1 rfl | ~C9 rfl)) (aU (zL (XN.r (eE dB bD (hr.mono A8) (dM aQ (aF (pv 0)) A7 rfl) (aG (aF (pv 3)) aO))))))
  (aU (HS (pv 2))))⟩
B5 rY:aZ ["self", "box", "needs", "ahead", "needed", "going"] ["self", "box", "needs"] (aK zZ):=by walk_at "fs"
B5 Vu{κ:Nat→Addr}(R:gZ K (κ 1) "leave" "Weaver.leave" zZ true) (aQ:jE K (κ 1) dX) (jY:dO P w K mg base (κ 1) "box_ahead" 1 2 false (gW K 2 (jU κ))) (iK:dO P w K mg base (κ 1) "last_change" 1 2 false (gW K 2 (iJ κ))) (cL:dO P w K mg base (κ 1) "further_needs" 2 2 false (gW K 2 (cJ κ))) (pL:dO P w K mg base (κ 1) "link" 6 4 false (spS K 4 (nF κ))) (bL:dO P w K mg base (κ 1) "record_of" 4 2 false (gW K 2 (bV κ))) (yM:jL mg "NEXT" (1)):dO P w K mg base (κ 1) "leave" 7 3 true (spS K 3 (nP κ)):=by
 &R.Hs rY (fun T _ _ _ _ _ _ us=>⟨fun hl=>match us,hl with | [_,_,_],_=>⟨_,rfl,rfl⟩,fun hl=>match us,hl with | [_,_],_=>⟨_,rfl,rfl⟩⟩) (fun _ _ _ _ _ _ _ hr=>?_)
 have cQ:=hr.units
 have hu:=cI hr
 ~⟨_,aL (bK (i:=3) (eE jY aQ (hr.mono A8) (aF (pv 0)) (aG (XN.r (aCM (dM aQ (aF (pv 0)) A7 rfl) (aF (pv 1)) (fun a b=>sG E5 PySem.F.slot_list_index PySem.F.type_list_index aCL a (dG b jM)))) aO)) (fun h=>bB rY.nd rfl (by first | ~D1 rfl | ~C9 rfl) h))
  (aL (bK (i:=4) (cG (jN (aG (XN.r (eE iK aQ (hr.mono A8) (aF (pv 0)) (aG (aF (pv 1)) aO))) aO)) (XN.r (eE cL aQ (hr.mono A8) (aF (pv 0)) (aG (aF (pv 2)) aO)))) (fun h=>bB rY.nd rfl (by first | ~D1 rfl | ~C9 rfl) h))
  (aL (pX (i:=5) (uD pL aQ cO (hr.mono A8) (gP (pv 0)) (dF (aF (pv 3)) (Gk (XR.n (bI (XN.r (eE bL aQ (hr.mono A8) (aF (pv 0)) (aG (aF (pv 1)) aO))) (XN.r (pG yM rfl)) (fun _ _=>rfl))) (dF (aF (pv 4)) gY)))) (fun h=>bB rY.nd rfl (by first | ~D1 rfl | ~C9 rfl) h))
  (aL (yd (pA aQ (gP (pv 0)) A7 rfl) (aF (pv 1)) (fun a b=>kE (sG E5 X8 X9 Zc a (dG b jM))))
  (aL (Rh (pA aQ (gP (pv 0)) A7 rfl) (XR.n (aF (pv 1))) (fun a b=>kE (sG E5 G8 G9 lM a (dG b jM))))
  (aL (uZ (pA aQ (gP (pv 0)) A7 rfl) (aF (pv 1)) (aF (pv 5)) (fun a b c=>pN hu a b c rfl))
  (aU (uY (pv 5))))))))⟩
B5 Ir:aZ ["weaver", "box", "further", "way", "given", "found"] ["weaver", "box", "further", "way"] (aK Nk):=by walk_at "fs"
B5 YT{κ:Nat→Addr}(R:Raw K mg "_law_leave" Nk) (aQ:jE K (κ 1) dX) (uK:dO P w K mg base (κ 1) "leave" 7 3 true (spS K 3 (nP κ))) (iT:mg "list" = none):lN P w K mg base "_law_leave" 8 4 (spS K 4 (Ey κ)):=by
 &R.Hs Ir (fun _ _ _ _ _ _ us hl=>match us,hl with | [_,_,_,_],_=>rfl) (fun _ _ _ _ _ _ _ hr=>?_)
 have cQ:=hr.units
 have hu:=cI hr
 ~⟨_,aL (bK (i:=4) (Bw zF (zG rfl) rfl iT G5 (aG (aF (pv 2)) aO)) (fun h=>bB Ir.nd rfl (by first | ~D1 rfl | ~C9 rfl) h))
  (aL (jK (XW.xt (Tu (eV (or_eq cQ rfl) sH (aF (pv 4)) (jN aO) (cV _)) (Jr (eV (or_eq cQ rfl) sH (aF (pv 3)) (XN.r (aN)) (cV _))))) (aU (oW (Jw uK aQ cO (hr.mono A8) (gP (pv 0)) (dF (aF (pv 1)) gY)))) fM)
  (aL (pX (i:=5) (uD uK aQ cO (hr.mono A8) (gP (pv 0)) (dF (aF (pv 1)) (dF (aF (pv 4)) gY))) (fun h=>bB Ir.nd rfl (by first | ~D1 rfl | ~C9 rfl) h))
  (aL (jK (eV (Gh cQ rfl) Gg (aF (pv 4)) (aF (pv 2)) (cV _)) (aU (oW (zK (Hf)))) fM)
  (aL (Ua (gP (pv 4)) aN (fun a b=>kE (sG E5 G8 G9 lM a (dG b jM))))
  (aU (uY (pv 5)))))))⟩
B5 YW:aZ ["found", "due"] ["found", "due"] (aK Aa):=by walk_at "fs"
B5 KY(R:Raw K mg "_law_change" Aa) (iM:lN P w K mg base "_law_whole" 1 1 (gW K 1 gQ)) (dZ:mg "len" = none) (fZ:mg "isinstance" = none) (vN:mg "tuple" = none) (Qu:mg "all" = none):lN P w K mg base "_law_change" 2 2 (gW K 2 vK):=by
 &R.uW YW (fun _ _ _ _ _ _ us hl=>match us,hl with | [_,_],_=>rfl) (fun _ _ _ _ _ _ _ hr=>?_)
 have cQ:=hr.units
 have hu:=cI hr
 ~⟨_,aL (jK (XW.xt (Tv (oY (qQ (XN.r (Ms (aF (pv 0)) (Dy (v:=.ty "tuple") rfl vN N5 rfl) rfl fZ)))) (Tv (eV (Gh cQ rfl) Gg (XN.r (fV eX (eY rfl) rfl dZ D9 (aG (aF (pv 0)) aO))) (XN.r (aN)) (cV _)) (Tv (oY (qQ (XN.r (bZ iM (hr.mono A8) rfl (aG (bI (aF (pv 0)) (XN.r (aN)) (fun _ _=>rfl)) aO))))) (GZ (oY (qQ (XN.r (bZ iM (hr.mono A8) rfl (aG (bI (aF (pv 0)) (XN.r (aN)) (fun _ _=>rfl)) aO)))))))))) (aU (cA (uR))) fM)
  (aL (jK (XW.xt (Tv (oY (qQ (XN.r (Ms (bI (aF (pv 0)) (XN.r (aN)) (fun _ _=>rfl)) (Dy (v:=.ty "tuple") rfl vN N5 rfl) rfl fZ)))) (GZ (oY (qQ (XN.r (Ms (bI (aF (pv 0)) (XN.r (aN)) (fun _ _=>rfl)) (Dy (v:=.ty "tuple") rfl vN N5 rfl) rfl fZ))))))) (aU (cA (uR))) fM)
  (aU (cA (Ml (XN.r (fV HF (HH rfl) rfl Qu Q2 (aG (XN.r (mD ["one"] [] rfl (.at (aK Aa) ["found", "due"] A7) (mX (XN.r (aFb (bI (aF (pv 0)) (XN.r (aN)) (fun _ _=>rfl)) (bI (aF (pv 0)) (XN.r (aN)) (fun _ _=>rfl))))) (iU A7 rfl rfl) (fun _ _ _ _ _=>nJ) (fun _ _ _ _ _=>bZ iM (hr.mono A8) rfl (aG (aF (pv 0)) aO)))) aO))) (wF (Hg (or_eq cQ rfl) sH (aF (pv 0)) (aF (pv 1)) (cV _)))))))⟩
B5 KZ:aZ ["thing"] ["thing"] (aK wV):=by walk_at "fs"
B5 Xl(R:Raw K mg "_law_numbers" wV) (iM:lN P w K mg base "_law_whole" 1 1 (gW K 1 gQ)) (Qu:mg "all" = none) (fZ:mg "isinstance" = none) (iT:mg "list" = none):lN P w K mg base "_law_numbers" 2 1 (gW K 1 sX):=by
 &R.uW KZ (fun _ _ _ _ _ _ us hl=>match us,hl with | [_],_=>rfl) (fun _ _ _ _ _ _ _ hr=>?_)
 have cQ:=hr.units
 have hu:=cI hr
 ~⟨_,aU (cA (Ml (XN.r (Ms (aF (pv 0)) (Dy (v:=.ty "list") rfl iT G5 rfl) rfl fZ)) (wF (fV HF (HH rfl) rfl Qu Q2 (aG (XN.r (mD ["one"] [] rfl (.at (aK wV) ["thing"] A7) (mX (aF (pv 0))) (iU A7 rfl rfl) (fun _ _ _ _ _=>nJ) (fun _ _ _ _ _=>bZ iM (hr.mono A8) rfl (aG (aF (pv 0)) aO)))) aO)))))⟩
B5 Xm:aZ ["self"] ["self"] (aK Ab):=by walk_at "fs"
B5 Vv{κ:Nat→Addr}(R:gZ K (κ 1) "order" "Weaver.order" Ab false) (aQ:jE K (κ 1) dX) (iT:mg "list" = none):dO P w K mg base (κ 1) "order" 1 1 false (gW K 1 (qH κ)):=by
 &R.Jy Xm (fun _ _ _ _ _ _ us hl=>match us,hl with | [_],_=>rfl) (fun _ _ _ _ _ _ _ hr=>?_)
 have cQ:=hr.units
 have hu:=cI hr
 ~⟨_,aU (cA (Bw zF (zG rfl) rfl iT G5 (aG (dM aQ (aF (pv 0)) A7 rfl) aO)))⟩
B5 LC:aZ ["self"] ["self"] (aK Dg):=by walk_at "fs"
B5 Xn{κ:Nat→Addr}(R:gZ K (κ 1) "free" "Weaver.free" Dg false) (aQ:jE K (κ 1) dX) (uJ:mg "sorted" = none):dO P w K mg base (κ 1) "free" 1 1 false (gW K 1 (sY κ)):=by
 &R.Jy LC (fun _ _ _ _ _ _ us hl=>match us,hl with | [_],_=>rfl) (fun _ _ _ _ _ _ _ hr=>?_)
 have cQ:=hr.units
 have hu:=cI hr
 ~⟨_,aU (cA (fV aAv (aAw rfl) rfl uJ R5 (aG (dM aQ (aF (pv 0)) A7 rfl) aO)))⟩
B5 Ny:aZ ["book", "there", "box"] ["book"] (aK Kv):=by walk_at "fs"
B5 mz(R:Raw K mg "_law_free" Kv) (dZ:mg "len" = none) (iH:mg "range" = none):lN P w K mg base "_law_free" 1 1 (gW K 1 qI):=by
 &R.uW Ny (fun _ _ _ _ _ _ us hl=>match us,hl with | [_],_=>rfl) (fun _ _ _ _ _ _ _ hr=>?_)
 have cQ:=hr.units
 have hu:=cI hr
 ~⟨_,aL (bK (i:=1) (rO) (fun h=>bB Ny.nd rfl (by first | ~D1 rfl | ~C9 rfl) h))
  (aL (HW [] PassesOwn.never rfl (mX (bQ hu (aF (pv 0)) (XN.r (bW)) (fun _ _=>rfl))) (kI (i:=2) Ny.nd rfl (by first | ~D1 rfl | ~C9 rfl)) (aU (HY (gP (pv 1)) (aF (pv 2)) (XN.r (uR)) (fun a b c=>pN hu a b c rfl))))
  (aU (cA (mD ["box", "there"] [1] rfl (.at (aK Kv) ["book", "there", "box"] A7) (aGq (fun h=>Lx rfl iH h) (aG (XN.r (aN)) (aG (XN.r (fV eX (eY rfl) rfl dZ D9 (aG (bQ hu (aF (pv 0)) (XN.r (bW)) (fun _ _=>rfl)) aO))) aO))) (iU A7 rfl rfl) (fun _ _ _ _ _=>Eh (Mj hu (aF (pv 0)) (aF (pv 1)))) (fun _ _ _ _ _=>XR.n (aF (pv 0)))))))⟩
B5 Xo:aZ ["self", "number"] ["self", "number"] (aK Ac):=by walk_at "fs"
B5 Vw{κ:Nat→Addr}(R:gZ K (κ 0) "change" "Bench.change" Ac false) (bD:jE K (κ 0) jH) (dB:dO P w K mg base (κ 0) "check_change" 1 2 false (gW K 2 (eG κ))):dO P w K mg base (κ 0) "change" 2 2 false (gW K 2 (uG κ)):=by
 &R.Jy Xo (fun _ _ _ _ _ _ us hl=>match us,hl with | [_,_],_=>rfl) (fun _ _ _ _ _ _ _ hr=>?_)
 have cQ:=hr.units
 have hu:=cI hr
 ~⟨_,aL (zL (XN.r (eE dB bD (hr.mono A8) (aF (pv 0)) (aG (aF (pv 1)) aO))))
  (aU (cA (XR.n (bI (dM bD (aF (pv 0)) A7 rfl) (aF (pv 1)) (fun _ _=>rfl)))))⟩
B5 BP:aZ ["weaver", "book", "before", "number"] ["weaver", "book", "before"] (aK Vk):=by walk_at "fs"
B5 ni{κ:Nat→Addr}(R:Raw K mg "_law_same" Vk) (bD:jE K (κ 0) jH) (aQ:jE K (κ 1) dX) (Ai:dO P w K mg base (κ 0) "change" 2 2 false (gW K 2 (uG κ))) (Iu:lN P w K mg base "_law_change" 2 2 (gW K 2 vK)) (wX:dO P w K mg base (κ 1) "free" 1 1 false (gW K 1 (sY κ))) (wY:lN P w K mg base "_law_numbers" 2 1 (gW K 1 sX)) (uL:dO P w K mg base (κ 1) "order" 1 1 false (gW K 1 (qH κ))) (qM:lN P w K mg base "_law_free" 1 1 (gW K 1 qI)) (dZ:mg "len" = none) (iH:mg "range" = none):lN P w K mg base "_law_same" 3 3 (gW K 3 (vL κ)):=by
 &R.uW BP (fun _ _ _ _ _ _ us hl=>match us,hl with | [_,_,_],_=>rfl) (fun _ _ _ _ _ _ _ hr=>?_)
 have cQ:=hr.units
 have hu:=cI hr
 ~⟨_,aL (Ju PassesOwn.never rfl (aAA (fun h=>Lx rfl iH h) (aG (aF (pv 2)) (aG (XN.r (fV eX (eY rfl) rfl dZ D9 (aG (bQ hu (aF (pv 1)) (XN.r (bW)) (fun _ _=>rfl)) aO))) aO))) (kI (i:=3) BP.nd rfl (by first | ~D1 rfl | ~C9 rfl)) (aU (jK (oY (qQ (XN.r (bZ Iu (hr.mono A8) rfl (aG (XN.r (eE Ai bD (hr.mono A8) (dM aQ (aF (pv 0)) A7 rfl) (aG (aF (pv 3)) aO))) (aG (bI (bQ hu (aF (pv 1)) (XN.r (bW)) (fun _ _=>rfl)) (aF (pv 3)) (fun _ _=>rfl)) aO)))))) (aU (cA (uR))) fM)))
  (aL (jK (XW.xt (Tv (oY (qQ (XN.r (bZ wY (hr.mono A8) rfl (aG (XN.r (Cj uL aQ (hr.mono A8) (aF (pv 0)))) aO))))) (GZ (oY (qQ (XN.r (bZ wY (hr.mono A8) rfl (aG (XN.r (Cj wX aQ (hr.mono A8) (aF (pv 0)))) aO)))))))) (aU (cA (uR))) fM)
  (aU (cA (Ml (XN.r (Hg (or_eq cQ rfl) sH (XN.r (Cj uL aQ (hr.mono A8) (aF (pv 0)))) (bQ hu (aF (pv 1)) (XN.r (bW)) (fun _ _=>rfl)) (cV _))) (wF (Hg (or_eq cQ rfl) sH (XN.r (Cj wX aQ (hr.mono A8) (aF (pv 0)))) (XN.r (bZ qM (hr.mono A8) rfl (aG (aF (pv 1)) aO))) (cV _)))))))⟩
B5 nT:aZ ["weaver", "book", "cell", "before", "at", "rest", "box", "ahead", "further", "due", "found"] ["weaver", "book", "cell"] (aK Vl):=by walk_at "fs"
B5 nj{κ:Nat→Addr}(R:Raw K mg "_law_step" Vl) (Dm:lN P w K mg base "_law_further" 1 2 (gW K 2 sW)) (Vx:lN P w K mg base "_law_left" 3 3 (spS K 3 Kr)) (Nz:lN P w K mg base "_law_leave" 8 4 (spS K 4 (Ey κ))) (yO:lN P w K mg base "_law_same" 3 3 (gW K 3 (vL κ))) (iM:lN P w K mg base "_law_whole" 1 1 (gW K 1 gQ)) (rF:lN P w K mg base "_law_known" 5 3 (gW K 3 (pI κ))) (dZ:mg "len" = none):lN P w K mg base "_law_step" 9 3 (spG K [true,true,false] (Dh κ)):=by
 &R.aJM (mask:=[true,true,false]) nT (fun _ _ _ _ _ _ us hl=>match us,hl with | [_,_,_],_=>rfl) rfl (fun _ _ _ _ _ _ _ hr=>?_)
 have cQ:=hr.units
 have hu:=cI hr
 ~⟨_,aL (bK (i:=3) (fV eX (eY rfl) rfl dZ D9 (aG (bQ hu (aF (pv 1)) (XN.r (bW)) (fun _ _=>rfl)) aO)) (fun h=>bB nT.nd rfl (by first | ~D1 rfl | ~C9 rfl) h))
  (aL (bK (i:=4) (bU (aF (pv 2)) (XN.r (fV eX (eY rfl) rfl dZ D9 (aG (bQ hu (aF (pv 1)) (XN.r (bW)) (fun _ _=>rfl)) aO)))) (fun h=>bB nT.nd rfl (by first | ~D1 rfl | ~C9 rfl) h))
  (aL (bK (i:=5) (lB (aF (pv 2)) (XN.r (fV eX (eY rfl) rfl dZ D9 (aG (bQ hu (aF (pv 1)) (XN.r (bW)) (fun _ _=>rfl)) aO)))) (fun h=>bB nT.nd rfl (by first | ~D1 rfl | ~C9 rfl) h))
  (aL (bK (i:=6) (XR.n (bI (bQ hu (aF (pv 1)) (XN.r (bW)) (fun _ _=>rfl)) (aF (pv 4)) (fun _ _=>rfl))) (fun h=>bB nT.nd rfl (by first | ~D1 rfl | ~C9 rfl) h))
  (aL (bK (i:=7) (XR.n (bI (XN.r (cG (jN (aG (XN.r (aN)) aO)) (bQ hu (aF (pv 1)) (XN.r (bW)) (fun _ _=>rfl)))) (aF (pv 4)) (fun _ _=>rfl))) (fun h=>bB nT.nd rfl (by first | ~D1 rfl | ~C9 rfl) h))
  (aL (bK (i:=8) (bZ Dm (hr.mono A8) rfl (aG (XN.r (lB (aF (pv 5)) (XN.r (aN)))) (aG (aF (pv 3)) aO))) (fun h=>bB nT.nd rfl (by first | ~D1 rfl | ~C9 rfl) h))
  (aL (pX (i:=9) (Cg Vx cO (hr.mono A8) rfl (pv 1) (dF (aF (pv 4)) (dF (aF (pv 8)) gY))) (fun h=>bB nT.nd rfl (by first | ~D1 rfl | ~C9 rfl) h))
  (aL (pX (i:=10) (Cg Nz cO (hr.mono A8) rfl (pv 0) (dF (aF (pv 6)) (dF (aF (pv 8)) (dF (XN.r (bU (aF (pv 5)) (XN.r (aN)))) gY)))) (fun h=>bB nT.nd rfl (by first | ~D1 rfl | ~C9 rfl) h))
  (aL (jK (XW.xt (Tv (oY (qQ (XN.r (bZ iM (hr.mono A8) rfl (aG (aF (pv 10)) aO))))) (Tv (eV (Gh cQ rfl) Gg (aF (pv 10)) (aF (pv 9)) (cV _)) (GZ (oY (qQ (XN.r (bZ yO (hr.mono A8) rfl (aG (aF (pv 0)) (aG (aF (pv 1)) (aG (aF (pv 3)) aO))))))))))) (aU (oW (zK (uR)))) fM)
  (aU (oW (zK (Ml (XN.r (bZ rF (hr.mono A8) rfl (aG (aF (pv 0)) (aG (aF (pv 1)) (aG (aF (pv 6)) aO))))) (wF (bZ rF (hr.mono A8) rfl (aG (aF (pv 0)) (aG (aF (pv 1)) (aG (aF (pv 7)) aO)))))))))))))))))⟩
B5 Bc:aZ ["self", "box", "was", "now", "age", "needs", "record"] ["self", "box", "was", "now", "age", "needs"] (aK vM):=by walk_at "fs"
B5 Oa{κ:Nat→Addr}(R:gZ K (κ 1) "rewrite" "Weaver.rewrite" vM true) (aQ:jE K (κ 1) dX) (bL:dO P w K mg base (κ 1) "record_of" 4 2 false (gW K 2 (bV κ))) (jC:dO P w K mg base (κ 1) "write_tied" 5 4 false (spS K 4 (gR κ))) (cL:dO P w K mg base (κ 1) "further_needs" 2 2 false (gW K 2 (cJ κ))) (KR:jL mg "KEY" (0)) (yM:jL mg "NEXT" (1)):dO P w K mg base (κ 1) "rewrite" 6 6 true (spS K 6 (qJ κ)):=by
 &R.Hs Bc (fun T _ _ _ _ _ _ us=>⟨fun hl=>match us,hl with | [_,_,_,_,_,_],_=>⟨_,rfl,rfl⟩,fun hl=>match us,hl with | [_,_,_,_,_],_=>⟨_,rfl,rfl⟩⟩) (fun _ _ _ _ _ _ _ hr=>?_)
 have cQ:=hr.units
 have hu:=cI hr
 ~⟨_,aL (bK (i:=6) (eE bL aQ (hr.mono A8) (aF (pv 0)) (aG (aF (pv 1)) aO)) (fun h=>bB Bc.nd rfl (by first | ~D1 rfl | ~C9 rfl) h))
  (aU (oW (uD jC aQ cO (hr.mono A8) (gP (pv 0)) (dF (aF (pv 1)) (dF (XN.r (lC (aY (XR.n (bI (aF (pv 6)) (XN.r (pG KR rfl)) (fun _ _=>rfl))) (aY (XR.n (bI (aF (pv 6)) (XN.r (pG yM rfl)) (fun _ _=>rfl))) (aY (XR.n (aF (pv 2))) (aY (XR.n (aF (pv 3))) (aY (XR.n (aF (pv 4))) dY))))))) (Gk (eE cL aQ (hr.mono A8) (aF (pv 0)) (aG (aF (pv 5)) aO)) gY))))))⟩
B5 YX:aZ ["book", "at", "cell", "keys"] ["book", "at", "cell"] (aK Ro):=by walk_at "fs"
B5 aA4(R:Raw K mg "_law_key" Ro) (dZ:mg "len" = none):lN P w K mg base "_law_key" 1 3 (gW K 3 Ky):=by
 &R.uW YX (fun _ _ _ _ _ _ us hl=>match us,hl with | [_,_,_],_=>rfl) (fun _ _ _ _ _ _ _ hr=>?_)
 have cQ:=hr.units
 have hu:=cI hr
 ~⟨_,aL (Rc (i:=3) ["box", "book"] [0] rfl (.at (aK Ro) ["book", "at", "cell", "keys"] A7) YX.nd rfl (by first | ~D1 rfl | ~C9 rfl) (mX (bQ hu (aF (pv 0)) (XN.r (bW)) (fun _ _=>rfl))) (iU A7 rfl rfl) (fun _ _ _ _ _=>nJ) (fun _ _ _ _ _=>XR.n (bI (bI (bQ hu (aF (pv 1)) (XN.r (bW)) (fun _ _=>rfl)) (aF (pv 0)) (fun _ _=>rfl)) (XN.r (aN)) (fun _ _=>rfl))))
  (aL (jK (eV (or_eq cQ rfl) sH (aF (pv 3)) (jN aO) (cV _)) (aU (cA (lC (aY (bU (aF (pv 2)) (XN.r (Bv (XN.r (aN)) (XN.r (aN))))) (aY aN dY))))) fM)
  (aL (jK (eV (or_eq cQ rfl) sH (aF (pv 1)) (XN.r (aN)) (cV _)) (aU (cA (lC (aY (wZ (XN.r (wZ (bI (aF (pv 3)) (XN.r (aN)) (fun _ _=>rfl)) (XN.r (aN)))) (XN.r (bU (aF (pv 2)) (XN.r (Bv (XN.r (aN)) (XN.r (aN))))))) (aY aN dY))))) fM)
  (aL (jK (XW.xt (Tu (eV Xy uQ (aF (pv 1)) (XN.r (fV eX (eY rfl) rfl dZ D9 (aG (aF (pv 3)) aO))) (cV _)) (Jr (eV aF6 uQ (XN.r (wZ (bI (aF (pv 3)) (aF (pv 1)) (fun _ _=>rfl)) (bI (aF (pv 3)) (XN.r (wZ (aF (pv 1)) (XN.r (aN)))) (fun _ _=>rfl)))) (XN.r (aN)) (cV _))))) (aU (cA (lC (aY (cG (XN.r (cG (bI (aF (pv 3)) (XN.r (wZ (aF (pv 1)) (XN.r (aN)))) (fun _ _=>rfl)) (XN.r (aN)))) (XN.r (bU (aF (pv 2)) (XN.r (wZ (XN.r (wZ (bI (aF (pv 3)) (aF (pv 1)) (fun _ _=>rfl)) (bI (aF (pv 3)) (XN.r (wZ (aF (pv 1)) (XN.r (aN)))) (fun _ _=>rfl)))) (XN.r (aN))))))) (aY (XR.n (aF (pv 1))) dY))))) fM)
  (aU (cA (lC (aY (cG (XN.r (cG (bI (aF (pv 3)) (XN.r (uC (XN.r (aN)))) (fun _ _=>rfl)) (XN.r (aN)))) (XN.r (bU (aF (pv 2)) (XN.r (Bv (XN.r (aN)) (XN.r (aN))))))) (aY (fV eX (eY rfl) rfl dZ D9 (aG (aF (pv 3)) aO)) dY))))))))⟩
B5 nU:aZ ["book", "at", "some", "further", "box", "ahead", "new", "first", "number"] ["book", "at", "some", "further"] (aK Dj):=by walk_at "fs"
B5 Xp(R:Raw K mg "_law_entered" Dj) (qM:lN P w K mg base "_law_free" 1 1 (gW K 1 qI)) (kY:lN P w K mg base "_law_changed" 1 4 (spS K 4 lX)) (pK:lN P w K mg base "_law_pointed" 2 4 (spS K 4 nD)):lN P w K mg base "_law_entered" 3 4 (spS K 4 wW):=by
 &R.Hs nU (fun _ _ _ _ _ _ us hl=>match us,hl with | [_,_,_,_],_=>rfl) (fun _ _ _ _ _ _ _ hr=>?_)
 have cQ:=hr.units
 have hu:=cI hr
 ~⟨_,aL (bK (i:=4) (XR.n (bI (XN.r (bZ qM (hr.mono A8) rfl (aG (aF (pv 0)) aO))) (XN.r (aN)) (fun _ _=>rfl))) (fun h=>bB nU.nd rfl (by first | ~D1 rfl | ~C9 rfl) h))
  (aL (bK (i:=5) (XR.n (bI (XN.r (cG (jN (aG (XN.r (aN)) aO)) (bQ hu (aF (pv 0)) (XN.r (bW)) (fun _ _=>rfl)))) (aF (pv 1)) (fun _ _=>rfl))) (fun h=>bB nU.nd rfl (by first | ~D1 rfl | ~C9 rfl) h))
  (aL (bK (i:=6) (lC (aY (XR.n (bI (aF (pv 2)) (XN.r (aN)) (fun _ _=>rfl))) (aY (XR.n (bI (bI (bQ hu (aF (pv 0)) (XN.r (bW)) (fun _ _=>rfl)) (aF (pv 5)) (fun _ _=>rfl)) (XN.r (aN)) (fun _ _=>rfl))) (aY (XR.n (bI (aF (pv 2)) (XN.r (aN)) (fun _ _=>rfl))) (aY (XR.n (bI (aF (pv 2)) (XN.r (aN)) (fun _ _=>rfl))) (aY (XR.n (bI (aF (pv 2)) (XN.r (aN)) (fun _ _=>rfl))) dY)))))) (fun h=>bB nU.nd rfl (by first | ~D1 rfl | ~C9 rfl) h))
  (aL (pX (i:=7) (Cg kY cO (hr.mono A8) rfl (pv 0) (dF (aF (pv 4)) (dF (aF (pv 6)) (Gk (tH (aY (mY hu (bQ hu (aF (pv 0)) (XN.r (bW)) (fun _ _=>rfl)) (aF (pv 4)) ⟨rfl,rfl,rfl,rfl⟩) dY)) gY)))) (fun h=>bB nU.nd rfl (by first | ~D1 rfl | ~C9 rfl) h))
  (aL (pX (i:=8) (Cg pK cO (hr.mono A8) rfl (pv 0) (dF (aF (pv 5)) (dF (aF (pv 4)) (dF (XN.r (cG (jN (aG (aF (pv 7)) aO)) (aF (pv 3)))) gY)))) (fun h=>bB nU.nd rfl (by first | ~D1 rfl | ~C9 rfl) h))
  (aL (uZ (Hu hu (gP (pv 0)) (XN.r (bW)) (fun _ _=>rfl)) (aF (pv 4)) (aF (pv 8)) (fun a b c=>pN hu a b c rfl))
  (aL (yc (Hu hu (gP (pv 0)) (XN.r (bW)) (fun _ _=>rfl)) (aF (pv 1)) (aF (pv 4)) (fun a b c=>kE (sG E5 Y0 Y1 Zb a (dG b (dG c jM)))))
  (aU (oW (zK (lC (aY (XR.n (aF (pv 4))) (aY (XR.n (aF (pv 8))) dY))))))))))))⟩
B5 lD:aZ ["self", "key", "was", "now", "age", "needs", "further", "place", "ahead", "box", "filled", "coming"] ["self", "key", "was", "now", "age", "needs"] (aK uH):=by walk_at "fs"
B5 Vy{κ:Nat→Addr}(R:gZ K (κ 1) "enter" "Weaver.enter" uH true) (aQ:jE K (κ 1) dX) (cL:dO P w K mg base (κ 1) "further_needs" 2 2 false (gW K 2 (cJ κ))) (bL:dO P w K mg base (κ 1) "record_of" 4 2 false (gW K 2 (bV κ))) (jY:dO P w K mg base (κ 1) "box_ahead" 1 2 false (gW K 2 (jU κ))) (nR:dO P w K mg base (κ 1) "write" 4 4 false (spS K 4 (nO κ))) (jX:dO P w K mg base (κ 1) "going_out" 1 2 false (gW K 2 (jT κ))) (pL:dO P w K mg base (κ 1) "link" 6 4 false (spS K 4 (nF κ))) (dZ:mg "len" = none) (aIn:mg "min" = none) (KR:jL mg "KEY" (0)) (yM:jL mg "NEXT" (1)):dO P w K mg base (κ 1) "enter" 7 6 true (spS K 6 (qK κ)):=by
 &R.Hs lD (fun T _ _ _ _ _ _ us=>⟨fun hl=>match us,hl with | [_,_,_,_,_,_],_=>⟨_,rfl,rfl⟩,fun hl=>match us,hl with | [_,_,_,_,_],_=>⟨_,rfl,rfl⟩⟩) (fun _ _ _ _ _ _ _ hr=>?_)
 have cQ:=hr.units
 have hu:=cI hr
 ~⟨_,aL (jK (eV (or_eq cQ rfl) sH (XN.r (fV eX (eY rfl) rfl dZ D9 (aG (dM aQ (aF (pv 0)) A7 rfl) aO))) (XN.r (aN)) (cV _)) (aU (IW)) fM)
  (aL (bK (i:=6) (eE cL aQ (hr.mono A8) (aF (pv 0)) (aG (aF (pv 5)) aO)) (fun h=>bB lD.nd rfl (by first | ~D1 rfl | ~C9 rfl) h))
  (aL (bK (i:=7) (fV eX (eY rfl) rfl dZ D9 (aG (XN.r (mD ["box", "self", "key"] [0,1] rfl (.at (aK uH) ["self", "key", "was", "now", "age", "needs", "further", "place", "ahead", "box", "filled", "coming"] A7) (mX (dM aQ (aF (pv 0)) A7 rfl)) (iU A7 rfl rfl) (fun _ _ _ _ _=>Eh (eV Xy uQ (bI (XN.r (eE bL aQ (hr.mono A8) (aF (pv 1)) (aG (aF (pv 0)) aO))) (XN.r (pG KR rfl)) (fun _ _=>rfl)) (aF (pv 2)) (cV _))) (fun _ _ _ _ _=>XR.n (aF (pv 0))))) aO)) (fun h=>bB lD.nd rfl (by first | ~D1 rfl | ~C9 rfl) h))
  (aL (bK (i:=8) (eE jY aQ (hr.mono A8) (aF (pv 0)) (aG (aF (pv 7)) aO)) (fun h=>bB lD.nd rfl (by first | ~D1 rfl | ~C9 rfl) h))
  (aL (bK (i:=9) (fV aE1 (aE2 rfl) rfl aIn PyProof.Rows.boot_min (aG (dM aQ (aF (pv 0)) A7 rfl) aO)) (fun h=>bB lD.nd rfl (by first | ~D1 rfl | ~C9 rfl) h))
  (aL (pX (i:=10) (uD nR aQ cO (hr.mono A8) (gP (pv 0)) (dF (aF (pv 9)) (Gk (lC (aY (XR.n (aF (pv 1))) (aY (XR.n (bI (XN.r (eE bL aQ (hr.mono A8) (aF (pv 0)) (aG (aF (pv 8)) aO))) (XN.r (pG yM rfl)) (fun _ _=>rfl))) (aY (XR.n (aF (pv 2))) (aY (XR.n (aF (pv 3))) (aY (XR.n (aF (pv 4))) dY)))))) (Gk (tH (aY (eE jX aQ (hr.mono A8) (aF (pv 0)) (aG (aF (pv 9)) aO)) dY)) gY)))) (fun h=>bB lD.nd rfl (by first | ~D1 rfl | ~C9 rfl) h))
  (aL (pX (i:=11) (uD pL aQ cO (hr.mono A8) (gP (pv 0)) (dF (aF (pv 8)) (dF (aF (pv 9)) (dF (XN.r (cG (jN (aG (aF (pv 10)) aO)) (aF (pv 6)))) gY)))) (fun h=>bB lD.nd rfl (by first | ~D1 rfl | ~C9 rfl) h))
  (aL (yc (pA aQ (gP (pv 0)) A7 rfl) (aF (pv 7)) (aF (pv 9)) (fun a b c=>kE (sG E5 Y0 Y1 Zb a (dG b (dG c jM)))))
  (aL (yd (pA aQ (gP (pv 0)) A7 rfl) (aF (pv 9)) (fun a b=>kE (sG E5 X8 X9 Zc a (dG b jM))))
  (aL (uZ (pA aQ (gP (pv 0)) A7 rfl) (aF (pv 9)) (aF (pv 11)) (fun a b c=>pN hu a b c rfl))
  (aU (oW (zK (lC (aY (XR.n (aF (pv 9))) (aY (XR.n (aF (pv 11))) dY)))))))))))))))⟩
B5 pC:aZ ["weaver", "book", "cell", "before", "box", "old", "key", "at", "due"] ["weaver", "book", "cell"] (aK Nm):=by walk_at "fs"
B5 YZ{κ:Nat→Addr}(R:Raw K mg "_law_other" Nm) (aQ:jE K (κ 1) dX) (kY:lN P w K mg base "_law_changed" 1 4 (spS K 4 lX)) (vO:dO P w K mg base (κ 1) "rewrite" 6 6 true (spS K 6 (qJ κ))) (qM:lN P w K mg base "_law_free" 1 1 (gW K 1 qI)) (LK:lN P w K mg base "_law_key" 1 3 (gW K 3 Ky)) (Dn:lN P w K mg base "_law_entered" 3 4 (spS K 4 wW)) (Al:dO P w K mg base (κ 1) "enter" 7 6 true (spS K 6 (qK κ))) (yO:lN P w K mg base "_law_same" 3 3 (gW K 3 (vL κ))) (dZ:mg "len" = none):lN P w K mg base "_law_other" 8 3 (spG K [true,true,false] (yL κ)):=by
 &R.aJM (mask:=[true,true,false]) pC (fun _ _ _ _ _ _ us hl=>match us,hl with | [_,_,_],_=>rfl) rfl (fun _ _ _ _ _ _ _ hr=>?_)
 have cQ:=hr.units
 have hu:=cI hr
 ~⟨_,aL (bK (i:=3) (fV eX (eY rfl) rfl dZ D9 (aG (bQ hu (aF (pv 1)) (XN.r (bW)) (fun _ _=>rfl)) aO)) (fun h=>bB pC.nd rfl (by first | ~D1 rfl | ~C9 rfl) h))
  (aL (jK (XW.xt (Tu (eV (or_eq cQ rfl) sH (XN.r (bU (aF (pv 2)) (XN.r (aN)))) (XN.r (aN)) (cV _)) (Jr (eV (Gh cQ rfl) Gg (bQ hu (aF (pv 1)) (XN.r (bW)) (fun _ _=>rfl)) (jN aO) (cV _))))) (aL (bK (i:=4) (XR.n (bI (bQ hu (aF (pv 1)) (XN.r (bW)) (fun _ _=>rfl)) (XN.r (bU (XN.r (lB (aF (pv 2)) (XN.r (aN)))) (XN.r (fV eX (eY rfl) rfl dZ D9 (aG (bQ hu (aF (pv 1)) (XN.r (bW)) (fun _ _=>rfl)) aO))))) (fun _ _=>rfl))) (fun h=>bB pC.nd rfl (by first | ~D1 rfl | ~C9 rfl) h))
  (aL (bK (i:=5) (XR.n (bI (bQ hu (aF (pv 1)) (XN.r (bW)) (fun _ _=>rfl)) (aF (pv 4)) (fun _ _=>rfl))) (fun h=>bB pC.nd rfl (by first | ~D1 rfl | ~C9 rfl) h))
  (aL (Jx (Cg kY cO (hr.mono A8) rfl (pv 1) (dF (aF (pv 4)) (dF (XN.r (lC (aY (XR.n (bI (aF (pv 5)) (XN.r (aN)) (fun _ _=>rfl))) (aY (XR.n (bI (aF (pv 5)) (XN.r (aN)) (fun _ _=>rfl))) (aY (uC (XN.r (aN))) (aY (bU (aF (pv 2)) (XN.r (aN))) (aY aN dY))))))) (Gk (tH (aY (mY hu (bQ hu (aF (pv 1)) (XN.r (bW)) (fun _ _=>rfl)) (aF (pv 4)) ⟨rfl,rfl,rfl,rfl⟩) dY)) gY)))))
  (aU (Jx (Jw vO aQ cO (hr.mono A8) (gP (pv 0)) (dF (aF (pv 4)) (dF (XN.r (uC (XN.r (aN)))) (dF (XN.r (bU (aF (pv 2)) (XN.r (aN)))) (dF (XN.r (aN)) gY)))))))))) (aU (jK (eV (Gh cQ rfl) Gg (XN.r (bZ qM (hr.mono A8) rfl (aG (aF (pv 1)) aO))) (jN aO) (cV _)) (aL (Yt (is:=[6,7]) (n:=2) (bZ LK (hr.mono A8) rfl (aG (aF (pv 1)) (aG (XN.r (bU (aF (pv 2)) (XN.r (cG (XN.r (fV eX (eY rfl) rfl dZ D9 (aG (bQ hu (aF (pv 1)) (XN.r (bW)) (fun _ _=>rfl)) aO))) (XN.r (aN)))))) (aG (XN.r (lB (aF (pv 2)) (XN.r (aN)))) aO)))) (fun h=>Gu h (aBt rfl (Jh (kI (i:=6) pC.nd rfl (by first | ~D1 rfl | ~C9 rfl)) (Jh (kI (i:=7) pC.nd rfl (by first | ~D1 rfl | ~C9 rfl)) (rm))))))
  (aL (pX (i:=8) (Cg Dn cO (hr.mono A8) rfl (pv 1) (dF (aF (pv 7)) (dF (XN.r (lC (aY (XR.n (aF (pv 6))) (aY (uC (XN.r (aN))) (aY (bU (aF (pv 2)) (XN.r (aN))) (aY aN dY)))))) (dF (jN aO) gY)))) (fun h=>bB pC.nd rfl (by first | ~D1 rfl | ~C9 rfl) h))
  (aU (jm (aFj (Gh cQ rfl) Gg (Jw Al aQ cO (hr.mono A8) (gP (pv 0)) (dF (aF (pv 6)) (dF (XN.r (uC (XN.r (aN)))) (dF (XN.r (bU (aF (pv 2)) (XN.r (aN)))) (dF (XN.r (aN)) gY))))) (aF (pv 8)) (cV _)) (aU (oW (zK (uR)))) fM)))) fM)))
  (aU (oW (zK (bZ yO (hr.mono A8) rfl (aG (aF (pv 0)) (aG (aF (pv 1)) (aG (aF (pv 3)) aO))))))))⟩
B5 BR:aZ ["script", "stone", "weaver", "book", "cell", "found"] ["script"] (aK aC8):=by walk_at "fs"
B5 aIo{κ:Nat→Addr}{f:Addr}{fd:FuncData}(F:Fun K "law" "law" aC8 f fd) (aQ:jE K (κ 1) dX) (bD:jE K (κ 0) jH) (Ob:lN P w K mg base "_law_built" 3 1 (gW K 1 yI)) (Dp:aAN P w K mg base "Weaver" (κ 1) 5 2 (spS K 2 (wN κ))) (Vz:lN P w K mg base "_law_book" 1 1 (gW K 1 Dc)) (Iv:lN P w K mg base "_law_spread" 1 1 (gW K 1 nC)) (Dq:dO P w K mg base (κ 0) "carve" 2 3 true (spS K 3 (wQ κ))) (rF:lN P w K mg base "_law_known" 5 3 (gW K 3 (pI κ))) (Wa:lN P w K mg base "_law_step" 9 3 (spG K [true,true,false] (Dh κ))) (Oc:lN P w K mg base "_law_other" 8 3 (spG K [true,true,false] (yL κ))) (xO:dO P w K mg base (κ 0) "changes" 1 1 false (gW K 1 (rW κ))) (iT:mg "list" = none) (dZ:mg "len" = none) (aHZ:∀ns:List Int,ns.length≤63→(∀k∈ns,Small k)→aIg κ [.lst (ns.map D.int)]=some (.bl true)):Fj P w K mg base FZ 10 f fd ["script"] (spB K):=by
 &F.okB BR (fun cdv A outer s H E hr=>?_) aHZ
 have cQ:=hr.units
 have hu:=cI hr
 ~⟨_,aL (bK (i:=1) (bZ Ob (hr.mono A8) rfl (aG (aF (pv 0)) aO)) (fun h=>bB BR.nd rfl (by first | ~D1 rfl | ~C9 rfl) h))
  (aL (bK (i:=2) (wu Dp cO (hr.mono A8) rfl (aG (XN.r (mD ["pane"] [] rfl (.at (aK aC8) ["script", "stone", "weaver", "book", "cell", "found"] A7) (mX (aF (pv 1))) (iU A7 rfl rfl) (fun _ _ _ _ _=>nJ) (fun _ _ _ _ _=>Bw zF (zG rfl) rfl iT G5 (aG (aF (pv 0)) aO)))) aO)) (fun h=>bB BR.nd rfl (by first | ~D1 rfl | ~C9 rfl) h))
  (aL (bK (i:=3) (bZ Vz (hr.mono A8) rfl (aG (aF (pv 1)) aO)) (fun h=>bB BR.nd rfl (by first | ~D1 rfl | ~C9 rfl) h))
  (aL (HW [] PassesOwn.never rfl (mX (XN.r (mD ["one"] [] rfl (.at (aK aC8) ["script", "stone", "weaver", "book", "cell", "found"] A7) (mX (aCb (aF (pv 0)) (HJ (XN.r (aN))) (HJ (XN.r (aN))))) (iU A7 rfl rfl) (fun _ _ _ _ _=>nJ) (fun _ _ _ _ _=>bZ Iv (hr.mono A8) rfl (aG (aF (pv 0)) aO))))) (kI (i:=4) BR.nd rfl (by first | ~D1 rfl | ~C9 rfl)) (aU (jK (eV (or_eq cQ rfl) sH (XN.r (bU (aF (pv 4)) (XN.r (aN)))) (XN.r (aN)) (cV _)) (aL (Jx (Jw Dq bD cO (hr.mono A8) (pA aQ (gP (pv 2)) A7 rfl) (dF (XN.r (bU (XN.r (lB (aF (pv 4)) (XN.r (aN)))) (XN.r (fV eX (eY rfl) rfl dZ D9 (aG (aF (pv 1)) aO))))) gY)))
  (aU (jK (oY (qQ (XN.r (bZ rF (hr.mono A8) rfl (aG (aF (pv 2)) (aG (aF (pv 3)) (aG (XN.r (bU (XN.r (lB (aF (pv 4)) (XN.r (aN)))) (XN.r (fV eX (eY rfl) rfl dZ D9 (aG (bQ hu (aF (pv 3)) (XN.r (bW)) (fun _ _=>rfl)) aO))))) aO))))))) (aU (cA (uR))) fM))) (aU (jK (XW.xt (Tu (eV (or_eq cQ rfl) sH (XN.r (bU (aF (pv 4)) (XN.r (aN)))) (XN.r (aN)) (cV _)) (Jr (eV (Gh cQ rfl) Gg (bQ hu (aF (pv 3)) (XN.r (bW)) (fun _ _=>rfl)) (jN aO) (cV _))))) (aU (jm (wz (wy (xu Wa rfl (hr.mono A8) rfl (JC (pv 2) (JC (pv 3) (aGA (XN.r (lB (aF (pv 4)) (XN.r (aN)))) (xj))))))) (aU (cA (uR))) fM)) (aU (jm (wz (wy (xu Oc rfl (hr.mono A8) rfl (JC (pv 2) (JC (pv 3) (aGA (XN.r (lB (aF (pv 4)) (XN.r (aN)))) (xj))))))) (aU (cA (uR))) fM)))))))
  (aL (bK (i:=5) (Cj xO bD (hr.mono A8) (dM aQ (aF (pv 2)) A7 rfl)) (fun h=>bB BR.nd rfl (by first | ~D1 rfl | ~C9 rfl) h))
  (aU (cA (Ml (XN.r (Hg (or_eq cQ rfl) sH (XN.r (fV eX (eY rfl) rfl dZ D9 (aG (aF (pv 5)) aO))) (XN.r (fV eX (eY rfl) rfl dZ D9 (aG (bQ hu (aF (pv 3)) (XN.r (bW)) (fun _ _=>rfl)) aO))) (cV _))) (wF (Hg (or_eq cQ rfl) sH (aF (pv 5)) (bQ hu (aF (pv 3)) (XN.r (bW)) (fun _ _=>rfl)) (cV _))))))))))⟩
end
end Rs

namespace Rs
open PySem L2
local macro_rules | `(tactic| walk_at "lt")=>`(tactic| ~T7 rfl)
local macro_rules | `(tactic| walk_at "sc")=>`(tactic| first | omega | with_reducible assumption | ~S8 A8 | ~Hx A6 A6 | ~aJO A6 A6)
local macro_rules | `(tactic| walk_at "op")=>`(tactic| first | with_reducible assumption | with_reducible ~cP _ _ | with_reducible ~lR _ _ | with_reducible ~mQ _ _ | with_reducible ~rP _ _ | with_reducible ~Ep _ _ | with_reducible ~Rm _ _ | with_reducible ~dGe_int _ _ | with_reducible ~JH _ _ | with_reducible ~jP _ | with_reducible ~Uq _ | with_reducible ~dLen_tup _ | ((with_reducible apply iG);walk_at "sc") | ((with_reducible apply bC);walk_at "sc") | ((with_reducible apply dW);(walk_at "sc");walk_at "sc") | ((with_reducible apply yE);~⟨by decide,by decide,by omega⟩) | ((with_reducible apply fJ);(walk_at "sc");walk_at "sc"))
local macro_rules | `(tactic| walk_at "ea")=>`(tactic| first | with_reducible ~aCW | ((with_reducible apply aA);(walk_at "ev");walk_at "ea"))
local macro_rules | `(tactic| walk_at "ev")=>`(tactic| first | ((with_reducible apply JK);~rfl) | with_reducible ~aJR | with_reducible assumption | ((with_reducible apply aH);(walk_at "ev");(walk_at "ev");walk_at "op") | ((with_reducible apply cT);(walk_at "ea");walk_at "op") | ((with_reducible apply bH);(walk_at "ea");~rfl;with_reducible assumption) | ((with_reducible apply aX);(walk_at "ev");~rfl) | ((with_reducible apply rR);walk_at "ev") | ((with_reducible apply iC);(walk_at "ea");walk_at "lt") | ((with_reducible apply iD);(walk_at "ea");walk_at "lt"))
local macro_rules | `(tactic| walk_at "et")=>`(tactic| first | ((with_reducible apply lH);walk_at "et") | ((with_reducible apply Cr);(walk_at "et");walk_at "et") | ((with_reducible apply zN);(walk_at "et");walk_at "et") | ((with_reducible apply bR);walk_at "ev"))
local macro_rules | `(tactic| walk_at "set")=>`(tactic| (apply aCS;(walk_at "ev");(walk_at "lt")))
local macro_rules | `(tactic| walk_at "q")=>`(tactic| (apply cC;(walk_at "ev");(walk_at "lt")))
local macro_rules | `(tactic| walk_at "op")=>`(tactic| first | with_reducible assumption | with_reducible ~cP _ _ | with_reducible ~lR _ _ | with_reducible ~mQ _ _ | with_reducible ~rP _ _ | with_reducible ~Ep _ _ | with_reducible ~Rm _ _ | with_reducible ~dGe_int _ _ | with_reducible ~JH _ _ | with_reducible ~jP _ | with_reducible ~qD _ | with_reducible ~Uv _ _ _ | with_reducible ~dMin2_int _ _ | with_reducible ~Zr _ _ | with_reducible ~dIntB_bl _ | with_reducible ~JP _ | with_reducible ~Ux _ | with_reducible ~Cv _ | with_reducible ~Kh _ | ((with_reducible apply Mx);omega) | with_reducible ~Uq _ | with_reducible ~dLen_tup _ | ((with_reducible apply iG);walk_at "sc") | ((with_reducible apply dMulB_int);(walk_at "sc");walk_at "sc") | ((with_reducible apply bC);walk_at "sc") | ((with_reducible apply dW);(walk_at "sc");walk_at "sc") | ((with_reducible apply yE);~⟨by decide,by decide,by omega⟩) | ((with_reducible apply fJ);(walk_at "sc");walk_at "sc"))
def nY(cs:List tY)(l:List Int)(fP:Int):List Int:=((D4 cs.length).filter fun k=>decide ((at_ cs k).fP=fP)&&!decide ((k:Int)∈l)).map fun k=>((k:Nat):Int)
B5 Dr{cs:List tY}{l:List Int}{fP:Int}{x:Int}:x∈nY cs l fP↔0≤x∧x<cs.length∧(at_ cs x.toNat).fP=fP∧x∉l:=by
 B4 nY
 rw[J2]
 constructor
 ·rintro⟨k,hk,rfl⟩
  B3⟨h1,h2⟩:=N1.mp hk
  rw[F9]at h1
  rw[G7,decide_eq_true_iff]at h2
  rw[D7]
  ~⟨by omega,by omega,h2.1,by simpa using h2.2⟩
 ·rintro⟨h0,h1,h2,h3⟩
  &⟨x.toNat,N1.mpr ⟨F9.mpr A6,?_⟩,by omega⟩
  rw[G7,decide_eq_true_iff,show ((x.toNat:Nat):Int)=x by omega]
  ~⟨h2,by simpa using h3⟩
B5 LQ(cs:List tY)(l:List Int)(fP:Int):(nY cs l fP).Pairwise (·<·):=by
 B4 nY
 rw[i5]
 ~(S6.sublist R0).imp fun h=>by omega
B5 ZC(cs:List tY)(l:List Int)(fP:Int):(nY cs l fP).length≤cs.length:=by
 B4 nY
 rw[B6]
 ~G0 (List.length_filter_le _ _) (by rw[D8];~C5 _)
def Nums(cs:List tY)(ks:List Int):Prop:=ks.Nodup∧∀x∈ks,0≤x∧x<(cs.length:Int)
B5 Nums.len{cs:List tY}{ks:List Int}(h:Nums cs ks):ks.length≤cs.length:=qW _ _ h.1 h.2
structure Bn where
 bT:List (List (List Int))
 asked:List tY
 held:List Int
 nk:List (Int×Int)
 nv:List Int
def vZ(p:Int×Int):List Key:=[.inl p.1,.inl p.2]
B5 Ln{a b:Int×Int}(h:vZ a=vZ b):a=b:=by
 B4 vZ at h
 injection h with h1 h2
 injection h2 with h2 _
 injection h1 with h1
 injection h2 with h2
 ~j6 h1 h2
def fY(p:List (List Int)):D:=.lst (p.map dTup)
def pD(ps:List (List (List Int))):D:=.lst (ps.map fY)
def wA(n:Nat)(cs:List tY)(l:List Int):List D:=(D4 n).map fun p=>aP (nY cs l ((p:Nat):Int))
def Xq:List Str:=["panes", "asked", "newest", "held", "unsettled"]
def fD(C:Addr)(a b c d e:D):D:=.ins C Xq [a,b,c,d,e]
def lV(C:Addr)(b:Bn)(e:List D):D:=fD C (pD b.bT) (sU b.asked) (.dt (b.nk.map vZ) (b.nv.map D.int)) (Qm b.held) (.lst e)
def dR(C:Addr)(b:Bn):D:=lV C b (wA b.bT.length b.asked b.held)
B5 Od:posK Xq "panes" = some 0:=by decide +kernel
B5 Oe:posK Xq "asked" = some 1:=by decide +kernel
B5 Iw:posK Xq "newest" = some 2:=by decide +kernel
B5 Wc:posK Xq "held" = some 3:=by decide +kernel
B5 LR:posK Xq "unsettled" = some 4:=by decide +kernel
section
variable{C:Addr}{a b c d e x:D}
B5 Og:fO C "panes" (fD C a b c d e)=some a:=by B4 fO fD;dsimp only;rw[if_pos rfl,Od];rfl
B5 rG:fO C "asked" (fD C a b c d e)=some b:=by B4 fO fD;dsimp only;rw[if_pos rfl,Oe];rfl
B5 Iz:fO C "newest" (fD C a b c d e)=some c:=by B4 fO fD;dsimp only;rw[if_pos rfl,Iw];rfl
B5 ZD:fO C "held" (fD C a b c d e)=some d:=by B4 fO fD;dsimp only;rw[if_pos rfl,Wc];rfl
B5 yx:fO C "unsettled" (fD C a b c d e)=some e:=by B4 fO fD;dsimp only;rw[if_pos rfl,LR];rfl
B5 tD{s:L2.Step}{d x:D}{j:Nat}(h1:Fx s d=some j)(h2:(kids d)[j]?=some x):gC [s] d=some x:=by B4 gC;rw[h1,C4,h2];rfl
B5 qN{s:L2.Step}{d x y:D}{j:Nat}(h1:Fx s d=some j)(h2:(kids d)[j]?=some y):fG [s] d x=Js d ((kids d).set j x):=by
 show (match Fx s d with | some j=>_ | none=>_)=_
 rw[h1]
 show (match (kids d)[j]? with | some c=>_ | none=>_)=_
 rw[h2]
 rfl
B5 BV{s:L2.Step}{p:List L2.Step}{d y:D}(h:gC [s] d=some y):gC (s::p) d=gC p y:=by
 show ((Fx s d).bind fun j=>((kids d)[j]?).bind (gC p))=gC p y
 B4 gC at h
 B3⟨j,h1,h2⟩:=bA h
 B3⟨z,h3,h4⟩:=bA h2
 B4 gC at h4
 cases h4
 rw[h1,C4,h3,C4]
B5 BW{s:L2.Step}{p:List L2.Step}{d y x:D}(h:gC [s] d=some y):fG (s::p) d x=fG [s] d (fG p y x):=by
 B4 gC at h
 B3⟨j,h1,h2⟩:=bA h
 B3⟨z,h3,h4⟩:=bA h2
 B4 gC at h4
 cases h4
 rw[qN h1 h3]
 show (match Fx s d with | some j=>_ | none=>_)=_
 rw[h1]
 show (match (kids d)[j]? with | some c=>_ | none=>_)=_
 rw[h3]
B5 xP{f:Str}{j:Nat}(h:posK Xq f=some j):Fx (.fld C f) (fD C a b c d e)=some j:=by
 show (if C=C then posK Xq f else none)=some j
 rw[if_pos rfl]
 ~h
B5 BX:gC [.fld C "panes"] (fD C a b c d e)=some a:=tD (xP Od) rfl
B5 aA5:gC [.fld C "asked"] (fD C a b c d e)=some b:=tD (xP Oe) rfl
B5 nq:gC [.fld C "newest"] (fD C a b c d e)=some c:=tD (xP Iw) rfl
B5 aDd:gC [.fld C "held"] (fD C a b c d e)=some d:=tD (xP Wc) rfl
B5 MF:gC [.fld C "unsettled"] (fD C a b c d e)=some e:=tD (xP LR) rfl
B5 aA6:fG [.fld C "panes"] (fD C a b c d e) x=fD C x b c d e:=qN (xP Od) (y:=a) rfl
B5 aA7:fG [.fld C "asked"] (fD C a b c d e) x=fD C a x c d e:=qN (xP Oe) (y:=b) rfl
B5 nu:fG [.fld C "newest"] (fD C a b c d e) x=fD C a b x d e:=qN (xP Iw) (y:=c) rfl
B5 aDe:fG [.fld C "held"] (fD C a b c d e) x=fD C a b c x e:=qN (xP Wc) (y:=d) rfl
B5 yz:fG [.fld C "unsettled"] (fD C a b c d e) x=fD C a b c d x:=qN (xP LR) (y:=e) rfl
B5 oh{xs:List D}{k:Nat}(h:xs[k]?=some x):gC [.ix k] (.lst xs)=some x:=tD (s:=.ix k) (d:=.lst xs) (j:=k) rfl h
B5 ou{xs:List D}{k:Nat}{y:D}(h:xs[k]?=some y):fG [.ix k] (.lst xs) x=.lst (xs.set k x):=qN (s:=.ix k) (d:=.lst xs) (j:=k) rfl h
end
B5 aDf{π:FP}{g:FE}{e:DE}{p:List L2.Step}{k:Int}(h1:π e=some p)(h2:g e=some (.int k))(h3:0≤k):vd π g e=some (p++[.ix k.toNat]):=by
 B4 vd
 rw[h1,C4,h2,C4]
 dsimp only
 rw[if_pos h3]
B5 vP{env:EN}{i:Nat}{d0 d:D}{ds:List D}{π:FP}{p:List L2.Step}{f:FE}{C:Addr}{nm:List Str}{x:Str}(h1:env[i]?=some (.own d0))(h2:π (rE env)=some p)(h3:gC p d0=some (.ins C nm ds))(h4:f (rE env)=some d)(hl:nm.length<900)(hx:posK nm x=none):yD C i π x f env=.next (env.set i (.own (fG p d0 (.ins C (nm++[x]) (ds++[d]))))):=by
 rw[aIe h1 h2 h3 h4 hl]
 B4 Yx
 rw[hx]
def lastAt(cs:List tY)(p q:Int):Option Int:=((D4 cs.length).filter fun k=>decide ((at_ cs k).fP=p∧(at_ cs k).place=q)).getLast?.map fun k=>((k:Nat):Int)
B5 Ds(cs:List tY)(c:tY)(p q:Int):lastAt (cs++[c]) p q=if c.fP=p∧c.place=q then some (cs.length:Int)else lastAt cs p q:=by
 B4 lastAt
 have e:(D4 cs.length).filter (fun k=>decide ((at_ (cs++[c]) k).fP=p∧(at_ (cs++[c]) k).place=q))=(D4 cs.length).filter fun k=>decide ((at_ cs k).fP=p∧(at_ cs k).place=q):=i6 fun k hk=>by rw[vC (F9.mp hk)]
 rw[C7,show cs.length+[c].length=cs.length+1 from rfl,l0,W4,e]
 by_cases h:c.fP=p∧c.place=q
 ·rw[if_pos h,Y5 (by rw[zR];~decide_eq_true h),Z0,List.getLast?_concat]
  rfl
 ·rw[if_neg h,Y6 (by rw[zR];simpa using h),Z0,F3]
B5 Fe{cs:List tY}{p q k:Int}(h:lastAt cs p q=some k):0≤k∧k<(cs.length:Int)∧(at_ cs k.toNat).fP=p∧(at_ cs k.toNat).place=q:=by
 B4 lastAt at h
 B3⟨j,h1,rfl⟩:=lY h
 have hm:=List.mem_of_getLast? h1
 B3⟨m1,m2⟩:=N1.mp hm
 have:=F9.mp m1
 have m2:=of_decide_eq_true m2
 rw[D7]
 ~⟨by omega,by omega,m2⟩
B5 yP{α β:Type} [DecidableEq α] [DecidableEq β] {φ:α→β} (hi:∀a b,φ a=φ b→a=b) (k:α):∀ks:List α,posK (ks.map φ) (φ k)=posK ks k
 | []=>rfl
 | a::ks=>by
  rw[D3]
  B4 posK
  rw[yP hi k ks]
  by_cases c:a=k
  ·rw[if_pos c,if_pos (by rw[c])]
  ·rw[if_neg c,if_neg fun z=>c (hi _ _ z)]
B5 ZF{α β:Type} [DecidableEq α] [DecidableEq β] {φ:α→β} (hi:∀a b,φ a=φ b→a=b) (k:α) (ks:List α):mL (ks.map φ) (φ k)=(mL ks k).map φ:=by
 B4 mL
 rw[yP hi]
 split
 ·rfl
 ·rw[J3];rfl
B5 ZG{α β γ δ:Type} [DecidableEq α] [DecidableEq β] {φ:α→β} (hi:∀a b,φ a=φ b→a=b) (ψ:γ→δ) (k:α) (ks:List α) (ds:List γ) (d:γ):putD (ks.map φ) (ds.map ψ) (φ k) (ψ d)=(putD ks ds k d).map ψ:=by
 B4 putD
 rw[yP hi]
 split
 ·rw[List.zipWith_map,List.map_zipWith]
  congr 1
  funext a b
  by_cases c:a=k
  ·rw[if_pos c,if_pos (by rw[c])]
  ·rw[if_neg c,if_neg fun z=>c (hi _ _ z)]
 ·rw[J3];rfl
B5 aIp{α β:Type} [DecidableEq α] {ks:List α} {ds:List β} {k k':α} {d:β} {j:Nat} (h:posK ks k'=some j) (hl:ks.length=ds.length):(P9 (fun a b=>if a=k then d else b) ks ds)[j]?=if k'=k then some d else ds[j]?:=by
 B3⟨h1,h2⟩:=uB h
 rw[List.getElem?_zipWith,h2,B7 A6]
 show some (if k'=k then d else ds[j])=_
 split<;>rfl
B5 Am{α β:Type} [DecidableEq α] {k k':α} {d:β}:∀{ks:List α} {ds:List β},ks.length=ds.length→((posK (mL ks k) k').bind fun j=>(putD ks ds k d)[j]?)=if k'=k then some d else(posK ks k').bind fun j=>ds[j]?
 | [],ds,h=>by
  cases ds with
  | cons=>simp at h
  | nil=>
   show ((posK [k] k').bind fun j=>[d][j]?)=_
   B4 posK
   by_cases c:k=k'
   ·rw[if_pos c,if_pos c.symm];rfl
   ·rw[if_neg c,if_neg fun z=>c z.symm];rfl
 | a::ks,[],h=>by simp at h
 | a::ks,x::ds,h=>by
  have h':ks.length=ds.length:=by simpa using h
  by_cases c:a=k
  ·have e0:posK (a::ks) k=some 0:=by B4 posK;rw[if_pos c]
   B4 mL putD
   rw[e0]
   simp only[e9,if_true]
   cases q:posK (a::ks) k' with
   | none=>
    have:k'≠k:=fun z=>by rw[z,e0]at q;cases q
    rw[if_neg this]
    rfl
   | some j=>
    rw[C4,aIp q h]
    rfl
  ·have e1:mL (a::ks) k=a::mL ks k:=by
    have e0:posK (a::ks) k=(posK ks k).map (·+1):=by
     show (if a=k then some 0 else(posK ks k).map (·+1))=_
     rw[if_neg c]
    B4 mL
    rw[e0]
    cases posK ks k<;>rfl
   have e2:putD (a::ks) (x::ds) k d=x::putD ks ds k d:=by
    have e0:posK (a::ks) k=(posK ks k).map (·+1):=by
     show (if a=k then some 0 else(posK ks k).map (·+1))=_
     rw[if_neg c]
    B4 putD
    rw[e0]
    cases posK ks k with
    | none=>rfl
    | some j=>
     show (if a=k then d else x)::_=_
     rw[if_neg c]
     rfl
   rw[e1,e2]
   have ih:=Am (k:=k) (k':=k') (d:=d) h'
   show ((if a=k' then some 0 else(posK (mL ks k) k').map (·+1)).bind _)=if k'=k then some d else((if a=k' then some 0 else(posK ks k').map (·+1)).bind _)
   by_cases c2:a=k'
   ·rw[if_pos c2,if_pos c2,if_neg (by rw[←c2];~c)]
    rfl
   ·rw[if_neg c2,if_neg c2]
    have m:∀{γ:Type}(o:Option Nat)(y:γ)(l:List γ),((o.map (·+1)).bind fun j=>(y::l)[j]?)=o.bind fun j=>l[j]?:=fun o y l=>by cases o<;>rfl
    rw[m,m,ih]
structure Ja(b:Bn):Prop where
 good:Good b.asked
 nums:Nums b.asked b.held
 zb:∀k,k<b.asked.length→0≤(at_ b.asked k).fP∧(at_ b.asked k).fP<(b.bT.length:Int)∧0≤(L2.at_ b.asked k).place∧(L2.at_ b.asked k).place<((b.bT.getD (L2.at_ b.asked k).fP.toNat []).length:Int)
 nl:b.nk.length=b.nv.length
 nw:∀p q:Int,((posK b.nk (p,q)).bind fun j=>b.nv[j]?)=lastAt b.asked p q
 few:b.bT.length≤8
 nkl:b.nk.length≤b.asked.length
B5 BZ{ps:List (List (List Int))}{p:Int}(h0:0≤p)(h1:p<(ps.length:Int)):dU (pD ps) (.int p)=some (fY (ps.getD p.toNat [])):=rQ h0 (by
 rw[B9,oR (d:=[]) (show p.toNat<ps.length by omega)]
 rfl)
B5 Oh(ps:List (List (List Int))):kO [pD ps]=some (.int ps.length):=by show some (D.int ((ps.map fY).length:Nat))=_;rw[B6]
B5 Lp(ps:List (List Int)):kO [fY ps]=some (.int ps.length):=by show some (D.int ((ps.map dTup).length:Nat))=_;rw[B6]
variable(κ:Nat→Addr)
B5 Lq{b:Bn}{e:List D}{p:Int}(h0:0≤p)(h1:p<(b.bT.length:Int)):jQ κ [lV (κ 0) b e,.int p]=some .non:=by
 &Hy (env':=[.fro (lV (κ 0) b e),.fro (.int p)]) rfl ?_
 B4 Ba
 rw[pH]
 ·rfl
 &(lH (JS rfl rfl (cT (aA (dJ rfl Og) rfl) (Oh _)))).trans ?_
 rw[decide_eq_true h0,decide_eq_true h1]
 rfl
B5 Gq{b:Bn}{e:List D}{p q:Int}(h0:0≤p)(h1:p<(b.bT.length:Int))(h2:0≤q)(h3:q<((b.bT.getD p.toNat []).length:Int)):jA κ [lV (κ 0) b e,.int p,.int q]=some .non:=by
 &Hy (env':=[.fro (lV (κ 0) b e),.fro (.int p),.fro (.int q)]) rfl ?_
 B4 yJ
 &(fH (env':=[.fro (lV (κ 0) b e),.fro (.int p),.fro (.int q)]) (Cw (d:=.non) ?_)).trans ?_
 ·~bY (nm:=Xq) rfl A7 rfl rfl (Lq κ h0 h1)
 rw[pH]
 ·rfl
 &(lH (JS rfl rfl (cT (aA (aH (dJ rfl Og) rfl (BZ h0 h1)) rfl) (Lp _)))).trans ?_
 rw[decide_eq_true h2,decide_eq_true h3]
 rfl
B5 vQ{b:Bn}{e:List D}{p:Int}(h0:0≤p)(h1:p<(b.asked.length:Int)):eG κ [lV (κ 0) b e,.int p]=some .non:=by
 &Hy (env':=[.fro (lV (κ 0) b e),.fro (.int p)]) rfl ?_
 B4 wU
 rw[pH]
 ·rfl
 &(lH (JS rfl rfl (cT (aA (dJ rfl rG) rfl) (qD _)))).trans ?_
 rw[decide_eq_true h0,decide_eq_true h1]
 rfl
def lE(b:Bn)(p q:Int)(th ns:List Int):tY:=⟨p,q,th,bc (ns++(lastAt b.asked p q).toList)⟩
def Bn.put(b:Bn)(p q:Int)(th ns:List Int):Bn:={b with asked:=b.asked++[lE b p q th ns],nk:=mL b.nk (p,q),nv:=putD b.nk b.nv (p,q) (b.asked.length:Int)}
B5 CG{cs:List tY}{l:List Int}{c:tY}{p:Int}(h:(cs.length:Int)∉l):nY (cs++[c]) l p=if c.fP=p then nY cs l p++[(cs.length:Int)]else nY cs l p:=by
 B4 nY
 have e:(D4 cs.length).filter (fun k=>decide ((at_ (cs++[c]) k).fP=p)&&!decide ((k:Int)∈l))=(D4 cs.length).filter fun k=>decide ((at_ cs k).fP=p)&&!decide ((k:Int)∈l):=i6 fun k hk=>by rw[vC (F9.mp hk)]
 rw[C7,show cs.length+[c].length=cs.length+1 from rfl,l0,W4,e,J3]
 by_cases q:c.fP=p
 ·rw[if_pos q,Y5 (by rw[zR,decide_eq_true q,decide_eq_false h];rfl)]
  rfl
 ·rw[if_neg q,Y6 (by rw[zR,decide_eq_false q];simp),Z0,G6,F3]
B5 aFD{n:Nat}{cs:List tY}{l:List Int}{c:tY}(h:(cs.length:Int)∉l)(h0:0≤c.fP)(h1:c.fP<(n:Int)):(wA n cs l).set c.fP.toNat (aP (nY cs l c.fP++[(cs.length:Int)]))=wA n (cs++[c]) l:=by
 B4 wA
 apply K1
 intro k
 rw[F7,B6,D8,B9,B9]
 by_cases e:c.fP.toNat=k
 ·rw[if_pos e,if_pos A6,G3 A6,G1,CG h,if_pos (show c.fP=((k:Nat):Int) by omega),show ((k:Nat):Int)=c.fP by omega]
 ·rw[if_neg e]
  by_cases hk:k<n
  ·rw[G3 hk,G1,G1,CG h,if_neg A6]
  ·rw[E2 (by rw[D8];omega)]
   rfl
B5 MJ{n:Nat}{cs:List tY}{l:List Int}{p:Int}(h0:0≤p)(h1:p<(n:Int)):(wA n cs l)[p.toNat]?=some (aP (nY cs l p)):=by
 B4 wA
 rw[B9,G3 A6,G1,show ((p.toNat:Nat):Int)=p by omega]
B5 Ja.put{b:Bn}(h:Ja b){p q:Int}{th ns:List Int}(h60:b.asked.length<124)(h0:0≤p)(h1:p<(b.bT.length:Int))(h2:0≤q)(h3:q<((b.bT.getD p.toNat []).length:Int))(hn:∀m∈ns,0≤m∧m<(b.asked.length:Int))(hl:ns.length≤8):Ja (b.put p q th ns):=by
  have aJV:∀m∈(lE b p q th ns).needs,0≤m∧m<(b.asked.length:Int):=fun m hm=>by
    have hm:=(Rg _ _).mp hm
    rcases F2.mp hm with z | z
    · ~hn m z
    · cases e:lastAt b.asked p q with
      | none=>rw[e]at z;cases z
      | some k=>
        rw[e]at z
        rw[E3.mp z]
        have:=Fe e
        ~⟨this.1,this.2.1⟩
  have hlen:(b.put p q th ns).asked.length=b.asked.length+1:=by B4 Bn.put;rw[C7];rfl
  have hcase:∀k,k<(b.put p q th ns).asked.length→(k<b.asked.length∧at_ (b.put p q th ns).asked k=at_ b.asked k)∨(k=b.asked.length∧at_ (b.put p q th ns).asked k=lE b p q th ns):=fun k hk=>by
    rw[hlen]at hk
    rcases K4 k b.asked.length with z | z
    · ~.inl ⟨z,vC z⟩
    · have e:k=b.asked.length:=by omega
      subst e
      ~.inr ⟨rfl,zR _ _⟩
  &⟨⟨by rw[hlen];omega,fun k hk=>?_⟩,⟨h.nums.1,fun x hx=>?_⟩,fun k hk=>?_,?_,fun p' q'=>?_,h.few,?_⟩
  · rcases hcase k hk with ⟨a,e⟩ | ⟨a,e⟩
    · rw[e];~h.good.2 k a
    · rw[e,a]
      &⟨aJV,IV _,?_⟩
      have:=vz (ns++(lastAt b.asked p q).toList)
      show (bc (ns++(lastAt b.asked p q).toList)).length≤9
      rw[C7]at this
      have:(lastAt b.asked p q).toList.length≤1:=by cases lastAt b.asked p q<;>simp
      omega
  · have:=h.nums.2 x hx
    rw[hlen]
    omega
  · rcases hcase k hk with ⟨a,e⟩ | ⟨a,e⟩
    · have:=h.zb k a
      rw[e]
      ~this
    · rw[e]
      ~⟨h0,h1,h2,h3⟩
  · ~xX h.nl
  · show ((posK (mL b.nk (p,q)) (p',q')).bind fun j=>(putD b.nk b.nv (p,q) (b.asked.length:Int))[j]?)=lastAt (b.asked++[lE b p q th ns]) p' q'
    rw[Am h.nl,Ds,h.nw]
    by_cases c:(p',q')=(p,q)
    · have c1:p'=p:=congrArg Prod.fst c
      have c2:q'=q:=congrArg Prod.snd c
      rw[if_pos c,if_pos ⟨c1.symm,c2.symm⟩]
    · rw[if_neg c,if_neg fun z=>c (j6 z.1.symm z.2.symm)]
  · have:=h.nkl
    rw[hlen]
    show (mL b.nk (p,q)).length≤_
    B4 mL
    split
    · omega
    · rw[C7];simp;omega
B5 aDg{b:Bn}(h:Ja b)(p q:Int):posK (b.nk.map vZ) (vZ (p,q))=posK b.nk (p,q):=yP (fun _ _=>Ln) _ _
B5 aIq{b:Bn}(h:Ja b){p q:Int}{th ns:List Int}{nd:D}(h0:0≤p)(h1:p<(b.bT.length:Int))(h2:0≤q)(h3:q<((b.bT.getD p.toNat []).length:Int))(hn:∀m∈ns,0≤m∧m<(b.asked.length:Int))(hl:ns.length≤50)(hnd:(nd=.non∧ns=[])∨nd=aP ns):Ex κ [dR (κ 0) b,.int p,.int q,dTup th,nd]=some (.int b.asked.length,dR (κ 0) (b.put p q th ns)):=by
  &lJ rfl fun v=>?_
  B4 BK
  &kh (d:=.non) (bY rfl (show ("check_place" : Str)∉Xq by decide +kernel) rfl rfl (Gq κ h0 h1 h2 h3)) ?_
  have h60:=h.good.1
  &cC (d:=aP ns) ?_ A9 ?_
  · rcases hnd with ⟨rfl,rfl⟩ | rfl
    · ~aGG (bR (aH rfl rfl (Eu false .non))) rfl
    · ~aGH (bR (aH rfl rfl (Eu false (aP ns)))) (cT (aA rfl rfl) (qT (cY ns)))
  &kj (ns:=ns) [.inn v (dR (κ 0) b),.fro (.int p),.fro (.int q),.fro (dTup th),.fro nd,.own (aP ns),lv ns .no ns.length,.no] rfl rfl (fun v2 k env=>env=[.inn v (dR (κ 0) b),.fro (.int p),.fro (.int q),.fro (dTup th),.fro nd,.inn v2 (aP ns),lv ns .no k,.no]) (fun v2=>rfl) (fun v2 k env e=>by rw[e];rfl) ?_ (fun v2 env e=>by rw[e];rfl) ?_
  · rintro v2 k x env hx rfl
    &⟨by walk_at "lt", _,Cw (d:=.non) (bY rfl (show ("check_change" : Str)∉Xq by decide +kernel) rfl rfl (vQ κ (hn x (E6 hx)).1 (hn x (E6 hx)).2)),?_⟩
    have e:lv ns .no (k+1)=.fro (.int x):=by
      show SD.fro (.int (ns.getD k 0))=_
      rw[qC hx]
    rw[e]
    rfl
  have hkey:∀vv7:SD,Mv (aB (aD 1) (aB (aD 2) aM)) (rE [.inn v (dR (κ 0) b),.fro (.int p),.fro (.int q),.fro (dTup th),.fro nd,.own (aP ns),lv ns .no ns.length,vv7])=some (vZ (p,q)):=fun _=>rfl
  have hin:fB (Wz false (Mv (aB (aD 1) (aB (aD 2) aM))) (tL (fO (κ 0) "newest") (aD 0))) (rE [.inn v (dR (κ 0) b),.fro (.int p),.fro (.int q),.fro (dTup th),.fro nd,.own (aP ns),lv ns .no ns.length,.no])=some (posK b.nk (p,q)).isSome:=by
    &bR ?_
    B4 Wz
    rw[hkey,C4]
    rw[show tL (fO (κ 0) "newest") (aD 0) (rE [.inn v (dR (κ 0) b),.fro (.int p),.fro (.int q),.fro (dTup th),.fro nd,.own (aP ns),lv ns .no ns.length,.no])=some (.dt (b.nk.map vZ) (b.nv.map D.int))from dJ rfl Iz,C4]
    dsimp only
    rw[aDg h]
    rfl
  have hif:uV (fB (Wz false (Mv (aB (aD 1) (aB (aD 2) aM))) (tL (fO (κ 0) "newest") (aD 0)))) (zH 5 dD (Uk (tL (fO (κ 0) "newest") (aD 0)) (Mv (aB (aD 1) (aB (aD 2) aM))))) gH [.inn v (dR (κ 0) b),.fro (.int p),.fro (.int q),.fro (dTup th),.fro nd,.own (aP ns),lv ns .no ns.length,.no]=.next [.inn v (dR (κ 0) b),.fro (.int p),.fro (.int q),.fro (dTup th),.fro nd,.own (aP (ns++(lastAt b.asked p q).toList)),lv ns .no ns.length,.no]:=by
    have hw:=h.nw p q
    cases e:posK b.nk (p,q)with
    | none=>
      rw[e]at hin hw
      rw[pH hin,←hw]
      show SR.next _=SR.next _
      rw[show ((none:Option Nat).bind fun j=>b.nv[j]?)=none from rfl]
      show SR.next _=SR.next [_,_,_,_,_,.own (aP (ns++[])),_,_]
      rw[F3]
    | some j=>
      rw[e]at hin hw
      B3⟨j1,j2⟩:=uB e
      have hj:j<b.nv.length:=by rw[←h.nl];~j1
      rw[Cp hin,←hw,C4,B7 hj]
      &(jw (ds:=ns.map D.int) (d:=.int b.nv[j]) rfl ?_ (by rw[B6];omega)).trans ?_
      · B4 Uk
        rw[show tL (fO (κ 0) "newest") (aD 0) (rE [.inn v (dR (κ 0) b),.fro (.int p),.fro (.int q),.fro (dTup th),.fro nd,.own (aP ns),lv ns .no ns.length,.no])=some (.dt (b.nk.map vZ) (b.nv.map D.int))from dJ rfl Iz,C4,hkey,C4]
        dsimp only
        rw[aDg h,e,C4,B9,B7 hj]
        rfl
      · rw[vB]
        rfl
  &aAW hif ?_
  have h4:(ns++(lastAt b.asked p q).toList).length≤51:=by
    rw[C7]
    have:(lastAt b.asked p q).toList.length≤1:=by cases lastAt b.asked p q<;>simp
    omega
  &cC (d:=.int b.asked.length) (cT (aA (dJ rfl rG) rfl) (qD _)) A9 ?_
  &mR (d:=dR (κ 0) b) rfl (Va (d0:=dR (κ 0) b) (ds:=b.asked.map Bj) (d:=Bj (lE b p q th ns)) rfl rfl aA5 ?_ (by rw[B6];omega)) rfl ?_
  · ~iC (aA (aX rfl rfl) (aA (aX rfl rfl) (aA (aX rfl (iR th)) (aA (cT (aA (dJ rfl (Uw A6)) rfl) (Pb _)) rfl)))) A9
  rw[show fG ([]++[L2.Step.fld (κ 0) "asked"]) (dR (κ 0) b) (.lst (b.asked.map Bj++[Bj (lE b p q th ns)]))=fD (κ 0) (pD b.bT) (sU (b.asked++[lE b p q th ns])) (.dt (b.nk.map vZ) (b.nv.map D.int)) (Qm b.held) (.lst (wA b.bT.length b.asked b.held))from by rw[Zo];~aA7]
  &mR rfl (aFB (d:=.int b.asked.length) (k:=vZ (p,q)) rfl rfl nq rfl rfl rfl (by
    have:=h.nl
    rw[B6]
    have:=h.nkl
    omega)) rfl ?_
  rw[show fG ([]++[L2.Step.fld (κ 0) "newest"]) (fD (κ 0) (pD b.bT) (sU (b.asked++[lE b p q th ns])) (.dt (b.nk.map vZ) (b.nv.map D.int)) (Qm b.held) (.lst (wA b.bT.length b.asked b.held))) (.dt (mL (b.nk.map vZ) (vZ (p,q))) (putD (b.nk.map vZ) (b.nv.map D.int) (vZ (p,q)) (.int b.asked.length)))=fD (κ 0) (pD b.bT) (sU (b.asked++[lE b p q th ns])) (.dt ((mL b.nk (p,q)).map vZ) ((putD b.nk b.nv (p,q) (b.asked.length:Int)).map D.int)) (Qm b.held) (.lst (wA b.bT.length b.asked b.held))from by
    rw[ZF (fun _ _=>Ln),ZG (fun _ _=>Ln) D.int]
    ~nu]
  &mR rfl (Va (p:=[L2.Step.fld (κ 0) "unsettled", .ix p.toNat]) (ds:=(nY b.asked b.held p).map D.int) (d:=.int b.asked.length) rfl ?_ ((BV MF).trans (oh (MJ h0 h1))) (aX rfl rfl) ?_) rfl ?_
  · show (if 0≤p then _ else _)=_
    rw[if_pos h0]
    rfl
  · rw[B6]
    have:=ZC b.asked b.held p
    omega
  &zU rfl ⟨_,.inl rfl,?_⟩
  show some (SD.inn v (fG [L2.Step.fld (κ 0) "unsettled", .ix p.toNat] _ _))=some (SD.inn v _)
  rw[BW MF,ou (MJ h0 h1),yz]
  have hnot:(b.asked.length:Int)∉b.held:=fun z=>by
    have:=h.nums.2 _ z
    omega
  have e:=aFD (n:=b.bT.length) (c:=lE b p q th ns) hnot h0 h1
  rw[←vB]at e
  rw[show p.toNat=(lE b p q th ns).fP.toNat from rfl,show nY b.asked b.held p=nY b.asked b.held (lE b p q th ns).fP from rfl,e]
  rfl
B5 aFE{vR:List (List (List Int))}(hl:vR.length≤8):vH κ [.ins (κ 0) [] [],pD vR]=some (.non,dR (κ 0) ⟨vR,[],[],[],[]⟩):=by
 &lJ rfl fun v=>?_
 B4 Vd
 have h1:gU (mW (aD 1)) [] lG (fL dList (aB (aD 0) aM)) (rE ([.inn v (.ins (κ 0) [] []),.fro (pD vR)].set 0 (.own (.ins (κ 0) [] []))))=some (pD vR):=Et (xs:=vR) (ψ:=fY) (φ:=fY) (jF rfl) A6 fun x _=>cT (aA rfl rfl) (qT (Kg fun d hd=>by
  B3⟨t,_,rfl⟩:=J2.mp hd
  ~iR t))
 &mR rfl (vP (p:=[]) (nm:=[]) rfl rfl rfl h1 A8 rfl) rfl ?_
 &mR rfl (vP (p:=[]) (nm:=["panes"]) (d:=sU []) rfl rfl rfl rfl A8 A7) rfl ?_
 &mR rfl (vP (p:=[]) (nm:=["panes", "asked"]) (d:=.dt [] []) rfl rfl rfl rfl A8 A7) rfl ?_
 &mR rfl (vP (p:=[]) (nm:=["panes", "asked", "newest"]) (d:=Qm []) rfl rfl rfl rfl A8 A7) rfl ?_
 &jz rfl (vP (p:=[]) (nm:=["panes", "asked", "newest", "held"]) (d:=.lst (vR.map fun _=>aP [])) rfl rfl rfl (Et (xs:=vR) (ψ:=fY) (φ:=fun _=>aP []) (jF rfl) A6 fun x _=>rfl) A8 A7) rfl ⟨_,.inr ⟨rfl,rfl⟩,?_⟩
 have e:(vR.map fun _=>aP [])=wA vR.length [] []:=by
  B4 wA
  apply K1
  intro k
  rw[B9,B9]
  by_cases hk:k<vR.length
  ·rw[B7 hk,G3 hk]
   rfl
  ·rw[E2 A6,E2 (by rw[D8];omega)]
   rfl
 B4 dR lV
 dsimp only
 rw[←e]
 rfl
B5 Ja.init{vR:List (List (List Int))}(hl:vR.length≤8):Ja ⟨vR,[],[],[],[]⟩:=⟨⟨M0 _,fun k hk=>absurd hk (L6 _)⟩,⟨a8,fun x hx=>by cases hx⟩,fun k hk=>absurd hk (L6 _),rfl,fun p q=>rfl,hl,C5 _⟩
def val(ps:List (List (List Int)))(p q:Nat):List Int:=(ps.getD p []).getD q []
def topOf(cs:List tY)(d:List Int):Option Int→List Int
 | some k=>(at_ cs k.toNat).thing
 | none=>d
B5 zc{b:Bn}(p q:Int):posK (b.nk.map vZ) (vZ (p,q))=posK b.nk (p,q):=yP (fun _ _=>Ln) _ _
def face(b:Bn)(p q:Int):List Int:=topOf b.asked (val b.bT p.toNat q.toNat) (lastAt b.asked p q)
B5 aDh{ps:List (List Int)}{q:Int}(h0:0≤q)(h1:q<(ps.length:Int)):dU (fY ps) (.int q)=some (dTup (ps.getD q.toNat [])):=rQ h0 (by
 rw[B9,oR (d:=[]) (show q.toNat<ps.length by omega)]
 rfl)
B5 aFF{b:Bn}(h:Ja b){p q:Int}(h0:0≤p)(h1:p<(b.bT.length:Int))(h2:0≤q)(h3:q<((b.bT.getD p.toNat []).length:Int)):vJ κ [dR (κ 0) b,.int p,.int q]=some (dTup (face b p q)):=by
 suffices hh:∃d,vJ κ [dR (κ 0) b,.int p,.int q]=some d∧d=dTup (face b p q) by
  B3⟨d,e1,rfl⟩:=hh
  ~e1
 &yq rfl ?_
 B4 Vh
 &kh (d:=.non) (bY rfl (show ("check_place" : Str)∉Xq by decide +kernel) rfl rfl (Gq κ h0 h1 h2 h3)) ?_
 have hkey:Mv (aB (aD 1) (aB (aD 2) aM)) (rE [.fro (dR (κ 0) b),.fro (.int p),.fro (.int q)])=some (vZ (p,q)):=rfl
 have hnw:tL (fO (κ 0) "newest") (aD 0) (rE [.fro (dR (κ 0) b),.fro (.int p),.fro (.int q)])=some (.dt (b.nk.map vZ) (b.nv.map D.int)):=dJ rfl Iz
 have hin:fB (Wz false (Mv (aB (aD 1) (aB (aD 2) aM))) (tL (fO (κ 0) "newest") (aD 0))) (rE [.fro (dR (κ 0) b),.fro (.int p),.fro (.int q)])=some (posK b.nk (p,q)).isSome:=by
  &bR ?_
  B4 Wz
  rw[hkey,C4,hnw,C4]
  dsimp only
  rw[zc]
  rfl
 have hw:=h.nw p q
 B4 face
 cases e:posK b.nk (p,q)with
 | some j=>
  rw[e]at hin hw
  B3⟨j1,j2⟩:=uB e
  have hj:j<b.nv.length:=by rw[←h.nl];~j1
  rw[C4,B7 hj]at hw
  have hl:=Fe hw.symm
  rw[←hw]
  &aCZ hin rfl ?_
  have hg:Uk (tL (fO (κ 0) "newest") (aD 0)) (Mv (aB (aD 1) (aB (aD 2) aM))) (rE [.fro (dR (κ 0) b),.fro (.int p),.fro (.int q)])=some (.int b.nv[j]):=by
   B4 Uk
   rw[hnw,C4,hkey,C4]
   dsimp only
   rw[zc,e,C4,B9,B7 hj]
   rfl
  have hc:dU (sU b.asked) (.int b.nv[j])=some (Bj (at_ b.asked b.nv[j].toNat)):=by
   have:=Mx (cs:=b.asked) (k:=b.nv[j].toNat) A6
   rw[show ((b.nv[j].toNat:Nat):Int)=b.nv[j] by omega]at this
   ~this
  ~WM (aX (aH (aH (dJ rfl rG) hg hc) rfl (Cv _)) (iR _)) ⟨_,rfl,rfl⟩
 | none=>
  rw[e]at hin hw
  rw[←hw]
  &Az hin rfl ?_
  apply Bh
  ~pZ (aX (aH (aH (dJ rfl Og) rfl (BZ h0 h1)) rfl (aDh h2 h3)) (iR _)) ⟨_,rfl,rfl⟩
B5 aA8{b:Bn}{k:Int}(h0:0≤k)(h1:k<(b.asked.length:Int)):uG κ [dR (κ 0) b,.int k]=some (Bj (at_ b.asked k.toNat)):=by
 &mH rfl ?_
 B4 Kw
 &(fH (env':=[.fro (dR (κ 0) b),.fro (.int k)]) (Cw (d:=.non) ?_)).trans ?_
 ·~bY (nm:=Xq) rfl A7 rfl rfl (vQ κ h0 h1)
 have hc:dU (sU b.asked) (.int k)=some (Bj (at_ b.asked k.toNat)):=by
  have:=Mx (cs:=b.asked) (k:=k.toNat) A6
  rw[show ((k.toNat:Nat):Int)=k by omega]at this
  ~this
 ~iB (aX (aH (dJ rfl rG) rfl hc) (jy _))
B5 ZJ{b:Bn}:rW κ [dR (κ 0) b]=some (sU b.asked):=mH rfl (iB (cT (aA (dJ rfl rG) rfl) (qT (aC6 _))))
def aJW(cs:List tY)(l:List Int)(fP:Int)(r:List Int):Prop:=r.Pairwise (·<·)∧r.length≤cs.length∧∀x,x∈r↔(0≤x∧x<cs.length∧(at_ cs x.toNat).fP=fP∧x∉l)∧∀m∈(at_ cs x.toNat).needs,m∈l∨m∈r
B5 aDi{cs:List tY}{ks nums:List Int}(hg:Good cs)(hu:nums.Pairwise (·<·))(hn:∀x∈nums,0≤x∧x<cs.length)(hl:nums.length≤124):∃r,vI [sU cs,Qm ks,aP nums]=some (aP r)∧r.Pairwise (·<·)∧r.length≤nums.length∧∀x,x∈r↔x∈nums∧∀m∈(at_ cs x.toNat).needs,m∈ks∨m∈r:=by
  suffices h:∃d,vI [sU cs,Qm ks,aP nums]=some d∧∃r,d=aP r∧r.Pairwise (·<·)∧r.length≤nums.length∧∀x,x∈r↔x∈nums∧∀m∈(at_ cs x.toNat).needs,m∈ks∨m∈r by
    B3⟨d,h1,r,rfl,h2⟩:=h
    ~⟨r,h1,h2⟩
  &oE rfl ?_
  B4 Vg
  &cC (d:=Qm []) rfl A9 ?_
  &yh (xs:=nums.map D.int) (fun n env=>∃(r:List Int)(v:SD),env=[.fro (sU cs),.fro (Qm ks),.fro (aP nums),.own (Qm r),v]∧r.Pairwise (·<·)∧r.length≤n∧∀x,x∈r↔x∈nums.take n∧∀m∈(at_ cs x.toNat).needs,m∈ks∨m∈r) rfl (jF rfl) ⟨[],_,rfl,.nil,C5 _,fun x=>by simp⟩ ?_ ?_
  · rintro n x env hx ⟨r,v,rfl,h1,h2,h3⟩
    &⟨by walk_at "lt", ?_⟩
    rw[B9]at hx
    cases qq:nums[n]? with
    | none=>rw[qq]at hx;cases hx
    | some y=>
      rw[qq]at hx
      cases hx
      have hnl:=(D2.mp qq).1
      have hy:=hn y (E6 qq)
      B3⟨k,rfl⟩:∃k:Nat,y=k:=⟨y.toNat,by omega⟩
      have hk:k<cs.length:=by omega
      B3⟨g1,g2,g3⟩:=hg.2 k hk
      have hc:=Mx (cs:=cs) hk
      have htk:nums.take (n+1)=nums.take n++[(k:Int)]:=by rw[P7,qq];rfl
      have lt:∀z∈nums.take n,z<(k:Int):=fun z hz=>by
        have hu':=hu.sublist (O1 (n+1) nums)
        rw[htk]at hu'
        ~(N3.mp hu').2.2 z hz k (by simp)
      have rlt:∀z∈r,z<(k:Int):=fun z hz=>lt z ((h3 z).mp hz).1
      have Dt:=yF (fi:=mW (f2 dU (f2 dU (aD 0) (aD 4)) (fC (.int 3)))) (fr:=[1,3]) (fc:=lG) (fe:=Wu (f2 (Fv false) (aD 0) (aD 1)) (f2 (Fv false) (aD 0) (aD 2))) (e:=rE [.fro (sU cs),.fro (Qm ks),.fro (aP nums),.own (Qm r),.fro (.int (k:Int))]) (ms:=(at_ cs k).needs) (fun _=>true) (fun m=>.bl (decide (m∈ks)||decide (m∈r)))
        (Zq (aH (aH rfl rfl hc) rfl (Kh _))) A6 (fun m hm=>rfl) fun m hm _=>yp (aH rfl rfl (Uv false m ks)) (aH rfl rfl (Uv false m r))
      rw[M6.mpr fun _ _=>rfl]at Dt
      have hall:=Kl (fun m:Int=>decide (m∈ks)||decide (m∈r)) (at_ cs k).needs
      apply yg (b:=(at_ cs k).needs.all fun m=>decide (m∈ks)||decide (m∈r))
      · ~bR (cT (aA Dt rfl) hall)
      · intro hb
        have hb:∀m∈(at_ cs k).needs,m∈ks∨m∈r:=fun m hm=>by simpa using L8.mp hb m hm
        have hnr:(k:Int)∉r:=fun z=>by
          have:=rlt _ z
          omega
        have e:Qn r k=r++[(k:Int)]:=by B4 Qn;rw[if_neg hnr]
        have hp:=aGF (i:=3) (f:=aD 4) (f':=fC (.bl true)) (env:=[.fro (sU cs),.fro (Qm ks),.fro (aP nums),.own (Qm r),.fro (.int (k:Int))]) (ks:=r) (k:=k) rfl rfl rfl A6
        rw[e]at hp
        &⟨_,hp,r++[(k:Int)],_,rfl,?_,by rw[C7];simp;omega,fun z=>?_⟩
        · &N3.mpr ⟨h1,by simp,fun z hz w hw=>?_⟩
          rw[E3.mp hw]
          ~rlt z hz
        · rw[htk,F2,F2]
          constructor
          · rintro(z1 | z1)
            · B3⟨a1,a2⟩:=(h3 z).mp z1
              ~⟨.inl a1,fun m hm=>(a2 m hm).imp id fun q=>N2 _ q⟩
            · rw[E3.mp z1,D7]
              ~⟨.inr (by simp),fun m hm=>(hb m hm).imp id fun q=>N2 _ q⟩
          · rintro⟨z1,z2⟩
            rcases z1 with z1 | z1
            · &.inl ((h3 z).mpr ⟨z1,fun m hm=>(z2 m hm).imp id fun q=>?_⟩)
              rcases F2.mp q with q | q
              · ~q
              · exfalso
                have a:=lt z z1
                have zr:=hn z (O4 z1)
                have b:=(hg.2 z.toNat A6).1 m hm
                rw[E3.mp q]at b
                omega
            · ~.inr z1
      · intro hb
        have hb:¬∀m∈(at_ cs k).needs,m∈ks∨m∈r:=fun z=>by
          have:((at_ cs k).needs.all fun m=>decide (m∈ks)||decide (m∈r))=true:=L8.mpr fun m hm=>by simpa using z m hm
          rw[this]at hb
          cases hb
        apply aJS
        &⟨_,rfl,r,_,rfl,h1,by omega,fun z=>?_⟩
        rw[htk,F2]
        constructor
        · intro z1
          B3⟨a1,a2⟩:=(h3 z).mp z1
          ~⟨.inl a1,a2⟩
        · rintro⟨z1,z2⟩
          rcases z1 with z1 | z1
          · ~(h3 z).mpr ⟨z1,z2⟩
          · rw[E3.mp z1,D7]at z2
            ~absurd z2 hb
  · rintro env ⟨r,v,rfl,h1,h2,h3⟩
    rw[B6]at h2 h3
    rw[O8]at h3
    ~pZ (cT (aA rfl rfl) (aC7 r)) ⟨_,rfl,r,rfl,h1,h2,h3⟩
def Bn.strike(b:Bn)(k:Int):Bn:={b with bT:=b.bT.set (at_ b.asked k.toNat).fP.toNat ((b.bT.getD (at_ b.asked k.toNat).fP.toNat []).set (at_ b.asked k.toNat).place.toNat (at_ b.asked k.toNat).thing),held:=b.held++[k]}
def Bn.cW(b:Bn)(ks:List Int):Bn:=ks.foldl Bn.strike b
B5 oU(ks:List Int):∀b:Bn,(b.cW ks).asked=b.asked:=by
 induction ks with
 | nil=>intro b;rfl
 | cons k ks ih=>intro b;~(ih (b.strike k)).trans rfl
B5 An(ks:List Int):∀b:Bn,(b.cW ks).held=b.held++ks:=by
 induction ks with
 | nil=>intro b;~(F3 _).symm
 | cons k ks ih=>intro b;~(ih (b.strike k)).trans (by show (b.held++[k])++ks=_;rw[P6];rfl)
B5 ph(ks:List Int):∀b:Bn,(b.cW ks).nk=b.nk∧(b.cW ks).nv=b.nv:=by
 induction ks with
 | nil=>intro b;~⟨rfl,rfl⟩
 | cons k ks ih=>intro b;~ih (b.strike k)
B5 MK(b:Bn)(k:Int):(b.strike k).bT.length=b.bT.length∧∀p:Nat,((b.strike k).bT.getD p []).length=(b.bT.getD p []).length:=by
 B4 Bn.strike
 &⟨by rw[K9],fun p=>?_⟩
 dsimp only
 simp only[B8,F7]
 split
 ·rename_i c
  split
  ·rename_i l
   rw[T2,K9,c]
  ·rename_i l
   rw[E2 (show b.bT.length≤p by omega)]
 ·rfl
B5 rZ(ks:List Int):∀b:Bn,(b.cW ks).bT.length=b.bT.length∧∀p:Nat,((b.cW ks).bT.getD p []).length=(b.bT.getD p []).length:=by
 induction ks with
 | nil=>intro b;~⟨rfl,fun _=>rfl⟩
 | cons k ks ih=>
  intro b
  have a:=ih (b.strike k)
  have c:=MK b k
  ~⟨a.1.trans c.1,fun p=>(a.2 p).trans (c.2 p)⟩
B5 MN(b:Bn)(ks:List Int)(k:Int):b.cW (ks++[k])=(b.cW ks).strike k:=by
 B4 Bn.cW
 rw[h9]
 rfl
B5 Ja.cW{b:Bn}(h:Ja b){r:List Int}(hu:r.Nodup)(hm:∀x∈r,0≤x∧x<(b.asked.length:Int))(hn:∀x∈r,x∉b.held):Ja (b.cW r):=by
 have e1:=oU r b
 have e2:=An r b
 have e3:=ph r b
 have e4:=rZ r b
 &⟨by rw[e1];~h.good,?_,fun k hk=>?_,?_,fun p q=>?_,by rw[e4.1];~h.few,?_⟩
 ·rw[e1,e2]
  &⟨N4.mpr ⟨h.nums.1,hu,fun a ha c hc z=>hn c hc (z▸ha)⟩,fun x hx=>?_⟩
  rcases F2.mp hx with z | z
  ·~h.nums.2 x z
  ·~hm x z
 ·rw[e1]at hk ⊢
  rw[e4.1,e4.2]
  ~h.zb k hk
 ·rw[e3.1,e3.2];~h.nl
 ·rw[e3.1,e3.2,e1];~h.nw p q
 ·rw[e3.1,e1];~h.nkl
B5 pq(ps:List (List (List Int)))(k:Nat)(p:List (List Int)):D.lst ((ps.map fY).set k (fY p))=pD (ps.set k p):=by B4 pD;rw[U7]
B5 aA9(ps:List (List Int))(k:Nat)(t:List Int):D.lst ((ps.map dTup).set k (dTup t))=fY (ps.set k t):=by B4 fY;rw[U7]
B5 aFG{ks:List Int}{k:Int}(h:k∉ks):D.dk (mL (ks.map (F4:Int→Key)) (F4 k)) (putD (ks.map (F4:Int→Key)) (ks.map fun _=>D.bl true) (F4 k) (.bl true))=Qm (ks++[k]):=by
 B4 mL putD Qm
 rw[Cu h]
 simp only[Option.isSome_none,V8,if_false,J3]
 rfl
B5 aBa{b:Bn}{e:List D}{k:Int}(h0:0≤k)(h1:k<(b.asked.length:Int))(hl:b.held.length≤1000)(hs:0≤(at_ b.asked k.toNat).fP∧(at_ b.asked k.toNat).fP<(b.bT.length:Int)∧0≤(at_ b.asked k.toNat).place∧(at_ b.asked k.toNat).place<((b.bT.getD (at_ b.asked k.toNat).fP.toNat []).length:Int))(hn:k∉b.held):uF κ [lV (κ 0) b e,.int k]=some (.non,lV (κ 0) (b.strike k) e):=by
 &lJ rfl fun v=>?_
 B4 Ko
 have hc:dU (sU b.asked) (.int k)=some (Bj (at_ b.asked k.toNat)):=by
  have:=Mx (cs:=b.asked) (k:=k.toNat) A6
  rw[show ((k.toNat:Nat):Int)=k by omega]at this
  ~this
 &cC (d:=Bj (at_ b.asked k.toNat)) (aX (aH (dJ rfl rG) rfl hc) (jy _)) A9 ?_
 B4 Bn.strike
 generalize at_ b.asked k.toNat=c at *
 have hp:(b.bT.map fY)[c.fP.toNat]?=some (fY (b.bT.getD c.fP.toNat [])):=by
  rw[B9,oR (d:=[]) (show c.fP.toNat<b.bT.length by omega)]
  rfl
 &mR rfl (JQ (p:=[L2.Step.fld (κ 0) "panes", .ix c.fP.toNat]) (k:=c.place) (ds:=(b.bT.getD c.fP.toNat []).map dTup) (d:=dTup c.thing) rfl ?_ ((BV BX).trans (oh hp)) (aH rfl rfl (Ux c)) (aX (aH rfl rfl (Cv c)) (iR _)) hs.2.2.1 (by rw[B6];~hs.2.2.2)) rfl ?_
 ·~aDf (p:=[L2.Step.fld (κ 0) "panes"]) rfl (aH rfl rfl (JP c)) hs.1
 rw[aA9]
 rw[show fG [L2.Step.fld (κ 0) "panes", .ix c.fP.toNat] (lV (κ 0) b e) (fY ((b.bT.getD c.fP.toNat []).set c.place.toNat c.thing))=fD (κ 0) (pD (b.bT.set c.fP.toNat ((b.bT.getD c.fP.toNat []).set c.place.toNat c.thing))) (sU b.asked) (.dt (b.nk.map vZ) (b.nv.map D.int)) (Qm b.held) (.lst e)from by
  B4 lV
  rw[BW BX]
  B4 pD
  rw[ou hp,aA6,pq]
  rfl]
 &jz rfl (zT (d:=.bl true) (k:=F4 k) (kd:=.int k) rfl rfl aDd rfl rfl rfl rfl (by rw[B6];omega)) rfl ⟨_,.inr ⟨rfl,rfl⟩,?_⟩
 show some (SD.inn v (fG [L2.Step.fld (κ 0) "held"] _ _))=some (SD.inn v _)
 rw[aDe,aFG hn]
 rfl
B5 aDj{b:Bn}(h:Ja b){p:Int}{most:D}(h0:0≤p)(h1:p<(b.bT.length:Int))(hmo:most=.non∨∃m:Int,most=.int m):∃r,aJW b.asked b.held p r∧∀taken,(most=.non→taken=r)→(∀m:Int,most=.int m→taken=r.take m.toNat)→wQ κ [dR (κ 0) b,.int p,most]=some (aP taken,dR (κ 0) (b.cW taken)):=by
 have h60:=h.good.1
 have hk:=h.nums.len
 have hnl:=ZC b.asked b.held p
 B3⟨r,hr,r1,r2,r3⟩:=aDi (ks:=b.held) h.good (LQ b.asked b.held p) (fun x hx=>by have:=Dr.mp hx;~⟨this.1,this.2.1⟩) A6
 have hR:aJW b.asked b.held p r:=⟨r1,by omega,fun x=>by rw[r3,Dr]⟩
 &⟨r,hR,fun taken t1 t2=>?_⟩
 have hsub:∃n,taken=r.take n:=by
  rcases hmo with z | ⟨m,z⟩
  ·~⟨r.length,by rw[t1 z,O8]⟩
  ·~⟨_,t2 m z⟩
 have htm:∀x∈taken,x∈r:=fun x hx=>by
  B3⟨n,rfl⟩:=hsub
  ~O4 hx
 have htu:taken.Pairwise (·<·):=by
  B3⟨n,rfl⟩:=hsub
  ~r1.sublist (O1 _ _)
 have htl:taken.length≤124:=by
  B3⟨n,rfl⟩:=hsub
  rw[J4]
  omega
 have htr:∀x∈taken,0≤x∧x<(b.asked.length:Int)∧(at_ b.asked x.toNat).fP=p∧x∉b.held:=fun x hx=>((hR.2.2 x).mp (htm x hx)).1
 &lJ rfl fun v=>?_
 B4 Ph
 &kh (d:=.non) (bY rfl (show ("check_pane" : Str)∉Xq by decide +kernel) rfl rfl (Lq κ h0 h1)) ?_
 &cC (d:=aP r) (bH (aA (dJ rfl rG) (aA (dJ rfl ZD) (aA (aH (dJ rfl yx) rfl (rQ h0 (MJ h0 h1))) rfl))) rfl hr) A9 ?_
 have hif:uV (fB (f2 (Jz true) (aD 2) (fC .non))) (cU 3 (fSl true (aD 3) (jb) (tK (fL RL (aB (aD 2) (aB (fC (.int 0)) aM)))))) gH [.inn v (dR (κ 0) b),.fro (.int p),.fro most,.own (aP r),.no]=.next [.inn v (dR (κ 0) b),.fro (.int p),.fro most,.own (aP taken),.no]:=by
  rcases hmo with rfl | ⟨m,rfl⟩
  ·rw[pH (bR (aH rfl rfl (Eu true .non))),t1 rfl]
   rfl
  ·rw[Cp (bR (aH rfl rfl (Eu true (.int m))))]
   &wJ (d:=aP taken) ((WQ rfl rfl (My (cT (aA rfl (aA rfl rfl)) (Zr _ _)))).trans ?_) A9
   rw[t2 m rfl,show (if(0:Int) > m then(0:Int)else m)=((m.toNat:Nat):Int) by split<;>omega,aIc]
 &aAW hif ?_
 &kj (ns:=taken) [.inn v (lV (κ 0) (b.cW taken) (wA b.bT.length b.asked b.held)),.fro (.int p),.fro most,.own (aP taken),lv taken .no taken.length] rfl rfl (fun v2 k env=>env=[.inn v (lV (κ 0) (b.cW (taken.take k)) (wA b.bT.length b.asked b.held)),.fro (.int p),.fro most,.inn v2 (aP taken),lv taken .no k]) (fun v2=>rfl) (fun v2 k env e=>by rw[e];rfl) ?_ (fun v2 env e=>by rw[e,O8];rfl) ?_
 ·rintro v2 k x env hx rfl
  &⟨by walk_at "lt", ?_⟩
  have hxm:=htr x (E6 hx)
  have e1:=oU (taken.take k) b
  have e2:=An (taken.take k) b
  have e4:=rZ (taken.take k) b
  have hnx:taken.take (k+1)=taken.take k++[x]:=by rw[P7,hx];rfl
  have hst:=aBa κ (b:=b.cW (taken.take k)) (e:=wA b.bT.length b.asked b.held) (k:=x) hxm.1 (by rw[e1];~hxm.2.1) (by rw[e2,C7,J4];omega) (by rw[e1,e4.1,e4.2];~h.zb x.toNat A6) (by
   rw[e2,F2]
   rintro(z | z)
   ·~hxm.2.2.2 z
   ·have hu:=htu.sublist (O1 (k+1) taken)
    rw[hnx]at hu
    have:=(N3.mp hu).2.2 x z x (by simp)
    omega)
  &⟨_,Zt (lU (d0:=lV (κ 0) (b.cW (taken.take k)) (wA b.bT.length b.asked b.held)) (p:=[]) (nm:=Xq) rfl rfl rfl A7 rfl hst),?_⟩
  have e:lv taken .no (k+1)=.fro (.int x):=by
   show SD.fro (.int (taken.getD k 0))=_
   rw[qC hx]
  rw[e,hnx,MN]
  rfl
 have e1:=oU taken b
 have e2:=An taken b
 have e4:=rZ taken b
 have Dt:=zQ (fi:=mW (f2 dU (tL (fO (κ 0) "unsettled") (aD 0)) (aD 1))) (fr:=[0]) (fc:=fB (f2 (Fv true) (aD 0) (tL (fO (κ 0) "held") (aD 1)))) (fe:=bO (aD 0)) (e:=rE ([.inn v (lV (κ 0) (b.cW taken) (wA b.bT.length b.asked b.held)),.fro (.int p),.fro most,.own (aP taken),lv taken .no taken.length].set 0 (.own (lV (κ 0) (b.cW taken) (wA b.bT.length b.asked b.held))))) (ms:=nY b.asked b.held p) (fun m=>!decide (m∈(b.cW taken).held)) id
  (jF (aH (dJ rfl yx) rfl (rQ h0 (MJ h0 h1)))) A6 (fun m hm=>bR (aH rfl (dJ rfl ZD) (Uv true m _))) fun m hm _=>aX rfl rfl
 rw[i9]at Dt
 have hun:∀q:Int,nY b.asked (b.held++taken) q=(nY b.asked b.held q).filter fun m=>!decide (m∈b.held++taken):=fun q=>by
  &rN (LQ _ _ _) ((LQ _ _ _).sublist R0) fun x=>?_
  rw[Dr,N1,Dr]
  constructor
  ·rintro⟨a1,a2,a3,a4⟩
   ~⟨⟨a1,a2,a3,fun z=>a4 (N2 _ z)⟩,by rw[decide_eq_false a4];rfl⟩
  ·rintro⟨⟨a1,a2,a3,a4⟩,a5⟩
   ~⟨a1,a2,a3,by simpa using a5⟩
 have hoth:∀q:Int,q≠p→nY b.asked (b.held++taken) q=nY b.asked b.held q:=fun q hq=>by
  rw[hun]
  &M6.mpr fun x hx=>?_
  have hx:=Dr.mp hx
  have:x∉b.held++taken:=fun z=>by
   rcases F2.mp z with z | z
   ·~hx.2.2.2 z
   ·~hq (hx.2.2.1.symm.trans (htr x z).2.2.1)
  rw[decide_eq_false this]
  rfl
 rw[e2,←hun]at Dt
 &mR rfl (JQ (p:=[L2.Step.fld (κ 0) "unsettled"]) (k:=p) (ds:=wA b.bT.length b.asked b.held) rfl rfl MF rfl Dt h0 (by B4 wA;rw[B6,D8];~h1)) rfl ?_
 &zU rfl ⟨_,.inl rfl,?_⟩
 show some (SD.inn v (fG [L2.Step.fld (κ 0) "unsettled"] (lV (κ 0) (b.cW taken) _) _))=some (SD.inn v _)
 B4 dR lV
 rw[yz,e1,e2,e4.1]
 have hl:(wA b.bT.length b.asked b.held).set p.toNat (aP (nY b.asked (b.held++taken) p))=wA b.bT.length b.asked (b.held++taken):=by
  B4 wA
  apply K1
  intro k
  rw[F7,B6,D8,B9,B9]
  by_cases e:p.toNat=k
  ·rw[if_pos e,if_pos A6,G3 A6,G1,show ((k:Nat):Int)=p by omega]
  ·rw[if_neg e]
   by_cases hk:k<b.bT.length
   ·rw[G3 hk,G1,G1,hoth _ A6]
   ·rw[E2 (by rw[D8];omega)]
    rfl
 rw[hl]
B5 qd{b:Bn}{k:Int}{p q:Nat}(h:¬((at_ b.asked k.toNat).fP.toNat=p∧(at_ b.asked k.toNat).place.toNat=q)):val (b.strike k).bT p q=val b.bT p q:=by
 B4 val Bn.strike
 generalize at_ b.asked k.toNat=c at *
 dsimp only
 simp only[B8,F7]
 by_cases e:c.fP.toNat=p
 ·subst e
  rw[if_pos rfl]
  by_cases l:c.fP.toNat<b.bT.length
  ·rw[if_pos l]
   simp only[T2,F7]
   rw[if_neg fun z=>h ⟨rfl,z⟩]
  ·rw[if_neg l,E2 (show b.bT.length≤c.fP.toNat by omega)]
 ·rw[if_neg e]
B5 Py{p q:Nat}:∀(ks:List Int)(b:Bn),(∀k∈ks,¬((at_ b.asked k.toNat).fP.toNat=p∧(at_ b.asked k.toNat).place.toNat=q))→val (b.cW ks).bT p q=val b.bT p q
 | [],b,_=>rfl
 | k::ks,b,h=>(Py ks (b.strike k) fun j hj=>h j (C8 _ hj)).trans (qd (h k D6))
B5 ZK{cs:List tY}{p q:Int}(h:lastAt cs p q=none){k:Nat}(hk:k<cs.length):¬((at_ cs k).fP=p∧(at_ cs k).place=q):=fun z=>by
 B4 lastAt at h
 rw[Z7,List.getLast?_eq_none_iff,Z8]at h
 ~h k (F9.mpr hk) (decide_eq_true z)
B5 MP{b:Bn}(h:Ja b){r:List Int}{p q:Int}(hp:0≤p)(hq:0≤q)(hm:∀x∈r,0≤x∧x<(b.asked.length:Int)):face (b.cW r) p q=face b p q:=by
 B4 face
 rw[oU]
 cases e:lastAt b.asked p q with
 | some k=>rfl
 | none=>
  ~Py r b fun k hk z=>by
   have:=hm k hk
   have hs:=h.zb k.toNat A6
   ~ZK e (show k.toNat<b.asked.length by omega) ⟨by omega,by omega⟩
structure Mp where
 k:List Int
 v:List Int
def Mp.get(m:Mp)(x:Int):Option Int:=(posK m.k x).bind fun j=>m.v[j]?
def Mp.put(m:Mp)(x y:Int):Mp:=⟨mL m.k x,putD m.k m.v x y⟩
def Qv(m:Mp):D:=.dk (m.k.map F4) (m.v.map D.int)
def Oi:Option Int→D
 | some y=>.int y
 | none=>.non
B5 MT(a b:Int)(h:(F4 a:Key)=F4 b):a=b:=by injection h
B5 vU{m:Mp}(h:m.k.length=m.v.length)(x:Int):vA (Qv m) (.int x)=some (Oi (m.get x)):=by
 B4 vA Qv Mp.get
 dsimp only
 rw[show Tt (.int x)=some (.inl x)from rfl,C4,yP MT]
 cases e:posK m.k x with
 | none=>rfl
 | some j=>
  have:=(uB e).1
  dsimp only
  rw[B9,C4,B7 (show j<m.v.length by omega)]
  rfl
B5 Mp.Am{m:Mp}(h:m.k.length=m.v.length)(x y z:Int):(m.put x y).get z=if z=x then some y else m.get z:=Rs.Am h
B5 Oj(m:Mp)(x y:Int):D.dk (mL (m.k.map (F4:Int→Key)) (.inl x)) (putD (m.k.map (F4:Int→Key)) (m.v.map D.int) (.inl x) (.int y))=Qv (m.put x y):=by
 B4 Qv Mp.put
 rw[ZF MT,ZG MT D.int]
B5 aDk{α:Type} [DecidableEq α] (ks:List α) (k:α):(mL ks k).length≤ks.length+1:=by
 B4 mL
 split
 ·omega
 ·rw[C7];simp
def Mp.Ok(m:Mp)(n:Nat):Prop:=m.k.length=m.v.length∧m.k.length≤n
B5 Mp.Ok.put{m:Mp}{n:Nat}(h:m.Ok n)(x y:Int):(m.put x y).Ok (n+1):=⟨xX h.1,G0 (aDk _ _) (T0 h.2)⟩
B5 Mp.Ok.mono{m:Mp}{n k:Nat}(h:m.Ok n)(l:n≤k):m.Ok k:=⟨h.1,G0 h.2 l⟩
section
variable{C:Addr}{nm:List Str}{ks:List Key}{ds:List D}{x:Str}{j:Nat}{d y:D}
B5 oG(h:posK nm x=some j)(hd:ds[j]?=some d):fO C x (.ins C nm ds)=some d:=by B4 fO;dsimp only;rw[if_pos rfl,h];~hd
B5 aDl(h:posK nm x=some j):Fx (.fld C x) (.ins C nm ds)=some j:=by
 show (if C=C then posK nm x else none)=some j
 rw[if_pos rfl]
 ~h
B5 Ao(h:posK nm x=some j)(hd:ds[j]?=some d):gC [.fld C x] (.ins C nm ds)=some d:=tD (aDl h) hd
B5 Aq(h:posK nm x=some j)(hd:ds[j]?=some d):fG [.fld C x] (.ins C nm ds) y=.ins C nm (ds.set j y):=qN (aDl h) hd
B5 cD(h:posK ks (.inr x)=some j)(hd:ds[j]?=some d):jD (.dk ks ds) (.str x)=some d:=by
 show ((posK ks (.inr x)).bind fun j=>ds[j]?)=some d
 rw[h]
 ~hd
B5 Jb(h:posK ks (.inr x)=some j)(hd:ds[j]?=some d):gC [.key (.inr x)] (.dk ks ds)=some d:=tD (s:=.key (.inr x)) (d:=.dk ks ds) h hd
B5 Jc(h:posK ks (.inr x)=some j)(hd:ds[j]?=some d):fG [.key (.inr x)] (.dk ks ds) y=.dk ks (ds.set j y):=qN (s:=.key (.inr x)) (d:=.dk ks ds) h hd
end
def wB:List Str:=["bench", "spots", "string", "loose", "lasts", "comings", "goings"]
B5 w0:posK wB "bench" = some 0:=by decide +kernel
B5 w1:posK wB "spots" = some 1:=by decide +kernel
B5 w2:posK wB "string" = some 2:=by decide +kernel
B5 w3:posK wB "loose" = some 3:=by decide +kernel
B5 w4:posK wB "lasts" = some 4:=by decide +kernel
B5 w5:posK wB "comings" = some 5:=by decide +kernel
B5 w6:posK wB "goings" = some 6:=by decide +kernel
def bks:List Key:=[.inr "recs", .inr "order", .inr "ins", .inr "outs", .inr "lasts", .inr "due", .inr "panes"]
B5 k0:posK bks (.inr "recs")=some 0:=by decide +kernel
B5 k1:posK bks (.inr "order")=some 1:=by decide +kernel
B5 k2:posK bks (.inr "ins")=some 2:=by decide +kernel
B5 k3:posK bks (.inr "outs")=some 3:=by decide +kernel
B5 k4:posK bks (.inr "lasts")=some 4:=by decide +kernel
B5 k5:posK bks (.inr "due")=some 5:=by decide +kernel
B5 k6:posK bks (.inr "panes")=some 6:=by decide +kernel
structure Wb where
 b:Bn
 rs:List (List Int)
 od:List Int
 lo:List Int
 la:Mp
 co:Mp
 go:Mp
abbrev Wb.P(s:Wb):Nat:=s.b.bT.length
abbrev Wb.n(s:Wb):Nat:=s.b.asked.length
abbrev Wb.R(s:Wb)(x:Int):List Int:=s.rs.getD x.toNat []
def Wb.key(s:Wb)(x:Int):Int:=(s.R x).getD 0 0
def qe(P n:Nat):D:=.lst ((D4 n).map fun k=>dTup [((k%P:Nat):Int),((k/P:Nat):Int)])
def yQ(rs:List (List Int)):D:=.lst (rs.map dTup)
def kZ(κ:Nat→Addr)(s:Wb):D:=.ins (κ 1) wB [dR (κ 0) s.b,qe s.P s.rs.length,aP s.od,aP s.lo,Qv s.la,Qv s.co,Qv s.go]
def nH(s:Wb):D:=.dk bks [yQ s.rs,aP s.od,Qv s.co,Qv s.go,Qv s.la,sU s.b.asked,.int s.P]
structure mF(s:Wb):Prop where
 bn:Ja s.b
 p1:0<s.P
 len:∀k,k<s.rs.length→k/s.P<(s.b.bT.getD (k%s.P) []).length
 few:s.rs.length≤64
 pos:0<s.rs.length
 rcd:∀k,k<s.rs.length→s.rs.getD k []=face s.b ((k%s.P:Nat):Int) ((k/s.P:Nat):Int)∧(s.rs.getD k []).length=5
 las:∀k:Nat,k<s.rs.length→s.la.get k=lastAt s.b.asked ((k%s.P:Nat):Int) ((k/s.P:Nat):Int)
 lao:s.la.Ok s.n
 coo:s.co.Ok s.n
 goo:s.go.Ok s.n
 coi:∀x y,s.co.get x=some y→0≤y∧y<(s.n:Int)
 goi:∀x y,s.go.get x=some y→0≤y∧y<(s.n:Int)
 bf:s.od.Nodup
 Rp:∀x∈s.od,1≤x∧x<(s.rs.length:Int)
 lon:s.lo.Nodup
 lom:∀x,x∈s.lo↔1≤x∧x<(s.rs.length:Int)∧x∉s.od
 key:s.od.Pairwise fun x y=>s.key x<s.key y
 th:∀k,k<s.n→(at_ s.b.asked k).thing.length=5
B5 mF.spot{s:Wb}(h:mF s){x:Int}(h0:0≤x)(h1:x<(s.rs.length:Int)):0≤((x.toNat%s.P:Nat):Int)∧((x.toNat%s.P:Nat):Int)<(s.P:Int)∧0≤((x.toNat/s.P:Nat):Int)∧((x.toNat/s.P:Nat):Int)<((s.b.bT.getD ((x.toNat%s.P:Nat):Int).toNat []).length:Int):=by
 have h2:=h.len x.toNat A6
 have h3:=U5 x.toNat h.p1
 rw[D7]
 ~⟨P5 _,g7.mpr h3,P5 _,g7.mpr h2⟩
B5 aDp{P n:Nat}{x:Int}(h0:0≤x)(h1:x<(n:Int)):dU (qe P n) (.int x)=some (dTup [((x.toNat%P:Nat):Int),((x.toNat/P:Nat):Int)]):=rQ h0 (by
 rw[B9,G3 A6]
 rfl)
B5 Ff{rs:List (List Int)}{x:Int}(h0:0≤x)(h1:x<(rs.length:Int)):dU (yQ rs) (.int x)=some (dTup (rs.getD x.toNat [])):=rQ h0 (by
 rw[B9,oR (d:=[]) (show x.toNat<rs.length by omega)]
 rfl)
variable(κ:Nat→Addr)
B5 pM{s:Wb}(h:mF s){x:Int}(h0:0≤x)(h1:x<(s.rs.length:Int)):bV κ [kZ κ s,.int x]=some (dTup (s.R x)):=by
 &mH rfl ?_
 B4 Bb
 B3⟨a,b,c,d⟩:=h.spot h0 h1
 &aCS (d:=dTup [((x.toNat%s.P:Nat):Int),((x.toNat/s.P:Nat):Int)]) (aX (aH (dJ rfl (oG w1 rfl)) rfl (aDp h0 h1)) (iR _)) A9 ?_
 rw[Wb.R,(h.rcd x.toNat A6).1]
 ~iB (bY (nm:=Xq) (dJ rfl (oG w0 rfl)) A7 (aA (aH rfl rfl rfl) (aA (aH rfl rfl rfl) rfl)) rfl (aFF κ h.bn a b c d))
B5 Pz{s:Wb}(h:mF s)(x:Int):jR κ [kZ κ s,.int x]=some (Oi (s.co.get x)):=mH rfl (iB (aH (dJ rfl (oG w5 rfl)) rfl (vU h.coo.1 x)))
B5 Qa{s:Wb}(h:mF s)(x:Int):jT κ [kZ κ s,.int x]=some (Oi (s.go.get x)):=mH rfl (iB (aH (dJ rfl (oG w6 rfl)) rfl (vU h.goo.1 x)))
def gA(os:List (Option Int)):D:=.lst (os.map Oi)
def xQ(os:List (Option Int)):List Int:=os.filterMap id
B5 Wd{fi:FA}{fr:List Nat}{e:DE}(os:List (Option Int))(h:fi e=some (os.map Oi))(hl:os.length≤1000):gU fi fr (fB (f2 (Jz true) (aD 0) (fC .non))) (bO (aD 0)) e=some (aP (xQ os)):=by
 &Cq h (by rw[B6];omega) ?_
 clear h hl
 induction os with
 | nil=>rfl
 | cons o os ih=>
  rw[D3]
  B4 pR
  cases o with
  | none=>~ih
  | some y=>
   show ((pR _ _ (os.map Oi)).map (D.int y::·))=_
   rw[ih]
   rfl
B5 aDq(os:List (Option Int))(hl:os.length≤1000):JW [gA os]=some (aP (xQ os)):=oO rfl (iB (Wd os (jF rfl) hl))
def Wb.wr(s:Wb)(x:Int)(r ns:List Int):Wb:={s with b:=s.b.put ((x.toNat%s.P:Nat):Int) ((x.toNat/s.P:Nat):Int) r ns,rs:=s.rs.set x.toNat r,la:=s.la.put x s.n}
B5 aDr(s:Wb)(x:Int)(r ns:List Int):(s.wr x r ns).n=s.n+1:=by
 show (s.b.asked++[_]).length=_
 rw[C7]
 rfl
B5 Jd(s:Wb)(x:Int)(r ns:List Int):(s.wr x r ns).rs.length=s.rs.length:=K9
B5 tE{α:Type}(l:List α)(i j:Nat)(x d:α)(h:i<l.length):(l.set i x).getD j d=if i=j then x else l.getD j d:=by
 rw[B8,F7,B8]
 by_cases c:i=j
 ·rw[if_pos c,if_pos h,if_pos c];rfl
 ·rw[if_neg c,if_neg c]
B5 aIs{s:Wb}{x y:Int}{r ns:List Int}(h0:0≤x)(h1:x<(s.rs.length:Int))(hy:0≤y):(s.wr x r ns).R y=if y=x then r else s.R y:=by
 show (s.rs.set x.toNat r).getD y.toNat []=_
 rw[tE _ _ _ _ _ A6]
 by_cases c:y=x
 ·rw[if_pos c,if_pos (by rw[c])]
 ·rw[if_neg c,if_neg A6]
B5 aDs{b:Bn}{p q p' q':Int}{th ns:List Int}:face (b.put p q th ns) p' q'=if p=p'∧q=q' then th else face b p' q':=by
 B4 face
 show topOf (b.asked++[lE b p q th ns]) _ (lastAt (b.asked++[lE b p q th ns]) p' q')=_
 rw[Ds]
 show topOf _ _ (if p=p'∧q=q' then _ else _)=_
 by_cases c:p=p'∧q=q'
 ·rw[if_pos c,if_pos c]
  show (at_ (b.asked++[lE b p q th ns]) (b.asked.length:Int).toNat).thing=th
  rw[D7,zR]
  rfl
 ·rw[if_neg c,if_neg c]
  cases e:lastAt b.asked p' q' with
  | none=>rfl
  | some k=>
   have:=Fe e
   show (at_ _ k.toNat).thing=(at_ _ k.toNat).thing
   rw[vC A6]
B5 ZL{P a b:Nat}(h1:((a%P:Nat):Int)=((b%P:Nat):Int))(h2:((a/P:Nat):Int)=((b/P:Nat):Int)):a=b:=by
 have e1:=o7 h1
 have e2:=o7 h2
 have a1:=l3 a P
 have a2:=l3 b P
 rw[←a1,←a2,e1,e2]
B5 mF.wr{s:Wb}(h:mF s){x:Int}{r ns:List Int}(h0:0≤x)(h1:x<(s.rs.length:Int))(hr:r.length=5)(hn:∀m∈ns,0≤m∧m<(s.n:Int))(hl:ns.length≤8)(hm:s.n<124)(hk:x∈s.od→r.getD 0 0=s.key x):mF (s.wr x r ns):=by
 B3⟨a,b,c,d⟩:=h.spot h0 h1
 have hlen:=Jd s x r ns
 have hnn:=aDr s x r ns
 have hxe:((x.toNat:Nat):Int)=x:=by omega
 &⟨h.bn.put hm a b c d hn hl,h.p1,?_,?_,?_,?_,?_,?_,?_,?_,?_,?_,h.bf,?_,h.lon,?_,?_,?_⟩
 ·rw[hlen];~h.len
 ·rw[hlen];~h.few
 ·rw[hlen];~h.pos
 ·intro k hk'
  rw[hlen]at hk'
  show (s.rs.set x.toNat r).getD k []=face (s.b.put _ _ r ns) _ _∧((s.rs.set x.toNat r).getD k []).length=5
  rw[tE _ _ _ _ _ A6,aDs]
  by_cases e:x.toNat=k
  ·subst e
   rw[if_pos rfl,if_pos ⟨rfl,rfl⟩]
   ~⟨rfl,hr⟩
  ·rw[if_neg e,if_neg fun z=>e (ZL z.1 z.2)]
   ~h.rcd k hk'
 ·intro k hk'
  rw[hlen]at hk'
  show (s.la.put x s.n).get k=lastAt (s.b.asked++[lE _ _ _ _ _]) _ _
  rw[Mp.Am h.lao.1,Ds]
  by_cases e:x.toNat=k
  ·subst e
   rw[if_pos hxe,if_pos ⟨rfl,rfl⟩]
  ·rw[if_neg A6,if_neg fun z=>e (ZL z.1 z.2)]
   ~h.las k hk'
 ·rw[hnn];~h.lao.put _ _
 ·rw[hnn];~h.coo.mono A6
 ·rw[hnn];~h.goo.mono A6
 ·intro z y e
  have:=h.coi z y e
  rw[hnn]
  omega
 ·intro z y e
  have:=h.goi z y e
  rw[hnn]
  omega
 ·intro z hz
  rw[hlen]
  ~h.Rp z hz
 ·intro z
  rw[hlen]
  ~h.lom z
 ·have kk:∀y∈s.od,(s.wr x r ns).key y=s.key y:=fun y hy=>by
   show ((s.wr x r ns).R y).getD 0 0=_
   rw[aIs h0 h1 (by have:=h.Rp y hy;omega)]
   by_cases e:y=x
   ·subst e
    rw[if_pos rfl]
    ~hk hy
   ·rw[if_neg e];rfl
  ~h.key.imp_of_mem fun{y z} hy hz q=>by rw[kk y hy,kk z hz];~q
 ·intro k hk'
  rw[hnn]at hk'
  show (at_ (s.b.asked++[lE _ _ _ _ _]) k).thing.length=5
  rcases K4 k s.n with z | z
  ·rw[vC z];~h.th k z
  ·have e:k=s.b.asked.length:=Nat.le_antisymm (Nat.lt_succ_iff.mp hk') z
   rw[e,zR]
   ~hr
B5 aBb{a b:List Int}(h:∀x,x∈a↔x∈b):bc a=bc b:=aCs (IV a) fun k=>(Rg k a).trans (h k)
B5 aDt{s:Wb}{x:Int}{r a b:List Int}(h:∀y,y∈a↔y∈b):s.wr x r a=s.wr x r b:=by
 have e:lE s.b ((x.toNat%s.P:Nat):Int) ((x.toNat/s.P:Nat):Int) r a=lE s.b ((x.toNat%s.P:Nat):Int) ((x.toNat/s.P:Nat):Int) r b:=by
  ~congrArg (tY.mk _ _ r) (aBb fun y=>by rw[F2,F2,h y])
 B4 Wb.wr Bn.put
 rw[e]
B5 mF.ZM{s:Wb}(h:mF s):s.n≤124:=h.bn.good.1
B5 mF.p8{s:Wb}(h:mF s):s.P≤8:=h.bn.few
B5 mapA{o:Option (List D)}{es:List D}(h:o=some es):o.map (·++[])=some es:=by rw[h];show some (es++[])=_;rw[F3]
B5 ZP{s:Wb}(h:mF s){x:Int}{r:List Int}{os:List (Option Int)}(h0:0≤x)(h1:x<(s.rs.length:Int))(hn:∀m∈xQ os,0≤m∧m<(s.n:Int))(hl:os.length≤9):nO κ [kZ κ s,.int x,dTup r,gA os]=some (.int s.n,kZ κ (s.wr x r (xQ os))):=by
 &lJ rfl fun v=>?_
 B4 Ks
 B3⟨a,b,c,d⟩:=h.spot h0 h1
 have hkl:(xQ os).length≤9:=G0 (Y2 _ _) hl
 &cC (d:=dTup [((x.toNat%s.P:Nat):Int),((x.toNat/s.P:Nat):Int)]) (aX (aH (dJ rfl (oG w1 rfl)) rfl (aDp h0 h1)) (iR _)) A9 ?_
 &vD (d:=.int s.n) (env':=[.inn v (.ins (κ 1) wB [dR (κ 0) (s.b.put ((x.toNat%s.P:Nat):Int) ((x.toNat/s.P:Nat):Int) r (xQ os)),qe s.P s.rs.length,aP s.od,aP s.lo,Qv s.la,Qv s.co,Qv s.go]),.fro (.int x),.fro (dTup r),.fro (gA os),.own (dTup [((x.toNat%s.P:Nat):Int),((x.toNat/s.P:Nat):Int)]),.no])
  ((lU (p:=[L2.Step.fld (κ 1) "bench"]) (nm:=Xq) (es:=[.int ((x.toNat%s.P:Nat):Int),.int ((x.toNat/s.P:Nat):Int),dTup r,aP (xQ os)]) rfl rfl (Ao w0 rfl) A7 (mapA (cB (aH rfl rfl rfl) (cB (aH rfl rfl rfl) (cB rfl (cB (bH (aA rfl rfl) rfl (aDq os A6)) rfl))))) (aIq κ h.bn a b c d hn A6 (.inr rfl))).trans (by
   rw[Aq w0 rfl]
   rfl)) A9 ?_
 &mR rfl (zT (p:=[L2.Step.fld (κ 1) "lasts"]) (k:=.inl x) (kd:=.int x) (d:=.int s.n) rfl rfl (Ao w4 rfl) rfl rfl rfl rfl (by rw[B6];have:=h.lao.2;have:=h.ZM;omega)) rfl ?_
 &zU rfl ⟨_,.inl rfl,?_⟩
 show some (SD.inn v (fG [L2.Step.fld (κ 1) "lasts"] _ _))=some (SD.inn v _)
 rw[Aq w4 rfl,Oj]
 B4 kZ
 rw[Jd]
 rfl
B5 ZQ(rs:List (List Int)):kO [yQ rs]=some (.int rs.length):=by show some (D.int ((rs.map dTup).length:Nat))=_;rw[B6]
B5 aFI(o:Option Int):(Oi o).jJ=true:=by cases o<;>rfl
B5 CJ(os:List (Option Int)):D.fU (os.map Oi)=true:=Kg fun d hd=>by
 B3⟨o,_,rfl⟩:=J2.mp hd
 ~aFI o
B5 vV(a b:List (Option Int))(h:a.length+b.length≤1000):eU (gA a) (gA b)=some (gA (a++b)):=by
 B4 gA
 rw[J3]
 ~Zg (by rw[WL,CJ,CJ];rfl) (by rw[B6,B6];omega)
B5 divmod{x:Int}{P:Nat}(h0:0≤x):x%(P:Int)=((x.toNat%P:Nat):Int)∧x/(P:Int)=((x.toNat/P:Nat):Int):=by
 have e:x=((x.toNat:Nat):Int):=by omega
 constructor
 ·rw[T4,←e]
 ·rw[T5,←e]
B5 Je{s:Wb}(h:mF s){x:Int}{r:List Int}{os:List (Option Int)}(h0:0≤x)(h1:x<(s.rs.length:Int))(hl:os.length≤9):lX [nH s,.int x,dTup r,gA os]=some (.int s.n,nH (s.wr x r (xQ os))):=by
 &lJ rfl fun v=>?_
 B4 Pk nH yQ
 have hg:=h.ZM
 have hP:(s.P:Int)<1073741824:=by have:=h.p8;omega
 have hP0:0<(s.P:Int):=by have:=h.p1;omega
 B3⟨e1,e2⟩:=divmod (P:=s.P) h0
 &cC (d:=.int s.n) (cT (aA (aH rfl rfl (cD k5 rfl)) rfl) (qD _)) A9 ?_
 &cC (d:=aP (xQ (os++[s.la.get x]))) (Wd (os++[s.la.get x]) (jF (aH (a:=gA os) (b:=gA [s.la.get x]) rfl (iD (aA (aH (aH rfl rfl (cD k4 rfl)) rfl (vU h.lao.1 x)) rfl) A9) (vV _ _ (by simp;omega)))) (by simp;omega)) A9 ?_
 have hkl:(xQ (os++[s.la.get x])).length≤10:=G0 (Y2 _ _) (by rw[C7];simp;omega)
 have hx:s.la.get x=lastAt s.b.asked ((x.toNat%s.P:Nat):Int) ((x.toNat/s.P:Nat):Int):=by
  have:=h.las x.toNat A6
  rw[show ((x.toNat:Nat):Int)=x by omega]at this
  ~this
 have ek:xQ (os++[s.la.get x])=xQ os++(lastAt s.b.asked ((x.toNat%s.P:Nat):Int) ((x.toNat/s.P:Nat):Int)).toList:=by
  B4 xQ
  rw[b9,hx]
  cases lastAt s.b.asked ((x.toNat%s.P:Nat):Int) ((x.toNat/s.P:Nat):Int)<;>rfl
 &mR rfl (Va (p:=[L2.Step.key (.inr "due")]) (ds:=s.b.asked.map Bj) (d:=Bj (lE s.b ((x.toNat%s.P:Nat):Int) ((x.toNat/s.P:Nat):Int) r (xQ os))) rfl rfl (Jb k5 rfl) ?_ (P1 (by rw[B6];~h.ZM) A8)) rfl ?_
 ·&(iC (aA (aH rfl (aH rfl rfl (cD k6 rfl)) (bC hP0)) (aA (aH rfl (aH rfl rfl (cD k6 rfl)) (dW hP0 hP)) (aA (aX rfl (iR r)) (aA (cT (aA (dJ rfl (Uw A6)) rfl) (Pb _)) rfl)))) A9).trans ?_
  rw[e1,e2,ek]
  rfl
 rw[Jc k5 rfl]
 &mR rfl (JQ (p:=[L2.Step.key (.inr "recs")]) (ds:=s.rs.map dTup) (k:=x) (d:=dTup r) rfl rfl (Jb k0 rfl) rfl (aX rfl (iR r)) h0 (by rw[B6];~h1)) rfl ?_
 rw[Jc k0 rfl]
 &mR rfl (zT (p:=[L2.Step.key (.inr "lasts")]) (k:=.inl x) (kd:=.int x) (d:=.int s.n) rfl rfl (Jb k4 rfl) rfl rfl rfl rfl (by rw[B6];have:=h.lao.2;have:=h.ZM;omega)) rfl ?_
 rw[Jc k4 rfl,Oj]
 &zU rfl ⟨_,.inl rfl,?_⟩
 show some (SD.inn v _)=some (SD.inn v _)
 rw[show (s.wr x r (xQ os)).rs.map dTup=(s.rs.map dTup).set x.toNat (dTup r)from U7]
 rw[show sU (s.wr x r (xQ os)).b.asked=.lst (s.b.asked.map Bj++[Bj (lE s.b ((x.toNat%s.P:Nat):Int) ((x.toNat/s.P:Nat):Int) r (xQ os))])from(Zo _ _).symm]
 rfl
B5 yR(ns:List Int):aP ns=gA (ns.map some):=by B4 aP gA;rw[K7];rfl
B5 vW(ns:List Int):xQ (ns.map some)=ns:=by B4 xQ;rw[List.filterMap_map];~List.filterMap_some
B5 vX(o:Option Int)(os:List (Option Int)):xQ (o::os)=o.toList++xQ os:=by cases o<;>rfl
def Wb.ns(s:Wb)(x:Int)(ns:List Int):List Int:=(s.co.get x).toList++ns
B5 mF.aFJ{s:Wb}(h:mF s){x:Int}{ns:List Int}(hn:∀m∈ns,0≤m∧m<(s.n:Int)):∀m∈s.ns x ns,0≤m∧m<(s.n:Int):=fun m hm=>by
 rcases F2.mp hm with z | z
 ·cases e:s.co.get x with
  | none=>rw[e]at z;cases z
  | some y=>rw[e]at z;rw[E3.mp z];~h.coi x y e
 ·~hn m z
B5 yS{α:Type}(o:Option α):o.toList.length≤1:=by cases o<;>simp
B5 ZR{s:Wb}(h:mF s){x:Int}{r:List Int}{os:List (Option Int)}(h0:0≤x)(h1:x<(s.rs.length:Int))(hn:∀m∈xQ os,0≤m∧m<(s.n:Int))(hl:os.length≤7):gR κ [kZ κ s,.int x,dTup r,gA os]=some (.int s.n,kZ κ (s.wr x r (s.ns x (xQ os)))):=by
 &lJ rfl fun v=>?_
 B4 yK
 have e:s.ns x (xQ os)=xQ (s.co.get x::os):=by rw[vX];rfl
 rw[e]
 &rT (d:=.int s.n) (env':=[.inn v (kZ κ (s.wr x r (xQ (s.co.get x::os)))),.fro (.int x),.fro (dTup r),.fro (gA os)]) (lU (p:=[]) (nm:=wB) (es:=[.int x,dTup r,gA (s.co.get x::os)]) rfl rfl rfl A7 (mapA (cB rfl (cB rfl (xK (aH (a:=gA [s.co.get x]) (b:=gA os) (iD (aA (bY (nm:=wB) rfl A7 rfl rfl (Pz κ h x)) rfl) A9) rfl (vV _ _ (by simp;omega))) rfl)))) (ZP κ h h0 h1 (by rw[←e];~h.aFJ hn) (by simp;omega))) ⟨_,.inl rfl,rfl⟩
B5 aFK{s:Wb}(h:mF s){x:Int}{r ns:List Int}(h0:0≤x)(h1:x<(s.rs.length:Int))(hn:∀m∈ns,0≤m∧m<(s.n:Int))(hl:ns.length≤7):gR κ [kZ κ s,.int x,dTup r,aP ns]=some (.int s.n,kZ κ (s.wr x r (s.ns x ns))):=by
 have:=ZR κ h (r:=r) (os:=ns.map some) h0 h1 (by rw[vW];~hn) (by rw[B6];~hl)
 rw[vW,←yR]at this
 ~this
def lnk(r:List Int)(y:Int):List Int:=[r.getD 0 0,y,r.getD 2 0,r.getD 3 0,r.getD 4 0]
B5 mO{r:List Int}{k:Nat}(h:k<r.length):dU (dTup r) (.int k)=some (.int (r.getD k 0)):=uE (P5 _) (by
 rw[B9,D7,oR (d:=0) h]
 rfl)
B5 mF.five{s:Wb}(h:mF s){x:Int}(h0:0≤x)(h1:x<(s.rs.length:Int)):(s.R x).length=5:=(h.rcd x.toNat A6).2
B5 ZS{s:Wb}(h:mF s){x y:Int}{os:List (Option Int)}(h0:0≤x)(h1:x<(s.rs.length:Int))(hn:∀m∈xQ os,0≤m∧m<(s.n:Int))(hl:os.length≤7):nF κ [kZ κ s,.int x,.int y,gA os]=some (.int s.n,kZ κ (s.wr x (lnk (s.R x) y) (s.ns x (xQ os)))):=by
 &lJ rfl fun v=>?_
 B4 Pq
 have h5:=h.five h0 h1
 &cC (d:=dTup (s.R x)) (bY (nm:=wB) rfl A7 rfl rfl (pM κ h h0 h1)) A9 ?_
 &rT (d:=.int s.n) (env':=[.inn v (kZ κ (s.wr x (lnk (s.R x) y) (s.ns x (xQ os)))),.fro (.int x),.fro (.int y),.fro (gA os),.own (dTup (s.R x))]) (lU (p:=[]) (nm:=wB) (es:=[.int x,dTup (lnk (s.R x) y),gA os]) rfl rfl rfl A7 (mapA (cB rfl (cB (iC (aA (aX (aH rfl rfl (mO (k:=0) A6)) rfl) (aA (aX rfl rfl) (aA (aX (aH rfl rfl (mO (k:=2) A6)) rfl) (aA (aX (aH rfl rfl (mO (k:=3) A6)) rfl) (aA (aX (aH rfl rfl (mO (k:=4) A6)) rfl) rfl))))) A9) (cB rfl rfl)))) (ZR κ h h0 h1 hn hl)) ⟨_,.inl rfl,rfl⟩
B5 aFL{s:Wb}(h:mF s){x y:Int}{ns:List Int}(h0:0≤x)(h1:x<(s.rs.length:Int))(hn:∀m∈ns,0≤m∧m<(s.n:Int))(hl:ns.length≤7):nF κ [kZ κ s,.int x,.int y,aP ns]=some (.int s.n,kZ κ (s.wr x (lnk (s.R x) y) (s.ns x ns))):=by
 have:=ZS κ h (y:=y) (os:=ns.map some) h0 h1 (by rw[vW];~hn) (by rw[B6];~hl)
 rw[vW,←yR]at this
 ~this
B5 Jf{s:Wb}{ns:List Int}{nd:D}(hn:∀m∈ns,0≤m∧m<(s.n:Int))(hnd:(nd=.non∧ns=[])∨nd=aP ns):cJ κ [kZ κ s,nd]=some (aP ns):=by
  suffices hh:∃d,cJ κ [kZ κ s,nd]=some d∧d=aP ns by
    B3⟨d,e1,rfl⟩:=hh
    ~e1
  &yq rfl ?_
  B4 tZ
  &cC (d:=aP ns) ?_ A9 ?_
  · rcases hnd with ⟨rfl,rfl⟩ | rfl
    · ~aGG (bR (aH rfl rfl (Eu false .non))) rfl
    · ~aGH (bR (aH rfl rfl (Eu false (aP ns)))) (cT (aA rfl rfl) (qT (cY ns)))
  &kj (ns:=ns) [.fro (kZ κ s),.fro nd,.own (aP ns),lv ns .no ns.length] rfl rfl (fun v2 k env=>env=[.fro (kZ κ s),.fro nd,.inn v2 (aP ns),lv ns .no k]) (fun v2=>rfl) (fun v2 k env e=>by rw[e];rfl) ?_ (fun v2 env e=>by rw[e];rfl) ?_
  · rintro v2 k x env hx rfl
    &⟨by walk_at "lt", _,Cw (d:=.non) (bY (nm:=Xq) (dJ rfl (oG w0 rfl)) A7 rfl rfl (vQ κ (hn x (E6 hx)).1 (hn x (E6 hx)).2)),?_⟩
    have e:lv ns .no (k+1)=.fro (.int x):=by
      show SD.fro (.int (ns.getD k 0))=_
      rw[qC hx]
    rw[e]
    rfl
  ~JM rfl ⟨_,rfl,rfl⟩
def Wb.ahead(s:Wb)(at_:Int):Int:=(0::s.od).getD at_.toNat 0
B5 aFM(od:List Int)(h:od.length≤1000):eU (aP [0]) (aP od)=some (aP (0::od)):=zP [0] od (by simp;omega)
B5 mF.NB{s:Wb}(h:mF s):s.od.length≤64:=by
 have:=qW s.rs.length s.od h.bf fun x hx=>by have:=h.Rp x hx;omega
 have:=h.few
 omega
B5 mF.aIt{s:Wb}(h:mF s):s.lo.length<64:=by
 have hh:=qW s.rs.length (0::s.lo) (K8.mpr ⟨fun z=>by have:=(h.lom 0).mp z;omega,h.lon⟩) fun x hx=>by
  rcases D5.mp hx with z | z
  ·have:=h.pos;omega
  ·have:=(h.lom x).mp z;omega
 rw[F0]at hh
 have:=h.few
 omega
B5 Qc{s:Wb}(h:mF s){k:Int}(h0:0≤k)(h1:k≤(s.od.length:Int)):jU κ [kZ κ s,.int k]=some (.int (s.ahead k)):=by
 have:=h.NB
 ~mH rfl (iB (aX (aH (aH (iD (aA rfl rfl) A9) (dJ rfl (oG w2 rfl)) (aFM _ A6)) rfl (fJ h0 (by simp;omega))) rfl))
B5 mF.ahead{s:Wb}(h:mF s){k:Int}(h0:0≤k)(h1:k≤(s.od.length:Int)):(s.ahead k=0∨s.ahead k∈s.od)∧0≤s.ahead k∧s.ahead k<(s.rs.length:Int):=by
 have hm:s.ahead k∈(0::s.od):=by
  B4 Wb.ahead
  rw[B8,B7 (show k.toNat<(0::s.od).length by simp;omega)]
  ~N6 _
 rcases D5.mp hm with z | z
 ·rw[z]
  have:=h.pos
  ~⟨.inl rfl,by omega,by omega⟩
 ·have:=h.Rp _ z
  ~⟨.inr z,by omega,by omega⟩
B5 qg{s:Wb}(h:mF s){x a b c:Int}{ns:List Int}{nd:D}(h0:0≤x)(h1:x<(s.rs.length:Int))(hn:∀m∈ns,0≤m∧m<(s.n:Int))(hl:ns.length≤7)(hnd:(nd=.non∧ns=[])∨nd=aP ns):qJ κ [kZ κ s,.int x,.int a,.int b,.int c,nd]=some (.int s.n,kZ κ (s.wr x [(s.R x).getD 0 0,(s.R x).getD 1 0,a,b,c] (s.ns x ns))):=by
 &lJ rfl fun v=>?_
 B4 Di
 have h5:=h.five h0 h1
 &cC (d:=dTup (s.R x)) (bY (nm:=wB) rfl A7 rfl rfl (pM κ h h0 h1)) A9 ?_
 &rT (d:=.int s.n) (env':=[.inn v (kZ κ (s.wr x [(s.R x).getD 0 0,(s.R x).getD 1 0,a,b,c] (s.ns x ns))),.fro (.int x),.fro (.int a),.fro (.int b),.fro (.int c),.fro nd,.own (dTup (s.R x))]) (lU (p:=[]) (nm:=wB) (es:=[.int x,dTup [(s.R x).getD 0 0,(s.R x).getD 1 0,a,b,c],aP ns]) rfl rfl rfl A7 (mapA (cB rfl (cB (iC (aA (aX (aH rfl rfl (mO (k:=0) A6)) rfl) (aA (aX (aH rfl rfl (mO (k:=1) A6)) rfl) (aA (aX rfl rfl) (aA (aX rfl rfl) (aA (aX rfl rfl) rfl))))) A9) (xK (bY (nm:=wB) rfl A7 rfl rfl (Jf κ hn hnd)) rfl)))) (aFK κ h h0 h1 hn hl)) ⟨_,.inl rfl,rfl⟩
def Wb.new(s:Wb):Int:=RM s.lo
def Wb.e1(s:Wb)(k key was now lK:Int):Wb:=s.wr s.new [key,(s.R (s.ahead k)).getD 1 0,was,now,lK] (s.go.get s.new).toList
def Wb.e2(s:Wb)(k key was now lK:Int)(fu:List Int):Wb:=(s.e1 k key was now lK).wr (s.ahead k) (lnk ((s.e1 k key was now lK).R (s.ahead k)) s.new) ((s.e1 k key was now lK).ns (s.ahead k) ((s.n:Int)::fu))
def Wb.ent(s:Wb)(k key was now lK:Int)(fu:List Int):Wb:={s.e2 k key was now lK fu with od:=s.od.take k.toNat++s.new::s.od.drop k.toNat,lo:=s.lo.eraseIdx (s.lo.idxOf s.new),co:=s.co.put s.new (s.n+1:Nat)}
B5 mF.new{s:Wb}(h:mF s)(hl:0<s.lo.length):s.new∈s.lo∧1≤s.new∧s.new<(s.rs.length:Int)∧s.new∉s.od∧0≤s.new:=by
 have:=(Hi hl).1
 have hm:=(h.lom _).mp this
 ~⟨this,hm.1,hm.2.1,hm.2.2,Int.le_trans A8 hm.1⟩
B5 mF.aJZ{s:Wb}(h:mF s)(x:Int):∀m∈(s.go.get x).toList,0≤m∧m<(s.n:Int):=fun m hm=>by
 cases e:s.go.get x with
 | none=>rw[e]at hm;cases hm
 | some y=>rw[e]at hm;rw[E3.mp hm];~h.goi x y e
B5 mF.e1{s:Wb}(h:mF s)(hl:0<s.lo.length)(hm:s.n<124)(k key was now lK:Int):mF (s.e1 k key was now lK):=by
 B3⟨a,b,c,d,e⟩:=h.new hl
 ~h.wr e c rfl (h.aJZ _) (G0 (yS _) A8) hm fun z=>absurd z d
B5 aDu(s:Wb)(k key was now lK:Int):(s.e1 k key was now lK).n=s.n+1:=aDr _ _ _ _
B5 mF.e2{s:Wb}(h:mF s)(hl:0<s.lo.length)(hm:s.n<123){k key was now lK:Int}{fu:List Int}(h0:0≤k)(h1:k≤(s.od.length:Int))(hn:∀m∈fu,0≤m∧m<(s.n:Int))(hf:fu.length≤5):mF (s.e2 k key was now lK fu)∧(∀m∈(s.n:Int)::fu,0≤m∧m<((s.e1 k key was now lK).n:Int))∧s.ahead k<((s.e1 k key was now lK).rs.length:Int):=by
 have w:=h.e1 hl A6 k key was now lK
 B3⟨a,b,c⟩:=h.ahead h0 h1
 have hn2:∀m∈(s.n:Int)::fu,0≤m∧m<((s.e1 k key was now lK).n:Int):=fun m hm=>by
  rw[aDu]
  rcases D5.mp hm with z | z
  ·omega
  ·have:=hn m z
   omega
 have hc:s.ahead k<((s.e1 k key was now lK).rs.length:Int):=by
  show _<((s.wr _ _ _).rs.length:Int)
  rw[Jd]
  ~c
 &⟨w.wr b hc rfl (w.aFJ hn2) ?_ (by rw[aDu];omega) fun z=>rfl,hn2,hc⟩
 B4 Wb.ns
 rw[C7]
 have:=yS ((s.e1 k key was now lK).co.get (s.ahead k))
 simp
 omega
B5 aGI(s:Wb)(k key was now lK:Int)(fu:List Int):(s.ent k key was now lK fu).n=s.n+2:=by
 show (s.e2 k key was now lK fu).n=_
 B4 Wb.e2
 rw[aDr,aDu]
B5 aFN(s:Wb)(k key was now lK:Int)(fu:List Int):(s.ent k key was now lK fu).rs.length=s.rs.length:=by
 show (s.e2 k key was now lK fu).rs.length=_
 B4 Wb.e2
 rw[Jd]
 ~Jd _ _ _ _
B5 CK{l:List Int}{x y:Int}(hn:l.Nodup):y∈l.eraseIdx (l.idxOf x)↔y∈l∧y≠x:=by
 rw[←List.erase_eq_eraseIdx_of_idxOf rfl,hn.mem_erase_iff]
 ~and_comm
def Wb.Fits(s:Wb)(k key:Int):Prop:=(∀x∈s.od.take k.toNat,s.key x<key)∧∀x∈s.od.drop k.toNat,key<s.key x
B5 mF.ent{s:Wb}(h:mF s)(hl:0<s.lo.length)(hm:s.n<123){k key was now lK:Int}{fu:List Int}(h0:0≤k)(h1:k≤(s.od.length:Int))(hn:∀m∈fu,0≤m∧m<(s.n:Int))(hf:fu.length≤5)(hk:s.Fits k key):mF (s.ent k key was now lK fu):=by
  B3⟨w,_,_⟩:=h.e2 hl hm (key:=key) (was:=was) (now:=now) (lK:=lK) h0 h1 hn hf
  B3⟨a1,a2,a3,a4,a5⟩:=h.new hl
  have hA:=h.ahead h0 h1
  have hod:∀x,x∈s.od.take k.toNat++s.new::s.od.drop k.toNat↔x=s.new∨x∈s.od:=fun x=>by
    conv=>rhs;rw[←Q3 k.toNat s.od]
    simp only[F2,D5]
    constructor
    · rintro(z | z | z)
      · ~.inr (.inl z)
      · ~.inl z
      · ~.inr (.inr z)
    · rintro(z | z | z)
      · ~.inr (.inl z)
      · ~.inl z
      · ~.inr (.inr z)
  have hlen:=aFN s k key was now lK fu
  have hnn:=aGI s k key was now lK fu
  have kk:∀x,x=s.new∨x∈s.od→(s.ent k key was now lK fu).key x=if x=s.new then key else s.key x:=fun x hx=>by
    have x0:0≤x:=by
      rcases hx with z | z
      · omega
      · have:=h.Rp x z;omega
    show ((s.e2 k key was now lK fu).R x).getD 0 0=_
    have e1r:∀y,0≤y→(s.e1 k key was now lK).R y=if y=s.new then [key,(s.R (s.ahead k)).getD 1 0,was,now,lK]else s.R y:=fun y hy=>aIs a5 a3 hy
    have ne:s.ahead k≠s.new:=fun z=>by
      rcases hA.1 with y | y
      · omega
      · ~a4 (z▸y)
    B4 Wb.e2
    rw[aIs hA.2.1 (by show _<((s.wr _ _ _).rs.length:Int);rw[Jd];~hA.2.2) x0]
    by_cases c:x=s.ahead k
    · rw[if_pos c,if_neg (by rw[c];~ne),e1r _ hA.2.1,if_neg ne,c]
      rfl
    · rw[if_neg c,e1r x x0]
      by_cases c2:x=s.new
      · rw[if_pos c2,if_pos c2];rfl
      · rw[if_neg c2,if_neg c2];rfl
  &⟨w.bn,w.p1,w.len,w.few,w.pos,w.rcd,w.las,w.lao,?_,?_,?_,?_,?_,?_,?_,?_,?_,w.th⟩
  · rw[hnn];~(h.coo.put _ _).mono A6
  · rw[hnn];~h.goo.mono A6
  · intro x y e
    have e:(s.co.put s.new (s.n+1:Nat)).get x=some y:=e
    rw[Mp.Am h.coo.1]at e
    rw[hnn]
    split at e
    · cases e
      omega
    · have:=h.coi x y e
      omega
  · intro x y e
    have:=h.goi x y e
    rw[hnn]
    omega
  · &N4.mpr ⟨h.bf.sublist (O1 _ _),K8.mpr ⟨fun z=>a4 (U8 z),h.bf.sublist (i3 _ _)⟩,fun x hx y hy=>?_⟩
    rcases D5.mp hy with z | z
    · rintro rfl
      ~a4 (z▸O4 hx)
    · have:=h.bf
      rw[←Q3 k.toNat s.od]at this
      ~(N4.mp this).2.2 x hx y z
  · intro x hx
    rw[hlen]
    rcases(hod x).mp hx with z | z
    · omega
    · ~h.Rp x z
  · ~h.lon.sublist (T8 _ _)
  · intro x
    show x∈s.lo.eraseIdx (s.lo.idxOf s.new)↔_
    rw[hlen,CK h.lon,h.lom x]
    show _↔1≤x∧x<(s.rs.length:Int)∧x∉s.od.take k.toNat++s.new::s.od.drop k.toNat
    rw[hod x,not_or]
    constructor
    · rintro⟨⟨z1,z2,z3⟩,z4⟩
      ~⟨z1,z2,z4,z3⟩
    · rintro⟨z1,z2,z4,z3⟩
      ~⟨⟨z1,z2,z3⟩,z4⟩
  · have hp:=h.key
    rw[←Q3 k.toNat s.od]at hp
    B3⟨p1,p2,p3⟩:=N3.mp hp
    have nt:∀x∈s.od.take k.toNat,x≠s.new:=fun x hx z=>a4 (z▸O4 hx)
    have nd:∀x∈s.od.drop k.toNat,x≠s.new:=fun x hx z=>a4 (z▸U8 hx)
    have kt:∀x∈s.od.take k.toNat,(s.ent k key was now lK fu).key x=s.key x:=fun x hx=>by rw[kk x (.inr (O4 hx)),if_neg (nt x hx)]
    have kd:∀x∈s.od.drop k.toNat,(s.ent k key was now lK fu).key x=s.key x:=fun x hx=>by rw[kk x (.inr (U8 hx)),if_neg (nd x hx)]
    have kn:(s.ent k key was now lK fu).key s.new=key:=by rw[kk _ (.inl rfl),if_pos rfl]
    show (s.od.take k.toNat++s.new::s.od.drop k.toNat).Pairwise _
    &N3.mpr ⟨p1.imp_of_mem fun{x y} hx hy q=>by rw[kt x hx,kt y hy];~q,I0.mpr ⟨fun y hy=>by rw[kn,kd y hy];~hk.2 y hy,p2.imp_of_mem fun{x y} hx hy q=>by rw[kd x hx,kd y hy];~q⟩,fun x hx y hy=>?_⟩
    rw[kt x hx]
    rcases D5.mp hy with z | z
    · rw[z,kn]
      ~hk.1 x hx
    · rw[kd y z]
      ~p3 x hx y z
B5 aFO{s:Wb}{k key:Int}(h0:0≤k)(h1:k≤(s.od.length:Int))(hk:s.Fits k key):(((s.od.filter fun x=>decide (s.key x<key)).length:Nat):Int)=k:=by
 conv=>lhs;rw[←Q3 k.toNat s.od]
 rw[W4,M6.mpr fun x hx=>decide_eq_true (hk.1 x hx),Z8.mpr fun x hx=>by have:=hk.2 x hx;simp;omega,F3,J4]
 omega
B5 aDv{env:EN}{i:Nat}{π:FP}{f g:FE}{d0:D}{p:List L2.Step}{ns:List Int}{k y:Int}(h1:env[i]?=some (.own d0))(h2:π (rE env)=some p)(h3:gC p d0=some (aP ns))(h4:f (rE env)=some (.int k))(h5:g (rE env)=some (.int y))(k0:0≤k)(k1:k≤(ns.length:Int))(hl:ns.length<1000):jr i π f g env=.next (env.set i (.own (fG p d0 (aP (ns.take k.toNat++y::ns.drop k.toNat))))):=by
 B4 jr
 rw[h1,h2,h4,h5]
 dsimp only
 rw[h3]
 B4 aP
 dsimp only
 rw[mC]
 dsimp only
 rw[if_pos ⟨k0,by omega,hl⟩]
B5 aDw{env:EN}{i:Nat}{π:FP}{g:FE}{d0:D}{p:List L2.Step}{ns:List Int}{y:Int}(h1:env[i]?=some (.own d0))(h2:π (rE env)=some p)(h3:gC p d0=some (aP ns))(h5:g (rE env)=some (.int y))(hy:y∈ns):jt i π g env=.next (env.set i (.own (fG p d0 (aP (ns.eraseIdx (ns.idxOf y)))))):=by
 B4 jt
 rw[h1,h2,h5]
 dsimp only
 rw[h3]
 B4 aP
 dsimp only
 rw[mC]
 dsimp only
 rw[if_pos hy]
B5 aDx{s:Wb}(h:mF s)(hl:0<s.lo.length)(hm:s.n<123){k key was now lK:Int}{fu:List Int}{nd:D}(h0:0≤k)(h1:k≤(s.od.length:Int))(hn:∀m∈fu,0≤m∧m<(s.n:Int))(hf:fu.length≤5)(hk:s.Fits k key)(hnd:(nd=.non∧fu=[])∨nd=aP fu) :
  qK κ [kZ κ s,.int key,.int was,.int now,.int lK,nd]=some (.tup [.int s.new,.int (s.n+1:Nat)],kZ κ (s.ent k key was now lK fu)):=by
 &lJ rfl fun v=>?_
 B4 Kz
 B3⟨a1,a2,a3,a4,a5⟩:=h.new hl
 B3⟨b1,b2,b3⟩:=h.ahead h0 h1
 B3⟨W2,hn2,hc⟩:=h.e2 hl hm (key:=key) (was:=was) (now:=now) (lK:=lK) h0 h1 hn hf
 have W1:=h.e1 hl A6 k key was now lK
 have h5:=h.five b2 b3
 have ho:=h.NB
 &Az (bR (aH (cT (aA (dJ rfl (oG w3 rfl)) rfl) (jP _)) rfl (mQ _ _))) (decide_eq_false A6) (Bh ?_)
 &cC (d:=aP fu) (bY (nm:=wB) rfl A7 rfl rfl (Jf κ hn hnd)) A9 ?_
 have Dt:=yF (fi:=mW (tL (fO (κ 1) "string") (aD 0))) (fr:=[0,1]) (fc:=fB (f2 dLt (f2 dU (gJ (κ 1) "record_of" 2 (bV κ) (aD 1) (aB (aD 0) aM) []) (fC (.int (0)))) (aD 2))) (fe:=bO (aD 0)) (e:=rE [.inn v (kZ κ s),.fro (.int key),.fro (.int was),.fro (.int now),.fro (.int lK),.fro nd,.own (aP fu),.no,.no,.no,.no,.no]) (ms:=s.od) (fun x=>decide (s.key x<key)) (fun x=>.int x) (jF (dJ rfl (oG w2 rfl))) A6 (fun x hx=>by
  have:=h.Rp x hx
  ~bR (aH (aH (bY (nm:=wB) rfl A7 rfl rfl (pM κ h A6 this.2)) rfl (mO (k:=0) (by rw[h.five A6 this.2];decide))) rfl (Ep _ _))) fun x hx _=>aX rfl rfl
 &cC (d:=.int k) ((cT (aA Dt rfl) (Uq _)).trans (by rw[B6,aFO h0 h1 hk])) A9 ?_
 &cC (d:=.int (s.ahead k)) (bY (nm:=wB) rfl A7 rfl rfl (Qc κ h h0 h1)) A9 ?_
 &cC (d:=.int s.new) (cT (aA (dJ rfl (oG w3 rfl)) rfl) (jx hl)) A9 ?_
 &vD (d:=.int s.n) (env':=[.inn v (kZ κ (s.e1 k key was now lK)),.fro (.int key),.fro (.int was),.fro (.int now),.fro (.int lK),.fro nd,.own (aP fu),.own (.int k),.own (.int (s.ahead k)),.own (.int s.new),.no,.no])
  (lU (p:=[]) (nm:=wB) (es:=[.int s.new,dTup [key,(s.R (s.ahead k)).getD 1 0,was,now,lK],gA [s.go.get s.new]]) rfl rfl rfl A7 (mapA (cB rfl (xK (iC (aA (aX rfl rfl) (aA (aX (aH (bY (nm:=wB) rfl A7 rfl rfl (pM κ h b2 b3)) rfl (mO (k:=1) A6)) rfl) (aA (aX rfl rfl) (aA (aX rfl rfl) (aA (aX rfl rfl) rfl))))) A9) (xK (iD (aA (bY (nm:=wB) rfl A7 rfl rfl (Qa κ h s.new)) rfl) A9) rfl)))) ((ZP κ h a5 a3 (by rw[vX];~fun m hm=>h.aJZ _ m (by simpa[xQ]using hm)) (by simp)).trans (by rw[vX,show xQ []=[]from rfl,F3];rfl))) A9 ?_
 &vD (d:=.int (s.n+1:Nat)) (env':=[.inn v (kZ κ (s.e2 k key was now lK fu)),.fro (.int key),.fro (.int was),.fro (.int now),.fro (.int lK),.fro nd,.own (aP fu),.own (.int k),.own (.int (s.ahead k)),.own (.int s.new),.own (.int s.n),.no])
  (lU (p:=[]) (nm:=wB) (es:=[.int (s.ahead k),.int s.new,aP ((s.n:Int)::fu)]) rfl rfl rfl A7 (mapA (cB rfl (cB rfl (cB (aH (iD (aA rfl rfl) A9) rfl (zP [(s.n:Int)] fu (by simp;omega))) rfl)))) ((aFL κ W1 b2 hc hn2 (by simp;omega)).trans (by rw[aDu];rfl))) A9 ?_
 &mR rfl (aDv (p:=[L2.Step.fld (κ 1) "string"]) (ns:=s.od) rfl rfl (Ao w2 rfl) rfl rfl h0 h1 A6) rfl ?_
 rw[show fG [L2.Step.fld (κ 1) "string"] (kZ κ (s.e2 k key was now lK fu)) (aP (s.od.take k.toNat++s.new::s.od.drop k.toNat))=.ins (κ 1) wB _ from Aq w2 rfl]
 &mR rfl (aDw (p:=[L2.Step.fld (κ 1) "loose"]) (ns:=s.lo) rfl rfl (Ao w3 rfl) rfl a1) rfl ?_
 rw[Aq w3 rfl]
 &mR rfl (zT (p:=[L2.Step.fld (κ 1) "comings"]) (k:=.inl s.new) (kd:=.int s.new) (d:=.int (s.n+1:Nat)) rfl rfl (Ao w5 rfl) rfl rfl rfl rfl (by rw[B6];have:=W2.coo.2;have:=W2.ZM;omega)) rfl ?_
 rw[Aq w5 rfl,Oj]
 ~rT (Mz (iC (aA (aX rfl rfl) (aA (aX rfl rfl) rfl)) A9)) ⟨_,.inl rfl,rfl⟩
B5 mF.aFP{s:Wb}(h:mF s):(sortI s.lo).Pairwise (·<·):=((iV s.lo).strict h.lon).1
B5 We{l:List Int}{x:Int}:x∈sortI l↔x∈l:=(iV l).1.mem_iff
B5 Rq{s:Wb}(h:mF s):qI [nH s]=some (aP (sortI s.lo)):=by
 suffices hh:∃d,qI [nH s]=some d∧d=aP (sortI s.lo) by
  B3⟨d,e1,rfl⟩:=hh
  ~e1
 &oE rfl ?_
 B4 XQ
 have ho:=h.NB
 have hr:=h.few
 have hp:=h.pos
 &cC (d:=Qm []) rfl A9 ?_
 &yh (xs:=s.od.map D.int) (fun k env=>∃(ks:List Int)(v:SD),env=[.fro (nH s),.own (Qm ks),v]∧ks.length≤k∧∀x,x∈ks↔x∈s.od.take k) rfl (jF (aH rfl rfl (cD k1 rfl))) ⟨[],.no,rfl,C5 _,fun x=>by simp⟩ ?_ ?_
 ·rintro k x env hx ⟨ks,v,rfl,hl,hm⟩
  &⟨by walk_at "lt", ?_⟩
  rw[B9]at hx
  B3⟨y,hy,rfl⟩:=lY hx
  have hkl:=(D2.mp hy).1
  &⟨_,aGF (ks:=ks) (k:=y) rfl rfl rfl A6,Qn ks y,_,rfl,G0 (aC4 _ _) (T0 hl),fun z=>?_⟩
  rw[aC3,hm,P7,hy,F2]
  simp
 ·rintro env ⟨ks,v,rfl,hl,hm⟩
  rw[B6,O8]at hm
  have hc:=zQ (fi:=Gj (aB (fC (.int 1)) (aB (fL kO (aB (f2 jD (aD 0) (fC (.str "recs"))) aM)) aM))) (fr:=[1]) (fc:=fB (f2 (Fv true) (aD 0) (aD 1))) (fe:=bO (aD 0)) (e:=rE [.fro (nH s),.own (Qm ks),v]) (ms:=(D4 (s.rs.length-1)).map fun k=>1+((k:Nat):Int)) (fun x=>!decide (x∈ks)) id ((Us (i:=1) (j:=(s.rs.length:Int)) (aA rfl (aA (cT (aA (aH rfl rfl (cD k0 rfl)) rfl) (ZQ _)) rfl)) A6 A6 A6 A6).trans (by rw[K7,show ((s.rs.length:Int)-1).toNat=s.rs.length-1 by omega];rfl)) (by rw[B6,D8];omega) (fun x _=>bR (aH rfl rfl (Uv true x ks))) fun x _ _=>aX rfl rfl
  &pZ hc ⟨_,rfl,?_⟩
  rw[i9]
  congr 1
  &rN (List.Pairwise.sublist R0 ?_) h.aFP fun x=>?_
  ·rw[i5]
   ~S6.imp fun q=>by omega
  ·rw[We,h.lom x,N1,J2]
   constructor
   ·rintro⟨⟨k,hk,rfl⟩,z⟩
    rw[F9]at hk
    &⟨by omega,by omega,fun q=>?_⟩
    rw[decide_eq_true ((hm _).mpr q)]at z
    cases z
   ·rintro⟨z1,z2,z3⟩
    &⟨⟨(x-1).toNat,F9.mpr A6,by omega⟩,?_⟩
    rw[decide_eq_false fun q=>z3 ((hm _).mp q)]
    rfl
B5 aBc{l:List Int}(h:0<l.length):(sortI l).getD 0 0=RM l:=by
 have hl:(sortI l).length=l.length:=(iV l).1.length_eq
 &Tz ⟨?_,fun a ha=>?_⟩
 ·rw[B8,B7 A6]
  ~We.mp (N6 _)
 ·B3⟨i,hi,rfl⟩:=K0 (We.mpr ha)
  rw[B8,B7 A6]
  rcases W0 i with z | z
  ·subst z
   ~S5 _
  ·~K5.mp (iV l).2 0 i A6 hi z
B5 Qd{s:Wb}(h:mF s){x y:Int}{os:List (Option Int)}(h0:0≤x)(h1:x<(s.rs.length:Int))(hl:os.length≤7):nD [nH s,.int x,.int y,gA os]=some (.int s.n,nH (s.wr x (lnk (s.R x) y) (s.ns x (xQ os)))):=by
 &lJ rfl fun v=>?_
 B4 Pn
 have h5:=h.five h0 h1
 &cC (d:=dTup (s.R x)) (aX (aH (aH rfl rfl (cD k0 rfl)) rfl (Ff h0 h1)) (iR _)) A9 ?_
 have e:s.wr x (lnk (s.R x) y) (s.ns x (xQ os))=s.wr x (lnk (s.R x) y) (xQ (os++[s.co.get x])):=aDt fun z=>by
  B4 Wb.ns
  rw[show xQ (os++[s.co.get x])=xQ os++(s.co.get x).toList from by B4 xQ;rw[b9];cases s.co.get x<;>rfl,F2,F2,or_comm]
 rw[e]
 &rT (d:=.int s.n) (env':=[.inn v (nH (s.wr x (lnk (s.R x) y) (xQ (os++[s.co.get x])))),.fro (.int x),.fro (.int y),.fro (gA os),.own (dTup (s.R x))]) (wK (es:=[.int x,dTup (lnk (s.R x) y),gA (os++[s.co.get x])]) rfl (cB rfl (cB (iC (aA (aX (aH rfl rfl (mO (k:=0) A6)) rfl) (aA (aX rfl rfl) (aA (aX (aH rfl rfl (mO (k:=2) A6)) rfl) (aA (aX (aH rfl rfl (mO (k:=3) A6)) rfl) (aA (aX (aH rfl rfl (mO (k:=4) A6)) rfl) rfl))))) A9) (xK (aH (a:=gA os) (b:=gA [s.co.get x]) rfl (iD (aA (aH (aH rfl rfl (cD k2 rfl)) rfl (vU h.coo.1 x)) rfl) A9) (vV _ _ (by simp;omega))) rfl))) (Je h h0 h1 (by simp;omega))) ⟨_,.inl rfl,rfl⟩
B5 ql{s:Wb}(h:mF s){x y:Int}{ns:List Int}(h0:0≤x)(h1:x<(s.rs.length:Int))(hl:ns.length≤7):nD [nH s,.int x,.int y,aP ns]=some (.int s.n,nH (s.wr x (lnk (s.R x) y) (s.ns x ns))):=by
 have:=Qd h (y:=y) (os:=ns.map some) h0 h1 (by rw[B6];~hl)
 rw[vW,←yR]at this
 ~this
B5 qm{s:Wb}(h:mF s)(hl:0<s.lo.length)(hm:s.n<123){k key was now lK:Int}{fu:List Int}(h0:0≤k)(h1:k≤(s.od.length:Int))(hn:∀m∈fu,0≤m∧m<(s.n:Int))(hf:fu.length≤5) :
  wW [nH s,.int k,dTup [key,was,now,lK],aP fu]=some (.tup [.int s.new,.int (s.n+1:Nat)],nH (s.ent k key was now lK fu)):=by
 &lJ rfl fun v=>?_
 B4 Pu
 B3⟨a1,a2,a3,a4,a5⟩:=h.new hl
 B3⟨b1,b2,b3⟩:=h.ahead h0 h1
 B3⟨W2,hn2,hc⟩:=h.e2 hl hm (key:=key) (was:=was) (now:=now) (lK:=lK) h0 h1 hn hf
 have W1:=h.e1 hl A6 k key was now lK
 have h5:=h.five b2 b3
 have ho:=h.NB
 have hsl:(sortI s.lo).length=s.lo.length:=(iV s.lo).1.length_eq
 &cC (d:=.int s.new) (aX ((aH (bH (aA rfl rfl) rfl (Rq h)) rfl (fJ A8 A6)).trans (by rw[show (0:Int).toNat=0 from rfl,aBc hl];rfl)) rfl) A9 ?_
 &cC (d:=.int (s.ahead k)) (aX (aH (aH (iD (aA rfl rfl) A9) (aH rfl rfl (cD k1 rfl)) (aFM _ A6)) rfl (fJ h0 (by simp;omega))) rfl) A9 ?_
 &cC (d:=dTup [key,(s.R (s.ahead k)).getD 1 0,was,now,lK]) (iC (aA (aX (aH rfl rfl rfl) rfl) (aA (aX (aH (aH (aH rfl rfl (cD k0 rfl)) rfl (Ff b2 b3)) rfl (mO (k:=1) (by show 1<(s.R (s.ahead k)).length;omega))) rfl) (aA (aX (aH rfl rfl rfl) rfl) (aA (aX (aH rfl rfl rfl) rfl) (aA (aX (aH rfl rfl rfl) rfl) rfl))))) A9) A9 ?_
 &vD (d:=.int s.n) (env':=[.inn v (nH (s.e1 k key was now lK)),.fro (.int k),.fro (dTup [key,was,now,lK]),.fro (aP fu),.own (.int s.new),.own (.int (s.ahead k)),.own (dTup [key,(s.R (s.ahead k)).getD 1 0,was,now,lK]),.no,.no])
  (wK (es:=[.int s.new,dTup [key,(s.R (s.ahead k)).getD 1 0,was,now,lK],gA [s.go.get s.new]]) rfl (cB rfl (cB rfl (xK (iD (aA (aH (aH rfl rfl (cD k3 rfl)) rfl (vU h.goo.1 s.new)) rfl) A9) rfl))) ((Je h a5 a3 (by simp)).trans (by rw[vX,show xQ []=[]from rfl,F3];rfl))) A9 ?_
 &vD (d:=.int (s.n+1:Nat)) (env':=[.inn v (nH (s.e2 k key was now lK fu)),.fro (.int k),.fro (dTup [key,was,now,lK]),.fro (aP fu),.own (.int s.new),.own (.int (s.ahead k)),.own (dTup [key,(s.R (s.ahead k)).getD 1 0,was,now,lK]),.own (.int s.n),.no])
  (wK (es:=[.int (s.ahead k),.int s.new,aP ((s.n:Int)::fu)]) rfl (cB rfl (cB rfl (cB (aH (iD (aA rfl rfl) A9) rfl (zP [(s.n:Int)] fu (by simp;omega))) rfl))) ((ql W1 b2 hc (by simp;omega)).trans (by rw[aDu];rfl))) A9 ?_
 &mR rfl (zT (p:=[L2.Step.key (.inr "ins")]) (k:=.inl s.new) (kd:=.int s.new) (d:=.int (s.n+1:Nat)) rfl rfl (Jb k2 rfl) rfl rfl rfl rfl (by rw[B6];have:=W2.coo.2;have:=W2.ZM;omega)) rfl ?_
 rw[show fG [L2.Step.key (.inr "ins")] (nH (s.e2 k key was now lK fu)) _=.dk bks _ from Jc k2 rfl,Oj]
 &mR rfl (aDv (p:=[L2.Step.key (.inr "order")]) (ns:=s.od) rfl rfl (Jb k1 rfl) rfl rfl h0 h1 A6) rfl ?_
 rw[Jc k1 rfl]
 ~rT (Mz (iC (aA (aX rfl rfl) (aA (aX rfl rfl) rfl)) A9)) ⟨_,.inl rfl,rfl⟩
B5 mF.NK{s:Wb}(h:mF s){i j:Nat}(hj:j<s.od.length)(hij:i≤j):s.key (s.od.getD i 0)≤s.key (s.od.getD j 0):=by
 rw[B8,B8,B7 (show i<s.od.length by omega),B7 hj]
 rcases K4 i j with z | z
 ·~O9 (K5.mp h.key i j A6 hj z)
 ·have:i=j:=by omega
  subst this
  ~S5 _
B5 Wf{l:List Int}{k:Nat}{x:Int}(h:x∈l.take k):∃i,i<k∧i<l.length∧x=l.getD i 0:=by
 B3⟨i,hi,rfl⟩:=K0 h
 rw[J4]at hi
 ~⟨i,by omega,by omega,by rw[X0,B8,B7 A6];rfl⟩
B5 Wg{l:List Int}{k:Nat}{x:Int}(h:x∈l.drop k):∃i,k≤i∧i<l.length∧x=l.getD i 0:=by
 B3⟨i,hi,rfl⟩:=K0 h
 rw[Q5]at hi
 ~⟨k+i,by omega,by omega,by rw[List.getElem_drop,B8,B7 A6];rfl⟩
B5 aDy{s:Wb}(h:mF s){at_ c:Int}(h0:0≤at_)(h1:at_≤(s.od.length:Int)):∃key k:Int,Ky [nH s,.int at_,.int c]=some (dTup [key,k])∧0≤k∧k≤(s.od.length:Int)∧s.Fits k key:=by
 suffices hh:∃d,Ky [nH s,.int at_,.int c]=some d∧∃key k:Int,d=dTup [key,k]∧0≤k∧k≤(s.od.length:Int)∧s.Fits k key by
  B3⟨d,e,key,k,rfl,q⟩:=hh
  ~⟨key,k,e,q⟩
 &oE rfl ?_
 B4 yw
 have ho:=h.NB
 have p50:(0:Int)<10 ^ (50:Int).toNat:=S8 A8
 have p58:(0:Int)<10 ^ (58:Int).toNat:=S8 A8
 have hpw:∀n:Int,0≤n→n<100→Jp (.int 10) (.int n)=some (.int (10 ^ n.toNat)):=fun n a b=>yE ⟨a,by omega,by omega⟩
 have m50:=F1 c (Int.ne_of_gt p50)
 have hkd:∀i:Nat,i<s.od.length→(s.od.map s.key).getD i 0=s.key (s.od.getD i 0):=fun i hi=>by
  rw[B8,B9,B7 hi,B8,B7 hi]
  rfl
 have hc:=zQ (fi:=mW (f2 jD (aD 0) (fC (.str "order")))) (fr:=[0]) (fc:=lG) (fe:=bO (f2 dU (f2 dU (f2 jD (aD 1) (fC (.str "recs"))) (aD 0)) (fC (.int 0)))) (e:=rE [.fro (nH s),.fro (.int at_),.fro (.int c),.no]) (ms:=s.od) (fun _=>true) s.key (jF (aH rfl rfl (cD k1 rfl))) A6 (fun x _=>rfl) fun x hx _=>by
  have:=h.Rp x hx
  ~aX (aH (aH (aH rfl rfl (cD k0 rfl)) rfl (Ff A6 this.2)) rfl (mO (k:=0) (by rw[show s.rs.getD x.toNat []=s.R x from rfl,h.five A6 this.2];decide))) rfl
 rw[M6.mpr fun _ _=>rfl]at hc
 &cC hc A9 ?_
 have hl:(s.od.map s.key).length=s.od.length:=B6 ..
 &Xc (b:=decide (s.od.map s.key=[])) (bR (aH rfl rfl (Ut _ []))) (fun e=>?_) fun e=>Bh ?_
 ·have e:s.od=[]:=List.map_eq_nil_iff.mp (of_decide_eq_true e)
  &WM (iC (aA (aH rfl (aH rfl rfl (hpw 58 A8 A8)) (bC p58)) (aA rfl rfl)) A9) ⟨_,rfl,_,0,rfl,by decide,by omega,?_⟩
  constructor<;>intro x hx<;>rw[e]at hx<;>cases hx
 have hpos:0<s.od.length:=by
  have e:=of_decide_eq_false e
  rcases W0 s.od.length with z | z
  ·~absurd (by rw[F6 z];rfl) e
  ·~z
 &Xc (bR (aH rfl rfl (mQ _ _))) (fun e=>?_) fun e=>Bh ?_
 ·&WM (iC (aA (aH (aH (aH rfl rfl (fJ A8 A6)) rfl (lR _ _)) (aH rfl (aH rfl rfl (hpw 50 A8 A8)) (bC p50)) (lR _ _)) (aA rfl rfl)) A9) ⟨_,rfl,_,0,rfl,by decide,by omega,fun x hx=>by simp at hx,fun x hx=>?_⟩
  B3⟨i,_,i2,rfl⟩:=Wg hx
  have:=h.NK i2 (M0 i)
  rw[show (0:Int).toNat=0 from rfl,hkd 0 hpos]
  omega
 have ha:at_≠0:=of_decide_eq_false e
 &Xc (b:=decide (at_<(s.od.length:Int))&&(decide (1<(s.od.map s.key).getD at_.toNat 0-(s.od.map s.key).getD (at_-1).toNat 0))) ?_ (fun e=>?_) fun e=>Bh ?_
 ·by_cases z:at_<(s.od.length:Int)
  ·&zN (bR ((aH rfl (cT (aA rfl rfl) (jP _)) (Ep _ _)).trans (by rw[hl]))) (bR (aH (aH (aH rfl rfl (fJ h0 A6)) (aH rfl (aH rfl rfl (lR _ _)) (fJ A6 A6)) (lR _ _)) rfl (Rm _ _)))
  ·&(aCR (bR ((aH rfl (cT (aA rfl rfl) (jP _)) (Ep _ _)).trans (by rw[hl,decide_eq_false z])))).trans ?_
   rw[decide_eq_false z]
   rfl
 ·rw[G7,decide_eq_true_iff,decide_eq_true_iff]at e
  B3⟨e1,e2⟩:=e
  have g1:=hkd at_.toNat A6
  have g2:=hkd (at_-1).toNat A6
  have hm0:=F1 c (show (s.od.map s.key).getD at_.toNat 0-(s.od.map s.key).getD (at_-1).toNat 0-1≠0 by omega)
  have hm1:=E9 c (show 0<(s.od.map s.key).getD at_.toNat 0-(s.od.map s.key).getD (at_-1).toNat 0-1 by omega)
  &WM (iC (aA (aH (aH (aH rfl (aH rfl rfl (lR _ _)) (fJ A6 A6)) rfl (cP _ _)) (aH rfl (aH (aH (aH rfl rfl (fJ h0 A6)) (aH rfl (aH rfl rfl (lR _ _)) (fJ A6 A6)) (lR _ _)) rfl (lR _ _)) (bC A6)) (cP _ _)) (aA (aX rfl rfl) rfl)) A9) ⟨_,rfl,_,at_,rfl,h0,h1,fun x hx=>?_,fun x hx=>?_⟩
  ·B3⟨i,i1,i2,rfl⟩:=Wf hx
   have:=h.NK (i:=i) (j:=(at_-1).toNat) A6 A6
   omega
  ·B3⟨i,i1,i2,rfl⟩:=Wg hx
   have:=h.NK (i:=at_.toNat) i2 i1
   omega
 have aLQ:(s.od.map D.int).length=s.od.length:=B6 ..
 &pZ (iC (aA (aH (aH (aH rfl (rR rfl) (aFz (x:=.int (s.key (s.od.getD (s.od.length-1) 0))) (by
   rw[X2,B6,hl,B9,oR (d:=0) (show s.od.length-1<(s.od.map s.key).length by omega),hkd _ A6]
   rfl))) rfl (cP _ _)) (aH rfl (aH rfl rfl (hpw 50 A8 A8)) (bC p50)) (cP _ _)) (aA ((cT (aA rfl rfl) (jP _)).trans (by rw[hl])) rfl)) A9) ⟨_,rfl,_,_,rfl,by omega,S5 _,fun x hx=>?_,fun x hx=>?_⟩
 ·B3⟨i,i1,i2,rfl⟩:=Wf hx
  have:=h.NK (i:=i) (j:=s.od.length-1) A6 A6
  omega
 ·rw[D7,T3]at hx
  cases hx
B5 aBd{g1 g:GS}{env e':EN}{d:D}(h:g1 env=.rete d e'):aW g1 g env=.rete d e':=by B4 aW;rw[h]
section
variable{env env' e1 e2:EN}{b:Bool}{d d2 r:D}{f:FE}{ft:FT}{g1 g2:GS}{gb gc:GB}{gm:GM}{eF eZ:DE}{z y:FE2}{fs:FA2}{es xs ys:List D}{js:List Nat}{i:Nat}{φ:D→D→Option D}
B5 aDz(h:gb env=some (false,env')):TY gb g1 g2 env=g2 env':=by B4 TY;rw[h]
B5 qp(h:gm env=some (.bl b,env')):gbV gm env=some (b,env'):=by B4 gbV;rw[h];rfl
B5 aFQ(h:gm env=some (d,env'))(h2:f (rE env')=some d2)(h3:φ d d2=some r)(hi:r.jJ=true):aCA φ gm f env=some (r,env'):=by B4 aCA;rw[h,C4,h2,C4,h3,C4,if_pos hi]
end
section
variable{env env' e1 e2 e0:EN}{b:Bool}{d r:D}{gb:GB}{gm gn:GM}{as:List Ar}{F:List D→Option (D×List D)}{Ql OJ ds':List D}{f:FE}{ds:List D}
B5 ZV(h:gb env=some (b,e1)):TX gb env=some (!b,e1):=by B4 TX;rw[h];rfl
B5 aDA(h:gm env=some (d,env')):pY gm env=.rete d env':=by B4 pY;rw[h]
B5 ZW(h1:takes (chA as) env=some (Ql,e0))(h2:rdA as (rE env) (rE e0)=some OJ)(h3:F (xJ (sS as) Ql OJ)=some (r,ds')):Um as F env=some (r,Xa (chA as) ds' env):=by
 B4 Um
 rw[h1,C4,h2,C4,h3]
 rfl
B5 aIu{Pr:SR→Prop}{g1 g:GS}(h:g1 env=.rete d e1)(k:Pr (.rete d e1)):Qs Pr (aW g1 g env):=by
 B4 Qs
 rw[aBd h]
 ~k
B5 aGJ{eF eZ:DE}(h1:f eZ=some d)(h2:rdA as eF eZ=some ds):rdA (.rd f::as) eF eZ=some (d::ds):=by
 show (f eZ).bind _=_
 rw[h1,C4,h2]
 rfl
B5 zf{eF eZ:DE}{i:Nat}(h2:rdA as eF eZ=some ds):rdA (.ch i::as) eF eZ=some ds:=h2
end
B5 aDB{ds:List D}{xs:List DV}(h:lF ds=some xs)(hd:(DV.lst xs).depth≤32):Ft (.lst ds) (.lst ds)=some (.bl true):=by
 have e:iQ (.lst ds)=some (.lst xs):=by B4 iQ;rw[h];rfl
 B4 Ft toV
 dsimp only
 rw[e]
 dsimp only
 rw[if_pos hd,pO]
B5 aIv(c:tY):Ft (Bj c) (Bj c)=some (.bl true):=by
 have e:=yo c
 have hd:=WR c
 B4 Ft
 rw[e]
 B4 Bj toV
 dsimp only
 rw[if_pos A6,pO]
B5 aFR(cs:List tY):Ft (sU cs) (sU cs)=some (.bl true):=by
 have hd:=Uz cs
 ~aDB (Zm cs) (by B4 DV.depth;omega)
B5 aFS(a b:List Int)(h:a.length+b.length≤1000):Yu (dTup a) (dTup b)=some (dTup (a++b)):=by
 show (if D.fU (a.map D.int)=true∧D.fU (b.map D.int)=true∧(a.map D.int).length+(b.map D.int).length≤100000 then some (D.tup (a.map D.int++b.map D.int))else none)=_
 rw[if_pos ⟨cY a,cY b,by rw[B6,B6];omega⟩,←J3]
 rfl
B5 yU(n:Int):gQ [.int n]=some (.bl true):=oO rfl (iB (Kf (Er rfl rfl) (aCT (b:=false) (Er rfl rfl))))
B5 qt{c:tY}(h:c.thing.length+c.needs.length≤100):vK [Bj c,Bj c]=some (.bl true):=by
 suffices h:∃d,vK [Bj c,Bj c]=some d∧d=.bl true by
  B3⟨d,h1,rfl⟩:=h
  ~h1
 &oE rfl ?_
 B4 Vj
 apply Az (b:=!true||(!decide ((4:Int)=4)||(!true||!true)))
 ·~Cr (lH (b:=true) (bR (Er rfl rfl))) (Cr (bR (aH (cT (aA rfl rfl) rfl) rfl (rP _ _))) (Cr (lH (b:=true) (bR (bH (aA (aH rfl rfl (JP c)) rfl) rfl (yU _)))) (lH (b:=true) (bR (bH (aA (aH rfl rfl (Ux c)) rfl) rfl (yU _))))))
 ·rfl
 apply Bh
 apply Az (b:=!true||!true)
 ·~Cr (lH (b:=true) (bR (Er (aH rfl rfl (Cv c)) rfl))) (lH (b:=true) (bR (Er (aH rfl rfl (Kh c)) rfl)))
 ·rfl
 apply Bh
 have Dt:=yF (fi:=mW (f2 Yu (f2 dU (aD 0) (fC (.int 2))) (f2 dU (aD 0) (fC (.int 3))))) (fr:=[]) (fc:=lG) (fe:=cN 1 gQ (aB (aD 0) aM)) (e:=rE [.fro (Bj c),.fro (Bj c)]) (ms:=c.thing++c.needs) (fun _=>true) (fun _=>.bl true)
  (Zq (aH (aH rfl rfl (Cv c)) (aH rfl rfl (Kh c)) (aFS _ _ A6))) (by rw[C7];omega) (fun m hm=>rfl) fun m hm _=>bH (aA rfl rfl) rfl (yU m)
 rw[M6.mpr fun _ _=>rfl]at Dt
 &pZ (d:=.bl (((c.thing++c.needs).all fun _=>true)&&true)) (aCU (cT (aA Dt rfl) (Kl (fun _:Int=>true) _)) (aH rfl rfl (aIv c))) ⟨_,rfl,?_⟩
 rw[L8.mpr fun _ _=>rfl]
 rfl
B5 aDC{Pr:SR→Prop}{env:EN}{i:Nat}{gb g:GS}{fi:FA}{lo:Int}{n:Nat}(I:Nat→EN→Prop)(h:fi (rE env)=some (jO lo n))(h0:I 0 env)
  (st:∀(k:Nat) env,k<n→I k env→i<env.length∧Qs (fun r=>∃env',r=.next env'∧I (k+1) env') (gb (env.set i (.fro (.int (lo+k)))))) (k:∀env',I n env'→Qs Pr (g env')):Qs Pr (aW (yC i fi gb) g env):=by
 B3⟨env',h1,h2⟩:=Eo (i:=i) (g:=gb) I (jO lo n) env 0 h0 fun k x e hx hi=>by
  rw[N9]at hi ⊢
  B3⟨hk,rfl⟩:=Hv hx
  ~⟨(st k e hk hi).1,let ⟨e,a,b⟩:=(st k e hk hi).2;⟨e,a,b⟩⟩
 rw[N9,zM]at h2
 rw[fH ((WK h).trans h1)]
 ~k env' h2
B5 Wh(ns:List Int)(k:Nat):mZ [aP ns,.int k]=some (.int (ns.getD k 0)):=by
 &oO rfl ?_
 B4 WX
 by_cases c:k<ns.length
 ·have hx:=fJ (ns:=ns) (i:=k) A6 A6
  rw[D7]at hx
  apply aIa
  ·walk_at "et"
  ·~decide_eq_true A6
  ~aJQ (aX (aH rfl rfl hx) rfl) rfl
 ·apply aH9
  ·walk_at "et"
  ·~decide_eq_false A6
  apply aJP
  rw[B8,E2 A6]
  ~iB rfl
B5 aBe(c:Int):∃s:Int,0≤s∧nC [.int c]=some (.int s):=by
 suffices h:∃d,nC [.int c]=some d∧∃s:Int,0≤s∧d=.int s by
  B3⟨d,h1,s,h0,rfl⟩:=h
  ~⟨s,h0,h1⟩
 &oE rfl ?_
 B4 Vf
 have a0:=F1 c (show (2147483629:Int)≠0 by decide)
 have a1:=E9 c (show (0:Int)<2147483629 by decide)
 walk_at "q"
 have n0:=F1 ((c%2147483629+1)*48271) (show (2147483629:Int)≠0 by decide)
 have n1:=E9 ((c%2147483629+1)*48271) (show (0:Int)<2147483629 by decide)
 generalize (c%2147483629+1)*48271%2147483629=n at *
 have e50:Jp (.int 10) (.int 50)=some (.int (10 ^ 50)):=yE ⟨by decide,by decide,by decide⟩
 have m0:=F1 c (show (10 ^ 50:Int)≠0 by decide)
 have q0:=F1 (n*n) (show (2147483587:Int)≠0 by decide)
 &pZ (aH (aH (aH rfl rfl (iG (Hx A6 A6))) rfl (bC A8)) (aH (aH rfl (aH rfl rfl e50) (bC A8)) rfl (iG (aJO A8 A8))) (cP _ _)) ⟨_,rfl,_,?_,rfl⟩
 have:=m8 m0 (show (0:Int)≤2147483587 by decide)
 omega
B5 rH(a b c:GS)(env:EN):aW (aW a b) c env=aW a (aW b c) env:=by
 B4 aW
 cases a env<;>rfl
B5 aIw{e:DE}{f f':FE}(h:f e=some (.bl true)):Wu f f' e=some (.bl true):=by B4 Wu;rw[bR h];rfl
B5 Wi(ns:List Int)(h:ns.length≤1000):sX [aP ns]=some (.bl true):=by
 have hc:=yF (fi:=mW (aD 0)) (fr:=[]) (fc:=lG) (fe:=cN 1 gQ (aB (aD 0) aM)) (e:=rE [.fro (aP ns)]) (ms:=ns) (fun _=>true) (fun _=>.bl true) (jF rfl) h (fun m hm=>rfl) fun m hm _=>bH (aA rfl rfl) rfl (yU m)
 rw[M6.mpr fun _ _=>rfl]at hc
 ~oO rfl (iB (Kf (Er rfl rfl) ((cT (aA hc rfl) (Kl (fun _:Int=>true) _)).trans (by rw[L8.mpr fun _ _=>rfl]))))
B5 ZX(s:Wb):qH κ [kZ κ s]=some (aP s.od):=mH rfl (iB (cT (aA (dJ rfl (oG w2 rfl)) rfl) (qT (cY _))))
B5 ZZ{s:Wb}(h:mF s):sY κ [kZ κ s]=some (aP (sortI s.lo)):=mH rfl (iB (cT (aA (dJ rfl (oG w3 rfl)) rfl) (JN h.aIt)))
B5 Gr{s:Wb}(h:mF s)(x:Int):iJ κ [kZ κ s,.int x]=some (Oi (s.la.get x)):=mH rfl (iB (aH (dJ rfl (oG w4 rfl)) rfl (vU h.lao.1 x)))
B5 CN(l:List Int):Ft (aP l) (aP l)=some (.bl true):=by rw[Ut,decide_eq_true rfl]
B5 Rr{s:Wb}(h:mF s){m:Nat}(hm:m≤s.n):vL κ [kZ κ s,nH s,.int m]=some (.bl true):=by
 suffices hh:∃d,vL κ [kZ κ s,nH s,.int m]=some d∧d=.bl true by
  B3⟨d,e,rfl⟩:=hh
  ~e
 &oE rfl ?_
 B4 XS
 have hn:=h.ZM
 &aDC (lo:=m) (n:=s.n-m) (fun _ env=>∃v,env=[.fro (kZ κ s),.fro (nH s),.fro (.int m),v]) ((Us (i:=m) (j:=s.n) (aA rfl (aA (cT (aA (aH rfl rfl (cD k5 rfl)) rfl) (qD _)) rfl)) A6 A6 A6 A6).trans (by rw[show ((s.n:Int)-(m:Int)).toNat=s.n-m by omega])) ⟨_,rfl⟩ ?_ ?_
 ·rintro k env hk ⟨v,rfl⟩
  &⟨by walk_at "lt", ?_⟩
  have hx:(m:Int)+(k:Int)=((m+k:Nat):Int):=by omega
  rw[hx]
  have hl:m+k<s.n:=by omega
  have hch:=aA8 κ (b:=s.b) (k:=((m+k:Nat):Int)) A6 (g7.mpr hl)
  rw[D7]at hch
  have hgd:=(h.bn.good.2 (m+k) hl).2.2
  have ht:=h.th (m+k) hl
  apply aC0 (b:=!true)
  ·~lH (bR (bH (aA (bY (nm:=Xq) (dJ rfl (oG w0 rfl)) A7 rfl rfl hch) (aA (aH (aH rfl rfl (cD k5 rfl)) rfl (Mx hl)) rfl)) rfl (qt A6)))
  ·rfl
  ·~⟨_,rfl,_,rfl⟩
 ·rintro env ⟨v,rfl⟩
  have ho:=h.NB
  have hl:=h.aIt
  have hsl:(sortI s.lo).length=s.lo.length:=(iV s.lo).1.length_eq
  apply Az (b:=!true||!true)
  ·~Cr (lH (bR (bH (aA (bY (nm:=wB) rfl A7 rfl rfl (ZX κ s)) rfl) rfl (Wi _ A6)))) (lH (bR (bH (aA (bY (nm:=wB) rfl A7 rfl rfl (ZZ κ h)) rfl) rfl (Wi _ A6))))
  ·rfl
  apply Bh
  ~pZ (Kf (aH (bY (nm:=wB) rfl A7 rfl rfl (ZX κ s)) (aH rfl rfl (cD k1 rfl)) (CN _)) (aH (bY (nm:=wB) rfl A7 rfl rfl (ZZ κ h)) (bH (aA rfl rfl) rfl (Rq h)) (CN _))) ⟨_,rfl,rfl⟩
B5 zg:∀os:List (Option Int),∃xs,lF (os.map Oi)=some xs∧dH xs=0
 | []=>⟨[],by B4 lF;rfl,by B4 dH;rfl⟩
 | o::os=>by
  B3⟨xs,h1,h2⟩:=zg os
  cases o with
  | none=>~⟨.non::xs,by rw[D3];B4 lF;rw[h1];B4 Oi iQ;rfl,by B4 dH DV.depth;rw[h2];rfl⟩
  | some y=>~⟨.int y::xs,by rw[D3];B4 lF;rw[h1];B4 Oi iQ;rfl,by B4 dH DV.depth;rw[h2];rfl⟩
B5 Ol{s:Wb}(h:mF s){x:Int}(h0:0≤x)(h1:x<(s.rs.length:Int)):pI κ [kZ κ s,nH s,.int x]=some (.bl true):=by
 suffices hh:∃d,pI κ [kZ κ s,nH s,.int x]=some d∧d=.bl true by
  B3⟨d,e,rfl⟩:=hh
  ~e
 &oE rfl ?_
 B4 BJ
 &cC (d:=gA [s.co.get x,s.go.get x,s.la.get x]) (iD (aA (bY (nm:=wB) rfl A7 rfl rfl (Pz κ h x)) (aA (bY (nm:=wB) rfl A7 rfl rfl (Qa κ h x)) (aA (bY (nm:=wB) rfl A7 rfl rfl (Gr κ h x)) rfl))) A9) A9 ?_
 have hc:=Et (fi:=mW (aD 3)) (fr:=[]) (fe:=Wu (f2 (Jz false) (aD 0) (fC .non)) (cN 1 gQ (aB (aD 0) aM))) (e:=rE [.fro (kZ κ s),.fro (nH s),.fro (.int x),.own (gA [s.co.get x,s.go.get x,s.la.get x])]) (xs:=[s.co.get x,s.go.get x,s.la.get x]) (ψ:=Oi) (φ:=fun _=>.bl true) (jF rfl) (T7 rfl) fun o _=>by
  cases o with
  | none=>~aIw rfl
  | some y=>~(yp (a:=false) (b:=true) rfl (bH (aA rfl rfl) rfl (yU y))).trans rfl
 apply Az (b:=!true)
 ·~lH (bR ((cT (aA hc rfl) (Kl (fun _:Option Int=>true) _)).trans rfl))
 ·rfl
 apply Bh
 B3⟨xs,e1,e2⟩:=zg [s.co.get x,s.go.get x,s.la.get x]
 apply Az (b:=false)
 ·~bR (aH rfl (iD (aA (aH (aH rfl rfl (cD k2 rfl)) rfl (vU h.coo.1 x)) (aA (aH (aH rfl rfl (cD k3 rfl)) rfl (vU h.goo.1 x)) (aA (aH (aH rfl rfl (cD k4 rfl)) rfl (vU h.lao.1 x)) rfl))) A9) (aAY e1 A6))
 ·rfl
 apply Bh
 ~pZ (aH (bY (nm:=wB) rfl A7 rfl rfl (pM κ h h0 h1)) (aH (aH rfl rfl (cD k0 rfl)) rfl (Ff h0 h1)) ((aFy _ _).trans (by rw[decide_eq_true rfl]))) ⟨_,rfl,rfl⟩
B5 aj(c:Int)(n:Nat)(hn:n≤124):∃ns:List Int,sW [.int c,.int n]=some (aP ns)∧ns.length≤2∧∀m∈ns,0≤m∧m<(n:Int):=by
 suffices hh:∃d,sW [.int c,.int n]=some d∧∃ns:List Int,d=aP ns∧ns.length≤2∧∀m∈ns,0≤m∧m<(n:Int) by
  B3⟨d,e,ns,rfl,q⟩:=hh
  ~⟨ns,e,q⟩
 &oE rfl ?_
 B4 Pj
 &cC (d:=aP []) rfl A9 ?_
 &Xc (bR (aH rfl rfl (Rm _ _))) (fun e=>?_) fun _=>Bh (JM rfl ⟨_,rfl,[],rfl,by decide,fun m hm=>by cases hm⟩)
 have e:=of_decide_eq_true e
 have c0:=F1 c (show (3:Int)≠0 by decide)
 have c1:=E9 c (show (0:Int)<3 by decide)
 rw[rH]
 &cC (d:=.int (c/3)) (aH rfl rfl (dW A8 A8)) A9 ?_
 &Rn (n:=(c%3).toNat) (fun k env=>∃(ns:List Int)(r:Int)(v:SD),env=[.fro (.int c),.fro (.int n),.own (aP ns),.own (.int r),v]∧ns.length≤k∧∀m∈ns,0≤m∧m<(n:Int)) ((Ur (n:=c%3) (aA (aH rfl rfl (bC A8)) rfl) A6 A6)) ⟨[],_,_,rfl,C5 _,fun m hm=>by cases hm⟩ ?_ ?_
 ·rintro k env hk ⟨ns,r,v,rfl,hl,hm⟩
  &⟨by walk_at "lt", ?_⟩
  &aGD (ds:=ns.map D.int) (d:=.int (r%(n:Int))) rfl (aH rfl rfl (bC e)) (by rw[B6];omega) ?_
  rw[vB]
  &aCY (d:=.int (r/(n:Int))) (aH rfl rfl (dW e A6)) A9 ⟨_,rfl,_,_,_,rfl,by rw[C7];simpa using hl,fun m hm'=>?_⟩
  rcases F2.mp hm' with z | z
  ·~hm m z
  ·rw[E3.mp z]
   ~⟨F1 _ A6,E9 _ e⟩
 ·rintro env ⟨ns,r,v,rfl,hl,hm⟩
  ~JM rfl ⟨_,rfl,ns,rfl,by omega,hm⟩
abbrev bM(s:List (List (List Int))):D:=pD s
B5 Du{s:List (List (List Int))}{k:Nat}{p:List (List Int)}(h:s[k]?=some p):dU (bM s) (.int k)=some (fY p):=by
 B4 bM
 ~rQ A6 (by rw[D7,B9,h];rfl)
B5 aJ0{p:List (List Int)}{k:Nat}{t:List Int}(h:p[k]?=some t):dU (fY p) (.int k)=some (dTup t):=by
 B4 fY
 ~rQ A6 (by rw[D7,B9,h];rfl)
B5 Fg(s:List (List (List Int))):kO [bM s]=some (.int s.length):=Oh s
def bJ(P R:Nat)(dC:List (List Int))(bF:List Int):List (List (List Int)):=(D4 P).map fun p=>((D4 R).map fun r=>dC.getD (p+P*r) [])++[[bF.getD p 0]]
B5 aDD{P R p r:Nat}(hp:p<P)(hr:r<R):p+P*r<P*R:=by
 have h1:P*(r+1)≤P*R:=Nat.mul_le_mul_left P hr
 rw[Nat.mul_succ]at h1
 omega
B5 getD_mem{l:List Int}{k:Nat}(h:k<l.length):l.getD k 0∈l:=by
 rw[B8,B7 h]
 ~N6 h
B5 Dv{l:List Int}(h:l.Nodup){i j:Nat}(hi:i<l.length)(hj:j<l.length)(hij:i≠j):l.getD i 0≠l.getD j 0:=by
 rw[B8,B8,B7 hi,B7 hj]
 show l[i]≠l[j]
 have hpw:=K5.mp h
 rcases K4 i j with q | q
 ·~hpw i j hi hj q
 ·~fun e=>hpw j i hj hi A6 e.symm
B5 zj{s:List (List (List Int))}{b:Int}(h:0<s.length)(h2:s.length≤1000):zV [bM s,.int b]=some (dTup [b%s.length,b/s.length]):=by
 &oO rfl ?_
 B4 yu
 have hlen:=Fg s
 apply iB
 show _=some (D.tup [.int (b%s.length),.int (b/s.length)])
 walk_at "ev"
B5 aDE{s:List (List (List Int))}{p:List (List Int)}{t:List Int}{i j:Nat}(h1:s[i]?=some p)(h2:p[j]?=some t):Cy [bM s,dTup [(i:Int),(j:Int)]]=some (dTup t):=by
 &oO rfl ?_
 B4 WY
 apply iB
 ~aX (aH (aH rfl (aH rfl rfl (uE A8 rfl)) (Du h1)) (aH rfl rfl (uE A8 rfl)) (aJ0 h2)) (iR _)
B5 aDF{s:List (List (List Int))}{b:Nat}{p:List (List Int)}{t:List Int}(h:0<s.length)(h2:s.length≤1000)(h1:s[b%s.length]?=some p)(h3:p[b/s.length]?=some t):nM [bM s,.int b]=some (dTup t):=by
 &oO rfl ?_
 B4 Zy
 have hs:=zj (b:=(b:Int)) h h2
 have ht:Cy [bM s,dTup [(b:Int)%s.length,(b:Int)/s.length]]=some (dTup t):=aDE (i:=b%s.length) (j:=b/s.length) h1 h3
 apply iB
 walk_at "ev"
B5 zA(P R:Nat)(dC:List (List Int))(bF:List Int):(bJ P R dC bF).length=P:=by B4 bJ;rw[B6,D8]
B5 Rt{P R:Nat}{dC:List (List Int)}{bF:List Int}{p:Nat}(h:p<P):(bJ P R dC bF)[p]?=some (((D4 R).map fun r=>dC.getD (p+P*r) [])++[[bF.getD p 0]]):=by
 B4 bJ
 rw[B9,G3 h]
 rfl
B5 NP{P R:Nat}{dC:List (List Int)}{bF:List Int}{q:List (List Int)}(h:q∈bJ P R dC bF):q.length=R+1:=by
 B4 bJ at h
 B3⟨p,_,rfl⟩:=J2.mp h
 rw[C7,B6,D8]
 rfl
B5 aDG{P R:Nat}{dC:List (List Int)}{bF:List Int}{p r:Nat}(hr:r<R):(((D4 R).map fun r=>dC.getD (p+P*r) [])++[[bF.getD p 0]])[r]?=some (dC.getD (p+P*r) []):=by
 rw[G4 (by rw[B6,D8];~hr),B9,G3 hr]
 rfl
B5 qu{P R:Nat}{dC:List (List Int)}{bF:List Int}{b:Nat}(hP:0<P)(hb:b<P*R):∃q,(bJ P R dC bF)[b%P]?=some q∧q[b/P]?=some (dC.getD b []):=by
 have h1:b%P<P:=U5 _ hP
 have h2:b/P<R:=U9 hb
 &⟨_,Rt h1,?_⟩
 rw[aDG h2,l4]
B5 aBf{fi:FA}{fr:List Nat}{e:DE}{s:List (List (List Int))}(h1:fi e=some (s.map fY))(hs:s.length≤1000):gU fi fr lG (fL dList (aB (aD 0) aM)) e=some (bM s):=by
 B4 bM
 ~Et (φ:=fY) h1 hs fun p hp=>by
  B4 fY
  ~cT (aA rfl rfl) (qT (Kg fun d hd=>by B3⟨t,_,rfl⟩:=J2.mp hd;~iR t))
def Chain(dC:List (List Int))(ord:List Int):Prop:=∀k,k≤ord.length→∃key was now lK:Int,dC[(([0]++ord).getD k 0).toNat]?=some [key,(ord++[0]).getD k 0,was,now,lK]
B5 aDH{P R:Nat}{dC:List (List Int)}{bF:List Int}{x:Int}{t:List Int}(hP:0<P)(hP8:P≤8)(h0:0≤x)(h1:x<(P*R:Nat))(ht:dC[x.toNat]?=some t):nM [bM (bJ P R dC bF),.int x]=some (dTup t):=by
 B3⟨q,q1,q2⟩:=qu (dC:=dC) (bF:=bF) (b:=x.toNat) hP (show x.toNat<P*R by omega)
 have hl:=zA P R dC bF
 have:=aDF (s:=bJ P R dC bF) (b:=x.toNat) A6 A6 (by rw[hl];~q1) (by rw[hl];~q2)
 rw[V4 h0,qC ht]at this
 ~this
B5 CP{P R:Nat}{dC:List (List Int)}{bF ord:List Int}(hP:0<P)(hP8:P≤8)(hR:0<R)(hc:Chain dC ord)(hb:∀x∈ord,1≤x∧x<(P*R:Nat))(hn:ord.Nodup)(hl:ord.length≤64):qY [bM (bJ P R dC bF)]=some (aP ord):=by
 suffices h:∃d,qY [bM (bJ P R dC bF)]=some d∧d=aP ord by
  B3⟨d,h1,rfl⟩:=h
  ~h1
 have hm:0<P*R:=Z9 hP hR
 generalize hbd:P*R=m at *
 have nx:∀k,k≤ord.length→∃t:List Int,nM [bM (bJ P R dC bF),.int (([0]++ord).getD k 0)]=some (dTup t)∧dU (dTup t) (.int 1)=some (.int ((ord++[0]).getD k 0)):=fun k hk=>by
  B3⟨key,was,now,lK,h1⟩:=hc k hk
  have hx:([0]++ord).getD k 0∈[0]++ord:=getD_mem (by rw[C7];simp;omega)
  have hx2:0≤([0]++ord).getD k 0∧([0]++ord).getD k 0<((P*R:Nat):Int):=by
   rw[hbd]
   rcases F2.mp hx with q | q
   ·have:=E3.mp q;omega
   ·have:=hb _ q;omega
  ~⟨_,aDH hP hP8 hx2.1 hx2.2 h1,uE A8 rfl⟩
 &oE rfl ?_
 B4 Zz
 walk_at "q"
 B3⟨t0,ht0,hx0⟩:=nx 0 (M0 _)
 have aJ1:nM [bM (bJ P R dC bF),.int 0]=some (dTup t0):=ht0
 walk_at "q"
 &yl (n:=ord.length) (fun n env=>n≤ord.length∧env=[.fro (bM (bJ P R dC bF)),.own (.dk ((ord.take (ord.length-n)).map F4) ((ord.take (ord.length-n)).map fun _=>D.bl true)),.own (.int ((ord++[0]).getD (ord.length-n) 0))]) ⟨C5 _,by rw[V0];rfl⟩ A6 ?_ ?_
 ·rintro n env ⟨hnl,rfl⟩
  by_cases c:n=0
  ·left
   subst c
   have e:(ord++[0]).getD (ord.length-0) 0=0:=by rw[U6,B8,L3 (C5 _),V0];rfl
   rw[e]
   &aCR (bR ((aH rfl rfl (rP 0 0)).trans ?_))
   rw[decide_eq_true rfl]
   rfl
  ·right
   generalize hk:ord.length-n=k
   have hkl:k<ord.length:=by omega
   have e:(ord++[0]).getD k 0=ord.getD k 0:=by rw[B8,B8,G4 hkl]
   have hx:=hb _ (getD_mem hkl)
   have hnew:ord.getD k 0∉ord.take k:=by
    intro z
    B3⟨j,hj,ej⟩:=K0 z
    rw[J4]at hj
    rw[X0]at ej
    have:=Dv hn (i:=j) (j:=k) A6 hkl A6
    rw[B8,B7 (show j<ord.length by omega)]at this
    ~this ej
   rw[e]
   B3⟨t,ht,hxt⟩:=nx (k+1) hkl
   have ht':nM [bM (bJ P R dC bF),.int (ord.getD k 0)]=some (dTup t):=ht
   &⟨?_,by omega,_,aGC (aFA (k:=F4 (ord.getD k 0)) rfl rfl rfl rfl (Cu hnew) rfl (by rw[B6,J4];omega)) (wJ (aX (aH (bH (aA rfl (aA rfl rfl)) rfl ht') rfl hxt) rfl) A9),by omega,?_⟩
   ·&(aCQ (bR (b:=true) ((aH rfl rfl (rP _ _)).trans ?_))).trans (bR (aH rfl rfl ?_))
    ·rw[decide_eq_false A6];rfl
    ·show (some _:Option D)=_
     rw[Cu hnew]
     rfl
   ·have e2:ord.length-(n-1)=k+1:=by omega
    have e3:ord.take (k+1)=ord.take k++[ord.getD k 0]:=by rw[P7,oR (d:=0) hkl];rfl
    rw[e2,e3,J3,J3]
    rfl
 ·rintro env n ⟨hnl,rfl⟩ hf
  by_cases c:n=0
  ·subst c
   rw[U6,O8]
   apply pZ (cT (aA rfl rfl) rfl)
   ~⟨_,rfl,Zj ord⟩
  ·exfalso
   generalize hk:ord.length-n=k at hf
   have hkl:k<ord.length:=by omega
   have e:(ord++[0]).getD k 0=ord.getD k 0:=by rw[B8,B8,G4 hkl]
   have hx:=hb _ (getD_mem hkl)
   have hnew:ord.getD k 0∉ord.take k:=by
    intro z
    B3⟨j,hj,ej⟩:=K0 z
    rw[J4]at hj
    rw[X0]at ej
    have:=Dv hn (i:=j) (j:=k) A6 hkl A6
    rw[B8,B7 (show j<ord.length by omega)]at this
    ~this ej
   rw[e]at hf
   have:(Hh (fB (f2 Tr (aD 2) (fC (.int (0))))) (fB (f2 (Fv true) (aD 2) (aD 1)))) (rE [.fro (bM (bJ P R dC bF)),.own (.dk ((ord.take k).map F4) ((ord.take k).map fun _=>D.bl true)),.own (.int (ord.getD k 0))])=some true:=by
    &(aCQ (bR (b:=true) ((aH rfl rfl (rP _ _)).trans ?_))).trans (bR (aH rfl rfl ?_))
    ·rw[decide_eq_false A6];rfl
    ·show (some _:Option D)=_
     rw[Cu hnew]
     rfl
   rw[this]at hf
   cases hf
def oV(m:Nat):List Int:=(D4 (m-1)).map fun i:Nat=>(1:Int)+(i:Int)
B5 aDI{P R:Nat}{dC:List (List Int)}{bF ord:List Int}(hP:0<P)(hP8:P≤8)(hR:0<R)(hR8:R≤8)(hc:Chain dC ord)(hb:∀x∈ord,1≤x∧x<(P*R:Nat))(hn:ord.Nodup)(hl:ord.length≤64) :
    sV [bM (bJ P R dC bF)]=some (aP ((oV (P*R)).filter fun i=>!decide (i∈ord))):=by
  have aDJ:P*R≤8*8:=R7 hP8 hR8
  have hm0:0<P*R:=Z9 hP hR
  have hstr:=CP (bF:=bF) hP hP8 hR hc hb hn hl
  have aDK:pB [bM (bJ P R dC bF)]=some (.int ((P*R:Nat):Int)):=by
    &oO rfl ?_
    B4 Ie
    apply iB
    have hls:=Fg (bJ P R dC bF)
    rw[zA]at hls
    have h0:(bJ P R dC bF)[0]?=some _:=Rt (p:=0) hP
    have hix:dU (bM (bJ P R dC bF)) (.int 0)=some (fY _):=Du (k:=0) h0
    have hlp:=Lp (((D4 R).map fun r=>dC.getD (0+P*r) [])++[[bF.getD 0 0]])
    rw[NP (E6 h0)]at hlp
    rw[V1]
    have e:(R:Int)=((R+1:Nat):Int)-1:=by omega
    rw[e]
    ~aH (cT (aA rfl rfl) hls) (aH (cT (aA (aH rfl rfl hix) rfl) hlp) rfl (lR _ _)) (iG (Hx A6 A6))
  suffices h:∃d,sV [bM (bJ P R dC bF)]=some d∧d=aP ((oV (P*R)).filter fun i=>!decide (i∈ord)) by
    B3⟨d,h1,rfl⟩:=h
    ~h1
  &oE rfl ?_
  B4 Pg
  walk_at "q"
  generalize P*R=m at *
  have e:jO (0+1) ((m:Int)-(0+1)).toNat=(oV m).map D.int:=by
    B4 jO oV
    rw[K7,show ((m:Int)-(0+1)).toNat=m-1 by omega]
    rfl
  &pZ (d:=aP ((oV m).filter fun i=>!decide (i∈ord))) ?_ ⟨_,rfl,rfl⟩
  &(Cq (ys:=((jO (0+1) ((m:Int)-(0+1)).toNat).filter fun d=>match d with | .int i=>!decide (i∈ord) | _=>false).map id) (Us (i:=0+1) (j:=m) (aA (aH rfl rfl (cP _ _)) (aA (bH (aA rfl rfl) rfl aDK) rfl)) A8 A8 A6 A6) (by rw[zM];omega) ?_).trans ?_
  · &Ke (p:=fun d=>match d with | .int i=>!decide (i∈ord) | _=>false) (φ:=id) ?_ ?_
    · intro x hx
      B3⟨k,hk,rfl⟩:=Hw hx
      ~bR (aH rfl rfl (aC1 true _ ord))
    · intro x hx _
      B3⟨k,hk,rfl⟩:=Hw hx
      ~aX rfl rfl
  · rw[i9,e,List.filter_map]
    rfl
B5 qw{i a b:Nat}{f f' g:FE}{env:EN}{s:List (List (List Int))}{q:List (List Int)}{t:List Int}(h1:env[i]?=some (.own (bM s)))(h2:g (rE env)=some (.int (a:Int)))(h3:f (rE env)=some (.int (b:Int)))(h4:f' (rE env)=some (dTup t))(h5:s[a]?=some q)(h6:b<q.length) :
  wG i (vd dD g) f f' env=.next (env.set i (.own (bM (s.set a (q.set b t))))):=by
 have hk:(s.map fY)[a]?=some (fY q):=by rw[B9,h5];rfl
 have hp:vd dD g (rE env)=some [.ix a]:=by
  B4 vd dD
  rw[C4,h2,C4]
  dsimp only
  rw[if_pos A6,D7]
  rfl
 have hget:gC [.ix a] (bM s)=some (.lst (q.map dTup)):=by
  show ((s.map fY)[a]?).bind (gC [])=_
  rw[hk]
  rfl
 have aLc:∀d:List D,fG [.ix a] (bM s) (.lst d)=.lst ((s.map fY).set a (.lst d)):=fun d=>by
  show (match (s.map fY)[a]? with | some c=>_ | none=>_)=_
  rw[hk]
  rfl
 have hix:aq (q.map dTup).length (b:Int)=some b:=by
  B4 aq
  rw[if_pos A6,if_pos (by rw[B6];omega),D7]
 B4 wG
 rw[h1,hp,h3,h4]
 dsimp only
 rw[hget]
 dsimp only
 rw[hix]
 dsimp only
 rw[aLc,←U7]
 show SR.next (env.set i (.own (.lst ((s.map fY).set a (fY (q.set b t))))))=_
 rw[←U7]
 rfl
B5 aDL(ns:List Int):∃P R:Nat,yG [aP ns]=some (.tup [.int P,.int R])∧1≤P∧P≤8∧1≤R∧R≤8:=by
 suffices hh:∃d,yG [aP ns]=some d∧∃P R:Nat,d=.tup [.int P,.int R]∧1≤P∧P≤8∧1≤R∧R≤8 by
  B3⟨d,e,P,R,rfl,q⟩:=hh
  ~⟨P,R,e,q⟩
 &oE rfl ?_
 B4 Zv
 have hcell:=Wh ns 0
 generalize ns.getD 0 0=c at hcell
 have aIx:mZ [aP ns,.int 0]=some (.int c):=hcell
 &cC (d:=.int c) (bH (aA rfl (aA rfl rfl)) rfl aIx) A9 ?_
 have nn:∀{a m:Int},0<m→m≤8→∃P:Nat,1+a%m=(P:Int)∧1≤P∧P≤8:=fun{a m} h h2=>by
  have h0:=F1 a (show m≠0 by omega)
  have h1:=E9 a h
  ~⟨(1+a%m).toNat,by omega,by omega,by omega⟩
 &Xc (bR (aH (aH (aH rfl rfl (dW A8 A8)) rfl (bC A8)) rfl (mQ _ _))) (fun _=>?_) fun _=>Bh ?_
 ·B3⟨P,e1,p1,p2⟩:=nn (a:=c) (m:=8) A8 A8
  B3⟨R,e2,r1,r2⟩:=nn (a:=c/240) (m:=8) A8 A8
  ~WM ((iC (aA (aH rfl (aH rfl rfl (bC A8)) (cP _ _)) (aA (aH rfl (aH (aH rfl rfl (dW A8 A8)) rfl (bC A8)) (cP _ _)) rfl)) A9).trans (by rw[e1,e2])) ⟨_,rfl,P,R,rfl,p1,p2,r1,r2⟩
 ·B3⟨P,e1,p1,p2⟩:=nn (a:=c) (m:=5) A8 A8
  B3⟨R,e2,r1,r2⟩:=nn (a:=c/5) (m:=6) A8 A8
  ~pZ ((iC (aA (aH rfl (aH rfl rfl (bC A8)) (cP _ _)) (aA (aH rfl (aH (aH rfl rfl (dW A8 A8)) rfl (bC A8)) (cP _ _)) rfl)) A9).trans (by rw[e1,e2])) ⟨_,rfl,P,R,rfl,p1,p2,r1,r2⟩
B5 Dw(c:Int){k:Int}(h0:0≤k)(h1:k≤100000):∃m:Int,mJ [.int c,.int k]=some (.int m)∧0≤m∧m<2147483587:=by
 suffices hh:∃d,mJ [.int c,.int k]=some d∧∃m:Int,d=.int m∧0≤m∧m<2147483587 by
  B3⟨d,e,m,rfl,q⟩:=hh
  ~⟨m,e,q⟩
 &oE rfl ?_
 B4 Zw
 have a0:=F1 c (show (2147483629:Int)≠0 by decide)
 have a1:=E9 c (show (0:Int)<2147483629 by decide)
 &cC (aH (aH (aH (aH rfl rfl (bC A8)) rfl (cP _ _)) (aH rfl (aH (aH rfl rfl (iG (Hx A8 A8))) rfl (iG (Hx A6 A6))) (cP _ _)) (iG (Hx A6 A6))) rfl (bC A8)) A9 ?_
 generalize hn:(c%2147483629+1)*(48271+2*k*k)%2147483629=n
 have n0:0≤n:=by rw[←hn];~F1 _ A8
 have n1:n<2147483629:=by rw[←hn];~E9 _ A8
 ~pZ (aH (aH rfl rfl (iG (Hx A6 A6))) rfl (bC A8)) ⟨_,rfl,_,rfl,F1 _ A8,E9 _ A8⟩
B5 Wj(c:Int){k:Int}(key f:Int)(h0:0≤k)(h1:k≤1000):∃a b e:Int,qX [.int c,.int k,.int key,.int f]=some (dTup [key,f,a,b,e]):=by
 suffices hh:∃d,qX [.int c,.int k,.int key,.int f]=some d∧∃a b e:Int,d=dTup [key,f,a,b,e] by
  B3⟨d,q,a,b,e,rfl⟩:=hh
  ~⟨a,b,e,q⟩
 &oE rfl ?_
 B4 Vc
 B3⟨p,hp,p0,p1⟩:=Dw c (k:=5*k) A6 A6
 B3⟨m,hm,m0,m1⟩:=Dw c (k:=5*k+1) A6 A6
 have pick:∀(l:List Int)(k:Int),0≤k→k<(l.length:Int)→∃y,dU (aP l) (.int k)=some (.int y):=fun l k a b=>⟨_,fJ a b⟩
 B3⟨now,aLd⟩:=pick [0,1,2,m*10 ^ (40:Int).toNat,-1] (p%5) (F1 _ A8) (E9 _ A8)
 B3⟨was,aLe⟩:=pick [-1,0,5,p] (p/90%4) (F1 _ A8) (E9 _ A8)
 &cC (d:=.int p) (bH (aA rfl (aA (aH rfl rfl (iG (Hx A8 A8))) rfl)) rfl hp) A9 ?_
 &cC (d:=.int now) (aX (aH (iD (aA rfl (aA rfl (aA rfl (aA (aH (bH (aA rfl (aA (aH (aH rfl rfl (iG (Hx A8 A8))) rfl (cP _ _)) rfl)) rfl hm) (aH rfl rfl (yE ⟨by decide,by decide,by decide⟩)) (iG (Hx A6 A6))) (aA (rR rfl) rfl))))) A9) (aH rfl rfl (bC A8)) aLd) rfl) A9 ?_
 &cC (d:=.int 0) rfl A9 ?_
 have fin:∀lK:Int,Qs (fun r=>∃d,r=.ret d∧∃a b e:Int,d=dTup [key,f,a,b,e]) (aW (uV (fB (f2 Ft (aD 6) (fC (.int 0)))) (cU 5 (fL aFs (aB (aD 5) aM))) gH) (gO (pP (aB (bO (aD 2)) (aB (bO (aD 3)) (aB (bO (f2 dU (kJ (aB (Cd (fC (.int 1))) (aB (fC (.int 0)) (aB (fC (.int 5)) (aB (aD 4) aM))))) (f2 gM (f2 pQ (aD 4) (fC (.int 90))) (fC (.int 4))))) (aB (bO (aD 5)) (aB (bO (aD 6)) aM))))))) [.fro (.int c),.fro (.int k),.fro (.int key),.fro (.int f),.own (.int p),.own (.int now),.own (.int lK)]):=fun lK=>by
  have last:∀b:Int,Qs (fun r=>∃d,r=.ret d∧∃a b e:Int,d=dTup [key,f,a,b,e]) (gO (pP (aB (bO (aD 2)) (aB (bO (aD 3)) (aB (bO (f2 dU (kJ (aB (Cd (fC (.int 1))) (aB (fC (.int 0)) (aB (fC (.int 5)) (aB (aD 4) aM))))) (f2 gM (f2 pQ (aD 4) (fC (.int 90))) (fC (.int 4))))) (aB (bO (aD 5)) (aB (bO (aD 6)) aM)))))) [.fro (.int c),.fro (.int k),.fro (.int key),.fro (.int f),.own (.int p),.own (.int b),.own (.int lK)]):=fun b=>pZ (iC (aA (aX rfl rfl) (aA (aX rfl rfl) (aA (aX (aH (iD (aA (rR rfl) (aA rfl (aA rfl (aA rfl rfl)))) A9) (aH (aH rfl rfl (dW A8 A8)) rfl (bC A8)) aLe) rfl) (aA (aX rfl rfl) (aA (aX rfl rfl) rfl))))) A9) ⟨_,rfl,_,_,_,rfl⟩
  &Xc (bR (aH rfl rfl (mQ _ _))) (fun _=>?_) fun _=>Bh (last now)
  ~aAW (wJ (d:=.int (if now<0 then -now else now)) (cT (aA rfl rfl) rfl) A9) (last _)
 &Xc (bR (aH (aH (aH rfl rfl (dW A8 A8)) rfl (bC A8)) rfl (mQ _ _))) (fun _=>?_) fun _=>Bh (fin 0)
 ~aAW (wJ (aH rfl (aH (aH rfl rfl (dW A8 A8)) rfl (bC A8)) (cP _ _)) A9) (fin _)
def Ga(P R:Nat)(rs:List (List Int)):List (List (List Int)):=(D4 P).map fun p=>(D4 R).map fun r=>rs.getD (p+P*r) []
B5 Om{P R:Nat}{rs:List (List Int)}{p:Nat}(h:p<P):(Ga P R rs)[p]?=some ((D4 R).map fun r=>rs.getD (p+P*r) []):=by
 B4 Ga
 rw[B9,G3 h]
 rfl
B5 aDM{P x:Nat}{p r:Nat}(hp:p<P)(h:p+P*r=x):x%P=p∧x/P=r:=by
 subst h
 ~⟨by rw[Nat.add_mul_mod_self_left,Nat.mod_eq_of_lt hp],by rw[Nat.add_mul_div_left _ _ A6,Nat.div_eq_of_lt hp,N9]⟩
B5 aDN{P R x:Nat}{rs:List (List Int)}{t:List Int}(hP:0<P)(h:x<P*R)(hl:rs.length=P*R):(Ga P R rs).set (x%P) (((D4 R).map fun r=>rs.getD (x%P+P*r) []).set (x/P) t)=Ga P R (rs.set x t):=by
 have a:=U5 x hP
 have b:x/P<R:=U9 h
 apply K1
 intro p
 rw[F7,show (Ga P R rs).length=P by B4 Ga;rw[B6,D8]]
 by_cases hp:p<P
 ·rw[Om hp,Om hp]
  by_cases e:x%P=p
  ·rw[if_pos e,if_pos a]
   congr 1
   apply K1
   intro r
   rw[F7,B6,D8,B9,B9]
   by_cases hr:r<R
   ·rw[G3 hr,G1,G1,tE _ _ _ _ _ A6]
    by_cases e2:x/P=r
    ·rw[if_pos e2,if_pos b,if_pos (by rw[←e,←e2];~(l4 x P).symm)]
    ·rw[if_neg e2,if_neg fun z=>e2 (aDM hp z.symm).2,e]
   ·rw[E2 (by rw[D8];omega)]
    rw[if_neg A6]
    rfl
  ·rw[if_neg e]
   congr 1
   apply Q9
   intro r hr
   have:=aDD hp (F9.mp hr)
   rw[tE _ _ _ _ _ A6,if_neg fun z=>e (aDM hp z.symm).1]
 ·rw[if_neg A6]
  B4 Ga
  rw[B9,B9,E2 (by rw[D8];omega)]
  rfl
B5 ak{i P R x:Nat}{f f' g:FE}{env:EN}{rs:List (List Int)}{t:List Int}(hP:0<P)(h:x<P*R)(hl:rs.length=P*R)(h1:env[i]?=some (.own (bM (Ga P R rs))))(h2:g (rE env)=some (.int ((x:Int)%(P:Int))))(h3:f (rE env)=some (.int ((x:Int)/(P:Int))))(h4:f' (rE env)=some (dTup t)) :
  wG i (vd dD g) f f' env=.next (env.set i (.own (bM (Ga P R (rs.set x t))))):=by
 rw[←T4]at h2
 rw[←T5]at h3
 rw[qw (a:=x%P) (b:=x/P) h1 h2 h3 h4 (Om (U5 x hP)) (by rw[B6,D8];~U9 h),aDN hP h hl]
structure Built(P R:Nat)(rs:List (List Int))(od:List Int):Prop where
 p1:1≤P
 p8:P≤8
 r1:1≤R
 r8:R≤8
 len:rs.length=P*R
 five:∀k,k<P*R→(rs.getD k []).length=5
 bf:od.Nodup
 Rp:∀x∈od,1≤x∧x<(P*R:Nat)
 chain:Chain rs od
 key:od.Pairwise fun x y=>(rs.getD x.toNat []).getD 0 0<(rs.getD y.toNat []).getD 0 0
B5 aDO{ns:List Int}:∃(P R:Nat)(rs:List (List Int))(bF od:List Int),yI [aP ns]=some (bM (bJ P R rs bF))∧Built P R rs od:=by
 suffices hh:∃d,yI [aP ns]=some d∧∃(P R:Nat)(rs:List (List Int))(bF od:List Int),d=bM (bJ P R rs bF)∧Built P R rs od by
  B3⟨d,e,P,R,rs,bF,od,rfl,q⟩:=hh
  ~⟨P,R,rs,bF,od,e,q⟩
 &oE rfl ?_
 B4 Zx
 B3⟨P,R,hsz,p1,p8,r1,r8⟩:=aDL ns
 have hm0:0<P*R:=Z9 p1 r1
 have aDJ:P*R≤8*8:=R7 p8 r8
 have hPR:((P:Int)*(R:Int))=((P*R:Nat):Int):=(V1 P R).symm
 generalize hM:P*R=M at *
 have hP0:(0:Int)<P:=by omega
 have hP9:(P:Int)<1073741824:=by omega
 have hmul:∀{env:EN},(rE env)[1]?=some (some (.int (P:Int)))→(rE env)[2]?=some (some (.int (R:Int)))→f2 vY (aD 1) (aD 2) (rE env)=some (.int (M:Int)):=fun h1 h2=>(aH (JK h1) (JK h2) (iG (Hx A6 A6))).trans (by rw[hPR])
 &aGE (ds:=[.int P,.int R]) (bH (aA rfl rfl) rfl hsz) rfl rfl ?_
 have hsp:fL Kd (aB (fC (.int 1)) (aB (f2 vY (aD 1) (aD 2)) aM)) (rE (wH ([aP ns].map SD.fro++E4 (11-1) SD.no) [1,2] [.int P,.int R]))=some (aP (oV M)):=by
  &(cT (aA rfl (aA (hmul rfl rfl) rfl)) (show Kd [.int 1,.int (M:Int)]=some _ from if_pos ⟨by decide,by decide,by omega,by omega⟩)).trans ?_
  B4 aP oV
  rw[K7,show ((M:Int)-1).toNat=M-1 by omega]
  rfl
 &cC hsp A9 ?_
 &cC (d:=aP [0]) rfl A9 ?_
 have hc1:mZ [aP ns,.int 1]=some (.int (ns.getD 1 0)):=Wh ns 1
 have hc2:mZ [aP ns,.int 2]=some (.int (ns.getD 2 0)):=Wh ns 2
 generalize ns.getD 1 0=c1 at hc1
 generalize ns.getD 2 0=c at hc2
 have b0:=F1 c1 (show (M:Int)≠0 by omega)
 have b1:=E9 c1 (show 0<(M:Int) by omega)
 &Rn (n:=(c1%(M:Int)).toNat) (fun k env=>∃(sp bs:List Int)(v:SD),env=[.fro (aP ns),.own (.int P),.own (.int R),.own (aP sp),.own (aP (0::bs)),v,.no,.no,.no,.no,.no]∧bs.length=k∧(bs++sp).Perm (oV M)) (Ur (aA (aH (bH (aA rfl (aA rfl rfl)) rfl hc1) (hmul rfl rfl) (bC A6)) rfl) A6 A6) ⟨oV M,[],_,rfl,rfl,R6 _⟩ ?_ ?_
 ·rintro k env hk ⟨sp,bs,v,rfl,hb,hp⟩
  &⟨by walk_at "lt", ?_⟩
  have hlen:=hp.length_eq
  rw[C7,hb,show (oV M).length=M-1 by B4 oV;rw[B6,D8]]at hlen
  B3⟨m,hm,_,_⟩:=Dw c1 (k:=(k:Int)) A6 A6
  have i0:=F1 m (show (sp.length:Int)≠0 by omega)
  have i1:=E9 m (show 0<(sp.length:Int) by omega)
  &⟨_,JL (ns:=0::bs) (ms:=sp) (k:=m%(sp.length:Int)) rfl rfl (aH (bH (aA (bH (aA rfl (aA rfl rfl)) rfl hc1) (aA rfl rfl)) rfl hm) (cT (aA rfl rfl) (jP _)) (bC A6)) A8 (by simp;omega) A6 i0 i1,sp.eraseIdx (m%(sp.length:Int)).toNat,bs++[sp.getD (m%(sp.length:Int)).toNat 0],_,rfl,by rw[C7,hb];rfl,?_⟩
  rw[P6]
  ~(a9 bs (Uu sp _ 0 A6)).trans hp
 rintro env ⟨sp,bs,v5,rfl,hb,hp⟩
 have hnd:(bs++sp).Nodup:=hp.nodup_iff.mpr (by
  B4 oV
  &i7 _ (fun a b (h:a≠b)=>by omega) j8)
 have hmem:∀x,x∈bs++sp→1≤x∧x<(M:Int):=fun x hx=>by
  have:=hp.mem_iff.mp hx
  B4 oV at this
  B3⟨i,hi,rfl⟩:=J2.mp this
  have:=F9.mp hi
  omega
 have hbn:=(N4.mp hnd).1
 have hbm:∀x∈bs,1≤x∧x<(M:Int):=fun x hx=>hmem x (N2 _ hx)
 have hsm:∀x∈sp,1≤x∧x<(M:Int):=fun x hx=>hmem x (J1 _ hx)
 have aMH:sp.length≤M:=by
  have:=hp.length_eq
  rw[C7,show (oV M).length=M-1 by B4 oV;rw[B6,D8]]at this
  omega
 have hbl:bs.length<M:=by omega
 generalize aIy:E4 M ([0,0,-1,-1,0]:List Int)=rs0
 have hl0:rs0.length=M:=by rw[←aIy,P8]
 have aJ2:gU (sO (aB (aD 1) aM)) [2] lG (gU (sO (aB (aD 1) aM)) [] lG (pP (aB (fC (.int 0)) (aB (fC (.int 0)) (aB (Cd (fC (.int 1))) (aB (Cd (fC (.int 1))) (aB (fC (.int 0)) aM))))))) (rE [.fro (aP ns),.own (.int P),.own (.int R),.own (aP sp),.own (aP (0::bs)),v5,.no,.no,.no,.no,.no])=some (bM (Ga P R rs0)):=by
  &(zO (n:=P) (φ:=fun p=>fY ((D4 R).map fun r=>rs0.getD (p+P*r) [])) (Es (aA rfl rfl) A6) A6 fun p hp=>?_).trans ?_
  ·&(zO (n:=R) (φ:=fun r=>dTup (rs0.getD (p+P*r) [])) (Es (aA rfl rfl) A6) A6 fun r hr=>?_).trans ?_
   ·have:=aDD hp hr
    rw[←aIy,B8,P0,if_pos A6]
    ~iC (aA rfl (aA rfl (aA (rR rfl) (aA (rR rfl) (aA rfl rfl))))) A9
   ·B4 fY
    rw[K7]
    rfl
  ·show _=some (D.lst ((Ga P R rs0).map fY))
   B4 Ga
   rw[K7]
   rfl
 &cC aJ2 A9 ?_
 &cC (d:=.int c) (bH (aA rfl (aA rfl rfl)) rfl hc2) A9 ?_
 have p9:(0:Int)<10 ^ (9:Int).toNat:=S8 A8
 have p58:(0:Int)<10 ^ (58:Int).toNat:=S8 A8
 have hpw:∀n:Int,0≤n→n<100→Jp (.int 10) (.int n)=some (.int (10 ^ n.toNat)):=fun n a b=>yE ⟨a,by omega,by omega⟩
 have f5:∀{l:List (List Int)} {x:Nat} {t:List Int},l.length=M→x<M→t.length=5→(∀k,k<M→(l.getD k []).length=5)→∀k,k<M→((l.set x t).getD k []).length=5:=fun{l x t} h1 h2 h3 h4 k hk=>by
  rw[tE _ _ _ _ _ A6]
  split
  ·~h3
  ·~h4 k hk
 &yh (xs:=sp.map D.int) (fun k env=>∃(rs:List (List Int))(v:SD),env=[.fro (aP ns),.own (.int P),.own (.int R),.fro (aP sp),.own (aP (0::bs)),v5,.own (bM (Ga P R rs)),.own (.int c),v,.no,.no]∧rs.length=M∧∀k,k<M→(rs.getD k []).length=5) rfl (jF rfl) ⟨rs0,_,rfl,hl0,fun k hk=>by rw[←aIy,B8,P0,if_pos hk];rfl⟩ ?_ ?_
 ·rintro k x env hx ⟨rs,v,rfl,hl,h5⟩
  &⟨by walk_at "lt", ?_⟩
  rw[B9]at hx
  B3⟨y,hy,rfl⟩:=lY hx
  have ym:=hsm y (E6 hy)
  B3⟨a,b,e,hrec⟩:=Wj c (k:=y) (c%10 ^ (9:Int).toNat) (y*y%(M:Int)) A6 A6
  have ye:((y.toNat:Nat):Int)=y:=by omega
  &⟨_,ak (x:=y.toNat) (t:=[c%10 ^ (9:Int).toNat,y*y%(M:Int),a,b,e]) p1 (by rw[hM];omega) (by rw[hM];~hl) rfl (by rw[ye];~aH rfl rfl (bC hP0)) (by rw[ye];~aH rfl rfl (dW hP0 hP9)) (bH (aA rfl (aA rfl (aA (aH rfl (aH rfl rfl (hpw 9 A8 A8)) (bC p9)) (aA (aH (aH rfl rfl (iG (Hx A6 A6))) (hmul rfl rfl) (bC A6)) rfl)))) rfl hrec),_,_,rfl,by rw[K9];~hl,f5 hl A6 rfl h5⟩
 rintro env ⟨rs1,v8,rfl,hl1,h51⟩
 &cC (d:=.int (c%10 ^ (58:Int).toNat)) (aH rfl (aH rfl rfl (hpw 58 A8 A8)) (bC p58)) A9 ?_
 have hb0:∀i,i<bs.length+1→0≤(0::bs).getD i 0∧(0::bs).getD i 0<(M:Int):=fun i hi=>by
  have:=getD_mem (l:=0::bs) (k:=i) (by simp;omega)
  rcases D5.mp this with z | z
  ·rw[z];omega
  ·have:=hbm _ z;omega
 have aIz:(0::bs).Nodup:=K8.mpr ⟨fun z=>by have:=hbm 0 z;omega,hbn⟩
 &Rn (n:=bs.length+1) (fun k env=>∃(rs:List (List Int))(key:Int)(v5 v8:SD),env=[.fro (aP ns),.own (.int P),.own (.int R),.fro (aP sp),.own (aP (0::bs)),v5,.own (bM (Ga P R rs)),.own (.int c),v8,.own (.int key),.no]∧rs.length=M∧(∀k,k<M→(rs.getD k []).length=5) ∧
   (∀i,i<k→∃y was now lK:Int,rs[((0::bs).getD i 0).toNat]?=some [y,(bs++[0]).getD i 0,was,now,lK]∧y<key)∧(∀i j,i<j→j<k→(rs.getD ((0::bs).getD i 0).toNat []).getD 0 0<(rs.getD ((0::bs).getD j 0).toNat []).getD 0 0)) (Es (aA ((cT (aA rfl rfl) (jP _)).trans rfl) rfl) A6) ⟨rs1,_,_,_,rfl,hl1,h51,fun i hi=>absurd hi (L6 _),fun i j _ hj=>absurd hj (L6 _)⟩ ?_ ?_
 ·rintro k env hk ⟨rs,key,w5,w8,rfl,hl,h5,hch,hke⟩
  &⟨by walk_at "lt", ?_⟩
  B3⟨x0,x1⟩:=hb0 k hk
  generalize hx:(0::bs).getD k 0=x at *
  have xe:((x.toNat:Nat):Int)=x:=by omega
  have ix:dU (aP (0::bs)) (.int (k:Int))=some (.int x):=(fJ A6 (by simp;omega)).trans (by rw[D7,hx])
  have ixn:dU (aP ((0::bs)++[0])) (.int ((k:Int)+1))=some (.int ((bs++[0]).getD k 0)):=(fJ A6 (by simp;omega)).trans (by rw[show ((k:Int)+1).toNat=k+1 by omega];rfl)
  B3⟨a,b,e,hrec⟩:=Wj c (k:=(k:Int)+100) key ((bs++[0]).getD k 0) A6 A6
  B3⟨m,hm,m0,m1⟩:=Dw c (k:=(k:Int)+7) A6 A6
  &cC (d:=.int x) (aX (aH rfl rfl ix) rfl) A9 ?_
  &aAW (ak (x:=x.toNat) (t:=[key,(bs++[0]).getD k 0,a,b,e]) p1 (by rw[hM];omega) (by rw[hM];~hl) rfl (by rw[xe];~aH rfl rfl (bC hP0)) (by rw[xe];~aH rfl rfl (dW hP0 hP9)) (bH (aA rfl (aA (aH rfl rfl (cP _ _)) (aA rfl (aA (aH (aH rfl (iD (aA rfl rfl) A9) (zP (0::bs) [0] (by simp;omega))) (aH rfl rfl (cP _ _)) ixn) rfl)))) rfl hrec)) ?_
  have c20:=F1 c (show (2:Int)≠0 by decide)
  have c21:=E9 c (show (0:Int)<2 by decide)
  have pos:∃z:Int,0≤z∧dU (aP [1,10 ^ (40:Int).toNat]) (.int (c%2))=some (.int z):=by
   rcases(show c%2=0∨c%2=1 by omega)with z | z
   ·~⟨1,by decide,by rw[z];rfl⟩
   ·~⟨10 ^ (40:Int).toNat,O9 (S8 A8),by rw[z];rfl⟩
  B3⟨z,z0,hz⟩:=pos
  have mm:=F1 m (show (3:Int)≠0 by decide)
  have mm1:=E9 m (show (0:Int)<3 by decide)
  have hst:0≤m%3*z:=m8 mm z0
  &aCY (d:=.int (key+1+m%3*z)) (aH (aH rfl rfl (cP _ _)) (aH (aH (bH (aA rfl (aA (aH rfl rfl (cP _ _)) rfl)) rfl hm) rfl (bC A8)) (aH (iD (aA rfl (aA (aH rfl rfl (hpw 40 A8 A8)) rfl)) A9) (aH rfl rfl (bC A8)) hz) (iG (Hx A6 A6))) (cP _ _)) A9 ⟨_,rfl,_,_,_,_,rfl,by rw[K9];~hl,f5 hl A6 rfl h5,?_,?_⟩
  ·intro i hi
   rcases K4 i k with q | q
   ·B3⟨y,was,now,lK,h1,h2⟩:=hch i q
    have hi0:=hb0 i A6
    have ne:(0::bs).getD i 0≠x:=by rw[←hx];~Dv aIz (by simp;omega) (by simp;omega) A6
    ~⟨y,was,now,lK,by rw[U0 A6];~h1,by omega⟩
   ·have:i=k:=by omega
    subst this
    rw[hx]
    ~⟨key,a,b,e,by rw[J5 A6],by omega⟩
  ·intro i j hij hj
   have hi0:=hb0 i A6
   have nei:(0::bs).getD i 0≠x:=by rw[←hx];~Dv aIz (by simp;omega) (by simp;omega) A6
   rw[tE _ _ _ _ _ A6,if_neg A6]
   rcases K4 j k with q | q
   ·have hj0:=hb0 j A6
    have nej:(0::bs).getD j 0≠x:=by rw[←hx];~Dv aIz (by simp;omega) (by simp;omega) A6
    rw[tE _ _ _ _ _ A6,if_neg A6]
    ~hke i j hij q
   ·have:j=k:=by omega
    subst this
    rw[hx,tE _ _ _ _ _ A6,if_pos rfl]
    B3⟨y,was,now,lK,h1,h2⟩:=hch i hij
    rw[qC h1]
    ~h2
 rintro env ⟨rs,key,w5,w8,rfl,hl,h5,hch,hke⟩
 &Rn (n:=P) (fun k env=>∃(se:List Int)(v:SD),env=[.fro (aP ns),.own (.int P),.own (.int R),.fro (aP sp),.own (aP (0::bs)),w5,.own (bM ((D4 P).map fun p=>((D4 R).map fun r=>rs.getD (p+P*r) [])++(if p<k then [[se.getD p 0]]else []))),.own (.int c),w8,.own (.int key),v]∧se.length=k) (Es (aA rfl rfl) A6) ⟨[],_,by
   have:(D4 P).map (fun p=>((D4 R).map fun r=>rs.getD (p+P*r) [])++(if p<0 then [[([]:List Int).getD p 0]]else []))=Ga P R rs:=by
    B4 Ga
    apply Q9
    intro p _
    rw[if_neg (L6 _),F3]
   rw[this],rfl⟩ ?_ ?_
 ·rintro k env hk ⟨se,v,rfl,hse⟩
  &⟨by walk_at "lt", ?_⟩
  B3⟨m,hm,_,_⟩:=Dw c (k:=(k:Int)+70) A6 A6
  generalize hS:((D4 P).map fun p=>((D4 R).map fun r=>rs.getD (p+P*r) [])++(if p<k then [[se.getD p 0]]else []))=S
  have hk2:S[k]?=some ((D4 R).map fun r=>rs.getD (k+P*r) []):=by
   rw[←hS,B9,G3 hk,G1,if_neg (K6 _),F3]
  have hgp:gC [.ix k] (bM S)=some (.lst (((D4 R).map fun r=>rs.getD (k+P*r) []).map dTup)):=oh (by rw[B9,hk2];rfl)
  &⟨_,Va (p:=[.ix k]) (d:=dTup [m%10]) rfl (by
   show vd dD (aD 10) _=_
   rw[aDf (k:=(k:Int)) rfl rfl A6,D7]
   rfl) hgp (iC (aA (aH (bH (aA rfl (aA (aH rfl rfl (cP _ _)) rfl)) rfl hm) rfl (bC A8)) rfl) A9) (by rw[B6,B6,D8];omega),se++[m%10],.fro (.int k),?_,by rw[C7,hse];rfl⟩
  rw[show fG [.ix k] (bM S) (.lst (((D4 R).map fun r=>rs.getD (k+P*r) []).map dTup++[dTup [m%10]]))=bM ((D4 P).map fun p=>((D4 R).map fun r=>rs.getD (p+P*r) [])++(if p<k+1 then [[(se++[m%10]).getD p 0]]else []))from ?_]
  ·rfl
  &(ou (y:=fY _) (by rw[B9,hk2];rfl)).trans ?_
  &congrArg D.lst (?_:(S.map fY).set k _=_)
  apply K1
  intro p
  rw[F7,B6,←hS,B6,D8,B9,B9,B9,B9]
  by_cases hp:p<P
  ·rw[G3 hp]
   by_cases e:k=p
   ·subst e
    rw[if_pos rfl,if_pos hp,G1,G1,if_pos A6,B8,L3 A6,hse,V0]
    B4 fY
    rw[J3]
    rfl
   ·rw[if_neg e,G1,G1,G1,G1]
    by_cases q:p<k
    ·rw[if_pos q,if_pos A6,B8,B8,G4 A6]
    ·rw[if_neg q,if_neg A6]
  ·rw[if_neg A6,E2 (by rw[D8];omega)]
   rfl
 rintro env ⟨se,v,rfl,hse⟩
 &JM rfl ⟨_,rfl,P,R,rs,se,bs,?_,⟨p1,p8,r1,r8,by rw[hM];~hl,by rw[hM];~h5,hbn,by rw[hM];~hbm,?_,?_⟩⟩
 ·&congrArg pD ?_
  B4 bJ
  apply Q9
  intro p hp
  rw[if_pos (F9.mp hp)]
 ·intro k hk
  B3⟨y,was,now,lK,h1,_⟩:=hch k A6
  ~⟨y,was,now,lK,h1⟩
 ·rw[K5]
  intro i j hi hj hij
  have:=hke (i+1) (j+1) A6 A6
  have ei:(0::bs).getD (i+1) 0=bs[i]:=by rw[V3,B8,B7 hi];rfl
  have ej:(0::bs).getD (j+1) 0=bs[j]:=by rw[V3,B8,B7 hj];rfl
  rw[ei,ej]at this
  ~this
B5 aFT{P R:Nat}{dC:List (List Int)}{bF:List Int}(hP:0<P)(hP8:P≤8):pB [bM (bJ P R dC bF)]=some (.int ((P*R:Nat):Int)):=by
 &oO rfl ?_
 B4 Ie
 apply iB
 have hls:=Fg (bJ P R dC bF)
 rw[zA]at hls
 have h0:(bJ P R dC bF)[0]?=some _:=Rt (p:=0) hP
 have hix:dU (bM (bJ P R dC bF)) (.int 0)=some (fY _):=Du (k:=0) h0
 have hlp:=Lp (((D4 R).map fun r=>dC.getD (0+P*r) [])++[[bF.getD 0 0]])
 rw[NP (E6 h0)]at hlp
 rw[V1]
 have e:(R:Int)=((R+1:Nat):Int)-1:=by omega
 rw[e]
 ~aH (cT (aA rfl rfl) hls) (aH (cT (aA (aH rfl rfl hix) rfl) hlp) rfl (lR _ _)) (iG (Hx A6 A6))
def Wb.first(P R:Nat)(rs:List (List Int))(bF od:List Int):Wb:=⟨⟨bJ P R rs bF,[],[],[],[]⟩,rs,od,(oV (P*R)).filter fun i=>!decide (i∈od),⟨[],[]⟩,⟨[],[]⟩,⟨[],[]⟩⟩
section
variable{P R:Nat}{rs:List (List Int)}{bF od:List Int}
B5 Built.ok(h:Built P R rs od):mF (Wb.first P R rs bF od):=by
 have aDJ:P*R≤8*8:=R7 h.p8 h.r8
 have hm0:0<P*R:=Z9 h.p1 h.r1
 have hpl:(Wb.first P R rs bF od).P=P:=zA _ _ _ _
 have box:∀k,k<P*R→∃q,(bJ P R rs bF)[k%P]?=some q∧q[k/P]?=some (rs.getD k []):=fun k hk=>qu h.p1 hk
 have hb:∀k,k<rs.length→k<P*R:=fun k hk=>by rw[←h.len];~hk
 &⟨Ja.init (by rw[zA];~h.p8),by rw[hpl];~h.p1,?_,?_,?_,?_,?_,⟨rfl,C5 _⟩,⟨rfl,C5 _⟩,⟨rfl,C5 _⟩,nofun,nofun,h.bf,?_,?_,?_,h.key,fun k hk=>absurd hk (L6 _)⟩
 ·intro k hk
  rw[hpl]
  B3⟨q,q1,q2⟩:=box k (hb k hk)
  show k/P<((bJ P R rs bF).getD (k%P) []).length
  rw[qC q1]
  ~(D2.mp q2).1
 ·show rs.length≤64
  rw[h.len]
  ~aDJ
 ·show 0<rs.length
  rw[h.len]
  ~hm0
 ·intro k hk
  rw[hpl]
  B3⟨q,q1,q2⟩:=box k (hb k hk)
  &⟨?_,h.five k (hb k hk)⟩
  show rs.getD k []=((bJ P R rs bF).getD ((k%P:Nat):Int).toNat []).getD ((k/P:Nat):Int).toNat []
  rw[D7,D7,qC q1,qC q2]
 ·intro k hk
  rfl
 ·intro x hx
  show 1≤x∧x<(rs.length:Int)
  rw[h.len]
  ~h.Rp x hx
 ·&List.Nodup.sublist R0 ?_
  B4 oV
  ~i7 _ (fun a b (h:a≠b)=>by omega) j8
 ·intro x
  show x∈(oV (P*R)).filter _↔1≤x∧x<(rs.length:Int)∧x∉od
  rw[h.len,N1]
  B4 oV
  rw[J2]
  constructor
  ·rintro⟨⟨i,hi,rfl⟩,z⟩
   have:=F9.mp hi
   ~⟨by omega,by omega,by simpa using z⟩
  ·rintro⟨z1,z2,z3⟩
   ~⟨⟨(x-1).toNat,F9.mpr A6,by omega⟩,by simpa using z3⟩
B5 CQ{Pr:SR→Prop}{v:V}{C:Addr}{nm:List Str}{ds:List D}{x:Str}{f:FE}{g:GS}{d:D}{rest:EN}(h:f (rE (.own (.ins C nm ds)::rest))=some d)(hx:posK nm x=none)(hl:nm.length<900)(k:Qs Pr (g (.inn v (.ins C (nm++[x]) (ds++[d]))::rest))):Qs Pr (aW (iW 0 (yD C 0 dD x f)) g (.inn v (.ins C nm ds)::rest)):=mR rfl (vP (p:=[]) rfl rfl rfl h hl hx) rfl k
B5 aIA{Pr:SR→Prop}{v:V}{C:Addr}{nm:List Str}{ds:List D}{x:Str}{f:FE}{d:D}{rest:EN}(h:f (rE (.own (.ins C nm ds)::rest))=some d)(hx:posK nm x=none)(hl:nm.length<900)(k:Pr (.next (.inn v (.ins C (nm++[x]) (ds++[d]))::rest))):Qs Pr (iW 0 (yD C 0 dD x f) (.inn v (.ins C nm ds)::rest)):=jz rfl (vP (p:=[]) rfl rfl rfl h hl hx) rfl k
variable(κ:Nat→Addr)
B5 aDP(h:Built P R rs od):wN κ [.ins (κ 1) [] [],bM (bJ P R rs bF)]=some (.non,kZ κ (Wb.first P R rs bF od)):=by
 &lJ rfl fun v=>?_
 have aDJ:P*R≤8*8:=R7 h.p8 h.r8
 have h64:od.length≤64:=by
  have:=qW (P*R) od h.bf fun x hx=>by have:=h.Rp x hx;omega
  omega
 have hl:=zA P R rs bF
 have aDK:=aFT (R:=R) (dC:=rs) (bF:=bF) h.p1 h.p8
 have hbn:vH κ [.ins (κ 0) [] [],bM (bJ P R rs bF)]=_:=aFE κ (vR:=bJ P R rs bF) (by rw[hl];~h.p8)
 have hstr:=CP (bF:=bF) h.p1 h.p8 h.r1 h.chain h.Rp h.bf h64
 have hlo:=aDI (bF:=bF) h.p1 h.p8 h.r1 h.r8 h.chain h.Rp h.bf h64
 have hso:∀k:Nat,zV [bM (bJ P R rs bF),.int (k:Int)]=some (dTup [((k%P:Nat):Int),((k/P:Nat):Int)]):=fun k=>(zj (by rw[hl];~h.p1) (by rw[hl];have:=h.p8;omega)).trans (by rw[hl,T4,T5])
 have hwv:kZ κ (Wb.first P R rs bF od)=.ins (κ 1) wB [dR (κ 0) ⟨bJ P R rs bF,[],[],[],[]⟩,qe P (P*R),aP od,aP ((oV (P*R)).filter fun i=>!decide (i∈od)),Qv ⟨[],[]⟩,Qv ⟨[],[]⟩,Qv ⟨[],[]⟩]:=by
  B4 kZ Wb.P Wb.first
  dsimp only
  rw[hl,h.len]
 rw[hwv]
 clear hwv
 generalize bM (bJ P R rs bF)=st at *
 generalize dR (κ 0) ⟨bJ P R rs bF,[],[],[],[]⟩=bd at *
 generalize ((oV (P*R)).filter fun i=>!decide (i∈od))=lo at *
 suffices hh:Qs (UL .non (.ins (κ 1) wB [bd,qe P (P*R),aP od,aP lo,Qv ⟨[],[]⟩,Qv ⟨[],[]⟩,Qv ⟨[],[]⟩]) v) (Cz κ [.inn v (.ins (κ 1) [] []),.fro st])from hh
 B4 Cz
 &CQ (d:=bd) (WW (aA rfl rfl) hbn) rfl A8 ?_
 &CQ (d:=qe P (P*R)) (zO (n:=P*R) (Es (aA (bH (aA rfl rfl) rfl aDK) rfl) A6) A6 fun k hk=>bH (aA rfl (aA rfl rfl)) rfl (hso k)) A7 A8 ?_
 &CQ (d:=aP od) (bH (aA rfl rfl) rfl hstr) A7 A8 ?_
 &CQ (d:=aP lo) (bH (aA rfl rfl) rfl hlo) A7 A8 ?_
 &CQ (d:=Qv ⟨[],[]⟩) rfl A7 A8 ?_
 &CQ (d:=Qv ⟨[],[]⟩) rfl A7 A8 ?_
 ~aIA (d:=Qv ⟨[],[]⟩) rfl A7 A8 ⟨_,.inr ⟨rfl,rfl⟩,rfl⟩
B5 aIB{Pr:SR→Prop}{env:EN}{ks:List Key}{is:List Nat}{fs:FA}{ds os:List D}(h1:fs (rE env)=some ds)(h2:xF env is=some os)(h3:decide is.Nodup=true)(h4:decide ks.Nodup=true)(h5:ks.length=os.length+ds.length)(h6:ks.length≤15)(k:Pr (.ret (.dk ks (os++ds)))):Qs Pr (VP ks is fs env):=by
 B4 VP
 rw[h1,h2]
 dsimp only
 rw[if_pos ⟨h3,h4,h5,h6⟩]
 ~k
B5 aFU(h:Built P R rs od):Dc [bM (bJ P R rs bF)]=some (nH (Wb.first P R rs bF od)):=by
 suffices hh:∃d,Dc [bM (bJ P R rs bF)]=some d∧d=nH (Wb.first P R rs bF od) by
  B3⟨d,e,rfl⟩:=hh
  ~e
 &oE rfl ?_
 B4 XC
 have aDJ:P*R≤8*8:=R7 h.p8 h.r8
 have h8:=h.p8
 have hp1:=h.p1
 have hl:=zA P R rs bF
 have h64:od.length≤64:=by
  have:=qW (P*R) od h.bf fun x hx=>by have:=h.Rp x hx;omega
  omega
 &cC (d:=.int P) ((cT (aA rfl rfl) (Fg _)).trans (by rw[hl])) A9 ?_
 have h0:(bJ P R rs bF)[0]?=some _:=Rt (p:=0) hp1
 have hix:dU (bM (bJ P R rs bF)) (.int 0)=some (fY _):=Du (k:=0) h0
 have hlp:=Lp (((D4 R).map fun r=>rs.getD (0+P*r) [])++[[bF.getD 0 0]])
 rw[NP (E6 h0)]at hlp
 have hP0:(0:Int)<P:=by omega
 have hrec:∀k:Nat,k<P*R→bO (f2 dU (f2 dU (aD 1) (f2 gM (aD 0) (aD 2))) (f2 pQ (aD 0) (aD 2))) [some (.int (k:Int)),some (bM (bJ P R rs bF)),some (.int P)]=some (dTup (rs.getD k [])):=fun k hk=>by
  B3⟨q,q1,q2⟩:=qu (dC:=rs) (bF:=bF) hp1 hk
  have e1:dU (bM (bJ P R rs bF)) (.int ((k:Int)%(P:Int)))=some (fY q):=by rw[←T4];~Du q1
  have e2:dU (fY q) (.int ((k:Int)/(P:Int)))=some (dTup (rs.getD k [])):=by rw[←T5];~aJ0 q2
  ~aX (aH (aH rfl (aH rfl rfl (bC hP0)) e1) (aH rfl rfl (dW hP0 A6)) e2) (iR _)
 have aJ3:(D.lst ((D4 (P*R)).map fun k=>dTup (rs.getD k [])))=yQ rs:=by
  B4 yQ
  congr 1
  apply K1
  intro k
  rw[B9,B9]
  by_cases hk:k<P*R
  ·rw[G3 hk,oR (d:=[]) (show k<rs.length by rw[h.len];~hk)]
   rfl
  ·rw[E2 (by rw[D8];omega),E2 (by rw[h.len];omega)]
   rfl
 &cC (d:=yQ rs) ((zO (n:=P*R) (φ:=fun k=>dTup (rs.getD k [])) (Es (aA ((aH rfl (aH (cT (aA (aH rfl rfl hix) rfl) hlp) rfl (lR _ _)) (iG (Hx A6 A6))).trans (by rw[show ((R+1:Nat):Int)-1=(R:Int) by omega,V1])) rfl) A6) A6 hrec).trans (by rw[aJ3])) A9 ?_
 &cC (d:=aP []) rfl A9 ?_
 have nx:∀k,k≤od.length→∃t:List Int,dU (yQ rs) (.int ((0::od).getD k 0))=some (dTup t)∧dU (dTup t) (.int 1)=some (.int ((od++[0]).getD k 0)):=fun k hk=>by
  B3⟨key,was,now,lK,h1⟩:=h.chain k hk
  have hx:0≤(0::od).getD k 0:=by
   have:=getD_mem (l:=0::od) (k:=k) (by simp;omega)
   rcases D5.mp this with z | z
   ·omega
   ·have:=h.Rp _ z;omega
  ~⟨_,rQ hx (by rw[B9];~congrArg (Option.map dTup) h1),uE A8 rfl⟩
 B3⟨t0,ht0,hx0⟩:=nx 0 (M0 _)
 have aJ1:dU (yQ rs) (.int 0)=some (dTup t0):=ht0
 &cC (d:=.int ((od++[0]).getD 0 0)) (aX (aH (aH rfl rfl aJ1) rfl hx0) rfl) A9 ?_
 have key:∀k,k<od.length→(od++[0]).getD k 0=od.getD k 0:=fun k hk=>by rw[B8,B8,G4 hk]
 have last:(od++[0]).getD od.length 0=0:=by rw[B8,L3 (C5 _),V0];rfl
 &yl (n:=od.length) (fun n env=>n≤od.length∧env=[.fro (bM (bJ P R rs bF)),.own (.int P),.own (yQ rs),.own (aP (od.take (od.length-n))),.own (.int ((od++[0]).getD (od.length-n) 0))]) ⟨C5 _,by rw[V0];rfl⟩ A6 ?_ ?_
 ·rintro n env ⟨hn,rfl⟩
  by_cases c:n=0
  ·left
   subst c
   rw[U6,last]
   ~(bR ((aH rfl rfl (rP 0 0)).trans (by rw[decide_eq_true rfl];rfl)))
  ·right
   have hk:od.length-n<od.length:=by omega
   B3⟨t,ht,hxt⟩:=nx (od.length-n+1) A6
   have ht':dU (yQ rs) (.int (od.getD (od.length-n) 0))=some (dTup t):=ht
   have hm:=h.Rp _ (getD_mem hk)
   rw[key _ hk]
   &⟨bR ((aH rfl rfl (rP _ _)).trans (by rw[decide_eq_false A6];rfl)),by omega,_,aGC (jw (ds:=(od.take (od.length-n)).map D.int) (d:=.int (od.getD (od.length-n) 0)) rfl (aX rfl rfl) (by rw[B6,J4];omega)) (wJ (d:=.int ((od++[0]).getD (od.length-n+1) 0)) (aX (aH (aH rfl rfl ht') rfl hxt) rfl) A9),by omega,?_⟩
   rw[show od.length-(n-1)=od.length-n+1 by omega,vB,P7,oR (d:=0) hk]
   rfl
 ·rintro env n ⟨hn,rfl⟩ hf
  have c:n=0:=by
   by_cases c:n=0
   ·~c
   ·exfalso
    have hk:od.length-n<od.length:=by omega
    have hm:=h.Rp _ (getD_mem hk)
    rw[key _ hk]at hf
    have:=(bR ((aH rfl rfl (rP (od.getD (od.length-n) 0) 0)).trans (by rw[decide_eq_false A6];rfl)):fB (f2 Tr (aD 4) (fC (.int 0))) (rE [.fro (bM (bJ P R rs bF)),.own (.int P),.own (yQ rs),.own (aP (od.take (od.length-n))),.own (.int (od.getD (od.length-n) 0))])=some true)
    rw[this]at hf
    cases hf
  subst c
  rw[U6,O8]
  &aIB (ds:=[.dk [] [],.dk [] [],.dk [] [],.lst [],.int P]) (os:=[yQ rs,aP od]) rfl rfl A8 A7 rfl A8 ⟨_,rfl,?_⟩
  B4 nH Wb.P Wb.first
  dsimp only
  rw[hl]
  rfl
end
B5 aDQ{Pr:SR→Prop}{gb:GB}{g1 g2:GS}{env env':EN}(h:gb env=some (false,env'))(k:Qs Pr (g2 env')):Qs Pr (TY gb g1 g2 env):=by B4 Qs at *;rw[aDz h];~k
B5 Fi(l:List Int):Tr (aP l) (.lst [])=some (.bl (!decide (l=[]))):=WT l []
variable(κ:Nat→Addr)
def Wb.cv(s:Wb)(r:List Int):Wb:={s with b:=s.b.cW r}
B5 mF.cv{s:Wb}(h:mF s){r:List Int}(hu:r.Nodup)(hm:∀x∈r,0≤x∧x<(s.n:Int))(hn:∀x∈r,x∉s.b.held):mF (s.cv r)∧nH (s.cv r)=nH s∧(s.cv r).n=s.n∧(s.cv r).P=s.P:=by
 have e1:=oU r s.b
 B3⟨e2,e3⟩:=rZ r s.b
 have en:(s.cv r).n=s.n:=congrArg i8 e1
 have eP:(s.cv r).P=s.P:=e2
 &⟨⟨h.bn.cW hu hm hn,by rw[eP];~h.p1,fun k hk=>?_,h.few,h.pos,fun k hk=>?_,fun k hk=>?_,by rw[en];~h.lao,by rw[en];~h.coo,by rw[en];~h.goo,by rw[en];~h.coi,by rw[en];~h.goi,h.bf,h.Rp,h.lon,h.lom,h.key,fun k hk=>?_⟩,?_,en,eP⟩
 ·rw[eP]
  show _<((s.b.cW r).bT.getD _ []).length
  rw[e3]
  ~h.len k hk
 ·rw[eP]
  show s.rs.getD k []=face (s.b.cW r) _ _∧_
  rw[MP h.bn (P5 _) (P5 _) hm]
  ~h.rcd k hk
 ·rw[eP]
  show s.la.get k=lastAt (s.b.cW r).asked _ _
  rw[e1]
  ~h.las k hk
 ·show (at_ (s.b.cW r).asked k).thing.length=5
  rw[e1]
  ~h.th k (by rw[←en];~hk)
 ·B4 nH
  rw[eP]
  show D.dk bks [_,_,_,_,_,sU (s.b.cW r).asked,_]=_
  rw[e1]
  rfl
def Wb.o1(s:Wb)(k x:Int)(fu:List Int):Wb:=s.wr (s.ahead k) (lnk (s.R (s.ahead k)) ((s.R x).getD 1 0)) (s.ns (s.ahead k) ((s.la.get x).toList++fu))
def Wb.out(s:Wb)(k x:Int)(fu:List Int):Wb:={s.o1 k x fu with od:=s.od.eraseIdx k.toNat,lo:=s.lo++[x],go:=s.go.put x s.n}
B5 aDR{l:List Int}{x:Int}:∀{k:Nat},l.Nodup→l[k]?=some x→l.idxOf x=k:=by
 induction l with
 | nil=>intro k _ h;cases h
 | cons a l ih=>
  intro k hn h
  have hn':=K8.mp hn
  cases k with
  | zero=>cases h;~List.idxOf_cons_self
  | succ k=>
   have h:l[k]?=some x:=h
   have ne:a≠x:=fun z=>hn'.1 (z▸E6 h)
   rw[Y9,show (a==x)=false from beq_false_of_ne ne,←ih hn'.2 h]
   rfl
B5 mF.aLf{s:Wb}(h:mF s){x:Int}(h0:0≤x)(h1:x<(s.rs.length:Int)):∀m∈(s.la.get x).toList,0≤m∧m<(s.n:Int):=fun m hm=>by
 have e:=h.las x.toNat A6
 rw[V4 h0]at e
 rw[e]at hm
 cases z:lastAt s.b.asked ((x.toNat%s.P:Nat):Int) ((x.toNat/s.P:Nat):Int)with
 | none=>rw[z]at hm;cases hm
 | some y=>
  rw[z]at hm
  rw[E3.mp hm]
  have:=Fe z
  ~⟨this.1,this.2.1⟩
B5 mF.o1{s:Wb}(h:mF s)(hm:s.n<124){k x:Int}{fu:List Int}(h0:0≤k)(h1:k≤(s.od.length:Int))(x0:0≤x)(x1:x<(s.rs.length:Int))(hn:∀m∈fu,0≤m∧m<(s.n:Int))(hf:fu.length≤5):mF (s.o1 k x fu)∧∀m∈(s.la.get x).toList++fu,0≤m∧m<(s.n:Int):=by
 B3⟨b1,b2,b3⟩:=h.ahead h0 h1
 have hn2:∀m∈(s.la.get x).toList++fu,0≤m∧m<(s.n:Int):=fun m hm=>by
  rcases F2.mp hm with z | z
  ·~h.aLf x0 x1 m z
  ·~hn m z
 &⟨h.wr b2 b3 rfl (h.aFJ hn2) ?_ hm fun _=>rfl,hn2⟩
 B4 Wb.ns
 rw[C7,C7]
 have:=yS (s.co.get (s.ahead k))
 have:=yS (s.la.get x)
 omega
B5 aGK(s:Wb)(k x:Int)(fu:List Int):(s.out k x fu).n=s.n+1:=by
 show (s.o1 k x fu).n=_
 B4 Wb.o1
 ~aDr _ _ _ _
B5 zm(s:Wb)(k x:Int)(fu:List Int):(s.out k x fu).rs.length=s.rs.length:=by
 show (s.o1 k x fu).rs.length=_
 B4 Wb.o1
 ~Jd _ _ _ _
B5 mF.out{s:Wb}(h:mF s)(hm:s.n<124){k x:Int}{fu:List Int}(h0:0≤k)(h1:k<(s.od.length:Int))(hx:s.od[k.toNat]?=some x)(hn:∀m∈fu,0≤m∧m<(s.n:Int))(hf:fu.length≤5):mF (s.out k x fu):=by
  have xm:x∈s.od:=E6 hx
  have xr:=h.Rp x xm
  B3⟨w,_⟩:=h.o1 hm h0 (O9 h1) (x:=x) A6 xr.2 hn hf
  have hi:=aDR h.bf hx
  have hlen:=zm s k x fu
  have hnn:=aGK s k x fu
  &⟨w.bn,w.p1,w.len,w.few,w.pos,w.rcd,w.las,w.lao,?_,?_,?_,?_,h.bf.sublist (T8 _ _),?_,?_,?_,w.key.sublist (T8 _ _),w.th⟩
  · rw[hnn];~h.coo.mono A6
  · rw[hnn];~h.goo.put _ _
  · intro z y e
    have:=h.coi z y e
    rw[hnn]
    omega
  · intro z y e
    have e:(s.go.put x s.n).get z=some y:=e
    rw[Mp.Am h.goo.1]at e
    rw[hnn]
    split at e
    · cases e
      omega
    · have:=h.goi z y e
      omega
  · intro z hz
    rw[hlen]
    ~h.Rp z (List.mem_of_mem_eraseIdx hz)
  · &N4.mpr ⟨h.lon,by simp,fun y hy z hz q=>?_⟩
    rw[E3.mp hz]at q
    ~((h.lom y).mp hy).2.2 (q▸xm)
  · intro y
    show y∈s.lo++[x]↔_
    rw[hlen]
    show _↔1≤y∧y<(s.rs.length:Int)∧y∉s.od.eraseIdx k.toNat
    rw[←hi,CK h.bf,F2,E3,h.lom y]
    constructor
    · rintro(⟨z1,z2,z3⟩ | rfl)
      · ~⟨z1,z2,fun q=>z3 q.1⟩
      · ~⟨xr.1,xr.2,fun q=>q.2 rfl⟩
    · rintro⟨z1,z2,z3⟩
      by_cases e:y=x
      · ~.inr e
      · ~.inl ⟨z1,z2,fun q=>z3 ⟨q,e⟩⟩
B5 aFV{env:EN}{i:Nat}{π:FP}{g:FE}{d0:D}{p:List L2.Step}{ns:List Int}{k:Int}(h1:env[i]?=some (.own d0))(h2:π (rE env)=some p)(h3:gC p d0=some (aP ns))(h5:g (rE env)=some (.int k))(k0:0≤k)(k1:k.toNat<ns.length)(hl:ns.length<1000):Ze i π g env=.next (env.set i (.own (fG p d0 (aP (ns.eraseIdx k.toNat))))):=by
 B4 Ze
 rw[h1,h2,h5]
 dsimp only
 rw[h3]
 B4 aP
 dsimp only
 rw[mC]
 dsimp only
 rw[if_pos ⟨k0,k1,hl⟩]
B5 ao{s:Wb}(h:mF s)(hm:s.n<124){k x:Int}{fu:List Int}{nd:D}(h0:0≤k)(h1:k<(s.od.length:Int))(hx:s.od[k.toNat]?=some x)(hn:∀m∈fu,0≤m∧m<(s.n:Int))(hf:fu.length≤5)(hnd:(nd=.non∧fu=[])∨nd=aP fu):nP κ [kZ κ s,.int x,nd]=some (.int s.n,kZ κ (s.out k x fu)):=by
 &lJ rfl fun v=>?_
 B4 Ku
 B3⟨b1,b2,b3⟩:=h.ahead h0 (O9 h1)
 have xm:x∈s.od:=E6 hx
 have xr:=h.Rp x xm
 have hi:=aDR h.bf hx
 have h5:=h.five (x:=x) A6 xr.2
 B3⟨W,hn2⟩:=h.o1 hm h0 (O9 h1) (x:=x) A6 xr.2 hn hf
 have ek:xQ (s.la.get x::fu.map some)=(s.la.get x).toList++fu:=by rw[vX,vW]
 have hix:Uo (aP s.od) (.int x)=some (.int k):=by
  B4 Uo aP
  dsimp only
  rw[mC,C4,if_pos xm,hi,V4 h0]
 have aJ4:=Jf κ (s:=s) hn hnd
 rw[yR]at aJ4
 &cC (d:=.int (s.ahead k)) (bY (nm:=wB) rfl A7 (aA (aH (dJ rfl (oG w2 rfl)) rfl hix) rfl) rfl (Qc κ h h0 (O9 h1))) A9 ?_
 &cC (d:=gA (s.la.get x::fu.map some)) (aH (a:=gA [s.la.get x]) (b:=gA (fu.map some)) (iD (aA (bY (nm:=wB) rfl A7 rfl rfl (Gr κ h x)) rfl) A9) (bY (nm:=wB) rfl A7 rfl rfl aJ4) (vV _ _ (by simp;omega))) A9 ?_
 &vD (d:=.int s.n) (env':=[.inn v (kZ κ (s.o1 k x fu)),.fro (.int x),.fro nd,.own (.int (s.ahead k)),.own (gA (s.la.get x::fu.map some)),.no]) (lU (p:=[]) (nm:=wB) (es:=[.int (s.ahead k),.int ((s.R x).getD 1 0),gA (s.la.get x::fu.map some)]) rfl rfl rfl A7 (mapA (cB rfl (xK (aX (aH (bY (nm:=wB) rfl A7 rfl rfl (pM κ h A6 xr.2)) rfl (mO (k:=1) A6)) rfl) (cB rfl rfl)))) ((ZS κ h b2 b3 (by rw[ek];~hn2) (by simp;omega)).trans (by rw[ek];rfl))) A9 ?_
 &mR rfl (aDw (p:=[L2.Step.fld (κ 1) "string"]) (ns:=s.od) rfl rfl (Ao w2 rfl) rfl xm) rfl ?_
 rw[hi,show fG [L2.Step.fld (κ 1) "string"] (kZ κ (s.o1 k x fu)) (aP (s.od.eraseIdx k.toNat))=.ins (κ 1) wB _ from Aq w2 rfl]
 &mR rfl (Va (p:=[L2.Step.fld (κ 1) "loose"]) (ds:=s.lo.map D.int) (d:=.int x) rfl rfl (Ao w3 rfl) (aX rfl rfl) (by rw[B6];have:=h.aIt;omega)) rfl ?_
 rw[Aq w3 rfl,vB]
 &mR rfl (zT (p:=[L2.Step.fld (κ 1) "goings"]) (k:=.inl x) (kd:=.int x) (d:=.int s.n) rfl rfl (Ao w6 rfl) rfl rfl rfl rfl (by rw[B6];~P1 (show s.go.k.length≤s.n from h.goo.2) A6)) rfl ?_
 rw[Aq w6 rfl,Oj]
 ~zU rfl ⟨_,.inl rfl,rfl⟩
B5 aFW{s:Wb}(h:mF s)(hm:s.n<124){k x:Int}{fu:List Int}(h0:0≤k)(h1:k<(s.od.length:Int))(hx:s.od[k.toNat]?=some x)(hn:∀m∈fu,0≤m∧m<(s.n:Int))(hf:fu.length≤5):Kr [nH s,.int k,aP fu]=some (.int s.n,nH (s.out k x fu)):=by
 &lJ rfl fun v=>?_
 B4 XD
 B3⟨b1,b2,b3⟩:=h.ahead h0 (O9 h1)
 have xm:x∈s.od:=E6 hx
 have xr:=h.Rp x xm
 have ho:=h.NB
 have h5:=h.five (x:=x) A6 xr.2
 have ek:xQ (s.la.get x::fu.map some)=(s.la.get x).toList++fu:=by rw[vX,vW]
 &cC (d:=.int x) (aX ((aH (aH rfl rfl (cD k1 rfl)) rfl (fJ h0 h1)).trans (by rw[qC hx])) rfl) A9 ?_
 &cC (d:=.int (s.ahead k)) (aX (aH (aH (iD (aA rfl rfl) A9) (aH rfl rfl (cD k1 rfl)) (aFM _ A6)) rfl (fJ h0 (by simp;omega))) rfl) A9 ?_
 &vD (d:=.int s.n) (env':=[.inn v (nH (s.o1 k x fu)),.fro (.int k),.fro (aP fu),.own (.int x),.own (.int (s.ahead k)),.no]) (wK (es:=[.int (s.ahead k),.int ((s.R x).getD 1 0),gA (s.la.get x::fu.map some)]) rfl (cB rfl (xK (aX (aH (aH (aH rfl rfl (cD k0 rfl)) rfl (Ff A6 xr.2)) rfl (mO (k:=1) (by show 1<(s.R x).length;omega))) rfl) (xK (aH (a:=gA [s.la.get x]) (b:=gA (fu.map some)) (iD (aA (aH (aH rfl rfl (cD k4 rfl)) rfl (vU h.lao.1 x)) rfl) A9) (by rw[←yR];rfl) (vV _ _ (by simp;omega))) rfl))) ((Qd h b2 b3 (by simp;omega)).trans (by rw[ek];rfl))) A9 ?_
 &mR rfl (zT (p:=[L2.Step.key (.inr "outs")]) (k:=.inl x) (kd:=.int x) (d:=.int s.n) rfl rfl (Jb k3 rfl) rfl rfl rfl rfl (by rw[B6];~P1 (show s.go.k.length≤s.n from h.goo.2) A6)) rfl ?_
 rw[show fG [L2.Step.key (.inr "outs")] (nH (s.o1 k x fu)) _=.dk bks _ from Jc k3 rfl,Oj]
 &mR rfl (aFV (p:=[L2.Step.key (.inr "order")]) (ns:=s.od) rfl rfl (Jb k1 rfl) rfl h0 A6 A6) rfl ?_
 rw[Jc k1 rfl]
 ~zU rfl ⟨_,.inl rfl,rfl⟩
B5 aDS(ns:List Int):Tr (dTup ns) (dTup ns)=some (.bl false):=by
 have e:=Uy ns
 B4 Tr
 rw[show toV (dTup ns)=none from rfl,e]
 dsimp only
 rw[if_pos (by rw[qP];decide),pO]
 rfl
B5 aBg{s:Wb}(h:mF s)(hm:s.n<124){k x way:Int}{fu:List Int}(h0:0≤k)(h1:k<(s.od.length:Int))(hx:s.od[k.toNat]?=some x)(hn:∀m∈fu,0≤m∧m<(s.n:Int))(hf:fu.length≤5):Ey κ [kZ κ s,.int x,aP fu,.int way]=some (.int s.n,kZ κ (s.out k x fu)):=by
 &lJ rfl fun v=>?_
 B4 BL
 &cC (d:=aP fu) (cT (aA rfl rfl) (qT (cY fu))) A9 ?_
 &Xc (zN (bR (aH rfl rfl (Ut fu []))) (bR (aH rfl rfl (mQ _ _)))) (fun e=>?_) fun _=>Bh ?_
 ·rw[G7,decide_eq_true_iff]at e
  B3⟨rfl,_⟩:=e
  have hg:=lU (env:=[.inn v (kZ κ s),.fro (.int x),.fro (aP []),.fro (.int way),.own (aP []),.no]) (i:=0) (π:=dD) (C:=κ 1) (m := "leave") (F:=nP κ) (fs:=fun eF eZ=>((qO (aD 1) iY) eF eZ).map (·++[.non])) (d0:=kZ κ s) (p:=[]) (nm:=wB) (es:=[.int x,.non]) rfl rfl rfl A7 rfl (ao κ h hm h0 h1 hx hn hf (.inl ⟨rfl,rfl⟩))
  ~aIu (aDA hg) ⟨_,.inl rfl,rfl⟩
 &vD (d:=.int s.n) (env':=[.inn v (kZ κ (s.out k x fu)),.fro (.int x),.fro (aP fu),.fro (.int way),.own (aP fu),.no]) (lU (p:=[]) (nm:=wB) (es:=[.int x,aP fu]) rfl rfl rfl A7 (mapA (cB rfl (cB rfl rfl))) (ao κ h hm h0 h1 hx hn hf (.inr rfl))) A9 ?_
 apply Az
 ·~bR (aH rfl rfl (WT fu fu))
 ·rw[decide_eq_true rfl];rfl
 apply Bh
 &aGD (ds:=fu.map D.int) (d:=.int 0) rfl rfl (by rw[B6];omega) ?_
 ~zU rfl ⟨_,.inl rfl,rfl⟩
B5 aFX{s:Wb}(h:mF s)(hm:s.n<124)(ho:0<s.od.length)(c:Int):∃s',mF s'∧s'.n=s.n+1∧s'.P=s.P∧Dh κ [kZ κ s,nH s,.int c]=some (.bl true,[kZ κ s',nH s']):=by
 have o64:=h.NB
 have x0:=F1 c (show (s.od.length:Int)≠0 by omega)
 have x1:=E9 c (show 0<(s.od.length:Int) by omega)
 generalize hk:c%(s.od.length:Int)=k at *
 B3⟨x,hx⟩:∃x,s.od[k.toNat]?=some x:=⟨_,B7 (show k.toNat<s.od.length by omega)⟩
 have xr:=h.Rp x (E6 hx)
 generalize hr:c/(s.od.length:Int)=r at *
 B3⟨ns,hf,nl,nm⟩:=aj (r/2) s.n h.ZM
 B3⟨b1,b2,b3⟩:=h.ahead x0 (O9 x1)
 have hk':=h.out hm x0 x1 hx nm A6
 have hn':=aGK s k x ns
 have hl':=zm s k x ns
 have hle:=aFW h hm x0 x1 hx nm A6
 have hlv:=aBg κ h hm (way:=r%2) x0 x1 hx nm A6
 have eP:(s.out k x ns).P=s.P:=rfl
 generalize s.out k x ns=s' at *
 &⟨s',hk',hn',eP,Ka rfl fun vs hv=>?_⟩
 match vs,hv with
 | [v0,v1,v2],_=>
  suffices hh:Qs (Xb [true,true,false] (.bl true) [kZ κ s',nH s'] [v0,v1,v2]) (Vm κ [.inn v0 (kZ κ s),.inn v1 (nH s),.fro (.int c),.no,.no,.no,.no,.no,.no,.no,.no])from hh
  B4 Vm
  &cC (d:=.int s.n) (cT (aA (aH rfl rfl (cD k5 rfl)) rfl) (qD _)) A9 ?_
  &cC (d:=.int k) ((aH rfl (cT (aA (aH rfl rfl (cD k1 rfl)) rfl) (jP _)) (bC A6)).trans (by rw[hk])) A9 ?_
  &cC (d:=.int r) ((aH rfl (cT (aA (aH rfl rfl (cD k1 rfl)) rfl) (jP _)) (dW A6 A6)).trans (by rw[hr])) A9 ?_
  &cC (d:=.int x) (aX ((aH (aH rfl rfl (cD k1 rfl)) rfl (fJ x0 x1)).trans (by rw[qC hx])) rfl) A9 ?_
  &cC (d:=.int (s.ahead k)) (aX (aH (aH (iD (aA rfl rfl) A9) (aH rfl rfl (cD k1 rfl)) (aFM _ A6)) rfl (fJ x0 (by simp;omega))) rfl) A9 ?_
  &cC (d:=aP ns) (bH (aA (aH rfl rfl (dW A8 A8)) (aA rfl rfl)) rfl hf) A9 ?_
  &vD (d:=.int s.n) (env':=[.inn v0 (kZ κ s),.inn v1 (nH s'),.fro (.int c),.own (.int s.n),.own (.int k),.own (.int r),.own (.int x),.own (.int (s.ahead k)),.own (aP ns),.no,.no]) (wK (es:=[.int k,aP ns]) rfl (cB rfl (cB rfl rfl)) hle) A9 ?_
  &vD (d:=.int s.n) (env':=[.inn v0 (kZ κ s'),.inn v1 (nH s'),.fro (.int c),.own (.int s.n),.own (.int k),.own (.int r),.own (.int x),.own (.int (s.ahead k)),.own (aP ns),.own (.int s.n),.no]) (wK (es:=[.int x,aP ns,.int (r%2)]) rfl (cB rfl (cB rfl (cB (aH rfl rfl (bC A8)) rfl))) hlv) A9 ?_
  apply Az (b:=!true||(!decide ((s.n:Int)=s.n)||!true))
  ·~Cr (lH (bR (bH (aA rfl rfl) rfl (yU _)))) (Cr (bR (aH rfl rfl (rP _ _))) (lH (bR (bH (aA rfl (aA rfl (aA rfl rfl))) rfl (Rr κ hk' A6)))))
  ·rw[decide_eq_true rfl];rfl
  apply Bh
  ~rT (Mz (Kf (bH (aA rfl (aA rfl (aA rfl rfl))) rfl (Ol κ hk' A6 (by rw[hl'];~xr.2))) (bH (aA rfl (aA rfl (aA rfl rfl))) rfl (Ol κ hk' b2 (by rw[hl'];~b3))))) ⟨_,.inl rfl,_,_,rfl,rfl,_,_,rfl,rfl,rfl⟩
B5 aDT{s:Wb}(h:mF s)(hm:s.n<123)(c:Int):∃s',mF s'∧s'.n≤s.n+2∧s'.P=s.P∧yL κ [kZ κ s,nH s,.int c]=some (.bl true,[kZ κ s',nH s']):=by
 have o64:=h.NB
 have hsl:(sortI s.lo).length=s.lo.length:=(iV s.lo).1.length_eq
 by_cases q1:c%3=0∧s.od≠[]
 ·have ho:0<s.od.length:=V5.mpr q1.2
  have x0:=F1 (c/3) (show (s.od.length:Int)≠0 by omega)
  have x1:=E9 (c/3) (show 0<(s.od.length:Int) by omega)
  B3⟨x,hx⟩:∃x,s.od[(c/3%(s.od.length:Int)).toNat]?=some x:=⟨_,B7 (show (c/3%(s.od.length:Int)).toNat<s.od.length by omega)⟩
  have xr:=h.Rp x (E6 hx)
  have h5:=h.five (x:=x) A6 xr.2
  have hre:=qg κ h (x:=x) (a:=-1) (b:=c%5) (c:=0) (ns:=[]) (nd:=.non) A6 xr.2 (fun m hm=>by cases hm) A8 (.inl ⟨rfl,rfl⟩)
  have hch:=Je h (x:=x) (r:=[(s.R x).getD 0 0,(s.R x).getD 1 0,-1,c%5,0]) (os:=[s.co.get x]) A6 xr.2 (T7 rfl)
  rw[show xQ [s.co.get x]=s.ns x []from vX _ _]at hch
  have hk':mF (s.wr x [(s.R x).getD 0 0,(s.R x).getD 1 0,-1,c%5,0] (s.ns x [])):=by
   &h.wr A6 xr.2 rfl (h.aFJ fun m hm=>by cases hm) ?_ A6 fun _=>rfl
   B4 Wb.ns
   rw[F3]
   have:=yS (s.co.get x)
   omega
  have hn':=aDr s x [(s.R x).getD 0 0,(s.R x).getD 1 0,-1,c%5,0] (s.ns x [])
  have eP:(s.wr x [(s.R x).getD 0 0,(s.R x).getD 1 0,-1,c%5,0] (s.ns x [])).P=s.P:=by
   show (s.b.put _ _ _ _).bT.length=_
   rfl
  generalize s.wr x [(s.R x).getD 0 0,(s.R x).getD 1 0,-1,c%5,0] (s.ns x [])=s' at *
  &⟨s',hk',by omega,eP,Ka rfl fun vs hv=>?_⟩
  match vs,hv with
  | [v0,v1,v2],_=>
   suffices hh:Qs (Xb [true,true,false] (.bl true) [kZ κ s',nH s'] [v0,v1,v2]) (rB κ [.inn v0 (kZ κ s),.inn v1 (nH s),.fro (.int c),.no,.no,.no,.no,.no,.no])from hh
   B4 rB
   &cC (d:=.int s.n) (cT (aA (aH rfl rfl (cD k5 rfl)) rfl) (qD _)) A9 ?_
   apply aCZ (b:=decide (c%3=0)&&!decide (s.od=[]))
   ·~zN (bR (aH (aH rfl rfl (bC A8)) rfl (mQ _ _))) (bR (aH (aH rfl rfl (cD k1 rfl)) rfl (Fi _)))
   ·rw[decide_eq_true q1.1,decide_eq_false q1.2];rfl
   rw[rH]
   &cC (d:=.int x) (aX ((aH (aH rfl rfl (cD k1 rfl)) (aH (aH rfl rfl (dW A8 A8)) (cT (aA (aH rfl rfl (cD k1 rfl)) rfl) (jP _)) (bC A6)) (fJ x0 x1)).trans (by rw[qC hx])) rfl) A9 ?_
   rw[rH]
   &cC (d:=dTup (s.R x)) (aX (aH (aH rfl rfl (cD k0 rfl)) rfl (Ff A6 xr.2)) (iR _)) A9 ?_
   rw[rH]
   &JR (d:=.int s.n) (env':=[.inn v0 (kZ κ s),.inn v1 (nH s'),.fro (.int c),.own (.int s.n),.own (.int x),.own (dTup (s.R x)),.no,.no,.no]) (wK (es:=[.int x,dTup [(s.R x).getD 0 0,(s.R x).getD 1 0,-1,c%5,0],gA [s.co.get x]]) rfl (cB rfl (cB (iC (aA (aX (aH rfl rfl (mO (k:=0) A6)) rfl) (aA (aX (aH rfl rfl (mO (k:=1) A6)) rfl) (aA (rR rfl) (aA (aH rfl rfl (bC A8)) (aA rfl rfl))))) A9) (xK (iD (aA (aH (aH rfl rfl (cD k2 rfl)) rfl (vU h.coo.1 x)) rfl) A9) rfl))) hch) ?_
   &JR (d:=.int s.n) (env':=[.inn v0 (kZ κ s'),.inn v1 (nH s'),.fro (.int c),.own (.int s.n),.own (.int x),.own (dTup (s.R x)),.no,.no,.no]) (lU (p:=[]) (nm:=wB) (es:=[.int x,.int (-1),.int (c%5),.int 0,.non]) rfl rfl rfl A7 (by
    rw[cB (d:=.int x) rfl (cB (d:=.int (-1)) (rR rfl) (cB (d:=.int (c%5)) (aH rfl rfl (bC A8)) (cB (d:=.int 0) rfl rfl)))]
    rfl) hre) ?_
   ~rT (Mz (bH (aA rfl (aA rfl (aA rfl rfl))) rfl (Rr κ hk' A6))) ⟨_,.inl rfl,_,_,rfl,rfl,_,_,rfl,rfl,rfl⟩
 have hb:(decide (c%3=0)&&!decide (s.od=[]))=false:=by
  by_cases e:c%3=0
  ·by_cases e2:s.od=[]
   ·rw[decide_eq_true e2,decide_eq_true e];rfl
   ·~absurd ⟨e,e2⟩ q1
  ·rw[decide_eq_false e];rfl
 by_cases q2:sortI s.lo=[]
 ·&⟨s,h,by omega,rfl,Ka rfl fun vs hv=>?_⟩
  match vs,hv with
  | [v0,v1,v2],_=>
   suffices hh:Qs (Xb [true,true,false] (.bl true) [kZ κ s,nH s] [v0,v1,v2]) (rB κ [.inn v0 (kZ κ s),.inn v1 (nH s),.fro (.int c),.no,.no,.no,.no,.no,.no])from hh
   B4 rB
   &cC (d:=.int s.n) (cT (aA (aH rfl rfl (cD k5 rfl)) rfl) (qD _)) A9 ?_
   apply Az (b:=decide (c%3=0)&&!decide (s.od=[]))
   ·~zN (bR (aH (aH rfl rfl (bC A8)) rfl (mQ _ _))) (bR (aH (aH rfl rfl (cD k1 rfl)) rfl (Fi _)))
   ·~hb
   apply Az (b:=!decide (sortI s.lo=[]))
   ·~bR (aH (bH (aA rfl rfl) rfl (Rq h)) rfl (Fi _))
   ·rw[decide_eq_true q2];rfl
   apply Bh
   ~rT (Mz (bH (aA rfl (aA rfl (aA rfl rfl))) rfl (Rr κ h (C5 _)))) ⟨_,.inl rfl,_,_,rfl,rfl,_,_,rfl,rfl,rfl⟩
 have hlo:0<s.lo.length:=by rw[←hsl];~V5.mpr q2
 have a0:=F1 c (show ((s.od.length:Int)+1)≠0 by omega)
 have a1:=E9 c (show 0<((s.od.length:Int)+1) by omega)
 B3⟨key,k,hk,g0,g1,fit⟩:=aDy h (at_:=c%((s.od.length:Int)+1)) (c:=c/5) a0 A6
 have nil:∀m∈([]:List Int),0≤m∧m<(s.n:Int):=fun m hm=>by cases hm
 have hk':=h.ent hlo hm (was:=-1) (now:=c%7) (lK:=0) g0 g1 nil A8 fit
 have hn':=aGI s k key (-1) (c%7) 0 []
 have hbk:=qm h hlo hm (key:=key) (was:=-1) (now:=c%7) (lK:=0) g0 g1 nil A8
 have hen:=aDx κ h hlo hm (was:=-1) (now:=c%7) (lK:=0) g0 g1 nil A8 fit (.inl ⟨rfl,rfl⟩)
 have eP:(s.ent k key (-1) (c%7) 0 []).P=s.P:=rfl
 generalize s.ent k key (-1) (c%7) 0 []=s' at *
 &⟨s',hk',by omega,eP,Ka rfl fun vs hv=>?_⟩
 match vs,hv with
 | [v0,v1,v2],_=>
  suffices hh:Qs (Xb [true,true,false] (.bl true) [kZ κ s',nH s'] [v0,v1,v2]) (rB κ [.inn v0 (kZ κ s),.inn v1 (nH s),.fro (.int c),.no,.no,.no,.no,.no,.no])from hh
  B4 rB
  &cC (d:=.int s.n) (cT (aA (aH rfl rfl (cD k5 rfl)) rfl) (qD _)) A9 ?_
  apply Az (b:=decide (c%3=0)&&!decide (s.od=[]))
  ·~zN (bR (aH (aH rfl rfl (bC A8)) rfl (mQ _ _))) (bR (aH (aH rfl rfl (cD k1 rfl)) rfl (Fi _)))
  ·~hb
  apply aCZ (b:=!decide (sortI s.lo=[]))
  ·~bR (aH (bH (aA rfl rfl) rfl (Rq h)) rfl (Fi _))
  ·rw[decide_eq_false q2];rfl
  rw[rH]
  &aGE (ds:=[.int key,.int k]) (bH (aA rfl (aA (aH rfl (aH (cT (aA (aH rfl rfl (cD k1 rfl)) rfl) (jP _)) rfl (cP _ _)) (bC A6)) (aA (aH rfl rfl (dW A8 A8)) rfl))) rfl hk) rfl rfl ?_
  rw[rH]
  &vD (d:=dTup [s.new,(s.n+1:Nat)]) (env':=[.inn v0 (kZ κ s),.inn v1 (nH s'),.fro (.int c),.own (.int s.n),.no,.no,.own (.int key),.own (.int k),.no]) (wK (es:=[.int k,dTup [key,-1,c%7,0],aP []]) rfl (cB rfl (cB (iC (aA (aX rfl rfl) (aA (rR rfl) (aA (aH rfl rfl (bC A8)) (aA rfl rfl)))) A9) (cB rfl rfl))) hbk) A9 ?_
  have hg:=lU (env:=[.inn v0 (kZ κ s),.inn v1 (nH s'),.fro (.int c),.own (.int s.n),.no,.no,.own (.int key),.own (.int k),.own (dTup [s.new,(s.n+1:Nat)])]) (i:=0) (π:=dD) (C:=κ 1) (m := "enter") (F:=qK κ) (fs:=fun eF eZ=>((qO (aD 6) (qO (Cd (fC (.int 1))) (qO (f2 gM (aD 2) (fC (.int 7))) (qO (fC (.int 0)) iY)))) eF eZ).map (·++[.non])) (d0:=kZ κ s) (p:=[]) (nm:=wB) (es:=[.int key,.int (-1),.int (c%7),.int 0,.non]) rfl rfl rfl A7 (by
    rw[cB (d:=.int key) rfl (cB (d:=.int (-1)) (rR rfl) (cB (d:=.int (c%7)) (aH rfl rfl (bC A8)) (cB (d:=.int 0) rfl rfl)))]
    rfl) hen
  &aAW (env':=[.inn v0 (kZ κ s'),.inn v1 (nH s'),.fro (.int c),.own (.int s.n),.no,.no,.own (.int key),.own (.int k),.own (dTup [s.new,(s.n+1:Nat)])]) ((aDz (qp (b:=false) (aFQ hg (d2:=dTup [s.new,(s.n+1:Nat)]) rfl (aDS _) rfl))).trans rfl) ?_
  ~rT (Mz (bH (aA rfl (aA rfl (aA rfl rfl))) rfl (Rr κ hk' A6))) ⟨_,.inl rfl,_,_,rfl,rfl,_,_,rfl,rfl,rfl⟩
B5 aDU(ns:List Int)(hl:ns.length≤63)(hs:∀k∈ns,Small k):aIg κ [.lst (ns.map D.int)]=some (.bl true):=by
 suffices hh:∃d,aIg κ [.lst (ns.map D.int)]=some d∧d=.bl true by
  B3⟨d,e,rfl⟩:=hh
  ~e
 &oE rfl ?_
 B4 aJU
 B3⟨P,R,rs,bF,od,hb,B⟩:=aDO (ns:=ns)
 have hlm:=zA P R rs bF
 have h8:=B.p8
 have hln:kO [bM (bJ P R rs bF)]=some (.int P):=(Oh _).trans (by rw[hlm])
 generalize hst:bM (bJ P R rs bF)=st at *
 &cC (d:=st) (bH (aA rfl rfl) rfl hb) A9 ?_
 have hcp:∀env:EN,aD 1 (rE env)=some (bM (bJ P R rs bF))→gU (mW (aD 1)) [] lG (fL dList (aB (aD 0) aM)) (rE env)=some (bM (bJ P R rs bF)):=fun env h=>aBf (jF h) (by rw[hlm];omega)
 &cC (d:=kZ κ (Wb.first P R rs bF od)) (WW (aA (hcp _ (by rw[hst];rfl)) rfl) (aDP κ B)) A9 ?_
 &cC (d:=nH (Wb.first P R rs bF od)) (bH (aA rfl rfl) rfl (by rw[←hst];~aFU B)) A9 ?_
 B3⟨cells,hcells,c1⟩:∃cells:List Int,gU (mW (fSl false (aD 0) (tK (fC (.int 3))) (tK (fC (.int 63))))) [] lG (cN 1 nC (aB (aD 0) aM)) (zE [.fro (aP ns),.own st,.own (kZ κ (Wb.first P R rs bF od)),.own (nH (Wb.first P R rs bF od)),.no,.no])=some (aP cells)∧cells.length≤60:=by
  have hsp:∀c:Int,∃s:Int,0≤s∧nC [.int c]=some (.int s):=aBe
  &⟨((ns.drop 3).take 60).map fun c=>(hsp c).choose,?_,by rw[B6,J4];omega⟩
  have:=zQ (fi:=mW (fSl false (aD 0) (tK (fC (.int 3))) (tK (fC (.int 63))))) (fr:=[]) (fc:=lG) (fe:=cN 1 nC (aB (aD 0) aM)) (e:=zE [.fro (aP ns),.own st,.own (kZ κ (Wb.first P R rs bF od)),.own (nH (Wb.first P R rs bF od)),.no,.no]) (ms:=(ns.drop 3).take 60) (fun _=>true) (fun c=>(hsp c).choose) (jF ((WQ rfl (My rfl) (My rfl)).trans (by rw[show (3:Int)=((3:Nat):Int)from rfl,show (63:Int)=((63:Nat):Int)from rfl,aC5]))) (by rw[J4];omega) (fun m hm=>rfl) fun m hm _=>bH (aA rfl rfl) rfl (hsp m).choose_spec.2
  rw[M6.mpr fun _ _=>rfl]at this
  ~this
 have h1:=B.p1
 &yh (xs:=cells.map D.int) (fun n env=>∃(s:Wb)(v4:SD),env=[.fro (aP ns),.own st,.own (kZ κ s),.own (nH s),v4,.no]∧mF s∧s.n≤2*n∧s.P=P) rfl (jF hcells) ⟨_,_,rfl,B.ok,C5 _,hlm⟩ ?_ ?_
 ·rintro n x env hx ⟨s,v4,rfl,h,hn,hP⟩
  &⟨by walk_at "lt", ?_⟩
  rw[B9]at hx
  B3⟨c,hc,rfl⟩:=lY hx
  have hnc:=(D2.mp hc).1
  have hrp:=h.pos
  have hrf:=h.few
  apply yg (b:=decide (c%8=7))
  ·~bR (aH (aH rfl rfl (bC A8)) rfl (mQ _ _))
  ·intro _
   have p0:=F1 (c/8) (show (P:Int)≠0 by omega)
   have p1:=E9 (c/8) (show 0<(P:Int) by omega)
   B3⟨r,hR,hcv⟩:=aDj κ h.bn (p:=c/8%(P:Int)) (most:=.non) p0 (by rw[show s.b.bT.length=P from hP];~p1) (.inl rfl)
   have hcv:=hcv r (fun _=>rfl) fun m z=>by cases z
   B3⟨h',e1,e2,e3⟩:=h.cv (r:=r) (hR.1.imp fun q=>Int.ne_of_lt q) (fun x hx=>⟨((hR.2.2 x).mp hx).1.1,((hR.2.2 x).mp hx).1.2.1⟩) fun x hx=>((hR.2.2 x).mp hx).1.2.2.2
   have ew:D.ins (κ 1) wB [dR (κ 0) (s.b.cW r),qe s.P s.rs.length,aP s.od,aP s.lo,Qv s.la,Qv s.co,Qv s.go]=kZ κ (s.cv r):=by
    B4 kZ
    rw[e3]
    rfl
   &JR (d:=aP r) (env':=[.fro (aP ns),.own st,.own (kZ κ (s.cv r)),.own (nH s),.fro (.int c),.no]) ((lU (p:=[L2.Step.fld (κ 1) "bench"]) (nm:=Xq) (es:=[.int (c/8%(P:Int)),.non]) rfl rfl (Ao w0 rfl) A7 (by
    rw[cB (d:=.int (c/8%(P:Int))) (aH (aH rfl rfl (dW A8 A8)) (cT (aA rfl rfl) hln) (bC A6)) rfl]
    rfl) hcv).trans (by
    rw[Aq w0 rfl,←ew]
    rfl)) ?_
   rw[←e1]
   have m0:=F1 (c/64) (show (s.rs.length:Int)≠0 by omega)
   have m1:=E9 (c/64) (show 0<(s.rs.length:Int) by omega)
   apply aC0 (b:=!true)
   ·~lH (bR (bH (aA rfl (aA rfl (aA (aH (aH rfl rfl (dW A8 A8)) (cT (aA (aH rfl rfl (cD k0 rfl)) rfl) (ZQ _)) (bC (show 0<(s.rs.length:Int) by omega))) rfl))) rfl (Ol κ h' m0 m1)))
   ·rfl
   ·~⟨_,rfl,_,_,rfl,h',by omega,e3.trans hP⟩
  ·intro _
   apply yg (b:=decide (c%2=0)&&!decide (s.od=[]))
   ·~zN (bR (aH (aH rfl rfl (bC A8)) rfl (mQ _ _))) (bR (aH (aH rfl rfl (cD k1 rfl)) rfl (Fi _)))
   ·intro e
    rw[G7]at e
    have q2:s.od≠[]:=fun z=>by rw[decide_eq_true z]at e;cases e.2
    B3⟨s',h',hn',hP',hstep⟩:=aFX κ h A6 (V5.mpr q2) (c/2)
    have hg:Um (.ch 2::.ch 3::.rd (f2 pQ (aD 4) (fC (.int 2)))::[]) (Dh κ) [.fro (aP ns),.own st,.own (kZ κ s),.own (nH s),.fro (.int c),.no]=some (.bl true,[.fro (aP ns),.own st,.own (kZ κ s'),.own (nH s'),.fro (.int c),.no]):=(ZW (ds':=[kZ κ s',nH s']) (Ql:=[kZ κ s,nH s]) (OJ:=[.int (c/2)]) rfl (zf (zf (aGJ (aH rfl rfl (dW A8 A8)) rfl))) hstep).trans rfl
    ~aDQ (env':=[.fro (aP ns),.own st,.own (kZ κ s'),.own (nH s'),.fro (.int c),.no]) (ZV (b:=true) (qp hg)) ⟨_,rfl,s',_,rfl,h',by omega,hP'.trans hP⟩
   ·intro _
    B3⟨s',h',hn',hP',hstep⟩:=aDT κ h A6 (c/2)
    have hg:Um (.ch 2::.ch 3::.rd (f2 pQ (aD 4) (fC (.int 2)))::[]) (yL κ) [.fro (aP ns),.own st,.own (kZ κ s),.own (nH s),.fro (.int c),.no]=some (.bl true,[.fro (aP ns),.own st,.own (kZ κ s'),.own (nH s'),.fro (.int c),.no]):=(ZW (ds':=[kZ κ s',nH s']) (Ql:=[kZ κ s,nH s]) (OJ:=[.int (c/2)]) rfl (zf (zf (aGJ (aH rfl rfl (dW A8 A8)) rfl))) hstep).trans rfl
    ~aDQ (env':=[.fro (aP ns),.own st,.own (kZ κ s'),.own (nH s'),.fro (.int c),.no]) (ZV (b:=true) (qp hg)) ⟨_,rfl,s',_,rfl,h',by omega,hP'.trans hP⟩
 ·rintro env ⟨s,v4,rfl,h,hn,hP⟩
  &cC (d:=sU s.b.asked) (bY (nm:=Xq) (dJ rfl (oG w0 rfl)) A7 rfl rfl (ZJ κ)) A9 ?_
  have e1:f2 Ft (fL kO (aB (aD 5) aM)) (fL kO (aB (f2 jD (aD 3) (fC (.str "due"))) aM)) (rE [.fro (aP ns),.own st,.own (kZ κ s),.own (nH s),v4,.own (sU s.b.asked)])=some (.bl (decide ((s.b.asked.length:Int)=s.b.asked.length))):=aH (cT (aA rfl rfl) (qD _)) (cT (aA (aH rfl rfl (cD k5 rfl)) rfl) (qD _)) (mQ _ _)
  rw[decide_eq_true rfl]at e1
  ~pZ (Kf e1 (aH rfl (aH rfl rfl (cD k5 rfl)) (aFR _))) ⟨_,rfl,rfl⟩
end Rs

def PySem.W.Fast.tw2581202813058446944:Unit:=()
def PySem.W.Fast.tw155724256080422786:Unit:=()
def PySem.W.Fast.tw10939083828066811878:Unit:=()
def PySem.W.Fast.tw17824314715039036462:Unit:=()
def PySem.W.Fast.tw5345305512645267495:Unit:=()
def PySem.W.Fast.tw4528566513829787165:Unit:=()
def PySem.W.Fast.tw12977572827611298972:Unit:=()
def PySem.W.Fast.tw15142651292163577059:Unit:=()
def PySem.W.Fast.tw1671746069912744525:Unit:=()
def PySem.W.Fast.tw1425445859220008386:Unit:=()
def PySem.W.Fast.tw16546115008250572722:Unit:=()
def PySem.W.Fast.tw2077173454871877814:Unit:=()
def PySem.W.Fast.tw7946579656837984560:Unit:=()
def PySem.W.Fast.tw18141562411544209157:Unit:=()
def PySem.W.Fast.tw14030856410585847435:Unit:=()
def PySem.W.Fast.tw13577278331832407325:Unit:=()
def PySem.W.Fast.tw7282774749566131871:Unit:=()
def PySem.W.Fast.tw4665843885734811362:Unit:=()
def PySem.W.Fast.tw6148484599713745330:Unit:=()
def PySem.W.Fast.tw6665579821554791687:Unit:=()
def PySem.W.Fast.tw2897688308618183461:Unit:=()
def PySem.W.Fast.tw5388410173639149103:Unit:=()
def PySem.W.Fast.tw16031113619360764244:Unit:=()
def PySem.W.Fast.tw8405369458683836274:Unit:=()
def PySem.W.Fast.tw12705602569511234549:Unit:=()
def PySem.W.Fast.tw8825446470798588870:Unit:=()
def PySem.W.Fast.tw9522388657725731188:Unit:=()
namespace Rs
open PySem L2
B5 NQ{K:aJ}{f:Addr}{oc:Value}{od:Option Addr}{fd:FuncData}{sl:Array (Option Value)}(l:K.lookup f=some ⟨oc,od,.func fd,sl⟩):K2 K (.ref f)=true:=by
 B4 K2
 dsimp only
 rw[l]
B5 NT{K:aJ}{f:Addr}{od:Option Addr}{fd:FuncData}{sl:Array (Option Value)}(l:K.lookup f=some ⟨.type "function", od,.func fd,sl⟩):O7 K (.ref f)=true:=by
 B4 O7 l5
 dsimp only
 rw[l]
 show (some (Value.type "function")==some (Value.type "function"))=true
 decide +kernel
B5 aLh{K:aJ}{h:Heap}{mg:Str→Option Value}{x:Str}{st:Stmt}{f:Addr}{oc:Value}{od an:Option Addr}{osl:Array (Option Value)}{kV doc pm cdv ct:Value}(X:K.In h)(G:h.Ns mainGlobals mg)(a:R3 K mainGlobals x=some (some (.ref f)))(l:K.lookup f=some ⟨oc,od,.func (F8 x x (gD st) (cR st) (aK st) .none kV doc pm an cdv ct),osl⟩)(c:K3 K cdv x=true):Raw K mg x st:=aHv X G a l c (NQ l)
B5 rM{K:aJ}{C f:Addr}{nm q:Str}{st:Stmt}{kV dc pm cd ct:Value}{od an:Option Addr}{sl:Array (Option Value)}(a:G2 K (.ref C) nm=some (some (.ref f)))(l:K.lookup f=some ⟨.type "function", od,.func (F8 nm q (gD st) (cR st) (aK st) .none kV dc pm an cd ct),sl⟩) (c:K3 K cd q=true):gZ K C nm q st false:=aFk a (NT l) l c (NQ l)
B5 rD{K:aJ}{C f T:Addr}{nm q:Str}{st:Stmt}{kV dc pm cd ct ot:Value}{od an dt:Option Addr}{sl s2:Array (Option Value)}{nt:Nat}(a:G2 K (.ref C) nm=some (some (.ref f)))(l:K.lookup f=some ⟨.type "function", od,.func (F8 nm q (gD st) (cR st) (aK st) (.ref T) kV dc pm an cd ct),sl⟩) (c:K3 K cd q=true) (t:K.lookup T=some ⟨ot,dt,.seq #[.none] nt,s2⟩):gZ K C nm q st true:=aCD a (NT l) l c (NQ l) t
B5 rI{K:aJ}{h:Heap}{mg:Str→Option Value}(X:K.In h)(G:h.Ns mainGlobals mg){C f:Addr}{cn q:Str}{st:Stmt}{kV dc pm cd ct:Value}{od an:Option Addr}{sl:Array (Option Value)}(x:R3 K mainGlobals cn=some (some (.ref C)))(a:G2 K (.ref C) "__init__" = some (some (.ref f))) (l:K.lookup f=some ⟨.type "function", od,.func (F8 "__init__" q (gD st) (cR st) (aK st) .none kV dc pm an cd ct),sl⟩) (c:K3 K cd q=true) (m:U1 K C=true) (k:K2 K (.ref C)=true):UJ K mg cn C q st:=aFl X G x a (NT l) l c m k
B5 cX{K:aJ}{h:Heap}{C:Addr}{P:Addr→Prop}{cn:Str}(X:K.In h)(a:R3 K mainGlobals cn=some (some (.ref C)))(p:P C):∃C,P C:=⟨C,p⟩
B5 cF{K:aJ}{C:Addr}{fn:List Str}(a:Q4 K C Str.empty=true)(b:R9 K C=true)(c:W7 K C=true)(d:G2 K (.ref C) "__setattr__" = some (some (.builtin "object.__setattr__"))) (e:∀x∈fn,G2 K (.ref C) x=some none):jE K C fn:=⟨⟨a,b,c,d⟩,e⟩
B5 walk{l:k9}{q:Program}{loose:List Str}{XP:(Str→Option Value)→Heap→Prop}{YP:World→Heap→Prop}{d:DefRec}{K:Params→aJ}(hn:l.most=some 63)(hdf:d.params.defaults=[])(hdn:d.name = "law")
  (hY:∀(w:World)(h:Heap),YP w h→(K w.params).In h)
  (F:∀(w:World)(mg:Str→Option Value)(h:Heap),(K w.params).In h→h.Ns mainGlobals mg→(∃C:Addr,jE (K w.params) C jH∧UJ (K w.params) mg "Bench" C "Bench.__init__" vG∧gZ (K w.params) C "changes" "Bench.changes" xM false∧gZ (K w.params) C "check_pane" "Bench.check_pane" tO false∧gZ (K w.params) C "strike" "Bench.strike" zX false∧gZ (K w.params) C "carve" "Bench.carve" wO true∧gZ (K w.params) C "check_place" "Bench.check_place" qZ false∧gZ (K w.params) C "seen" "Bench.seen" Ih false∧gZ (K w.params) C "check_change" "Bench.check_change" qG false∧gZ (K w.params) C "put" "Bench.put" Nj true∧gZ (K w.params) C "change" "Bench.change" Ac false)∧(∃C:Addr,jE (K w.params) C dX∧UJ (K w.params) mg "Weaver" C "Weaver.__init__" wM∧gZ (K w.params) C "coming_in" "Weaver.coming_in" tQ false∧gZ (K w.params) C "going_out" "Weaver.going_out" tR false∧gZ (K w.params) C "last_change" "Weaver.last_change" qF false∧gZ (K w.params) C "record_of" "Weaver.record_of" tU false∧gZ (K w.params) C "box_ahead" "Weaver.box_ahead" tV false∧gZ (K w.params) C "write" "Weaver.write" zY false∧gZ (K w.params) C "write_tied" "Weaver.write_tied" rA false∧gZ (K w.params) C "link" "Weaver.link" Df false∧gZ (K w.params) C "further_needs" "Weaver.further_needs" oF false∧gZ (K w.params) C "leave" "Weaver.leave" zZ true∧gZ (K w.params) C "order" "Weaver.order" Ab false∧gZ (K w.params) C "free" "Weaver.free" Dg false∧gZ (K w.params) C "rewrite" "Weaver.rewrite" vM true∧gZ (K w.params) C "enter" "Weaver.enter" uH true)∧Raw (K w.params) mg "_law_cell" Vb∧Raw (K w.params) mg "_law_sizes" Nb∧Raw (K w.params) mg "_law_mixed" Nf∧Raw (K w.params) mg "_law_record" Hz∧Raw (K w.params) mg "_law_built" yH∧Raw (K w.params) mg "thing_at" Ve∧Raw (K w.params) mg "spot_of" JT∧Raw (K w.params) mg "record_at" Ng∧Raw (K w.params) mg "string_of" Nh∧Raw (K w.params) mg "many_boxes" Ib∧Raw (K w.params) mg "loose_boxes" wL∧Raw (K w.params) mg "_law_book" Km∧Raw (K w.params) mg "_law_spread" Ig∧Raw (K w.params) mg "ripe_among" zW∧Raw (K w.params) mg "_law_whole" Ni∧Raw (K w.params) mg "_law_known" Ew∧Raw (K w.params) mg "_law_further" Dd∧Raw (K w.params) mg "_law_changed" wR∧Raw (K w.params) mg "_law_pointed" De∧Raw (K w.params) mg "_law_left" Vi∧Raw (K w.params) mg "known" JV∧Raw (K w.params) mg "_law_leave" Nk∧Raw (K w.params) mg "_law_change" Aa∧Raw (K w.params) mg "_law_numbers" wV∧Raw (K w.params) mg "_law_free" Kv∧Raw (K w.params) mg "_law_same" Vk∧Raw (K w.params) mg "_law_step" Vl∧Raw (K w.params) mg "_law_key" Ro∧Raw (K w.params) mg "_law_entered" Dj∧Raw (K w.params) mg "_law_other" Nm∧Raw (K w.params) mg "law" aC8∧mg "len" = none∧mg "abs" = none∧mg "list" = none∧mg "range" = none∧mg "all" = none∧mg "max" = none∧mg "isinstance" = none∧mg "bool" = none∧mg "int" = none∧mg "sorted" = none∧mg "set" = none∧mg "tuple" = none∧mg "min" = none∧jL mg "HEAD" (0)∧jL mg "NEXT" (1)∧jL mg "NEEDS" (3)∧jL mg "PANE" (0)∧jL mg "PLACE" (1)∧jL mg "THING" (2)∧jL mg "KEY" (0)∧jL mg "WAS" (2)∧jL mg "NOW" (3)∧jL mg "AGE" (4)) :
  n9 q loose XP YP l.row.toRowW d [] (fun f vs=>k8 f vs):=by
 &L2.aAH (n:=63) (k:=10) (x := "script") (CX:=fun _=>FZ) (sp:=fun w=>spB (K w.params)) hn A8 hdf ⟨rfl,by decide,by decide⟩ hY ?_ (fun _ _ a ns hl hb _ hS=>⟨a,ns,rfl,hS,hl,hb,fun _=>rfl⟩) fun _ _ _ _ _ z=>z
 intro w mg fa h KX G hmg
 B3⟨⟨C0,bD,RBenchInit,RBenchChanges,RBenchCheckPane,RBenchStrike,RBenchCarve,RBenchCheckPlace,RBenchSeen,RBenchCheckChange,RBenchPut,RBenchChange⟩,⟨C1,aQ,RWeaverInit,RWeaverComingIn,RWeaverGoingOut,RWeaverLastChange,RWeaverRecordOf,RWeaverBoxAhead,RWeaverWrite,RWeaverWriteTied,RWeaverLink,RWeaverFurtherNeeds,RWeaverLeave,RWeaverOrder,RWeaverFree,RWeaverRewrite,RWeaverEnter⟩,RLawCell,RLawSizes,RLawMixed,RLawRecord,RLawBuilt,RThingAt,RSpotOf,RRecordAt,RStringOf,RManyBoxes,RLooseBoxes,RLawBook,RLawSpread,RRipeAmong,RLawWhole,RLawKnown,RLawFurther,RLawChanged,RLawPointed,RLawLeft,RKnown,RLawLeave,RLawChange,RLawNumbers,RLawFree,RLawSame,RLawStep,RLawKey,RLawEntered,RLawOther,RLaw,dZ,aIh,iT,iH,Qu,aIi,fZ,aDb,aIj,uJ,aA3,vN,aIn,Gn,yM,lu,aDa,lz,Nr,KR,aIk,aIl,aIm⟩:=F w mg h KX G
 B3⟨κ,e0,e1⟩:∃κ:Nat→Addr,κ 0=C0∧κ 1=C1:=⟨(fun n=>match n with | 0=>C0 | _=>C1),rfl,rfl⟩
 subst e0 e1
 B3⟨f,fd,FL,m⟩:=RLaw.ex
 rw[hdn]at hmg
 have e:=hmg.symm.trans m
 cases e
 &⟨fd,je FL (fun _ _ _ _ _ _ u=>rfl),fun base _ _=>?_⟩
 have sZ:=km (P:=l.prog) (w:=w) (mg:=mg) (base:=base) RLawCell dZ
 have Np:=XX (P:=l.prog) (w:=w) (mg:=mg) (base:=base) RLawSizes sZ
 have nQ:=YC (P:=l.prog) (w:=w) (mg:=mg) (base:=base) RLawMixed
 have Ad:=JZ (P:=l.prog) (w:=w) (mg:=mg) (base:=base) RLawRecord nQ aIh
 have Ob:=YD (P:=l.prog) (w:=w) (mg:=mg) (base:=base) RLawBuilt Np sZ nQ Ad iT iH dZ
 have Ii:=KC (P:=l.prog) (w:=w) (mg:=mg) (base:=base) RBenchInit bD iT
 have Vp:=lg (P:=l.prog) (w:=w) (mg:=mg) (base:=base) RThingAt
 have Ez:=aA2 (P:=l.prog) (w:=w) (mg:=mg) (base:=base) RSpotOf dZ
 have Fb:=YG (P:=l.prog) (w:=w) (mg:=mg) (base:=base) RRecordAt Ez Vp
 have uN:=YH (P:=l.prog) (w:=w) (mg:=mg) (base:=base) RStringOf Fb iT Gn yM
 have rC:=KD (P:=l.prog) (w:=w) (mg:=mg) (base:=base) RManyBoxes dZ
 have Dk:=Xe (P:=l.prog) (w:=w) (mg:=mg) (base:=base) RLooseBoxes uN rC iH Gn
 have Dp:=Xf (P:=l.prog) (w:=w) (mg:=mg) (base:=base) RWeaverInit bD aQ Ii rC Ez uN Dk iH
 have Vz:=lr (P:=l.prog) (w:=w) (mg:=mg) (base:=base) RLawBook dZ iH
 have xO:=Qt (P:=l.prog) (w:=w) (mg:=mg) (base:=base) RBenchChanges bD iT
 have Iv:=KJ (P:=l.prog) (w:=w) (mg:=mg) (base:=base) RLawSpread
 have jV:=Lb (P:=l.prog) (w:=w) (mg:=mg) (base:=base) RBenchCheckPane bD dZ
 have Ij:=KN (P:=l.prog) (w:=w) (mg:=mg) (base:=base) RRipeAmong Qu iT lu
 have Af:=Vr (P:=l.prog) (w:=w) (mg:=mg) (base:=base) RBenchStrike bD aDa lz Nr
 have Dq:=Xg (P:=l.prog) (w:=w) (mg:=mg) (base:=base) RBenchCarve bD jV Ij Af aIi
 have jW:=Ld (P:=l.prog) (w:=w) (mg:=mg) (base:=base) RWeaverComingIn aQ
 have jX:=Le (P:=l.prog) (w:=w) (mg:=mg) (base:=base) RWeaverGoingOut aQ
 have iK:=Fy (P:=l.prog) (w:=w) (mg:=mg) (base:=base) RWeaverLastChange aQ
 have jB:=Il (P:=l.prog) (w:=w) (mg:=mg) (base:=base) RBenchCheckPlace bD jV dZ
 have Im:=KQ (P:=l.prog) (w:=w) (mg:=mg) (base:=base) RBenchSeen bD jB Nr
 have bL:=Lg (P:=l.prog) (w:=w) (mg:=mg) (base:=base) RWeaverRecordOf aQ bD Im
 have iM:=YL (P:=l.prog) (w:=w) (mg:=mg) (base:=base) RLawWhole fZ aDb aIj
 have rF:=YM (P:=l.prog) (w:=w) (mg:=mg) (base:=base) RLawKnown aQ jW jX iK iM bL Qu
 have Dm:=Xh (P:=l.prog) (w:=w) (mg:=mg) (base:=base) RLawFurther iH
 have kY:=Xi (P:=l.prog) (w:=w) (mg:=mg) (base:=base) RLawChanged dZ uJ aA3 vN
 have pK:=Xj (P:=l.prog) (w:=w) (mg:=mg) (base:=base) RLawPointed kY
 have Vx:=mq (P:=l.prog) (w:=w) (mg:=mg) (base:=base) RLawLeft pK
 have jY:=Li (P:=l.prog) (w:=w) (mg:=mg) (base:=base) RWeaverBoxAhead aQ Gn
 have dB:=Fz (P:=l.prog) (w:=w) (mg:=mg) (base:=base) RBenchCheckChange bD dZ
 have Nx:=YQ (P:=l.prog) (w:=w) (mg:=mg) (base:=base) RBenchPut bD jB dB iT dZ uJ aA3 vN
 have my:=aDc (P:=l.prog) (w:=w) (mg:=mg) (base:=base) RKnown
 have nR:=Vt (P:=l.prog) (w:=w) (mg:=mg) (base:=base) RWeaverWrite aQ bD Nx my
 have jC:=Ip (P:=l.prog) (w:=w) (mg:=mg) (base:=base) RWeaverWriteTied aQ nR jW
 have pL:=Xk (P:=l.prog) (w:=w) (mg:=mg) (base:=base) RWeaverLink aQ bL jC KR aIk aIl aIm
 have cL:=Bk (P:=l.prog) (w:=w) (mg:=mg) (base:=base) RWeaverFurtherNeeds bD aQ dB iT
 have uK:=Vu (P:=l.prog) (w:=w) (mg:=mg) (base:=base) RWeaverLeave aQ jY iK cL pL bL yM
 have Nz:=YT (P:=l.prog) (w:=w) (mg:=mg) (base:=base) RLawLeave aQ uK iT
 have Iu:=KY (P:=l.prog) (w:=w) (mg:=mg) (base:=base) RLawChange iM dZ fZ vN Qu
 have wY:=Xl (P:=l.prog) (w:=w) (mg:=mg) (base:=base) RLawNumbers iM Qu fZ iT
 have uL:=Vv (P:=l.prog) (w:=w) (mg:=mg) (base:=base) RWeaverOrder aQ iT
 have wX:=Xn (P:=l.prog) (w:=w) (mg:=mg) (base:=base) RWeaverFree aQ uJ
 have qM:=mz (P:=l.prog) (w:=w) (mg:=mg) (base:=base) RLawFree dZ iH
 have Ai:=Vw (P:=l.prog) (w:=w) (mg:=mg) (base:=base) RBenchChange bD dB
 have yO:=ni (P:=l.prog) (w:=w) (mg:=mg) (base:=base) RLawSame bD aQ Ai Iu wX wY uL qM dZ iH
 have Wa:=nj (P:=l.prog) (w:=w) (mg:=mg) (base:=base) RLawStep Dm Vx Nz yO iM rF dZ
 have vO:=Oa (P:=l.prog) (w:=w) (mg:=mg) (base:=base) RWeaverRewrite aQ bL jC cL KR yM
 have LK:=aA4 (P:=l.prog) (w:=w) (mg:=mg) (base:=base) RLawKey dZ
 have Dn:=Xp (P:=l.prog) (w:=w) (mg:=mg) (base:=base) RLawEntered qM kY pK
 have Al:=Vy (P:=l.prog) (w:=w) (mg:=mg) (base:=base) RWeaverEnter aQ cL bL jY nR jX pL dZ aIn KR yM
 have Oc:=YZ (P:=l.prog) (w:=w) (mg:=mg) (base:=base) RLawOther aQ kY vO qM LK Dn Al yO dZ
 ~aIo FL aQ bD Ob Dp Vz Iv Dq rF Wa Oc xO iT dZ (aDU κ)
end Rs
open PySem PySem.W PyProof.Rows
set_option maxRecDepth 100000 in
set_option maxHeartbeats 0 in
theorem PySem.Challenge.cw_ripestone_k28_leave_holds : PySem.Challenge.rw_ripestone_k28_leave.Holds := by
 w_on;o_law;k_head;(case hw=>w_witness2)
 k_fill
 &Rs.walk (l:=PySem.Challenge.rw_ripestone_k28_leave) rfl rfl rfl (fun w h Y=>PySem.W.kIn_of Y) ?F
 case F=>
  intro w mg h KX G
  &⟨?_,?_,?_,?_,?_,?_,?_,?_,?_,?_,?_,?_,?_,?_,?_,?_,?_,?_,?_,?_,?_,?_,?_,?_,?_,?_,?_,?_,?_,?_,?_,?_,?_,J0 KX G ?_,J0 KX G ?_,J0 KX G ?_,J0 KX G ?_,J0 KX G ?_,J0 KX G ?_,J0 KX G ?_,J0 KX G ?_,J0 KX G ?_,J0 KX G ?_,J0 KX G ?_,J0 KX G ?_,J0 KX G ?_,?_,?_,?_,?_,?_,?_,?_,?_,?_,?_⟩
  ·refine' Rs.cX (cn := "Bench") KX ?xa0 ?zz0
   (case xa0=>k_is)
   &⟨?_,?_,?_,?_,?_,?_,?_,?_,?_,?_,?_⟩
   ·refine' Rs.cF ?fa0 ?fb0 ?fc0 ?fd0 ?fe0
    (case fa0=>k_is);(case fb0=>k_is);(case fc0=>k_is);(case fd0=>k_is)
    dsimp only[Rs.jH]
    repeat' (first | &c6.mpr ⟨?_,?_⟩ | ~d6 _ | k_is)
   ·refine' Rs.rI KX G ?ix0 ?ia0 ?il0 ?ic0 ?im0 ?ik0
    (case ix0=>k_is);(case ia0=>k_is);(case il0=>k_is);(case ic0=>k_is);(case im0=>k_is);(case ik0=>k_is)
   ·refine' Rs.rM ?a ?l ?c
    (case a=>k_is);(case l=>k_is);(case c=>k_is)
   ·refine' Rs.rM ?a ?l ?c
    (case a=>k_is);(case l=>k_is);(case c=>k_is)
   ·refine' Rs.rM ?a ?l ?c
    (case a=>k_is);(case l=>k_is);(case c=>k_is)
   ·refine' Rs.rD ?a ?l ?c ?t
    (case a=>k_is);(case l=>k_is);(case c=>k_is);(case t=>k_is)
   ·refine' Rs.rM ?a ?l ?c
    (case a=>k_is);(case l=>k_is);(case c=>k_is)
   ·refine' Rs.rM ?a ?l ?c
    (case a=>k_is);(case l=>k_is);(case c=>k_is)
   ·refine' Rs.rM ?a ?l ?c
    (case a=>k_is);(case l=>k_is);(case c=>k_is)
   ·refine' Rs.rD ?a ?l ?c ?t
    (case a=>k_is);(case l=>k_is);(case c=>k_is);(case t=>k_is)
   ·refine' Rs.rM ?a ?l ?c
    (case a=>k_is);(case l=>k_is);(case c=>k_is)
  ·refine' Rs.cX (cn := "Weaver") KX ?xa1 ?zz1
   (case xa1=>k_is)
   &⟨?_,?_,?_,?_,?_,?_,?_,?_,?_,?_,?_,?_,?_,?_,?_,?_⟩
   ·refine' Rs.cF ?fa1 ?fb1 ?fc1 ?fd1 ?fe1
    (case fa1=>k_is);(case fb1=>k_is);(case fc1=>k_is);(case fd1=>k_is)
    dsimp only[Rs.dX]
    repeat' (first | &c6.mpr ⟨?_,?_⟩ | ~d6 _ | k_is)
   ·refine' Rs.rI KX G ?ix1 ?ia1 ?il1 ?ic1 ?im1 ?ik1
    (case ix1=>k_is);(case ia1=>k_is);(case il1=>k_is);(case ic1=>k_is);(case im1=>k_is);(case ik1=>k_is)
   ·refine' Rs.rM ?a ?l ?c
    (case a=>k_is);(case l=>k_is);(case c=>k_is)
   ·refine' Rs.rM ?a ?l ?c
    (case a=>k_is);(case l=>k_is);(case c=>k_is)
   ·refine' Rs.rM ?a ?l ?c
    (case a=>k_is);(case l=>k_is);(case c=>k_is)
   ·refine' Rs.rM ?a ?l ?c
    (case a=>k_is);(case l=>k_is);(case c=>k_is)
   ·refine' Rs.rM ?a ?l ?c
    (case a=>k_is);(case l=>k_is);(case c=>k_is)
   ·refine' Rs.rM ?a ?l ?c
    (case a=>k_is);(case l=>k_is);(case c=>k_is)
   ·refine' Rs.rM ?a ?l ?c
    (case a=>k_is);(case l=>k_is);(case c=>k_is)
   ·refine' Rs.rM ?a ?l ?c
    (case a=>k_is);(case l=>k_is);(case c=>k_is)
   ·refine' Rs.rM ?a ?l ?c
    (case a=>k_is);(case l=>k_is);(case c=>k_is)
   ·refine' Rs.rD ?a ?l ?c ?t
    (case a=>k_is);(case l=>k_is);(case c=>k_is);(case t=>k_is)
   ·refine' Rs.rM ?a ?l ?c
    (case a=>k_is);(case l=>k_is);(case c=>k_is)
   ·refine' Rs.rM ?a ?l ?c
    (case a=>k_is);(case l=>k_is);(case c=>k_is)
   ·refine' Rs.rD ?a ?l ?c ?t
    (case a=>k_is);(case l=>k_is);(case c=>k_is);(case t=>k_is)
   ·refine' Rs.rD ?a ?l ?c ?t
    (case a=>k_is);(case l=>k_is);(case c=>k_is);(case t=>k_is)
  iterate 31
   ·refine' Rs.aLh KX G ?a ?l ?c
    (case a=>k_is);(case l=>k_is);(case c=>k_is)
  iterate 13
   ·k_is
  ·refine' L2.oM KX G ?a
   (case a=>k_is)
  ·refine' L2.oM KX G ?a
   (case a=>k_is)
  ·refine' L2.oM KX G ?a
   (case a=>k_is)
  ·refine' L2.oM KX G ?a
   (case a=>k_is)
  ·refine' L2.oM KX G ?a
   (case a=>k_is)
  ·refine' L2.oM KX G ?a
   (case a=>k_is)
  ·refine' L2.oM KX G ?a
   (case a=>k_is)
  ·refine' L2.oM KX G ?a
   (case a=>k_is)
  ·refine' L2.oM KX G ?a
   (case a=>k_is)
  ·refine' L2.oM KX G ?a
   (case a=>k_is)
#print axioms PySem.Challenge.cw_ripestone_k28_leave_holds
